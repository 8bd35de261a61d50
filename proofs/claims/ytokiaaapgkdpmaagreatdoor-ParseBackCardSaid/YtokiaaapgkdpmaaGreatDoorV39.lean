/- Parts of the proof: PsN, PsO, PsP, PsQ, PsR, PcF, PcG. Conditions: each theorem's own. -/
import Derived.Test.YtokiaaapgkdpmaaGreatDoorV37
import Derived.Test.YtokiaaapgkdpmaaGreatDoorV38
namespace Go.Proofs.YtokiaaapgkdpmaaGreatDoor
set_option linter.unusedVariables false
set_option linter.unusedSimpArgs false
set_option maxRecDepth 100000
set_option maxHeartbeats 40000000
section
open Go.RowKit Go.Sort
def toksL(s:ByteArray):List Tk:=(lexL 0 s.data.toList).1++[⟨6,[],0,s.size⟩]
def tokAt(all:List Tk) (k:Int):Tk:=all[k.toNat]?.getD default
def exprO(N:Nat) (s:ByteArray):Ex × Int × Int:=
 if 6000<s.size then(noneX,6000,3)
 else match (lexL 0 s.data.toList).2 with
  | some p=>(noneX,(p:Int),2)
  | none=>if(partO N (toksL s) 0).2.2=0 then
   if(tokAt (toksL s) (partO N (toksL s) 0).2.1).k=6 then((partO N (toksL s) 0).1,(s.size:Int),0) else(noneX,((tokAt (toksL s) (partO N (toksL s) 0).2.1).a:Int),2)
   else(noneX,((tokAt (toksL s) (partO N (toksL s) 0).2.1).a:Int),(partO N (toksL s) 0).2.2)
section
variable {w w':World}
def ExprV(z:Ex × Int × Int) (e:Ending) (w':World):Prop:=
 ∃ A1 ca B1 cb,e=.returned (.tuple #[.agg (exA z.1 A1 ca B1 cb),.int .i64 z.2.1,.int .i64 z.2.2])∧rdX w' z.1 A1 B1
theorem tok_apart{b0 off n g:Nat}{all:List Tk}{x:Ex}{A1:Option Addr}{ca:Nat}{B1:Option Addr}{cb:Nat}(h:RdK w (some ⟨b0,off,none⟩) n all) (hn:0<n) (hr:RowX w g x A1 ca B1 cb):g≠b0:=by
 rintro rfl;obtain⟨b,o,e,_,hc⟩:=h.2.2 hn;injection e with e;injection e with e1 e2;subst e1 e2;obtain⟨_,h1,_,h3⟩:=hc 0 hn
 have hcell:∀ j v,w.cell? ⟨g,j,none⟩=some v→(exA x A1 ca B1 cb)[j]?=some v:=fun j v hv=>by
  unfold World.cell? at hv;rw [show w.heap[g]?=_ from hr] at hv
  simpa using hv
 have g1:=hcell _ _ h1;have g3:=hcell _ _ h3
 match off,g1,g3 with
 | 0,g1,g3=>simp [exA] at g1
 | 1,g1,g3=>simp [exA] at g3
 | 2,g1,g3=>simp [exA] at g1
 | 3,g1,g3=>simp [exA] at g1
 | 4,g1,g3=>simp [exA] at g1
 | k+5,g1,g3=>simp [exA] at g1
theorem exprO_eq{N:Nat}{s:ByteArray}(hs:s.size≤6000) (hp:(lexL 0 s.data.toList).2=none):
 exprO N s=if(partO N (toksL s) 0).2.2=0 then if(tokAt (toksL s) (partO N (toksL s) 0).2.1).k=6 then((partO N (toksL s) 0).1,(s.size:Int),0) else(noneX,((tokAt (toksL s) (partO N (toksL s) 0).2.1).a:Int),2) else(noneX,((tokAt (toksL s) (partO N (toksL s) 0).2.1).a:Int),(partO N (toksL s) 0).2.2):=by
 unfold exprO;rw [if_neg (by omega),hp]
theorem expr_long(N:Nat) (s:ByteArray) (hs:s.size≤9223372036854775807) (h:6000<s.size):
 Calls Tryz.prog 7 #[.string s] w fun e w'=>Below w.heap.size w w'∧ExprV (exprO N s) e w':=by
 have HA:=Hd fun w1=>lxAll_long s 6000 w1 hs (by omega);unfold exprO;rw [if_pos h];clear h
 go_enter Tryz.func7,Tryz.ntmps7
 go_wp2_with fail
 generalize hw0:w.alloc _=w0;have HB0:=Hd (show Below w.heap.size w w0 by rw [← hw0];exact(Below.refl _ _).alloc (Nat.le_refl _) _);have HR0:=Hd (show RowX w0 w.heap.size noneX none 0 none 0 by rw [← hw0];exact heap_alloc_new _ _);clear hw0;refine(HA.out w0).mono ?_;rintro e w1 ⟨rfl,rfl⟩
 go_wp2_with (first | (refine wpList_store_row rfl _ _ _ rfl (w.heap.size) _ rfl rfl _ _ (HR0.out) ex_info rfl (by simp [exA,Value.oneCell']) ?_))
 exact bodyPost_ret (res_ex3 (p:=2) (u:=3) (v:=4) rfl _ _ (w.heap.size) rfl (HR0.out.set (y:=noneX) (A2:=none) (ca2:=0) (B2:=none) (cb2:=0))) rfl ⟨below_setRow_ HB0.out (Nat.le_refl _) _,_,_,_,_,rfl,rdX_none _⟩
theorem expr_bad(N:Nat) (s:ByteArray) (hs:s.size≤6000) (hv:Vars w){p:Nat}(hp:(lexL 0 s.data.toList).2=some p):
 Calls Tryz.prog 7 #[.string s] w fun e w'=>Below w.heap.size w w'∧ExprV (exprO N s) e w':=by
 have HA:=Hd fun w1 (h1:Below w.heap.size w w1)=>lxAll s 6000 w1 (by omega) (by omega) (hv.below h1);unfold exprO;rw [if_neg (by omega),hp];have HP:=Hd hp;clear hp hv
 go_enter Tryz.func7,Tryz.ntmps7
 go_wp2_with fail
 generalize hw0:w.alloc _=w0;have HB0:=Hd (show Below w.heap.size w w0 by rw [← hw0];exact(Below.refl _ _).alloc (Nat.le_refl _) _);have HR0:=Hd (show RowX w0 w.heap.size noneX none 0 none 0 by rw [← hw0];exact heap_alloc_new _ _);clear hw0;refine(HA.out w0 HB0.out).mono ?_;rintro e w1 ⟨hans,hb1⟩;have HB1:=Hd (HB0.out.trans (hb1.mono HB0.out.size));have HR1:=Hd (show RowX w1 w.heap.size noneX none 0 none 0 from(hb1.block _ HR0.out.lt).trans HR0.out);clear hb1;rcases hans with⟨p2,h2,rfl⟩|⟨h2,_⟩
 · rw [HP.out] at h2;injection h2 with h2;subst h2
   go_wp2_with (first | (refine wpList_store_row rfl _ _ _ rfl (w.heap.size) _ rfl rfl _ _ (HR1.out) ex_info rfl (by simp [exA,Value.oneCell']) ?_))
   exact bodyPost_ret (res_ex3 (p:=2) (u:=3) (v:=4) rfl _ _ (w.heap.size) rfl (HR1.out.set (y:=noneX) (A2:=none) (ca2:=0) (B2:=none) (cb2:=0))) rfl ⟨below_setRow_ HB1.out (Nat.le_refl _) _,_,_,_,_,rfl,rdX_none _⟩
 · rw [HP.out] at h2
   cases h2
theorem expr_read(N:Nat) (s:ByteArray) (hs:s.size≤6000) (hv:Vars w) (hp:(lexL 0 s.data.toList).2=none) (hN:6001≤N) (hsh:∀ x r1,(psN N).ar ((toksL s).drop 0)=.ok x r1→sizeX x≤60→∀ p∈partsX x,ShortP p) (ht:∀ t∈toksL s,TkOK t) (hlen:(toksL s).length≤6001) (hr:0≤(partO N (toksL s) 0).2.1∧(partO N (toksL s) 0).2.1<((toksL s).length:Int)):
 Calls Tryz.prog 7 #[.string s] w fun e w'=>Below w.heap.size w w'∧ExprV (exprO N s) e w':=by
 have HA:=Hd fun w1 (h1:Below w.heap.size w w1)=>lxAll s 6000 w1 (by omega) (by omega) (hv.below h1);have HEQ:=Hd (exprO_eq (N:=N) (by omega:s.size≤6000) hp);have HP:=Hd hp;have HPA:=Hd fun(w1:World) (A:Option Addr) (c:Nat) (hR:RdK w1 A (toksL s).length (toksL s))=>paPart (c:=c) N 0 hR ht (by omega) (by omega) (by decide) hsh;clear hp hv hsh ht
 go_enter Tryz.func7,Tryz.ntmps7
 go_wp2_with fail
 generalize hw0:w.alloc _=w0;have HB0:=Hd (show Below w.heap.size w w0 by rw [← hw0];exact(Below.refl _ _).alloc (Nat.le_refl _) _);have HR0:=Hd (show RowX w0 w.heap.size noneX none 0 none 0 by rw [← hw0];exact heap_alloc_new _ _);clear hw0;refine(HA.out w0 HB0.out).mono ?_;rintro e w1 ⟨hans,hb1⟩;have HB1:=Hd (HB0.out.trans (hb1.mono HB0.out.size));have HR1:=Hd (show RowX w1 w.heap.size noneX none 0 none 0 from(hb1.block _ HR0.out.lt).trans HR0.out);clear hb1;rcases hans with⟨p2,h2,rfl⟩|⟨h2,A,c,rfl,hR⟩
 · rw [HP.out] at h2
   cases h2
 · rw [show(lexL 0 s.data.toList).1.length+1=(toksL s).length by simp [toksL]] at hR ⊢;have HRK:=Hd (show RdK w1 A (toksL s).length (toksL s) from hR);have HPP:=Hd (HPA.out w1 A c hR);clear hR;unfold PartV at HPP;generalize hz:partO N (toksL s) 0=z at *;generalize hall:toksL s=all at *;have HAL:=Hd hall;have HZZ:=Hd hz;clear hz hall;obtain⟨x,k,f⟩:=z;simp only at hr HEQ ⊢
   go_wp2_with fail
   refine HPP.out.mono ?_;rintro e w2 ⟨hb2,A1,ca,B1,cb,rfl,hrd⟩;have HB2:=Hd (HB1.out.trans (hb2.mono HB1.out.size));have HR2:=Hd (show RowX w2 w.heap.size noneX none 0 none 0 from(hb2.block _ HR1.out.lt).trans HR1.out);have HRK2:=Hd (HRK.out.stay hb2);have HGL:=Hd HR1.out.lt;have HRD2:=Hd hrd;clear hb2 hrd;unfold exA
   go_upto_region 5 with(fail)
   have hal:=(Below.refl w2.heap.size w2).alloc (Nat.le_refl _) (.cells (exA x A1 ca B1 cb) 26);have HE3:=Hd (show RowX (w2.alloc (.cells (exA x A1 ca B1 cb) 26)) w2.heap.size x A1 ca B1 cb from heap_alloc_new _ _);have HR3:=Hd (show RowX (w2.alloc (.cells (exA x A1 ca B1 cb) 26)) w.heap.size noneX none 0 none 0 from(hal.block _ HR2.out.lt).trans HR2.out);have HB3:=Hd (HB2.out.trans (hal.mono HB2.out.size));have HRD3:=Hd (rdX_blM HRD2.out hal.size (fun k _ hk=>hal.block k hk));have HRK3:=Hd (HRK2.out.stay hal);have hge:w.heap.size≠w2.heap.size:=by have:=HR2.out.lt;omega
   unfold exA at HE3 HR3 HB3 HRD3 HRK3;clear hal;generalize w2.alloc _=w3 at *;generalize w2.heap.size=eb at *;obtain⟨kk,rfl⟩:∃ kk:Nat,k=(kk:Int):=⟨k.toNat,by omega⟩;have hkl:kk<all.length:=by omega
   obtain⟨b0,off,rfl,hb0,hcs⟩:=HRK3.out.2.2 (by omega);obtain⟨t0,t1,t2,t3⟩:=hcs kk hkl;have HEQ2:=Hd (show exprO N s=if f=0 then if(all[kk]?.getD default).k=6 then(x,(s.size:Int),0) else(noneX,((all[kk]?.getD default).a:Int),2) else(noneX,((all[kk]?.getD default).a:Int),f) from HEQ.out);generalize (all[kk]?.getD default).k=tkk at *;have HAP:=Hd (tok_apart HRK3.out (by omega) HR3.out);clear hcs t1 t2 HEQ;generalize ((all[kk]?.getD default).a:Int)=ta at *;have hmx:=HRK3.out.2.1;have hk0:(0:Int)≤(kk:Int):=by omega
   have hk1:(kk:Int)<(all.length:Int):=by omega
   generalize all.length=n at *
   by_cases hf:f=0
   · subst hf
     by_cases hk:tkk=6
     · subst hk
       go_wp2_with (first | (refine wpList_load_row rfl _ _ rfl (eb) rfl _ _ _ _ (HE3.out) Tryz.underlying26 rfl ex_info ?_) | (refine wpList_store_row rfl _ _ _ rfl (w.heap.size) _ rfl rfl _ _ (HR3.out) ex_info rfl (by simp [exA,Value.oneCell']) ?_))
       refine bodyPost_ret (res_ex3 (p:=2) (u:=3) (v:=4) rfl _ _ (w.heap.size) rfl (HR3.out.set (y:=x) (A2:=A1) (ca2:=ca) (B2:=B1) (cb2:=cb))) rfl ⟨below_setRow_ HB3.out (Nat.le_refl _) _,?_⟩;rw [show exprO N s=(x,(s.size:Int),0) from HEQ2.out.trans (by simp)];exact⟨_,_,_,_,rfl,rdX_of_blM (rdX_blM HRD3.out (by rw [setRow_size];exact Nat.le_refl _) (fun k hk _=>setRow_other _ _ _ _ (fun e=>hk ⟨by rw [e];exact HGL.out,by rw [e];exact HAP.out⟩)))⟩
     · have hk2:(tkk != 6)=true:=by simpa using hk
       have HKK:=Hd hk;clear hk;obtain⟨d0,d1,d2,d3,d4,d5⟩:=HR3.out.cells;have f0:=HR3.out.fz 0;have f1:=HR3.out.fz 1;have f2:=HR3.out.fz 2;have f3:=HR3.out.fz 3;have f4:=HR3.out.fz 4;have f5:=HR3.out.fz 5;have hl:=HR3.out.lt;have hap:=HAP.out;have hap2:b0≠w.heap.size:=Ne.symm hap;unfold noneX at d0 d1 d2 d3 d4 d5;simp only [Ex.k,Ex.n,Ex.s,Ex.op,Ex.arms,Ex.subs,List.length_nil] at d0 d1 d2 d3 d4 d5
       go_upto_region 8 with(fail)
       go_region
       have hsx:=six_set HR3.out noneX none 0 none 0;unfold noneX at hsx;simp only [Ex.k,Ex.n,Ex.s,Ex.op,Ex.arms,Ex.subs,List.length_nil] at hsx;have hsy:(⟨#[]⟩:ByteArray)=ByteArray.empty:=rfl;simp only [hsy] at *;rw [hsx];clear hsx d0 d1 d2 d3 d4 d5 f0 f1 f2 f3 f4 f5;have HR4:=Hd (show RowX (w3.setRow w.heap.size (exA noneX none 0 none 0)).drew w.heap.size noneX none 0 none 0 from HR3.out.set);have HB4:=Hd (show Below w.heap.size w (w3.setRow w.heap.size (exA noneX none 0 none 0)).drew from(below_setRow_ HB3.out (Nat.le_refl _) _).drew);unfold noneX at HR4 HB4;generalize (w3.setRow w.heap.size _).drew=w4 at *
       go_wp2_with fail
       refine bodyPost_ret (res_ex3 (p:=2) (u:=3) (v:=4) rfl _ _ (w.heap.size) rfl HR4.out) rfl ⟨HB4.out,?_⟩;rw [show exprO N s=(noneX,ta,2) from HEQ2.out.trans (by simp [HKK.out])];exact⟨none,0,none,0,rfl,rdX_none _⟩
   · have hf2:(f==0)=false:=by simpa using hf
     have HFF:=Hd hf;clear hf;obtain⟨d0,d1,d2,d3,d4,d5⟩:=HR3.out.cells;have f0:=HR3.out.fz 0;have f1:=HR3.out.fz 1;have f2:=HR3.out.fz 2;have f3:=HR3.out.fz 3;have f4:=HR3.out.fz 4;have f5:=HR3.out.fz 5;have hl:=HR3.out.lt;have hap:=HAP.out;have hap2:b0≠w.heap.size:=Ne.symm hap;unfold noneX at d0 d1 d2 d3 d4 d5;simp only [Ex.k,Ex.n,Ex.s,Ex.op,Ex.arms,Ex.subs,List.length_nil] at d0 d1 d2 d3 d4 d5
     go_upto_region 6 with(fail)
     go_region
     have hsx:=six_set HR3.out noneX none 0 none 0;unfold noneX at hsx;simp only [Ex.k,Ex.n,Ex.s,Ex.op,Ex.arms,Ex.subs,List.length_nil] at hsx;have hsy:(⟨#[]⟩:ByteArray)=ByteArray.empty:=rfl;simp only [hsy] at *;rw [hsx];clear hsx d0 d1 d2 d3 d4 d5 f0 f1 f2 f3 f4 f5;have HR4:=Hd (show RowX (w3.setRow w.heap.size (exA noneX none 0 none 0)).drew w.heap.size noneX none 0 none 0 from HR3.out.set);have HB4:=Hd (show Below w.heap.size w (w3.setRow w.heap.size (exA noneX none 0 none 0)).drew from(below_setRow_ HB3.out (Nat.le_refl _) _).drew);unfold noneX at HR4 HB4;generalize (w3.setRow w.heap.size _).drew=w4 at *
     go_wp2_with fail
     refine bodyPost_ret (res_ex3 (p:=2) (u:=3) (v:=4) rfl _ _ (w.heap.size) rfl HR4.out) rfl ⟨HB4.out,?_⟩;rw [show exprO N s=(noneX,ta,f) from HEQ2.out.trans (by simp [HFF.out])];exact⟨none,0,none,0,rfl,rdX_none _⟩
end
end
section
open Go.RowKit Go.Sort
theorem toks_good(s:ByteArray):(∀ t∈toksL s,TkOK t∧t.s.length≤s.size+6)∧(toksL s).length≤s.size+1∧EndR (toksL s):=by
 obtain⟨h1,h2⟩:=lex_good s.size 0 s.data.toList (Nat.le_refl _);have h3:s.data.toList.length=s.size:=rfl;refine⟨fun t ht=>?_,by simp only [toksL,List.length_append,List.length_cons,List.length_nil];omega,⟨_,_,rfl,rfl⟩⟩;rcases List.mem_append.1 ht with ht | ht
 · obtain⟨g1,g2,_⟩:=h1 t ht;exact⟨g1,by omega⟩
 · rw [List.mem_singleton.1 ht];exact⟨⟨fun e=>by simp at e,fun e=>by simp at e⟩,Nat.zero_le _⟩
theorem toks_te(s:ByteArray):TE (s.size+6) (toksL s):=⟨fun t ht=>((toks_good s).1 t ht).2,(toks_good s).2.2⟩
theorem endR_pos{r:List Tk}(h:EndR r):1≤r.length:=by
 obtain⟨q,z,rfl,_⟩:=h
 simp
theorem end_begins{all:List Tk}(h:EndR all):beginsB all 0=true:=by
 have hp:=endR_pos h;obtain⟨q,z,rfl,hz⟩:=h
 simp [beginsB,hz]
theorem partO_range{N:Nat}{all:List Tk}{M:Nat}(hM:5≤M) (h:TE M all) (hN:all.length≤N):0≤(partO N all 0).2.1∧(partO N all 0).2.1<(all.length:Int):=by
 have hp:=endR_pos h.2;have hb:=end_begins h.2
 cases hq:(psN N).ar (all.drop (0:Int).toNat) with
 | bad q=>
  rw [partO_bad hb hq];have:=endR_pos (read_bad hM (show TE M (all.drop (0:Int).toNat) from h) hN hq)
  show(0:Int)≤((all.length-q.length:Nat):Int)∧((all.length-q.length:Nat):Int)<(all.length:Int)
  omega
 | ok x r1=>
  have he:EndR r1:=by
   obtain⟨k,hk⟩:=machine_ends (r:=all) (n:=N) h.2 hN;obtain⟨o,ho⟩:=ends_some hk;have hq2:(psN N).ar all=.ok x r1:=hq;rw [hq2] at ho;obtain⟨_,_,he,_⟩:=ho;exact he
  have:=endR_pos he
  by_cases hx:60<sizeX x∨12<depthX x
  · rw [partO_long hb hq hx]
    show(0:Int)≤0∧(0:Int)<(all.length:Int)
    omega
  · cases hr:rightX x with
    | false=>
     rw [partO_arg hb hq hx hr]
     show(0:Int)≤0∧(0:Int)<(all.length:Int)
     omega
    | true=>
     rw [partO_ok hb hq hx hr]
     show(0:Int)≤((all.length-r1.length:Nat):Int)∧((all.length-r1.length:Nat):Int)<(all.length:Int)
     omega
theorem paExpr{w:World}(N:Nat) (s:ByteArray) (hs:s.size≤9223372036854775807) (hv:Vars w) (hN:6001≤N) (hsh:s.size≤6000→∀ x r1,(psN N).ar (toksL s)=.ok x r1→sizeX x≤60→∀ p∈partsX x,ShortP p):
 Calls Tryz.prog 7 #[.string s] w fun e w'=>Below w.heap.size w w'∧ExprV (exprO N s) e w':=by
 by_cases hl:6000<s.size
 · exact expr_long N s hs hl
 · have hl':s.size≤6000:=by omega
   cases hp:(lexL 0 s.data.toList).2 with
   | some p=>exact expr_bad N s hl' hv hp
   | none=>
    obtain⟨h1,h2,h3⟩:=toks_good s;have ht:∀ t∈toksL s,TkOK t:=fun t ht=>(h1 t ht).1;have hlen:(toksL s).length≤6001:=by omega
    have hr:=partO_range (N:=N) (by omega) (toks_te s) (by omega);exact expr_read N s hl' hv hp hN (hsh hl') ht hlen hr
theorem short_text{N:Nat}{s:ByteArray}(hs:s.size≤900) (hN:901≤N):∀ x r1,(psN N).ar (toksL s)=.ok x r1→sizeX x≤60→∀ p∈partsX x,ShortP p:=fun x r1 h hz=>
 read_short (M:=s.size+6) (by omega) (by omega) (toks_te s) (by have:=(toks_good s).2.1;omega) h hz
end
section
open Go.RowKit Go.Sort
section
variable {w w1 w2 w':World}{b:Nat}{A:Option Addr}{n c:Nat}{all r r' r2:List Tk}{va va1 vp:Value}{st:List Value}{ps:List Ex}{sz:Nat}{L L1 L2 S ft:List Nat}
def BoxS(w:World) (p:Nat) (s:ByteArray):Prop:=w.heap[p]?=some (.cells #[.string s] 9)
theorem BoxS.cell{p:Nat}{s:ByteArray}(h:BoxS w p s):w.cell? ⟨p,0,none⟩=some (.string s):=cell_of h 0 _ rfl
theorem BoxS.fz{p:Nat}{s:ByteArray}(h:BoxS w p s):w.frozen? ⟨p,0,none⟩=false:=by
 unfold World.frozen?;rw [show w.heap[p]?=_ from h];rfl
end
end
section
open Go.RowKit Go.Sort
section
variable {w w0 w1 w2 w':World}{b:Nat}{A:Option Addr}{n c:Nat}{all r r' r2:List Tk}{va va1 vp:Value}{st:List Value}{ps:List Ex}{sz:Nat}{L L1 L2 S ft:List Nat}
theorem BoxS.set{p:Nat}{s:ByteArray}(h:BoxS w p s) (t:ByteArray):BoxS (w.setCell ⟨p,0,none⟩ (.string t)) p t:=by
 unfold BoxS;rw [setCell_eq_setRow _ _ _ _ _ _ _ h,setRow_heap _ _ _ _ _ _ h];rfl
theorem BoxS.other{p q:Nat}{s:ByteArray}(h:BoxS w p s) (hn:p≠q) (v:Value):BoxS (w.setCell ⟨q,0,none⟩ v) p s:=(heap_setCell_other _ _ _ _ hn).trans h
theorem BoxS.stay{p:Nat}{s:ByteArray}(h:BoxS w p s) (ht:Tn S L L1 w w1) (hn:p∉S):BoxS w1 p s:=(ht.block p (Array.getElem?_eq_some_iff.1 h).1 hn).trans h
end
end
section
open Go.RowKit Go.Sort
section
variable {w w':World}{A:Option Addr}{n c:Nat}{all:List Tk}
end
end
section
open Go.RowKit Go.Sort
section
variable {w w':World}{A:Option Addr}{n c:Nat}{all:List Tk}
end
end
section
open Go.RowKit Go.Sort
section
variable {w w':World}
end
end
end Go.Proofs.YtokiaaapgkdpmaaGreatDoor
