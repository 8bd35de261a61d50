/- Parts: PsJ. Conditions: each theorem's own. -/
import Derived.Test.YtokiaaapgkdpmaaGreatDoorU25
import Derived.Test.YtokiaaapgkdpmaaGreatDoorU38
namespace Go.Proofs.YtokiaaapgkdpmaaGreatDoor
set_option linter.unusedVariables false
set_option linter.unusedSimpArgs false
set_option maxRecDepth 100000
set_option maxHeartbeats 40000000
section
open Go.RowKit Go.Sort
def noneX:Ex:=.mk 0 0 ByteArray.empty 0 [] []
def partO(N:Nat)(all:List Tk)(at_:Int):Ex × Int × Int:=
 if beginsB all at_=true then
  match (psN N).ar (all.drop at_.toNat) with
  | .bad q=>(noneX,((all.length-q.length:Nat):Int),2)
  | .ok x r1=>if 60<sizeX x∨12<depthX x then(noneX,at_,3) else if rightX x=false then(noneX,at_,1) else(x,((all.length-r1.length:Nat):Int),0)
 else(noneX,0,1)
section
variable {w w':World}{A:Option Addr}{n c:Nat}{all:List Tk}
theorem begins_end{at_:Int}(h:beginsB all at_=true):0≤at_∧at_<(all.length:Int)∧EndR (all.drop at_.toNat)∧(all.drop at_.toNat).length=all.length-at_.toNat:=by
 simp only[beginsB,Bool.and_eq_true,decide_eq_true_eq,beq_iff_eq] at h;obtain⟨h0,h1,h2⟩:=h;refine⟨h0,h1,?_,by simp⟩;have hlt:at_.toNat<all.length:=by omega
 have hne:all.drop at_.toNat≠[]:=fun e=>by
  have:=congrArg List.length e
  simp at this
  omega
 refine⟨(all.drop at_.toNat).dropLast,(all.drop at_.toNat).getLast hne,(List.dropLast_concat_getLast hne).symm,?_⟩;rw[List.getLast_drop];rw[List.getLast_eq_getElem];rw[List.getElem?_eq_getElem (by omega)] at h2;exact h2
def blkA:Option Addr→Nat
 | some a=>a.block
 | none=>0
def oldL(b0 m:Nat):List Nat:=m::(List.range m).filter (fun k=>decide (k≠b0))
theorem mem_oldL{b0 m k:Nat}:k∈oldL b0 m↔k=m∨(k<m∧k≠b0):=by simp[oldL]
theorem mem_new(h:RdK w A n all)(ht:∀ t∈all,TkOK t){at_:Int}(hb:beginsB all at_=true):Mem (w.alloc (.cells (rdA (.slice A n c) at_ (.slice none 0 0) (.slice none 0 0) 0) 60)) w.heap.size A n c all (all.drop at_.toNat) (.slice none 0 0) [] (.slice none 0 0) [] 0 (oldL (blkA A) w.heap.size):=by
 obtain⟨h0,h1,h2,h3⟩:=begins_end hb;have hl:=h.1;refine⟨?_,⟨h.1,h.2.1,fun hn=>?_⟩,?_,?_,h2,ht,⟨rfl,.inl ⟨rfl,rfl⟩⟩,⟨[],⟨rfl,.inl ⟨rfl,rfl⟩⟩,rfl⟩,mem_oldL.2 (.inl rfl),fun k hk=>(by cases hk),fun k hk=>(by cases hk),fun k hk=>?_⟩
 · rw[heap_alloc_new,h3,show((n-(all.length-at_.toNat):Nat):Int)=at_ by omega]
 · obtain⟨b,off,e,hlt,hc⟩:=h.2.2 hn
   have hni:b∉oldL (blkA A) w.heap.size:=fun hk=>by
    rw[e] at hk;rcases mem_oldL.1 hk with hk | hk
    · omega
    · exact hk.2 rfl
   have hup:∀ o v,w.cell? ⟨b,o,none⟩=some v→(bls (oldL (blkA A) w.heap.size) (w.alloc (.cells (rdA (.slice A n c) at_ (.slice none 0 0) (.slice none 0 0) 0) 60))).cell? ⟨b,o,none⟩=some v:=fun o v hv=>by
    rw[bls_cell (p:=⟨b,o,none⟩) hni];exact(World.cell?_alloc_lt _ _ _ hlt).trans hv
   exact⟨b,off,e,by rw[bls_size];simp;omega,fun i hi=>⟨hup _ _ (hc i hi).1,hup _ _ (hc i hi).2.1,hup _ _ (hc i hi).2.2.1,hup _ _ (hc i hi).2.2.2⟩⟩
 · rw[h3];omega
 · rw[h3,show n-(all.length-at_.toNat)=at_.toNat by omega]
 · rcases mem_oldL.1 hk with hk | hk
   · rw[hk];simp
   · simp;omega
def PartV(B b0 N:Nat)(all:List Tk)(at_:Int)(e:Ending)(w':World):Prop:=
 ∃ A1 ca B1 cb,e=.returned (.tuple #[.agg (exA (partO N all at_).1 A1 ca B1 cb),.int .i64 (partO N all at_).2.1,.int .i64 (partO N all at_).2.2])∧rdX (blM B b0 w') (partO N all at_).1 A1 B1
theorem rdX_none(w:World):rdX w noneX none none:=by
 simp only[noneX,rdX];exact⟨RdT.nil_ _,by simp,fun h=>by simp at h⟩
theorem res_ex3{fn:Func}{p u v:Tmp}(h:fn.results=#[.cell p 26,.tmp u,.tmp v])(tmps:Array Value)(w:World)(g:Nat){x:Ex}{A1:Option Addr}{ca1:Nat}{B1:Option Addr}{cb1:Nat}
 (hp:tmps.getD p undef=.pointer (some ⟨g,0,none⟩)) (hg:RowX w g x A1 ca1 B1 cb1):(results fn tmps).run Tryz.prog w=.ok (.tuple #[.agg (exA x A1 ca1 B1 cb1),tmps.getD u undef,tmps.getD v undef]) w:=by
 rw[results_cell_tmp2 h,hp];have hl:=run_loadVar_row (P:=Tryz.prog) w g 26 26 _ _ _ hg Tryz.underlying26 rfl ex_info
 simp[asAddr,Result.andThen,hl]
theorem below_setRow_{m g:Nat}{w w1:World}(h:Below m w w1)(hm:m≤g)(cs:Array Value):Below m w (w1.setRow g cs):=
 ⟨h.os,h.tape,h.output,by rw[setRow_size];exact h.size,fun k hk=>(setRow_other _ _ _ _ (by omega)).trans (h.block k hk)⟩
theorem RdK.stay(h:RdK w A n all){w1:World}(h1:Below w.heap.size w w1):RdK w1 A n all:=h.up h1.size (fun p v hc=>(h1.cell (World.block_lt_of_cell? _ _ hc)).trans hc)
theorem partO_none{N:Nat}{at_:Int}(hb:beginsB all at_=false):partO N all at_=(noneX,0,1):=by simp[partO,hb]
theorem partO_bad{N:Nat}{at_:Int}{q:List Tk}(hb:beginsB all at_=true)(hp:(psN N).ar (all.drop at_.toNat)=.bad q):partO N all at_=(noneX,((all.length-q.length:Nat):Int),2):=by simp only[partO,hb,if_true,hp]
theorem partO_long{N:Nat}{at_:Int}{x:Ex}{r1:List Tk}(hb:beginsB all at_=true)(hp:(psN N).ar (all.drop at_.toNat)=.ok x r1)(hx:60<sizeX x∨12<depthX x):partO N all at_=(noneX,at_,3):=by simp only[partO,hb,if_true,hp,if_pos hx]
theorem partO_arg{N:Nat}{at_:Int}{x:Ex}{r1:List Tk}(hb:beginsB all at_=true)(hp:(psN N).ar (all.drop at_.toNat)=.ok x r1)(hx:¬ (60<sizeX x∨12<depthX x))(hr:rightX x=false):partO N all at_=(noneX,at_,1):=by simp only[partO,hb,if_true,hp,if_neg hx,hr]
theorem partO_ok{N:Nat}{at_:Int}{x:Ex}{r1:List Tk}(hb:beginsB all at_=true)(hp:(psN N).ar (all.drop at_.toNat)=.ok x r1)(hx:¬ (60<sizeX x∨12<depthX x))(hr:rightX x=true):partO N all at_=(x,((all.length-r1.length:Nat):Int),0):=by
 simp only[partO,hb,if_true,hp,if_neg hx,hr]
 simp
theorem b0_ne{at_:Int}(h:RdK w A n all)(hb:beginsB all at_=true):w.heap.size≠blkA A:=by
 obtain⟨h0,h1,_,_⟩:=begins_end hb;have hl:=h.1;obtain⟨b,off,e,hlt,_⟩:=h.2.2 (by omega);rw[e]
 show w.heap.size≠b
 omega
theorem part_whole{N:Nat}{at_:Int}(h:RdK w A n all)(ht:∀ t∈all,TkOK t)(hn:all.length≤10000)(hN:all.length≤N)(hb:beginsB all at_=true)(w1:World)(h1:Below w.heap.size w w1):
 Calls Tryz.prog 24 #[rp w1.heap.size,lvV w1.heap.size .arrow] (w1.alloc (.cells (rdA (.slice A n c) at_ (.slice none 0 0) (.slice none 0 0) 0) 60)) fun e w'=>Below w1.heap.size w1 w'∧match (psN N).ar (all.drop at_.toNat) with
  | .ok x r1=>e=.returned (.bool true)∧EndR r1∧r1.length<(all.drop at_.toNat).length∧WholeOk w1.heap.size (blkA A) w' w1.heap.size A n c x r1
  | .bad q=>e=.returned (.bool false)∧WholeBad w' w1.heap.size A n c q:=by
 obtain⟨h0,h2,h3,h4⟩:=begins_end hb;refine(rrReads (m:=w1.heap.size) (b0:=blkA A) (N:=N) (by omega) (mem_new (h.stay h1) ht hb) (by omega) (Nat.le_refl _) rfl rfl (fun j hj hj0=>mem_oldL.2 (.inr ⟨hj,hj0⟩)) (by simp)).mono ?_;intro e w' ⟨hbl,hx⟩;exact⟨((Below.refl _ _).alloc (Nat.le_refl _) _).trans hbl,hx⟩
theorem part_none(N:Nat)(at_:Int)(h:RdK w A n all)(ht:∀ t∈all,TkOK t)(hn:all.length≤10000)(hN:all.length≤N)(ha:-9223372036854775808≤at_∧at_≤9223372036854775807)(hb:beginsB all at_=false):
 Calls Tryz.prog 12 #[.slice A n c,.int .i64 at_] w fun e w'=>Below w.heap.size w w'∧PartV w.heap.size (blkA A) N all at_ e w':=by
 unfold PartV;rw[partO_none hb];have HB:=Hd fun w1 (h1:Below w.heap.size w w1)=>paBegins (w:=w1) (c:=c) at_ (h.stay h1) ha;rw[hb] at HB;clear h hb
 go_enter Tryz.func12,Tryz.ntmps12
 go_wp2_with fail
 generalize hw0:w.alloc _=w0;have HB0:=Hd (show Below w.heap.size w w0 by rw[← hw0];exact(Below.refl _ _).alloc (Nat.le_refl _) _);have HR0:=Hd (show RowX w0 w.heap.size noneX none 0 none 0 by rw[← hw0];exact heap_alloc_new _ _);clear hw0;refine(HB.out w0 HB0.out).mono ?_;rintro e w1 ⟨rfl,hb1⟩;have HB1:=Hd (HB0.out.trans (hb1.mono HB0.out.size));have HR1:=Hd (show RowX w1 w.heap.size noneX none 0 none 0 from(hb1.block _ HR0.out.lt).trans HR0.out);clear hb1
 go_wp2_with (first | (refine wpList_store_row rfl _ _ _ rfl (w.heap.size) _ rfl rfl _ _ (HR1.out) ex_info rfl (by simp[exA,Value.oneCell']) ?_))
 exact bodyPost_ret (res_ex3 (p:=4) (u:=5) (v:=6) rfl _ _ (w.heap.size) rfl (HR1.out.set (y:=noneX) (A2:=none) (ca2:=0) (B2:=none) (cb2:=0))) rfl ⟨below_setRow_ HB1.out (Nat.le_refl _) _,_,_,_,_,rfl,rdX_none _⟩
theorem part_bad(N:Nat)(at_:Int)(h:RdK w A n all)(ht:∀ t∈all,TkOK t)(hn:all.length≤10000)(hN:all.length≤N)(ha:-9223372036854775808≤at_∧at_≤9223372036854775807)(hb:beginsB all at_=true){q:List Tk}(hp:(psN N).ar (all.drop at_.toNat)=.bad q):
 Calls Tryz.prog 12 #[.slice A n c,.int .i64 at_] w fun e w'=>Below w.heap.size w w'∧PartV w.heap.size (blkA A) N all at_ e w':=by
 unfold PartV;rw[partO_bad hb hp];have HB0N:=Hd (b0_ne h hb);have HW:=Hd (part_whole (c:=c) h ht hn hN hb);simp only[hp] at HW;have HB:=Hd fun w1 (h1:Below w.heap.size w w1)=>paBegins (w:=w1) (c:=c) at_ (h.stay h1) ha;rw[hb] at HB;rw[h.1];clear h hb hp
 go_enter Tryz.func12,Tryz.ntmps12
 go_wp2_with fail
 generalize hw0:w.alloc _=w0;have HB0:=Hd (show Below w.heap.size w w0 by rw[← hw0];exact(Below.refl _ _).alloc (Nat.le_refl _) _);have HR0:=Hd (show RowX w0 w.heap.size noneX none 0 none 0 by rw[← hw0];exact heap_alloc_new _ _);clear hw0;refine(HB.out w0 HB0.out).mono ?_;rintro e w1 ⟨rfl,hb1⟩;have HB1:=Hd (HB0.out.trans (hb1.mono HB0.out.size));have HR1:=Hd (show RowX w1 w.heap.size noneX none 0 none 0 from(hb1.block _ HR0.out.lt).trans HR0.out);clear hb1
 go_wp2_with fail
 refine(HW.out w1 HB1.out).mono ?_;rintro e w2 ⟨hb2,hx⟩;have HB2:=Hd (HB1.out.trans (hb2.mono HB1.out.size));have HR2:=Hd (show RowX w2 w.heap.size noneX none 0 none 0 from(hb2.block _ HR1.out.lt).trans HR1.out);clear hb2;have hgb:w.heap.size≠w1.heap.size:=by have:=HR1.out.lt;omega
 have HGB:=Hd (show w.heap.size<w1.heap.size from HR1.out.lt);generalize w1.heap.size=b at *;obtain⟨rfl,va,vp,sz,hrow⟩:=hx;have q1:=cell_of hrow 1 (.int .i64 ((n-q.length:Nat):Int)) rfl;clear hrow;have hbg:b≠w.heap.size:=Ne.symm hgb;obtain⟨d0,d1,d2,d3,d4,d5⟩:=HR2.out.cells;have f0:=HR2.out.fz 0;have f1:=HR2.out.fz 1;have f2:=HR2.out.fz 2;have f3:=HR2.out.fz 3;have f4:=HR2.out.fz 4;have f5:=HR2.out.fz 5;have hl:=HR2.out.lt;unfold noneX at d0 d1 d2 d3 d4 d5;simp only[Ex.k,Ex.n,Ex.s,Ex.op,Ex.arms,Ex.subs,List.length_nil] at d0 d1 d2 d3 d4 d5
 go_upto_region 5 with(fail)
 go_region
 have hsx:=six_set HR2.out noneX none 0 none 0;unfold noneX at hsx;simp only[Ex.k,Ex.n,Ex.s,Ex.op,Ex.arms,Ex.subs,List.length_nil] at hsx;have hsy:(⟨#[]⟩:ByteArray)=ByteArray.empty:=rfl;simp only[hsy] at *;rw[hsx];clear hsx d0 d1 d2 d3 d4 d5 f0 f1 f2 f3 f4 f5 q1;have HR3:=Hd (show RowX (w2.setRow w.heap.size (exA noneX none 0 none 0)).drew w.heap.size noneX none 0 none 0 from HR2.out.set);have HB3:=Hd (show Below w.heap.size w (w2.setRow w.heap.size (exA noneX none 0 none 0)).drew from(below_setRow_ HB2.out (Nat.le_refl _) _).drew);unfold noneX at HR3 HB3;generalize (w2.setRow w.heap.size _).drew=w3 at *
 go_wp2_with fail
 exact bodyPost_ret (res_ex3 (p:=4) (u:=5) (v:=6) rfl _ _ (w.heap.size) rfl HR3.out) rfl ⟨HB3.out,_,_,_,_,rfl,rdX_none _⟩
theorem part_end{B b0 N:Nat}{at_:Int}{z:Ex × Int × Int}{e:Ending}{W:World}{A1:Option Addr}{ca:Nat}{B1:Option Addr}{cb:Nat}(hz:partO N all at_=z)(he:e=.returned (.tuple #[.agg (exA z.1 A1 ca B1 cb),.int .i64 z.2.1,.int .i64 z.2.2]))(hx:rdX (blM B b0 W) z.1 A1 B1):PartV B b0 N all at_ e W:=by
 unfold PartV;rw[hz];exact⟨_,_,_,_,he,hx⟩
theorem part_read(N:Nat)(at_:Int)(h:RdK w A n all)(ht:∀ t∈all,TkOK t)(hn:all.length≤10000)(hN:all.length≤N)(ha:-9223372036854775808≤at_∧at_≤9223372036854775807)(hb:beginsB all at_=true){x:Ex}{r1:List Tk}(hp:(psN N).ar (all.drop at_.toNat)=.ok x r1)(hsh:sizeX x≤60→∀ p∈partsX x,ShortP p):
 Calls Tryz.prog 12 #[.slice A n c,.int .i64 at_] w fun e w'=>Below w.heap.size w w'∧PartV w.heap.size (blkA A) N all at_ e w':=by
 have HPL:=Hd fun h=>partO_long (N:=N) hb hp h;have HPG:=Hd fun h1 h2=>partO_arg (N:=N) hb hp h1 h2;have hpo:=fun h1 h2=>partO_ok (N:=N) hb hp h1 h2;rw[h.1] at hpo;have HPO:=Hd hpo;clear hpo;have HB0N:=Hd (b0_ne h hb);have HW:=Hd (part_whole (c:=c) h ht hn hN hb);simp only[hp] at HW;have HB:=Hd fun w1 (h1:Below w.heap.size w w1)=>paBegins (w:=w1) (c:=c) at_ (h.stay h1) ha;rw[hb] at HB;clear h hb hp;have HSH:=Hd hsh;clear hsh
 go_enter Tryz.func12,Tryz.ntmps12
 go_wp2_with fail
 generalize hw0:w.alloc _=w0;have HB0:=Hd (show Below w.heap.size w w0 by rw[← hw0];exact(Below.refl _ _).alloc (Nat.le_refl _) _);have HR0:=Hd (show RowX w0 w.heap.size noneX none 0 none 0 by rw[← hw0];exact heap_alloc_new _ _);clear hw0;refine(HB.out w0 HB0.out).mono ?_;rintro e w1 ⟨rfl,hb1⟩;have HB1:=Hd (HB0.out.trans (hb1.mono HB0.out.size));have HR1:=Hd (show RowX w1 w.heap.size noneX none 0 none 0 from(hb1.block _ HR0.out.lt).trans HR0.out);clear hb1
 go_wp2_with fail
 refine(HW.out w1 HB1.out).mono ?_;rintro e w2 ⟨hb2,hx⟩;have HB2:=Hd (HB1.out.trans (hb2.mono HB1.out.size));have HR2:=Hd (show RowX w2 w.heap.size noneX none 0 none 0 from(hb2.block _ HR1.out.lt).trans HR1.out);clear hb2;have hgb:w.heap.size≠w1.heap.size:=by have:=HR1.out.lt;omega
 have HGB:=Hd (show w.heap.size<w1.heap.size from HR1.out.lt);generalize w1.heap.size=b at *;obtain⟨rfl,_,_,va,g,cp,x1,A1,ca1,B1,cb1,hrow,hrg,hrd,heq⟩:=hx;have q1:=cell_of hrow 1 (.int .i64 ((n-r1.length:Nat):Int)) rfl;have q3:=cell_of hrow 3 (.slice (some ⟨g,0,none⟩) 1 cp) rfl;have q4:=cell_of hrow 4 (.int .i64 (sizeX x:Int)) rfl;have k0:=hrg 0 (.int .i64 x1.k) rfl;have k1:=hrg 1 (.int .i64 x1.n) rfl;have k2:=hrg 2 (.string x1.s) rfl;have k3:=hrg 3 (.int .i64 x1.op) rfl;have k4:=hrg 4 (.slice A1 x1.arms.length ca1) rfl;have k5:=hrg 5 (.slice B1 x1.subs.length cb1) rfl;simp only[Nat.zero_add] at k0 k1 k2 k3 k4 k5;have HX:=Hd heq;have HRD:=Hd hrd;clear hrow hrg hrd heq
 go_upto_region 7 with(fail)
 have hal:=(Below.refl w2.heap.size w2).alloc (Nat.le_refl _) (.cells (exA x1 A1 ca1 B1 cb1) 26);have HE3:=Hd (show RowX (w2.alloc (.cells (exA x1 A1 ca1 B1 cb1) 26)) w2.heap.size x1 A1 ca1 B1 cb1 from heap_alloc_new _ _);have HR3:=Hd (show RowX (w2.alloc (.cells (exA x1 A1 ca1 B1 cb1) 26)) w.heap.size noneX none 0 none 0 from(hal.block _ HR2.out.lt).trans HR2.out);have HB3:=Hd (HB2.out.trans (hal.mono HB2.out.size));have HRD3:=Hd (rdX_blM HRD.out hal.size (fun k _ hk=>hal.block k hk));have q1:=(hal.cell (World.block_lt_of_cell? _ _ q1)).trans q1;have q4:=(hal.cell (World.block_lt_of_cell? _ _ q4)).trans q4;have hge:w.heap.size≠w2.heap.size:=by have:=HR2.out.lt;omega
 unfold exA at HE3 HR3 HB3 HRD3 q1 q4;clear hal q3 k0 k1 k2 k3 k4 k5 HRD;generalize w2.alloc _=w3 at *;generalize w2.heap.size=eb at *
 by_cases hx0:60<sizeX x
 · have HSZ:=Hd hx0;clear hx0;have hs:(60:Int)<(sizeX x:Int):=by have:=HSZ.out;omega
   have hd:decide ((60:Int)<(sizeX x:Int))=true:=decide_eq_true hs
   go_wp2_with (first | (refine wpList_store_row rfl _ _ _ rfl (w.heap.size) _ rfl rfl _ _ (HR3.out) ex_info rfl (by simp[exA,Value.oneCell']) ?_))
   exact bodyPost_ret (res_ex3 (p:=4) (u:=5) (v:=6) rfl _ _ (w.heap.size) rfl (HR3.out.set (y:=noneX) (A2:=none) (ca2:=0) (B2:=none) (cb2:=0))) rfl ⟨below_setRow_ HB3.out (Nat.le_refl _) _,part_end (HPL.out (.inl HSZ.out)) rfl (rdX_none _)⟩
 · have HSZ:=Hd (Nat.le_of_not_lt hx0);clear hx0;obtain rfl:=HX.out HSZ.out;have hs:¬ (60:Int)<(sizeX x1:Int):=by have:=HSZ.out;omega
   have hd:decide ((60:Int)<(sizeX x1:Int))=false:=decide_eq_false hs;have HDP:=Hd fun w1 (h1:Below w3.heap.size w3 w1)=>exDepth x1 A1 ca1 B1 cb1 w1 ((rdX_of_blM HRD3.out).below h1) (by have:=HSZ.out;omega);have HRT:=Hd fun w1 (h1:Below w3.heap.size w3 w1)=>exRight x1 A1 ca1 B1 cb1 w1 ((rdX_of_blM HRD3.out).below h1) (by have:=HSZ.out;omega) (HSH.out HSZ.out);obtain⟨e0,e1,e2,e3,e4,e5⟩:=HE3.out.cells
   go_wp2_with fail
   refine(HDP.out w3 (Below.refl _ _)).mono ?_;rintro e w4 ⟨rfl,hb4⟩;have HB4:=Hd (HB3.out.trans (hb4.mono HB3.out.size));have HR4:=Hd (show RowX w4 w.heap.size noneX none 0 none 0 from(hb4.block _ HR3.out.lt).trans HR3.out);have HE4:=Hd (show RowX w4 eb x1 A1 ca1 B1 cb1 from(hb4.block _ HE3.out.lt).trans HE3.out);have HH4:=Hd hb4;have q1:=(hb4.cell (World.block_lt_of_cell? _ _ q1)).trans q1;clear hb4 e0 e1 e2 e3 e4 e5 q4
   by_cases hdx:12<depthX x1
   · have HDX:=Hd hdx;clear hdx;generalize depthX x1=dx at *;have hdd:(12:Int)<(dx:Int):=by have:=HDX.out;omega
     have hd2:decide ((12:Int)<(dx:Int))=true:=decide_eq_true hdd
     go_wp2_with (first | (refine wpList_store_row rfl _ _ _ rfl (w.heap.size) _ rfl rfl _ _ (HR4.out) ex_info rfl (by simp[exA,Value.oneCell']) ?_))
     exact bodyPost_ret (res_ex3 (p:=4) (u:=5) (v:=6) rfl _ _ (w.heap.size) rfl (HR4.out.set (y:=noneX) (A2:=none) (ca2:=0) (B2:=none) (cb2:=0))) rfl ⟨below_setRow_ HB4.out (Nat.le_refl _) _,part_end (HPL.out (.inr HDX.out)) rfl (rdX_none _)⟩
   · have HDX:=Hd (Nat.le_of_not_lt hdx);have HNL:=Hd (show ¬ (60<sizeX x1∨12<depthX x1) by have:=HSZ.out;omega);clear hdx;generalize hdxx:depthX x1=dx at HDX ⊢;clear hdxx;have hdd:¬ (12:Int)<(dx:Int):=by have:=HDX.out;omega
     have hd2:decide ((12:Int)<(dx:Int))=false:=decide_eq_false hdd;obtain⟨e0,e1,e2,e3,e4,e5⟩:=HE4.out.cells
     go_wp2_with fail
     refine(HRT.out w4 HH4.out).mono ?_;rintro e w5 ⟨rfl,hb5⟩;have HB5:=Hd (HB4.out.trans (hb5.mono HB4.out.size));have HR5:=Hd (show RowX w5 w.heap.size noneX none 0 none 0 from(hb5.block _ HR4.out.lt).trans HR4.out);have HE5:=Hd (show RowX w5 eb x1 A1 ca1 B1 cb1 from(hb5.block _ HE4.out.lt).trans HE4.out);have HRD5:=Hd (rdX_blM HRD3.out (HH4.out.trans (hb5.mono HH4.out.size)).size (fun k _ hk=>(HH4.out.trans (hb5.mono HH4.out.size)).block k hk));have q1:=(hb5.cell (World.block_lt_of_cell? _ _ q1)).trans q1;clear hb5 e0 e1 e2 e3 e4 e5
     cases hrx:rightX x1 with
     | false=>
      have HRX:=Hd hrx;clear hrx
      go_wp2_with (first | (refine wpList_store_row rfl _ _ _ rfl (w.heap.size) _ rfl rfl _ _ (HR5.out) ex_info rfl (by simp[exA,Value.oneCell']) ?_))
      exact bodyPost_ret (res_ex3 (p:=4) (u:=5) (v:=6) rfl _ _ (w.heap.size) rfl (HR5.out.set (y:=noneX) (A2:=none) (ca2:=0) (B2:=none) (cb2:=0))) rfl ⟨below_setRow_ HB5.out (Nat.le_refl _) _,part_end (HPG.out HNL.out HRX.out) rfl (rdX_none _)⟩
     | true=>
      have HRX:=Hd hrx;clear hrx;have hbg:b≠w.heap.size:=Ne.symm hgb;have heg:eb≠w.heap.size:=Ne.symm hge;obtain⟨e0,e1,e2,e3,e4,e5⟩:=HE5.out.cells;obtain⟨d0,d1,d2,d3,d4,d5⟩:=HR5.out.cells;have f0:=HR5.out.fz 0;have f1:=HR5.out.fz 1;have f2:=HR5.out.fz 2;have f3:=HR5.out.fz 3;have f4:=HR5.out.fz 4;have f5:=HR5.out.fz 5;have hl:=HR5.out.lt;unfold noneX at d0 d1 d2 d3 d4 d5;simp only[Ex.k,Ex.n,Ex.s,Ex.op,Ex.arms,Ex.subs,List.length_nil] at d0 d1 d2 d3 d4 d5
      go_upto_region 11 with(fail)
      go_region
      rw[six_set HR5.out x1 A1 ca1 B1 cb1];clear d0 d1 d2 d3 d4 d5 f0 f1 f2 f3 f4 f5 q1 e0 e1 e2 e3 e4 e5;have HR6:=Hd (show RowX (w5.setRow w.heap.size (exA x1 A1 ca1 B1 cb1)).drew w.heap.size x1 A1 ca1 B1 cb1 from HR5.out.set);have HB6:=Hd (show Below w.heap.size w (w5.setRow w.heap.size (exA x1 A1 ca1 B1 cb1)).drew from(below_setRow_ HB5.out (Nat.le_refl _) _).drew);have hkx:rdX (blM w.heap.size (blkA A) (w5.setRow w.heap.size (exA x1 A1 ca1 B1 cb1)).drew) x1 A1 B1:=rdX_blM_le (rdX_blM HRD5.out (by show w5.heap.size≤(w5.setRow _ _).heap.size;rw[setRow_size];exact Nat.le_refl _) (fun k hk _=>(setRow_other _ _ _ _ (fun e=>hk ⟨by rw[e];exact HGB.out,by rw[e];exact HB0N.out⟩)))) (Nat.le_of_lt HGB.out);have HK6:=Hd hkx;clear hkx;generalize (w5.setRow w.heap.size _).drew=w6 at *
      go_wp2_with fail
      exact bodyPost_ret (res_ex3 (p:=4) (u:=5) (v:=6) rfl _ _ (w.heap.size) rfl HR6.out) rfl ⟨HB6.out,part_end (HPO.out HNL.out HRX.out) rfl HK6.out⟩
theorem paPart(N:Nat)(at_:Int)(h:RdK w A n all)(ht:∀ t∈all,TkOK t)(hn:all.length≤10000)(hN:all.length≤N)(ha:-9223372036854775808≤at_∧at_≤9223372036854775807)(hsh:∀ x r1,(psN N).ar (all.drop at_.toNat)=.ok x r1→sizeX x≤60→∀ p∈partsX x,ShortP p):
 Calls Tryz.prog 12 #[.slice A n c,.int .i64 at_] w fun e w'=>Below w.heap.size w w'∧PartV w.heap.size (blkA A) N all at_ e w':=by
 cases hb:beginsB all at_ with
 | false=>exact part_none N at_ h ht hn hN ha hb
 | true=>
  cases hp:(psN N).ar (all.drop at_.toNat) with
  | bad q=>exact part_bad N at_ h ht hn hN ha hb hp
  | ok x r1=>
   exact part_read N at_ h ht hn hN ha hb hp (hsh x r1 hp)
end
end
end Go.Proofs.YtokiaaapgkdpmaaGreatDoor
