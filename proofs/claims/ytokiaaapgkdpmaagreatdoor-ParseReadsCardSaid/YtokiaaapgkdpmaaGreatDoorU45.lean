/- Parts: PcG, PcL. Conditions: each theorem's own. -/
import Derived.Test.YtokiaaapgkdpmaaGreatDoorU42
namespace Go.Proofs.YtokiaaapgkdpmaaGreatDoor
set_option linter.unusedVariables false
set_option linter.unusedSimpArgs false
set_option maxRecDepth 100000
set_option maxHeartbeats 40000000
section
open Go.RowKit Go.Sort
section
variable {w w':World}
theorem rexpr_bad(N:Nat)(s:ByteArray)(hs:s.size≤900){p:Nat}(hp:(lexL 0 s.data.toList).2=some p):
 Calls Tryz.prog 8 #[.string s] w fun e w'=>Below w.heap.size w w'∧ExprV (exprO N s) e w':=by
 have HA:=Hd fun w1 (h1:Below w.heap.size w w1)=>rxAll s 6000 w1 (by omega) (by omega);unfold exprO;rw[if_neg (by omega),hp];have HP:=Hd hp;clear hp
 go_enter Tryz.func8,Tryz.ntmps8
 go_wp2_with fail
 generalize hw0:w.alloc _=w0;have HB0:=Hd (show Below w.heap.size w w0 by rw[← hw0];exact(Below.refl _ _).alloc (Nat.le_refl _) _);have HR0:=Hd (show RowX w0 w.heap.size noneX none 0 none 0 by rw[← hw0];exact heap_alloc_new _ _);clear hw0;refine(HA.out w0 HB0.out).mono ?_;rintro e w1 ⟨hans,hb1⟩;have HB1:=Hd (HB0.out.trans (hb1.mono HB0.out.size));have HR1:=Hd (show RowX w1 w.heap.size noneX none 0 none 0 from(hb1.block _ HR0.out.lt).trans HR0.out);clear hb1;rcases hans with⟨p2,h2,rfl⟩|⟨h2,_⟩
 · rw[HP.out] at h2;injection h2 with h2;subst h2
   go_wp2_with (first | (refine wpList_store_row rfl _ _ _ rfl (w.heap.size) _ rfl rfl _ _ (HR1.out) ex_info rfl (by simp[exA,Value.oneCell']) ?_))
   exact bodyPost_ret (res_ex3 (p:=2) (u:=3) (v:=4) rfl _ _ (w.heap.size) rfl (HR1.out.set (y:=noneX) (A2:=none) (ca2:=0) (B2:=none) (cb2:=0))) rfl ⟨below_setRow_ HB1.out (Nat.le_refl _) _,_,_,_,_,rfl,rdX_none _⟩
 · rw[HP.out] at h2
   cases h2
theorem rexpr_read(N:Nat)(s:ByteArray)(hs:s.size≤900)(hp:(lexL 0 s.data.toList).2=none)(hN:6001≤N)(hN2:N≤1000000)(ht:∀ t∈toksL s,t.s.length≤906)(hlen:(toksL s).length≤901)(hr:0≤(partO N (toksL s) 0).2.1∧(partO N (toksL s) 0).2.1<((toksL s).length:Int)):
 Calls Tryz.prog 8 #[.string s] w fun e w'=>Below w.heap.size w w'∧ExprV (exprO N s) e w':=by
 have HA:=Hd fun w1 (h1:Below w.heap.size w w1)=>rxAll s 6000 w1 (by omega) (by omega);have HEQ:=Hd (exprO_eq (N:=N) (by omega:s.size≤6000) hp);have HP:=Hd hp;have HPA:=Hd fun(w1:World) (A:Option Addr) (c:Nat) (hR:RdK w1 A (toksL s).length (toksL s))=>refPartD (M:=906) (c:=c) N 0 hR (by omega) (by omega) hN2 (by decide) (by omega) (by omega) ht;clear hp ht
 go_enter Tryz.func8,Tryz.ntmps8
 go_wp2_with fail
 generalize hw0:w.alloc _=w0;have HB0:=Hd (show Below w.heap.size w w0 by rw[← hw0];exact(Below.refl _ _).alloc (Nat.le_refl _) _);have HR0:=Hd (show RowX w0 w.heap.size noneX none 0 none 0 by rw[← hw0];exact heap_alloc_new _ _);clear hw0;refine(HA.out w0 HB0.out).mono ?_;rintro e w1 ⟨hans,hb1⟩;have HB1:=Hd (HB0.out.trans (hb1.mono HB0.out.size));have HR1:=Hd (show RowX w1 w.heap.size noneX none 0 none 0 from(hb1.block _ HR0.out.lt).trans HR0.out);clear hb1;rcases hans with⟨p2,h2,rfl⟩|⟨h2,A,c,rfl,hR⟩
 · rw[HP.out] at h2
   cases h2
 · rw[show(lexL 0 s.data.toList).1.length+1=(toksL s).length by simp[toksL]] at hR ⊢;have HRK:=Hd (show RdK w1 A (toksL s).length (toksL s) from hR);have HPP:=Hd (HPA.out w1 A c hR);clear hR;unfold PartV at HPP;generalize hz:partO N (toksL s) 0=z at *;generalize hall:toksL s=all at *;have HAL:=Hd hall;have HZZ:=Hd hz;clear hz hall;obtain⟨x,k,f⟩:=z;simp only at hr HEQ ⊢
   go_wp2_with fail
   refine HPP.out.mono ?_;rintro e w2 ⟨hb2,A1,ca,B1,cb,rfl,hrd⟩;have HB2:=Hd (HB1.out.trans (hb2.mono HB1.out.size));have HR2:=Hd (show RowX w2 w.heap.size noneX none 0 none 0 from(hb2.block _ HR1.out.lt).trans HR1.out);have HRK2:=Hd (HRK.out.stay hb2);have HGL:=Hd HR1.out.lt;have HRD2:=Hd hrd;clear hb2 hrd;unfold exA
   go_upto_region 5 with(fail)
   have hal:=(Below.refl w2.heap.size w2).alloc (Nat.le_refl _) (.cells (exA x A1 ca B1 cb) 26);have HE3:=Hd (show RowX (w2.alloc (.cells (exA x A1 ca B1 cb) 26)) w2.heap.size x A1 ca B1 cb from heap_alloc_new _ _);have HR3:=Hd (show RowX (w2.alloc (.cells (exA x A1 ca B1 cb) 26)) w.heap.size noneX none 0 none 0 from(hal.block _ HR2.out.lt).trans HR2.out);have HB3:=Hd (HB2.out.trans (hal.mono HB2.out.size));have HRD3:=Hd (rdX_blM HRD2.out hal.size (fun k _ hk=>hal.block k hk));have HRK3:=Hd (HRK2.out.stay hal);have hge:w.heap.size≠w2.heap.size:=by have:=HR2.out.lt;omega
   unfold exA at HE3 HR3 HB3 HRD3 HRK3;clear hal;generalize w2.alloc _=w3 at *;generalize w2.heap.size=eb at *;obtain⟨kk,rfl⟩:∃ kk:Nat,k=(kk:Int):=⟨k.toNat,by omega⟩;have hkl:kk<all.length:=by omega
   obtain⟨b0,off,rfl,hb0,hcs⟩:=HRK3.out.2.2 (by omega);obtain⟨t0,t1,t2,t3⟩:=hcs kk hkl;have HEQ2:=Hd (show exprO N s=if f=0 then if(all[kk]?.getD default).k=6 then(x,(s.size:Int),0) else(noneX,((all[kk]?.getD default).a:Int),2) else(noneX,((all[kk]?.getD default).a:Int),f) from HEQ.out);generalize (all[kk]?.getD default).k=tkk at *;have HAP:=Hd (tok_apart HRK3.out (by omega) HR3.out);clear hcs t1 t2 HEQ;generalize ((all[kk]?.getD default).a:Int)=ta at *;have hmx:=HRK3.out.2.1;have hk0:(0:Int)≤(kk:Int):=by omega
   have hk1:(kk:Int)<(all.length:Int):=by omega
   generalize all.length=n at *
   by_cases hf:f=0
   · subst hf
     by_cases hk:tkk=6
     · subst hk
       go_wp2_with (first | (refine wpList_load_row rfl _ _ rfl (eb) rfl _ _ _ _ (HE3.out) Tryz.underlying26 rfl ex_info ?_) | (refine wpList_store_row rfl _ _ _ rfl (w.heap.size) _ rfl rfl _ _ (HR3.out) ex_info rfl (by simp[exA,Value.oneCell']) ?_))
       refine bodyPost_ret (res_ex3 (p:=2) (u:=3) (v:=4) rfl _ _ (w.heap.size) rfl (HR3.out.set (y:=x) (A2:=A1) (ca2:=ca) (B2:=B1) (cb2:=cb))) rfl ⟨below_setRow_ HB3.out (Nat.le_refl _) _,?_⟩;rw[show exprO N s=(x,(s.size:Int),0) from HEQ2.out.trans (by simp)];exact⟨_,_,_,_,rfl,rdX_of_blM (rdX_blM HRD3.out (by rw[setRow_size];exact Nat.le_refl _) (fun k hk _=>setRow_other _ _ _ _ (fun e=>hk ⟨by rw[e];exact HGL.out,by rw[e];exact HAP.out⟩)))⟩
     · have hk2:(tkk != 6)=true:=by simpa using hk
       have HKK:=Hd hk;clear hk;obtain⟨d0,d1,d2,d3,d4,d5⟩:=HR3.out.cells;have f0:=HR3.out.fz 0;have f1:=HR3.out.fz 1;have f2:=HR3.out.fz 2;have f3:=HR3.out.fz 3;have f4:=HR3.out.fz 4;have f5:=HR3.out.fz 5;have hl:=HR3.out.lt;have hap:=HAP.out;have hap2:b0≠w.heap.size:=Ne.symm hap;unfold noneX at d0 d1 d2 d3 d4 d5;simp only[Ex.k,Ex.n,Ex.s,Ex.op,Ex.arms,Ex.subs,List.length_nil] at d0 d1 d2 d3 d4 d5
       go_upto_region 8 with(fail)
       go_region
       have hsx:=six_set HR3.out noneX none 0 none 0;unfold noneX at hsx;simp only[Ex.k,Ex.n,Ex.s,Ex.op,Ex.arms,Ex.subs,List.length_nil] at hsx;have hsy:(⟨#[]⟩:ByteArray)=ByteArray.empty:=rfl;simp only[hsy] at *;rw[hsx];clear hsx d0 d1 d2 d3 d4 d5 f0 f1 f2 f3 f4 f5;have HR4:=Hd (show RowX (w3.setRow w.heap.size (exA noneX none 0 none 0)).drew w.heap.size noneX none 0 none 0 from HR3.out.set);have HB4:=Hd (show Below w.heap.size w (w3.setRow w.heap.size (exA noneX none 0 none 0)).drew from(below_setRow_ HB3.out (Nat.le_refl _) _).drew);unfold noneX at HR4 HB4;generalize (w3.setRow w.heap.size _).drew=w4 at *
       go_wp2_with fail
       refine bodyPost_ret (res_ex3 (p:=2) (u:=3) (v:=4) rfl _ _ (w.heap.size) rfl HR4.out) rfl ⟨HB4.out,?_⟩;rw[show exprO N s=(noneX,ta,2) from HEQ2.out.trans (by simp[HKK.out])];exact⟨none,0,none,0,rfl,rdX_none _⟩
   · have hf2:(f==0)=false:=by simpa using hf
     have HFF:=Hd hf;clear hf;obtain⟨d0,d1,d2,d3,d4,d5⟩:=HR3.out.cells;have f0:=HR3.out.fz 0;have f1:=HR3.out.fz 1;have f2:=HR3.out.fz 2;have f3:=HR3.out.fz 3;have f4:=HR3.out.fz 4;have f5:=HR3.out.fz 5;have hl:=HR3.out.lt;have hap:=HAP.out;have hap2:b0≠w.heap.size:=Ne.symm hap;unfold noneX at d0 d1 d2 d3 d4 d5;simp only[Ex.k,Ex.n,Ex.s,Ex.op,Ex.arms,Ex.subs,List.length_nil] at d0 d1 d2 d3 d4 d5
     go_upto_region 6 with(fail)
     go_region
     have hsx:=six_set HR3.out noneX none 0 none 0;unfold noneX at hsx;simp only[Ex.k,Ex.n,Ex.s,Ex.op,Ex.arms,Ex.subs,List.length_nil] at hsx;have hsy:(⟨#[]⟩:ByteArray)=ByteArray.empty:=rfl;simp only[hsy] at *;rw[hsx];clear hsx d0 d1 d2 d3 d4 d5 f0 f1 f2 f3 f4 f5;have HR4:=Hd (show RowX (w3.setRow w.heap.size (exA noneX none 0 none 0)).drew w.heap.size noneX none 0 none 0 from HR3.out.set);have HB4:=Hd (show Below w.heap.size w (w3.setRow w.heap.size (exA noneX none 0 none 0)).drew from(below_setRow_ HB3.out (Nat.le_refl _) _).drew);unfold noneX at HR4 HB4;generalize (w3.setRow w.heap.size _).drew=w4 at *
     go_wp2_with fail
     refine bodyPost_ret (res_ex3 (p:=2) (u:=3) (v:=4) rfl _ _ (w.heap.size) rfl HR4.out) rfl ⟨HB4.out,?_⟩;rw[show exprO N s=(noneX,ta,f) from HEQ2.out.trans (by simp[HFF.out])];exact⟨none,0,none,0,rfl,rdX_none _⟩
end
theorem refExprR{w:World}(N:Nat)(s:ByteArray)(hs:s.size≤900)(hN:6001≤N)(hN2:N≤1000000):
 Calls Tryz.prog 8 #[.string s] w fun e w'=>Below w.heap.size w w'∧ExprV (exprO N s) e w':=by
 cases hp:(lexL 0 s.data.toList).2 with
 | some p=>exact rexpr_bad N s hs hp
 | none=>
  obtain⟨h1,h2,h3⟩:=toks_good s
  have ht:∀ t∈toksL s,t.s.length≤906:=fun t ht=>by
   have:=(h1 t ht).2;omega
  have hlen:(toksL s).length≤901:=by omega
  have hr:=partO_range (N:=N) (by omega) (toks_te s) (by omega);exact rexpr_read N s hs hp hN hN2 ht hlen hr
end
section
open Go.RowKit Go.Sort
theorem walkReads(s:ByteArray)(w:World)(hs:s.size≤9223372036854775807)(hv:Vars w):
 Calls Tryz.prog 3 #[.string s] w fun e w'=>e=.returned (.bool true)∧Below w.heap.size w w':=by
 have HV:=Hd hv
 by_cases h1:800<s.size
 · have d1:decide ((800:Int)<(s.size:Int))=true:=decide_eq_true (by omega);have d2:decide (800<s.size)=true:=decide_eq_true h1;have HD:=Hd h1;clear h1 hv;have HB0:=Hd (Below.refl w.heap.size w)
   go_enter Tryz.func3,Tryz.ntmps3
   go_wp2_with fail
   refine(live_any w (HV.out.below HB0.out)).mono ?_;rintro r wl ⟨rfl,hbl⟩;have HBL:=Hd (HB0.out.trans (hbl.mono HB0.out.size));clear hbl
   go_wp2_with fail
   go_ret
   exact⟨rfl,HBL.out⟩
 · have HPE:=Hd (paExpr 10000 s hs hv (by decide) (fun _=>short_text (by omega) (by decide)));have HRE:=Hd fun w1:World=>refExprR (w:=w1) 10000 s (by omega) (by decide) (by decide);have d1:decide ((800:Int)<(s.size:Int))=false:=decide_eq_false (by omega);have d2:decide (800<s.size)=false:=decide_eq_false h1;have HD:=Hd h1;clear h1 hv;generalize exprO 10000 s=z at *;obtain⟨x,n,f⟩:=z
   go_enter Tryz.func3,Tryz.ntmps3
   go_wp2_with fail
   refine HPE.out.mono ?_;rintro e w2 ⟨hb,A1,ca1,B1,cb1,rfl,hrd⟩;have HB2:=Hd hb;have HRD2:=Hd hrd;clear hb hrd;simp only at HRD2 ⊢;unfold exA
   go_upto_region 4 with(fail)
   have hal:=(Below.refl w2.heap.size w2).alloc (Nat.le_refl _) (.cells (exA x A1 ca1 B1 cb1) 26);have HE3:=Hd (show RowX (w2.alloc (.cells (exA x A1 ca1 B1 cb1) 26)) w2.heap.size x A1 ca1 B1 cb1 from heap_alloc_new _ _);have HB3:=Hd (HB2.out.trans (hal.mono HB2.out.size));have HRD3:=Hd (HRD2.out.below hal);unfold exA at HE3 HB3 HRD3;clear hal;generalize w2.alloc _=w3 at *;generalize w2.heap.size=eb at *
   go_wp2_with fail
   refine(HRE.out w3).mono ?_;rintro e w4 ⟨hb,A2,ca2,B2,cb2,rfl,hrd⟩;have HB4:=Hd (HB3.out.trans (hb.mono HB3.out.size));have HE4:=Hd (show RowX w4 eb x A1 ca1 B1 cb1 from(hb.block _ HE3.out.lt).trans HE3.out);have HRD4:=Hd (HRD3.out.below hb);have HRE4:=Hd hrd;clear hb hrd;simp only at HRE4 ⊢;unfold exA
   go_upto_region 5 with(fail)
   have hal:=(Below.refl w4.heap.size w4).alloc (Nat.le_refl _) (.cells (exA x A2 ca2 B2 cb2) 26);have HF5:=Hd (show RowX (w4.alloc (.cells (exA x A2 ca2 B2 cb2) 26)) w4.heap.size x A2 ca2 B2 cb2 from heap_alloc_new _ _);have HE5:=Hd (show RowX (w4.alloc (.cells (exA x A2 ca2 B2 cb2) 26)) eb x A1 ca1 B1 cb1 from(hal.block _ HE4.out.lt).trans HE4.out);have HB5:=Hd (HB4.out.trans (hal.mono HB4.out.size));have HRD5:=Hd (HRD4.out.below hal);have HRE5:=Hd (HRE4.out.below hal);unfold exA at HF5 HE5 HB5 HRD5 HRE5;clear hal;generalize w4.alloc _=w5 at *;generalize w4.heap.size=fb at *;obtain⟨e0,e1,e2,e3,e4,e5⟩:=HE5.out.cells;obtain⟨g0,g1,g2,g3,g4,g5⟩:=HF5.out.cells;have HSS:=Hd (refSame x A1 ca1 B1 cb1 x A2 ca2 B2 cb2 w5 HRD5.out HRE5.out);rw[sameX_refl] at HSS
   go_wp2_with fail
   refine HSS.out.mono ?_;rintro r w6 ⟨rfl,hb⟩;have HB6:=Hd (HB5.out.trans (hb.mono HB5.out.size));clear hb e0 e1 e2 e3 e4 e5 g0 g1 g2 g3 g4 g5
   go_wp2_with fail
   refine(lawNum _ _).mono ?_;rintro r w7 ⟨rfl,rfl⟩
   go_wp2_with fail
   refine(live_any w6 (HV.out.below HB6.out)).mono ?_;rintro r wl ⟨rfl,hbl⟩;have HBL:=Hd (HB6.out.trans (hbl.mono HB6.out.size));clear hbl
   go_wp2_with fail
   go_ret
   exact⟨rfl,HBL.out⟩
end
end Go.Proofs.YtokiaaapgkdpmaaGreatDoor
