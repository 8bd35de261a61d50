/- Parts of the proof: TrH, TrI. Conditions: each theorem's own. -/
import Derived.Test.YtkbpdoomhfkngaaGreatR27
import Derived.Test.YtkbpdoomhfkngaaGreatR29
namespace Go.Proofs.YtkbpdoomhfkngaaGreat
set_option linter.unusedVariables false
set_option linter.unusedSimpArgs false
set_option maxRecDepth 100000
set_option maxHeartbeats 40000000
section
open Go.RowKit Go.Sort Go.BigFrame
theorem trCall(p:Pg) (x:Nd) (r:Rm) (y:Ex) (A:Option Addr) (ca:Nat) (B:Option Addr) (cb:Nat) (S:Option Addr) (m sc:Nat) (ts:List T3) (w:World) (h:rdRm w p x r) (hS:RdY w S m ts) (hl:SlY S m sc) (hn:y.n=0∨y.n=1) (hnm:y.n≤m) (hfew:∀ j,j<p.ns.length→(ndAt p j).ins.length≤1000∧(ndAt p j).outs.length≤1000):
 Calls Tryz.prog 78 #[.agg (rvA p x r),.agg (exA y A ca B cb),.slice S m sc] w (SubsAns w ((callT p y ts).map fun j=>(ndAt p j).outs.map tyD)):=by
 rw [← call_eq hn (by rw [hS.len];exact hnm)];obtain⟨q,hq,hq1⟩:∃ q:Nat,y.n=(q:Int)∧q≤1:=⟨y.n.toNat,by omega,by omega⟩;rcases hl.2.2 with⟨rfl,rfl,rfl⟩|⟨b,off,rfl⟩
 · exact trCallNil p x r y A ca B cb ts w h hS (by rw [hq] at hnm ⊢;congr 1;omega) hfew
 · exact trCallSome p x r y A ca B cb b off m (m-q) q sc ts w h hS (by omega) hl.1 hl.2.1 hq hq1 hfew
theorem RdY.drew{w:World}{A:Option Addr}{n:Nat}{l:List T3}(h:RdY w A n l):RdY w.drew A n l:=h.below (Below.drew (Below.refl _ _))
def placedT(ts:List T3):Bool:=decide (0<(atT ts 0).2.2) && wholeT (atT ts 1)
theorem trPlaced(S:Option Addr) (m sc:Nat) (ts:List T3) (w:World) (hS:RdY w S m ts) (hm:2≤m):
 Calls Tryz.prog 149 #[.slice S m sc] w fun e w'=>e=.returned (.bool (placedT ts))∧Below w.heap.size w w':=by
 obtain⟨sb,so,rfl,hsb,hsc⟩:=hS.at_ (i:=0) (by omega);obtain⟨a0,a1,a2⟩:=hsc 0 (by omega);obtain⟨b0,b1,b2⟩:=hsc 1 (by omega);simp only [Nat.zero_mul,Nat.add_zero,Nat.one_mul] at a0 a1 a2 b0 b1 b2;have HO:=Hd (show placedT ts=(decide (0<(atT ts 0).2.2) && allB (1,0,0) [atT ts 1]) by rw [allB_one];rfl);have HSI:=Hd trSingle;have HAL:=Hd fun(ad:Option Addr) w1 (hr:RdY w1 ad 1 [atT ts 1])=>trAll 1 0 0 ad 1 1 [atT ts 1] w1 hr;unfold f3A at HSI HAL;generalize placedT ts=out at *;have h0m:0<m:=by omega
 have h1m:1<m:=by omega
 have h0i:(0:Int)<(m:Int):=by omega
 have h1i:(1:Int)<(m:Int):=by omega
 generalize ht0:atT ts 0=tx at *;generalize ht1:atT ts 1=ty at *;obtain⟨x0,x1,x2⟩:=tx;obtain⟨y0,y1,y2⟩:=ty
 dsimp only at a0 a1 a2 b0 b1 b2
 have HSB:=Hd hsb;clear hS hsc hm;generalize allB (1,0,0) [(y0,y1,y2)]=ab at *
 by_cases hz:0<x2
 · have hd:decide (0<x2)=true:=decide_eq_true hz;have HO:=Hd (show out=ab by rw [HO.out,hd,Bool.true_and]);have HL:=Hd (fun(w1:World)=>RdY.lit w1 y0 y1 y2 41)
   go_enter Tryz.func149,Tryz.ntmps149
   go_wp2_with fail
   go_region_held3 (fun W=>W.cell? ⟨sb,so+2,none⟩=some (.int .i64 x2)∧W.cell? ⟨sb,so+3,none⟩=some (.int .i64 y0)∧W.cell? ⟨sb,so+3+1,none⟩=some (.int .i64 y1)∧W.cell? ⟨sb,so+3+2,none⟩=some (.int .i64 y2))
    (first | exact⟨a2,b0,b1,b2⟩ | exact⟨k0,k1,k2,k3⟩ | exact⟨m0,m1,m2,m3⟩ | exact⟨(World.cell?_alloc_lt _ _ _ HSB.out).trans a2,(World.cell?_alloc_lt _ _ _ HSB.out).trans b0,(World.cell?_alloc_lt _ _ _ HSB.out).trans b1,(World.cell?_alloc_lt _ _ _ HSB.out).trans b2⟩ | exact⟨(World.cell?_alloc_lt _ _ _ HKL.out).trans k0,(World.cell?_alloc_lt _ _ _ HKL.out).trans k1,(World.cell?_alloc_lt _ _ _ HKL.out).trans k2,(World.cell?_alloc_lt _ _ _ HKL.out).trans k3⟩)
    ((first
      | (go_at_call 120;refine(HSI.out 1 _).mono ?_;rintro e Wa ⟨rfl,hba⟩;have HBa:=Hd (show Below w.heap.size w Wa from by first | exact(below_drewN (Below.refl w.heap.size w) 1).trans (hba.mono (Nat.le_refl _)) | exact(((Below.refl w.heap.size w).alloc (Nat.le_refl _) (.cells #[.int .i64 y0,.int .i64 y1,.int .i64 y2] 41)).drew).trans (hba.mono (by simp)));have HKL:=Hd (Nat.lt_of_lt_of_le HSB.out HBa.out.size);have k0:=(HBa.out.cell (p:=⟨sb,so+2,none⟩) HSB.out).trans a2;have k1:=(HBa.out.cell (p:=⟨sb,so+3,none⟩) HSB.out).trans b0;have k2:=(HBa.out.cell (p:=⟨sb,so+3+1,none⟩) HSB.out).trans b1;have k3:=(HBa.out.cell (p:=⟨sb,so+3+2,none⟩) HSB.out).trans b2;have HGA:=Hd hba;clear hba)
      | (go_at_call 119;refine(HAL.out _ _ (by first | exact RdY.lit Wa y0 y1 y2 41 | exact((RdY.lit w y0 y1 y2 41).drew).below HGA.out)).mono ?_;rintro e Wb ⟨rfl,hbb⟩;have HBb:=Hd (show Below w.heap.size w Wb from by first | exact HBa.out.trans (hbb.mono HBa.out.size) | exact(HBa.out.alloc HBa.out.size (.cells #[.int .i64 y0,.int .i64 y1,.int .i64 y2] 41)).trans (hbb.mono (by have:=HBa.out.size;simp;omega)));have m0:=(HBb.out.cell (p:=⟨sb,so+2,none⟩) HSB.out).trans a2;have m1:=(HBb.out.cell (p:=⟨sb,so+3,none⟩) HSB.out).trans b0;have m2:=(HBb.out.cell (p:=⟨sb,so+3+1,none⟩) HSB.out).trans b1;have m3:=(HBb.out.cell (p:=⟨sb,so+3+2,none⟩) HSB.out).trans b2;clear hbb)))
   all_goals
    go_wp2_with fail
    go_ret
    exact⟨ret_bool HO.out.symm,HBb.out⟩
 · have hd:decide (0<x2)=false:=decide_eq_false hz;have HO:=Hd (show out=false by rw [HO.out,hd];rfl)
   go_enter Tryz.func149,Tryz.ntmps149
   go_wp2_with fail
   go_quiet (fail)
   go_wp2_with fail
   go_ret
   exact⟨ret_bool HO.out.symm,below_drewN (Below.refl _ _) _⟩
end
section
open Go.RowKit Go.Sort Go.BigFrame
theorem tyz_some{w:World}{o:Option T3}{a b c:Int}(h:o=some (a,b,c)){e:Ending}{w':World}(h2:e=.returned (.tuple #[.agg (f3A a b c),.bool true])∧Below w.heap.size w w'):TyZ w o e w':=by subst h;exact h2
theorem tyz_none{w:World}{o:Option T3}(h:o=none){e:Ending}{w':World}(h2:e=.returned (.tuple #[.agg (f3A 0 0 0),.bool false])∧Below w.heap.size w w'):TyZ w o e w':=by subst h;exact h2
theorem trOver5(p:Pg) (x:Nd) (r:Rm) (y:Ex) (A:Option Addr) (ca:Nat) (B:Option Addr) (cb:Nat) (S:Option Addr) (m sc:Nat) (ts:List T3) (w:World) (h:rdRm w p x r) (hS:RdY w S m ts) (hk:y.k=5) (hm:1≤m) (o:Option T3) (ho:optT (unTyI y.op (atT ts 0).1 (atT ts 0).2.1 (atT ts 0).2.2)=o):
 Calls Tryz.prog 115 #[.agg (rvA p x r),.agg (exA y A ca B cb),.slice S m sc] w (TyZ w o):=by
 have HF:=Hd fun w0 hw=>any_box2Z (w:=w) (w1:=w0) (cs:=rvA p x r) (ds:=exA y A ca B cb) (T:=69) (U:=52) (V:=41) hw;obtain⟨sb,so,rfl,hsb,hsc⟩:=hS.at_ (i:=0) (by omega);obtain⟨a0,a1,a2⟩:=hsc 0 (by omega);simp only [Nat.zero_mul,Nat.add_zero] at a0 a1 a2;have HU:=Hd fun w1=>arUnTy y.op (atT ts 0).1 (atT ts 0).2.1 (atT ts 0).2.2 w1;generalize hu:unTyI y.op (atT ts 0).1 (atT ts 0).2.1 (atT ts 0).2.2=uo at *;generalize ht0:atT ts 0=tx at *;obtain⟨x0,x1,x2⟩:=tx
 dsimp only at a0 a1 a2
 unfold tyV at HU;have HO:=Hd ho.symm;clear ho hu h;unfold rvA exA at *;rw [hk] at HF ⊢;clear hS hsc
 go_enter Tryz.func115,Tryz.ntmps115
 go_upto_region 1 with(fail)
 generalize hw0:((w.alloc _).alloc _).alloc _=w0;obtain⟨hb0,hsz,hce,hce2,hR⟩:=HF.out w0 hw0;have HB0:=Hd hb0;have HR:=Hd hR;have r0:=hce2 w0 (Below.refl _ _) 0;have r3:=hce2 w0 (Below.refl _ _) 3;simp only [Ya,Yb,Yc] at r0 r3;have a0:=(hb0.cell (p:=⟨sb,so,none⟩) hsb).trans a0;have a1:=(hb0.cell (p:=⟨sb,so+1,none⟩) hsb).trans a1;have a2:=(hb0.cell (p:=⟨sb,so+2,none⟩) hsb).trans a2;have h0m:0<m:=by omega
 have hne:sb≠w.heap.size+1+1:=by omega
 have hsb0:sb<w0.heap.size:=Nat.lt_of_lt_of_le hsb HB0.out.size;have hnr:w.heap.size≠w.heap.size+1+1:=by omega
 have hnx:w.heap.size+1≠w.heap.size+1+1:=by omega
 clear hw0 hce hce2 hR HF
 cases uo with
 | none=>
  simp only [tyR,tyV,Option.isSome_none] at HU;have HO:=Hd (show o=none from HO.out)
  go_upto_region 3 with(fail)
  refine wp_region_out (l1:=[_,_,_,_,_,_,_,_]) (os:=_) (l2:=[_]) (p:=6) (tx:=22) (r:=w.heap.size+1+1) (T:=41) (zc:=f3A 0 0 0) (by kernel_rfl) (by kernel_rfl) rfl HR.out rfl infoTy0 ?_
  repeat
   apply fix_step rfl (by simp)
   case h1=>
    intro wb hb;have l0:=fun d os=>cell_regrown (bs_cell hb hne a0) d os;have l1:=fun d os=>cell_regrown (bs_cell hb hne a1) d os;have l2:=fun d os=>cell_regrown (bs_cell hb hne a2) d os;have l3:=fun d os=>cell_regrown (bs_cell hb hnx r3) d os;have cA:=fun d os=>Calls.regrown_of (HU.out (grow (redrawn wb d) os))
    go_big_quiet_step (first | with_reducible exact cA _ _)
    refine wpQuiet_nil ?_;simp only [List.getElem?_toArray,List.getElem?_cons_succ,List.getElem?_cons_zero];exact rfl
   simp only [Act.put,Yd,Ye,Yf]
  refine⟨f3A 0 0 0,rfl,rfl,by simp [f3A,Value.oneCell'],fun W hB hz=>?_⟩;have HB4:=Hd (bs_below hB HB0.out (Nat.le_refl _) (by omega));have HZ4:=Hd hz;clear hB hz
  go_wp2_with fail
  exact bodyPost_ret (res_ty2 (p:=6) (u:=7) rfl _ _ (w.heap.size+1+1) 0 0 0 rfl HZ4.out) rfl (tyz_none HO.out ⟨rfl,HB4.out⟩)
 | some uk=>
  simp only [tyR,tyV,Option.isSome_some] at HU;have HO:=Hd (show o=some (uk,0,0) from HO.out)
  go_upto_region 3 with(fail)
  refine wp_region_out (l1:=[_,_,_,_,_,_,_,_]) (os:=_) (l2:=[_]) (p:=6) (tx:=22) (r:=w.heap.size+1+1) (T:=41) (zc:=f3A 0 0 0) (by kernel_rfl) (by kernel_rfl) rfl HR.out rfl infoTy0 ?_
  repeat
   apply fix_step rfl (by simp)
   case h1=>
    intro wb hb;have l0:=fun d os=>cell_regrown (bs_cell hb hne a0) d os;have l1:=fun d os=>cell_regrown (bs_cell hb hne a1) d os;have l2:=fun d os=>cell_regrown (bs_cell hb hne a2) d os;have l3:=fun d os=>cell_regrown (bs_cell hb hnx r3) d os;have cA:=fun d os=>Calls.regrown_of (HU.out (grow (redrawn wb d) os))
    go_big_quiet_step (first | with_reducible exact cA _ _)
    refine wpQuiet_nil ?_;simp only [List.getElem?_toArray,List.getElem?_cons_succ,List.getElem?_cons_zero];exact rfl
   simp only [Act.put,Yd,Ye,Yf]
  refine⟨f3A uk 0 0,rfl,rfl,by simp [f3A,Value.oneCell'],fun W hB hz=>?_⟩;have HB4:=Hd (bs_below hB HB0.out (Nat.le_refl _) (by omega));have HZ4:=Hd hz;clear hB hz
  go_wp2_with fail
  exact bodyPost_ret (res_ty2 (p:=6) (u:=7) rfl _ _ (w.heap.size+1+1) uk 0 0 rfl HZ4.out) rfl (tyz_some HO.out ⟨rfl,HB4.out⟩)
theorem trOver6(p:Pg) (x:Nd) (r:Rm) (y:Ex) (A:Option Addr) (ca:Nat) (B:Option Addr) (cb:Nat) (S:Option Addr) (m sc:Nat) (ts:List T3) (w:World) (h:rdRm w p x r) (hS:RdY w S m ts) (hk:y.k=6) (hm:2≤m) (o:Option T3) (ho:optT (binTyI y.op (isP 1 (atT ts 0).1 (atT ts 0).2.1 (atT ts 0).2.2 && isP 1 (atT ts 1).1 (atT ts 1).2.1 (atT ts 1).2.2) (isP 2 (atT ts 0).1 (atT ts 0).2.1 (atT ts 0).2.2 && isP 2 (atT ts 1).1 (atT ts 1).2.1 (atT ts 1).2.2) (sameB (atT ts 0).1 (atT ts 0).2.1 (atT ts 0).2.2 (atT ts 1).1 (atT ts 1).2.1 (atT ts 1).2.2))=o):
 Calls Tryz.prog 115 #[.agg (rvA p x r),.agg (exA y A ca B cb),.slice S m sc] w (TyZ w o):=by
 have HF:=Hd fun w0 hw=>any_box2Z (w:=w) (w1:=w0) (cs:=rvA p x r) (ds:=exA y A ca B cb) (T:=69) (U:=52) (V:=41) hw;obtain⟨sb,so,rfl,hsb,hsc⟩:=hS.at_ (i:=0) (by omega);obtain⟨a0,a1,a2⟩:=hsc 0 (by omega);obtain⟨b0,b1,b2⟩:=hsc 1 (by omega);simp only [Nat.zero_mul,Nat.add_zero,Nat.one_mul] at a0 a1 a2 b0 b1 b2;have HU:=Hd fun w1=>arBinTy y.op (atT ts 0).1 (atT ts 0).2.1 (atT ts 0).2.2 (atT ts 1).1 (atT ts 1).2.1 (atT ts 1).2.2 w1;generalize hu:binTyI y.op _ _ _=uo at *;generalize ht0:atT ts 0=tx at *;generalize ht1:atT ts 1=ty at *;obtain⟨x0,x1,x2⟩:=tx;obtain⟨y0,y1,y2⟩:=ty
 dsimp only at a0 a1 a2 b0 b1 b2
 unfold tyV at HU;have HO:=Hd ho.symm;clear ho hu h;unfold rvA exA at *;rw [hk] at HF ⊢;clear hS hsc
 go_enter Tryz.func115,Tryz.ntmps115
 go_upto_region 1 with(fail)
 generalize hw0:((w.alloc _).alloc _).alloc _=w0;obtain⟨hb0,hsz,hce,hce2,hR⟩:=HF.out w0 hw0;have HB0:=Hd hb0;have HR:=Hd hR;have r0:=hce2 w0 (Below.refl _ _) 0;have r3:=hce2 w0 (Below.refl _ _) 3;simp only [Ya,Yb,Yc] at r0 r3;have a0:=(hb0.cell (p:=⟨sb,so,none⟩) hsb).trans a0;have a1:=(hb0.cell (p:=⟨sb,so+1,none⟩) hsb).trans a1;have a2:=(hb0.cell (p:=⟨sb,so+2,none⟩) hsb).trans a2;have b0:=(hb0.cell (p:=⟨sb,so+3,none⟩) hsb).trans b0;have b1:=(hb0.cell (p:=⟨sb,so+3+1,none⟩) hsb).trans b1;have b2:=(hb0.cell (p:=⟨sb,so+3+2,none⟩) hsb).trans b2;have h0m:0<m:=by omega
 have h1m:1<m:=by omega
 have hne:sb≠w.heap.size+1+1:=by omega
 have hsb0:sb<w0.heap.size:=Nat.lt_of_lt_of_le hsb HB0.out.size;have hnr:w.heap.size≠w.heap.size+1+1:=by omega
 have hnx:w.heap.size+1≠w.heap.size+1+1:=by omega
 clear hw0 hce hce2 hR HF
 cases uo with
 | none=>
  simp only [tyR,tyV,Option.isSome_none] at HU;have HO:=Hd (show o=none from HO.out)
  go_upto_region 5 with(fail)
  refine wp_region_out (l1:=[_,_,_,_,_,_,_,_,_,_,_]) (os:=_) (l2:=[_]) (p:=6) (tx:=35) (r:=w.heap.size+1+1) (T:=41) (zc:=f3A 0 0 0) (by kernel_rfl) (by kernel_rfl) rfl HR.out rfl infoTy0 ?_
  repeat
   apply fix_step rfl (by simp)
   case h1=>
    intro wb hb;have l0:=fun d os=>cell_regrown (bs_cell hb hne a0) d os;have l1:=fun d os=>cell_regrown (bs_cell hb hne a1) d os;have l2:=fun d os=>cell_regrown (bs_cell hb hne a2) d os;have l3:=fun d os=>cell_regrown (bs_cell hb hne b0) d os;have l4:=fun d os=>cell_regrown (bs_cell hb hne b1) d os;have l5:=fun d os=>cell_regrown (bs_cell hb hne b2) d os;have l6:=fun d os=>cell_regrown (bs_cell hb hnx r3) d os;have cA:=fun d os=>Calls.regrown_of (HU.out (grow (redrawn wb d) os))
    go_big_quiet_step (first | with_reducible exact cA _ _)
    refine wpQuiet_nil ?_;simp only [List.getElem?_toArray,List.getElem?_cons_succ,List.getElem?_cons_zero];exact rfl
   simp only [Act.put,Yd,Ye,Yf]
  refine⟨f3A 0 0 0,rfl,rfl,by simp [f3A,Value.oneCell'],fun W hB hz=>?_⟩;have HB4:=Hd (bs_below hB HB0.out (Nat.le_refl _) (by omega));have HZ4:=Hd hz;clear hB hz
  go_wp2_with fail
  exact bodyPost_ret (res_ty2 (p:=6) (u:=7) rfl _ _ (w.heap.size+1+1) 0 0 0 rfl HZ4.out) rfl (tyz_none HO.out ⟨rfl,HB4.out⟩)
 | some uk=>
  simp only [tyR,tyV,Option.isSome_some] at HU;have HO:=Hd (show o=some (uk,0,0) from HO.out)
  go_upto_region 5 with(fail)
  refine wp_region_out (l1:=[_,_,_,_,_,_,_,_,_,_,_]) (os:=_) (l2:=[_]) (p:=6) (tx:=35) (r:=w.heap.size+1+1) (T:=41) (zc:=f3A 0 0 0) (by kernel_rfl) (by kernel_rfl) rfl HR.out rfl infoTy0 ?_
  repeat
   apply fix_step rfl (by simp)
   case h1=>
    intro wb hb;have l0:=fun d os=>cell_regrown (bs_cell hb hne a0) d os;have l1:=fun d os=>cell_regrown (bs_cell hb hne a1) d os;have l2:=fun d os=>cell_regrown (bs_cell hb hne a2) d os;have l3:=fun d os=>cell_regrown (bs_cell hb hne b0) d os;have l4:=fun d os=>cell_regrown (bs_cell hb hne b1) d os;have l5:=fun d os=>cell_regrown (bs_cell hb hne b2) d os;have l6:=fun d os=>cell_regrown (bs_cell hb hnx r3) d os;have cA:=fun d os=>Calls.regrown_of (HU.out (grow (redrawn wb d) os))
    go_big_quiet_step (first | with_reducible exact cA _ _)
    refine wpQuiet_nil ?_;simp only [List.getElem?_toArray,List.getElem?_cons_succ,List.getElem?_cons_zero];exact rfl
   simp only [Act.put,Yd,Ye,Yf]
  refine⟨f3A uk 0 0,rfl,rfl,by simp [f3A,Value.oneCell'],fun W hB hz=>?_⟩;have HB4:=Hd (bs_below hB HB0.out (Nat.le_refl _) (by omega));have HZ4:=Hd hz;clear hB hz
  go_wp2_with fail
  exact bodyPost_ret (res_ty2 (p:=6) (u:=7) rfl _ _ (w.heap.size+1+1) uk 0 0 rfl HZ4.out) rfl (tyz_some HO.out ⟨rfl,HB4.out⟩)
theorem trOver10(p:Pg) (x:Nd) (r:Rm) (y:Ex) (A:Option Addr) (ca:Nat) (B:Option Addr) (cb:Nat) (S:Option Addr) (m sc:Nat) (ts:List T3) (w:World) (h:rdRm w p x r) (hS:RdY w S m ts) (hk:y.k=10) (hm:1≤m) (o:Option T3) (ho:some (atT ts 0)=o):
 Calls Tryz.prog 115 #[.agg (rvA p x r),.agg (exA y A ca B cb),.slice S m sc] w (TyZ w o):=by
 have HF:=Hd fun w0 hw=>any_box2Z (w:=w) (w1:=w0) (cs:=rvA p x r) (ds:=exA y A ca B cb) (T:=69) (U:=52) (V:=41) hw;obtain⟨sb,so,rfl,hsb,hsc⟩:=hS.at_ (i:=0) (by omega);obtain⟨a0,a1,a2⟩:=hsc 0 (by omega);simp only [Nat.zero_mul,Nat.add_zero] at a0 a1 a2;generalize ht0:atT ts 0=tx at *;obtain⟨x0,x1,x2⟩:=tx
 dsimp only at a0 a1 a2
 have HO:=Hd ho.symm;clear ho h;unfold rvA exA at *;rw [hk] at HF ⊢;clear hS hsc
 go_enter Tryz.func115,Tryz.ntmps115
 go_upto_region 1 with(fail)
 generalize hw0:((w.alloc _).alloc _).alloc _=w0;obtain⟨hb0,hsz,hce,hce2,hR⟩:=HF.out w0 hw0;have HB0:=Hd hb0;have HR:=Hd hR;have r0:=hce2 w0 (Below.refl _ _) 0;simp only [Ya,Yb,Yc] at r0;have a0:=(hb0.cell (p:=⟨sb,so,none⟩) hsb).trans a0;have a1:=(hb0.cell (p:=⟨sb,so+1,none⟩) hsb).trans a1;have a2:=(hb0.cell (p:=⟨sb,so+2,none⟩) hsb).trans a2;have h0m:0<m:=by omega
 have hne:sb≠w.heap.size+1+1:=by omega
 have hsb0:sb<w0.heap.size:=Nat.lt_of_lt_of_le hsb HB0.out.size;have hnr:w.heap.size≠w.heap.size+1+1:=by omega
 have hnx:w.heap.size+1≠w.heap.size+1+1:=by omega
 clear hw0 hce hce2 hR HF
 go_wp2_with (refine wpList_store_row rfl _ _ _ rfl (w.heap.size+1+1) _ rfl rfl _ _ HR.out ty3_info rfl (by simp [Value.oneCell']) ?_)
 exact bodyPost_ret (res_ty2 (p:=6) (u:=7) rfl _ _ (w.heap.size+1+1) x0 x1 x2 rfl (HR.out.set x0 x1 x2)) rfl (tyz_some HO.out ⟨rfl,below_setRow HB0.out (by omega) _⟩)
theorem trOver11(p:Pg) (x:Nd) (r:Rm) (y:Ex) (A:Option Addr) (ca:Nat) (B:Option Addr) (cb:Nat) (S:Option Addr) (m sc:Nat) (ts:List T3) (w:World) (h:rdRm w p x r) (hS:RdY w S m ts) (hr:rdX w y A B) (hk:y.k=11) (hm:1≤m) (o:Option T3) (ho:(if takesB p.es x y.s y.arms=true then some (atT ts 0) else none)=o):
 Calls Tryz.prog 115 #[.agg (rvA p x r),.agg (exA y A ca B cb),.slice S m sc] w (TyZ w o):=by
 have HF:=Hd fun w0 hw=>any_box2Z (w:=w) (w1:=w0) (cs:=rvA p x r) (ds:=exA y A ca B cb) (T:=69) (U:=52) (V:=41) hw;obtain⟨sb,so,rfl,hsb,hsc⟩:=hS.at_ (i:=0) (by omega);obtain⟨a0,a1,a2⟩:=hsc 0 (by omega);simp only [Nat.zero_mul,Nat.add_zero] at a0 a1 a2;have HTK:=Hd fun w1 (hb:Below w.heap.size w w1)=>trTakes p x r y.s A y.arms.length ca y.arms w1 (h.below hb) (hr.below hb).arms;generalize ht0:atT ts 0=tx at *;obtain⟨x0,x1,x2⟩:=tx
 dsimp only at a0 a1 a2
 have HO:=Hd ho.symm;clear ho h hr;generalize takesB p.es x y.s y.arms=tb at *;unfold rvA exA at *;rw [hk] at HF ⊢;clear hS hsc
 go_enter Tryz.func115,Tryz.ntmps115
 go_upto_region 1 with(fail)
 generalize hw0:((w.alloc _).alloc _).alloc _=w0;obtain⟨hb0,hsz,hce,hce2,hR⟩:=HF.out w0 hw0;have HB0:=Hd hb0;have HR:=Hd hR;obtain⟨q0,q1,q2,q3,q4,q5⟩:=Sx (hce w0 (Below.refl _ _));have q6:=hce w0 (Below.refl _ _) 6;obtain⟨r0,-,r2,-,r4,-⟩:=Sx (hce2 w0 (Below.refl _ _));simp only [Ya,Yb,Yc] at q0 q1 q2 q3 q4 q5 q6 r0 r2 r4;have a0:=(hb0.cell (p:=⟨sb,so,none⟩) hsb).trans a0;have a1:=(hb0.cell (p:=⟨sb,so+1,none⟩) hsb).trans a1;have a2:=(hb0.cell (p:=⟨sb,so+2,none⟩) hsb).trans a2;have h0m:0<m:=by omega
 have hne:sb≠w.heap.size+1+1:=by omega
 have hsb0:sb<w0.heap.size:=Nat.lt_of_lt_of_le hsb HB0.out.size;have hnr:w.heap.size≠w.heap.size+1+1:=by omega
 have hnx:w.heap.size+1≠w.heap.size+1+1:=by omega
 clear hw0 hce hce2 hR HF
 cases tb with
 | false=>
  have HO:=Hd (show o=none from HO.out);have HON:=Hd fun w1=>trOnly x0 x1 x2 false w1;unfold TyZ f3A at HON;simp only [Bool.false_eq_true,if_false,if_true,Option.getD_none,Option.getD_some,Option.isSome_none,Option.isSome_some] at HON
  go_upto_region 16 with(fail)
  refine wp_region_out (l1:=[_,_,_,_,_,_,_,_,_,_,_,_]) (os:=_) (l2:=[_]) (p:=6) (tx:=123) (r:=w.heap.size+1+1) (T:=41) (zc:=f3A 0 0 0) (by kernel_rfl) (by kernel_rfl) rfl HR.out rfl infoTy0 ?_
  repeat
   apply fix_step rfl (by simp)
   case h1=>
    intro wb hb;have l0:=fun d os=>cell_regrown (bs_cell hb hne a0) d os;have l1:=fun d os=>cell_regrown (bs_cell hb hne a1) d os;have l2:=fun d os=>cell_regrown (bs_cell hb hne a2) d os;have l3:=fun d os=>cell_regrown (bs_cell hb hnr q0) d os;have l4:=fun d os=>cell_regrown (bs_cell hb hnr q1) d os;have l5:=fun d os=>cell_regrown (bs_cell hb hnr q2) d os;have l6:=fun d os=>cell_regrown (bs_cell hb hnr q3) d os;have l7:=fun d os=>cell_regrown (bs_cell hb hnr q4) d os;have l8:=fun d os=>cell_regrown (bs_cell hb hnr q5) d os;have l9:=fun d os=>cell_regrown (bs_cell hb hnr q6) d os;have l10:=fun d os=>cell_regrown (bs_cell hb hnx r2) d os;have l11:=fun d os=>cell_regrown (bs_cell hb hnx r4) d os;have cA:=fun d os=>Calls.regrown_of (HTK.out (grow (redrawn wb d) os) (below_next2 (bs_below hb HB0.out (Nat.le_refl _) (by omega)) (below_regrown wb d os)));have cO:=fun d os=>Calls.regrown_of (HON.out (grow (redrawn wb d) os))
    go_big_quiet_step (first | with_reducible exact cA _ _ | with_reducible exact cO _ _)
    refine wpQuiet_nil ?_;simp only [List.getElem?_toArray,List.getElem?_cons_succ,List.getElem?_cons_zero];exact rfl
   simp only [Act.put,Yd,Ye,Yf]
  refine⟨f3A 0 0 0,rfl,rfl,by simp [f3A,Value.oneCell'],fun W hB hz=>?_⟩;have HB4:=Hd (bs_below hB HB0.out (Nat.le_refl _) (by omega));have HZ4:=Hd hz;clear hB hz
  go_wp2_with fail
  exact bodyPost_ret (res_ty2 (p:=6) (u:=7) rfl _ _ (w.heap.size+1+1) 0 0 0 rfl HZ4.out) rfl (tyz_none HO.out ⟨rfl,HB4.out⟩)
 | true=>
  have HO:=Hd (show o=some (x0,x1,x2) from HO.out);have HON:=Hd fun w1=>trOnly x0 x1 x2 true w1;unfold TyZ f3A at HON;simp only [Bool.false_eq_true,if_false,if_true,Option.getD_none,Option.getD_some,Option.isSome_none,Option.isSome_some] at HON
  go_upto_region 16 with(fail)
  refine wp_region_out (l1:=[_,_,_,_,_,_,_,_,_,_,_,_]) (os:=_) (l2:=[_]) (p:=6) (tx:=123) (r:=w.heap.size+1+1) (T:=41) (zc:=f3A 0 0 0) (by kernel_rfl) (by kernel_rfl) rfl HR.out rfl infoTy0 ?_
  repeat
   apply fix_step rfl (by simp)
   case h1=>
    intro wb hb;have l0:=fun d os=>cell_regrown (bs_cell hb hne a0) d os;have l1:=fun d os=>cell_regrown (bs_cell hb hne a1) d os;have l2:=fun d os=>cell_regrown (bs_cell hb hne a2) d os;have l3:=fun d os=>cell_regrown (bs_cell hb hnr q0) d os;have l4:=fun d os=>cell_regrown (bs_cell hb hnr q1) d os;have l5:=fun d os=>cell_regrown (bs_cell hb hnr q2) d os;have l6:=fun d os=>cell_regrown (bs_cell hb hnr q3) d os;have l7:=fun d os=>cell_regrown (bs_cell hb hnr q4) d os;have l8:=fun d os=>cell_regrown (bs_cell hb hnr q5) d os;have l9:=fun d os=>cell_regrown (bs_cell hb hnr q6) d os;have l10:=fun d os=>cell_regrown (bs_cell hb hnx r2) d os;have l11:=fun d os=>cell_regrown (bs_cell hb hnx r4) d os;have cA:=fun d os=>Calls.regrown_of (HTK.out (grow (redrawn wb d) os) (below_next2 (bs_below hb HB0.out (Nat.le_refl _) (by omega)) (below_regrown wb d os)));have cO:=fun d os=>Calls.regrown_of (HON.out (grow (redrawn wb d) os))
    go_big_quiet_step (first | with_reducible exact cA _ _ | with_reducible exact cO _ _)
    refine wpQuiet_nil ?_;simp only [List.getElem?_toArray,List.getElem?_cons_succ,List.getElem?_cons_zero];exact rfl
   simp only [Act.put,Yd,Ye,Yf]
  refine⟨f3A x0 x1 x2,rfl,rfl,by simp [f3A,Value.oneCell'],fun W hB hz=>?_⟩;have HB4:=Hd (bs_below hB HB0.out (Nat.le_refl _) (by omega));have HZ4:=Hd hz;clear hB hz
  go_wp2_with fail
  exact bodyPost_ret (res_ty2 (p:=6) (u:=7) rfl _ _ (w.heap.size+1+1) x0 x1 x2 rfl HZ4.out) rfl (tyz_some HO.out ⟨rfl,HB4.out⟩)
theorem trOver12(p:Pg) (x:Nd) (r:Rm) (y:Ex) (A:Option Addr) (ca:Nat) (B:Option Addr) (cb:Nat) (S:Option Addr) (m sc:Nat) (ts:List T3) (w:World) (h:rdRm w p x r) (hS:RdY w S m ts) (hr:rdX w y A B) (hk:y.k=12) (hm:1≤m) (hna:0<y.arms.length) (hrt:∀ d,declO x y.s=some d→rightB p.es.length d.k d.e d.l=true) (o:Option T3) (ho:(if(allT ts && mergesB p.es x y.s y.arms)=true then some (atT ts 0) else none)=o):
 Calls Tryz.prog 115 #[.agg (rvA p x r),.agg (exA y A ca B cb),.slice S m sc] w (TyZ w o):=by
 have HF:=Hd fun w0 hw=>any_box2Z (w:=w) (w1:=w0) (cs:=rvA p x r) (ds:=exA y A ca B cb) (T:=69) (U:=52) (V:=41) hw;have hS2:=hS;obtain⟨sb,so,rfl,hsb,hsc⟩:=hS.at_ (i:=0) (by omega);obtain⟨a0,a1,a2⟩:=hsc 0 (by omega);simp only [Nat.zero_mul,Nat.add_zero] at a0 a1 a2;have HTK:=Hd fun w1 (hb:Below w.heap.size w w1)=>trMerges p x r y.s A y.arms.length ca y.arms w1 (h.below hb) (hr.below hb).arms hna hrt;have HAL:=Hd fun w1 (hb:Below w.heap.size w w1)=>trAll (atT ts 0).1 (atT ts 0).2.1 (atT ts 0).2.2 (some ⟨sb,so,none⟩) m sc ts w1 (hS2.below hb);rw [show allB ((atT ts 0).1,(atT ts 0).2.1,(atT ts 0).2.2) ts=allT ts from rfl] at HAL;unfold f3A at HAL;generalize ht0:atT ts 0=tx at *;obtain⟨x0,x1,x2⟩:=tx
 dsimp only at a0 a1 a2
 have HO:=Hd ho.symm;clear ho h hr hS2;generalize mergesB p.es x y.s y.arms=tb at *;generalize allT ts=al at *;unfold rvA exA at *;rw [hk] at HF ⊢;clear hS hsc
 go_enter Tryz.func115,Tryz.ntmps115
 go_upto_region 1 with(fail)
 generalize hw0:((w.alloc _).alloc _).alloc _=w0;obtain⟨hb0,hsz,hce,hce2,hR⟩:=HF.out w0 hw0;have HB0:=Hd hb0;have HR:=Hd hR;obtain⟨q0,q1,q2,q3,q4,q5⟩:=Sx (hce w0 (Below.refl _ _));have q6:=hce w0 (Below.refl _ _) 6;obtain⟨r0,-,r2,-,r4,-⟩:=Sx (hce2 w0 (Below.refl _ _));simp only [Ya,Yb,Yc] at q0 q1 q2 q3 q4 q5 q6 r0 r2 r4;have a0:=(hb0.cell (p:=⟨sb,so,none⟩) hsb).trans a0;have a1:=(hb0.cell (p:=⟨sb,so+1,none⟩) hsb).trans a1;have a2:=(hb0.cell (p:=⟨sb,so+2,none⟩) hsb).trans a2;have h0m:0<m:=by omega
 have hne:sb≠w.heap.size+1+1:=by omega
 have hsb0:sb<w0.heap.size:=Nat.lt_of_lt_of_le hsb HB0.out.size;have hnr:w.heap.size≠w.heap.size+1+1:=by omega
 have hnx:w.heap.size+1≠w.heap.size+1+1:=by omega
 clear hw0 hce hce2 hR HF
 cases al with
 | false=>
  clear HTK;have HO:=Hd (show o=none from HO.out);have HON:=Hd fun w1=>trOnly x0 x1 x2 false w1;unfold TyZ f3A at HON;simp only [Bool.false_eq_true,if_false,Option.getD_none,Option.isSome_none] at HON
  go_upto_region 18 with(fail)
  refine wp_region_out (l1:=[_,_,_,_,_,_,_,_,_,_,_,_,_,_,_,_,_,_,_]) (os:=_) (l2:=[_]) (p:=6) (tx:=144) (r:=w.heap.size+1+1) (T:=41) (zc:=f3A 0 0 0) (by kernel_rfl) (by kernel_rfl) rfl HR.out rfl infoTy0 ?_
  repeat
   apply fix_step rfl (by simp)
   case h1=>
    intro wb hb;have l0:=fun d os=>cell_regrown (bs_cell hb hne a0) d os;have l1:=fun d os=>cell_regrown (bs_cell hb hne a1) d os;have l2:=fun d os=>cell_regrown (bs_cell hb hne a2) d os;have l3:=fun d os=>cell_regrown (bs_cell hb hnr q0) d os;have l4:=fun d os=>cell_regrown (bs_cell hb hnr q1) d os;have l5:=fun d os=>cell_regrown (bs_cell hb hnr q2) d os;have l6:=fun d os=>cell_regrown (bs_cell hb hnr q3) d os;have l7:=fun d os=>cell_regrown (bs_cell hb hnr q4) d os;have l8:=fun d os=>cell_regrown (bs_cell hb hnr q5) d os;have l9:=fun d os=>cell_regrown (bs_cell hb hnr q6) d os;have l10:=fun d os=>cell_regrown (bs_cell hb hnx r2) d os;have l11:=fun d os=>cell_regrown (bs_cell hb hnx r4) d os;have cB:=fun d os=>Calls.regrown_of (HAL.out (grow (redrawn wb d) os) (below_next2 (bs_below hb HB0.out (Nat.le_refl _) (by omega)) (below_regrown wb d os)));have cO:=fun d os=>Calls.regrown_of (HON.out (grow (redrawn wb d) os))
    go_big_quiet_step (first | with_reducible exact cB _ _ | with_reducible exact cO _ _)
    refine wpQuiet_nil ?_;simp only [List.getElem?_toArray,List.getElem?_cons_succ,List.getElem?_cons_zero];exact rfl
   simp only [Act.put,Yd,Ye,Yf]
  refine⟨f3A 0 0 0,rfl,rfl,by simp [f3A,Value.oneCell'],fun W hB hz=>?_⟩;have HB4:=Hd (bs_below hB HB0.out (Nat.le_refl _) (by omega));have HZ4:=Hd hz;clear hB hz
  go_wp2_with fail
  exact bodyPost_ret (res_ty2 (p:=6) (u:=7) rfl _ _ (w.heap.size+1+1) 0 0 0 rfl HZ4.out) rfl (tyz_none HO.out ⟨rfl,HB4.out⟩)
 | true=>
  cases tb with
  | false=>
   have HO:=Hd (show o=none from HO.out);have HON:=Hd fun w1=>trOnly x0 x1 x2 false w1;unfold TyZ f3A at HON;simp only [Bool.false_eq_true,if_false,if_true,Option.getD_none,Option.getD_some,Option.isSome_none,Option.isSome_some] at HON
   go_upto_region 18 with(fail)
   refine wp_region_out (l1:=[_,_,_,_,_,_,_,_,_,_,_,_,_,_,_,_,_,_,_]) (os:=_) (l2:=[_]) (p:=6) (tx:=144) (r:=w.heap.size+1+1) (T:=41) (zc:=f3A 0 0 0) (by kernel_rfl) (by kernel_rfl) rfl HR.out rfl infoTy0 ?_
   repeat
    apply fix_step rfl (by simp)
    case h1=>
     intro wb hb;have l0:=fun d os=>cell_regrown (bs_cell hb hne a0) d os;have l1:=fun d os=>cell_regrown (bs_cell hb hne a1) d os;have l2:=fun d os=>cell_regrown (bs_cell hb hne a2) d os;have l3:=fun d os=>cell_regrown (bs_cell hb hnr q0) d os;have l4:=fun d os=>cell_regrown (bs_cell hb hnr q1) d os;have l5:=fun d os=>cell_regrown (bs_cell hb hnr q2) d os;have l6:=fun d os=>cell_regrown (bs_cell hb hnr q3) d os;have l7:=fun d os=>cell_regrown (bs_cell hb hnr q4) d os;have l8:=fun d os=>cell_regrown (bs_cell hb hnr q5) d os;have l9:=fun d os=>cell_regrown (bs_cell hb hnr q6) d os;have l10:=fun d os=>cell_regrown (bs_cell hb hnx r2) d os;have l11:=fun d os=>cell_regrown (bs_cell hb hnx r4) d os;have cB:=fun d os=>Calls.regrown_of (HAL.out (grow (redrawn wb d) os) (below_next2 (bs_below hb HB0.out (Nat.le_refl _) (by omega)) (below_regrown wb d os)));have cA:=fun d os=>Calls.regrown_of (HTK.out (grow (redrawn wb d) os) (below_next2 (bs_below hb HB0.out (Nat.le_refl _) (by omega)) (below_regrown wb d os)));have cO:=fun d os=>Calls.regrown_of (HON.out (grow (redrawn wb d) os))
     go_big_quiet_step (first | with_reducible exact cB _ _ | with_reducible exact cA _ _ | with_reducible exact cO _ _)
     refine wpQuiet_nil ?_;simp only [List.getElem?_toArray,List.getElem?_cons_succ,List.getElem?_cons_zero];exact rfl
    simp only [Act.put,Yd,Ye,Yf]
   refine⟨f3A 0 0 0,rfl,rfl,by simp [f3A,Value.oneCell'],fun W hB hz=>?_⟩;have HB4:=Hd (bs_below hB HB0.out (Nat.le_refl _) (by omega));have HZ4:=Hd hz;clear hB hz
   go_wp2_with fail
   exact bodyPost_ret (res_ty2 (p:=6) (u:=7) rfl _ _ (w.heap.size+1+1) 0 0 0 rfl HZ4.out) rfl (tyz_none HO.out ⟨rfl,HB4.out⟩)
  | true=>
   have HO:=Hd (show o=some (x0,x1,x2) from HO.out);have HON:=Hd fun w1=>trOnly x0 x1 x2 true w1;unfold TyZ f3A at HON;simp only [Bool.false_eq_true,if_false,if_true,Option.getD_none,Option.getD_some,Option.isSome_none,Option.isSome_some] at HON
   go_upto_region 18 with(fail)
   refine wp_region_out (l1:=[_,_,_,_,_,_,_,_,_,_,_,_,_,_,_,_,_,_,_]) (os:=_) (l2:=[_]) (p:=6) (tx:=144) (r:=w.heap.size+1+1) (T:=41) (zc:=f3A 0 0 0) (by kernel_rfl) (by kernel_rfl) rfl HR.out rfl infoTy0 ?_
   repeat
    apply fix_step rfl (by simp)
    case h1=>
     intro wb hb;have l0:=fun d os=>cell_regrown (bs_cell hb hne a0) d os;have l1:=fun d os=>cell_regrown (bs_cell hb hne a1) d os;have l2:=fun d os=>cell_regrown (bs_cell hb hne a2) d os;have l3:=fun d os=>cell_regrown (bs_cell hb hnr q0) d os;have l4:=fun d os=>cell_regrown (bs_cell hb hnr q1) d os;have l5:=fun d os=>cell_regrown (bs_cell hb hnr q2) d os;have l6:=fun d os=>cell_regrown (bs_cell hb hnr q3) d os;have l7:=fun d os=>cell_regrown (bs_cell hb hnr q4) d os;have l8:=fun d os=>cell_regrown (bs_cell hb hnr q5) d os;have l9:=fun d os=>cell_regrown (bs_cell hb hnr q6) d os;have l10:=fun d os=>cell_regrown (bs_cell hb hnx r2) d os;have l11:=fun d os=>cell_regrown (bs_cell hb hnx r4) d os;have cB:=fun d os=>Calls.regrown_of (HAL.out (grow (redrawn wb d) os) (below_next2 (bs_below hb HB0.out (Nat.le_refl _) (by omega)) (below_regrown wb d os)));have cA:=fun d os=>Calls.regrown_of (HTK.out (grow (redrawn wb d) os) (below_next2 (bs_below hb HB0.out (Nat.le_refl _) (by omega)) (below_regrown wb d os)));have cO:=fun d os=>Calls.regrown_of (HON.out (grow (redrawn wb d) os))
     go_big_quiet_step (first | with_reducible exact cB _ _ | with_reducible exact cA _ _ | with_reducible exact cO _ _)
     refine wpQuiet_nil ?_;simp only [List.getElem?_toArray,List.getElem?_cons_succ,List.getElem?_cons_zero];exact rfl
    simp only [Act.put,Yd,Ye,Yf]
   refine⟨f3A x0 x1 x2,rfl,rfl,by simp [f3A,Value.oneCell'],fun W hB hz=>?_⟩;have HB4:=Hd (bs_below hB HB0.out (Nat.le_refl _) (by omega));have HZ4:=Hd hz;clear hB hz
   go_wp2_with fail
   exact bodyPost_ret (res_ty2 (p:=6) (u:=7) rfl _ _ (w.heap.size+1+1) x0 x1 x2 rfl HZ4.out) rfl (tyz_some HO.out ⟨rfl,HB4.out⟩)
theorem trOver15(p:Pg) (x:Nd) (r:Rm) (y:Ex) (A:Option Addr) (ca:Nat) (B:Option Addr) (cb:Nat) (S:Option Addr) (m sc:Nat) (ts:List T3) (w:World) (h:rdRm w p x r) (hS:RdY w S m ts) (hk:y.k=15) (hm:2≤m) (o:Option T3) (ho:(if placedT ts=true then some (oneT (atT ts 0)) else none)=o):
 Calls Tryz.prog 115 #[.agg (rvA p x r),.agg (exA y A ca B cb),.slice S m sc] w (TyZ w o):=by
 have HF:=Hd fun w0 hw=>any_box2Z (w:=w) (w1:=w0) (cs:=rvA p x r) (ds:=exA y A ca B cb) (T:=69) (U:=52) (V:=41) hw;have hS2:=hS;obtain⟨sb,so,rfl,hsb,hsc⟩:=hS.at_ (i:=0) (by omega);obtain⟨a0,a1,a2⟩:=hsc 0 (by omega);simp only [Nat.zero_mul,Nat.add_zero] at a0 a1 a2;have HPL:=Hd fun w1 (hb:Below w.heap.size w w1)=>trPlaced (some ⟨sb,so,none⟩) m sc ts w1 (hS2.below hb) hm;have HON1:=Hd fun w1=>tyOne (atT ts 0).1 (atT ts 0).2.1 (atT ts 0).2.2 w1;unfold tyV at HON1;unfold oneT at ho;generalize ht0:atT ts 0=tx at *;obtain⟨x0,x1,x2⟩:=tx
 dsimp only at a0 a1 a2
 have HO:=Hd ho.symm;clear ho h hS2;generalize placedT ts=al at *;have HON0:=Hd fun(so:Bool) w1=>trOnly x0 x1 0 so w1;unfold TyZ f3A at HON0;unfold rvA exA at *;rw [hk] at HF ⊢;clear hS hsc
 go_enter Tryz.func115,Tryz.ntmps115
 go_upto_region 1 with(fail)
 generalize hw0:((w.alloc _).alloc _).alloc _=w0;obtain⟨hb0,hsz,hce,hce2,hR⟩:=HF.out w0 hw0;have HB0:=Hd hb0;have HR:=Hd hR;have r0:=hce2 w0 (Below.refl _ _) 0;simp only [Ya,Yb,Yc] at r0;have a0:=(hb0.cell (p:=⟨sb,so,none⟩) hsb).trans a0;have a1:=(hb0.cell (p:=⟨sb,so+1,none⟩) hsb).trans a1;have a2:=(hb0.cell (p:=⟨sb,so+2,none⟩) hsb).trans a2;have h0m:0<m:=by omega
 have hne:sb≠w.heap.size+1+1:=by omega
 have hsb0:sb<w0.heap.size:=Nat.lt_of_lt_of_le hsb HB0.out.size;have hnr:w.heap.size≠w.heap.size+1+1:=by omega
 have hnx:w.heap.size+1≠w.heap.size+1+1:=by omega
 clear hw0 hce hce2 hR HF
 cases al with
 | false=>
  have HO:=Hd (show o=none from HO.out);have HON:=Hd fun w1=>HON0.out false w1;simp only [Bool.false_eq_true,if_false,if_true,Option.getD_none,Option.getD_some,Option.isSome_none,Option.isSome_some] at HON
  go_wp2_with fail
  refine(HON1.out w0).mono ?_;rintro e w1 ⟨rfl,hb1⟩;have HB1:=Hd (below_next2 HB0.out hb1);have HR1:=Hd (HR.out.below hb1);clear hb1 a0 a1 a2
  go_wp2_with fail
  refine(HPL.out w1 HB1.out).mono ?_;rintro e w2 ⟨rfl,hb2⟩;have HB2:=Hd (below_next2 HB1.out hb2);have HR2:=Hd (HR1.out.below hb2);clear hb2
  go_wp2_with fail
  refine(HON.out w2).mono ?_;rintro e w3 ⟨rfl,hb3⟩;have HB3:=Hd (below_next2 HB2.out hb3);have HR3:=Hd (HR2.out.below hb3);clear hb3
  go_wp2_with (refine wpList_store_row rfl _ _ _ rfl (w.heap.size+1+1) _ rfl rfl _ _ HR3.out ty3_info rfl (by simp [Value.oneCell']) ?_)
  exact bodyPost_ret (res_ty2 (p:=6) (u:=7) rfl _ _ (w.heap.size+1+1) 0 0 0 rfl (HR3.out.set _ _ _)) rfl (tyz_none HO.out ⟨rfl,below_setRow HB3.out (by omega) _⟩)
 | true=>
  have HO:=Hd (show o=some (x0,x1,0) from HO.out);have HON:=Hd fun w1=>HON0.out true w1;simp only [Bool.false_eq_true,if_false,if_true,Option.getD_none,Option.getD_some,Option.isSome_none,Option.isSome_some] at HON
  go_wp2_with fail
  refine(HON1.out w0).mono ?_;rintro e w1 ⟨rfl,hb1⟩;have HB1:=Hd (below_next2 HB0.out hb1);have HR1:=Hd (HR.out.below hb1);clear hb1 a0 a1 a2
  go_wp2_with fail
  refine(HPL.out w1 HB1.out).mono ?_;rintro e w2 ⟨rfl,hb2⟩;have HB2:=Hd (below_next2 HB1.out hb2);have HR2:=Hd (HR1.out.below hb2);clear hb2
  go_wp2_with fail
  refine(HON.out w2).mono ?_;rintro e w3 ⟨rfl,hb3⟩;have HB3:=Hd (below_next2 HB2.out hb3);have HR3:=Hd (HR2.out.below hb3);clear hb3
  go_wp2_with (refine wpList_store_row rfl _ _ _ rfl (w.heap.size+1+1) _ rfl rfl _ _ HR3.out ty3_info rfl (by simp [Value.oneCell']) ?_)
  exact bodyPost_ret (res_ty2 (p:=6) (u:=7) rfl _ _ (w.heap.size+1+1) x0 x1 0 rfl (HR3.out.set _ _ _)) rfl (tyz_some HO.out ⟨rfl,below_setRow HB3.out (by omega) _⟩)
theorem trOver16f(p:Pg) (x:Nd) (r:Rm) (y:Ex) (A:Option Addr) (ca:Nat) (B:Option Addr) (cb:Nat) (S:Option Addr) (m sc:Nat) (ts:List T3) (w:World) (h:rdRm w p x r) (hS:RdY w S m ts) (hk:y.k=16) (hm:3≤m) (o:Option T3) (ho:none=o) (hpl:placedT ts=false):
 Calls Tryz.prog 115 #[.agg (rvA p x r),.agg (exA y A ca B cb),.slice S m sc] w (TyZ w o):=by
 have HF:=Hd fun w0 hw=>any_box2Z (w:=w) (w1:=w0) (cs:=rvA p x r) (ds:=exA y A ca B cb) (T:=69) (U:=52) (V:=41) hw;have hS2:=hS;obtain⟨sb,so,rfl,hsb,hsc⟩:=hS.at_ (i:=0) (by omega);obtain⟨a0,a1,a2⟩:=hsc 0 (by omega);obtain⟨b0,b1,b2⟩:=hsc 1 (by omega);obtain⟨c0,c1,c2⟩:=hsc 2 (by omega);simp only [Nat.zero_mul,Nat.add_zero,Nat.one_mul] at a0 a1 a2 b0 b1 b2 c0 c1 c2;have HPL:=Hd fun w1 (hb:Below w.heap.size w w1)=>trPlaced (some ⟨sb,so,none⟩) m sc ts w1 (hS2.below hb) (by omega);rw [hpl] at HPL;generalize ht0:atT ts 0=tx at *;generalize ht1:atT ts 1=ty at *;generalize ht2:atT ts 2=tz at *;obtain⟨x0,x1,x2⟩:=tx;obtain⟨y0,y1,y2⟩:=ty;obtain⟨z0,z1,z2⟩:=tz
 dsimp only at a0 a1 a2 b0 b1 b2 c0 c1 c2
 have HO:=Hd ho.symm;clear ho h hS2 hpl;have HON:=Hd fun w1=>trOnly x0 x1 x2 false w1;unfold TyZ f3A at HON;simp only [Bool.false_eq_true,if_false,Option.getD_none,Option.isSome_none] at HON;unfold rvA exA at *;rw [hk] at HF ⊢;clear hS hsc
 go_enter Tryz.func115,Tryz.ntmps115
 go_upto_region 1 with(fail)
 generalize hw0:((w.alloc _).alloc _).alloc _=w0;obtain⟨hb0,hsz,hce,hce2,hR⟩:=HF.out w0 hw0;have HB0:=Hd hb0;have HR:=Hd hR;have r0:=hce2 w0 (Below.refl _ _) 0;simp only [Ya,Yb,Yc] at r0;have a0:=(hb0.cell (p:=⟨sb,so,none⟩) hsb).trans a0;have a1:=(hb0.cell (p:=⟨sb,so+1,none⟩) hsb).trans a1;have a2:=(hb0.cell (p:=⟨sb,so+2,none⟩) hsb).trans a2;have b0:=(hb0.cell (p:=⟨sb,so+3,none⟩) hsb).trans b0;have b1:=(hb0.cell (p:=⟨sb,so+3+1,none⟩) hsb).trans b1;have b2:=(hb0.cell (p:=⟨sb,so+3+2,none⟩) hsb).trans b2;have c0:=(hb0.cell (p:=⟨sb,so+2*3,none⟩) hsb).trans c0;have c1:=(hb0.cell (p:=⟨sb,so+2*3+1,none⟩) hsb).trans c1;have c2:=(hb0.cell (p:=⟨sb,so+2*3+2,none⟩) hsb).trans c2;have h0m:0<m:=by omega
 have h1m:1<m:=by omega
 have h2m:2<m:=by omega
 have hne:sb≠w.heap.size+1+1:=by omega
 have hsb0:sb<w0.heap.size:=Nat.lt_of_lt_of_le hsb HB0.out.size;have hnr:w.heap.size≠w.heap.size+1+1:=by omega
 have hnx:w.heap.size+1≠w.heap.size+1+1:=by omega
 clear hw0 hce hce2 hR HF
 go_upto_region 28 with(fail)
 refine wp_region_out (l1:=[_,_,_,_,_,_,_,_,_,_,_,_,_,_,_,_,_,_,_]) (os:=_) (l2:=[_]) (p:=6) (tx:=200) (r:=w.heap.size+1+1) (T:=41) (zc:=f3A 0 0 0) (by kernel_rfl) (by kernel_rfl) rfl HR.out rfl infoTy0 ?_
 repeat
  apply fix_step rfl (by simp)
  case h1=>
   intro wb hb;have l0:=fun d os=>cell_regrown (bs_cell hb hne a0) d os;have l1:=fun d os=>cell_regrown (bs_cell hb hne a1) d os;have l2:=fun d os=>cell_regrown (bs_cell hb hne a2) d os;have l3:=fun d os=>cell_regrown (bs_cell hb hne b0) d os;have l4:=fun d os=>cell_regrown (bs_cell hb hne b1) d os;have l5:=fun d os=>cell_regrown (bs_cell hb hne b2) d os;have l6:=fun d os=>cell_regrown (bs_cell hb hne c0) d os;have l7:=fun d os=>cell_regrown (bs_cell hb hne c1) d os;have l8:=fun d os=>cell_regrown (bs_cell hb hne c2) d os;have cB:=fun d os=>Calls.regrown_of (HPL.out (grow (redrawn wb d) os) (below_next2 (bs_below hb HB0.out (Nat.le_refl _) (by omega)) (below_regrown wb d os)));have cO:=fun d os=>Calls.regrown_of (HON.out (grow (redrawn wb d) os))
   go_big_quiet_step (first | with_reducible exact cB _ _ | with_reducible exact cO _ _)
   refine wpQuiet_nil ?_;simp only [List.getElem?_toArray,List.getElem?_cons_succ,List.getElem?_cons_zero];exact rfl
  simp only [Act.put,Yd,Ye,Yf]
 refine⟨f3A 0 0 0,rfl,rfl,by simp [f3A,Value.oneCell'],fun W hB hz=>?_⟩;have HB4:=Hd (bs_below hB HB0.out (Nat.le_refl _) (by omega));have HZ4:=Hd hz;clear hB hz
 go_wp2_with fail
 exact bodyPost_ret (res_ty2 (p:=6) (u:=7) rfl _ _ (w.heap.size+1+1) 0 0 0 rfl HZ4.out) rfl (tyz_none HO.out ⟨rfl,HB4.out⟩)
end
end Go.Proofs.YtkbpdoomhfkngaaGreat
