/- Parts of the proof: TrJ, TrK. Conditions: each theorem's own. -/
import Derived.Test.YtkbpdoomhfkngaaGreatR30
namespace Go.Proofs.YtkbpdoomhfkngaaGreat
set_option linter.unusedVariables false
set_option linter.unusedSimpArgs false
set_option maxRecDepth 100000
set_option maxHeartbeats 40000000
section
open Go.RowKit Go.Sort Go.BigFrame
def calledT(p:Pg) (y:Ex) (ts:List T3):Option T3:=match callT p y ts with | none=>none | some j=>if(ndAt p j).outs.length=1 then some (tyD ((ndAt p j).outs[0]?.getD default)) else none
theorem trCalled(p:Pg) (x:Nd) (r:Rm) (y:Ex) (A:Option Addr) (ca:Nat) (B:Option Addr) (cb:Nat) (S:Option Addr) (m sc:Nat) (ts:List T3) (w:World) (h:rdRm w p x r) (hS:RdY w S m ts) (hl:SlY S m sc) (hn:y.n=0∨y.n=1) (hnm:y.n≤m) (hfew:∀ j,j<p.ns.length→(ndAt p j).ins.length≤1000∧(ndAt p j).outs.length≤1000):
 Calls Tryz.prog 147 #[.agg (rvA p x r),.agg (exA y A ca B cb),.slice S m sc] w (TyZ w (calledT p y ts)):=by
 have HF:=Hd fun w0 hw=>any_box2Z (w:=w) (w1:=w0) (cs:=rvA p x r) (ds:=exA y A ca B cb) (T:=69) (U:=52) (V:=41) hw;have HCL:=Hd fun w1 (hb:Below w.heap.size w w1)=>trCall p x r y A ca B cb S m sc ts w1 (h.below hb) (hS.below hb) hl hn hnm hfew;have HCT:=Hd (show calledT p y ts=match callT p y ts with | none=>none | some j=>if(ndAt p j).outs.length=1 then some (tyD ((ndAt p j).outs[0]?.getD default)) else none from rfl);clear h hS hl hn hnm hfew;generalize calledT p y ts=o at *;generalize callT p y ts=cp at *;unfold SubsAns at HCL;unfold rvA exA at *
 go_enter Tryz.func147,Tryz.ntmps147
 go_upto_region 1 with(fail)
 generalize hw0:((w.alloc _).alloc _).alloc _=w0;obtain⟨hb0,hsz,hce,hce2,hR⟩:=HF.out w0 hw0;have HB0:=Hd hb0;have HR:=Hd hR;obtain⟨q0,q1,q2,q3,q4,q5⟩:=Sx (hce w0 (Below.refl _ _));have q6:=hce w0 (Below.refl _ _) 6;obtain⟨r0,r1,r2,r3,r4,r5⟩:=Sx (hce2 w0 (Below.refl _ _));simp only [Ya,Yb,Yc] at q0 q1 q2 q3 q4 q5 q6 r0 r1 r2 r3 r4 r5;clear hw0 hb0 hsz hce hce2 hR HF
 go_wp2_with fail
 refine(HCL.out w0 HB0.out).mono ?_;rintro e w1 ⟨T1,n1,c1,us,rfl,hus,hb1⟩;have HB1:=Hd (below_next2 HB0.out hb1);have HR1:=Hd (HR.out.below hb1);have HU:=Hd hus;clear hb1 hus HCL q0 q1 q2 q3 q4 q5 q6 r0 r1 r2 r3 r4 r5
 cases cp with
 | none=>
  have HO:=Hd (show o=none from HCT.out)
  go_wp2_with (refine wpList_store_row rfl _ _ _ rfl (w.heap.size+1+1) _ rfl rfl _ _ HR1.out ty3_info rfl (by simp [Value.oneCell']) ?_)
  exact bodyPost_ret (res_ty2 (p:=6) (u:=7) rfl _ _ (w.heap.size+1+1) 0 0 0 rfl (HR1.out.set 0 0 0)) rfl (tyz_none HO.out ⟨rfl,below_setRow HB1.out (by omega) _⟩)
 | some j=>
  obtain⟨hu1,hu2⟩:=HU.out _ rfl;have hlen:=hu2.len
  by_cases h1:n1=1
  · subst h1;have hol:(ndAt p j).outs.length=1:=by rw [← hu1,List.length_map] at hlen;exact hlen
    have HO:=Hd (show o=some (atT us 0) by
     rw [HCT.out];simp only;rw [if_pos hol,← hu1];unfold atT;rw [List.getElem?_map,List.getElem?_eq_getElem (by omega)];rfl)
    obtain⟨sb,so,rfl,hsb,hsc⟩:=hu2.at_ (i:=0) (by omega);obtain⟨a0,a1,a2⟩:=hsc 0 (by omega);simp only [Nat.zero_mul,Nat.add_zero] at a0 a1 a2;clear hu1 hu2 hlen hol hsc HU HCT;generalize atT us 0=tx at *;obtain⟨x0,x1,x2⟩:=tx
    dsimp only at a0 a1 a2
    go_wp2_with (refine wpList_store_row rfl _ _ _ rfl (w.heap.size+1+1) _ rfl rfl _ _ HR1.out ty3_info rfl (by simp [Value.oneCell']) ?_)
    exact bodyPost_ret (res_ty2 (p:=6) (u:=7) rfl _ _ (w.heap.size+1+1) x0 x1 x2 rfl (HR1.out.set x0 x1 x2)) rfl (tyz_some HO.out ⟨rfl,below_setRow HB1.out (by omega) _⟩)
  · have HO:=Hd (show o=none by
     rw [HCT.out];simp only;rw [if_neg (by rw [← hu1,List.length_map] at hlen;omega)])
    have hd:((n1:Int) != 1)=true:=by rw [bne_iff_ne];omega
    clear hu1 hu2 hlen HU HCT
    go_wp2_with (refine wpList_store_row rfl _ _ _ rfl (w.heap.size+1+1) _ rfl rfl _ _ HR1.out ty3_info rfl (by simp [Value.oneCell']) ?_)
    exact bodyPost_ret (res_ty2 (p:=6) (u:=7) rfl _ _ (w.heap.size+1+1) 0 0 0 rfl (HR1.out.set 0 0 0)) rfl (tyz_none HO.out ⟨rfl,below_setRow HB1.out (by omega) _⟩)
theorem trOver13(p:Pg) (x:Nd) (r:Rm) (y:Ex) (A:Option Addr) (ca:Nat) (B:Option Addr) (cb:Nat) (S:Option Addr) (m sc:Nat) (ts:List T3) (w:World) (h:rdRm w p x r) (hS:RdY w S m ts) (hk:y.k=13) (hl:SlY S m sc) (hn:y.n=0∨y.n=1) (hnm:y.n≤m) (hfew:∀ j,j<p.ns.length→(ndAt p j).ins.length≤1000∧(ndAt p j).outs.length≤1000) (o:Option T3) (ho:calledT p y ts=o):
 Calls Tryz.prog 115 #[.agg (rvA p x r),.agg (exA y A ca B cb),.slice S m sc] w (TyZ w o):=by
 have HF:=Hd fun w0 hw=>any_box2Z (w:=w) (w1:=w0) (cs:=rvA p x r) (ds:=exA y A ca B cb) (T:=69) (U:=52) (V:=41) hw;have HCL:=Hd fun w1 (hb:Below w.heap.size w w1)=>trCalled p x r y A ca B cb S m sc ts w1 (h.below hb) (hS.below hb) hl hn hnm hfew;have HZ:=Hd (show ∀ e w',(e=.returned (.tuple #[.agg (f3A (o.getD (0,0,0)).1 (o.getD (0,0,0)).2.1 (o.getD (0,0,0)).2.2),.bool o.isSome])∧Below w.heap.size w w')→TyZ w o e w' from fun e w' h=>h);rw [ho] at HCL;generalize TyZ w o=post at *;unfold TyZ at HCL;generalize o.isSome=os at *;generalize (o.getD (0,0,0)).1=x0 at *;generalize (o.getD (0,0,0)).2.1=x1 at *;generalize (o.getD (0,0,0)).2.2=x2 at *;unfold f3A at HCL HZ;clear ho h hl hn hnm hfew;unfold rvA exA at *;rw [hk] at HF HCL ⊢;clear hS
 go_enter Tryz.func115,Tryz.ntmps115
 go_upto_region 1 with(fail)
 generalize hw0:((w.alloc _).alloc _).alloc _=w0;obtain⟨hb0,hsz,hce,hce2,hR⟩:=HF.out w0 hw0;have HB0:=Hd hb0;have HR:=Hd hR;obtain⟨q0,q1,q2,q3,q4,q5⟩:=Sx (hce w0 (Below.refl _ _));have q6:=hce w0 (Below.refl _ _) 6;obtain⟨r0,r1,r2,r3,r4,r5⟩:=Sx (hce2 w0 (Below.refl _ _));simp only [Ya,Yb,Yc] at q0 q1 q2 q3 q4 q5 q6 r0 r1 r2 r3 r4 r5;have hnr:w.heap.size≠w.heap.size+1+1:=by omega
 have hnx:w.heap.size+1≠w.heap.size+1+1:=by omega
 clear hw0 hsz hce hce2 HF
 go_wp2_with fail
 refine(HCL.out w0 HB0.out).mono ?_;rintro e w1 ⟨rfl,hb1⟩;have HB1:=Hd (below_next2 HB0.out hb1);have HR1:=Hd (HR.out.below hb1);clear hb1 HCL
 go_wp2_with (refine wpList_store_row rfl _ _ _ rfl (w.heap.size+1+1) _ rfl rfl _ _ HR1.out ty3_info rfl (by simp [Value.oneCell']) ?_)
 exact bodyPost_ret (res_ty2 (p:=6) (u:=7) rfl _ _ (w.heap.size+1+1) x0 x1 x2 rfl (HR1.out.set x0 x1 x2)) rfl (HZ.out _ _ ⟨rfl,below_setRow HB1.out (by omega) _⟩)
theorem trOver17(p:Pg) (x:Nd) (r:Rm) (y:Ex) (A:Option Addr) (ca:Nat) (B:Option Addr) (cb:Nat) (S:Option Addr) (m sc:Nat) (ts:List T3) (w:World) (h:rdRm w p x r) (hS:RdY w S m ts) (hk:y.k=17) (o:Option T3) (ho:none=o):
 Calls Tryz.prog 115 #[.agg (rvA p x r),.agg (exA y A ca B cb),.slice S m sc] w (TyZ w o):=by
 have HF:=Hd fun w0 hw=>any_box2Z (w:=w) (w1:=w0) (cs:=rvA p x r) (ds:=exA y A ca B cb) (T:=69) (U:=52) (V:=41) hw;have HO:=Hd ho.symm;clear ho h;unfold rvA exA at *;rw [hk] at HF ⊢;clear hS
 go_enter Tryz.func115,Tryz.ntmps115
 go_upto_region 1 with(fail)
 generalize hw0:((w.alloc _).alloc _).alloc _=w0;obtain⟨hb0,hsz,hce,hce2,hR⟩:=HF.out w0 hw0;have HB0:=Hd hb0;have HR:=Hd hR;have r0:=hce2 w0 (Below.refl _ _) 0;simp only [Ya,Yb,Yc] at r0;have hnr:w.heap.size≠w.heap.size+1+1:=by omega
 have hnx:w.heap.size+1≠w.heap.size+1+1:=by omega
 clear hw0 hsz hce hce2 hR HF
 go_wp2_with (refine wpList_store_row rfl _ _ _ rfl (w.heap.size+1+1) _ rfl rfl _ _ HR.out ty3_info rfl (by simp [Value.oneCell']) ?_)
 exact bodyPost_ret (res_ty2 (p:=6) (u:=7) rfl _ _ (w.heap.size+1+1) 0 0 0 rfl (HR.out.set 0 0 0)) rfl (tyz_none HO.out ⟨rfl,below_setRow HB0.out (by omega) _⟩)
theorem all_one{ts:List T3}(h:0<ts.length):allB ((atT ts 0).1,(atT ts 0).2.1,0) ts=(allT ts && decide ((atT ts 0).2.2=0)):=by
 by_cases hz:(atT ts 0).2.2=0
 · rw [decide_eq_true hz,Bool.and_true,allT_allB]
   congr 1
   rw [← hz]
 · rw [decide_eq_false hz,Bool.and_false];exact allB_no h fun e=>hz (by rw [e])
theorem trOver14(p:Pg) (x:Nd) (r:Rm) (y:Ex) (A:Option Addr) (ca:Nat) (B:Option Addr) (cb:Nat) (S:Option Addr) (m sc:Nat) (ts:List T3) (w:World) (h:rdRm w p x r) (hS:RdY w S m ts) (hk:y.k=14) (hm:1≤m) (o:Option T3) (ho:(if(allT ts && decide ((atT ts 0).2.2=0))=true then some ((atT ts 0).1,(atT ts 0).2.1,(ts.length:Int)) else none)=o):
 Calls Tryz.prog 115 #[.agg (rvA p x r),.agg (exA y A ca B cb),.slice S m sc] w (TyZ w o):=by
 have HF:=Hd fun w0 hw=>any_box2Z (w:=w) (w1:=w0) (cs:=rvA p x r) (ds:=exA y A ca B cb) (T:=69) (U:=52) (V:=41) hw;have hS2:=hS;have hml:=hS.len;have hmx:=hS.max;obtain⟨sb,so,rfl,hsb,hsc⟩:=hS.at_ (i:=0) (by omega);obtain⟨a0,a1,a2⟩:=hsc 0 (by omega);simp only [Nat.zero_mul,Nat.add_zero] at a0 a1 a2;rw [← all_one (by omega),hml] at ho;have HAL:=Hd fun w1 (hb:Below w.heap.size w w1)=>trAll (atT ts 0).1 (atT ts 0).2.1 0 (some ⟨sb,so,none⟩) m sc ts w1 (hS2.below hb);have HO1:=Hd fun w1=>tyOne (atT ts 0).1 (atT ts 0).2.1 (m:Int) w1;unfold f3A at HAL;unfold tyV at HO1;generalize allB ((atT ts 0).1,(atT ts 0).2.1,0) ts=al at *;generalize ht0:atT ts 0=tx at *;obtain⟨x0,x1,x2⟩:=tx
 dsimp only at a0 a1 a2
 have HO:=Hd ho.symm;clear ho h hS2 hml;unfold rvA exA at *;rw [hk] at HF ⊢;clear hS hsc
 go_enter Tryz.func115,Tryz.ntmps115
 go_upto_region 1 with(fail)
 generalize hw0:((w.alloc _).alloc _).alloc _=w0;obtain⟨hb0,hsz,hce,hce2,hR⟩:=HF.out w0 hw0;have HB0:=Hd hb0;have HR:=Hd hR;have r0:=hce2 w0 (Below.refl _ _) 0;simp only [Ya,Yb,Yc] at r0;have a0:=(hb0.cell (p:=⟨sb,so,none⟩) hsb).trans a0;have a1:=(hb0.cell (p:=⟨sb,so+1,none⟩) hsb).trans a1;have a2:=(hb0.cell (p:=⟨sb,so+2,none⟩) hsb).trans a2;have h0m:0<m:=by omega
 have hne:sb≠w.heap.size+1+1:=by omega
 have hsb0:sb<w0.heap.size:=Nat.lt_of_lt_of_le hsb HB0.out.size;have hnr:w.heap.size≠w.heap.size+1+1:=by omega
 have hnx:w.heap.size+1≠w.heap.size+1+1:=by omega
 clear hw0 hsz hce hce2 hR HF
 go_upto_region 23 with(fail)
 generalize hw1:w0.alloc _=w1;obtain⟨hb1,hF1,hg1⟩:=ty_box hw1;have HB1:=Hd (below_next2 HB0.out hb1);have HR1:=Hd (HR.out.below hb1);have hrl:=HR.out.lt;have q2:=hF1.cell 2;simp only [f3A,List.getElem?_toArray,List.getElem?_cons_zero,List.getElem?_cons_succ] at q2;have fz:=frozen_of_row w1 w0.heap.size 2 _ _ hF1;have HF1:=Hd hF1;have HNR:=Hd (show w.heap.size+1+1≠w0.heap.size by omega);have hgl:w.heap.size≤w0.heap.size:=HB0.out.size;clear hw1 hb1 hF1 a0 a1 a2
 go_upto_region 24 with(fail)
 generalize hg:w0.heap.size=g at *;generalize hw2:w1.setCell ⟨g,2,none⟩ (.int .i64 (m:Int))=w2;rw [setCell_eq_setRow _ _ _ _ _ _ _ HF1.out,show(f3A x0 x1 x2).setIfInBounds 2 (.int .i64 (m:Int))=f3A x0 x1 m from rfl] at hw2
 have h2:F3 41 w2 g x0 x1 m∧F3 41 w2 (w.heap.size+1+1) 0 0 0∧Below w.heap.size w w2:=by
  rw [← hw2];exact⟨HF1.out.set _ _ _,(setRow_other _ _ _ _ HNR.out).trans HR1.out,below_setRow HB1.out hgl _⟩
 obtain⟨hF2,hR2,hB2⟩:=h2;have HR:=Hd hR2;have HB0:=Hd hB2;obtain⟨d0,d1,d2,-,-,-⟩:=Sx hF2.cell;simp only [f3A,List.getElem?_toArray,List.getElem?_cons_zero,List.getElem?_cons_succ] at d0 d1 d2;have hng:g≠w.heap.size+1+1:=Ne.symm HNR.out;have HON0:=Hd fun(so:Bool) w1=>trOnly x0 x1 m so w1;unfold TyZ f3A at HON0;clear hw2 hF2 hR2 hB2 q2 fz HF1 HR1 HB1
 cases al with
 | false=>
  have HO:=Hd (show o=none from HO.out);have HON:=Hd fun w1=>HON0.out false w1;simp only [Bool.false_eq_true,if_false,if_true,Option.getD_none,Option.getD_some,Option.isSome_none,Option.isSome_some] at HON;refine wp_region_out (l1:=[_,_,_,_,_,_,_,_]) (os:=_) (l2:=[_]) (p:=6) (tx:=168) (r:=w.heap.size+1+1) (T:=41) (zc:=f3A 0 0 0) (by kernel_rfl) (by kernel_rfl) rfl HR.out rfl infoTy0 ?_
  repeat
   apply fix_step rfl (by simp)
   case h1=>
    intro wb hb;have l0:=fun d os=>cell_regrown (bs_cell hb hng d0) d os;have l1:=fun d os=>cell_regrown (bs_cell hb hng d1) d os;have l2:=fun d os=>cell_regrown (bs_cell hb hng d2) d os;have cA:=fun d os=>Calls.regrown_of (HO1.out (grow (redrawn wb d) os));have cB:=fun d os=>Calls.regrown_of (HAL.out (grow (redrawn wb d) os) (below_next2 (bs_below hb HB0.out (Nat.le_refl _) (by omega)) (below_regrown wb d os)));have cC:=fun d os=>Calls.regrown_of (HON.out (grow (redrawn wb d) os))
    go_big_quiet_step (first | with_reducible exact cA _ _ | with_reducible exact cB _ _ | with_reducible exact cC _ _)
    refine wpQuiet_nil ?_;simp only [List.getElem?_toArray,List.getElem?_cons_succ,List.getElem?_cons_zero];exact rfl
   simp only [Act.put,Yd,Ye,Yf]
  refine⟨f3A 0 0 0,rfl,rfl,by simp [f3A,Value.oneCell'],fun W hB hz=>?_⟩;have HB4:=Hd (bs_below hB HB0.out (Nat.le_refl _) (by omega));have HZ4:=Hd hz;clear hB hz
  go_wp2_with fail
  exact bodyPost_ret (res_ty2 (p:=6) (u:=7) rfl _ _ (w.heap.size+1+1) 0 0 0 rfl HZ4.out) rfl (tyz_none HO.out ⟨rfl,HB4.out⟩)
 | true=>
  have HO:=Hd (show o=some (x0,x1,(m:Int)) from HO.out);have HON:=Hd fun w1=>HON0.out true w1;simp only [Bool.false_eq_true,if_false,if_true,Option.getD_none,Option.getD_some,Option.isSome_none,Option.isSome_some] at HON;refine wp_region_out (l1:=[_,_,_,_,_,_,_,_]) (os:=_) (l2:=[_]) (p:=6) (tx:=168) (r:=w.heap.size+1+1) (T:=41) (zc:=f3A 0 0 0) (by kernel_rfl) (by kernel_rfl) rfl HR.out rfl infoTy0 ?_
  repeat
   apply fix_step rfl (by simp)
   case h1=>
    intro wb hb;have l0:=fun d os=>cell_regrown (bs_cell hb hng d0) d os;have l1:=fun d os=>cell_regrown (bs_cell hb hng d1) d os;have l2:=fun d os=>cell_regrown (bs_cell hb hng d2) d os;have cA:=fun d os=>Calls.regrown_of (HO1.out (grow (redrawn wb d) os));have cB:=fun d os=>Calls.regrown_of (HAL.out (grow (redrawn wb d) os) (below_next2 (bs_below hb HB0.out (Nat.le_refl _) (by omega)) (below_regrown wb d os)));have cC:=fun d os=>Calls.regrown_of (HON.out (grow (redrawn wb d) os))
    go_big_quiet_step (first | with_reducible exact cA _ _ | with_reducible exact cB _ _ | with_reducible exact cC _ _)
    refine wpQuiet_nil ?_;simp only [List.getElem?_toArray,List.getElem?_cons_succ,List.getElem?_cons_zero];exact rfl
   simp only [Act.put,Yd,Ye,Yf]
  refine⟨f3A x0 x1 m,rfl,rfl,by simp [f3A,Value.oneCell'],fun W hB hz=>?_⟩;have HB4:=Hd (bs_below hB HB0.out (Nat.le_refl _) (by omega));have HZ4:=Hd hz;clear hB hz
  go_wp2_with fail
  exact bodyPost_ret (res_ty2 (p:=6) (u:=7) rfl _ _ (w.heap.size+1+1) x0 x1 m rfl HZ4.out) rfl (tyz_some HO.out ⟨rfl,HB4.out⟩)
end
section
open Go.RowKit Go.Sort Go.BigFrame
theorem cell_d(w:World) (p:Addr):w.drew.cell? p=w.cell? p:=rfl
theorem cell_ad(w:World) (o:Obj) (p:Addr) (h:p.block<w.heap.size):(w.alloc o).drew.cell? p=w.cell? p:=World.cell?_alloc_lt w o p h
theorem trOver9(p:Pg) (x:Nd) (r:Rm) (y:Ex) (A:Option Addr) (ca:Nat) (B:Option Addr) (cb:Nat) (S:Option Addr) (m sc:Nat) (ts:List T3) (w:World) (h:rdRm w p x r) (hS:RdY w S m ts) (hk:y.k=9) (hm:2≤m) (o:Option T3) (ho:(if atT ts 0=atT ts 1 then some (atT ts 0) else none)=o):
 Calls Tryz.prog 115 #[.agg (rvA p x r),.agg (exA y A ca B cb),.slice S m sc] w (TyZ w o):=by
 have HF:=Hd fun w0 hw=>any_box2Z (w:=w) (w1:=w0) (cs:=rvA p x r) (ds:=exA y A ca B cb) (T:=69) (U:=52) (V:=41) hw;obtain⟨sb,so,rfl,hsb,hsc⟩:=hS.at_ (i:=0) (by omega);obtain⟨a0,a1,a2⟩:=hsc 0 (by omega);obtain⟨b0,b1,b2⟩:=hsc 1 (by omega);simp only [Nat.zero_mul,Nat.add_zero,Nat.one_mul] at a0 a1 a2 b0 b1 b2;have HAL:=Hd fun(ad:Option Addr) w1 (hr:RdY w1 ad 1 [atT ts 1])=>trAll (atT ts 0).1 (atT ts 0).2.1 (atT ts 0).2.2 ad 1 1 [atT ts 1] w1 hr;have hab:allB ((atT ts 0).1,(atT ts 0).2.1,(atT ts 0).2.2) [atT ts 1]=decide (atT ts 1=atT ts 0):=allB_one _ _;rw [hab] at HAL
 have ho2:(if decide (atT ts 1=atT ts 0)=true then some (atT ts 0) else none)=o:=by
  rw [← ho]
  by_cases he:atT ts 0=atT ts 1
  · rw [if_pos he,if_pos (decide_eq_true he.symm)]
  · rw [if_neg he,if_neg (by simpa using fun e=>he e.symm)]
 unfold f3A at HAL;generalize decide (atT ts 1=atT ts 0)=ab at *;have h0i:(0:Int)<(m:Int):=by omega
 have h1i:(1:Int)<(m:Int):=by omega
 generalize ht0:atT ts 0=tx at *;generalize ht1:atT ts 1=ty at *;obtain⟨x0,x1,x2⟩:=tx;obtain⟨y0,y1,y2⟩:=ty
 dsimp only at a0 a1 a2 b0 b1 b2
 have HO:=Hd ho2.symm;clear ho ho2 h hab;unfold rvA exA at *;rw [hk] at HF ⊢;clear hS hsc
 go_enter Tryz.func115,Tryz.ntmps115
 go_upto_region 1 with(fail)
 generalize hw0:((w.alloc _).alloc _).alloc _=w0;obtain⟨hb0,hsz,hce,hce2,hR⟩:=HF.out w0 hw0;have HB0:=Hd hb0;have HR:=Hd hR;have r0:=hce2 w0 (Below.refl _ _) 0;simp only [Ya,Yb,Yc] at r0;have a0:=(hb0.cell (p:=⟨sb,so,none⟩) hsb).trans a0;have a1:=(hb0.cell (p:=⟨sb,so+1,none⟩) hsb).trans a1;have a2:=(hb0.cell (p:=⟨sb,so+2,none⟩) hsb).trans a2;have b0:=(hb0.cell (p:=⟨sb,so+3,none⟩) hsb).trans b0;have b1:=(hb0.cell (p:=⟨sb,so+3+1,none⟩) hsb).trans b1;have b2:=(hb0.cell (p:=⟨sb,so+3+2,none⟩) hsb).trans b2;have h0m:0<m:=by omega
 have h1m:1<m:=by omega
 have hne:sb≠w.heap.size+1+1:=by omega
 have hsb0:sb<w0.heap.size:=Nat.lt_of_lt_of_le hsb HB0.out.size;have hnr:w.heap.size≠w.heap.size+1+1:=by omega
 have hnx:w.heap.size+1≠w.heap.size+1+1:=by omega
 clear hw0 hsz hce hce2 hR HF;have HSL:=Hd hsb0
 cases ab with
 | false=>
  have HO:=Hd (show o=none from HO.out);have HON:=Hd fun w1=>trOnly x0 x1 x2 false w1;unfold TyZ f3A at HON;simp only [Bool.false_eq_true,if_false,if_true,Option.getD_none,Option.getD_some,Option.isSome_none,Option.isSome_some] at HON
  go_upto_region 12 with(fail)
  go_region_held3 (fun W=>W.cell? ⟨sb,so,none⟩=some (.int .i64 x0)∧W.cell? ⟨sb,so+1,none⟩=some (.int .i64 x1)∧W.cell? ⟨sb,so+2,none⟩=some (.int .i64 x2)∧W.cell? ⟨sb,so+3,none⟩=some (.int .i64 y0)∧W.cell? ⟨sb,so+3+1,none⟩=some (.int .i64 y1)∧W.cell? ⟨sb,so+3+2,none⟩=some (.int .i64 y2)) (first | with_reducible exact⟨a0,a1,a2,b0,b1,b2⟩ | with_reducible exact⟨(cell_d _ _).trans a0,(cell_d _ _).trans a1,(cell_d _ _).trans a2,(cell_d _ _).trans b0,(cell_d _ _).trans b1,(cell_d _ _).trans b2⟩ | with_reducible exact⟨(cell_ad _ _ _ HSL.out).trans a0,(cell_ad _ _ _ HSL.out).trans a1,(cell_ad _ _ _ HSL.out).trans a2,(cell_ad _ _ _ HSL.out).trans b0,(cell_ad _ _ _ HSL.out).trans b1,(cell_ad _ _ _ HSL.out).trans b2⟩ | with_reducible exact⟨(World.cell?_alloc_lt _ _ _ HSL.out).trans a0,(World.cell?_alloc_lt _ _ _ HSL.out).trans a1,(World.cell?_alloc_lt _ _ _ HSL.out).trans a2,(World.cell?_alloc_lt _ _ _ HSL.out).trans b0,(World.cell?_alloc_lt _ _ _ HSL.out).trans b1,(World.cell?_alloc_lt _ _ _ HSL.out).trans b2⟩ | with_reducible exact⟨kla0,kla1,kla2,klb0,klb1,klb2⟩ | with_reducible exact⟨(World.cell?_alloc_lt _ _ _ (Nat.lt_of_lt_of_le HSL.out HBl.out.size)).trans kla0,(World.cell?_alloc_lt _ _ _ (Nat.lt_of_lt_of_le HSL.out HBl.out.size)).trans kla1,(World.cell?_alloc_lt _ _ _ (Nat.lt_of_lt_of_le HSL.out HBl.out.size)).trans kla2,(World.cell?_alloc_lt _ _ _ (Nat.lt_of_lt_of_le HSL.out HBl.out.size)).trans klb0,(World.cell?_alloc_lt _ _ _ (Nat.lt_of_lt_of_le HSL.out HBl.out.size)).trans klb1,(World.cell?_alloc_lt _ _ _ (Nat.lt_of_lt_of_le HSL.out HBl.out.size)).trans klb2⟩ | with_reducible exact⟨kna0,kna1,kna2,knb0,knb1,knb2⟩ | with_reducible exact⟨(World.cell?_alloc_lt _ _ _ (Nat.lt_of_lt_of_le HSL.out HBn.out.size)).trans kna0,(World.cell?_alloc_lt _ _ _ (Nat.lt_of_lt_of_le HSL.out HBn.out.size)).trans kna1,(World.cell?_alloc_lt _ _ _ (Nat.lt_of_lt_of_le HSL.out HBn.out.size)).trans kna2,(World.cell?_alloc_lt _ _ _ (Nat.lt_of_lt_of_le HSL.out HBn.out.size)).trans knb0,(World.cell?_alloc_lt _ _ _ (Nat.lt_of_lt_of_le HSL.out HBn.out.size)).trans knb1,(World.cell?_alloc_lt _ _ _ (Nat.lt_of_lt_of_le HSL.out HBn.out.size)).trans knb2⟩ | with_reducible exact⟨(set3_cell hne).trans kna0,(set3_cell hne).trans kna1,(set3_cell hne).trans kna2,(set3_cell hne).trans knb0,(set3_cell hne).trans knb1,(set3_cell hne).trans knb2⟩)
   ((first
     | (go_at_call 119;refine(HAL.out _ _ (by exact(RdY.lit w0 y0 y1 y2 41).drew)).mono ?_;rintro e Wl ⟨rfl,hq⟩;have HBl:=Hd (show Below w0.heap.size w0 Wl from by first | exact(((Below.refl w0.heap.size w0).alloc (Nat.le_refl _) (.cells #[.int .i64 y0,.int .i64 y1,.int .i64 y2] 41)).drew).trans (hq.mono (by simp)));have HGl:=Hd hq;have kla0:=(HBl.out.cell (p:=⟨sb,so,none⟩) HSL.out).trans a0;have kla1:=(HBl.out.cell (p:=⟨sb,so+1,none⟩) HSL.out).trans a1;have kla2:=(HBl.out.cell (p:=⟨sb,so+2,none⟩) HSL.out).trans a2;have klb0:=(HBl.out.cell (p:=⟨sb,so+3,none⟩) HSL.out).trans b0;have klb1:=(HBl.out.cell (p:=⟨sb,so+3+1,none⟩) HSL.out).trans b1;have klb2:=(HBl.out.cell (p:=⟨sb,so+3+2,none⟩) HSL.out).trans b2;clear hq)
     | (go_at_call 145;refine(HON.out Wl).mono ?_;rintro e Wn ⟨rfl,hq⟩;have HBn:=Hd (show Below w0.heap.size w0 Wn from by first | exact HBl.out.trans (hq.mono HBl.out.size));have HGn:=Hd hq;have kna0:=(HBn.out.cell (p:=⟨sb,so,none⟩) HSL.out).trans a0;have kna1:=(HBn.out.cell (p:=⟨sb,so+1,none⟩) HSL.out).trans a1;have kna2:=(HBn.out.cell (p:=⟨sb,so+2,none⟩) HSL.out).trans a2;have knb0:=(HBn.out.cell (p:=⟨sb,so+3,none⟩) HSL.out).trans b0;have knb1:=(HBn.out.cell (p:=⟨sb,so+3+1,none⟩) HSL.out).trans b1;have knb2:=(HBn.out.cell (p:=⟨sb,so+3+2,none⟩) HSL.out).trans b2;have HRq:=Hd (HR.out.below HBn.out);have z0:=HRq.out.cell 0;have z1:=HRq.out.cell 1;have z2:=HRq.out.cell 2;have fz:∀ j,Wn.frozen? ⟨w.heap.size+1+1,j,none⟩=false:=(fun j=>frozen_of_row Wn _ j _ _ HRq.out);simp only [f3A,List.getElem?_toArray,List.getElem?_cons_zero,List.getElem?_cons_succ] at z0 z1 z2;clear hq)))
  all_goals
   generalize hwz:World.setCell _ _ _=wz;rw [f3_set HRq.out] at hwz;have HFz:=Hd (show F3 41 wz (w.heap.size+1+1) 0 0 0 by rw [← hwz];exact HRq.out.set _ _ _);have HBz:=Hd (show Below w.heap.size w wz by rw [← hwz];exact below_setRow (below_next2 HB0.out HBn.out) (by omega) _);clear hwz
   go_wp2_with fail
   exact bodyPost_ret (res_ty2 (p:=6) (u:=7) rfl _ _ (w.heap.size+1+1) 0 0 0 rfl HFz.out) rfl (tyz_none HO.out ⟨rfl,HBz.out⟩)
 | true=>
  have HO:=Hd (show o=some (x0,x1,x2) from HO.out);have HON:=Hd fun w1=>trOnly x0 x1 x2 true w1;unfold TyZ f3A at HON;simp only [Bool.false_eq_true,if_false,if_true,Option.getD_none,Option.getD_some,Option.isSome_none,Option.isSome_some] at HON
  go_upto_region 12 with(fail)
  go_region_held3 (fun W=>W.cell? ⟨sb,so,none⟩=some (.int .i64 x0)∧W.cell? ⟨sb,so+1,none⟩=some (.int .i64 x1)∧W.cell? ⟨sb,so+2,none⟩=some (.int .i64 x2)∧W.cell? ⟨sb,so+3,none⟩=some (.int .i64 y0)∧W.cell? ⟨sb,so+3+1,none⟩=some (.int .i64 y1)∧W.cell? ⟨sb,so+3+2,none⟩=some (.int .i64 y2)) (first | with_reducible exact⟨a0,a1,a2,b0,b1,b2⟩ | with_reducible exact⟨(cell_d _ _).trans a0,(cell_d _ _).trans a1,(cell_d _ _).trans a2,(cell_d _ _).trans b0,(cell_d _ _).trans b1,(cell_d _ _).trans b2⟩ | with_reducible exact⟨(cell_ad _ _ _ HSL.out).trans a0,(cell_ad _ _ _ HSL.out).trans a1,(cell_ad _ _ _ HSL.out).trans a2,(cell_ad _ _ _ HSL.out).trans b0,(cell_ad _ _ _ HSL.out).trans b1,(cell_ad _ _ _ HSL.out).trans b2⟩ | with_reducible exact⟨(World.cell?_alloc_lt _ _ _ HSL.out).trans a0,(World.cell?_alloc_lt _ _ _ HSL.out).trans a1,(World.cell?_alloc_lt _ _ _ HSL.out).trans a2,(World.cell?_alloc_lt _ _ _ HSL.out).trans b0,(World.cell?_alloc_lt _ _ _ HSL.out).trans b1,(World.cell?_alloc_lt _ _ _ HSL.out).trans b2⟩ | with_reducible exact⟨kla0,kla1,kla2,klb0,klb1,klb2⟩ | with_reducible exact⟨(World.cell?_alloc_lt _ _ _ (Nat.lt_of_lt_of_le HSL.out HBl.out.size)).trans kla0,(World.cell?_alloc_lt _ _ _ (Nat.lt_of_lt_of_le HSL.out HBl.out.size)).trans kla1,(World.cell?_alloc_lt _ _ _ (Nat.lt_of_lt_of_le HSL.out HBl.out.size)).trans kla2,(World.cell?_alloc_lt _ _ _ (Nat.lt_of_lt_of_le HSL.out HBl.out.size)).trans klb0,(World.cell?_alloc_lt _ _ _ (Nat.lt_of_lt_of_le HSL.out HBl.out.size)).trans klb1,(World.cell?_alloc_lt _ _ _ (Nat.lt_of_lt_of_le HSL.out HBl.out.size)).trans klb2⟩ | with_reducible exact⟨kna0,kna1,kna2,knb0,knb1,knb2⟩ | with_reducible exact⟨(World.cell?_alloc_lt _ _ _ (Nat.lt_of_lt_of_le HSL.out HBn.out.size)).trans kna0,(World.cell?_alloc_lt _ _ _ (Nat.lt_of_lt_of_le HSL.out HBn.out.size)).trans kna1,(World.cell?_alloc_lt _ _ _ (Nat.lt_of_lt_of_le HSL.out HBn.out.size)).trans kna2,(World.cell?_alloc_lt _ _ _ (Nat.lt_of_lt_of_le HSL.out HBn.out.size)).trans knb0,(World.cell?_alloc_lt _ _ _ (Nat.lt_of_lt_of_le HSL.out HBn.out.size)).trans knb1,(World.cell?_alloc_lt _ _ _ (Nat.lt_of_lt_of_le HSL.out HBn.out.size)).trans knb2⟩ | with_reducible exact⟨(set3_cell hne).trans kna0,(set3_cell hne).trans kna1,(set3_cell hne).trans kna2,(set3_cell hne).trans knb0,(set3_cell hne).trans knb1,(set3_cell hne).trans knb2⟩)
   ((first
     | (go_at_call 119;refine(HAL.out _ _ (by exact(RdY.lit w0 y0 y1 y2 41).drew)).mono ?_;rintro e Wl ⟨rfl,hq⟩;have HBl:=Hd (show Below w0.heap.size w0 Wl from by first | exact(((Below.refl w0.heap.size w0).alloc (Nat.le_refl _) (.cells #[.int .i64 y0,.int .i64 y1,.int .i64 y2] 41)).drew).trans (hq.mono (by simp)));have HGl:=Hd hq;have kla0:=(HBl.out.cell (p:=⟨sb,so,none⟩) HSL.out).trans a0;have kla1:=(HBl.out.cell (p:=⟨sb,so+1,none⟩) HSL.out).trans a1;have kla2:=(HBl.out.cell (p:=⟨sb,so+2,none⟩) HSL.out).trans a2;have klb0:=(HBl.out.cell (p:=⟨sb,so+3,none⟩) HSL.out).trans b0;have klb1:=(HBl.out.cell (p:=⟨sb,so+3+1,none⟩) HSL.out).trans b1;have klb2:=(HBl.out.cell (p:=⟨sb,so+3+2,none⟩) HSL.out).trans b2;clear hq)
     | (go_at_call 145;refine(HON.out Wl).mono ?_;rintro e Wn ⟨rfl,hq⟩;have HBn:=Hd (show Below w0.heap.size w0 Wn from by first | exact HBl.out.trans (hq.mono HBl.out.size));have HGn:=Hd hq;have kna0:=(HBn.out.cell (p:=⟨sb,so,none⟩) HSL.out).trans a0;have kna1:=(HBn.out.cell (p:=⟨sb,so+1,none⟩) HSL.out).trans a1;have kna2:=(HBn.out.cell (p:=⟨sb,so+2,none⟩) HSL.out).trans a2;have knb0:=(HBn.out.cell (p:=⟨sb,so+3,none⟩) HSL.out).trans b0;have knb1:=(HBn.out.cell (p:=⟨sb,so+3+1,none⟩) HSL.out).trans b1;have knb2:=(HBn.out.cell (p:=⟨sb,so+3+2,none⟩) HSL.out).trans b2;have HRq:=Hd (HR.out.below HBn.out);have z0:=HRq.out.cell 0;have z1:=HRq.out.cell 1;have z2:=HRq.out.cell 2;have fz:∀ j,Wn.frozen? ⟨w.heap.size+1+1,j,none⟩=false:=(fun j=>frozen_of_row Wn _ j _ _ HRq.out);simp only [f3A,List.getElem?_toArray,List.getElem?_cons_zero,List.getElem?_cons_succ] at z0 z1 z2;clear hq)))
  all_goals
   generalize hwz:World.setCell _ _ _=wz;rw [f3_set HRq.out] at hwz;have HFz:=Hd (show F3 41 wz (w.heap.size+1+1) x0 x1 x2 by rw [← hwz];exact HRq.out.set _ _ _);have HBz:=Hd (show Below w.heap.size w wz by rw [← hwz];exact below_setRow (below_next2 HB0.out HBn.out) (by omega) _);clear hwz
   go_wp2_with fail
   exact bodyPost_ret (res_ty2 (p:=6) (u:=7) rfl _ _ (w.heap.size+1+1) x0 x1 x2 rfl HFz.out) rfl (tyz_some HO.out ⟨rfl,HBz.out⟩)
end
end Go.Proofs.YtkbpdoomhfkngaaGreat
