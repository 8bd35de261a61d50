/- Parts of the proof: TpK, TpL, TpN, TpO, TpP. Conditions: each theorem's own. -/
import Derived.Test.YtegjgiofmpolnaaGreatO19
namespace Go.Proofs.YtegjgiofmpolnaaGreat
set_option linter.unusedVariables false
set_option linter.unusedSimpArgs false
set_option maxRecDepth 100000
set_option maxHeartbeats 40000000
section
open Go.RowKit Go.Sort Go.BigFrame
theorem refPlain15(x:Ex) (A:Option Addr) (ca:Nat) (B:Option Addr) (cb:Nat) (S:Option Addr) (m sc:Nat) (ts:List T3) (w:World) (hS:RdY w S m ts) (hk:x.k=15) (hm:2≤m):
 Calls Tryz.prog 82 #[.agg (exA x A ca B cb),.slice S m sc] w (TyAns w (if(decide (0<(atT ts 0).2.2) && wholeT (atT ts 1))=true then some (oneT (atT ts 0)) else none)):=by
 have HF:=Hd fun w0 h=>box_res (w:=w) (w0:=w0) (x:=x) (A:=A) (ca:=ca) (B:=B) (cb:=cb) (T:=35) (U:=38) h;obtain⟨sb,so,rfl,hsb,hsc⟩:=hS.at_ (i:=0) (by omega);obtain⟨a0,a1,a2⟩:=hsc 0 (by omega);obtain⟨b0,b1,b2⟩:=hsc 1 (by omega);simp only [Nat.zero_mul,Nat.add_zero,Nat.one_mul] at a0 a1 a2 b0 b1 b2;have hml:=hS.len;have HSS:=Hd fun w1 (hb:Below w.heap.size w w1)=>hS.below hb;unfold exA at HF ⊢;rw [hk] at HF ⊢;clear hS hsc hk;generalize atT ts 0=u at *;generalize atT ts 1=v at *;obtain⟨u0,u1,u2⟩:=u;obtain⟨v0,v1,v2⟩:=v;have HO1:=Hd (refOne16 u0 u1 u2);have HW:=Hd (refWhole16 v0 v1 v2)
 dsimp only [oneT] at a0 a1 a2 b0 b1 b2 ⊢
 unfold f3A at HO1 HW;generalize wholeT (v0,v1,v2)=ww at *;generalize hO:(if(decide (0<u2) && ww)=true then some ((u0,u1,0):T3) else none)=o;have HR0:=Hd hO;clear hO
 go_enter Tryz.func82,Tryz.ntmps82
 go_upto_region 1 with(fail)
 generalize hw0:(w.alloc _).alloc _=w0;obtain⟨hR,hcell,hb0,hsz⟩:=HF.out w0 hw0;have HR:=Hd hR;have HB0:=Hd hb0;have q0:=hcell w0 (Below.refl _ _) 0;have q3:=hcell w0 (Below.refl _ _) 3;simp only [Ya,Yb,Yc] at q0 q3;have a0:=(hb0.cell (p:=⟨sb,so,none⟩) hsb).trans a0;have a1:=(hb0.cell (p:=⟨sb,so+1,none⟩) hsb).trans a1;have a2:=(hb0.cell (p:=⟨sb,so+2,none⟩) hsb).trans a2;have b0:=(hb0.cell (p:=⟨sb,so+3,none⟩) hsb).trans b0;have b1:=(hb0.cell (p:=⟨sb,so+3+1,none⟩) hsb).trans b1;have b2:=(hb0.cell (p:=⟨sb,so+3+2,none⟩) hsb).trans b2;have h0m:0<m:=by omega
 have h1m:1<m:=by omega
 clear hw0 hR hcell hb0 hsz HF hm
 go_upto_region 13 with(fail)
 have hsb0:sb<w0.heap.size:=Nat.lt_of_lt_of_le hsb HB0.out.size;have hne:sb≠w.heap.size+1:=by omega
 clear q3
 cases hp:decide (0<u2) with
 | false=>
  rw [hp] at HR0;refine wp_region_out (l1:=[_,_,_,_,_,_,_,_,_,_,_,_,_,_,_]) (os:=_) (l2:=[_]) (p:=4) (tx:=73) (r:=w.heap.size+1) (T:=38) (zc:=f3A 0 0 0) (by kernel_rfl) (by kernel_rfl) rfl HR.out rfl infoTy0 ?_
  repeat
   apply fix_step rfl (by simp)
   case h1=>
    intro wb hb;have l0:=fun d os=>cell_regrown (bs_cell hb hne a0) d os;have l1:=fun d os=>cell_regrown (bs_cell hb hne a1) d os;have l2:=fun d os=>cell_regrown (bs_cell hb hne a2) d os;have l3:=fun d os=>cell_regrown (bs_cell hb hne b0) d os;have l4:=fun d os=>cell_regrown (bs_cell hb hne b1) d os;have l5:=fun d os=>cell_regrown (bs_cell hb hne b2) d os;have cA:=fun d os=>Calls.regrown_of (HO1.out (grow (redrawn wb d) os));have cB:=fun d os=>Calls.regrown_of (HW.out (grow (redrawn wb d) os))
    go_big_quiet_step (first | with_reducible exact cA _ _ | with_reducible exact cB _ _)
    refine wpQuiet_nil ?_;simp only [List.getElem?_toArray,List.getElem?_cons_succ,List.getElem?_cons_zero];exact rfl
   simp only [Act.put,Yd,Ye,Yf]
  refine⟨f3A u0 u1 0,rfl,rfl,by simp [f3A,Value.oneCell'],fun W hB hz=>?_⟩;have HB4:=Hd (bs_below hB HB0.out (Nat.le_refl _) (Nat.le_succ _));have HZ4:=Hd hz;clear hB hz
  go_wp2_with fail
  exact bodyPost_ret (res_ty2 (p:=4) (u:=5) rfl _ _ (w.heap.size+1) u0 u1 0 rfl HZ4.out) rfl ⟨u0,u1,0,(by rw [show o=none by(rw [← HR0.out];rfl)];rfl),fun t ht=>(by rw [show o=none by(rw [← HR0.out];rfl)] at ht;cases ht),HB4.out⟩
 | true=>
  rw [hp] at HR0
  cases ww with
  | false=>
   refine wp_region_out (l1:=[_,_,_,_,_,_,_,_,_,_,_,_,_,_,_]) (os:=_) (l2:=[_]) (p:=4) (tx:=73) (r:=w.heap.size+1) (T:=38) (zc:=f3A 0 0 0) (by kernel_rfl) (by kernel_rfl) rfl HR.out rfl infoTy0 ?_
   repeat
    apply fix_step rfl (by simp)
    case h1=>
     intro wb hb;have l0:=fun d os=>cell_regrown (bs_cell hb hne a0) d os;have l1:=fun d os=>cell_regrown (bs_cell hb hne a1) d os;have l2:=fun d os=>cell_regrown (bs_cell hb hne a2) d os;have l3:=fun d os=>cell_regrown (bs_cell hb hne b0) d os;have l4:=fun d os=>cell_regrown (bs_cell hb hne b1) d os;have l5:=fun d os=>cell_regrown (bs_cell hb hne b2) d os;have cA:=fun d os=>Calls.regrown_of (HO1.out (grow (redrawn wb d) os));have cB:=fun d os=>Calls.regrown_of (HW.out (grow (redrawn wb d) os))
     go_big_quiet_step (first | with_reducible exact cA _ _ | with_reducible exact cB _ _)
     refine wpQuiet_nil ?_;simp only [List.getElem?_toArray,List.getElem?_cons_succ,List.getElem?_cons_zero];exact rfl
    simp only [Act.put,Yd,Ye,Yf]
   refine⟨f3A u0 u1 0,rfl,rfl,by simp [f3A,Value.oneCell'],fun W hB hz=>?_⟩;have HB4:=Hd (bs_below hB HB0.out (Nat.le_refl _) (Nat.le_succ _));have HZ4:=Hd hz;clear hB hz
   go_wp2_with fail
   exact bodyPost_ret (res_ty2 (p:=4) (u:=5) rfl _ _ (w.heap.size+1) u0 u1 0 rfl HZ4.out) rfl ⟨u0,u1,0,(by rw [show o=none by(rw [← HR0.out];rfl)];rfl),fun t ht=>(by rw [show o=none by(rw [← HR0.out];rfl)] at ht;cases ht),HB4.out⟩
  | true=>
   refine wp_region_out (l1:=[_,_,_,_,_,_,_,_,_,_,_,_,_,_,_]) (os:=_) (l2:=[_]) (p:=4) (tx:=73) (r:=w.heap.size+1) (T:=38) (zc:=f3A 0 0 0) (by kernel_rfl) (by kernel_rfl) rfl HR.out rfl infoTy0 ?_
   repeat
    apply fix_step rfl (by simp)
    case h1=>
     intro wb hb;have l0:=fun d os=>cell_regrown (bs_cell hb hne a0) d os;have l1:=fun d os=>cell_regrown (bs_cell hb hne a1) d os;have l2:=fun d os=>cell_regrown (bs_cell hb hne a2) d os;have l3:=fun d os=>cell_regrown (bs_cell hb hne b0) d os;have l4:=fun d os=>cell_regrown (bs_cell hb hne b1) d os;have l5:=fun d os=>cell_regrown (bs_cell hb hne b2) d os;have cA:=fun d os=>Calls.regrown_of (HO1.out (grow (redrawn wb d) os));have cB:=fun d os=>Calls.regrown_of (HW.out (grow (redrawn wb d) os))
     go_big_quiet_step (first | with_reducible exact cA _ _ | with_reducible exact cB _ _)
     refine wpQuiet_nil ?_;simp only [List.getElem?_toArray,List.getElem?_cons_succ,List.getElem?_cons_zero];exact rfl
    simp only [Act.put,Yd,Ye,Yf]
   refine⟨f3A u0 u1 0,rfl,rfl,by simp [f3A,Value.oneCell'],fun W hB hz=>?_⟩;have HB4:=Hd (bs_below hB HB0.out (Nat.le_refl _) (Nat.le_succ _));have HZ4:=Hd hz;clear hB hz
   go_wp2_with fail
   exact bodyPost_ret (res_ty2 (p:=4) (u:=5) rfl _ _ (w.heap.size+1) u0 u1 0 rfl HZ4.out) rfl ⟨u0,u1,0,(by rw [show o=some (u0,u1,0) by(rw [← HR0.out];rfl)];rfl),fun t ht=>(by rw [show o=some (u0,u1,0) by(rw [← HR0.out];rfl)] at ht;exact(Option.some.inj ht).symm),HB4.out⟩
end
section
open Go.RowKit Go.Sort Go.BigFrame
theorem refPlain16(x:Ex) (A:Option Addr) (ca:Nat) (B:Option Addr) (cb:Nat) (S:Option Addr) (m sc:Nat) (ts:List T3) (w:World) (hS:RdY w S m ts) (hk:x.k=16) (hm:3≤m) (o:Option T3) (ho:(if(decide (0<(atT ts 0).2.2) && (wholeT (atT ts 1) && decide (atT ts 2=oneT (atT ts 0))))=true then some (atT ts 0) else none)=o):
 Calls Tryz.prog 82 #[.agg (exA x A ca B cb),.slice S m sc] w (TyAns w o):=by
 have HF:=Hd fun w0 h=>box_res (w:=w) (w0:=w0) (x:=x) (A:=A) (ca:=ca) (B:=B) (cb:=cb) (T:=35) (U:=38) h;obtain⟨sb,so,rfl,hsb,hsc⟩:=hS.at_ (i:=0) (by omega);obtain⟨a0,a1,a2⟩:=hsc 0 (by omega);obtain⟨b0,b1,b2⟩:=hsc 1 (by omega);obtain⟨c0,c1,c2⟩:=hsc 2 (by omega);simp only [Nat.zero_mul,Nat.add_zero,Nat.one_mul] at a0 a1 a2 b0 b1 b2 c0 c1 c2;have hml:=hS.len;have HSS:=Hd fun w1 (hb:Below w.heap.size w w1)=>hS.below hb;unfold exA at HF ⊢;rw [hk] at HF ⊢;clear hS hsc hk;generalize atT ts 0=u at *;generalize atT ts 1=v at *;generalize atT ts 2=z at *;obtain⟨u0,u1,u2⟩:=u;obtain⟨v0,v1,v2⟩:=v;obtain⟨z0,z1,z2⟩:=z;have HO1:=Hd (refOne16 u0 u1 u2);have HW:=Hd (refWhole16 v0 v1 v2)
 dsimp only [oneT] at a0 a1 a2 b0 b1 b2 c0 c1 c2 ho ⊢
 unfold f3A at HO1 HW;generalize wholeT (v0,v1,v2)=ww at *;have HR0:=Hd ho;clear ho
 go_enter Tryz.func82,Tryz.ntmps82
 go_upto_region 1 with(fail)
 generalize hw0:(w.alloc _).alloc _=w0;obtain⟨hR,hcell,hb0,hsz⟩:=HF.out w0 hw0;have HR:=Hd hR;have HB0:=Hd hb0;have q0:=hcell w0 (Below.refl _ _) 0;have q3:=hcell w0 (Below.refl _ _) 3;simp only [Ya,Yb,Yc] at q0 q3;have a0:=(hb0.cell (p:=⟨sb,so,none⟩) hsb).trans a0;have a1:=(hb0.cell (p:=⟨sb,so+1,none⟩) hsb).trans a1;have a2:=(hb0.cell (p:=⟨sb,so+2,none⟩) hsb).trans a2;have b0:=(hb0.cell (p:=⟨sb,so+3,none⟩) hsb).trans b0;have b1:=(hb0.cell (p:=⟨sb,so+3+1,none⟩) hsb).trans b1;have b2:=(hb0.cell (p:=⟨sb,so+3+2,none⟩) hsb).trans b2;have c0:=(hb0.cell (p:=⟨sb,so+2*3,none⟩) hsb).trans c0;have c1:=(hb0.cell (p:=⟨sb,so+2*3+1,none⟩) hsb).trans c1;have c2:=(hb0.cell (p:=⟨sb,so+2*3+2,none⟩) hsb).trans c2;have h0m:0<m:=by omega
 have h1m:1<m:=by omega
 have h2m:2<m:=by omega
 clear hw0 hR hcell hb0 hsz HF hm
 go_upto_region 14 with(fail)
 have hsb0:sb<w0.heap.size:=Nat.lt_of_lt_of_le hsb HB0.out.size;have hne:sb≠w.heap.size+1:=by omega
 clear q3
 cases hp:decide (0<u2) with
 | false=>
  rw [hp] at HR0;refine wp_region_out (l1:=[_,_,_,_,_,_,_,_,_,_,_,_,_,_,_,_,_,_,_,_,_,_,_,_]) (os:=_) (l2:=[_]) (p:=4) (tx:=87) (r:=w.heap.size+1) (T:=38) (zc:=f3A 0 0 0) (by kernel_rfl) (by kernel_rfl) rfl HR.out rfl infoTy0 ?_
  repeat
   apply fix_step rfl (by simp)
   case h1=>
    intro wb hb;have l0:=fun d os=>cell_regrown (bs_cell hb hne a0) d os;have l1:=fun d os=>cell_regrown (bs_cell hb hne a1) d os;have l2:=fun d os=>cell_regrown (bs_cell hb hne a2) d os;have l3:=fun d os=>cell_regrown (bs_cell hb hne b0) d os;have l4:=fun d os=>cell_regrown (bs_cell hb hne b1) d os;have l5:=fun d os=>cell_regrown (bs_cell hb hne b2) d os;have l6:=fun d os=>cell_regrown (bs_cell hb hne c0) d os;have l7:=fun d os=>cell_regrown (bs_cell hb hne c1) d os;have l8:=fun d os=>cell_regrown (bs_cell hb hne c2) d os;have cA:=fun d os=>Calls.regrown_of (HO1.out (grow (redrawn wb d) os));have cB:=fun d os=>Calls.regrown_of (HW.out (grow (redrawn wb d) os))
    go_big_quiet_step (first | with_reducible exact cA _ _ | with_reducible exact cB _ _)
    refine wpQuiet_nil ?_;simp only [List.getElem?_toArray,List.getElem?_cons_succ,List.getElem?_cons_zero];exact rfl
   simp only [Act.put,Yd,Ye,Yf]
  refine⟨f3A u0 u1 u2,rfl,rfl,by simp [f3A,Value.oneCell'],fun W hB hz=>?_⟩;have HB4:=Hd (bs_below hB HB0.out (Nat.le_refl _) (Nat.le_succ _));have HZ4:=Hd hz;clear hB hz
  go_wp2_with fail
  exact bodyPost_ret (res_ty2 (p:=4) (u:=5) rfl _ _ (w.heap.size+1) u0 u1 u2 rfl HZ4.out) rfl ⟨u0,u1,u2,(by rw [show o=none by(rw [← HR0.out];rfl)];rfl),fun t ht=>(by rw [show o=none by(rw [← HR0.out];rfl)] at ht;cases ht),HB4.out⟩
 | true=>
  rw [hp] at HR0
  cases ww with
  | false=>
   refine wp_region_out (l1:=[_,_,_,_,_,_,_,_,_,_,_,_,_,_,_,_,_,_,_,_,_,_,_,_]) (os:=_) (l2:=[_]) (p:=4) (tx:=87) (r:=w.heap.size+1) (T:=38) (zc:=f3A 0 0 0) (by kernel_rfl) (by kernel_rfl) rfl HR.out rfl infoTy0 ?_
   repeat
    apply fix_step rfl (by simp)
    case h1=>
     intro wb hb;have l0:=fun d os=>cell_regrown (bs_cell hb hne a0) d os;have l1:=fun d os=>cell_regrown (bs_cell hb hne a1) d os;have l2:=fun d os=>cell_regrown (bs_cell hb hne a2) d os;have l3:=fun d os=>cell_regrown (bs_cell hb hne b0) d os;have l4:=fun d os=>cell_regrown (bs_cell hb hne b1) d os;have l5:=fun d os=>cell_regrown (bs_cell hb hne b2) d os;have l6:=fun d os=>cell_regrown (bs_cell hb hne c0) d os;have l7:=fun d os=>cell_regrown (bs_cell hb hne c1) d os;have l8:=fun d os=>cell_regrown (bs_cell hb hne c2) d os;have cA:=fun d os=>Calls.regrown_of (HO1.out (grow (redrawn wb d) os));have cB:=fun d os=>Calls.regrown_of (HW.out (grow (redrawn wb d) os))
     go_big_quiet_step (first | with_reducible exact cA _ _ | with_reducible exact cB _ _)
     refine wpQuiet_nil ?_;simp only [List.getElem?_toArray,List.getElem?_cons_succ,List.getElem?_cons_zero];exact rfl
    simp only [Act.put,Yd,Ye,Yf]
   refine⟨f3A u0 u1 u2,rfl,rfl,by simp [f3A,Value.oneCell'],fun W hB hz=>?_⟩;have HB4:=Hd (bs_below hB HB0.out (Nat.le_refl _) (Nat.le_succ _));have HZ4:=Hd hz;clear hB hz
   go_wp2_with fail
   exact bodyPost_ret (res_ty2 (p:=4) (u:=5) rfl _ _ (w.heap.size+1) u0 u1 u2 rfl HZ4.out) rfl ⟨u0,u1,u2,(by rw [show o=none by(rw [← HR0.out];rfl)];rfl),fun t ht=>(by rw [show o=none by(rw [← HR0.out];rfl)] at ht;cases ht),HB4.out⟩
  | true=>
   rcases t3_cases z0 z1 z2 u0 u1 0 with⟨rfl,rfl,rfl,he⟩|⟨h1,he⟩|⟨rfl,h1,he⟩|⟨rfl,rfl,h1,he⟩
   · clear he;refine wp_region_out (l1:=[_,_,_,_,_,_,_,_,_,_,_,_,_,_,_,_,_,_,_,_,_,_,_,_]) (os:=_) (l2:=[_]) (p:=4) (tx:=87) (r:=w.heap.size+1) (T:=38) (zc:=f3A 0 0 0) (by kernel_rfl) (by kernel_rfl) rfl HR.out rfl infoTy0 ?_
     repeat
      apply fix_step rfl (by simp)
      case h1=>
       intro wb hb;have l0:=fun d os=>cell_regrown (bs_cell hb hne a0) d os;have l1:=fun d os=>cell_regrown (bs_cell hb hne a1) d os;have l2:=fun d os=>cell_regrown (bs_cell hb hne a2) d os;have l3:=fun d os=>cell_regrown (bs_cell hb hne b0) d os;have l4:=fun d os=>cell_regrown (bs_cell hb hne b1) d os;have l5:=fun d os=>cell_regrown (bs_cell hb hne b2) d os;have l6:=fun d os=>cell_regrown (bs_cell hb hne c0) d os;have l7:=fun d os=>cell_regrown (bs_cell hb hne c1) d os;have l8:=fun d os=>cell_regrown (bs_cell hb hne c2) d os;have cA:=fun d os=>Calls.regrown_of (HO1.out (grow (redrawn wb d) os));have cB:=fun d os=>Calls.regrown_of (HW.out (grow (redrawn wb d) os))
       go_big_quiet_step (first | with_reducible exact cA _ _ | with_reducible exact cB _ _)
       refine wpQuiet_nil ?_;simp only [List.getElem?_toArray,List.getElem?_cons_succ,List.getElem?_cons_zero];exact rfl
      simp only [Act.put,Yd,Ye,Yf]
     refine⟨f3A _ _ u2,rfl,rfl,by simp [f3A,Value.oneCell'],fun W hB hz=>?_⟩;have HB4:=Hd (bs_below hB HB0.out (Nat.le_refl _) (Nat.le_succ _));have HZ4:=Hd hz;clear hB hz
     go_wp2_with fail
     exact bodyPost_ret (res_ty2 (p:=4) (u:=5) rfl _ _ (w.heap.size+1) z0 z1 u2 rfl HZ4.out) rfl ⟨z0,z1,u2,(by rw [show o=some (z0,z1,u2) by(rw [← HR0.out];simp)];rfl),fun t ht=>(by rw [show o=some (z0,z1,u2) by(rw [← HR0.out];simp)] at ht;exact(Option.some.inj ht).symm),HB4.out⟩
   · have HE:=Hd he;have h1n:=h1;simp only [beq_eq_false_iff_ne,ne_eq] at h1n;clear he;refine wp_region_out (l1:=[_,_,_,_,_,_,_,_,_,_,_,_,_,_,_,_,_,_,_,_,_,_,_,_]) (os:=_) (l2:=[_]) (p:=4) (tx:=87) (r:=w.heap.size+1) (T:=38) (zc:=f3A 0 0 0) (by kernel_rfl) (by kernel_rfl) rfl HR.out rfl infoTy0 ?_
     repeat
      apply fix_step rfl (by simp)
      case h1=>
       intro wb hb;have l0:=fun d os=>cell_regrown (bs_cell hb hne a0) d os;have l1:=fun d os=>cell_regrown (bs_cell hb hne a1) d os;have l2:=fun d os=>cell_regrown (bs_cell hb hne a2) d os;have l3:=fun d os=>cell_regrown (bs_cell hb hne b0) d os;have l4:=fun d os=>cell_regrown (bs_cell hb hne b1) d os;have l5:=fun d os=>cell_regrown (bs_cell hb hne b2) d os;have l6:=fun d os=>cell_regrown (bs_cell hb hne c0) d os;have l7:=fun d os=>cell_regrown (bs_cell hb hne c1) d os;have l8:=fun d os=>cell_regrown (bs_cell hb hne c2) d os;have cA:=fun d os=>Calls.regrown_of (HO1.out (grow (redrawn wb d) os));have cB:=fun d os=>Calls.regrown_of (HW.out (grow (redrawn wb d) os))
       go_big_quiet_step (first | with_reducible exact cA _ _ | with_reducible exact cB _ _)
       refine wpQuiet_nil ?_;simp only [List.getElem?_toArray,List.getElem?_cons_succ,List.getElem?_cons_zero];exact rfl
      simp only [Act.put,Yd,Ye,Yf]
     refine⟨f3A _ _ u2,rfl,rfl,by simp [f3A,Value.oneCell'],fun W hB hz=>?_⟩;have HB4:=Hd (bs_below hB HB0.out (Nat.le_refl _) (Nat.le_succ _));have HZ4:=Hd hz;clear hB hz
     go_wp2_with fail
     exact bodyPost_ret (res_ty2 (p:=4) (u:=5) rfl _ _ (w.heap.size+1) _ _ u2 rfl HZ4.out) rfl ⟨_,_,u2,(by rw [show o=none by(rw [← HR0.out];(exact if_neg (fun h=>HE.out (of_decide_eq_true (by rw [Bool.true_and,Bool.true_and] at h;exact h)))))];rfl),fun t ht=>(by rw [show o=none by(rw [← HR0.out];(exact if_neg (fun h=>HE.out (of_decide_eq_true (by rw [Bool.true_and,Bool.true_and] at h;exact h)))))] at ht;cases ht),HB4.out⟩
   · have HE:=Hd he;have h1n:=h1;simp only [beq_eq_false_iff_ne,ne_eq] at h1n;clear he;refine wp_region_out (l1:=[_,_,_,_,_,_,_,_,_,_,_,_,_,_,_,_,_,_,_,_,_,_,_,_]) (os:=_) (l2:=[_]) (p:=4) (tx:=87) (r:=w.heap.size+1) (T:=38) (zc:=f3A 0 0 0) (by kernel_rfl) (by kernel_rfl) rfl HR.out rfl infoTy0 ?_
     repeat
      apply fix_step rfl (by simp)
      case h1=>
       intro wb hb;have l0:=fun d os=>cell_regrown (bs_cell hb hne a0) d os;have l1:=fun d os=>cell_regrown (bs_cell hb hne a1) d os;have l2:=fun d os=>cell_regrown (bs_cell hb hne a2) d os;have l3:=fun d os=>cell_regrown (bs_cell hb hne b0) d os;have l4:=fun d os=>cell_regrown (bs_cell hb hne b1) d os;have l5:=fun d os=>cell_regrown (bs_cell hb hne b2) d os;have l6:=fun d os=>cell_regrown (bs_cell hb hne c0) d os;have l7:=fun d os=>cell_regrown (bs_cell hb hne c1) d os;have l8:=fun d os=>cell_regrown (bs_cell hb hne c2) d os;have cA:=fun d os=>Calls.regrown_of (HO1.out (grow (redrawn wb d) os));have cB:=fun d os=>Calls.regrown_of (HW.out (grow (redrawn wb d) os))
       go_big_quiet_step (first | with_reducible exact cA _ _ | with_reducible exact cB _ _)
       refine wpQuiet_nil ?_;simp only [List.getElem?_toArray,List.getElem?_cons_succ,List.getElem?_cons_zero];exact rfl
      simp only [Act.put,Yd,Ye,Yf]
     refine⟨f3A _ _ u2,rfl,rfl,by simp [f3A,Value.oneCell'],fun W hB hz=>?_⟩;have HB4:=Hd (bs_below hB HB0.out (Nat.le_refl _) (Nat.le_succ _));have HZ4:=Hd hz;clear hB hz
     go_wp2_with fail
     exact bodyPost_ret (res_ty2 (p:=4) (u:=5) rfl _ _ (w.heap.size+1) _ _ u2 rfl HZ4.out) rfl ⟨_,_,u2,(by rw [show o=none by(rw [← HR0.out];(exact if_neg (fun h=>HE.out (of_decide_eq_true (by rw [Bool.true_and,Bool.true_and] at h;exact h)))))];rfl),fun t ht=>(by rw [show o=none by(rw [← HR0.out];(exact if_neg (fun h=>HE.out (of_decide_eq_true (by rw [Bool.true_and,Bool.true_and] at h;exact h)))))] at ht;cases ht),HB4.out⟩
   · have HE:=Hd he;have h1n:=h1;simp only [beq_eq_false_iff_ne,ne_eq] at h1n;clear he;refine wp_region_out (l1:=[_,_,_,_,_,_,_,_,_,_,_,_,_,_,_,_,_,_,_,_,_,_,_,_]) (os:=_) (l2:=[_]) (p:=4) (tx:=87) (r:=w.heap.size+1) (T:=38) (zc:=f3A 0 0 0) (by kernel_rfl) (by kernel_rfl) rfl HR.out rfl infoTy0 ?_
     repeat
      apply fix_step rfl (by simp)
      case h1=>
       intro wb hb;have l0:=fun d os=>cell_regrown (bs_cell hb hne a0) d os;have l1:=fun d os=>cell_regrown (bs_cell hb hne a1) d os;have l2:=fun d os=>cell_regrown (bs_cell hb hne a2) d os;have l3:=fun d os=>cell_regrown (bs_cell hb hne b0) d os;have l4:=fun d os=>cell_regrown (bs_cell hb hne b1) d os;have l5:=fun d os=>cell_regrown (bs_cell hb hne b2) d os;have l6:=fun d os=>cell_regrown (bs_cell hb hne c0) d os;have l7:=fun d os=>cell_regrown (bs_cell hb hne c1) d os;have l8:=fun d os=>cell_regrown (bs_cell hb hne c2) d os;have cA:=fun d os=>Calls.regrown_of (HO1.out (grow (redrawn wb d) os));have cB:=fun d os=>Calls.regrown_of (HW.out (grow (redrawn wb d) os))
       go_big_quiet_step (first | with_reducible exact cA _ _ | with_reducible exact cB _ _)
       refine wpQuiet_nil ?_;simp only [List.getElem?_toArray,List.getElem?_cons_succ,List.getElem?_cons_zero];exact rfl
      simp only [Act.put,Yd,Ye,Yf]
     refine⟨f3A _ _ u2,rfl,rfl,by simp [f3A,Value.oneCell'],fun W hB hz=>?_⟩;have HB4:=Hd (bs_below hB HB0.out (Nat.le_refl _) (Nat.le_succ _));have HZ4:=Hd hz;clear hB hz
     go_wp2_with fail
     exact bodyPost_ret (res_ty2 (p:=4) (u:=5) rfl _ _ (w.heap.size+1) _ _ u2 rfl HZ4.out) rfl ⟨_,_,u2,(by rw [show o=none by(rw [← HR0.out];(exact if_neg (fun h=>HE.out (of_decide_eq_true (by rw [Bool.true_and,Bool.true_and] at h;exact h)))))];rfl),fun t ht=>(by rw [show o=none by(rw [← HR0.out];(exact if_neg (fun h=>HE.out (of_decide_eq_true (by rw [Bool.true_and,Bool.true_and] at h;exact h)))))] at ht;cases ht),HB4.out⟩
end
section
open Go.RowKit Go.Sort Go.BigFrame
theorem refPlain14(x:Ex) (A:Option Addr) (ca:Nat) (B:Option Addr) (cb:Nat) (S:Option Addr) (m sc:Nat) (ts:List T3) (w:World) (hS:RdY w S m ts) (hk:x.k=14) (hm:1≤m) (o:Option T3) (ho:(if(allT ts && decide ((atT ts 0).2.2=0))=true then some ((atT ts 0).1,(atT ts 0).2.1,(ts.length:Int)) else none)=o):
 Calls Tryz.prog 82 #[.agg (exA x A ca B cb),.slice S m sc] w (TyAns w o):=by
 have HF:=Hd fun w0 h=>box_res (w:=w) (w0:=w0) (x:=x) (A:=A) (ca:=ca) (B:=B) (cb:=cb) (T:=35) (U:=38) h;obtain⟨sb,so,rfl,hsb,hsc⟩:=hS.at_ (i:=0) (by omega);obtain⟨a0,a1,a2⟩:=hsc 0 (by omega);simp only [Nat.zero_mul,Nat.add_zero,Nat.one_mul] at a0 a1 a2;have hml:=hS.len;have HSS:=Hd fun w1 (hb:Below w.heap.size w w1)=>hS.below hb;have HALL:=Hd fun w1 (hb:Below w.heap.size w w1)=>refAll16 (some ⟨sb,so,none⟩) m sc ts w1 (hS.below hb);unfold exA at HF ⊢;rw [hk] at HF ⊢;clear hS hsc hk;rw [hml] at ho;generalize allT ts=al at *;generalize atT ts 0=u at *;obtain⟨u0,u1,u2⟩:=u
 dsimp only at a0 a1 a2 ho
 have HR0:=Hd ho;clear ho
 go_enter Tryz.func82,Tryz.ntmps82
 go_upto_region 1 with(fail)
 generalize hw0:(w.alloc _).alloc _=w0;obtain⟨hR,hcell,hb0,hsz⟩:=HF.out w0 hw0;have HR:=Hd hR;have HB0:=Hd hb0;have q0:=hcell w0 (Below.refl _ _) 0;have q3:=hcell w0 (Below.refl _ _) 3;simp only [Ya,Yb,Yc] at q0 q3;have a0:=(hb0.cell (p:=⟨sb,so,none⟩) hsb).trans a0;have a1:=(hb0.cell (p:=⟨sb,so+1,none⟩) hsb).trans a1;have a2:=(hb0.cell (p:=⟨sb,so+2,none⟩) hsb).trans a2;have h0m:0<m:=by omega
 clear hw0 hR hcell hb0 hsz HF hm
 go_upto_region 9 with(fail)
 have hsb0:sb<w0.heap.size:=Nat.lt_of_lt_of_le hsb HB0.out.size;clear q0 q3
 go_upto_region 10 with(refine wpList_store_row rfl _ _ _ rfl w0.heap.size _ rfl rfl _ _ (heap_alloc_new _ _) infoTy0 rfl (by simp [Value.oneCell']) ?_)
 generalize hw1:World.setRow _ _ _=w1;generalize hG:w0.heap.size=G at *
 have h1:F3 38 w1 G u0 u1 u2∧F3 38 w1 (w.heap.size+1) 0 0 0∧Below w.heap.size w w1∧Below G w0 w1:=by
  have hlt:=HR.out.lt;have hle:=HB0.out.size;have hA:Below G w0 (w0.alloc (.cells #[.int .i64 0,.int .i64 0,.int .i64 0] 38)):=(Below.refl _ _).alloc (by omega) _;have hS:Below G w0 w1:=by rw [← hw1];exact below_setRow hA (Nat.le_refl _) _
  refine⟨?_,?_,HB0.out.trans (hS.mono (by omega)),hS⟩
  · rw [← hw1];exact setRow_heap _ _ _ _ _ _ (by rw [← hG];exact heap_alloc_new _ _)
  · exact HR.out.below (by rw [hG];exact hS)
 obtain⟨hF1,hR1,hB1,hB01⟩:=h1;have hle:=HB0.out.size;have hlt:=HR.out.lt;have hnG:G≠w.heap.size+1:=by omega
 have hne:sb≠w.heap.size+1:=by omega
 have hnsG:sb≠G:=by omega
 have hwG:w.heap.size≤G:=by omega
 have a2:=(hB01.cell (p:=⟨sb,so+2,none⟩) (by omega)).trans a2;have q2:=hF1.cell 2;simp only [f3A,List.getElem?_toArray,List.getElem?_cons_zero,List.getElem?_cons_succ] at q2;have fz:=frozen_of_row w1 G 2 _ _ hF1;have HR1:=Hd hR1;have HB1:=Hd hB1;have HF1:=Hd hF1;clear hw1 hR1 hB1 hF1 hB01 hG hlt hle a0 a1
 go_upto_region 11 with(fail)
 generalize hw2:w1.setCell ⟨G,2,none⟩ (.int .i64 _)=w2
 have h2:F3 38 w2 G u0 u1 m∧F3 38 w2 (w.heap.size+1) 0 0 0∧Below w.heap.size w w2∧w2.cell? ⟨sb,so+2,none⟩=some (.int .i64 u2):=by
  rw [← hw2,setCell_eq_setRow _ _ _ _ _ _ _ HF1.out,show(f3A u0 u1 u2).setIfInBounds 2 (.int .i64 m)=f3A u0 u1 m from rfl];refine⟨setRow_heap _ _ _ _ _ _ HF1.out,(setRow_other _ _ _ _ (by omega)).trans HR1.out,below_setRow HB1.out (by omega) _,?_⟩;rw [← a2];unfold World.cell?;rw [show(w1.setRow G (f3A u0 u1 m)).heap[(⟨sb,so+2,none⟩:Addr).block]?=w1.heap[(⟨sb,so+2,none⟩:Addr).block]? from setRow_other _ _ _ _ hnsG]
 obtain⟨hF2,hR2,hB2,a2'⟩:=h2;obtain⟨g0,g1,g2,-,-,-⟩:=Sx hF2.cell;simp only [f3A,List.getElem?_toArray,List.getElem?_cons_zero,List.getElem?_cons_succ] at g0 g1 g2;have HR2:=Hd hR2;have HB2:=Hd hB2;clear hw2 hR2 hB2 hF2 q2 fz a2;have a2:=a2';clear a2'
 cases al with
 | false=>
  refine wp_region_out (l1:=[_,_,_,_,_,_,_,_,_,_]) (os:=_) (l2:=[_]) (p:=4) (tx:=58) (r:=w.heap.size+1) (T:=38) (zc:=f3A 0 0 0) (by kernel_rfl) (by kernel_rfl) rfl HR2.out rfl infoTy0 ?_
  repeat
   apply fix_step rfl (by simp)
   case h1=>
    intro wb hb;have hbb:=bs_below hb HB2.out (Nat.le_refl _) (Nat.le_succ _);have l0:=fun d os=>cell_regrown (bs_cell hb hnG g0) d os;have l1:=fun d os=>cell_regrown (bs_cell hb hnG g1) d os;have l2:=fun d os=>cell_regrown (bs_cell hb hnG g2) d os;have l3:=fun d os=>cell_regrown (bs_cell hb hne a2) d os;have cA:=fun d os=>Calls.regrown_of (HALL.out (grow (redrawn wb d) os) (hbb.trans ((below_regrown wb d os).mono hbb.size)))
    go_big_quiet_step (first | with_reducible exact cA _ _)
    refine wpQuiet_nil ?_;simp only [List.getElem?_toArray,List.getElem?_cons_succ,List.getElem?_cons_zero];exact rfl
   simp only [Act.put,Yd,Ye,Yf]
  refine⟨f3A u0 u1 (m:Int),rfl,rfl,by simp [f3A,Value.oneCell'],fun W hB hz=>?_⟩;have HB4:=Hd (bs_below hB HB2.out (Nat.le_refl _) (Nat.le_succ _));have HZ4:=Hd hz;clear hB hz
  go_wp2_with fail
  exact bodyPost_ret (res_ty2 (p:=4) (u:=5) rfl _ _ (w.heap.size+1) u0 u1 (m:Int) rfl HZ4.out) rfl ⟨u0,u1,(m:Int),(by rw [show o=none by(rw [← HR0.out];rfl)];rfl),fun t ht=>(by rw [show o=none by(rw [← HR0.out];rfl)] at ht;cases ht),HB4.out⟩
 | true=>
  cases hd:decide (u2=0) with
  | false=>
   have hd':(u2==0)=false:=by simpa using hd
   refine wp_region_out (l1:=[_,_,_,_,_,_,_,_,_,_]) (os:=_) (l2:=[_]) (p:=4) (tx:=58) (r:=w.heap.size+1) (T:=38) (zc:=f3A 0 0 0) (by kernel_rfl) (by kernel_rfl) rfl HR2.out rfl infoTy0 ?_
   repeat
    apply fix_step rfl (by simp)
    case h1=>
     intro wb hb;have hbb:=bs_below hb HB2.out (Nat.le_refl _) (Nat.le_succ _);have l0:=fun d os=>cell_regrown (bs_cell hb hnG g0) d os;have l1:=fun d os=>cell_regrown (bs_cell hb hnG g1) d os;have l2:=fun d os=>cell_regrown (bs_cell hb hnG g2) d os;have l3:=fun d os=>cell_regrown (bs_cell hb hne a2) d os;have cA:=fun d os=>Calls.regrown_of (HALL.out (grow (redrawn wb d) os) (hbb.trans ((below_regrown wb d os).mono hbb.size)))
     go_big_quiet_step (first | with_reducible exact cA _ _)
     refine wpQuiet_nil ?_;simp only [List.getElem?_toArray,List.getElem?_cons_succ,List.getElem?_cons_zero];exact rfl
    simp only [Act.put,Yd,Ye,Yf]
   refine⟨f3A u0 u1 (m:Int),rfl,rfl,by simp [f3A,Value.oneCell'],fun W hB hz=>?_⟩;have HB4:=Hd (bs_below hB HB2.out (Nat.le_refl _) (Nat.le_succ _));have HZ4:=Hd hz;clear hB hz
   go_wp2_with fail
   exact bodyPost_ret (res_ty2 (p:=4) (u:=5) rfl _ _ (w.heap.size+1) u0 u1 (m:Int) rfl HZ4.out) rfl ⟨u0,u1,(m:Int),(by rw [show o=none by(rw [← HR0.out];rw [hd];rfl)];rfl),fun t ht=>(by rw [show o=none by(rw [← HR0.out];rw [hd];rfl)] at ht;cases ht),HB4.out⟩
  | true=>
   have hd':u2=0:=of_decide_eq_true hd;subst hd';refine wp_region_out (l1:=[_,_,_,_,_,_,_,_,_,_]) (os:=_) (l2:=[_]) (p:=4) (tx:=58) (r:=w.heap.size+1) (T:=38) (zc:=f3A 0 0 0) (by kernel_rfl) (by kernel_rfl) rfl HR2.out rfl infoTy0 ?_
   repeat
    apply fix_step rfl (by simp)
    case h1=>
     intro wb hb;have hbb:=bs_below hb HB2.out (Nat.le_refl _) (Nat.le_succ _);have l0:=fun d os=>cell_regrown (bs_cell hb hnG g0) d os;have l1:=fun d os=>cell_regrown (bs_cell hb hnG g1) d os;have l2:=fun d os=>cell_regrown (bs_cell hb hnG g2) d os;have l3:=fun d os=>cell_regrown (bs_cell hb hne a2) d os;have cA:=fun d os=>Calls.regrown_of (HALL.out (grow (redrawn wb d) os) (hbb.trans ((below_regrown wb d os).mono hbb.size)))
     go_big_quiet_step (first | with_reducible exact cA _ _)
     refine wpQuiet_nil ?_;simp only [List.getElem?_toArray,List.getElem?_cons_succ,List.getElem?_cons_zero];exact rfl
    simp only [Act.put,Yd,Ye,Yf]
   refine⟨f3A u0 u1 (m:Int),rfl,rfl,by simp [f3A,Value.oneCell'],fun W hB hz=>?_⟩;have HB4:=Hd (bs_below hB HB2.out (Nat.le_refl _) (Nat.le_succ _));have HZ4:=Hd hz;clear hB hz
   go_wp2_with fail
   exact bodyPost_ret (res_ty2 (p:=4) (u:=5) rfl _ _ (w.heap.size+1) u0 u1 (m:Int) rfl HZ4.out) rfl ⟨u0,u1,(m:Int),(by rw [show o=some (u0,u1,(m:Int)) by(rw [← HR0.out];rfl)];rfl),fun t ht=>(by rw [show o=some (u0,u1,(m:Int)) by(rw [← HR0.out];rfl)] at ht;exact(Option.some.inj ht).symm),HB4.out⟩
end
section
open Go.RowKit
def plainN(k:Int):Nat:=if(k==5)=true then 1 else if(k==6)=true then 2 else if(k==7)=true then 3 else if(k==14)=true then 1 else if(k==15)=true then 2 else 3
theorem refPlainT(x:Ex) (A:Option Addr) (ca:Nat) (B:Option Addr) (cb:Nat) (S:Option Addr) (m sc:Nat) (ts:List T3) (w:World) (hS:RdY w S m ts)
 (hk:x.k=5∨x.k=6∨x.k=7∨x.k=14∨x.k=15∨x.k=16) (hm:plainN x.k≤m):
 Calls Tryz.prog 82 #[.agg (exA x A ca B cb),.slice S m sc] w (TyAns w (plainT x ts)):=by
 rcases hk with hk | hk | hk | hk | hk | hk
 · have h:=refPlain5 x A ca B cb S m sc ts w hS hk (by rw [hk] at hm;exact hm);unfold plainT;rw [hk];exact h
 · have h:=refPlain6 x A ca B cb S m sc ts w hS hk (by rw [hk] at hm;exact hm);unfold plainT;rw [hk];exact h
 · have h:=refPlain7 x A ca B cb S m sc ts w hS hk (by rw [hk] at hm;exact hm);unfold plainT;rw [hk];exact h
 · have h:=refPlain14 x A ca B cb S m sc ts w hS hk (by rw [hk] at hm;exact hm) _ rfl;unfold plainT;rw [hk];exact h
 · have h:=refPlain15 x A ca B cb S m sc ts w hS hk (by rw [hk] at hm;exact hm);unfold plainT;rw [hk];exact h
 · have h:=refPlain16 x A ca B cb S m sc ts w hS hk (by rw [hk] at hm;exact hm) _ rfl;unfold plainT;rw [hk];exact h
end
section
open Go.RowKit Go.Sort Go.BigFrame
def flowM(od:Option Dc) (f:Dc→Bool) (t:T3):Option T3:=match od with | none=>none | some d=>if f d=true then some t else none
theorem flowM_d{od:Option Dc}{f:Dc→Bool}{t:T3}(h:od.isSome=false):flowM od f t=none:=by cases od;rfl;cases h
theorem flowM_b{od:Option Dc}{f:Dc→Bool}{t:T3}{dd:Dc}(h:od.isSome=true) (hd:od.getD default=dd):flowM od f t=if f dd=true then some t else none:=by
 subst hd
 cases od with
 | none=>cases h
 | some d=>rfl
theorem refFlow12(p:Pg) (E:Option Addr) (ec:Nat) (N:Option Addr) (nc:Nat) (i:Nat) (x:Ex) (A:Option Addr) (ca:Nat) (B:Option Addr) (cb:Nat) (S:Option Addr) (m sc:Nat) (ts:List T3) (w:World) (h:rdP w p E N) (hr:rdX w x A B) (hS:RdY w S m ts) (hk:x.k=12) (hm:1≤m) (hi:i<p.ns.length) (hal:(ndAt p i).all.length≤1000) (hrt:∀ d,declO (ndAt p i) x.s=some d→rightB p.es.length d.k d.e d.l=true) (o:Option T3) (ho:flowM (declO (ndAt p i) x.s) (fun d=>allT ts && armsT p.es (tyD d) x.arms) (atT ts 0)=o):
 Calls Tryz.prog 81 #[.agg (pgA p E ec N nc),.int .i64 i,.agg (exA x A ca B cb),.slice S m sc] w (TyAns w o):=by
 have HF:=Hd fun w0 h=>pe_box3 (w:=w) (w0:=w0) (p:=p) (E:=E) (ec:=ec) (N:=N) (nc:=nc) (x:=x) (A:=A) (ca:=ca) (B:=B) (cb:=cb) (T:=25) (U:=35) (V:=38) h;obtain⟨nb,no,A1,c1,A2,c2,A3,c3,A4,c4,rfl,hnb,hrd,d0,d1,d2,d3,d4⟩:=nd_at15 h.2 hi;have HDC:=Hd fun w1 (hb:Below w.heap.size w w1)=>refDeclN (ndAt p i) A1 c1 A2 c2 A3 c3 A4 c4 x.s w1 (hrd.below hb) hal;obtain⟨sb,so,rfl,hsb,hsc⟩:=hS.at_ (i:=0) (by omega);obtain⟨a0,a1,a2⟩:=hsc 0 (by omega);simp only [Nat.zero_mul,Nat.add_zero] at a0 a1 a2
 have HSC:=Hd (show ∀ w1,Below w.heap.size w w1→w1.cell? ⟨sb,so,none⟩=some (.int .i64 (atT ts 0).1)∧w1.cell? ⟨sb,so+1,none⟩=some (.int .i64 (atT ts 0).2.1)∧w1.cell? ⟨sb,so+2,none⟩=some (.int .i64 (atT ts 0).2.2) from
  fun w1 hb=>⟨(hb.cell (p:=⟨sb,so,none⟩) hsb).trans a0,(hb.cell (p:=⟨sb,so+1,none⟩) hsb).trans a1,(hb.cell (p:=⟨sb,so+2,none⟩) hsb).trans a2⟩)
 have HAL:=Hd fun w1 (hb:Below w.heap.size w w1)=>refAll16 (some ⟨sb,so,none⟩) m sc ts w1 (hS.below hb);have HAR:=Hd fun d (hd:declO (ndAt p i) x.s=some d) w1 (hb:Below w.heap.size w w1)=>refArms16 E p.es.length ec p.es d.k d.e d.l A x.arms.length ca x.arms w1 (h.1.below hb) (hr.arms.below hb) (hrt d hd);have HTD:=Hd (show(fun d=>allT ts && armsT p.es (tyD d) x.arms)=(fun d:Dc=>allT ts && armsT p.es (d.k,d.e,d.l) x.arms) from rfl);rw [HTD.out] at ho;clear HTD hrt;clear a0 a1 a2 hsc hS;generalize allT ts=al at *;generalize atT ts 0=tx at *;obtain⟨x0,x1,x2⟩:=tx
 dsimp only at HSC
 unfold ndAt at HDC ho HAR;unfold DeclPost declV at HDC;generalize hdo:declO (p.ns[i]?.getD default) x.s=od at *;generalize hnd:p.ns[i]?.getD default=nd at *;unfold ndA at HDC;unfold exA at HF ⊢;unfold pgA at HF ⊢;rw [hk] at HF ⊢
 have HD:=Hd (show ∀ w1,Below w.heap.size w w1→w1.cell? ⟨nb,no+i*5,none⟩=some (.string nd.nm)∧w1.cell? ⟨nb,no+i*5+1,none⟩=some (.slice A1 nd.ins.length c1)∧w1.cell? ⟨nb,no+i*5+2,none⟩=some (.slice A2 nd.outs.length c2)∧w1.cell? ⟨nb,no+i*5+3,none⟩=some (.slice A3 nd.vars.length c3)∧w1.cell? ⟨nb,no+i*5+4,none⟩=some (.slice A4 nd.eqs.length c4) from
  fun w1 hb=>⟨(hb.cell (p:=⟨nb,no+i*5,none⟩) hnb).trans d0,(hb.cell (p:=⟨nb,no+i*5+1,none⟩) hnb).trans d1,(hb.cell (p:=⟨nb,no+i*5+2,none⟩) hnb).trans d2,(hb.cell (p:=⟨nb,no+i*5+3,none⟩) hnb).trans d3,(hb.cell (p:=⟨nb,no+i*5+4,none⟩) hnb).trans d4⟩)
 clear d0 d1 d2 d3 d4 hrd hk h hr;generalize hdd:od.getD default=dd at *;generalize hds:od.isSome=ds at *;unfold dcA at HDC;unfold f3A at HAR;have HO:=Hd (show flowM od (fun d=>al && armsT p.es (d.k,d.e,d.l) x.arms) (x0,x1,x2)=o from ho);have HDD:=Hd hdd;have HDS:=Hd hds;clear ho hdd hds hnd
 go_enter Tryz.func81,Tryz.ntmps81
 go_upto_region 1 with(fail)
 generalize hw0:((w.alloc _).alloc _).alloc _=w0;obtain⟨hb0,hsz,hp,hx,hR⟩:=HF.out w0 hw0;have HB0:=Hd hb0;have HR:=Hd hR;have HP:=Hd hp;have HX:=Hd hx;have q0:=hx w0 (Below.refl _ _) 0;have q2:=hx w0 (Below.refl _ _) 2;have p1:=hp w0 (Below.refl _ _) 1;simp only [Ya,Yb,Yc] at q0 q2 p1;obtain⟨d0,d1,d2,d3,d4⟩:=HD.out w0 hb0;have HQ:=Hd (show ∀ w1,Below w0.heap.size w0 w1→w1.cell? ⟨w.heap.size,1,none⟩=some (.slice (some ⟨nb,no,none⟩) p.ns.length nc)∧w1.cell? ⟨w.heap.size+1,2,none⟩=some (.string x.s)∧w1.cell? ⟨nb,no+i*5,none⟩=some (.string nd.nm)∧w1.cell? ⟨nb,no+i*5+1,none⟩=some (.slice A1 nd.ins.length c1)∧w1.cell? ⟨nb,no+i*5+2,none⟩=some (.slice A2 nd.outs.length c2)∧w1.cell? ⟨nb,no+i*5+3,none⟩=some (.slice A3 nd.vars.length c3)∧w1.cell? ⟨nb,no+i*5+4,none⟩=some (.slice A4 nd.eqs.length c4) from fun w1 hb=>⟨HP.out w1 hb 1,HX.out w1 hb 2,HD.out w1 (HB0.out.trans (hb.mono HB0.out.size))⟩);clear hw0 hb0 hsz hp hx hR HF
 go_upto_region 5 with(fail)
 go_cut [10,11] (fun v10 v11 wx=>v11=.bool ds∧∃ g,v10=.pointer (some ⟨g,0,none⟩)∧w0.heap.size≤g∧RowD wx g dd∧Below w0.heap.size w0 wx)
 case first=>
  have HL:=Hd (show ∀ wb,Cls w0 wb→_ from fun wb hb=>HQ.out wb (cls_below hb));have HCA:=Hd (show ∀ wb,Cls w0 wb→∀ d os,_ from fun wb hb d os=>Calls.regrown_of (HDC.out (grow (redrawn wb d) os) ((HB0.out.trans ((cls_below hb).mono HB0.out.size)).trans ((below_regrown wb d os).mono (HB0.out.trans ((cls_below hb).mono HB0.out.size)).size))));refine wp_region_var (l1:=[_,_,_,_,_,_,_,_,_,_,_]) (oa:=_) (os:=_) (l2:=[_]) (d:=10) (tx:=45) (T:=58) (zc:=dcZ) (by kernel_rfl) (by kernel_rfl) rfl (by simp) (fun a W=>by rfl) rfl (by kernel_rfl) ?_
  repeat
   apply fix_step rfl (by simp)
   case h1=>
    intro wb hb;obtain⟨m0,m1,m2,m3,m4,m5,m6⟩:=HL.out wb hb;have l0:=fun d os=>cell_regrown m0 d os;have l1:=fun d os=>cell_regrown m1 d os;have l2:=fun d os=>cell_regrown m2 d os;have l3:=fun d os=>cell_regrown m3 d os;have l4:=fun d os=>cell_regrown m4 d os;have l5:=fun d os=>cell_regrown m5 d os;have l6:=fun d os=>cell_regrown m6 d os;have cA:=HCA.out wb hb
    go_big_quiet_step (with_reducible exact cA _ _)
    exact wpQuiet_nil rfl
   simp only [Act.put,Yd,Ye,Yf]
  refine⟨dcA dd,rfl,rfl,by simp [dcA,Value.oneCell'],fun W g hW hg hz=>?_⟩;have HBW:=Hd (cls_below hW);have HZ:=Hd hz;have HG:=Hd hg;clear hW hg hz
  go_wp2_with fail
  go_meet
  case rel=>exact⟨rfl,g,rfl,HG.out,HZ.out,HBW.out⟩
 case rest=>
  obtain⟨rfl,g,rfl,hg,hz,hbx⟩:=hcut;generalize wc=wx at *;have HZ:=Hd hz;have HG:=Hd hg;have HBX:=Hd hbx;have q0:=HX.out wx hbx 0;have HX4:=Hd (fun W h=>HX.out W h 4);have HP0:=Hd (fun W h=>HP.out W h 0);simp only [Ya,Yb,Yc] at HX4 HP0;simp only [Ya,Yb,Yc] at q0;have hbw:=HB0.out.trans (hbx.mono HB0.out.size);obtain⟨a0,a1,a2⟩:=HSC.out wx hbw;have p0:=HP0.out wx hbx;have q4:=HX4.out wx hbx;have hR2:F3 38 wx (w.heap.size+1+1) 0 0 0:=HR.out.below hbx;have hrl:=HR.out.lt;have hns:sb≠w.heap.size+1+1:=by omega
  have hng:g≠w.heap.size+1+1:=by have:=HG.out;omega
  have hnp:w.heap.size≠w.heap.size+1+1:=by omega
  have hnx:w.heap.size+1≠w.heap.size+1+1:=by omega
  have k1:=rowD_cell HZ.out 1;have k2:=rowD_cell HZ.out 2;have k3:=rowD_cell HZ.out 3;simp only [dcA,List.getElem?_toArray,List.getElem?_cons_zero,List.getElem?_cons_succ] at k1 k2 k3;have HR2:=Hd hR2;have HBW:=Hd hbw;have HLR:=Hd (show w.heap.size≤w.heap.size+1+1 by omega);clear hz hg hbx HDC HD HQ d0 d1 d2 d3 d4 p1 q2 hR2 hbw hrl HX4 HP0
  go_upto_region 10 with(fail)
  have hm1:0<m:=hm
  cases ds with
  | false=>
   have HO2:=Hd (show o=none by rw [← HO.out];exact flowM_d HDS.out);refine wp_region_out (l1:=[_,_,_,_,_,_,_,_,_,_,_,_,_,_,_,_,_]) (os:=_) (l2:=[_]) (p:=8) (tx:=79) (r:=w.heap.size+1+1) (T:=38) (zc:=f3A 0 0 0) (by kernel_rfl) (by kernel_rfl) rfl HR2.out rfl infoTy0 ?_
   repeat
    apply fix_step rfl (by simp)
    case h1=>
     intro wb hb;have l0:=fun d os=>cell_regrown (bs_cell hb hns a0) d os;have l1:=fun d os=>cell_regrown (bs_cell hb hns a1) d os;have l2:=fun d os=>cell_regrown (bs_cell hb hns a2) d os;have l3:=fun d os=>cell_regrown (bs_cell hb hng k1) d os;have l4:=fun d os=>cell_regrown (bs_cell hb hng k2) d os;have l5:=fun d os=>cell_regrown (bs_cell hb hng k3) d os;have l6:=fun d os=>cell_regrown (bs_cell hb hnp p0) d os;have l7:=fun d os=>cell_regrown (bs_cell hb hnx q4) d os;have hW:=fun d os=>(bs_below hb HBW.out (Nat.le_refl _) HLR.out).trans ((below_regrown wb d os).mono (bs_below hb HBW.out (Nat.le_refl _) HLR.out).size);have cA:=fun d os=>Calls.regrown_of (HAL.out (grow (redrawn wb d) os) (hW d os));clear hW
     go_big_quiet_step (with_reducible exact cA _ _)
     refine wpQuiet_nil ?_;simp only [List.getElem?_toArray,List.getElem?_cons_succ,List.getElem?_cons_zero];exact rfl
    simp only [Act.put,Yd,Ye,Yf]
   refine⟨f3A x0 x1 x2,rfl,rfl,by simp [f3A,Value.oneCell'],fun W hB hz=>?_⟩;have HB4:=Hd (bs_below hB HBW.out (Nat.le_refl _) HLR.out);have HZ4:=Hd hz;clear hB hz
   go_wp2_with fail
   exact bodyPost_ret (res_ty2 (p:=8) (u:=9) rfl _ _ (w.heap.size+1+1) x0 x1 x2 rfl HZ4.out) rfl ⟨x0,x1,x2,(by rw [HO2.out];rfl),fun t ht=>(by rw [HO2.out] at ht;cases ht),HB4.out⟩
  | true=>
   have HFB:=Hd (flowM_b (f:=fun d=>al && armsT p.es (d.k,d.e,d.l) x.arms) (t:=(x0,x1,x2)) HDS.out HDD.out);have HRD:=Hd (fun w1 hb=>HAR.out dd (by have h1:=HDS.out;have h2:=HDD.out;cases od with | none=>cases h1 | some d=>exact congrArg some h2) w1 hb);clear HAR;generalize armsT p.es (dd.k,dd.e,dd.l) x.arms=ars at *
   cases al with
   | false=>
    have HO2:=Hd (show o=none by rw [← HO.out,HFB.out];rfl);refine wp_region_out (l1:=[_,_,_,_,_,_,_,_,_,_,_,_,_,_,_,_,_]) (os:=_) (l2:=[_]) (p:=8) (tx:=79) (r:=w.heap.size+1+1) (T:=38) (zc:=f3A 0 0 0) (by kernel_rfl) (by kernel_rfl) rfl HR2.out rfl infoTy0 ?_
    repeat
     apply fix_step rfl (by simp)
     case h1=>
      intro wb hb;have l0:=fun d os=>cell_regrown (bs_cell hb hns a0) d os;have l1:=fun d os=>cell_regrown (bs_cell hb hns a1) d os;have l2:=fun d os=>cell_regrown (bs_cell hb hns a2) d os;have l3:=fun d os=>cell_regrown (bs_cell hb hng k1) d os;have l4:=fun d os=>cell_regrown (bs_cell hb hng k2) d os;have l5:=fun d os=>cell_regrown (bs_cell hb hng k3) d os;have l6:=fun d os=>cell_regrown (bs_cell hb hnp p0) d os;have l7:=fun d os=>cell_regrown (bs_cell hb hnx q4) d os;have hW:=fun d os=>(bs_below hb HBW.out (Nat.le_refl _) HLR.out).trans ((below_regrown wb d os).mono (bs_below hb HBW.out (Nat.le_refl _) HLR.out).size);have cA:=fun d os=>Calls.regrown_of (HAL.out (grow (redrawn wb d) os) (hW d os));clear hW
      go_big_quiet_step (with_reducible exact cA _ _)
      refine wpQuiet_nil ?_;simp only [List.getElem?_toArray,List.getElem?_cons_succ,List.getElem?_cons_zero];exact rfl
     simp only [Act.put,Yd,Ye,Yf]
    refine⟨f3A x0 x1 x2,rfl,rfl,by simp [f3A,Value.oneCell'],fun W hB hz=>?_⟩;have HB4:=Hd (bs_below hB HBW.out (Nat.le_refl _) HLR.out);have HZ4:=Hd hz;clear hB hz
    go_wp2_with fail
    exact bodyPost_ret (res_ty2 (p:=8) (u:=9) rfl _ _ (w.heap.size+1+1) x0 x1 x2 rfl HZ4.out) rfl ⟨x0,x1,x2,(by rw [HO2.out];rfl),fun t ht=>(by rw [HO2.out] at ht;cases ht),HB4.out⟩
   | true=>
    cases ars with
    | false=>
     have HO2:=Hd (show o=none by rw [← HO.out,HFB.out];rfl);refine wp_region_out (l1:=[_,_,_,_,_,_,_,_,_,_,_,_,_,_,_,_,_]) (os:=_) (l2:=[_]) (p:=8) (tx:=79) (r:=w.heap.size+1+1) (T:=38) (zc:=f3A 0 0 0) (by kernel_rfl) (by kernel_rfl) rfl HR2.out rfl infoTy0 ?_
     repeat
      apply fix_step rfl (by simp)
      case h1=>
       intro wb hb;have l0:=fun d os=>cell_regrown (bs_cell hb hns a0) d os;have l1:=fun d os=>cell_regrown (bs_cell hb hns a1) d os;have l2:=fun d os=>cell_regrown (bs_cell hb hns a2) d os;have l3:=fun d os=>cell_regrown (bs_cell hb hng k1) d os;have l4:=fun d os=>cell_regrown (bs_cell hb hng k2) d os;have l5:=fun d os=>cell_regrown (bs_cell hb hng k3) d os;have l6:=fun d os=>cell_regrown (bs_cell hb hnp p0) d os;have l7:=fun d os=>cell_regrown (bs_cell hb hnx q4) d os;have hW:=fun d os=>(bs_below hb HBW.out (Nat.le_refl _) HLR.out).trans ((below_regrown wb d os).mono (bs_below hb HBW.out (Nat.le_refl _) HLR.out).size);have cA:=fun d os=>Calls.regrown_of (HAL.out (grow (redrawn wb d) os) (hW d os));have cB:=fun d os=>Calls.regrown_of (HRD.out (grow (redrawn wb d) os) (hW d os));clear hW
       go_big_quiet_step (first | with_reducible exact cA _ _ | with_reducible exact cB _ _)
       refine wpQuiet_nil ?_;simp only [List.getElem?_toArray,List.getElem?_cons_succ,List.getElem?_cons_zero];exact rfl
      simp only [Act.put,Yd,Ye,Yf]
     refine⟨f3A x0 x1 x2,rfl,rfl,by simp [f3A,Value.oneCell'],fun W hB hz=>?_⟩;have HB4:=Hd (bs_below hB HBW.out (Nat.le_refl _) HLR.out);have HZ4:=Hd hz;clear hB hz
     go_wp2_with fail
     exact bodyPost_ret (res_ty2 (p:=8) (u:=9) rfl _ _ (w.heap.size+1+1) x0 x1 x2 rfl HZ4.out) rfl ⟨x0,x1,x2,(by rw [HO2.out];rfl),fun t ht=>(by rw [HO2.out] at ht;cases ht),HB4.out⟩
    | true=>
     have HO2:=Hd (show o=some (x0,x1,x2) by rw [← HO.out,HFB.out];rfl);refine wp_region_out (l1:=[_,_,_,_,_,_,_,_,_,_,_,_,_,_,_,_,_]) (os:=_) (l2:=[_]) (p:=8) (tx:=79) (r:=w.heap.size+1+1) (T:=38) (zc:=f3A 0 0 0) (by kernel_rfl) (by kernel_rfl) rfl HR2.out rfl infoTy0 ?_
     repeat
      apply fix_step rfl (by simp)
      case h1=>
       intro wb hb;have l0:=fun d os=>cell_regrown (bs_cell hb hns a0) d os;have l1:=fun d os=>cell_regrown (bs_cell hb hns a1) d os;have l2:=fun d os=>cell_regrown (bs_cell hb hns a2) d os;have l3:=fun d os=>cell_regrown (bs_cell hb hng k1) d os;have l4:=fun d os=>cell_regrown (bs_cell hb hng k2) d os;have l5:=fun d os=>cell_regrown (bs_cell hb hng k3) d os;have l6:=fun d os=>cell_regrown (bs_cell hb hnp p0) d os;have l7:=fun d os=>cell_regrown (bs_cell hb hnx q4) d os;have hW:=fun d os=>(bs_below hb HBW.out (Nat.le_refl _) HLR.out).trans ((below_regrown wb d os).mono (bs_below hb HBW.out (Nat.le_refl _) HLR.out).size);have cA:=fun d os=>Calls.regrown_of (HAL.out (grow (redrawn wb d) os) (hW d os));have cB:=fun d os=>Calls.regrown_of (HRD.out (grow (redrawn wb d) os) (hW d os));clear hW
       go_big_quiet_step (first | with_reducible exact cA _ _ | with_reducible exact cB _ _)
       refine wpQuiet_nil ?_;simp only [List.getElem?_toArray,List.getElem?_cons_succ,List.getElem?_cons_zero];exact rfl
      simp only [Act.put,Yd,Ye,Yf]
     refine⟨f3A x0 x1 x2,rfl,rfl,by simp [f3A,Value.oneCell'],fun W hB hz=>?_⟩;have HB4:=Hd (bs_below hB HBW.out (Nat.le_refl _) HLR.out);have HZ4:=Hd hz;clear hB hz
     go_wp2_with fail
     exact bodyPost_ret (res_ty2 (p:=8) (u:=9) rfl _ _ (w.heap.size+1+1) x0 x1 x2 rfl HZ4.out) rfl ⟨x0,x1,x2,(by rw [HO2.out];rfl),fun t ht=>(by rw [HO2.out] at ht;injection ht with ht;exact ht.symm),HB4.out⟩
end
end Go.Proofs.YtegjgiofmpolnaaGreat
