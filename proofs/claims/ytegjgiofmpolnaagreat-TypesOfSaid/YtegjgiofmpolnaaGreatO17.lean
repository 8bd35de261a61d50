/- Parts of the proof: ArW. Conditions: each theorem's own. -/
import Derived.Test.YtegjgiofmpolnaaGreatO09
namespace Go.Proofs.YtegjgiofmpolnaaGreat
set_option linter.unusedVariables false
set_option linter.unusedSimpArgs false
set_option maxRecDepth 100000
set_option maxHeartbeats 40000000
section
open Go.RowKit Go.Sort
theorem refBinTy(op k e l k' e' l':Int) (w:World):
 Calls Tryz.prog 127 #[.int .i64 op,tyV k e l,tyV k' e' l'] w fun r w' =>
  r=.returned (.tuple #[tyR (binTyI op (isP 1 k e l && isP 1 k' e' l') (isP 2 k e l && isP 2 k' e' l') (sameB k e l k' e' l')),.bool (binTyI op (isP 1 k e l && isP 1 k' e' l') (isP 2 k e l && isP 2 k' e' l') (sameB k e l k' e' l')).isSome])∧Below w.heap.size w w':=by
 have HC:=Hd refPlainB;have HX0:=Hd (((Row3.new w k e l).alloc (tyO k' e' l')).alloc (tyO 0 0 0));have HY0:Hid (Row3 (((w.alloc (tyO k e l)).alloc (tyO k' e' l')).alloc (tyO 0 0 0)) (w.heap.size+1) k' e' l'):=Hd (heap_up _ (heap_alloc2_new _ _ _))
 have HR0:Hid (Row3 (((w.alloc (tyO k e l)).alloc (tyO k' e' l')).alloc (tyO 0 0 0)) (w.heap.size+1+1) 0 0 0):=Hd (by
  have:=Row3.new ((w.alloc (tyO k e l)).alloc (tyO k' e' l')) 0 0 0
  simpa using this)
 have HB0:Hid (Below w.heap.size w (((w.alloc (tyO k e l)).alloc (tyO k' e' l')).alloc (tyO 0 0 0))):=Hd (by(repeat' (first | exact Below.refl _ _ | refine Below.drew ?_ | refine Below.alloc ?_ (by simp <;> omega) _)));unfold tyV at HC ⊢
 go_enter Tryz.func127,Tryz.ntmps127
 go_upto_region 1 with(fail)
 generalize (((w.alloc (.cells #[.int .i64 k,.int .i64 e,.int .i64 l] 38)).alloc (.cells #[.int .i64 k',.int .i64 e',.int .i64 l'] 38)).alloc (.cells #[.int .i64 0,.int .i64 0,.int .i64 0] 38))=w1 at *
 go_cut [8,9] (fun v8 v9 wx=>v8=.bool (isP 1 k e l && isP 1 k' e' l')∧v9=.bool (isP 2 k e l && isP 2 k' e' l')∧Row3 wx w.heap.size k e l∧Row3 wx (w.heap.size+1) k' e' l'∧Row3 wx (w.heap.size+1+1) 0 0 0∧Below w.heap.size w wx)
 case first=>
  rcases isP_cases 1 k e l with⟨rfl,rfl,rfl,hp⟩|⟨hk,hp⟩|⟨rfl,hk,hp⟩|⟨rfl,rfl,hk,hp⟩
  · have hp2:isP 2 1 0 0=false:=rfl;have hp1:isP 1 1 0 0=true:=rfl;clear hp;rcases isP_cases 1 k' e' l' with⟨rfl,rfl,rfl,hq⟩|⟨hm,hq⟩|⟨rfl,hm,hq⟩|⟨rfl,rfl,hm,hq⟩
    all_goals
     have HP1:=Hd hp1;have HP2:=Hd hp2;have HQ1:=Hd hq;clear hp1 hp2 hq;have l0:=fun d os=>cell_regrown HX0.out.cells.1 d os;have l1:=fun d os=>cell_regrown HX0.out.cells.2.1 d os;have l2:=fun d os=>cell_regrown HX0.out.cells.2.2 d os;have m0:=fun d os=>cell_regrown HY0.out.cells.1 d os;have m1:=fun d os=>cell_regrown HY0.out.cells.2.1 d os;have m2:=fun d os=>cell_regrown HY0.out.cells.2.2 d os;have cA:=fun K d os=>Calls.regrown_of (HC.out K (grow (redrawn w1 d) os));refine wp_region_quiet_below (by kernel_rfl) (by kernel_rfl) ?_
     repeat (quiet_step (exact cA _ _ _))
     refine wpQuiet_nil ?_;intro _ hw';obtain⟨⟨dq,osq⟩,hw''⟩:=hw';subst hw'';have HX:=Hd (HX0.out.regrown dq osq);have HY:=Hd (HY0.out.regrown dq osq);have HR:=Hd (HR0.out.regrown dq osq);have HB:=Hd (HB0.out.trans ((below_regrown w1 dq osq).mono HB0.out.size));clear cA l0 l1 l2 m0 m1 m2 HX0 HR0 HB0 HY0;generalize grow (redrawn w1 dq) osq=wq at *
     go_wp2_with fail
     go_meet
     case rel=>exact⟨congrArg Value.bool (by first | exact and_ff HP1.out | exact and_ff HP2.out | exact and_tt HP1.out HQ1.out | exact and_tf HP1.out HQ1.out | exact and_tt HP2.out HQ1.out | exact and_tf HP2.out HQ1.out),congrArg Value.bool (by first | exact and_ff HP1.out | exact and_ff HP2.out | exact and_tt HP1.out HQ1.out | exact and_tf HP1.out HQ1.out | exact and_tt HP2.out HQ1.out | exact and_tf HP2.out HQ1.out),HX.out,HY.out,HR.out,HB.out⟩
  · rcases isP_cases 2 k e l with⟨rfl,rfl,rfl,hp2⟩|⟨hk2,hp2⟩|⟨rfl,hk2,hp2⟩|⟨rfl,rfl,hk2,hp2⟩
    · clear hk;rcases isP_cases 2 k' e' l' with⟨rfl,rfl,rfl,hq⟩|⟨hm,hq⟩|⟨rfl,hm,hq⟩|⟨rfl,rfl,hm,hq⟩
      all_goals
       have HP1:=Hd hp;have HP2:=Hd hp2;have HQ1:=Hd hq;clear hp hp2 hq;have l0:=fun d os=>cell_regrown HX0.out.cells.1 d os;have l1:=fun d os=>cell_regrown HX0.out.cells.2.1 d os;have l2:=fun d os=>cell_regrown HX0.out.cells.2.2 d os;have m0:=fun d os=>cell_regrown HY0.out.cells.1 d os;have m1:=fun d os=>cell_regrown HY0.out.cells.2.1 d os;have m2:=fun d os=>cell_regrown HY0.out.cells.2.2 d os;have cA:=fun K d os=>Calls.regrown_of (HC.out K (grow (redrawn w1 d) os));refine wp_region_quiet_below (by kernel_rfl) (by kernel_rfl) ?_
       repeat (quiet_step (exact cA _ _ _))
       refine wpQuiet_nil ?_;intro _ hw';obtain⟨⟨dq,osq⟩,hw''⟩:=hw';subst hw'';have HX:=Hd (HX0.out.regrown dq osq);have HY:=Hd (HY0.out.regrown dq osq);have HR:=Hd (HR0.out.regrown dq osq);have HB:=Hd (HB0.out.trans ((below_regrown w1 dq osq).mono HB0.out.size));clear cA l0 l1 l2 m0 m1 m2 HX0 HR0 HB0 HY0;generalize grow (redrawn w1 dq) osq=wq at *
       go_wp2_with fail
       go_meet
       case rel=>exact⟨congrArg Value.bool (by first | exact and_ff HP1.out | exact and_ff HP2.out | exact and_tt HP1.out HQ1.out | exact and_tf HP1.out HQ1.out | exact and_tt HP2.out HQ1.out | exact and_tf HP2.out HQ1.out),congrArg Value.bool (by first | exact and_ff HP1.out | exact and_ff HP2.out | exact and_tt HP1.out HQ1.out | exact and_tf HP1.out HQ1.out | exact and_tt HP2.out HQ1.out | exact and_tf HP2.out HQ1.out),HX.out,HY.out,HR.out,HB.out⟩
    all_goals
     have HP1:=Hd hp;have HP2:=Hd hp2;clear hp hp2;have l0:=fun d os=>cell_regrown HX0.out.cells.1 d os;have l1:=fun d os=>cell_regrown HX0.out.cells.2.1 d os;have l2:=fun d os=>cell_regrown HX0.out.cells.2.2 d os;have m0:=fun d os=>cell_regrown HY0.out.cells.1 d os;have m1:=fun d os=>cell_regrown HY0.out.cells.2.1 d os;have m2:=fun d os=>cell_regrown HY0.out.cells.2.2 d os;have cA:=fun K d os=>Calls.regrown_of (HC.out K (grow (redrawn w1 d) os));refine wp_region_quiet_below (by kernel_rfl) (by kernel_rfl) ?_
     repeat (quiet_step (exact cA _ _ _))
     refine wpQuiet_nil ?_;intro _ hw';obtain⟨⟨dq,osq⟩,hw''⟩:=hw';subst hw'';have HX:=Hd (HX0.out.regrown dq osq);have HY:=Hd (HY0.out.regrown dq osq);have HR:=Hd (HR0.out.regrown dq osq);have HB:=Hd (HB0.out.trans ((below_regrown w1 dq osq).mono HB0.out.size));clear cA l0 l1 l2 m0 m1 m2 HX0 HR0 HB0 HY0;generalize grow (redrawn w1 dq) osq=wq at *
     go_wp2_with fail
     go_meet
     case rel=>exact⟨congrArg Value.bool (by first | exact and_ff HP1.out | exact and_ff HP2.out | exact and_ff (HP2.out _ _)),congrArg Value.bool (by first | exact and_ff HP1.out | exact and_ff HP2.out | exact and_ff (HP2.out _ _)),HX.out,HY.out,HR.out,HB.out⟩
  all_goals
   have HP1:=Hd hp;have HP2:=Hd isP_one;clear hp;have l0:=fun d os=>cell_regrown HX0.out.cells.1 d os;have l1:=fun d os=>cell_regrown HX0.out.cells.2.1 d os;have l2:=fun d os=>cell_regrown HX0.out.cells.2.2 d os;have m0:=fun d os=>cell_regrown HY0.out.cells.1 d os;have m1:=fun d os=>cell_regrown HY0.out.cells.2.1 d os;have m2:=fun d os=>cell_regrown HY0.out.cells.2.2 d os;have cA:=fun K d os=>Calls.regrown_of (HC.out K (grow (redrawn w1 d) os));refine wp_region_quiet_below (by kernel_rfl) (by kernel_rfl) ?_
   repeat (quiet_step (exact cA _ _ _))
   refine wpQuiet_nil ?_;intro _ hw';obtain⟨⟨dq,osq⟩,hw''⟩:=hw';subst hw'';have HX:=Hd (HX0.out.regrown dq osq);have HY:=Hd (HY0.out.regrown dq osq);have HR:=Hd (HR0.out.regrown dq osq);have HB:=Hd (HB0.out.trans ((below_regrown w1 dq osq).mono HB0.out.size));clear cA l0 l1 l2 m0 m1 m2 HX0 HR0 HB0 HY0;generalize grow (redrawn w1 dq) osq=wq at *
   go_wp2_with fail
   go_meet
   case rel=>exact⟨congrArg Value.bool (by first | exact and_ff HP1.out | exact and_ff HP2.out | exact and_ff (HP2.out _ _)),congrArg Value.bool (by first | exact and_ff HP1.out | exact and_ff HP2.out | exact and_ff (HP2.out _ _)),HX.out,HY.out,HR.out,HB.out⟩
 case rest=>
  obtain⟨rfl,rfl,HX,HY,HR,HB⟩:=hcut;have HR:=Hd HR;have HB:=Hd HB;clear HX0 HY0 HR0 HB0 HC;obtain hop | hop | hop | hop | hop:(3≤op∧op≤7)∨(8≤op∧op≤10)∨(op=11∨op=12)∨(13≤op∧op≤16)∨(op<3∨16<op):=by omega
  · clear HX HY;generalize hI:(isP 1 k e l && isP 1 k' e' l')=I;generalize hB:(isP 2 k e l && isP 2 k' e' l')=B;have HI:=Hd hI;have HP:=Hd hB;clear hI hB;obtain rfl | rfl | rfl | rfl | rfl:op=3∨op=4∨op=5∨op=6∨op=7:=by omega
    all_goals
     clear hop
     cases I
     · go_wp2_with (first | (go_at_call 165;refine(refPlain _ _).mono ?_;unfold tyV;rintro r w2 ⟨rfl,rfl⟩) | (refine wpList_store_row rfl _ _ _ rfl (w.heap.size+1+1) _ rfl rfl _ _ (HR.out) ty_info rfl (by simp [Value.oneCell']) ?_) | (refine wpList_store_row rfl _ _ _ rfl (w.heap.size+1+1) _ rfl rfl _ _ (HR.out.alloc _) ty_info rfl (by simp [Value.oneCell']) ?_))
       exact bodyPost_ret (res_ty2 (p:=6) (u:=7) rfl _ _ (w.heap.size+1+1) 0 0 0 rfl (HR.out.set _ _ _)) rfl ⟨fin (o:=none) (by rw [HI.out];rfl),below_setRow HB.out (by omega) _⟩
     · go_wp2_with (first | (go_at_call 165;refine(refPlain _ _).mono ?_;unfold tyV;rintro r w2 ⟨rfl,rfl⟩) | (refine wpList_store_row rfl _ _ _ rfl (w.heap.size+1+1) _ rfl rfl _ _ (HR.out) ty_info rfl (by simp [Value.oneCell']) ?_) | (refine wpList_store_row rfl _ _ _ rfl (w.heap.size+1+1) _ rfl rfl _ _ (HR.out.alloc _) ty_info rfl (by simp [Value.oneCell']) ?_))
       exact bodyPost_ret (res_ty2 (p:=6) (u:=7) rfl _ _ (w.heap.size+1+1) 1 0 0 rfl ((HR.out.alloc _).set _ _ _)) rfl ⟨fin (o:=some 1) (by rw [HI.out];rfl),below_setRow (HB.out.alloc HB.out.size _) (by omega) _⟩
  · clear HX HY;generalize hI:(isP 1 k e l && isP 1 k' e' l')=I;generalize hB:(isP 2 k e l && isP 2 k' e' l')=B;have HI:=Hd hI;have HP:=Hd hB;clear hI hB;obtain rfl | rfl | rfl:op=8∨op=9∨op=10:=by omega
    all_goals
     clear hop
     cases B
     · go_wp2_with (first | (go_at_call 165;refine(refPlain _ _).mono ?_;unfold tyV;rintro r w2 ⟨rfl,rfl⟩) | (refine wpList_store_row rfl _ _ _ rfl (w.heap.size+1+1) _ rfl rfl _ _ (HR.out) ty_info rfl (by simp [Value.oneCell']) ?_) | (refine wpList_store_row rfl _ _ _ rfl (w.heap.size+1+1) _ rfl rfl _ _ (HR.out.alloc _) ty_info rfl (by simp [Value.oneCell']) ?_))
       exact bodyPost_ret (res_ty2 (p:=6) (u:=7) rfl _ _ (w.heap.size+1+1) 0 0 0 rfl (HR.out.set _ _ _)) rfl ⟨fin (o:=none) (by rw [HP.out];rfl),below_setRow HB.out (by omega) _⟩
     · go_wp2_with (first | (go_at_call 165;refine(refPlain _ _).mono ?_;unfold tyV;rintro r w2 ⟨rfl,rfl⟩) | (refine wpList_store_row rfl _ _ _ rfl (w.heap.size+1+1) _ rfl rfl _ _ (HR.out) ty_info rfl (by simp [Value.oneCell']) ?_) | (refine wpList_store_row rfl _ _ _ rfl (w.heap.size+1+1) _ rfl rfl _ _ (HR.out.alloc _) ty_info rfl (by simp [Value.oneCell']) ?_))
       exact bodyPost_ret (res_ty2 (p:=6) (u:=7) rfl _ _ (w.heap.size+1+1) 2 0 0 rfl ((HR.out.alloc _).set _ _ _)) rfl ⟨fin (o:=some 2) (by rw [HP.out];rfl),below_setRow (HB.out.alloc HB.out.size _) (by omega) _⟩
  · have hS:=same_cases k e l k' e' l';generalize (isP 1 k e l && isP 1 k' e' l')=I;generalize (isP 2 k e l && isP 2 k' e' l')=B;have c0:=HX.cells.1;have c1:=HX.cells.2.1;have c2:=HX.cells.2.2;have d0:=HY.cells.1;have d1:=HY.cells.2.1;have d2:=HY.cells.2.2;clear HX HY;rcases hS with⟨rfl,rfl,rfl,rfl,hs⟩ | hS
    · have HS:=Hd hs;clear hs;rcases hop with rfl | rfl
      all_goals
       go_wp2_with (first | (go_at_call 165;refine(refPlain _ _).mono ?_;unfold tyV;rintro r w2 ⟨rfl,rfl⟩) | (refine wpList_store_row rfl _ _ _ rfl (w.heap.size+1+1) _ rfl rfl _ _ (HR.out) ty_info rfl (by simp [Value.oneCell']) ?_) | (refine wpList_store_row rfl _ _ _ rfl (w.heap.size+1+1) _ rfl rfl _ _ (HR.out.alloc _) ty_info rfl (by simp [Value.oneCell']) ?_))
       exact bodyPost_ret (res_ty2 (p:=6) (u:=7) rfl _ _ (w.heap.size+1+1) 2 0 0 rfl ((HR.out.alloc _).set _ _ _)) rfl ⟨fin (o:=some 2) (by rw [HS.out];rfl),below_setRow (HB.out.alloc HB.out.size _) (by omega) _⟩
    · rcases hS with⟨hk,hs⟩|⟨rfl,hk,hs⟩|⟨rfl,rfl,hk,hs⟩|⟨rfl,rfl,rfl,hk,hs⟩
      all_goals
       have HS:=Hd hs;clear hs;rcases hop with rfl | rfl
       all_goals
        go_wp2_with (first | (go_at_call 165;refine(refPlain _ _).mono ?_;unfold tyV;rintro r w2 ⟨rfl,rfl⟩) | (refine wpList_store_row rfl _ _ _ rfl (w.heap.size+1+1) _ rfl rfl _ _ (HR.out) ty_info rfl (by simp [Value.oneCell']) ?_) | (refine wpList_store_row rfl _ _ _ rfl (w.heap.size+1+1) _ rfl rfl _ _ (HR.out.alloc _) ty_info rfl (by simp [Value.oneCell']) ?_))
        exact bodyPost_ret (res_ty2 (p:=6) (u:=7) rfl _ _ (w.heap.size+1+1) 0 0 0 rfl (HR.out.set _ _ _)) rfl ⟨fin (o:=none) (by rw [HS.out];rfl),below_setRow HB.out (by omega) _⟩
  · clear HX HY;generalize hI:(isP 1 k e l && isP 1 k' e' l')=I;generalize hB:(isP 2 k e l && isP 2 k' e' l')=B;have HI:=Hd hI;have HP:=Hd hB;clear hI hB;obtain rfl | rfl | rfl | rfl:op=13∨op=14∨op=15∨op=16:=by omega
    all_goals
     clear hop
     cases I
     · go_wp2_with (first | (go_at_call 165;refine(refPlain _ _).mono ?_;unfold tyV;rintro r w2 ⟨rfl,rfl⟩) | (refine wpList_store_row rfl _ _ _ rfl (w.heap.size+1+1) _ rfl rfl _ _ (HR.out) ty_info rfl (by simp [Value.oneCell']) ?_) | (refine wpList_store_row rfl _ _ _ rfl (w.heap.size+1+1) _ rfl rfl _ _ (HR.out.alloc _) ty_info rfl (by simp [Value.oneCell']) ?_))
       exact bodyPost_ret (res_ty2 (p:=6) (u:=7) rfl _ _ (w.heap.size+1+1) 0 0 0 rfl (HR.out.set _ _ _)) rfl ⟨fin (o:=none) (by rw [HI.out];rfl),below_setRow HB.out (by omega) _⟩
     · go_wp2_with (first | (go_at_call 165;refine(refPlain _ _).mono ?_;unfold tyV;rintro r w2 ⟨rfl,rfl⟩) | (refine wpList_store_row rfl _ _ _ rfl (w.heap.size+1+1) _ rfl rfl _ _ (HR.out) ty_info rfl (by simp [Value.oneCell']) ?_) | (refine wpList_store_row rfl _ _ _ rfl (w.heap.size+1+1) _ rfl rfl _ _ (HR.out.alloc _) ty_info rfl (by simp [Value.oneCell']) ?_))
       exact bodyPost_ret (res_ty2 (p:=6) (u:=7) rfl _ _ (w.heap.size+1+1) 2 0 0 rfl ((HR.out.alloc _).set _ _ _)) rfl ⟨fin (o:=some 2) (by rw [HI.out];rfl),below_setRow (HB.out.alloc HB.out.size _) (by omega) _⟩
  · clear HX HY;generalize hI:(isP 1 k e l && isP 1 k' e' l')=I;generalize hB:(isP 2 k e l && isP 2 k' e' l')=B;have HI:=Hd hI;have HP:=Hd hB;clear hI hB;have HN:=Hd (fun I B S=>bin_none (I:=I) (B:=B) (S:=S) hop);have b11:(op==11)=false:=by rw [beq_eq_false_iff_ne];omega
    have b12:(op==12)=false:=by rw [beq_eq_false_iff_ne];omega
    rcases hop with hop | hop
    all_goals
     go_wp2_with (first | (go_at_call 165;refine(refPlain _ _).mono ?_;unfold tyV;rintro r w2 ⟨rfl,rfl⟩) | (refine wpList_store_row rfl _ _ _ rfl (w.heap.size+1+1) _ rfl rfl _ _ (HR.out) ty_info rfl (by simp [Value.oneCell']) ?_) | (refine wpList_store_row rfl _ _ _ rfl (w.heap.size+1+1) _ rfl rfl _ _ (HR.out.alloc _) ty_info rfl (by simp [Value.oneCell']) ?_))
     exact bodyPost_ret (res_ty2 (p:=6) (u:=7) rfl _ _ (w.heap.size+1+1) 0 0 0 rfl (HR.out.set _ _ _)) rfl ⟨fin (o:=none) (HN.out _ _ _),below_setRow HB.out (by omega) _⟩
end
end Go.Proofs.YtegjgiofmpolnaaGreat
