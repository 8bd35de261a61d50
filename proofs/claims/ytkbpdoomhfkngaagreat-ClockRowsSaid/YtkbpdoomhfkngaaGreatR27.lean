/- Parts of the proof: ArX, ArZ. Conditions: each theorem's own. -/
import Derived.Test.YtkbpdoomhfkngaaGreatR10
import Derived.Test.YtkbpdoomhfkngaaGreatR21
namespace Go.Proofs.YtkbpdoomhfkngaaGreat
set_option linter.unusedVariables false
set_option linter.unusedSimpArgs false
set_option maxRecDepth 100000
set_option maxHeartbeats 40000000
section
open Go.RowKit Go.Sort
theorem op_no{op:Int}(h:op<3∨16<op) (k:Int) (hk:3≤k∧k≤16):(op==k)=false:=by
 rw [beq_eq_false_iff_ne];omega
theorem heap_third(w:World) (A B C:Obj):(((w.alloc A).alloc B).alloc C).heap[w.heap.size+1+1]?=some C:=by
 have:=heap_alloc_new ((w.alloc A).alloc B) C
 simpa using this
theorem arBinTy_diff(op k e l k' e' l':Int) (hS:sameB k e l k' e' l'=false) (w:World):
 Calls Tryz.prog 144 #[.int .i64 op,tyV k e l,tyV k' e' l'] w fun r w' =>
  r=.returned (.tuple #[tyR (binTyI op (isP 1 k e l && isP 1 k' e' l') (isP 2 k e l && isP 2 k' e' l') (sameB k e l k' e' l')),.bool (binTyI op (isP 1 k e l && isP 1 k' e' l') (isP 2 k e l && isP 2 k' e' l') (sameB k e l k' e' l')).isSome])∧Below w.heap.size w w':=by
 have HS:=Hd hS;have hc:=same_cases k e l k' e' l';rw [hS] at hc;clear hS;unfold tyV;rcases hc with⟨_,_,_,_,h0⟩|⟨hk,_⟩|⟨rfl,hk,_⟩|⟨rfl,rfl,hk,_⟩|⟨rfl,rfl,rfl,hk,_⟩
 · cases h0
 all_goals
  go_enter Tryz.func144,Tryz.ntmps144
  go_wp2_with fail
  exact bodyPost_ret (res_ty2 (p:=6) (u:=7) rfl _ _ (w.heap.size+1+1) 0 0 0 rfl (by(repeat' (first | exact heap_third _ _ _ _ | refine heap_drew ?_ | refine heap_up _ ?_)))) rfl ⟨fin (o:=none) (by first | exact bin_diff HS.out | simpa using bin_diff (op:=op) HS.out),by(repeat' (first | exact Below.refl _ _ | refine Below.drew ?_ | refine Below.alloc ?_ (by simp <;> omega) _))⟩
theorem heap_n4(w:World) (A B C D:Obj):((((w.alloc A).alloc B).alloc C).alloc D).heap[w.heap.size+1+1+1]?=some D:=by
 have:=heap_alloc_new (((w.alloc A).alloc B).alloc C) D
 simpa using this
theorem heap_n5(w:World) (A B C D E:Obj):(((((w.alloc A).alloc B).alloc C).alloc D).alloc E).heap[w.heap.size+1+1+1+1]?=some E:=by
 have:=heap_alloc_new ((((w.alloc A).alloc B).alloc C).alloc D) E
 simpa using this
theorem heap_n6(w:World) (A B C D E F:Obj):((((((w.alloc A).alloc B).alloc C).alloc D).alloc E).alloc F).heap[w.heap.size+1+1+1+1+1]?=some F:=by
 have:=heap_alloc_new (((((w.alloc A).alloc B).alloc C).alloc D).alloc E) F
 simpa using this
theorem rows6(w:World) (k e:Int) (X Y Z:Obj):Row3 ((((((w.alloc (tyO k e 0)).alloc (tyO k e 0)).alloc (tyO 0 0 0)).alloc X).alloc Y).alloc Z).drew w.heap.size k e 0 ∧
 Row3 ((((((w.alloc (tyO k e 0)).alloc (tyO k e 0)).alloc (tyO 0 0 0)).alloc X).alloc Y).alloc Z).drew (w.heap.size+1+1) 0 0 0∧Below w.heap.size w ((((((w.alloc (tyO k e 0)).alloc (tyO k e 0)).alloc (tyO 0 0 0)).alloc X).alloc Y).alloc Z).drew:=
 ⟨((((((Row3.new w k e 0).alloc _).alloc _).alloc X).alloc Y).alloc Z).drew,heap_drew (heap_up _ (heap_up _ (heap_up _ (heap_third w _ _ _)))),by(repeat' (first | exact Below.refl _ _ | refine Below.drew ?_ | refine Below.alloc ?_ (by simp <;> omega) _))⟩
theorem row6x(w:World) (A B C Y Z:Obj):Row3 ((((((w.alloc A).alloc B).alloc C).alloc (tyO 2 0 0)).alloc Y).alloc Z).drew (w.heap.size+1+1+1) 2 0 0:=heap_drew (heap_up _ (heap_up _ (heap_n4 w _ _ _ _)))
theorem row6y(w:World) (A B C X Z:Obj):Row3 ((((((w.alloc A).alloc B).alloc C).alloc X).alloc (tyO 2 0 0)).alloc Z).drew (w.heap.size+1+1+1+1) 2 0 0:=heap_drew (heap_up _ (heap_n5 w _ _ _ _ _))
theorem row6z(w:World) (A B C X Y:Obj):Row3 ((((((w.alloc A).alloc B).alloc C).alloc X).alloc Y).alloc (tyO 2 0 0)).drew (w.heap.size+1+1+1+1+1) 2 0 0:=heap_drew (heap_n6 w _ _ _ _ _ _)
theorem onlyB(k e l:Int) (b:Bool) (w:World):
 Calls Tryz.prog 172 #[tyV k e l,.bool b] w fun r w'=>r=.returned (.tuple #[if b=true then tyV k e l else tyV 0 0 0,.bool b])∧Below w.heap.size w w':=by
 cases b
 · exact(arOnly_no k e l w).mono fun r w' ⟨h,h'⟩=>⟨h,by rw [h'];exact((Below.refl _ _).alloc (Nat.le_refl _) _).alloc (by simp) _⟩
 · exact(arOnly_yes k e l w).mono fun r w' ⟨h,h'⟩=>⟨h,by rw [h'];exact((Below.refl _ _).alloc (Nat.le_refl _) _).alloc (by simp) _⟩
theorem arBinTy_all(op k e:Int) (w:World):
 Calls Tryz.prog 144 #[.int .i64 op,tyV k e 0,tyV k e 0] w fun r w' =>
  r=.returned (.tuple #[tyR (binTyI op (isP 1 k e 0) (isP 2 k e 0) true),.bool (binTyI op (isP 1 k e 0) (isP 2 k e 0) true).isSome])∧Below w.heap.size w w':=by
 have HC:=Hd onlyB;unfold tyV at HC ⊢
 go_enter Tryz.func144,Tryz.ntmps144
 go_upto_region 3 with(fail)
 go_cut [8,9] (fun v8 v9 wx=>v8=.bool (isP 1 k e 0)∧∃ g,v9=.pointer (some ⟨g,0,none⟩)∧w.heap.size+1+1<g∧Row3 wx w.heap.size k e 0∧Row3 wx (w.heap.size+1+1) 0 0 0∧Row3 wx g 2 0 0∧Below w.heap.size w wx)
 case first=>
  rcases isP_cases 1 k e 0 with⟨rfl,rfl,_,hp⟩|⟨hk,hp⟩|⟨rfl,hk,hp⟩|⟨_,_,h0,_⟩
  · go_region_held3 (fun W=>W.cell? ⟨w.heap.size,0,none⟩=some (.int .i64 1)∧W.cell? ⟨w.heap.size,1,none⟩=some (.int .i64 0)∧W.cell? ⟨w.heap.size,2,none⟩=some (.int .i64 0)) (first | (refine⟨?_,?_,?_⟩ <;> simp [go_sem]) | exact trivial) (first | (go_at_call 173;refine(arOne _ _).mono ?_;unfold tyV tyO;rintro r w2 ⟨rfl,rfl⟩))
    all_goals
     go_wp2_with fail
     go_meet
     case rel=>first | (refine⟨congrArg Value.bool hp.symm,w.heap.size+1+1+1,rfl,?_,?_,?_,?_,?_⟩;omega;exact(rows6 w 1 0 _ _ _).1;exact(rows6 w 1 0 _ _ _).2.1;exact row6x w _ _ _ _ _;exact(rows6 w 1 0 _ _ _).2.2) | (refine⟨congrArg Value.bool hp.symm,w.heap.size+1+1+1+1,rfl,?_,?_,?_,?_,?_⟩;omega;exact(rows6 w 1 0 _ _ _).1;exact(rows6 w 1 0 _ _ _).2.1;exact row6y w _ _ _ _ _;exact(rows6 w 1 0 _ _ _).2.2) | (refine⟨congrArg Value.bool hp.symm,w.heap.size+1+1+1+1+1,rfl,?_,?_,?_,?_,?_⟩;omega;exact(rows6 w 1 0 _ _ _).1;exact(rows6 w 1 0 _ _ _).2.1;exact row6z w _ _ _ _ _;exact(rows6 w 1 0 _ _ _).2.2)
  · go_region_held3 (fun W=>W.cell? ⟨w.heap.size,0,none⟩=some (.int .i64 k)∧W.cell? ⟨w.heap.size,1,none⟩=some (.int .i64 e)∧W.cell? ⟨w.heap.size,2,none⟩=some (.int .i64 0)) (first | (refine⟨?_,?_,?_⟩ <;> simp [go_sem]) | exact trivial) (first | (go_at_call 173;refine(arOne _ _).mono ?_;unfold tyV tyO;rintro r w2 ⟨rfl,rfl⟩))
    all_goals
     go_wp2_with fail
     go_meet
     case rel=>first | (refine⟨congrArg Value.bool hp.symm,w.heap.size+1+1+1,rfl,?_,?_,?_,?_,?_⟩;omega;exact(rows6 w k e _ _ _).1;exact(rows6 w k e _ _ _).2.1;exact row6x w _ _ _ _ _;exact(rows6 w k e _ _ _).2.2) | (refine⟨congrArg Value.bool hp.symm,w.heap.size+1+1+1+1,rfl,?_,?_,?_,?_,?_⟩;omega;exact(rows6 w k e _ _ _).1;exact(rows6 w k e _ _ _).2.1;exact row6y w _ _ _ _ _;exact(rows6 w k e _ _ _).2.2) | (refine⟨congrArg Value.bool hp.symm,w.heap.size+1+1+1+1+1,rfl,?_,?_,?_,?_,?_⟩;omega;exact(rows6 w k e _ _ _).1;exact(rows6 w k e _ _ _).2.1;exact row6z w _ _ _ _ _;exact(rows6 w k e _ _ _).2.2)
  · go_region_held3 (fun W=>W.cell? ⟨w.heap.size,0,none⟩=some (.int .i64 1)∧W.cell? ⟨w.heap.size,1,none⟩=some (.int .i64 e)∧W.cell? ⟨w.heap.size,2,none⟩=some (.int .i64 0)) (first | (refine⟨?_,?_,?_⟩ <;> simp [go_sem]) | exact trivial) (first | (go_at_call 173;refine(arOne _ _).mono ?_;unfold tyV tyO;rintro r w2 ⟨rfl,rfl⟩))
    all_goals
     go_wp2_with fail
     go_meet
     case rel=>first | (refine⟨congrArg Value.bool hp.symm,w.heap.size+1+1+1,rfl,?_,?_,?_,?_,?_⟩;omega;exact(rows6 w 1 e _ _ _).1;exact(rows6 w 1 e _ _ _).2.1;exact row6x w _ _ _ _ _;exact(rows6 w 1 e _ _ _).2.2) | (refine⟨congrArg Value.bool hp.symm,w.heap.size+1+1+1+1,rfl,?_,?_,?_,?_,?_⟩;omega;exact(rows6 w 1 e _ _ _).1;exact(rows6 w 1 e _ _ _).2.1;exact row6y w _ _ _ _ _;exact(rows6 w 1 e _ _ _).2.2) | (refine⟨congrArg Value.bool hp.symm,w.heap.size+1+1+1+1+1,rfl,?_,?_,?_,?_,?_⟩;omega;exact(rows6 w 1 e _ _ _).1;exact(rows6 w 1 e _ _ _).2.1;exact row6z w _ _ _ _ _;exact(rows6 w 1 e _ _ _).2.2)
  · cases h0
 case rest=>
  obtain⟨rfl,g,rfl,hg,hX,hR,hT,hB⟩:=hcut;have hne:w.heap.size+1+1≠g:=by omega
  have HX:=Hd hX;have HR:=Hd hR;have HT:=Hd hT;have HB:=Hd hB;clear hX hR hT hB;obtain hop | hop | hop | hop | hop:(3≤op∧op≤7)∨(8≤op∧op≤10)∨(op=11∨op=12)∨(13≤op∧op≤16)∨(op<3∨16<op):=by omega
  · cases hI:isP 1 k e 0
    · have HI:=Hd hI;clear hI;obtain rfl | rfl | rfl | rfl | rfl:op=3∨op=4∨op=5∨op=6∨op=7:=by omega
      all_goals
       clear hop
       go_upto_region 19 with(fail)
       go_wp2_with (first | (go_at_call 172;refine(arOnly_no _ _ _ _).mono ?_;unfold tyV tyO;rintro r w2 ⟨rfl,rfl⟩) | (refine wpList_load_row rfl _ _ rfl (w.heap.size) rfl _ _ _ _ (HX.out) Tryz.underlying41 rfl ty_info ?_) | (refine wpList_store_row rfl _ _ _ rfl (g) _ rfl rfl _ _ (HT.out) ty_info rfl (by simp [Value.oneCell']) ?_) | (refine wpList_load_row rfl _ _ rfl (g) rfl _ _ _ _ (HT.out.set _ _ _) Tryz.underlying41 rfl ty_info ?_) | (refine wpList_store_row rfl _ _ _ rfl (w.heap.size+1+1) _ rfl rfl _ _ (((HR.out.other hne _).alloc _).alloc _) ty_info rfl (by simp [Value.oneCell']) ?_))
       exact bodyPost_ret (res_ty2 (p:=6) (u:=7) rfl _ _ (w.heap.size+1+1) 0 0 0 rfl ((((HR.out.other hne _).alloc _).alloc _).set _ _ _)) rfl ⟨fin (o:=none) (by rw [HI.out];rfl),by repeat' (first | exact HB.out | refine below_setRow ?_ (by omega) _ | refine Below.alloc ?_ (by have:=HB.out.size;simp <;> omega) _)⟩
    · obtain⟨rfl,rfl⟩:k=1∧e=0:=by simpa [isP] using hI
      clear hI;obtain rfl | rfl | rfl | rfl | rfl:op=3∨op=4∨op=5∨op=6∨op=7:=by omega
      all_goals
       clear hop
       go_upto_region 19 with(fail)
       go_wp2_with (first | (go_at_call 172;refine(arOnly_yes _ _ _ _).mono ?_;unfold tyV tyO;rintro r w2 ⟨rfl,rfl⟩) | (refine wpList_load_row rfl _ _ rfl (w.heap.size) rfl _ _ _ _ (HX.out) Tryz.underlying41 rfl ty_info ?_) | (refine wpList_store_row rfl _ _ _ rfl (g) _ rfl rfl _ _ (HT.out) ty_info rfl (by simp [Value.oneCell']) ?_) | (refine wpList_load_row rfl _ _ rfl (g) rfl _ _ _ _ (HT.out.set _ _ _) Tryz.underlying41 rfl ty_info ?_) | (refine wpList_store_row rfl _ _ _ rfl (w.heap.size+1+1) _ rfl rfl _ _ (((HR.out.other hne _).alloc _).alloc _) ty_info rfl (by simp [Value.oneCell']) ?_))
       exact bodyPost_ret (res_ty2 (p:=6) (u:=7) rfl _ _ (w.heap.size+1+1) 1 0 0 rfl ((((HR.out.other hne _).alloc _).alloc _).set _ _ _)) rfl ⟨fin (o:=some 1) (rfl),by repeat' (first | exact HB.out | refine below_setRow ?_ (by omega) _ | refine Below.alloc ?_ (by have:=HB.out.size;simp <;> omega) _)⟩
  · rcases isP_cases 2 k e 0 with⟨rfl,rfl,_,hp⟩|⟨hk,hp⟩|⟨rfl,hk,hp⟩|⟨_,_,h0,_⟩
    · have HP:=Hd hp;clear hp;obtain rfl | rfl | rfl:op=8∨op=9∨op=10:=by omega
      all_goals
       clear hop
       go_upto_region 21 with(fail)
       have l0:=fun d os=>cell_regrown HX.out.cells.1 d os;have l1:=fun d os=>cell_regrown HX.out.cells.2.1 d os;have l2:=fun d os=>cell_regrown HX.out.cells.2.2 d os;have m0:=fun d os=>cell_regrown HT.out.cells.1 d os;have m1:=fun d os=>cell_regrown HT.out.cells.2.1 d os;have m2:=fun d os=>cell_regrown HT.out.cells.2.2 d os;have cA:=fun d os=>Calls.regrown_of (HC.out 2 0 0 true (grow (redrawn wc d) os));refine wp_region_quiet_tail (l1:=[_,_,_,_,_,_,_]) (l2:=[_,_]) (by kernel_rfl) (by kernel_rfl) (by kernel_rfl) (by kernel_rfl) (by kernel_rfl) ?_
       repeat (quiet_step (exact cA _ _))
       refine wpQuiet_nil ?_;intro _ hw';obtain⟨⟨dq,osq⟩,hw''⟩:=hw';subst hw'';have HR1:=Hd (HR.out.regrown dq osq);have HB1:=Hd (HB.out.trans ((below_regrown wc dq osq).mono HB.out.size));clear cA l0 l1 l2 m0 m1 m2 HX HR HB HT;generalize grow (redrawn wc dq) osq=wq at *
       go_wp2_with (first | (refine wpList_store_row rfl _ _ _ rfl (w.heap.size+1+1) _ rfl rfl _ _ (HR1.out) ty_info rfl (by simp [Value.oneCell']) ?_))
       exact bodyPost_ret (res_ty2 (p:=6) (u:=7) rfl _ _ (w.heap.size+1+1) 2 0 0 rfl (HR1.out.set _ _ _)) rfl ⟨fin (o:=some 2) (rfl),below_setRow HB1.out (by omega) _⟩
    · have HP:=Hd hp;clear hp;obtain rfl | rfl | rfl:op=8∨op=9∨op=10:=by omega
      all_goals
       clear hop
       go_upto_region 21 with(fail)
       have l0:=fun d os=>cell_regrown HX.out.cells.1 d os;have l1:=fun d os=>cell_regrown HX.out.cells.2.1 d os;have l2:=fun d os=>cell_regrown HX.out.cells.2.2 d os;have m0:=fun d os=>cell_regrown HT.out.cells.1 d os;have m1:=fun d os=>cell_regrown HT.out.cells.2.1 d os;have m2:=fun d os=>cell_regrown HT.out.cells.2.2 d os;have cA:=fun d os=>Calls.regrown_of (HC.out 2 0 0 false (grow (redrawn wc d) os));refine wp_region_quiet_tail (l1:=[_,_,_,_,_,_,_]) (l2:=[_,_]) (by kernel_rfl) (by kernel_rfl) (by kernel_rfl) (by kernel_rfl) (by kernel_rfl) ?_
       repeat (quiet_step (exact cA _ _))
       refine wpQuiet_nil ?_;intro _ hw';obtain⟨⟨dq,osq⟩,hw''⟩:=hw';subst hw'';have HR1:=Hd (HR.out.regrown dq osq);have HB1:=Hd (HB.out.trans ((below_regrown wc dq osq).mono HB.out.size));clear cA l0 l1 l2 m0 m1 m2 HX HR HB HT;generalize grow (redrawn wc dq) osq=wq at *
       go_wp2_with (first | (refine wpList_store_row rfl _ _ _ rfl (w.heap.size+1+1) _ rfl rfl _ _ (HR1.out) ty_info rfl (by simp [Value.oneCell']) ?_))
       exact bodyPost_ret (res_ty2 (p:=6) (u:=7) rfl _ _ (w.heap.size+1+1) 0 0 0 rfl (HR1.out.set _ _ _)) rfl ⟨fin (o:=none) (by rw [HP.out];rfl),below_setRow HB1.out (by omega) _⟩
    · have HP:=Hd hp;clear hp;obtain rfl | rfl | rfl:op=8∨op=9∨op=10:=by omega
      all_goals
       clear hop
       go_upto_region 21 with(fail)
       have l0:=fun d os=>cell_regrown HX.out.cells.1 d os;have l1:=fun d os=>cell_regrown HX.out.cells.2.1 d os;have l2:=fun d os=>cell_regrown HX.out.cells.2.2 d os;have m0:=fun d os=>cell_regrown HT.out.cells.1 d os;have m1:=fun d os=>cell_regrown HT.out.cells.2.1 d os;have m2:=fun d os=>cell_regrown HT.out.cells.2.2 d os;have cA:=fun d os=>Calls.regrown_of (HC.out 2 0 0 false (grow (redrawn wc d) os));refine wp_region_quiet_tail (l1:=[_,_,_,_,_,_,_]) (l2:=[_,_]) (by kernel_rfl) (by kernel_rfl) (by kernel_rfl) (by kernel_rfl) (by kernel_rfl) ?_
       repeat (quiet_step (exact cA _ _))
       refine wpQuiet_nil ?_;intro _ hw';obtain⟨⟨dq,osq⟩,hw''⟩:=hw';subst hw'';have HR1:=Hd (HR.out.regrown dq osq);have HB1:=Hd (HB.out.trans ((below_regrown wc dq osq).mono HB.out.size));clear cA l0 l1 l2 m0 m1 m2 HX HR HB HT;generalize grow (redrawn wc dq) osq=wq at *
       go_wp2_with (first | (refine wpList_store_row rfl _ _ _ rfl (w.heap.size+1+1) _ rfl rfl _ _ (HR1.out) ty_info rfl (by simp [Value.oneCell']) ?_))
       exact bodyPost_ret (res_ty2 (p:=6) (u:=7) rfl _ _ (w.heap.size+1+1) 0 0 0 rfl (HR1.out.set _ _ _)) rfl ⟨fin (o:=none) (by rw [HP.out];rfl),below_setRow HB1.out (by omega) _⟩
    · cases h0
  · rcases hop with rfl | rfl
    all_goals
     go_upto_region 22 with(fail)
     go_wp2_with (first | (refine wpList_load_row rfl _ _ rfl (g) rfl _ _ _ _ (HT.out) Tryz.underlying41 rfl ty_info ?_) | (refine wpList_store_row rfl _ _ _ rfl (w.heap.size+1+1) _ rfl rfl _ _ (HR.out) ty_info rfl (by simp [Value.oneCell']) ?_))
     exact bodyPost_ret (res_ty2 (p:=6) (u:=7) rfl _ _ (w.heap.size+1+1) 2 0 0 rfl ((HR.out).set _ _ _)) rfl ⟨fin (o:=some 2) (rfl),by repeat' (first | exact HB.out | refine below_setRow ?_ (by omega) _ | refine Below.alloc ?_ (by have:=HB.out.size;simp <;> omega) _)⟩
  · cases hI:isP 1 k e 0
    · have HI:=Hd hI;clear hI;obtain rfl | rfl | rfl | rfl:op=13∨op=14∨op=15∨op=16:=by omega
      all_goals
       clear hop
       go_upto_region 20 with(fail)
       go_wp2_with (first | (go_at_call 172;refine(arOnly_no _ _ _ _).mono ?_;unfold tyV tyO;rintro r w2 ⟨rfl,rfl⟩) | (refine wpList_load_row rfl _ _ rfl (g) rfl _ _ _ _ (HT.out) Tryz.underlying41 rfl ty_info ?_) | (refine wpList_store_row rfl _ _ _ rfl (w.heap.size+1+1) _ rfl rfl _ _ ((HR.out.alloc _).alloc _) ty_info rfl (by simp [Value.oneCell']) ?_))
       exact bodyPost_ret (res_ty2 (p:=6) (u:=7) rfl _ _ (w.heap.size+1+1) 0 0 0 rfl (((HR.out.alloc _).alloc _).set _ _ _)) rfl ⟨fin (o:=none) (by rw [HI.out];rfl),by repeat' (first | exact HB.out | refine below_setRow ?_ (by omega) _ | refine Below.alloc ?_ (by have:=HB.out.size;simp <;> omega) _)⟩
    · obtain⟨rfl,rfl⟩:k=1∧e=0:=by simpa [isP] using hI
      clear hI;obtain rfl | rfl | rfl | rfl:op=13∨op=14∨op=15∨op=16:=by omega
      all_goals
       clear hop
       go_upto_region 20 with(fail)
       go_wp2_with (first | (go_at_call 172;refine(arOnly_yes _ _ _ _).mono ?_;unfold tyV tyO;rintro r w2 ⟨rfl,rfl⟩) | (refine wpList_load_row rfl _ _ rfl (g) rfl _ _ _ _ (HT.out) Tryz.underlying41 rfl ty_info ?_) | (refine wpList_store_row rfl _ _ _ rfl (w.heap.size+1+1) _ rfl rfl _ _ ((HR.out.alloc _).alloc _) ty_info rfl (by simp [Value.oneCell']) ?_))
       exact bodyPost_ret (res_ty2 (p:=6) (u:=7) rfl _ _ (w.heap.size+1+1) 2 0 0 rfl (((HR.out.alloc _).alloc _).set _ _ _)) rfl ⟨fin (o:=some 2) (rfl),by repeat' (first | exact HB.out | refine below_setRow ?_ (by omega) _ | refine Below.alloc ?_ (by have:=HB.out.size;simp <;> omega) _)⟩
  · have HN:=Hd (fun I B S=>bin_none (I:=I) (B:=B) (S:=S) hop);have b3:=op_no hop 3 (by omega);have b4:=op_no hop 4 (by omega);have b5:=op_no hop 5 (by omega);have b6:=op_no hop 6 (by omega);have b7:=op_no hop 7 (by omega);have b8:=op_no hop 8 (by omega);have b9:=op_no hop 9 (by omega);have b10:=op_no hop 10 (by omega);have b11:=op_no hop 11 (by omega);have b12:=op_no hop 12 (by omega);have b13:=op_no hop 13 (by omega);have b14:=op_no hop 14 (by omega);have b15:=op_no hop 15 (by omega);have b16:=op_no hop 16 (by omega);clear hop
    go_upto_region 23 with(fail)
    go_wp2_with (first | (refine wpList_store_row rfl _ _ _ rfl (w.heap.size+1+1) _ rfl rfl _ _ (HR.out) ty_info rfl (by simp [Value.oneCell']) ?_))
    exact bodyPost_ret (res_ty2 (p:=6) (u:=7) rfl _ _ (w.heap.size+1+1) 0 0 0 rfl ((HR.out).set _ _ _)) rfl ⟨fin (o:=none) (HN.out _ _ _),by repeat' (first | exact HB.out | refine below_setRow ?_ (by omega) _ | refine Below.alloc ?_ (by have:=HB.out.size;simp <;> omega) _)⟩
end
section
open Go.RowKit Go.Sort
theorem arBinTy(op k e l k' e' l':Int) (w:World):
 Calls Tryz.prog 144 #[.int .i64 op,tyV k e l,tyV k' e' l'] w fun r w' =>
  r=.returned (.tuple #[tyR (binTyI op (isP 1 k e l && isP 1 k' e' l') (isP 2 k e l && isP 2 k' e' l') (sameB k e l k' e' l')),.bool (binTyI op (isP 1 k e l && isP 1 k' e' l') (isP 2 k e l && isP 2 k' e' l') (sameB k e l k' e' l')).isSome])∧Below w.heap.size w w':=by
 cases hS:sameB k e l k' e' l' with
 | false=>
  have:=arBinTy_diff op k e l k' e' l' hS w;rwa [hS] at this
 | true=>
  rcases same_cases k e l k' e' l' with⟨rfl,rfl,rfl,rfl,_⟩|⟨_,h⟩|⟨_,_,h⟩|⟨_,_,_,h⟩|⟨_,_,_,_,h⟩
  · have:=arBinTy_all op k e w
    simpa using this
  all_goals (rw [hS] at h;cases h)
end
end Go.Proofs.YtkbpdoomhfkngaaGreat
