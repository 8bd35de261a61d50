/- Parts of the proof: ArV, ArK, ArW. Conditions: each theorem's own. -/
import Derived.Laws.CopyRow
import Derived.Test.YtegjgiofmpolnaaGreatC10
namespace Go.Proofs.YtegjgiofmpolnaaGreat
set_option linter.unusedVariables false
set_option linter.unusedSimpArgs false
set_option maxRecDepth 100000
set_option maxHeartbeats 40000000
section
open Go.RowKit Go.Sort
theorem lY(k:Int) (w:World):
 Calls Tryz.prog 165 #[.int .i64 k] w fun r w'=>r=.returned (aK k 0 0)/\Below w.heap.size w w' :=
 (mA k w).mono fun r w' ⟨h,h'⟩=>⟨h,by rw [h'];exact(Yg _ _).alloc (Yh _) _⟩
theorem aH7{w w':World}{i:Nat}{o:Obj}(h:w.heap[i]?=some o) (hb:Below w.heap.size w w'):w'.heap[i]?=some o:=by
 rw [hb.block i (Yl.1 h).1];exact h
def bS(W:World) (g:Nat) (k e l:Int):Prop:=W.heap[g]?=some (aS k e l)
section
variable {W W':World}{g i:Nat}{k e l k' e' l':Int}
theorem bS.regrown(h:bS W g k e l) (d:Nat) (os:Array Obj):bS (grow (redrawn W d) os) g k e l:=aH7 h (Zs W d os)
theorem bS.alloc(h:bS W g k e l) (o:Obj):bS (W.alloc o) g k e l:=dX o h
theorem bS.drew(h:bS W g k e l):bS W.drew g k e l:=h
theorem bS.set(h:bS W g k e l) (k' e' l':Int):bS (W.setRow g #[.int .i64 k',.int .i64 e',.int .i64 l']) g k' e' l':=Xc _ _ _ _ _ _ h
theorem bS.other(h:bS W g k e l) (Aa:g≠i) (cs:Array Value):bS (W.setRow i cs) g k e l:=(setRow_other _ _ _ _ Aa).trans h
theorem bS.cells(h:bS W g k e l):W.cell? ⟨g,0,none⟩=some (.int .i64 k)/\W.cell? ⟨g,1,none⟩=some (.int .i64 e)/\W.cell? ⟨g,2,none⟩=some (.int .i64 l):=by
 have hj:∀ j,W.cell? ⟨g,j,none⟩=(#[Value.int .i64 k,.int .i64 e,.int .i64 l]:Array Value)[j]?:=fun j=>by
  have:=cell_setRow_same W g j _ #[.int .i64 k,.int .i64 e,.int .i64 l] _ _ h;rwa [setRow_self W g _ _ _ h] at this
 exact⟨hj 0,hj 1,hj 2⟩
theorem bS.new(W:World) (k e l:Int):bS (W.alloc (aS k e l)) W.heap.size k e l:=Zw _ _
end
theorem aH8(w:World):
 Calls Tryz.prog 126 #[.int .i64 1,aK 1 0 0] w fun r w'=>r=.returned (.tuple #[aK 1 0 0,.bool true])/\Below w.heap.size w w':=by
 have HC:=Hd lY;have Aa:=Hd ((bS.new w 1 0 0).alloc (aS 0 0 0));have Ae:Hid (bS ((w.alloc (aS 1 0 0)).alloc (aS 0 0 0)) (w.heap.size+1) 0 0 0):=Hd (heap_alloc2_new _ _ _);have Ad:Hid (Below w.heap.size w ((w.alloc (aS 1 0 0)).alloc (aS 0 0 0))):=Hd (by(repeat' (first | exact Yg _ _ | refine Below.drew ?_ | refine Below.alloc ?_ (by simp <;> omega) _)));unfold aK at HC ⊢
 go_enter Tryz.func126,Tryz.ntmps126
 go_wp2_with fail
 generalize ((w.alloc (.cells #[.int .i64 1,.int .i64 0,.int .i64 0] 38)).alloc (.cells #[.int .i64 0,.int .i64 0,.int .i64 0] 38))=w1 at *;have l0:=fun d os=>cell_regrown Aa.o.cells.1 d os;have l1:=fun d os=>cell_regrown Aa.o.cells.2.1 d os;have l2:=fun d os=>cell_regrown Aa.o.cells.2.2 d os;have cA:=fun d os=>Calls.regrown_of (HC.o 1 (grow (redrawn w1 d) os));refine wp_region_quiet_below (by kernel_rfl) (by kernel_rfl) ?_
 repeat (quiet_step (exact cA _ _))
 refine wpQuiet_nil ?_;intro _ Af;obtain⟨⟨dq,Ab⟩,Ac⟩:=Af;subst Ac;have HX:=Hd (Aa.o.regrown dq Ab);have HR:=Hd (Ae.o.regrown dq Ab);have HB:=Hd (Ad.o.trans ((Zs w1 dq Ab).mono Ad.o.size));clear cA l0 l1 l2 Aa Ae Ad;generalize grow (redrawn w1 dq) Ab=wq at *
 go_wp2_with (first | (refine wpList_load_row rfl _ _ rfl w.heap.size rfl _ _ _ _ HX.o Tryz.underlying38 rfl bO ?_) | (refine wpList_store_row rfl _ _ _ rfl (w.heap.size+1) _ rfl rfl _ _ HR.o bO rfl (by simp [Value.oneCell']) ?_))
 exact Zt (aL rfl _ _ (w.heap.size+1) 1 0 0 rfl (HR.o.set _ _ _)) rfl ⟨rfl,Xb HB.o (by omega) _⟩
theorem aH9(k e l:Int) (hk:(k==1)=false) (w:World):
 Calls Tryz.prog 126 #[.int .i64 1,aK k e l] w fun r w'=>r=.returned (.tuple #[aK 0 0 0,.bool false])/\Below w.heap.size w w':=by
 have HC:=Hd lY;have Aa:=Hd ((bS.new w k e l).alloc (aS 0 0 0));have Ae:Hid (bS ((w.alloc (aS k e l)).alloc (aS 0 0 0)) (w.heap.size+1) 0 0 0):=Hd (heap_alloc2_new _ _ _);have Ad:Hid (Below w.heap.size w ((w.alloc (aS k e l)).alloc (aS 0 0 0))):=Hd (by(repeat' (first | exact Yg _ _ | refine Below.drew ?_ | refine Below.alloc ?_ (by simp <;> omega) _)));unfold aK at HC ⊢
 go_enter Tryz.func126,Tryz.ntmps126
 go_wp2_with fail
 generalize ((w.alloc (.cells #[.int .i64 k,.int .i64 e,.int .i64 l] 38)).alloc (.cells #[.int .i64 0,.int .i64 0,.int .i64 0] 38))=w1 at *;have l0:=fun d os=>cell_regrown Aa.o.cells.1 d os;have l1:=fun d os=>cell_regrown Aa.o.cells.2.1 d os;have l2:=fun d os=>cell_regrown Aa.o.cells.2.2 d os;have cA:=fun d os=>Calls.regrown_of (HC.o 1 (grow (redrawn w1 d) os));refine wp_region_quiet_below (by kernel_rfl) (by kernel_rfl) ?_
 repeat (quiet_step (exact cA _ _))
 refine wpQuiet_nil ?_;intro _ Af;obtain⟨⟨dq,Ab⟩,Ac⟩:=Af;subst Ac;have HX:=Hd (Aa.o.regrown dq Ab);have HR:=Hd (Ae.o.regrown dq Ab);have HB:=Hd (Ad.o.trans ((Zs w1 dq Ab).mono Ad.o.size));clear cA l0 l1 l2 Aa Ae Ad;generalize grow (redrawn w1 dq) Ab=wq at *
 go_wp2_with (first | (refine wpList_load_row rfl _ _ rfl w.heap.size rfl _ _ _ _ HX.o Tryz.underlying38 rfl bO ?_) | (refine wpList_store_row rfl _ _ _ rfl (w.heap.size+1) _ rfl rfl _ _ HR.o bO rfl (by simp [Value.oneCell']) ?_))
 exact Zt (aL rfl _ _ (w.heap.size+1) 0 0 0 rfl (HR.o.set _ _ _)) rfl ⟨rfl,Xb HB.o (by omega) _⟩
theorem aIa(e l:Int) (hk:(e==0)=false) (w:World):
 Calls Tryz.prog 126 #[.int .i64 1,aK 1 e l] w fun r w'=>r=.returned (.tuple #[aK 0 0 0,.bool false])/\Below w.heap.size w w':=by
 have HC:=Hd lY;have Aa:=Hd ((bS.new w 1 e l).alloc (aS 0 0 0));have Ae:Hid (bS ((w.alloc (aS 1 e l)).alloc (aS 0 0 0)) (w.heap.size+1) 0 0 0):=Hd (heap_alloc2_new _ _ _);have Ad:Hid (Below w.heap.size w ((w.alloc (aS 1 e l)).alloc (aS 0 0 0))):=Hd (by(repeat' (first | exact Yg _ _ | refine Below.drew ?_ | refine Below.alloc ?_ (by simp <;> omega) _)));unfold aK at HC ⊢
 go_enter Tryz.func126,Tryz.ntmps126
 go_wp2_with fail
 generalize ((w.alloc (.cells #[.int .i64 1,.int .i64 e,.int .i64 l] 38)).alloc (.cells #[.int .i64 0,.int .i64 0,.int .i64 0] 38))=w1 at *;have l0:=fun d os=>cell_regrown Aa.o.cells.1 d os;have l1:=fun d os=>cell_regrown Aa.o.cells.2.1 d os;have l2:=fun d os=>cell_regrown Aa.o.cells.2.2 d os;have cA:=fun d os=>Calls.regrown_of (HC.o 1 (grow (redrawn w1 d) os));refine wp_region_quiet_below (by kernel_rfl) (by kernel_rfl) ?_
 repeat (quiet_step (exact cA _ _))
 refine wpQuiet_nil ?_;intro _ Af;obtain⟨⟨dq,Ab⟩,Ac⟩:=Af;subst Ac;have HX:=Hd (Aa.o.regrown dq Ab);have HR:=Hd (Ae.o.regrown dq Ab);have HB:=Hd (Ad.o.trans ((Zs w1 dq Ab).mono Ad.o.size));clear cA l0 l1 l2 Aa Ae Ad;generalize grow (redrawn w1 dq) Ab=wq at *
 go_wp2_with (first | (refine wpList_load_row rfl _ _ rfl w.heap.size rfl _ _ _ _ HX.o Tryz.underlying38 rfl bO ?_) | (refine wpList_store_row rfl _ _ _ rfl (w.heap.size+1) _ rfl rfl _ _ HR.o bO rfl (by simp [Value.oneCell']) ?_))
 exact Zt (aL rfl _ _ (w.heap.size+1) 0 0 0 rfl (HR.o.set _ _ _)) rfl ⟨rfl,Xb HB.o (by omega) _⟩
theorem aIb(l:Int) (hk:(l==0)=false) (w:World):
 Calls Tryz.prog 126 #[.int .i64 1,aK 1 0 l] w fun r w'=>r=.returned (.tuple #[aK 0 0 0,.bool false])/\Below w.heap.size w w':=by
 have HC:=Hd lY;have Aa:=Hd ((bS.new w 1 0 l).alloc (aS 0 0 0));have Ae:Hid (bS ((w.alloc (aS 1 0 l)).alloc (aS 0 0 0)) (w.heap.size+1) 0 0 0):=Hd (heap_alloc2_new _ _ _);have Ad:Hid (Below w.heap.size w ((w.alloc (aS 1 0 l)).alloc (aS 0 0 0))):=Hd (by(repeat' (first | exact Yg _ _ | refine Below.drew ?_ | refine Below.alloc ?_ (by simp <;> omega) _)));unfold aK at HC ⊢
 go_enter Tryz.func126,Tryz.ntmps126
 go_wp2_with fail
 generalize ((w.alloc (.cells #[.int .i64 1,.int .i64 0,.int .i64 l] 38)).alloc (.cells #[.int .i64 0,.int .i64 0,.int .i64 0] 38))=w1 at *;have l0:=fun d os=>cell_regrown Aa.o.cells.1 d os;have l1:=fun d os=>cell_regrown Aa.o.cells.2.1 d os;have l2:=fun d os=>cell_regrown Aa.o.cells.2.2 d os;have cA:=fun d os=>Calls.regrown_of (HC.o 1 (grow (redrawn w1 d) os));refine wp_region_quiet_below (by kernel_rfl) (by kernel_rfl) ?_
 repeat (quiet_step (exact cA _ _))
 refine wpQuiet_nil ?_;intro _ Af;obtain⟨⟨dq,Ab⟩,Ac⟩:=Af;subst Ac;have HX:=Hd (Aa.o.regrown dq Ab);have HR:=Hd (Ae.o.regrown dq Ab);have HB:=Hd (Ad.o.trans ((Zs w1 dq Ab).mono Ad.o.size));clear cA l0 l1 l2 Aa Ae Ad;generalize grow (redrawn w1 dq) Ab=wq at *
 go_wp2_with (first | (refine wpList_load_row rfl _ _ rfl w.heap.size rfl _ _ _ _ HX.o Tryz.underlying38 rfl bO ?_) | (refine wpList_store_row rfl _ _ _ rfl (w.heap.size+1) _ rfl rfl _ _ HR.o bO rfl (by simp [Value.oneCell']) ?_))
 exact Zt (aL rfl _ _ (w.heap.size+1) 0 0 0 rfl (HR.o.set _ _ _)) rfl ⟨rfl,Xb HB.o (by omega) _⟩
theorem aIc(w:World):
 Calls Tryz.prog 126 #[.int .i64 2,aK 2 0 0] w fun r w'=>r=.returned (.tuple #[aK 2 0 0,.bool true])/\Below w.heap.size w w':=by
 have HC:=Hd lY;have Aa:=Hd ((bS.new w 2 0 0).alloc (aS 0 0 0));have Ae:Hid (bS ((w.alloc (aS 2 0 0)).alloc (aS 0 0 0)) (w.heap.size+1) 0 0 0):=Hd (heap_alloc2_new _ _ _);have Ad:Hid (Below w.heap.size w ((w.alloc (aS 2 0 0)).alloc (aS 0 0 0))):=Hd (by(repeat' (first | exact Yg _ _ | refine Below.drew ?_ | refine Below.alloc ?_ (by simp <;> omega) _)));unfold aK at HC ⊢
 go_enter Tryz.func126,Tryz.ntmps126
 go_wp2_with fail
 generalize ((w.alloc (.cells #[.int .i64 2,.int .i64 0,.int .i64 0] 38)).alloc (.cells #[.int .i64 0,.int .i64 0,.int .i64 0] 38))=w1 at *;have l0:=fun d os=>cell_regrown Aa.o.cells.1 d os;have l1:=fun d os=>cell_regrown Aa.o.cells.2.1 d os;have l2:=fun d os=>cell_regrown Aa.o.cells.2.2 d os;have cA:=fun d os=>Calls.regrown_of (HC.o 2 (grow (redrawn w1 d) os));refine wp_region_quiet_below (by kernel_rfl) (by kernel_rfl) ?_
 repeat (quiet_step (exact cA _ _))
 refine wpQuiet_nil ?_;intro _ Af;obtain⟨⟨dq,Ab⟩,Ac⟩:=Af;subst Ac;have HX:=Hd (Aa.o.regrown dq Ab);have HR:=Hd (Ae.o.regrown dq Ab);have HB:=Hd (Ad.o.trans ((Zs w1 dq Ab).mono Ad.o.size));clear cA l0 l1 l2 Aa Ae Ad;generalize grow (redrawn w1 dq) Ab=wq at *
 go_wp2_with (first | (refine wpList_load_row rfl _ _ rfl w.heap.size rfl _ _ _ _ HX.o Tryz.underlying38 rfl bO ?_) | (refine wpList_store_row rfl _ _ _ rfl (w.heap.size+1) _ rfl rfl _ _ HR.o bO rfl (by simp [Value.oneCell']) ?_))
 exact Zt (aL rfl _ _ (w.heap.size+1) 2 0 0 rfl (HR.o.set _ _ _)) rfl ⟨rfl,Xb HB.o (by omega) _⟩
theorem aId(k e l:Int) (hk:(k==2)=false) (w:World):
 Calls Tryz.prog 126 #[.int .i64 2,aK k e l] w fun r w'=>r=.returned (.tuple #[aK 0 0 0,.bool false])/\Below w.heap.size w w':=by
 have HC:=Hd lY;have Aa:=Hd ((bS.new w k e l).alloc (aS 0 0 0));have Ae:Hid (bS ((w.alloc (aS k e l)).alloc (aS 0 0 0)) (w.heap.size+1) 0 0 0):=Hd (heap_alloc2_new _ _ _);have Ad:Hid (Below w.heap.size w ((w.alloc (aS k e l)).alloc (aS 0 0 0))):=Hd (by(repeat' (first | exact Yg _ _ | refine Below.drew ?_ | refine Below.alloc ?_ (by simp <;> omega) _)));unfold aK at HC ⊢
 go_enter Tryz.func126,Tryz.ntmps126
 go_wp2_with fail
 generalize ((w.alloc (.cells #[.int .i64 k,.int .i64 e,.int .i64 l] 38)).alloc (.cells #[.int .i64 0,.int .i64 0,.int .i64 0] 38))=w1 at *;have l0:=fun d os=>cell_regrown Aa.o.cells.1 d os;have l1:=fun d os=>cell_regrown Aa.o.cells.2.1 d os;have l2:=fun d os=>cell_regrown Aa.o.cells.2.2 d os;have cA:=fun d os=>Calls.regrown_of (HC.o 2 (grow (redrawn w1 d) os));refine wp_region_quiet_below (by kernel_rfl) (by kernel_rfl) ?_
 repeat (quiet_step (exact cA _ _))
 refine wpQuiet_nil ?_;intro _ Af;obtain⟨⟨dq,Ab⟩,Ac⟩:=Af;subst Ac;have HX:=Hd (Aa.o.regrown dq Ab);have HR:=Hd (Ae.o.regrown dq Ab);have HB:=Hd (Ad.o.trans ((Zs w1 dq Ab).mono Ad.o.size));clear cA l0 l1 l2 Aa Ae Ad;generalize grow (redrawn w1 dq) Ab=wq at *
 go_wp2_with (first | (refine wpList_load_row rfl _ _ rfl w.heap.size rfl _ _ _ _ HX.o Tryz.underlying38 rfl bO ?_) | (refine wpList_store_row rfl _ _ _ rfl (w.heap.size+1) _ rfl rfl _ _ HR.o bO rfl (by simp [Value.oneCell']) ?_))
 exact Zt (aL rfl _ _ (w.heap.size+1) 0 0 0 rfl (HR.o.set _ _ _)) rfl ⟨rfl,Xb HB.o (by omega) _⟩
theorem aIe(e l:Int) (hk:(e==0)=false) (w:World):
 Calls Tryz.prog 126 #[.int .i64 2,aK 2 e l] w fun r w'=>r=.returned (.tuple #[aK 0 0 0,.bool false])/\Below w.heap.size w w':=by
 have HC:=Hd lY;have Aa:=Hd ((bS.new w 2 e l).alloc (aS 0 0 0));have Ae:Hid (bS ((w.alloc (aS 2 e l)).alloc (aS 0 0 0)) (w.heap.size+1) 0 0 0):=Hd (heap_alloc2_new _ _ _);have Ad:Hid (Below w.heap.size w ((w.alloc (aS 2 e l)).alloc (aS 0 0 0))):=Hd (by(repeat' (first | exact Yg _ _ | refine Below.drew ?_ | refine Below.alloc ?_ (by simp <;> omega) _)));unfold aK at HC ⊢
 go_enter Tryz.func126,Tryz.ntmps126
 go_wp2_with fail
 generalize ((w.alloc (.cells #[.int .i64 2,.int .i64 e,.int .i64 l] 38)).alloc (.cells #[.int .i64 0,.int .i64 0,.int .i64 0] 38))=w1 at *;have l0:=fun d os=>cell_regrown Aa.o.cells.1 d os;have l1:=fun d os=>cell_regrown Aa.o.cells.2.1 d os;have l2:=fun d os=>cell_regrown Aa.o.cells.2.2 d os;have cA:=fun d os=>Calls.regrown_of (HC.o 2 (grow (redrawn w1 d) os));refine wp_region_quiet_below (by kernel_rfl) (by kernel_rfl) ?_
 repeat (quiet_step (exact cA _ _))
 refine wpQuiet_nil ?_;intro _ Af;obtain⟨⟨dq,Ab⟩,Ac⟩:=Af;subst Ac;have HX:=Hd (Aa.o.regrown dq Ab);have HR:=Hd (Ae.o.regrown dq Ab);have HB:=Hd (Ad.o.trans ((Zs w1 dq Ab).mono Ad.o.size));clear cA l0 l1 l2 Aa Ae Ad;generalize grow (redrawn w1 dq) Ab=wq at *
 go_wp2_with (first | (refine wpList_load_row rfl _ _ rfl w.heap.size rfl _ _ _ _ HX.o Tryz.underlying38 rfl bO ?_) | (refine wpList_store_row rfl _ _ _ rfl (w.heap.size+1) _ rfl rfl _ _ HR.o bO rfl (by simp [Value.oneCell']) ?_))
 exact Zt (aL rfl _ _ (w.heap.size+1) 0 0 0 rfl (HR.o.set _ _ _)) rfl ⟨rfl,Xb HB.o (by omega) _⟩
theorem aIf(l:Int) (hk:(l==0)=false) (w:World):
 Calls Tryz.prog 126 #[.int .i64 2,aK 2 0 l] w fun r w'=>r=.returned (.tuple #[aK 0 0 0,.bool false])/\Below w.heap.size w w':=by
 have HC:=Hd lY;have Aa:=Hd ((bS.new w 2 0 l).alloc (aS 0 0 0));have Ae:Hid (bS ((w.alloc (aS 2 0 l)).alloc (aS 0 0 0)) (w.heap.size+1) 0 0 0):=Hd (heap_alloc2_new _ _ _);have Ad:Hid (Below w.heap.size w ((w.alloc (aS 2 0 l)).alloc (aS 0 0 0))):=Hd (by(repeat' (first | exact Yg _ _ | refine Below.drew ?_ | refine Below.alloc ?_ (by simp <;> omega) _)));unfold aK at HC ⊢
 go_enter Tryz.func126,Tryz.ntmps126
 go_wp2_with fail
 generalize ((w.alloc (.cells #[.int .i64 2,.int .i64 0,.int .i64 l] 38)).alloc (.cells #[.int .i64 0,.int .i64 0,.int .i64 0] 38))=w1 at *;have l0:=fun d os=>cell_regrown Aa.o.cells.1 d os;have l1:=fun d os=>cell_regrown Aa.o.cells.2.1 d os;have l2:=fun d os=>cell_regrown Aa.o.cells.2.2 d os;have cA:=fun d os=>Calls.regrown_of (HC.o 2 (grow (redrawn w1 d) os));refine wp_region_quiet_below (by kernel_rfl) (by kernel_rfl) ?_
 repeat (quiet_step (exact cA _ _))
 refine wpQuiet_nil ?_;intro _ Af;obtain⟨⟨dq,Ab⟩,Ac⟩:=Af;subst Ac;have HX:=Hd (Aa.o.regrown dq Ab);have HR:=Hd (Ae.o.regrown dq Ab);have HB:=Hd (Ad.o.trans ((Zs w1 dq Ab).mono Ad.o.size));clear cA l0 l1 l2 Aa Ae Ad;generalize grow (redrawn w1 dq) Ab=wq at *
 go_wp2_with (first | (refine wpList_load_row rfl _ _ rfl w.heap.size rfl _ _ _ _ HX.o Tryz.underlying38 rfl bO ?_) | (refine wpList_store_row rfl _ _ _ rfl (w.heap.size+1) _ rfl rfl _ _ HR.o bO rfl (by simp [Value.oneCell']) ?_))
 exact Zt (aL rfl _ _ (w.heap.size+1) 0 0 0 rfl (HR.o.set _ _ _)) rfl ⟨rfl,Xb HB.o (by omega) _⟩
theorem aIg(op k e l:Int) (h1:(op==1)=false) (h2:(op==2)=false) (w:World):
 Calls Tryz.prog 126 #[.int .i64 op,aK k e l] w fun r w'=>r=.returned (.tuple #[aK 0 0 0,.bool false])/\Below w.heap.size w w':=by
 have HC:=Hd lY;have Aa:=Hd ((bS.new w k e l).alloc (aS 0 0 0));have Ae:Hid (bS ((w.alloc (aS k e l)).alloc (aS 0 0 0)) (w.heap.size+1) 0 0 0):=Hd (heap_alloc2_new _ _ _);have Ad:Hid (Below w.heap.size w ((w.alloc (aS k e l)).alloc (aS 0 0 0))):=Hd (by(repeat' (first | exact Yg _ _ | refine Below.drew ?_ | refine Below.alloc ?_ (by simp <;> omega) _)));unfold aK at HC ⊢
 go_enter Tryz.func126,Tryz.ntmps126
 go_wp2_with fail
 generalize ((w.alloc (.cells #[.int .i64 k,.int .i64 e,.int .i64 l] 38)).alloc (.cells #[.int .i64 0,.int .i64 0,.int .i64 0] 38))=w1 at *;have l0:=fun d os=>cell_regrown Aa.o.cells.1 d os;have l1:=fun d os=>cell_regrown Aa.o.cells.2.1 d os;have l2:=fun d os=>cell_regrown Aa.o.cells.2.2 d os;refine wp_region_quiet_below (by kernel_rfl) (by kernel_rfl) ?_
 repeat (quiet_step (fail))
 refine wpQuiet_nil ?_;intro _ Af;obtain⟨⟨dq,Ab⟩,Ac⟩:=Af;subst Ac;have HX:=Hd (Aa.o.regrown dq Ab);have HR:=Hd (Ae.o.regrown dq Ab);have HB:=Hd (Ad.o.trans ((Zs w1 dq Ab).mono Ad.o.size));clear l0 l1 l2 Aa Ae Ad;generalize grow (redrawn w1 dq) Ab=wq at *
 go_wp2_with (first | (refine wpList_load_row rfl _ _ rfl w.heap.size rfl _ _ _ _ HX.o Tryz.underlying38 rfl bO ?_) | (refine wpList_store_row rfl _ _ _ rfl (w.heap.size+1) _ rfl rfl _ _ HR.o bO rfl (by simp [Value.oneCell']) ?_))
 exact Zt (aL rfl _ _ (w.heap.size+1) 0 0 0 rfl (HR.o.set _ _ _)) rfl ⟨rfl,Xb HB.o (by omega) _⟩
theorem aPl(op k e l:Int) (w:World):
 Calls Tryz.prog 126 #[.int .i64 op,aK k e l] w fun r w'=>r=.returned (.tuple #[kV (cX op k e l),.bool (cX op k e l).isSome])/\Below w.heap.size w w':=by
 by_cases o1:op=1
 . subst o1
   by_cases hk:k=1
   . subst hk
     by_cases he:e=0
     . subst he
       by_cases hl:l=0
       . subst hl;exact aH8 w
       . have e:cX 1 1 0 l=none:=by simp [cX,hl]
         rw [e];exact aIb l (by simpa using hl) w
     . have e:cX 1 1 e l=none:=by simp [cX,he]
       rw [e];exact aIa _ l (by simpa using he) w
   . have e:cX 1 k e l=none:=by simp [cX,hk]
     rw [e];exact aH9 k _ l (by simpa using hk) w
 . by_cases o2:op=2
   . subst o2
     by_cases hk:k=2
     . subst hk
       by_cases he:e=0
       . subst he
         by_cases hl:l=0
         . subst hl;exact aIc w
         . have e:cX 2 2 0 l=none:=by simp [cX,hl]
           rw [e];exact aIf l (by simpa using hl) w
       . have e:cX 2 2 e l=none:=by simp [cX,he]
         rw [e];exact aIe _ l (by simpa using he) w
     . have e:cX 2 k e l=none:=by simp [cX,hk]
       rw [e];exact aId k _ l (by simpa using hk) w
   . have e:cX op k e l=none:=by simp [cX,o1,o2]
     rw [e];exact aIg op k _ l (by simpa using o1) (by simpa using o2) w
end
section
open Go.RowKit Go.Sort
def aV(K k e l:Int):Bool:=decide (k=K) && decide (e=0) && decide (l=0)
def fA(k e l k' e' l':Int):Bool:=decide (k=k') && decide (e=e') && decide (l=l') && decide (l=0)
def iF(op:Int) (I B S:Bool):Option Int:=
 if 3<=op/\op<=7 then(if I then some 1 else none) else if 8<=op/\op<=10 then(if B then some 2 else none)
 else if op=11\/op=12 then(if S then some 2 else none) else if 13<=op/\op<=16 then(if I then some 2 else none) else none
theorem nT(K k e l:Int):(k=K/\e=0/\l=0/\aV K k e l=true)\/((k==K)=false/\aV K k e l=false)\/(k=K/\(e==0)=false/\aV K k e l=false)\/(k=K/\e=0/\(l==0)=false/\aV K k e l=false):=by
 by_cases hk:k=K
 . by_cases he:e=0
   . by_cases hl:l=0
     . exact .inl ⟨hk,he,hl,by simp [aV,hk,he,hl]⟩
     . exact .inr (.inr (.inr ⟨hk,he,by simpa using hl,by simp [aV,hl]⟩))
   . exact .inr (.inr (.inl ⟨hk,by simpa using he,by simp [aV,he]⟩))
 . exact .inr (.inl ⟨by simpa using hk,by simp [aV,hk]⟩)
theorem wA(k e l k' e' l':Int):(k=k'/\e=e'/\l=l'/\l=0/\fA k e l k' e' l'=true)\/((k==k')=false/\fA k e l k' e' l'=false)\/(k=k'/\(e==e')=false/\fA k e l k' e' l'=false) \/
 (k=k'/\e=e'/\(l==l')=false/\fA k e l k' e' l'=false)\/(k=k'/\e=e'/\l=l'/\(l==0)=false/\fA k e l k' e' l'=false):=by
 by_cases hk:k=k'
 . by_cases he:e=e'
   . by_cases hl:l=l'
     . by_cases h0:l=0
       . exact .inl ⟨hk,he,hl,h0,by simp [fA,hk,he,<- hl,h0]⟩
       . exact .inr (.inr (.inr (.inr ⟨hk,he,hl,by simpa using h0,by simp [fA,h0]⟩)))
     . exact .inr (.inr (.inr (.inl ⟨hk,he,by simpa using hl,by simp [fA,hl]⟩)))
   . exact .inr (.inr (.inl ⟨hk,by simpa using he,by simp [fA,he]⟩))
 . exact .inr (.inl ⟨by simpa using hk,by simp [fA,hk]⟩)
theorem aDi{op:Int}{I B S:Bool}(Aa:op<3\/16<op):iF op I B S=none:=by
 unfold iF
 repeat rw [if_neg (by omega)]
theorem aDj{op k e l k' e' l':Int}(h:fA k e l k' e' l'=false):iF op (aV 1 k e l && aV 1 k' e' l') (aV 2 k e l && aV 2 k' e' l') (fA k e l k' e' l')=none:=by
 have hI:∀ K,(aV K k e l && aV K k' e' l')=false:=fun K=>by
  rw [<- h];unfold aV fA at *
  by_cases h1:k=k' <;> by_cases h2:e=e' <;> by_cases h3:l=l' <;> by_cases h4:l=0 <;> simp_all
  all_goals omega
 rw [hI 1,hI 2,h];unfold iF
 simp
theorem gS{o o':Option Int}(h:o'=o):Ending.returned (.tuple #[kV o,.bool o.isSome])=Ending.returned (.tuple #[kV o',.bool o'.isSome]):=by rw [h]
theorem gG{x y:Bool}(h:x=false):false=(x && y):=by rw [h];rfl
theorem oI{x y:Bool}(h:x=true) (h':y=true):true=(x && y):=by rw [h,h'];rfl
theorem oJ{x y:Bool}(h:x=true) (h':y=false):false=(x && y):=by rw [h,h'];rfl
theorem aPm(e l:Int):aV 2 1 e l=false:=by simp [aV]
end
section
open Go.RowKit Go.Sort
theorem aM5(op k e l k' e' l':Int) (w:World):
 Calls Tryz.prog 127 #[.int .i64 op,aK k e l,aK k' e' l'] w fun r w' =>
  r=.returned (.tuple #[kV (iF op (aV 1 k e l && aV 1 k' e' l') (aV 2 k e l && aV 2 k' e' l') (fA k e l k' e' l')),.bool (iF op (aV 1 k e l && aV 1 k' e' l') (aV 2 k e l && aV 2 k' e' l') (fA k e l k' e' l')).isSome])/\Below w.heap.size w w':=by
 have HC:=Hd lY;have Ad:=Hd (((bS.new w k e l).alloc (aS k' e' l')).alloc (aS 0 0 0));have Ac:Hid (bS (((w.alloc (aS k e l)).alloc (aS k' e' l')).alloc (aS 0 0 0)) (w.heap.size+1) k' e' l'):=Hd (dX _ (heap_alloc2_new _ _ _))
 have Ak:Hid (bS (((w.alloc (aS k e l)).alloc (aS k' e' l')).alloc (aS 0 0 0)) (w.heap.size+1+1) 0 0 0):=Hd (by
  have:=bS.new ((w.alloc (aS k e l)).alloc (aS k' e' l')) 0 0 0
  simpa using this)
 have Ai:Hid (Below w.heap.size w (((w.alloc (aS k e l)).alloc (aS k' e' l')).alloc (aS 0 0 0))):=Hd (by(repeat' (first | exact Yg _ _ | refine Below.drew ?_ | refine Below.alloc ?_ (by simp <;> omega) _)));unfold aK at HC ⊢
 go_enter Tryz.func127,Tryz.ntmps127
 go_upto_region 1 with(fail)
 generalize (((w.alloc (.cells #[.int .i64 k,.int .i64 e,.int .i64 l] 38)).alloc (.cells #[.int .i64 k',.int .i64 e',.int .i64 l'] 38)).alloc (.cells #[.int .i64 0,.int .i64 0,.int .i64 0] 38))=w1 at *
 go_cut [8,9] (fun v8 v9 wx=>v8=.bool (aV 1 k e l && aV 1 k' e' l')/\v9=.bool (aV 2 k e l && aV 2 k' e' l')/\bS wx w.heap.size k e l/\bS wx (w.heap.size+1) k' e' l'/\bS wx (w.heap.size+1+1) 0 0 0/\Below w.heap.size w wx)
 case first=>
  rcases nT 1 k e l with⟨rfl,rfl,rfl,hp⟩|⟨hk,hp⟩|⟨rfl,hk,hp⟩|⟨rfl,rfl,hk,hp⟩
  . have Aj:aV 2 1 0 0=false:=rfl;have Am:aV 1 1 0 0=true:=rfl;clear hp;rcases nT 1 k' e' l' with⟨rfl,rfl,rfl,hq⟩|⟨hm,hq⟩|⟨rfl,hm,hq⟩|⟨rfl,rfl,hm,hq⟩
    all_goals
     have Ae:=Hd Am;have Aa:=Hd Aj;have Af:=Hd hq;clear Am Aj hq;have l0:=fun d os=>cell_regrown Ad.o.cells.1 d os;have l1:=fun d os=>cell_regrown Ad.o.cells.2.1 d os;have l2:=fun d os=>cell_regrown Ad.o.cells.2.2 d os;have m0:=fun d os=>cell_regrown Ac.o.cells.1 d os;have m1:=fun d os=>cell_regrown Ac.o.cells.2.1 d os;have m2:=fun d os=>cell_regrown Ac.o.cells.2.2 d os;have cA:=fun K d os=>Calls.regrown_of (HC.o K (grow (redrawn w1 d) os));refine wp_region_quiet_below (by kernel_rfl) (by kernel_rfl) ?_
     repeat (quiet_step (exact cA _ _ _))
     refine wpQuiet_nil ?_;intro _ Al;obtain⟨⟨dq,Ab⟩,Ag⟩:=Al;subst Ag;have HX:=Hd (Ad.o.regrown dq Ab);have HY:=Hd (Ac.o.regrown dq Ab);have HR:=Hd (Ak.o.regrown dq Ab);have HB:=Hd (Ai.o.trans ((Zs w1 dq Ab).mono Ai.o.size));clear cA l0 l1 l2 m0 m1 m2 Ad Ak Ai Ac;generalize grow (redrawn w1 dq) Ab=wq at *
     go_wp2_with fail
     go_meet
     case rel=>exact⟨congrArg Value.bool (by first | exact gG Ae.o | exact gG Aa.o | exact oI Ae.o Af.o | exact oJ Ae.o Af.o | exact oI Aa.o Af.o | exact oJ Aa.o Af.o),congrArg Value.bool (by first | exact gG Ae.o | exact gG Aa.o | exact oI Ae.o Af.o | exact oJ Ae.o Af.o | exact oI Aa.o Af.o | exact oJ Aa.o Af.o),HX.o,HY.o,HR.o,HB.o⟩
  . rcases nT 2 k e l with⟨rfl,rfl,rfl,Aj⟩|⟨hk2,Aj⟩|⟨rfl,hk2,Aj⟩|⟨rfl,rfl,hk2,Aj⟩
    . clear hk;rcases nT 2 k' e' l' with⟨rfl,rfl,rfl,hq⟩|⟨hm,hq⟩|⟨rfl,hm,hq⟩|⟨rfl,rfl,hm,hq⟩
      all_goals
       have Ae:=Hd hp;have Aa:=Hd Aj;have Af:=Hd hq;clear hp Aj hq;have l0:=fun d os=>cell_regrown Ad.o.cells.1 d os;have l1:=fun d os=>cell_regrown Ad.o.cells.2.1 d os;have l2:=fun d os=>cell_regrown Ad.o.cells.2.2 d os;have m0:=fun d os=>cell_regrown Ac.o.cells.1 d os;have m1:=fun d os=>cell_regrown Ac.o.cells.2.1 d os;have m2:=fun d os=>cell_regrown Ac.o.cells.2.2 d os;have cA:=fun K d os=>Calls.regrown_of (HC.o K (grow (redrawn w1 d) os));refine wp_region_quiet_below (by kernel_rfl) (by kernel_rfl) ?_
       repeat (quiet_step (exact cA _ _ _))
       refine wpQuiet_nil ?_;intro _ Al;obtain⟨⟨dq,Ab⟩,Ag⟩:=Al;subst Ag;have HX:=Hd (Ad.o.regrown dq Ab);have HY:=Hd (Ac.o.regrown dq Ab);have HR:=Hd (Ak.o.regrown dq Ab);have HB:=Hd (Ai.o.trans ((Zs w1 dq Ab).mono Ai.o.size));clear cA l0 l1 l2 m0 m1 m2 Ad Ak Ai Ac;generalize grow (redrawn w1 dq) Ab=wq at *
       go_wp2_with fail
       go_meet
       case rel=>exact⟨congrArg Value.bool (by first | exact gG Ae.o | exact gG Aa.o | exact oI Ae.o Af.o | exact oJ Ae.o Af.o | exact oI Aa.o Af.o | exact oJ Aa.o Af.o),congrArg Value.bool (by first | exact gG Ae.o | exact gG Aa.o | exact oI Ae.o Af.o | exact oJ Ae.o Af.o | exact oI Aa.o Af.o | exact oJ Aa.o Af.o),HX.o,HY.o,HR.o,HB.o⟩
    all_goals
     have Ae:=Hd hp;have Aa:=Hd Aj;clear hp Aj;have l0:=fun d os=>cell_regrown Ad.o.cells.1 d os;have l1:=fun d os=>cell_regrown Ad.o.cells.2.1 d os;have l2:=fun d os=>cell_regrown Ad.o.cells.2.2 d os;have m0:=fun d os=>cell_regrown Ac.o.cells.1 d os;have m1:=fun d os=>cell_regrown Ac.o.cells.2.1 d os;have m2:=fun d os=>cell_regrown Ac.o.cells.2.2 d os;have cA:=fun K d os=>Calls.regrown_of (HC.o K (grow (redrawn w1 d) os));refine wp_region_quiet_below (by kernel_rfl) (by kernel_rfl) ?_
     repeat (quiet_step (exact cA _ _ _))
     refine wpQuiet_nil ?_;intro _ Al;obtain⟨⟨dq,Ab⟩,Ag⟩:=Al;subst Ag;have HX:=Hd (Ad.o.regrown dq Ab);have HY:=Hd (Ac.o.regrown dq Ab);have HR:=Hd (Ak.o.regrown dq Ab);have HB:=Hd (Ai.o.trans ((Zs w1 dq Ab).mono Ai.o.size));clear cA l0 l1 l2 m0 m1 m2 Ad Ak Ai Ac;generalize grow (redrawn w1 dq) Ab=wq at *
     go_wp2_with fail
     go_meet
     case rel=>exact⟨congrArg Value.bool (by first | exact gG Ae.o | exact gG Aa.o | exact gG (Aa.o _ _)),congrArg Value.bool (by first | exact gG Ae.o | exact gG Aa.o | exact gG (Aa.o _ _)),HX.o,HY.o,HR.o,HB.o⟩
  all_goals
   have Ae:=Hd hp;have Aa:=Hd aPm;clear hp;have l0:=fun d os=>cell_regrown Ad.o.cells.1 d os;have l1:=fun d os=>cell_regrown Ad.o.cells.2.1 d os;have l2:=fun d os=>cell_regrown Ad.o.cells.2.2 d os;have m0:=fun d os=>cell_regrown Ac.o.cells.1 d os;have m1:=fun d os=>cell_regrown Ac.o.cells.2.1 d os;have m2:=fun d os=>cell_regrown Ac.o.cells.2.2 d os;have cA:=fun K d os=>Calls.regrown_of (HC.o K (grow (redrawn w1 d) os));refine wp_region_quiet_below (by kernel_rfl) (by kernel_rfl) ?_
   repeat (quiet_step (exact cA _ _ _))
   refine wpQuiet_nil ?_;intro _ Al;obtain⟨⟨dq,Ab⟩,Ag⟩:=Al;subst Ag;have HX:=Hd (Ad.o.regrown dq Ab);have HY:=Hd (Ac.o.regrown dq Ab);have HR:=Hd (Ak.o.regrown dq Ab);have HB:=Hd (Ai.o.trans ((Zs w1 dq Ab).mono Ai.o.size));clear cA l0 l1 l2 m0 m1 m2 Ad Ak Ai Ac;generalize grow (redrawn w1 dq) Ab=wq at *
   go_wp2_with fail
   go_meet
   case rel=>exact⟨congrArg Value.bool (by first | exact gG Ae.o | exact gG Aa.o | exact gG (Aa.o _ _)),congrArg Value.bool (by first | exact gG Ae.o | exact gG Aa.o | exact gG (Aa.o _ _)),HX.o,HY.o,HR.o,HB.o⟩
 case rest=>
  obtain⟨rfl,rfl,HX,HY,HR,HB⟩:=hcut;have HR:=Hd HR;have HB:=Hd HB;clear Ad Ac Ak Ai HC;obtain Ah | Ah | Ah | Ah | Ah:(3<=op/\op<=7)\/(8<=op/\op<=10)\/(op=11\/op=12)\/(13<=op/\op<=16)\/(op<3\/16<op):=by omega
  . clear HX HY;generalize hI:(aV 1 k e l && aV 1 k' e' l')=I;generalize hB:(aV 2 k e l && aV 2 k' e' l')=B;have HI:=Hd hI;have HP:=Hd hB;clear hI hB;obtain rfl | rfl | rfl | rfl | rfl:op=3\/op=4\/op=5\/op=6\/op=7:=by omega
    all_goals
     clear Ah
     cases I
     . go_wp2_with (first | (go_at_call 165;refine(mA _ _).mono ?_;unfold aK;rintro r w2 ⟨rfl,rfl⟩) | (refine wpList_store_row rfl _ _ _ rfl (w.heap.size+1+1) _ rfl rfl _ _ (HR.o) bO rfl (by simp [Value.oneCell']) ?_) | (refine wpList_store_row rfl _ _ _ rfl (w.heap.size+1+1) _ rfl rfl _ _ (HR.o.alloc _) bO rfl (by simp [Value.oneCell']) ?_))
       exact Zt (aL (p:=6) (u:=7) rfl _ _ (w.heap.size+1+1) 0 0 0 rfl (HR.o.set _ _ _)) rfl ⟨gS (o:=none) (by rw [HI.o];rfl),Xb HB.o (by omega) _⟩
     . go_wp2_with (first | (go_at_call 165;refine(mA _ _).mono ?_;unfold aK;rintro r w2 ⟨rfl,rfl⟩) | (refine wpList_store_row rfl _ _ _ rfl (w.heap.size+1+1) _ rfl rfl _ _ (HR.o) bO rfl (by simp [Value.oneCell']) ?_) | (refine wpList_store_row rfl _ _ _ rfl (w.heap.size+1+1) _ rfl rfl _ _ (HR.o.alloc _) bO rfl (by simp [Value.oneCell']) ?_))
       exact Zt (aL (p:=6) (u:=7) rfl _ _ (w.heap.size+1+1) 1 0 0 rfl ((HR.o.alloc _).set _ _ _)) rfl ⟨gS (o:=some 1) (by rw [HI.o];rfl),Xb (HB.o.alloc HB.o.size _) (by omega) _⟩
  . clear HX HY;generalize hI:(aV 1 k e l && aV 1 k' e' l')=I;generalize hB:(aV 2 k e l && aV 2 k' e' l')=B;have HI:=Hd hI;have HP:=Hd hB;clear hI hB;obtain rfl | rfl | rfl:op=8\/op=9\/op=10:=by omega
    all_goals
     clear Ah
     cases B
     . go_wp2_with (first | (go_at_call 165;refine(mA _ _).mono ?_;unfold aK;rintro r w2 ⟨rfl,rfl⟩) | (refine wpList_store_row rfl _ _ _ rfl (w.heap.size+1+1) _ rfl rfl _ _ (HR.o) bO rfl (by simp [Value.oneCell']) ?_) | (refine wpList_store_row rfl _ _ _ rfl (w.heap.size+1+1) _ rfl rfl _ _ (HR.o.alloc _) bO rfl (by simp [Value.oneCell']) ?_))
       exact Zt (aL (p:=6) (u:=7) rfl _ _ (w.heap.size+1+1) 0 0 0 rfl (HR.o.set _ _ _)) rfl ⟨gS (o:=none) (by rw [HP.o];rfl),Xb HB.o (by omega) _⟩
     . go_wp2_with (first | (go_at_call 165;refine(mA _ _).mono ?_;unfold aK;rintro r w2 ⟨rfl,rfl⟩) | (refine wpList_store_row rfl _ _ _ rfl (w.heap.size+1+1) _ rfl rfl _ _ (HR.o) bO rfl (by simp [Value.oneCell']) ?_) | (refine wpList_store_row rfl _ _ _ rfl (w.heap.size+1+1) _ rfl rfl _ _ (HR.o.alloc _) bO rfl (by simp [Value.oneCell']) ?_))
       exact Zt (aL (p:=6) (u:=7) rfl _ _ (w.heap.size+1+1) 2 0 0 rfl ((HR.o.alloc _).set _ _ _)) rfl ⟨gS (o:=some 2) (by rw [HP.o];rfl),Xb (HB.o.alloc HB.o.size _) (by omega) _⟩
  . have hS:=wA k e l k' e' l';generalize (aV 1 k e l && aV 1 k' e' l')=I;generalize (aV 2 k e l && aV 2 k' e' l')=B;have c0:=HX.cells.1;have c1:=HX.cells.2.1;have c2:=HX.cells.2.2;have d0:=HY.cells.1;have d1:=HY.cells.2.1;have d2:=HY.cells.2.2;clear HX HY;rcases hS with⟨rfl,rfl,rfl,rfl,hs⟩ | hS
    . have HS:=Hd hs;clear hs;rcases Ah with rfl | rfl
      all_goals
       go_wp2_with (first | (go_at_call 165;refine(mA _ _).mono ?_;unfold aK;rintro r w2 ⟨rfl,rfl⟩) | (refine wpList_store_row rfl _ _ _ rfl (w.heap.size+1+1) _ rfl rfl _ _ (HR.o) bO rfl (by simp [Value.oneCell']) ?_) | (refine wpList_store_row rfl _ _ _ rfl (w.heap.size+1+1) _ rfl rfl _ _ (HR.o.alloc _) bO rfl (by simp [Value.oneCell']) ?_))
       exact Zt (aL (p:=6) (u:=7) rfl _ _ (w.heap.size+1+1) 2 0 0 rfl ((HR.o.alloc _).set _ _ _)) rfl ⟨gS (o:=some 2) (by rw [HS.o];rfl),Xb (HB.o.alloc HB.o.size _) (by omega) _⟩
    . rcases hS with⟨hk,hs⟩|⟨rfl,hk,hs⟩|⟨rfl,rfl,hk,hs⟩|⟨rfl,rfl,rfl,hk,hs⟩
      all_goals
       have HS:=Hd hs;clear hs;rcases Ah with rfl | rfl
       all_goals
        go_wp2_with (first | (go_at_call 165;refine(mA _ _).mono ?_;unfold aK;rintro r w2 ⟨rfl,rfl⟩) | (refine wpList_store_row rfl _ _ _ rfl (w.heap.size+1+1) _ rfl rfl _ _ (HR.o) bO rfl (by simp [Value.oneCell']) ?_) | (refine wpList_store_row rfl _ _ _ rfl (w.heap.size+1+1) _ rfl rfl _ _ (HR.o.alloc _) bO rfl (by simp [Value.oneCell']) ?_))
        exact Zt (aL (p:=6) (u:=7) rfl _ _ (w.heap.size+1+1) 0 0 0 rfl (HR.o.set _ _ _)) rfl ⟨gS (o:=none) (by rw [HS.o];rfl),Xb HB.o (by omega) _⟩
  . clear HX HY;generalize hI:(aV 1 k e l && aV 1 k' e' l')=I;generalize hB:(aV 2 k e l && aV 2 k' e' l')=B;have HI:=Hd hI;have HP:=Hd hB;clear hI hB;obtain rfl | rfl | rfl | rfl:op=13\/op=14\/op=15\/op=16:=by omega
    all_goals
     clear Ah
     cases I
     . go_wp2_with (first | (go_at_call 165;refine(mA _ _).mono ?_;unfold aK;rintro r w2 ⟨rfl,rfl⟩) | (refine wpList_store_row rfl _ _ _ rfl (w.heap.size+1+1) _ rfl rfl _ _ (HR.o) bO rfl (by simp [Value.oneCell']) ?_) | (refine wpList_store_row rfl _ _ _ rfl (w.heap.size+1+1) _ rfl rfl _ _ (HR.o.alloc _) bO rfl (by simp [Value.oneCell']) ?_))
       exact Zt (aL (p:=6) (u:=7) rfl _ _ (w.heap.size+1+1) 0 0 0 rfl (HR.o.set _ _ _)) rfl ⟨gS (o:=none) (by rw [HI.o];rfl),Xb HB.o (by omega) _⟩
     . go_wp2_with (first | (go_at_call 165;refine(mA _ _).mono ?_;unfold aK;rintro r w2 ⟨rfl,rfl⟩) | (refine wpList_store_row rfl _ _ _ rfl (w.heap.size+1+1) _ rfl rfl _ _ (HR.o) bO rfl (by simp [Value.oneCell']) ?_) | (refine wpList_store_row rfl _ _ _ rfl (w.heap.size+1+1) _ rfl rfl _ _ (HR.o.alloc _) bO rfl (by simp [Value.oneCell']) ?_))
       exact Zt (aL (p:=6) (u:=7) rfl _ _ (w.heap.size+1+1) 2 0 0 rfl ((HR.o.alloc _).set _ _ _)) rfl ⟨gS (o:=some 2) (by rw [HI.o];rfl),Xb (HB.o.alloc HB.o.size _) (by omega) _⟩
  . clear HX HY;generalize hI:(aV 1 k e l && aV 1 k' e' l')=I;generalize hB:(aV 2 k e l && aV 2 k' e' l')=B;have HI:=Hd hI;have HP:=Hd hB;clear hI hB;have HN:=Hd (fun I B S=>aDi (I:=I) (B:=B) (S:=S) Ah);have Ao:(op==11)=false:=by rw [Xa];omega
    have An:(op==12)=false:=by rw [Xa];omega
    rcases Ah with Ah | Ah
    all_goals
     go_wp2_with (first | (go_at_call 165;refine(mA _ _).mono ?_;unfold aK;rintro r w2 ⟨rfl,rfl⟩) | (refine wpList_store_row rfl _ _ _ rfl (w.heap.size+1+1) _ rfl rfl _ _ (HR.o) bO rfl (by simp [Value.oneCell']) ?_) | (refine wpList_store_row rfl _ _ _ rfl (w.heap.size+1+1) _ rfl rfl _ _ (HR.o.alloc _) bO rfl (by simp [Value.oneCell']) ?_))
     exact Zt (aL (p:=6) (u:=7) rfl _ _ (w.heap.size+1+1) 0 0 0 rfl (HR.o.set _ _ _)) rfl ⟨gS (o:=none) (HN.o _ _ _),Xb HB.o (by omega) _⟩
end
end Go.Proofs.YtegjgiofmpolnaaGreat
