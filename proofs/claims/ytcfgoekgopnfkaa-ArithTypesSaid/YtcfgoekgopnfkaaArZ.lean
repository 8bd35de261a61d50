/- The walk of the law on types. Conditions: none. -/
import Derived.Test.YtcfgoekgopnfkaaArU
import Derived.Test.YtcfgoekgopnfkaaArW
import Derived.Test.YtcfgoekgopnfkaaArX
import Derived.Test.YtcfgoekgopnfkaaArY
namespace Go.Proofs.Ytcfgoekgopnfkaa
open Go.RowKit Go.Sort
set_option linter.unusedVariables false

theorem arBinTy (op k e l k' e' l' : Int) (w : World) :
    Calls Try.prog 14 #[.int .i64 op, tyV k e l, tyV k' e' l'] w fun r w' =>
      r = .returned (.tuple #[tyR (binTyI op (isP 1 k e l && isP 1 k' e' l') (isP 2 k e l && isP 2 k' e' l') (sameB k e l k' e' l')), .bool (binTyI op (isP 1 k e l && isP 1 k' e' l') (isP 2 k e l && isP 2 k' e' l') (sameB k e l k' e' l')).isSome]) ∧ Below w.heap.size w w' := by
  cases hS : sameB k e l k' e' l' with
  | false =>
    have := arBinTy_diff op k e l k' e' l' hS w
    rwa [hS] at this
  | true =>
    rcases same_cases k e l k' e' l' with ⟨rfl, rfl, rfl, rfl, _⟩ | ⟨_, h⟩ | ⟨_, _, h⟩ | ⟨_, _, _, h⟩ | ⟨_, _, _, _, h⟩
    · have := arBinTy_all op k e w
      simpa using this
    all_goals (rw [hS] at h; cases h)

theorem tyR_three (o : Option Int) : ∃ k e l, tyR o = tyV k e l := by
  cases o with
  | none => exact ⟨0, 0, 0, rfl⟩
  | some k => exact ⟨k, 0, 0, rfl⟩

set_option maxRecDepth 100000 in
set_option maxHeartbeats 8000000 in
theorem walkTypes (op k e l k' e' l' : Int) (w : World) :
    Calls Try.prog 4 #[.int .i64 op, tyV k e l, tyV k' e' l'] w fun r w' => r = .returned (.bool true) ∧ Below w.heap.size w w' := by
  have H1 := Lib.hid fun W => arUnTy op k e l W
  have H2 := Lib.hid fun W => refUnTy op k e l W
  have H3 := Lib.hid fun W => arBinTy op k e l k' e' l' W
  have H4 := Lib.hid fun W => refBinTy op k e l k' e' l' W
  have H5 := Lib.hid fun W => arSign op W
  have H6 := Lib.hid fun W => refSign op W
  generalize binTyI op (isP 1 k e l && isP 1 k' e' l') (isP 2 k e l && isP 2 k' e' l') (sameB k e l k' e' l') = R at *
  generalize unTyI op k e l = T at *
  generalize signS op = s at *
  obtain ⟨k1, e1, l1, h1⟩ := tyR_three T
  obtain ⟨k2, e2, l2, h2⟩ := tyR_three R
  rw [h1] at H1 H2
  rw [h2] at H3 H4
  generalize T.isSome = b1 at *
  generalize R.isSome = b2 at *
  clear h1 h2
  unfold tyV at *
  have HA := Lib.hid ((Row3.new w k e l).alloc (tyO k' e' l'))
  have HD : Hid (Row3 ((w.alloc (tyO k e l)).alloc (tyO k' e' l')) (w.heap.size + 1) k' e' l') := Lib.hid (heap_alloc2_new _ _ _)
  have HB0 : Hid (Below w.heap.size w ((w.alloc (tyO k e l)).alloc (tyO k' e' l'))) := Lib.hid (by (repeat' (first | exact Below.refl _ _ | refine Below.drew ?_ | refine Below.alloc ?_ (by simp <;> omega) _)))
  go_enter Try.func4, Try.ntmps4
  go_upto_region 1 with (fail)
  generalize ((w.alloc (.cells #[.int .i64 k, .int .i64 e, .int .i64 l] 33)).alloc (.cells #[.int .i64 k', .int .i64 e', .int .i64 l'] 33)) = w1 at *
  have ha10 := HA.out.cells.1
  have ha11 := HA.out.cells.2.1
  have ha12 := HA.out.cells.2.2
  go_wp2_with fail
  refine (H1.out _).mono ?_
  rintro r v1 ⟨rfl, hb⟩
  clear ha10 ha11 ha12
  have HAn := Lib.hid ((HA.out.below hb).alloc (tyO k1 e1 l1))
  have HDn := Lib.hid ((HD.out.below hb).alloc (tyO k1 e1 l1))
  have R7 := Lib.hid (Row3.new v1 k1 e1 l1)
  have HBn := Lib.hid ((HB0.out.trans (hb.mono HB0.out.size)).alloc (Nat.le_trans HB0.out.size hb.size) (tyO k1 e1 l1))
  clear hb HB0 HA HD
  go_upto_region 2 with (fail)
  generalize hw : v1.alloc (.cells #[.int .i64 k1, .int .i64 e1, .int .i64 l1] 33) = w2 at *
  clear hw
  generalize v1.heap.size = g7 at *
  have HA := HAn
  have HD := HDn
  have HB0 := HBn
  clear HBn HAn HDn
  have ha20 := HA.out.cells.1
  have ha21 := HA.out.cells.2.1
  have ha22 := HA.out.cells.2.2
  go_wp2_with fail
  refine (H2.out _).mono ?_
  rintro r v2 ⟨rfl, hb⟩
  clear ha20 ha21 ha22
  have HAn := Lib.hid ((HA.out.below hb).alloc (tyO k1 e1 l1))
  have HDn := Lib.hid ((HD.out.below hb).alloc (tyO k1 e1 l1))
  have R7n := Lib.hid ((R7.out.below hb).alloc (tyO k1 e1 l1))
  have R9 := Lib.hid (Row3.new v2 k1 e1 l1)
  have HBn := Lib.hid ((HB0.out.trans (hb.mono HB0.out.size)).alloc (Nat.le_trans HB0.out.size hb.size) (tyO k1 e1 l1))
  clear hb HB0 HA HD R7
  go_upto_region 3 with (fail)
  generalize hw : v2.alloc (.cells #[.int .i64 k1, .int .i64 e1, .int .i64 l1] 33) = w3 at *
  clear hw
  generalize v2.heap.size = g9 at *
  have HA := HAn
  have HD := HDn
  have R7 := R7n
  have HB0 := HBn
  clear HBn HAn HDn R7n
  have ha30 := HA.out.cells.1
  have ha31 := HA.out.cells.2.1
  have ha32 := HA.out.cells.2.2
  have hd30 := HD.out.cells.1
  have hd31 := HD.out.cells.2.1
  have hd32 := HD.out.cells.2.2
  go_wp2_with fail
  refine (H3.out _).mono ?_
  rintro r v3 ⟨rfl, hb⟩
  clear ha30 ha31 ha32 hd30 hd31 hd32
  have HAn := Lib.hid ((HA.out.below hb).alloc (tyO k2 e2 l2))
  have HDn := Lib.hid ((HD.out.below hb).alloc (tyO k2 e2 l2))
  have R7n := Lib.hid ((R7.out.below hb).alloc (tyO k2 e2 l2))
  have R9n := Lib.hid ((R9.out.below hb).alloc (tyO k2 e2 l2))
  have R11 := Lib.hid (Row3.new v3 k2 e2 l2)
  have HBn := Lib.hid ((HB0.out.trans (hb.mono HB0.out.size)).alloc (Nat.le_trans HB0.out.size hb.size) (tyO k2 e2 l2))
  clear hb HB0 HA HD R7 R9
  go_upto_region 4 with (fail)
  generalize hw : v3.alloc (.cells #[.int .i64 k2, .int .i64 e2, .int .i64 l2] 33) = w4 at *
  clear hw
  generalize v3.heap.size = g11 at *
  have HA := HAn
  have HD := HDn
  have R7 := R7n
  have R9 := R9n
  have HB0 := HBn
  clear HBn HAn HDn R7n R9n
  have ha40 := HA.out.cells.1
  have ha41 := HA.out.cells.2.1
  have ha42 := HA.out.cells.2.2
  have hd40 := HD.out.cells.1
  have hd41 := HD.out.cells.2.1
  have hd42 := HD.out.cells.2.2
  go_wp2_with fail
  refine (H4.out _).mono ?_
  rintro r v4 ⟨rfl, hb⟩
  clear ha40 ha41 ha42 hd40 hd41 hd42
  have HAn := Lib.hid ((HA.out.below hb).alloc (tyO k2 e2 l2))
  have HDn := Lib.hid ((HD.out.below hb).alloc (tyO k2 e2 l2))
  have R7n := Lib.hid ((R7.out.below hb).alloc (tyO k2 e2 l2))
  have R9n := Lib.hid ((R9.out.below hb).alloc (tyO k2 e2 l2))
  have R11n := Lib.hid ((R11.out.below hb).alloc (tyO k2 e2 l2))
  have R13 := Lib.hid (Row3.new v4 k2 e2 l2)
  have HBn := Lib.hid ((HB0.out.trans (hb.mono HB0.out.size)).alloc (Nat.le_trans HB0.out.size hb.size) (tyO k2 e2 l2))
  clear hb HB0 HA HD R7 R9 R11
  go_upto_region 5 with (fail)
  generalize hw : v4.alloc (.cells #[.int .i64 k2, .int .i64 e2, .int .i64 l2] 33) = w5 at *
  clear hw
  generalize v4.heap.size = g13 at *
  have HA := HAn
  have HD := HDn
  have R7 := R7n
  have R9 := R9n
  have R11 := R11n
  have HB0 := HBn
  clear HBn HAn HDn R7n R9n R11n
  have r70 := R7.out.cells.1
  have r71 := R7.out.cells.2.1
  have r72 := R7.out.cells.2.2
  have r90 := R9.out.cells.1
  have r91 := R9.out.cells.2.1
  have r92 := R9.out.cells.2.2
  have r110 := R11.out.cells.1
  have r111 := R11.out.cells.2.1
  have r112 := R11.out.cells.2.2
  have r130 := R13.out.cells.1
  have r131 := R13.out.cells.2.1
  have r132 := R13.out.cells.2.2
  go_wp2_with fail
  refine (H5.out _).mono ?_
  rintro r x1 ⟨rfl, rfl⟩
  go_wp2_with fail
  refine (H6.out _).mono ?_
  rintro r x2 ⟨rfl, hb⟩
  have HBz := Lib.hid (HB0.out.trans (hb.mono HB0.out.size))
  clear hb
  go_wp2_with fail
  refine (lawLive _).mono ?_
  rintro r x3 ⟨rfl, rfl⟩
  go_wp2_with fail
  go_ret
  exact ⟨rfl, HBz.out⟩
end Go.Proofs.Ytcfgoekgopnfkaa
