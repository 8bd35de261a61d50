/- Which numbers are values of a cell: of both texts. Conditions: none. -/
import Derived.Test.YtdnmnfpcgbbplaaDoorVaM
import Derived.Test.YtdnmnfpcgbbplaaDoorVaS
import Derived.Test.YtdnmnfpcgbbplaaDoorEnA
namespace Go.Proofs.YtdnmnfpcgbbplaaDoor
open Go.RowKit
set_option linter.unusedVariables false

set_option maxRecDepth 100000 in
set_option maxHeartbeats 2000000 in
theorem valOne (A : Option Addr) (n c : Nat) (es : List En) (k e l z : Int) (w : World) (hE : RdE w A n es) :
    Calls Tryd.prog 8 #[.slice A n c, tyV k e l, .int .i64 z] w fun r w' => r = .returned (.bool (oneB es k e l z)) ∧ Below w.heap.size w w' := by
  have HB := Lib.hid ((Below.refl w.heap.size w).alloc (Nat.le_refl _) (.cells #[.int .i64 k, .int .i64 e, .int .i64 l] 24))
  have HEB := Lib.hid (hE.alloc (.cells #[.int .i64 k, .int .i64 e, .int .i64 l] 24))
  have hlen := hE.len
  have hmx := hE.max
  have HRT := Lib.hid fun (W : World) => tyRight A n c k e l W hmx
  rw [← hlen] at HRT
  cases hr : rightB es.length k e l with
  | false =>
    have HT := Lib.hid (one_no (z := z) hr)
    rw [hr] at HRT
    unfold tyV at HRT ⊢
    clear hE
    go_enter Tryd.func8, Tryd.ntmps8
    go_wp2_with fail
    rw [← hlen]
    refine (HRT.out _).mono ?_
    rintro r w1 ⟨rfl, hb1⟩
    have HB1 := Lib.hid (HB.out.trans (hb1.mono HB.out.size))
    clear hb1
    go_wp2_with fail
    go_ret
    exact ⟨ret_bool HT.out.symm, HB1.out⟩
  | true =>
    rw [hr] at HRT
    obtain ⟨hl, hk⟩ := right_cases hr
    have HR := Lib.hid hr
    unfold tyV at HRT ⊢
    clear hE hr
    rcases hk with rfl | rfl | ⟨rfl, m, rfl, hm⟩
    · go_enter Tryd.func8, Tryd.ntmps8
      go_wp2_with fail
      rw [← hlen]
      refine (HRT.out _).mono ?_
      rintro r w1 ⟨rfl, hb1⟩
      have q0 := (hb1.cell (p := ⟨w.heap.size, 0, none⟩) (by simp)).trans (cell3 w 24 (.int .i64 1) (.int .i64 e) (.int .i64 l)).1
      have HB1 := Lib.hid (HB.out.trans (hb1.mono HB.out.size))
      clear hb1
      go_wp2_with fail
      go_ret
      exact ⟨ret_bool (one_int HR.out).symm, HB1.out⟩
    · by_cases z0 : z = 0
      all_goals
        have HT := Lib.hid (one_bool (z := z) HR.out)
        go_enter Tryd.func8, Tryd.ntmps8
        go_wp2_with fail
        rw [← hlen]
        refine (HRT.out _).mono ?_
        rintro r w1 ⟨rfl, hb1⟩
        have q0 := (hb1.cell (p := ⟨w.heap.size, 0, none⟩) (by simp)).trans (cell3 w 24 (.int .i64 2) (.int .i64 e) (.int .i64 l)).1
        have HB1 := Lib.hid (HB.out.trans (hb1.mono HB.out.size))
        clear hb1
        go_wp2_with fail
        go_ret
        exact ⟨ret_bool (by rw [HT.out, Bool.eq_iff_iff]; simp <;> omega), HB1.out⟩
    · have hmn : m < n := by omega
      obtain ⟨b, off, rfl, hb, hc⟩ := HEB.out.at_ hmn
      obtain ⟨_, A', n', c', hs0, hR0⟩ := hc m hmn
      have hcl := hR0.len
      have hcm := hR0.max
      have HT := Lib.hid (one_enum (z := z) HR.out)
      rw [hcl] at HT
      clear hc
      by_cases z0 : 0 ≤ z
      all_goals
        go_enter Tryd.func8, Tryd.ntmps8
        go_wp2_with fail
        rw [← hlen]
        refine (HRT.out _).mono ?_
        rintro r w1 ⟨rfl, hb1⟩
        have q0 := (hb1.cell (p := ⟨w.heap.size, 0, none⟩) (by simp)).trans (cell3 w 24 (.int .i64 3) (.int .i64 (m : Int)) (.int .i64 l)).1
        have q1 := (hb1.cell (p := ⟨w.heap.size, 1, none⟩) (by simp)).trans (cell3 w 24 (.int .i64 3) (.int .i64 (m : Int)) (.int .i64 l)).2.1
        have hs1 := (hb1.cell (p := ⟨b, off + m * 2 + 1, none⟩) hb).trans hs0
        have HB1 := Lib.hid (HB.out.trans (hb1.mono HB.out.size))
        clear hb1
        go_wp2_with fail
        go_ret
        exact ⟨ret_bool (by rw [HT.out, Bool.eq_iff_iff]; simp <;> omega), HB1.out⟩

set_option maxRecDepth 100000 in
set_option maxHeartbeats 2000000 in
theorem refValOne (A : Option Addr) (n c : Nat) (es : List En) (k e l z : Int) (w : World) (hE : RdE w A n es) :
    Calls Tryd.prog 9 #[.slice A n c, tyV k e l, .int .i64 z] w fun r w' => r = .returned (.bool (oneB es k e l z)) ∧ Below w.heap.size w w' := by
  have HB := Lib.hid ((Below.refl w.heap.size w).alloc (Nat.le_refl _) (.cells #[.int .i64 k, .int .i64 e, .int .i64 l] 24))
  have HEB := Lib.hid (hE.alloc (.cells #[.int .i64 k, .int .i64 e, .int .i64 l] 24))
  have hlen := hE.len
  have hmx := hE.max
  have HRT := Lib.hid fun (W : World) => refRight A n c k e l W hmx
  rw [← hlen] at HRT
  cases hr : rightB es.length k e l with
  | false =>
    have HT := Lib.hid (one_no (z := z) hr)
    rw [hr] at HRT
    unfold tyV at HRT ⊢
    clear hE
    go_enter Tryd.func9, Tryd.ntmps9
    go_wp2_with fail
    rw [← hlen]
    refine (HRT.out _).mono ?_
    rintro r w1 ⟨rfl, hb1⟩
    have HB1 := Lib.hid (HB.out.trans (hb1.mono HB.out.size))
    clear hb1
    go_wp2_with fail
    go_ret
    exact ⟨ret_bool HT.out.symm, HB1.out⟩
  | true =>
    rw [hr] at HRT
    obtain ⟨hl, hk⟩ := right_cases hr
    have HR := Lib.hid hr
    unfold tyV at HRT ⊢
    clear hE hr
    rcases hk with rfl | rfl | ⟨rfl, m, rfl, hm⟩
    · go_enter Tryd.func9, Tryd.ntmps9
      go_wp2_with fail
      rw [← hlen]
      refine (HRT.out _).mono ?_
      rintro r w1 ⟨rfl, hb1⟩
      have q0 := (hb1.cell (p := ⟨w.heap.size, 0, none⟩) (by simp)).trans (cell3 w 24 (.int .i64 1) (.int .i64 e) (.int .i64 l)).1
      have HB1 := Lib.hid (HB.out.trans (hb1.mono HB.out.size))
      clear hb1
      go_wp2_with fail
      go_ret
      exact ⟨ret_bool (one_int HR.out).symm, HB1.out⟩
    · by_cases z0 : z = 0
      all_goals
        have HT := Lib.hid (one_bool (z := z) HR.out)
        go_enter Tryd.func9, Tryd.ntmps9
        go_wp2_with fail
        rw [← hlen]
        refine (HRT.out _).mono ?_
        rintro r w1 ⟨rfl, hb1⟩
        have q0 := (hb1.cell (p := ⟨w.heap.size, 0, none⟩) (by simp)).trans (cell3 w 24 (.int .i64 2) (.int .i64 e) (.int .i64 l)).1
        have HB1 := Lib.hid (HB.out.trans (hb1.mono HB.out.size))
        clear hb1
        go_wp2_with fail
        go_ret
        exact ⟨ret_bool (by rw [HT.out, Bool.eq_iff_iff]; simp <;> omega), HB1.out⟩
    · have hmn : m < n := by omega
      obtain ⟨b, off, rfl, hb, hc⟩ := HEB.out.at_ hmn
      obtain ⟨_, A', n', c', hs0, hR0⟩ := hc m hmn
      have hcl := hR0.len
      have hcm := hR0.max
      have HT := Lib.hid (one_enum (z := z) HR.out)
      rw [hcl] at HT
      clear hc
      by_cases z0 : 0 ≤ z
      all_goals
        go_enter Tryd.func9, Tryd.ntmps9
        go_wp2_with fail
        rw [← hlen]
        refine (HRT.out _).mono ?_
        rintro r w1 ⟨rfl, hb1⟩
        have q0 := (hb1.cell (p := ⟨w.heap.size, 0, none⟩) (by simp)).trans (cell3 w 24 (.int .i64 3) (.int .i64 (m : Int)) (.int .i64 l)).1
        have q1 := (hb1.cell (p := ⟨w.heap.size, 1, none⟩) (by simp)).trans (cell3 w 24 (.int .i64 3) (.int .i64 (m : Int)) (.int .i64 l)).2.1
        have hs1 := (hb1.cell (p := ⟨b, off + m * 2 + 1, none⟩) hb).trans hs0
        have HB1 := Lib.hid (HB.out.trans (hb1.mono HB.out.size))
        clear hb1
        go_wp2_with fail
        go_ret
        exact ⟨ret_bool (by rw [HT.out, Bool.eq_iff_iff]; simp <;> omega), HB1.out⟩
end Go.Proofs.YtdnmnfpcgbbplaaDoor
