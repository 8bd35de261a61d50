/- The page's example holds; the walks of CrcOpens and CrcTells. Conditions: none. -/
import Derived.Test.YtoaaailgfdcflaaCrcG
namespace Go.Proofs.Ytoaaailgfdcflaa
open Go.RowKit
set_option linter.unusedVariables false

theorem live_sum : crcN [49, 50, 51, 52, 53, 54, 55, 56, 57] = 3421780262 := by decide +kernel

set_option maxHeartbeats 400000 in
theorem live_any (w : World) : Calls Try.prog 6 #[] w fun e w' => e = .returned (.bool true) ∧ Below w.heap.size w w' := by
  have L := Lib.hid live_sum
  have HR := Lib.hid (Rd.lit .u8 w 5 [49, 50, 51, 52, 53, 54, 55, 56, 57] 9 rfl (by omega) (by intro z hz; simp at hz; rcases hz with rfl | rfl | rfl | rfl | rfl | rfl | rfl | rfl | rfl <;> rfl) #[.int .u8 49, .int .u8 50, .int .u8 51, .int .u8 52, .int .u8 53, .int .u8 54, .int .u8 55, .int .u8 56, .int .u8 57] rfl)
  have HB := Lib.hid ((Below.refl w.heap.size w).alloc (Nat.le_refl _) (.cells #[.int .u8 49, .int .u8 50, .int .u8 51, .int .u8 52, .int .u8 53, .int .u8 54, .int .u8 55, .int .u8 56, .int .u8 57] 5))
  go_enter Try.func6, Try.ntmps6
  go_wp2_with fail
  refine (crcOf _ 9 9 [49, 50, 51, 52, 53, 54, 55, 56, 57] _ HR.out).mono ?_
  rintro e w1 ⟨rfl, hb⟩
  have HB1 := Lib.hid (HB.out.trans (hb.mono (by simp)))
  clear hb
  rw [L.out]
  go_wp2_with fail
  go_ret
  exact ⟨rfl, HB1.out⟩

theorem size_le {w0 w w' : World} (h : Below w0.heap.size w0 w) (h' : Below w.heap.size w w') : Below w0.heap.size w0 w' := h.trans (h'.mono h.size)

set_option maxHeartbeats 800000 in
theorem walkOpens (A : Option Addr) (n c : Nat) (l : List Int) (w : World) (h : Rd .u8 w A n c l) :
    Calls Try.prog 4 #[.slice A n c] w fun e w' => e = .returned (.bool true) ∧ Below w.heap.size w w' := by
  by_cases hn : 1000 < n
  · clear h
    go_enter Try.func4, Try.ntmps4
    go_wp2_with fail
    refine (live_any _).mono ?_
    rintro e w' ⟨rfl, hb⟩
    go_wp2_with fail
    go_ret
    exact ⟨rfl, hb⟩
  · have hn' : ¬ (1000 : Int) < n := by omega
    have HN := Lib.hid hn
    have HR := Lib.hid h
    clear hn h
    go_enter Try.func4, Try.ntmps4
    go_wp2_with fail
    refine (crcOpen A n c l _ HR.out (by have := HN.out; omega)).mono ?_
    rintro e w1 ⟨A1, n1, c1, rfl, hrd1, hb1⟩
    have H1 := Lib.hid hrd1
    have HB1 := Lib.hid hb1
    have HR1 := Lib.hid (HR.out.below hb1)
    clear hrd1 hb1
    go_wp2_with fail
    refine (refOpen A n c l _ HR1.out (by have := HN.out; omega)).mono ?_
    rintro e w2 ⟨A2, n2, c2, rfl, hrd2, hb2⟩
    have H1 := Lib.hid (H1.out.below hb2)
    have H2 := Lib.hid hrd2
    have HR2 := Lib.hid (HR1.out.below hb2)
    have HB2 := Lib.hid (size_le HB1.out hb2)
    clear hrd2 hb2
    go_wp2_with fail
    refine (crcSeal A n c l _ HR2.out (by have := HN.out; omega)).mono ?_
    rintro e w3 ⟨A3, n3, c3, rfl, hrd3, hb3⟩
    have H1 := Lib.hid (H1.out.below hb3)
    have H2 := Lib.hid (H2.out.below hb3)
    have H3 := Lib.hid hrd3
    have HR3 := Lib.hid (HR2.out.below hb3)
    have HB3 := Lib.hid (size_le HB2.out hb3)
    clear hrd3 hb3
    go_wp2_with fail
    refine (refSeal A n c l _ HR3.out (by have := HN.out; omega)).mono ?_
    rintro e w4 ⟨A4, n4, c4, rfl, hrd4, hb4⟩
    have H1 := Lib.hid (H1.out.below hb4)
    have H2 := Lib.hid (H2.out.below hb4)
    have H3 := Lib.hid (H3.out.below hb4)
    have H4 := Lib.hid hrd4
    have HB4 := Lib.hid (size_le HB3.out hb4)
    clear hrd4 hb4
    go_wp2_with fail
    refine (refSame _ _ _ _ _ _ _ _ _ H3.out H4.out).mono ?_
    rintro e w5 ⟨rfl, k, rfl⟩
    rw [decide_eq_true rfl]
    go_wp2_with fail
    refine (refSame _ _ _ _ _ _ _ _ _ (H1.out.drewN k) (H2.out.drewN k)).mono ?_
    rintro e w5 ⟨rfl, k2, rfl⟩
    rw [decide_eq_true rfl]
    have hx : (openB l == openB l) = true := by simp
    go_wp2_with fail
    refine (live_any _).mono ?_
    rintro e w6 ⟨rfl, hb6⟩
    have HB6 := Lib.hid (size_le (below_drewN HB4.out (k + k2)) hb6)
    clear hb6
    go_wp2_with fail
    go_ret
    exact ⟨rfl, HB6.out⟩
end Go.Proofs.Ytoaaailgfdcflaa
