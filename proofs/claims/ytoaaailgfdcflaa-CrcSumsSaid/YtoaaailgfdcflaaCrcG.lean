/- Open by the reference. Conditions: the bytes are fewer than memory holds. -/
import Derived.Test.YtoaaailgfdcflaaCrcF
namespace Go.Proofs.Ytoaaailgfdcflaa
open Go.RowKit
set_option linter.unusedVariables false

set_option maxHeartbeats 400000 in
theorem refOpen_short (A : Option Addr) (n c : Nat) (l : List Int) (w : World) (h : Rd .u8 w A n c l) (hn : n < 4) :
    Calls Try.prog 13 #[.slice A n c] w fun e w' => Opens w l e w' := by
  have HE := Lib.hid (open_short (l := l) (by rw [h.len]; exact hn))
  have hn' : (n : Int) < 4 := by omega
  clear h
  go_enter Try.func13, Try.ntmps13
  go_wp2_with fail
  go_ret2
  exact ⟨none, 0, 0, by rw [HE.out.1]; rfl, by rw [HE.out.2]; exact Rd.nil_ _ _, Below.refl _ _⟩

set_option maxHeartbeats 1600000 in
theorem refOpen_long (b off m c : Nat) (l : List Int) (w : World) (h : Rd .u8 w (some ⟨b, off, none⟩) (m + 4) c l) (hm : m ≤ 140737488355324) :
    Calls Try.prog 13 #[.slice (some ⟨b, off, none⟩) (m + 4 : Nat) c] w fun e w' => Opens w l e w' := by
  have hle := h.le
  have hc := h.2.2.1
  unfold maxLen at hc
  have hn4 : ¬ ((m + 4 : Nat) : Int) < 4 := by omega
  have hsub : IntKind.i64.wrap (((m + 4 : Nat) : Int) - 4) = (m : Int) := by rw [IntKind.wrap_i64]; omega
  have HR := Lib.hid h
  have HL := Lib.hid (crcN_lt (l.take m))
  have H1 : ∀ n, Rd .u8 (w.drewN n) (some ⟨b, off, none⟩) m c (l.take m) := fun n => h.take (by omega)
  have H2 : ∀ n, Rd .u8 (w.drewN n) (some ⟨b, off + m, none⟩) 4 (c - m) (l.drop m) := fun n => by
    have := (h.drewN n).drop (m := m) (by omega)
    rw [show m + 4 - m = 4 from by omega] at this
    exact this
  have H1 := Lib.hid H1
  have H2 := Lib.hid H2
  have HO := Lib.hid (open_long (l := l) (m := m) h.len)
  clear h
  go_enter Try.func13, Try.ntmps13
  go_wp2_with fail
  have hcm : ¬ c = m := by omega
  have hcm' : ¬ ((c : Int) = (m : Int)) := by omega
  have hcn : ¬ (m + 4 < m) := by omega
  have hcl : (m : Int) ≤ (m : Int) + 4 := by omega
  have hcp : m ≤ c := by omega
  have hcq : (m : Int) ≤ (c : Int) := by omega
  have hw1 : IntKind.i64.wrap (m : Int) = (m : Int) := by rw [IntKind.wrap_i64]; omega
  have hw2 : IntKind.i64.wrap ((m : Int) + 4 - 4) = (m : Int) := by rw [IntKind.wrap_i64]; omega
  have hw3 : (m : Int).toNat = m := by omega
  have hw4 : (0 : Int) ≤ (m : Int) := by omega
  go_region_held3 (fun _ => True) (exact trivial)
    ((first
      | (go_at_call 10; refine (refOf _ m c (l.take m) _ (H1.out 1)).mono ?_; rintro e w1 ⟨rfl, rfl⟩)
      | (go_at_call 21; refine (refTail (crcN (l.take m)) _ HL.out).mono ?_; rintro e w1 ⟨A1, n1, c1, rfl, hrd1, hb1⟩)
      | (go_at_call 14; refine (refSame _ _ _ _ _ _ _ _ _ hrd1 ((H2.out 1).below hb1)).mono ?_; rintro e w3 ⟨rfl, k, rfl⟩)))
  clear hcm hcm' hcn hcl hcp hcq hw1 hw2 hw3 hw4 hsub hn4
  have HB1 := Lib.hid hb1
  clear hb1 hrd1
  rw [← HO.out.1]
  cases hb : openB l with
  | false =>
    have HE := Lib.hid hb
    clear hb
    go_wp2_with fail
    go_ret2
    exact ⟨none, 0, 0, by rw [HE.out]; rfl, by rw [openL, HE.out]; exact Rd.nil_ _ _, below_drewN ((below_drewN (Below.refl w.heap.size w) 1).trans HB1.out) k⟩
  | true =>
    have HE := Lib.hid hb
    clear hb
    go_wp2_with fail
    go_ret2
    exact ⟨_, _, _, by rw [HE.out]; rfl, by rw [HO.out.2 HE.out]; exact ((H1.out 1).below HB1.out).drewN k, below_drewN ((below_drewN (Below.refl w.heap.size w) 1).trans HB1.out) k⟩

theorem refOpen (A : Option Addr) (n c : Nat) (l : List Int) (w : World) (h : Rd .u8 w A n c l) (hn : n ≤ 140737488355328) :
    Calls Try.prog 13 #[.slice A n c] w fun e w' => Opens w l e w' := by
  rcases Nat.lt_or_ge n 4 with h4 | h4
  · exact refOpen_short A n c l w h h4
  · obtain ⟨m, rfl⟩ : ∃ m, n = m + 4 := ⟨n - 4, by omega⟩
    obtain ⟨b, off, rfl, _⟩ := h.at_ (i := 0) (by omega)
    exact refOpen_long b off m c l w h (by omega)
theorem crcOpen (A : Option Addr) (n c : Nat) (l : List Int) (w : World) (h : Rd .u8 w A n c l) (hn : n ≤ 140737488355328) :
    Calls Try.prog 12 #[.slice A n c] w fun e w' => Opens w l e w' := by
  rcases Nat.lt_or_ge n 4 with h4 | h4
  · exact crcOpen_short A n c l w h h4
  · obtain ⟨m, rfl⟩ : ∃ m, n = m + 4 := ⟨n - 4, by omega⟩
    obtain ⟨b, off, rfl, _⟩ := h.at_ (i := 0) (by omega)
    exact crcOpen_long b off m c l w h (by omega)
end Go.Proofs.Ytoaaailgfdcflaa
