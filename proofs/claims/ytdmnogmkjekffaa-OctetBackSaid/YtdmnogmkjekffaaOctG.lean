/- The walks of OctetInts and OctetBack: whatever the arguments, each returns true and writes nothing that was there. Conditions: none. -/
import Derived.Test.YtdmnogmkjekffaaOctF
namespace Go.Proofs.Ytdmnogmkjekffaa
open Go.RowKit
set_option linter.unusedVariables false

theorem u64_of (n : Int) {s : Nat} (h1 : 1 ≤ s) (h8 : s ≤ 8) (hn : I64 n) (hf : Fits n s) : sgn (u64 n) s = n := (sgn_fits h1 h8 hn).2 hf

theorem back_of_int {n : Int} (hn : I64 n) : backN (putL (u64 n) (wid n)) = n ∧ backB (putL (u64 n) (wid n)) = true := by
  have hw := wid_bd n
  have e : sgn (getL (putL (u64 n) (wid n))) (wid n) = n := by rw [getL_put hw.2, sgn_mod, u64_of n hw.1 hw.2 hn (wid_fits hn)]
  have h := back_yes (putL_length (u64 n) (wid n)) hw.1 hw.2 (by rw [e])
  rw [e] at h
  exact h

theorem get_of_put (n : Int) : getL (putL (u64 n) 8) = u64 n := by
  rw [getL_put (by omega)]
  have := u64_bd n
  unfold U64 at this
  omega

theorem back_i64 (l : List Int) : I64 (backN l) := by
  unfold backN
  split
  · rename_i h
    exact fits_i64 (fits_sgn _ h.1 h.2.1) h.1 h.2.1
  · unfold I64; omega

theorem int_of_back {l : List Int} (hb : ∀ z ∈ l, 0 ≤ z ∧ z ≤ 255) (h : backB l = true) : putL (u64 (backN l)) (wid (backN l)) = l := by
  have hh := of_decide_eq_true h
  obtain ⟨a, h0, ha, e⟩ := putL_ex l hb
  rw [backN, if_pos hh, hh.2.2, ← putL_mod, u64_sgn _ hh.1 hh.2.1, putL_mod]
  generalize l.length = s at *
  subst e
  rw [getL_a hh.2.1 h0 ha]

set_option maxHeartbeats 800000 in
theorem walkInts (a0 : Int) (A : Option Addr) (n c : Nat) (l : List Int) (w : World) (H : Hid (I64 a0)) (h : Rd .u8 w A n c l) :
    Calls Try.prog 4 #[.int .i64 a0, .slice A n c] w fun e w' => e = .returned (.bool true) ∧ Below w.heap.size w w' := by
  go_enter Try.func4, Try.ntmps4
  go_wp2_with fail
  refine (octBack _ _ _ _ _ h).mono ?_
  rintro e w1 ⟨rfl, rfl⟩
  go_wp2_with fail
  refine (refBack _ _ _ _ _ h).mono ?_
  rintro e w1 ⟨rfl, rfl⟩
  go_wp2_with fail
  refine (octInt _ _ H).mono ?_
  rintro e w1 ⟨A1, n1, c1, rfl, hrd1, hb1⟩
  go_wp2_with fail
  refine (refInt _ _ H).mono ?_
  rintro e w2 ⟨A2, n2, c2, rfl, hrd2, hb2⟩
  go_wp2_with fail
  refine (refSame _ _ _ _ _ _ _ _ _ (hrd1.below hb2) hrd2).mono ?_
  rintro e w3 ⟨rfl, m1, rfl⟩
  have hB2 := Lib.hid (below_drewN (size_le hb1 hb2) m1)
  rw [decide_eq_true rfl]
  clear hrd1 hrd2 hb1 hb2 h
  have hx : (backN l == backN l) = true := by simp
  have hy : ∀ b : Bool, (b == b) = true := by decide
  go_wp2_with fail
  refine (live_any _).mono ?_
  rintro e w6 ⟨rfl, hb6⟩
  have hB6 := Lib.hid (size_le hB2.out hb6)
  clear hb6
  go_wp2_with fail
  go_ret
  exact ⟨rfl, hB6.out⟩

set_option maxHeartbeats 800000 in
theorem walkBack (a0 : Int) (A : Option Addr) (n c : Nat) (l : List Int) (w : World) (H : Hid (I64 a0)) (h : Rd .u8 w A n c l) :
    Calls Try.prog 5 #[.int .i64 a0, .slice A n c] w fun e w' => e = .returned (.bool true) ∧ Below w.heap.size w w' := by
  have HN := Lib.hid (back_of_int H.out)
  have HG := Lib.hid (get_of_put a0)
  go_enter Try.func5, Try.ntmps5
  go_wp2_with fail
  refine (octInt _ _ H).mono ?_
  rintro e w1 ⟨A1, n1, c1, rfl, hrd1, hb1⟩
  go_wp2_with fail
  refine (octBack _ _ _ _ _ hrd1).mono ?_
  rintro e w2 ⟨rfl, rfl⟩
  rw [HN.out.1, HN.out.2]
  have hx : (a0 != a0) = false := by simp
  have h1 := h.below hb1
  have hB1 := Lib.hid hb1
  clear hrd1 hb1 h
  go_wp2_with fail
  rw [u64_wrap]
  refine (octPut _ 8 _ (by omega) (by omega) (u64_bd a0).1).mono ?_
  rintro e w2 ⟨A2, n2, c2, rfl, hrd2, hb2⟩
  go_wp2_with fail
  refine (octGet _ _ _ _ _ hrd2).mono ?_
  rintro e w3 ⟨rfl, rfl⟩
  rw [HG.out, ← u64_wrap]
  have h2 := h1.below hb2
  have hB2 := Lib.hid (size_le hB1.out hb2)
  have hy : (IntKind.u64.wrap a0 != IntKind.u64.wrap a0) = false := by simp
  clear hrd2 hb2 h1
  go_wp2_with fail
  refine (octBack _ _ _ _ _ h2).mono ?_
  rintro e w3 ⟨rfl, rfl⟩
  clear hx hy
  cases hb : backB l with
  | false =>
    clear hb
    go_wp2_with fail
    refine (live_any _).mono ?_
    rintro e w6 ⟨rfl, hb6⟩
    have hB6 := Lib.hid (size_le hB2.out hb6)
    clear hb6
    go_wp2_with fail
    go_ret
    exact ⟨rfl, hB6.out⟩
  | true =>
    have HI := Lib.hid (int_of_back (rd_bytes h2) hb)
    clear hb
    go_wp2_with fail
    refine (octInt _ _ (Lib.hid (back_i64 l))).mono ?_
    rintro e w3 ⟨A3, n3, c3, rfl, hrd3, hb3⟩
    go_wp2_with fail
    refine (refSame _ _ _ _ _ _ _ _ _ hrd3 (h2.below hb3)).mono ?_
    rintro e w4 ⟨rfl, m, rfl⟩
    rw [HI.out, decide_eq_true rfl]
    have hB3 := Lib.hid (below_drewN (size_le hB2.out hb3) m)
    clear hrd3 hb3 h2
    go_wp2_with fail
    refine (live_any _).mono ?_
    rintro e w6 ⟨rfl, hb6⟩
    have hB6 := Lib.hid (size_le hB3.out hb6)
    clear hb6
    go_wp2_with fail
    go_ret
    exact ⟨rfl, hB6.out⟩
end Go.Proofs.Ytdmnogmkjekffaa
