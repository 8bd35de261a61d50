/- What take and Num do, of the reference's Reader. Conditions: none. -/
import Derived.Test.YtjihgpjpmfeakaaRdB
namespace Go.Proofs.Ytjihgpjpmfeakaa
open Go.RowKit
set_option linter.unusedVariables false

set_option maxHeartbeats 800000 in
theorem refTake_no (b : Nat) (A : Option Addr) (n c : Nat) (l : List Int) (k : Int) (w : World) (h : RefAt w b A n c l none) :
    Calls Try.prog 38 #[.pointer (some ⟨b, 0, none⟩), .int .i64 k] w fun e w' => TellsR w b A n c l (none, []) e w' := by
  have h1 : w.cell? ⟨b, 1, none⟩ = some (.int .i64 0) := h.c1
  have h2 : w.cell? ⟨b, 2, none⟩ = some (.bool true) := h.c2
  have f1 := h.fz 1
  have f2 := h.fz 2
  have H := Lib.hid (fun m => (h.drewN m).fails)
  clear h
  go_enter Try.func38, Try.ntmps38
  go_wp2_with fail
  go_quiet (fail)
  go_wp2_with fail
  go_ret
  exact ⟨none, 0, 0, rfl, Rd.nil_ _ _, H.out nq, grown_set (grown_set (grown_drewN (World.grownBy.refl _ _) nq) _ _) _ _⟩

set_option maxHeartbeats 800000 in
theorem refTake_neg (b : Nat) (A : Option Addr) (n c : Nat) (l : List Int) (p : Nat) (k : Int) (w : World) (h : RefAt w b A n c l (some p)) (hk : k < 0) :
    Calls Try.prog 38 #[.pointer (some ⟨b, 0, none⟩), .int .i64 k] w fun e w' => TellsR w b A n c l (none, []) e w' := by
  have h1 : w.cell? ⟨b, 1, none⟩ = some (.int .i64 (p : Int)) := h.c1
  have h2 : w.cell? ⟨b, 2, none⟩ = some (.bool false) := h.c2
  have f1 := h.fz 1
  have f2 := h.fz 2
  have H := Lib.hid (fun m => (h.drewN m).fails)
  clear h
  have hk0 : decide (k < 0) = true := by simpa using hk
  go_enter Try.func38, Try.ntmps38
  go_wp2_with fail
  go_quiet (fail)
  go_wp2_with fail
  go_ret
  exact ⟨none, 0, 0, rfl, Rd.nil_ _ _, H.out nq, grown_set (grown_set (grown_drewN (World.grownBy.refl _ _) nq) _ _) _ _⟩

set_option maxHeartbeats 800000 in
theorem refTake_over (b : Nat) (A : Option Addr) (n c : Nat) (l : List Int) (p k : Nat) (w : World) (h : RefAt w b A n c l (some p)) (hk : ¬ p + k ≤ n) :
    Calls Try.prog 38 #[.pointer (some ⟨b, 0, none⟩), .int .i64 k] w fun e w' => TellsR w b A n c l (none, []) e w' := by
  have h0 := h.c0
  have h1 : w.cell? ⟨b, 1, none⟩ = some (.int .i64 (p : Int)) := h.c1
  have h2 : w.cell? ⟨b, 2, none⟩ = some (.bool false) := h.c2
  have f1 := h.fz 1
  have f2 := h.fz 2
  have hle := h.le
  have hm := h.rd.max
  have H := Lib.hid (fun m => (h.drewN m).fails)
  clear h
  have hk0 : decide ((k : Int) < 0) = false := by simp
  have hs : IntKind.i64.wrap ((n : Int) - p) = (n : Int) - p := by rw [IntKind.wrap_i64]; omega
  have hgt : decide ((n : Int) - p < k) = true := by simp; omega
  go_enter Try.func38, Try.ntmps38
  go_wp2_with fail
  go_quiet (fail)
  go_wp2_with fail
  go_ret
  exact ⟨none, 0, 0, rfl, Rd.nil_ _ _, H.out nq, grown_set (grown_set (grown_drewN (World.grownBy.refl _ _) nq) _ _) _ _⟩

set_option maxHeartbeats 800000 in
theorem refTake_yes (b : Nat) (A : Option Addr) (n c : Nat) (l : List Int) (p k : Nat) (w : World) (h : RefAt w b A n c l (some p)) (hk : p + k ≤ n) :
    Calls Try.prog 38 #[.pointer (some ⟨b, 0, none⟩), .int .i64 k] w fun e w' => TellsR w b A n c l (some (p + k), (l.drop p).take k) e w' := by
  have h0 := h.c0
  have h1 : w.cell? ⟨b, 1, none⟩ = some (.int .i64 (p : Int)) := h.c1
  have h2 : w.cell? ⟨b, 2, none⟩ = some (.bool false) := h.c2
  have f1 := h.fz 1
  have hle := h.le
  have hm := h.rd.max
  have hnc := h.rd.le
  have hcm := h.rd.2.2.1
  have H := Lib.hid h
  clear h
  have hk0 : decide ((k : Int) < 0) = false := by simp
  have hs : IntKind.i64.wrap ((n : Int) - p) = (n : Int) - p := by rw [IntKind.wrap_i64]; omega
  have hgt : decide ((n : Int) - p < k) = false := by simp; omega
  have hw : IntKind.i64.wrap ((p : Int) + k) = ((p : Int) + k) := by rw [IntKind.wrap_i64]; omega
  have hw2 : IntKind.i64.wrap ((p : Int) + k - k) = (p : Int) := by rw [IntKind.wrap_i64]; omega
  have HM := Lib.hid (fun m => (H.out.drewN m).moves (q := p + k) hk)
  have HP := Lib.hid (fun (w' : World) (A' : Option Addr) (c' : Nat) (hr : Rd .u8 w' A n c l) (hc' : k ≤ c') (hc2 : c' ≤ c) (hA : A' = A.map (·.add p) ∨ k = 0) => hr.piece (p := p) (m := k) (c' := c') hk hc' (Nat.le_trans hc2 hcm) (A' := A') fun h0 b off e => by
    rcases hA with rfl | h
    · subst e; simp [add_plain]
    · omega)
  rw [Int.natCast_add] at HM
  by_cases hcp : c = p
  · obtain rfl : k = 0 := by omega
    subst hcp
    have H0 := Lib.hid (fun m => (H.out.drewN m).moves (q := c) hle)
    go_enter Try.func38, Try.ntmps38
    go_wp2_with fail
    go_quiet (fail)
    go_wp2_with fail
    go_quiet (fail)
    go_wp2_with fail
    go_ret
    exact ⟨A, 0, 0, rfl, HP.out _ _ 0 ((H0.out _).drewN _).rd (Nat.le_refl _) (Nat.zero_le _) (.inr trivial), (H0.out _).drewN _, grown_drewN (grown_set (grown_drewN (World.grownBy.refl _ _) _) _ _) _⟩
  · go_enter Try.func38, Try.ntmps38
    go_wp2_with fail
    go_quiet (fail)
    go_wp2_with fail
    go_quiet (fail)
    go_wp2_with fail
    go_ret
    exact ⟨A.map (·.add p), k, c - p, (show Ending.returned (.slice _ (p + k - p) _) = _ by rw [show p + k - p = k from by omega]), HP.out _ _ (c - p) ((HM.out _).drewN _).rd (by omega) (by omega) (.inl rfl), (HM.out _).drewN _, grown_drewN (grown_set (grown_drewN (World.grownBy.refl _ _) _) _ _) _⟩

theorem refTake (b : Nat) (A : Option Addr) (n c : Nat) (l : List Int) (s : Option Nat) (k : Nat) (w : World) (h : RefAt w b A n c l s) :
    Calls Try.prog 38 #[.pointer (some ⟨b, 0, none⟩), .int .i64 k] w fun e w' => TellsR w b A n c l (takeS l s k) e w' := by
  cases s with
  | none => exact refTake_no b A n c l k w h
  | some p =>
    by_cases hk : p + k ≤ n
    · rw [takeS_yes (by rw [h.rd.len]; exact hk)]
      exact refTake_yes b A n c l p k w h hk
    · rw [takeS_no (by rw [h.rd.len]; exact hk)]
      exact refTake_over b A n c l p k w h hk
theorem refTake_bad (b : Nat) (A : Option Addr) (n c : Nat) (l : List Int) (s : Option Nat) (w : World) (h : RefAt w b A n c l s) :
    Calls Try.prog 38 #[.pointer (some ⟨b, 0, none⟩), .int .i64 (-1)] w fun e w' => TellsR w b A n c l (none, []) e w' := by
  cases s with
  | none => exact refTake_no b A n c l _ w h
  | some p => exact refTake_neg b A n c l p _ w h (by omega)

set_option maxHeartbeats 800000 in
theorem refNum_out (b : Nat) (A : Option Addr) (n c : Nat) (l : List Int) (s : Option Nat) (k : Int) (w : World) (h : RefAt w b A n c l s) (hk : ¬ (1 ≤ k ∧ k ≤ 4)) :
    Calls Try.prog 10 #[.pointer (some ⟨b, 0, none⟩), .int .i64 k] w fun e w' => NumsR .i64 w b A n c l (none, 0) e w' := by
  have H := Lib.hid h
  clear h
  have hk' : k < 1 ∨ ¬ k < 1 ∧ 4 < k := by omega
  clear hk
  rcases hk' with k1 | ⟨k1, k4⟩
  all_goals
    go_enter Try.func10, Try.ntmps10
    go_wp2_with fail
    refine (refTake_bad b A n c l s _ H.out).mono ?_
    rintro e w' ⟨A', n', c', rfl, hrd, hat, hg⟩
    have HT := Lib.hid hat
    have HG := Lib.hid hg
    clear hat hg
    go_wp2_with fail
    refine (refGet _ _ _ _ _ hrd).mono ?_
    rintro e w2 ⟨rfl, rfl⟩
    clear hrd
    go_wp2_with fail
    go_ret
    exact ⟨ret_int (by show wrap64 (getL []) = 0; unfold wrap64; simp [getL]), HT.out, HG.out⟩

set_option maxHeartbeats 800000 in
theorem refNum_in (b : Nat) (A : Option Addr) (n c : Nat) (l : List Int) (s : Option Nat) (k : Nat) (w : World) (h : RefAt w b A n c l s) (h1 : 1 ≤ k) (h4 : k ≤ 4) :
    Calls Try.prog 10 #[.pointer (some ⟨b, 0, none⟩), .int .i64 k] w fun e w' => NumsR .i64 w b A n c l (numS l s k) e w' := by
  have H := Lib.hid h
  have HW := Lib.hid (num_wrap h.rd s h1 h4)
  have HE := Lib.hid (numS_yes l s h1 h4)
  clear h
  have k1 : ¬ (k : Int) < 1 := by omega
  have k4 : ¬ 4 < (k : Int) := by omega
  go_enter Try.func10, Try.ntmps10
  go_wp2_with fail
  refine (refTake b A n c l _ k _ H.out).mono ?_
  rintro e w' ⟨A', n', c', rfl, hrd, hat, hg⟩
  have HT := Lib.hid hat
  have HG := Lib.hid hg
  clear hat hg
  go_wp2_with fail
  refine (refGet _ _ _ _ _ hrd).mono ?_
  rintro e w2 ⟨rfl, rfl⟩
  clear hrd
  go_wp2_with fail
  go_ret
  refine ⟨ret_int ?_, by rw [HE.out]; exact HT.out, HG.out⟩
  rw [← HW.out, IntKind.wrap_i64]
  unfold wrap64
  first | rfl | omega

theorem refNum (b : Nat) (A : Option Addr) (n c : Nat) (l : List Int) (s : Option Nat) (k : Int) (w : World) (h : RefAt w b A n c l s) :
    Calls Try.prog 10 #[.pointer (some ⟨b, 0, none⟩), .int .i64 k] w fun e w' => NumsR .i64 w b A n c l (numS l s k) e w' := by
  by_cases hk : 1 ≤ k ∧ k ≤ 4
  · obtain ⟨j, rfl⟩ := Int.eq_ofNat_of_zero_le (show 0 ≤ k by omega)
    exact refNum_in b A n c l s j w h (by omega) (by omega)
  · rw [numS_no _ _ hk]
    exact refNum_out b A n c l s k w h hk
end Go.Proofs.Ytjihgpjpmfeakaa
