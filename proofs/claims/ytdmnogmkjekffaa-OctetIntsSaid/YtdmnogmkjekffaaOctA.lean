/- What the reading functions of octet, and of its reference, return: Same, Get. Conditions: none. -/
import Derived.Test.YtdmnogmkjekffaaBase
import Derived.Test.YtdmnogmkjekffaaOctM
import Derived.Test.YtdmnogmkjekffaaRows
namespace Go.Proofs.Ytdmnogmkjekffaa
open Go.RowKit
set_option linter.unusedVariables false

theorem get_add {g x : Int} (h0 : 0 ≤ x) (h1 : x ≤ 255) : IntKind.u64.wrap (IntKind.u64.wrap (g * 256) + x) = getStep g x := by
  unfold getStep
  simp only [IntKind.wrap_u64]
  omega

theorem get_or {g x : Int} (h0 : 0 ≤ x) (h1 : x ≤ 255) : bits .or .u64 (IntKind.u64.wrap (g * 256)) x = getStep g x := by
  have e : IntKind.u64.wrap (g * 256) = (((g % 72057594037927936).toNat * 256 : Nat) : Int) := by rw [IntKind.wrap_u64]; omega
  obtain ⟨X, rfl⟩ := Int.eq_ofNat_of_zero_le h0
  rw [e, u64_or_nat _ _ (by omega) (by omega)]
  have e2 : (g % 72057594037927936).toNat * 256 ||| X = (g % 72057594037927936).toNat * 256 + X := by
    have := Nat.two_pow_add_eq_or_of_lt (i := 8) (b := X) (by omega) (g % 72057594037927936).toNat
    rw [Nat.mul_comm] at this
    exact this.symm
  rw [e2]
  unfold getStep
  omega

set_option maxHeartbeats 400000 in
theorem refGet (A : Option Addr) (n c : Nat) (l : List Int) (w : World) (h : Rd .u8 w A n c l) :
    Calls Try.prog 11 #[.slice A n c] w fun e w' => e = .returned (.int .u64 (getL l)) ∧ w = w' := by
  have HL := Lib.hid h.len
  have hm := h.max
  go_enter Try.func11, Try.ntmps11
  go_wp2_with fail
  go_loop [3, 4] (fun a i => ∃ k : Nat, k ≤ n ∧ i = .int .i64 k ∧ a = .int .u64 (getL (l.take k))) (fun _ i => n - (intOf i).toNat)
  case atStart => exact ⟨0, Nat.zero_le _, rfl, rfl⟩
  case round =>
    obtain ⟨k, hk, rfl, rfl⟩ := hrel
    have hg := getL_bd (l.take k)
    by_cases hlt : k < n
    · obtain ⟨b, off, rfl, hb, hc⟩ := h.at_ hlt
      have hx := h.u8 hlt
      have hc := hc k hlt
      go_wp2
      go_round
      case rel => exact ⟨k + 1, by omega, by go_num, by rw [take_snoc (by rw [HL.out]; exact hlt), getL_snoc, get_add hx.1 hx.2]⟩
      case measure => simp [intOf]; omega
    · go_wp2
      go_ret
      exact ⟨ret_int (by rw [List.take_of_length_le (by rw [HL.out]; omega)]), rfl⟩

set_option maxHeartbeats 400000 in
theorem octGet (A : Option Addr) (n c : Nat) (l : List Int) (w : World) (h : Rd .u8 w A n c l) :
    Calls Try.prog 10 #[.slice A n c] w fun e w' => e = .returned (.int .u64 (getL l)) ∧ w = w' := by
  have HL := Lib.hid h.len
  have hm := h.max
  go_enter Try.func10, Try.ntmps10
  go_wp2_with fail
  go_loop [3, 5, 8] (fun a _ i => ∃ k : Nat, k ≤ n ∧ i = .int .i64 k ∧ a = .int .u64 (getL (l.take k))) (fun _ _ i => n - (intOf i).toNat)
  case atStart => exact ⟨0, Nat.zero_le _, rfl, rfl⟩
  case round =>
    obtain ⟨k, hk, rfl, rfl⟩ := hrel
    have hg := getL_bd (l.take k)
    by_cases hlt : k < n
    · obtain ⟨b, off, rfl, hb, hc⟩ := h.at_ hlt
      have hx := h.u8 hlt
      have hc := hc k hlt
      go_wp2
      go_round
      case rel => exact ⟨k + 1, by omega, by go_num, by rw [take_snoc (by rw [HL.out]; exact hlt), getL_snoc, get_or hx.1 hx.2]⟩
      case measure => simp [intOf]; omega
    · go_wp2
      go_ret
      exact ⟨ret_int (by rw [List.take_of_length_le (by rw [HL.out]; omega)]), rfl⟩

set_option maxHeartbeats 400000 in
theorem refSame (A A' : Option Addr) (n c n' c' : Nat) (l l' : List Int) (w : World) (h : Rd .u8 w A n c l) (h' : Rd .u8 w A' n' c' l') :
    Calls Try.prog 7 #[.slice A n c, .slice A' n' c'] w fun e w' => e = .returned (.bool (decide (l = l'))) ∧ ∃ m, w' = w.drewN m := by
  have HL := Lib.hid h.len
  have HL' := Lib.hid h'.len
  have hm := h.max
  have hm' := h'.max
  by_cases hn : n = n'
  · subst hn
    go_enter Try.func7, Try.ntmps7
    go_wp2_with fail
    go_loopw [5] (fun i wr => ∃ k m : Nat, k ≤ n ∧ i = .int .i64 k ∧ Hid (l.take k = l'.take k) ∧ wr = w.drewN m) (fun i _ => n - (intOf i).toNat)
    case atStart => exact ⟨0, 0, Nat.zero_le _, rfl, Lib.hid rfl, rfl⟩
    case round =>
      obtain ⟨k, m, hk, rfl, HT, rfl⟩ := hrel
      by_cases hlt : k < n
      · obtain ⟨b, off, rfl, hb, hc⟩ := h.at_ hlt
        obtain ⟨b', off', rfl, hb', hc'⟩ := h'.at_ hlt
        have hc := hc k hlt
        have hc' := hc' k hlt
        have hs := take_snoc (l := l) (i := k) (by rw [HL.out]; exact hlt)
        have hs' := take_snoc (l := l') (i := k) (by rw [HL'.out]; exact hlt)
        have HS := Lib.hid hs
        have HS' := Lib.hid hs'
        clear hs hs'
        by_cases hx : l[k]?.getD 0 = l'[k]?.getD 0
        · have hxx : (l[k]?.getD 0 != l'[k]?.getD 0) = false := by simp [hx]
          have HX := Lib.hid hx
          clear hx
          go_wp2_with fail
          go_quiet (fail)
          go_wp2_with fail
          go_roundw
          case rel => exact ⟨k + 1, _, by omega, by go_num, Lib.hid (by rw [HS.out, HS'.out, HT.out, HX.out]), rfl⟩
          case measure => simp [intOf]; omega
        · have hxx : (l[k]?.getD 0 != l'[k]?.getD 0) = true := by simpa using hx
          have HX := Lib.hid hx
          clear hx
          go_wp2_with fail
          go_quiet (fail)
          go_wp2_with fail
          go_ret
          refine ⟨ret_bool ?_, _, World.drewN_drewN _ _ _⟩
          symm
          simp
          rintro rfl
          exact HX.out rfl
      · go_wp2_with fail
        go_ret
        refine ⟨ret_bool ?_, m, rfl⟩
        symm
        have e := HT.out
        rw [List.take_of_length_le (by rw [HL.out]; omega), List.take_of_length_le (by rw [HL'.out]; omega)] at e
        simp [e]
  · have hnn : ((n : Int) != (n' : Int)) = true := by simp; omega
    go_enter Try.func7, Try.ntmps7
    go_wp2_with fail
    go_ret
    refine ⟨ret_bool ?_, 0, rfl⟩
    symm
    simp
    intro e
    rw [← HL.out, ← HL'.out, e] at hn
    exact hn rfl
set_option maxHeartbeats 400000 in
theorem octSame (A A' : Option Addr) (n c n' c' : Nat) (l l' : List Int) (w : World) (h : Rd .u8 w A n c l) (h' : Rd .u8 w A' n' c' l') :
    Calls Try.prog 12 #[.slice A n c, .slice A' n' c'] w fun e w' => e = .returned (.bool (decide (l = l'))) ∧ ∃ m, w' = w.drewN m := by
  have HL := Lib.hid h.len
  have HL' := Lib.hid h'.len
  have hm := h.max
  have hm' := h'.max
  by_cases hn : n = n'
  · subst hn
    go_enter Try.func12, Try.ntmps12
    go_wp2_with fail
    go_loopw [5, 13] (fun _ i wr => ∃ k m : Nat, k ≤ n ∧ i = .int .i64 k ∧ Hid (l.take k = l'.take k) ∧ wr = w.drewN m) (fun _ i _ => n - (intOf i).toNat)
    case atStart => exact ⟨0, 0, Nat.zero_le _, rfl, Lib.hid rfl, rfl⟩
    case round =>
      obtain ⟨k, m, hk, rfl, HT, rfl⟩ := hrel
      by_cases hlt : k < n
      · obtain ⟨b, off, rfl, hb, hc⟩ := h.at_ hlt
        obtain ⟨b', off', rfl, hb', hc'⟩ := h'.at_ hlt
        have hc := hc k hlt
        have hc' := hc' k hlt
        have hs := take_snoc (l := l) (i := k) (by rw [HL.out]; exact hlt)
        have hs' := take_snoc (l := l') (i := k) (by rw [HL'.out]; exact hlt)
        have HS := Lib.hid hs
        have HS' := Lib.hid hs'
        clear hs hs'
        by_cases hx : l[k]?.getD 0 = l'[k]?.getD 0
        · have hxx : (l[k]?.getD 0 != l'[k]?.getD 0) = false := by simp [hx]
          have HX := Lib.hid hx
          clear hx
          go_wp2_with fail
          go_quiet (fail)
          go_wp2_with fail
          go_roundw
          case rel => exact ⟨k + 1, _, by omega, by go_num, Lib.hid (by rw [HS.out, HS'.out, HT.out, HX.out]), rfl⟩
          case measure => simp [intOf]; omega
        · have hxx : (l[k]?.getD 0 != l'[k]?.getD 0) = true := by simpa using hx
          have HX := Lib.hid hx
          clear hx
          go_wp2_with fail
          go_quiet (fail)
          go_wp2_with fail
          go_ret
          refine ⟨ret_bool ?_, _, World.drewN_drewN _ _ _⟩
          symm
          simp
          rintro rfl
          exact HX.out rfl
      · go_wp2_with fail
        go_ret
        refine ⟨ret_bool ?_, m, rfl⟩
        symm
        have e := HT.out
        rw [List.take_of_length_le (by rw [HL.out]; omega), List.take_of_length_le (by rw [HL'.out]; omega)] at e
        simp [e]
  · have hnn : ((n : Int) != (n' : Int)) = true := by simp; omega
    go_enter Try.func12, Try.ntmps12
    go_wp2_with fail
    go_ret
    refine ⟨ret_bool ?_, 0, rfl⟩
    symm
    simp
    intro e
    rw [← HL.out, ← HL'.out, e] at hn
    exact hn rfl
end Go.Proofs.Ytdmnogmkjekffaa
