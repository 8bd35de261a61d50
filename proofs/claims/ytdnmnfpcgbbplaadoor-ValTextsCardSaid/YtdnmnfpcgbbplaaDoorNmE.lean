/- Which texts are low and high names, of the program and of the document. Conditions: none. -/
import Derived.Test.YtdnmnfpcgbbplaaDoorNmD
namespace Go.Proofs.YtdnmnfpcgbbplaaDoor
open Go.RowKit
set_option linter.unusedVariables false

/-! ### The document's -/

/-- Whether a number lies between two. -/
def inR (a b x : Int) : Bool := decide (a ≤ x ∧ x ≤ b)
theorem inR_small (x : Int) : inR 97 122 x = smallB x := rfl
theorem inR_great (x : Int) : inR 65 90 x = greatB x := rfl
theorem inR_digit (x : Int) : inR 48 57 x = digitB x := rfl

set_option maxHeartbeats 400000 in
theorem refIn (x a b : Int) (w : World) : Calls Tryd.prog 47 #[.int .u8 x, .int .u8 a, .int .u8 b] w fun e w' => e = .returned (.bool (inR a b x)) ∧ w = w' := by
  by_cases h1 : a ≤ x
  all_goals
    go_enter Tryd.func47, Tryd.ntmps47
    go_wp2
    go_ret
    exact ⟨ret_bool (by rw [Bool.eq_iff_iff]; simp [inR, h1] <;> omega), rfl⟩

theorem refInS (x : Int) (w : World) : Calls Tryd.prog 47 #[.int .u8 x, .int .u8 97, .int .u8 122] w fun e w' => e = .returned (.bool (smallB x)) ∧ w = w' := refIn x 97 122 w
theorem refInG (x : Int) (w : World) : Calls Tryd.prog 47 #[.int .u8 x, .int .u8 65, .int .u8 90] w fun e w' => e = .returned (.bool (greatB x)) ∧ w = w' := refIn x 65 90 w
theorem refInD (x : Int) (w : World) : Calls Tryd.prog 47 #[.int .u8 x, .int .u8 48, .int .u8 57] w fun e w' => e = .returned (.bool (digitB x)) ∧ w = w' := refIn x 48 57 w

theorem nameC_snoc {s : ByteArray} {k : Nat} (H : ∀ j (h : j < s.size), j < k → nameC ((s[j]'h).toNat : Int) = true) (hlt : k < s.size) (hx : nameC ((s[k]'hlt).toNat : Int) = true) :
    ∀ j (h : j < s.size), j < k + 1 → nameC ((s[j]'h).toNat : Int) = true := fun j h hj => by
  rcases Nat.lt_or_ge j k with h1 | h1
  · exact H j h h1
  · obtain rfl : j = k := by omega
    exact hx

set_option maxRecDepth 100000 in
set_option maxHeartbeats 2000000 in
theorem refName (a b : Int) (s : ByteArray) (w : World) (hs : s.size ≤ 9223372036854775807) :
    Calls Tryd.prog 41 #[.string s, .int .u8 a, .int .u8 b] w fun e w' => e = .returned (.bool (nameB (inR a b) s.data.toList)) ∧ w = w' := by
  by_cases h1 : s.size < 1
  · go_enter Tryd.func41, Tryd.ntmps41
    go_wp2_with fail
    go_ret
    exact ⟨ret_bool (name_len (.inl h1)).symm, rfl⟩
  · by_cases h2 : 12 < s.size
    · go_enter Tryd.func41, Tryd.ntmps41
      go_wp2_with fail
      go_ret
      exact ⟨ret_bool (name_len (.inr h2)).symm, rfl⟩
    · have hd1 : decide ((s.size : Int) < 1) = false := decide_eq_false (by omega)
      have hd2 : decide ((12 : Int) < (s.size : Int)) = false := decide_eq_false (by omega)
      have h0 : 0 < s.size := by omega
      have h12 : s.size ≤ 12 := by omega
      clear h1 h2
      by_cases hf : inR a b ((s[0]'h0).toNat : Int) = true
      · have HF := Lib.hid hf
        go_enter Tryd.func41, Tryd.ntmps41
        go_wp2_with fail
        refine (refIn _ a b _).mono ?_
        rintro e w' ⟨rfl, rfl⟩
        go_wp2_with fail
        clear hd1 hd2 hf
        go_loop [7] (fun i => ∃ k : Nat, k ≤ s.size ∧ i = .int .i64 k ∧ ∀ j (h : j < s.size), j < k → nameC ((s[j]'h).toNat : Int) = true) (fun i => s.size - (intOf i).toNat)
        case atStart => exact ⟨0, by omega, rfl, fun j _ hj => absurd hj (by omega)⟩
        case round =>
          obtain ⟨k, hk, rfl, hrel⟩ := hrel
          have HR := Lib.hid hrel
          clear hrel
          by_cases hlt : k < s.size
          · by_cases hx1 : smallB ((s[k]'hlt).toNat : Int) = true
            · go_wp2_with (go_at_call 47; refine (refInS _ _).mono ?_; rintro e w' ⟨rfl, rfl⟩)
              go_round
              case rel => exact ⟨k + 1, by omega, by go_num, nameC_snoc HR.out hlt (by simp [nameC, hx1])⟩
              case measure => simp [intOf]; omega
            · have hx1 : smallB ((s[k]'hlt).toNat : Int) = false := by simpa using hx1
              by_cases hx2 : greatB ((s[k]'hlt).toNat : Int) = true
              · go_wp2_with (first | (go_at_call 47; (with_reducible refine (refInS _ _).mono ?_); rintro e w' ⟨rfl, rfl⟩) | (go_at_call 47; (with_reducible refine (refInG _ _).mono ?_); rintro e w' ⟨rfl, rfl⟩))
                go_round
                case rel => exact ⟨k + 1, by omega, by go_num, nameC_snoc HR.out hlt (by simp [nameC, hx2])⟩
                case measure => simp [intOf]; omega
              · have hx2 : greatB ((s[k]'hlt).toNat : Int) = false := by simpa using hx2
                by_cases hx3 : digitB ((s[k]'hlt).toNat : Int) = true
                · go_wp2_with (first | (go_at_call 47; (with_reducible refine (refInS _ _).mono ?_); rintro e w' ⟨rfl, rfl⟩) | (go_at_call 47; (with_reducible refine (refInG _ _).mono ?_); rintro e w' ⟨rfl, rfl⟩) | (go_at_call 47; (with_reducible refine (refInD _ _).mono ?_); rintro e w' ⟨rfl, rfl⟩))
                  go_round
                  case rel => exact ⟨k + 1, by omega, by go_num, nameC_snoc HR.out hlt (by simp [nameC, hx3])⟩
                  case measure => simp [intOf]; omega
                · have hx3 : digitB ((s[k]'hlt).toNat : Int) = false := by simpa using hx3
                  have HN := Lib.hid (show nameC ((s[k]'hlt).toNat : Int) = decide (((s[k]'hlt).toNat : Int) = 95) by simp [nameC, hx1, hx2, hx3])
                  go_wp2_with (first | (go_at_call 47; (with_reducible refine (refInS _ _).mono ?_); rintro e w' ⟨rfl, rfl⟩) | (go_at_call 47; (with_reducible refine (refInG _ _).mono ?_); rintro e w' ⟨rfl, rfl⟩) | (go_at_call 47; (with_reducible refine (refInD _ _).mono ?_); rintro e w' ⟨rfl, rfl⟩))
                  · have hne : (((s[k]'hlt).toNat : Int) != 95) = true := by assumption
                    have hno : nameC ((s[k]'hlt).toNat : Int) = false := by
                      rw [HN.out]
                      exact decide_eq_false (by simpa using hne)
                    go_ret
                    exact ⟨ret_bool (name_at hlt hno).symm, rfl⟩
                  · have hne : (((s[k]'hlt).toNat : Int) != 95) = false := by assumption
                    have hyes : nameC ((s[k]'hlt).toNat : Int) = true := by
                      rw [HN.out]
                      exact decide_eq_true (by simpa using hne)
                    go_round
                    case rel => exact ⟨k + 1, by omega, by go_num, nameC_snoc HR.out hlt hyes⟩
                    case measure => simp [intOf]; omega
          · go_wp2_with fail
            go_ret
            exact ⟨ret_bool (name_yes h0 h12 HF.out fun j h => HR.out j h (by omega)).symm, rfl⟩
      · have hf : inR a b ((s[0]'h0).toNat : Int) = false := by simpa using hf
        go_enter Tryd.func41, Tryd.ntmps41
        go_wp2_with fail
        refine (refIn _ a b _).mono ?_
        rintro e w' ⟨rfl, rfl⟩
        go_wp2_with fail
        go_ret
        exact ⟨ret_bool (name_first h0 hf).symm, rfl⟩

set_option maxHeartbeats 1000000 in
theorem refLow (s : ByteArray) (w : World) (hs : s.size ≤ 9223372036854775807) :
    Calls Tryd.prog 29 #[.string s] w fun e w' => e = .returned (.bool (lowB s.data.toList)) ∧ Below w.heap.size w w' := by
  have HS := Lib.hid (show nameB (inR 97 122) s.data.toList = nameB smallB s.data.toList from rfl)
  by_cases h1 : nameB smallB s.data.toList = true
  · have HE := Lib.hid (show (!wordB s.data.toList) = lowB s.data.toList by simp [lowB, h1])
    go_enter Tryd.func29, Tryd.ntmps29
    go_wp2_with fail
    refine (refName 97 122 s _ hs).mono ?_
    rw [HS.out]
    rintro e w' ⟨rfl, rfl⟩
    go_wp2_with fail
    refine (refWord s _).mono ?_
    rintro e w' ⟨rfl, hb⟩
    have HB := Lib.hid hb
    clear hb
    go_wp2_with fail
    go_ret
    exact ⟨ret_bool HE.out, HB.out⟩
  · have h1 : nameB smallB s.data.toList = false := by simpa using h1
    have HE := Lib.hid (show false = lowB s.data.toList by simp [lowB, h1])
    go_enter Tryd.func29, Tryd.ntmps29
    go_wp2_with fail
    refine (refName 97 122 s _ hs).mono ?_
    rw [HS.out]
    rintro e w' ⟨rfl, rfl⟩
    go_wp2_with fail
    go_ret
    exact ⟨ret_bool HE.out, Below.refl _ _⟩

set_option maxHeartbeats 1000000 in
theorem refHigh (s : ByteArray) (w : World) (hs : s.size ≤ 9223372036854775807) :
    Calls Tryd.prog 30 #[.string s] w fun e w' => e = .returned (.bool (highB s.data.toList)) ∧ w = w' := by
  have HS := Lib.hid (show nameB (inR 65 90) s.data.toList = highB s.data.toList from rfl)
  go_enter Tryd.func30, Tryd.ntmps30
  go_wp2_with fail
  refine (refName 65 90 s _ hs).mono ?_
  rw [HS.out]
  rintro e w' ⟨rfl, rfl⟩
  go_wp2_with fail
  go_ret
  exact ⟨rfl, rfl⟩

end Go.Proofs.YtdnmnfpcgbbplaaDoor
