/- What octet's signed, width, Int and Back return, and its reference's Int and Back. Conditions: none. -/
import Derived.Test.YtjihgpjpmfeakaaGet
import Derived.Test.YtjihgpjpmfeakaaPutG
namespace Go.Proofs.Ytjihgpjpmfeakaa
open Go.RowKit
set_option linter.unusedVariables false

theorem sgn_shift {a : Int} {s : Nat} (h : U64 a) (h1 : 1 ≤ s) (h8 : s ≤ 8) : wrap64 (IntKind.u64.wrap (a * 2 ^ (8 * (8 - s)))) / 2 ^ (8 * (8 - s)) = sgn a s := by
  unfold U64 at h
  rw [IntKind.wrap_u64]
  unfold wrap64 sgn
  obtain rfl | rfl | rfl | rfl | rfl | rfl | rfl | rfl := cases8 h1 h8
  all_goals (simp; omega)

theorem u64_wrap (n : Int) : IntKind.u64.wrap n = u64 n := IntKind.wrap_u64 n
theorem u64_bd (n : Int) : U64 (u64 n) := by unfold U64 u64; omega

theorem wf_u64 {a : Int} (h : (Lit.int .u64 a).wf = true) : U64 a := by
  have h' : 0 ≤ a ∧ a ≤ 18446744073709551615 := by simpa [Lit.wf, IntKind.min, IntKind.max, IntKind.signed, IntKind.bits] using h
  exact h'
theorem wf_i64 {a : Int} (h : (Lit.int .i64 a).wf = true) : I64 a := by
  have h' : -9223372036854775808 ≤ a ∧ a ≤ 9223372036854775807 := by simpa [Lit.wf, IntKind.min, IntKind.max, IntKind.signed, IntKind.bits] using h
  exact h'

set_option maxHeartbeats 400000 in
theorem octSigned (a : Int) (s : Nat) (w : World) (h1 : 1 ≤ s) (h8 : s ≤ 8) (H : Hid (U64 a)) :
    Calls Try.prog 49 #[.int .u64 a, .int .i64 s] w fun e w' => e = .returned (.int .i64 (sgn a s)) ∧ w = w' := by
  go_enter Try.func49, Try.ntmps49
  go_wp2_with fail
  go_ret
  refine ⟨ret_int ?_, rfl⟩
  exact sgn_shift H.out h1 h8

set_option maxHeartbeats 400000 in
theorem octWidth (n : Int) (w : World) (H : Hid (I64 n)) :
    Calls Try.prog 50 #[.int .i64 n] w fun e w' => e = .returned (.int .i64 (wid n)) ∧ w = w' := by
  go_enter Try.func50, Try.ntmps50
  go_wp2_with fail
  go_loop [3] (fun i => ∃ k : Nat, 1 ≤ k ∧ k ≤ 8 ∧ i = .int .i64 k ∧ Hid (∀ j, 1 ≤ j → j < k → ¬ Fits n j)) (fun i => 8 - (intOf i).toNat)
  case atStart => exact ⟨1, by omega, by omega, rfl, Lib.hid (fun j h1 h2 => by omega)⟩
  case round =>
    obtain ⟨k, hk1, hk8, rfl, HN⟩ := hrel
    by_cases hlt : k < 8
    · by_cases hf : Fits n k
      · have hne : (sgn (IntKind.u64.wrap n) k != n) = false := by rw [u64_wrap]; simpa using (sgn_fits hk1 hk8 H.out).2 hf
        go_wp2_with fail
        refine (octSigned _ _ _ hk1 hk8 (by rw [u64_wrap]; exact Lib.hid (u64_bd n))).mono ?_
        rintro e w' ⟨rfl, rfl⟩
        go_wp2_with fail
        go_ret
        exact ⟨ret_int (by rw [wid_eq hk1 hk8 HN.out (.inr hf)]), rfl⟩
      · have hne : (sgn (IntKind.u64.wrap n) k != n) = true := by rw [u64_wrap]; simpa using fun h => hf ((sgn_fits hk1 hk8 H.out).1 h)
        have HF := Lib.hid hf
        clear hf
        go_wp2_with fail
        refine (octSigned _ _ _ hk1 hk8 (by rw [u64_wrap]; exact Lib.hid (u64_bd n))).mono ?_
        rintro e w' ⟨rfl, rfl⟩
        go_wp2_with fail
        go_round
        case rel => exact ⟨k + 1, by omega, by omega, by go_num, Lib.hid (fun j h1 h2 h => by
          by_cases e : j = k
          · subst e; exact HF.out h
          · exact HN.out j h1 (by omega) h)⟩
        case measure => simp [intOf]; omega
    · go_wp2_with fail
      go_ret
      exact ⟨ret_int (by rw [wid_eq hk1 hk8 HN.out (.inl (by omega))]), rfl⟩

set_option maxHeartbeats 400000 in
theorem octInt (n : Int) (w : World) (H : Hid (I64 n)) :
    Calls Try.prog 46 #[.int .i64 n] w fun e w' => Gives .u8 w (putL (u64 n) (wid n)) e w' := by
  have HB := Lib.hid (wid_bd n)
  go_enter Try.func46, Try.ntmps46
  go_wp2_with fail
  refine (octWidth n _ H).mono ?_
  rintro e w' ⟨rfl, rfl⟩
  go_wp2_with fail
  rw [u64_wrap]
  refine (octPut _ _ _ HB.out.1 HB.out.2 (u64_bd n).1).mono ?_
  rintro e w' ⟨A, m, c, rfl, hrd, hbel, hloc⟩
  have HLo := Lib.hid hloc
  clear hloc
  go_wp2_with fail
  go_ret
  exact ⟨_, _, _, rfl, hrd, hbel, HLo.out⟩

def backN (l : List Int) : Int := if 1 ≤ l.length ∧ l.length ≤ 8 ∧ wid (sgn (getL l) l.length) = l.length then sgn (getL l) l.length else 0
def backB (l : List Int) : Bool := decide (1 ≤ l.length ∧ l.length ≤ 8 ∧ wid (sgn (getL l) l.length) = l.length)
theorem back_yes {l : List Int} {n : Nat} (e : l.length = n) (h1 : 1 ≤ n) (h8 : n ≤ 8) (hw : wid (sgn (getL l) n) = n) : backN l = sgn (getL l) n ∧ backB l = true := by
  subst e
  exact ⟨if_pos ⟨h1, h8, hw⟩, decide_eq_true ⟨h1, h8, hw⟩⟩
theorem back_no {l : List Int} {n : Nat} (e : l.length = n) (h : ¬ (1 ≤ n ∧ n ≤ 8 ∧ wid (sgn (getL l) n) = n)) : backN l = 0 ∧ backB l = false := by
  subst e
  exact ⟨if_neg h, decide_eq_false h⟩

set_option maxHeartbeats 400000 in
theorem octBack (A : Option Addr) (n c : Nat) (l : List Int) (w : World) (h : Rd .u8 w A n c l) :
    Calls Try.prog 40 #[.slice A n c] w fun e w' => e = .returned (.tuple #[.int .i64 (backN l), .bool (backB l)]) ∧ w = w' := by
  have HL := Lib.hid h.len
  by_cases hn : 1 ≤ n ∧ n ≤ 8
  · obtain ⟨h1, h8⟩ := hn
    have HG := Lib.hid (getL_bd l)
    by_cases hw : wid (sgn (getL l) n) = n
    · have hne : ((wid (sgn (getL l) n) : Int) != (n : Int)) = false := by simp [hw]
      have HR := Lib.hid (back_yes HL.out h1 h8 hw)
      clear hw
      go_enter Try.func40, Try.ntmps40
      go_wp2_with fail
      refine (octGet _ _ _ _ _ h).mono ?_
      rintro e w' ⟨rfl, rfl⟩
      go_wp2_with fail
      refine (octSigned _ _ _ h1 h8 HG).mono ?_
      rintro e w' ⟨rfl, rfl⟩
      go_wp2_with fail
      refine (octWidth _ _ (Lib.hid (fits_i64 (fits_sgn _ h1 h8) h1 h8))).mono ?_
      rintro e w' ⟨rfl, rfl⟩
      go_wp2_with fail
      go_ret2
      rw [HR.out.1, HR.out.2]
      exact ⟨rfl, rfl⟩
    · have hne : ((wid (sgn (getL l) n) : Int) != (n : Int)) = true := by simp; omega
      have HR := Lib.hid (back_no HL.out (fun h => hw h.2.2))
      clear hw
      go_enter Try.func40, Try.ntmps40
      go_wp2_with fail
      refine (octGet _ _ _ _ _ h).mono ?_
      rintro e w' ⟨rfl, rfl⟩
      go_wp2_with fail
      refine (octSigned _ _ _ h1 h8 HG).mono ?_
      rintro e w' ⟨rfl, rfl⟩
      go_wp2_with fail
      refine (octWidth _ _ (Lib.hid (fits_i64 (fits_sgn _ h1 h8) h1 h8))).mono ?_
      rintro e w' ⟨rfl, rfl⟩
      go_wp2_with fail
      go_ret2
      rw [HR.out.1, HR.out.2]
      exact ⟨rfl, rfl⟩
  · have HR := Lib.hid (back_no HL.out (fun h => hn ⟨h.1, h.2.1⟩))
    have hn' : (n : Int) < 1 ∨ ¬ (n : Int) < 1 ∧ (8 : Int) < n := by omega
    clear hn
    rcases hn' with h1 | ⟨h1, h2⟩
    all_goals
      go_enter Try.func40, Try.ntmps40
      go_wp2_with fail
      go_ret2
      rw [HR.out.1, HR.out.2]
      exact ⟨rfl, rfl⟩
end Go.Proofs.Ytjihgpjpmfeakaa
