/- What Same of octet's reference returns. Conditions: none. -/
import Derived.Test.YtjihgpjpmfeakaaBase
import Derived.Test.YtjihgpjpmfeakaaRows
namespace Go.Proofs.Ytjihgpjpmfeakaa
open Go.RowKit
set_option linter.unusedVariables false

set_option maxHeartbeats 400000 in
theorem refSame (A A' : Option Addr) (n c n' c' : Nat) (l l' : List Int) (w : World) (h : Rd .u8 w A n c l) (h' : Rd .u8 w A' n' c' l') :
    Calls Try.prog 15 #[.slice A n c, .slice A' n' c'] w fun e w' => e = .returned (.bool (decide (l = l'))) ∧ ∃ m, w' = w.drewN m := by
  have HL := Lib.hid h.len
  have HL' := Lib.hid h'.len
  have hm := h.max
  have hm' := h'.max
  by_cases hn : n = n'
  · subst hn
    go_enter Try.func15, Try.ntmps15
    go_wp2_with fail
    go_loopw [5] (fun i wr => ∃ k m : Nat, k ≤ n ∧ i = .int .i64 k ∧ Hid (l.take k = l'.take k) ∧ wr = w.drewN m) (fun i _ => n - (intOf i).toNat)
    case atStart => exact ⟨0, 0, Nat.zero_le _, rfl, Lib.hid rfl, rfl⟩
    case round =>
      obtain ⟨k, m, hk, rfl, HT, rfl⟩ := hrel
      by_cases hlt : k < n
      · obtain ⟨b, off, rfl, hb, hc⟩ := h.at_ hlt
        obtain ⟨b', off', rfl, hb', hc'⟩ := h'.at_ hlt
        have hc := hc k hlt
        have hc' := hc' k hlt
        have hs := take_snoc (l := l) (i := k) (by rw [HL.out]; exact hlt)
        have hs' := take_snoc (l := l') (i := k) (by rw [HL'.out]; exact hlt)
        have HS := Lib.hid hs
        have HS' := Lib.hid hs'
        clear hs hs'
        by_cases hx : l[k]?.getD 0 = l'[k]?.getD 0
        · have hxx : (l[k]?.getD 0 != l'[k]?.getD 0) = false := by simp [hx]
          have HX := Lib.hid hx
          clear hx
          go_wp2_with fail
          go_quiet (fail)
          go_wp2_with fail
          go_roundw
          case rel => exact ⟨k + 1, _, by omega, by go_num, Lib.hid (by rw [HS.out, HS'.out, HT.out, HX.out]), rfl⟩
          case measure => simp [intOf]; omega
        · have hxx : (l[k]?.getD 0 != l'[k]?.getD 0) = true := by simpa using hx
          have HX := Lib.hid hx
          clear hx
          go_wp2_with fail
          go_quiet (fail)
          go_wp2_with fail
          go_ret
          refine ⟨ret_bool ?_, _, World.drewN_drewN _ _ _⟩
          symm
          simp
          rintro rfl
          exact HX.out rfl
      · go_wp2_with fail
        go_ret
        refine ⟨ret_bool ?_, m, rfl⟩
        symm
        have e := HT.out
        rw [List.take_of_length_le (by rw [HL.out]; omega), List.take_of_length_le (by rw [HL'.out]; omega)] at e
        simp [e]
  · have hnn : ((n : Int) != (n' : Int)) = true := by simp; omega
    go_enter Try.func15, Try.ntmps15
    go_wp2_with fail
    go_ret
    refine ⟨ret_bool ?_, 0, rfl⟩
    symm
    simp
    intro e
    rw [← HL.out, ← HL'.out, e] at hn
    exact hn rfl
end Go.Proofs.Ytjihgpjpmfeakaa
