/- What Int, Text and Part read, of the reference's Reader. Conditions: none. -/
import Derived.Test.YtjihgpjpmfeakaaRdD
namespace Go.Proofs.Ytjihgpjpmfeakaa
open Go.RowKit
set_option linter.unusedVariables false

theorem refNum_at (b : Nat) (A : Option Addr) (n c : Nat) (l : List Int) (s : Option Nat) (k : Int) (w : World) (h : RefAt w b A n c l s) :
    ∃ (s1 : Option Nat) (m : Nat), countS l s k = takeS l s1 m ∧
      Calls Try.prog 10 #[.pointer (some ⟨b, 0, none⟩), .int .i64 k] w fun e w' => NumsR .i64 w b A n c l (s1, (m : Int)) e w' := by
  obtain ⟨s1, m, hn, hc⟩ := num_ex h.rd s k
  refine ⟨s1, m, hc, ?_⟩
  have hcall := refNum b A n c l s k w h
  rw [hn] at hcall
  exact hcall

set_option maxHeartbeats 800000 in
theorem refPart (b : Nat) (A : Option Addr) (n c : Nat) (l : List Int) (s : Option Nat) (w : World) (h : RefAt w b A n c l s) :
    Calls Try.prog 17 #[.pointer (some ⟨b, 0, none⟩)] w fun e w' => TellsR w b A n c l (countS l s 4) e w' := by
  obtain ⟨s1, m, hc, hcall⟩ := refNum_at b A n c l s 4 w h
  rw [hc]
  have HC := Lib.hid hcall
  clear hcall hc h
  go_enter Try.func17, Try.ntmps17
  go_wp2_with fail
  refine HC.out.mono ?_
  rintro e w' ⟨rfl, hat, hg⟩
  have HG := Lib.hid hg
  clear hg
  cases s1 with
  | none =>
    have h2 : w'.cell? ⟨b, 2, none⟩ = some (.bool true) := hat.c2
    have HT := Lib.hid hat
    clear hat
    go_wp2_with fail
    go_ret
    exact ⟨none, 0, 0, rfl, Rd.nil_ _ _, HT.out, HG.out⟩
  | some q =>
    have h2 : w'.cell? ⟨b, 2, none⟩ = some (.bool false) := hat.c2
    have HT := Lib.hid hat
    clear hat
    go_wp2_with fail
    refine (refTake b A n c l _ _ _ HT.out).mono ?_
    rintro e w2 ⟨A', n', c', rfl, hrd, hat, hg⟩
    have HR := Lib.hid hrd
    have HT2 := Lib.hid hat
    have HG2 := Lib.hid hg
    clear hrd hat hg
    go_wp2_with fail
    go_ret
    exact ⟨_, _, _, rfl, HR.out, HT2.out, grown_trans HG.out HG2.out⟩

set_option maxHeartbeats 800000 in
theorem refText (b : Nat) (A : Option Addr) (n c : Nat) (l : List Int) (s : Option Nat) (w : World) (h : RefAt w b A n c l s) :
    Calls Try.prog 14 #[.pointer (some ⟨b, 0, none⟩)] w fun e w' => TextsR w b A n c l (countS l s 2) e w' := by
  obtain ⟨s1, m, hc, hcall⟩ := refNum_at b A n c l s 2 w h
  rw [hc]
  have HC := Lib.hid hcall
  clear hcall hc h
  go_enter Try.func14, Try.ntmps14
  go_wp2_with fail
  refine HC.out.mono ?_
  rintro e w' ⟨rfl, hat, hg⟩
  have HG := Lib.hid hg
  clear hg
  cases s1 with
  | none =>
    have h2 : w'.cell? ⟨b, 2, none⟩ = some (.bool true) := hat.c2
    have HT := Lib.hid hat
    clear hat
    go_wp2_with fail
    go_ret
    exact ⟨rfl, HT.out, HG.out⟩
  | some q =>
    have h2 : w'.cell? ⟨b, 2, none⟩ = some (.bool false) := hat.c2
    have HT := Lib.hid hat
    clear hat
    go_wp2_with fail
    refine (refTake b A n c l _ _ _ HT.out).mono ?_
    rintro e w2 ⟨A', n', c', rfl, hrd, hat, hg⟩
    have hcv := run_string hrd
    have HT2 := Lib.hid hat
    have HG2 := Lib.hid hg
    clear hrd hat hg
    go_wp2_with fail
    go_ret
    exact ⟨rfl, HT2.out, grown_trans HG.out HG2.out⟩

set_option maxHeartbeats 800000 in
theorem refInt3 (b : Nat) (A : Option Addr) (n c : Nat) (l : List Int) (s : Option Nat) (w : World) (h : RefAt w b A n c l s) :
    Calls Try.prog 12 #[.pointer (some ⟨b, 0, none⟩)] w fun e w' => NumsR .i64 w b A n c l (intS l s) e w' := by
  obtain ⟨s1, m, hc, hcall⟩ := refNum_at b A n c l s 1 w h
  have HC := Lib.hid hcall
  have HE := Lib.hid hc
  clear hcall hc h
  go_enter Try.func12, Try.ntmps12
  go_wp2_with fail
  refine HC.out.mono ?_
  rintro e w' ⟨rfl, hat, hg⟩
  have HG := Lib.hid hg
  clear hg
  cases s1 with
  | none =>
    have h2 : w'.cell? ⟨b, 2, none⟩ = some (.bool true) := hat.c2
    have HT := Lib.hid hat
    have HS := Lib.hid (intS_fail (l := l) (s := s) (by rw [HE.out]; rfl))
    clear hat
    go_wp2_with fail
    go_ret
    exact ⟨by rw [HS.out]; rfl, by rw [HS.out]; exact HT.out, HG.out⟩
  | some q =>
    have h2 : w'.cell? ⟨b, 2, none⟩ = some (.bool false) := hat.c2
    have HT := Lib.hid hat
    clear hat
    go_wp2_with fail
    refine (refTake b A n c l _ _ _ HT.out).mono ?_
    rw [← HE.out]
    clear h2
    rintro e w2 ⟨A', n', c', rfl, hrd, hat, hg⟩
    have HR := Lib.hid hrd
    have HG2 := Lib.hid (grown_trans HG.out hg)
    clear hrd hg
    cases hs : (countS l s 1).1 with
    | none =>
      rw [hs] at hat
      have h2 : w2.cell? ⟨b, 2, none⟩ = some (.bool true) := hat.c2
      have HT2 := Lib.hid hat
      have HS := Lib.hid (intS_fail hs)
      clear hat hs
      go_wp2_with fail
      go_ret
      exact ⟨by rw [HS.out]; rfl, by rw [HS.out]; exact HT2.out, HG2.out⟩
    | some q2 =>
      rw [hs] at hat
      have h1 := hat.c1
      have h2 : w2.cell? ⟨b, 2, none⟩ = some (.bool false) := hat.c2
      have f1 := hat.fz 1
      have f2 := hat.fz 2
      have HT2 := Lib.hid hat
      have HQ := Lib.hid hs
      clear hat hs
      cases hb : backB (countS l s 1).2 with
      | true =>
        have HS := Lib.hid (intS_yes hb)
        have HB := Lib.hid hb
        clear hb
        go_wp2_with fail
        refine (refBack _ _ _ _ _ HR.out).mono ?_
        rintro e w' ⟨rfl, rfl⟩
        rw [HB.out]
        go_wp2_with fail
        go_ret
        exact ⟨by rw [HS.out]; rfl, by rw [HS.out, HQ.out]; exact HT2.out, HG2.out⟩
      | false =>
        have HS := Lib.hid (intS_no hb)
        have HN := Lib.hid (backN_of hb)
        have HB := Lib.hid hb
        clear hb
        go_wp2_with fail
        refine (refBack _ _ _ _ _ HR.out).mono ?_
        rintro e w' ⟨rfl, rfl⟩
        rw [HB.out, HN.out]
        go_wp2_with fail
        go_ret
        exact ⟨by rw [HS.out]; rfl, by rw [HS.out]; exact HT2.out.fails, grown_set (grown_set HG2.out _ _) _ _⟩
end Go.Proofs.Ytjihgpjpmfeakaa
