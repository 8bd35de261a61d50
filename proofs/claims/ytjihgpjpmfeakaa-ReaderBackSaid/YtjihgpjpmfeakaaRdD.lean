/- What Int, Text and Part read, of a Reader and of the reference's. Conditions: none. -/
import Derived.Test.YtjihgpjpmfeakaaRdC
import Derived.Laws.BytesArg
namespace Go.Proofs.Ytjihgpjpmfeakaa
open Go.RowKit
set_option linter.unusedVariables false

theorem num_nat {w : World} {A : Option Addr} {n c : Nat} {l : List Int} (h : Rd .u8 w A n c l) (s : Option Nat) (k : Int) : (numS l s k).2 = ((numS l s k).2.toNat : Int) := by
  have := numS_bd (rd_bytes h) s k
  omega

theorem num_ex {w : World} {A : Option Addr} {n c : Nat} {l : List Int} (h : Rd .u8 w A n c l) (s : Option Nat) (k : Int) : ∃ (s1 : Option Nat) (m : Nat), numS l s k = (s1, (m : Int)) ∧ countS l s k = takeS l s1 m := by
  refine ⟨(numS l s k).1, (numS l s k).2.toNat, ?_, rfl⟩
  rw [← num_nat h s k]

set_option maxHeartbeats 800000 in
theorem rdCounted (b : Nat) (A : Option Addr) (n c : Nat) (l : List Int) (s : Option Nat) (k : Int) (w : World) (h : RdrAt w b A n c l s) :
    Calls Try.prog 39 #[.pointer (some ⟨b, 0, none⟩), .int .i64 k] w fun e w' => Tells w b A n c l (countS l s k) e w' := by
  obtain ⟨s1, m, hn, hc⟩ := num_ex h.rd s k
  rw [hc]
  have hcall := rdNum b A n c l s k w h
  rw [hn] at hcall
  have HC := Lib.hid hcall
  clear hcall hn hc h
  go_enter Try.func39, Try.ntmps39
  go_wp2_with fail
  refine HC.out.mono ?_
  rintro e w' ⟨rfl, hat, hg⟩
  have HT := Lib.hid hat
  have HG := Lib.hid hg
  clear hat hg
  go_wp2_with fail
  refine (rdTake b A n c l _ _ _ HT.out).mono ?_
  rintro e w2 ⟨A', n', c', rfl, hrd, hat, hg⟩
  have HR := Lib.hid hrd
  have HT2 := Lib.hid hat
  have HG2 := Lib.hid hg
  clear hrd hat hg
  go_wp2_with fail
  go_ret
  exact ⟨_, _, _, rfl, HR.out, HT2.out, grown_trans HG.out HG2.out⟩

set_option maxHeartbeats 800000 in
theorem rdPart (b : Nat) (A : Option Addr) (n c : Nat) (l : List Int) (s : Option Nat) (w : World) (h : RdrAt w b A n c l s) :
    Calls Try.prog 16 #[.pointer (some ⟨b, 0, none⟩)] w fun e w' => Tells w b A n c l (countS l s 4) e w' := by
  have H := Lib.hid h
  clear h
  go_enter Try.func16, Try.ntmps16
  go_wp2_with fail
  refine (rdCounted b A n c l s 4 _ H.out).mono ?_
  rintro e w2 ⟨A', n', c', rfl, hrd, hat, hg⟩
  have HR := Lib.hid hrd
  have HT2 := Lib.hid hat
  have HG2 := Lib.hid hg
  clear hrd hat hg
  go_wp2_with fail
  go_ret
  exact ⟨_, _, _, rfl, HR.out, HT2.out, HG2.out⟩

/-- 'string(b)' of a slice that reads. -/
theorem run_string {w : World} {A : Option Addr} {n c : Nat} {l : List Int} (h : Rd .u8 w A n c l) :
    (convert 22 9 (.slice A n c)).run Try.prog w = .ok (.string (strOfNums l)) w := by
  rcases Nat.eq_zero_or_pos n with rfl | hn
  · obtain rfl : l = [] := List.eq_nil_of_length_eq_zero h.len
    rcases A with _ | ⟨b, off, spot⟩
    · exact run_convert_bytes_nil w _ _ Try.underlying22 Try.underlying5 0 c _ Try.underlying9
    · rw [run_convert_bytes_string w _ _ _ _ 0 c Try.underlying22 Try.underlying5 Try.underlying9, run_bytesToString w _ 0 c [] (by rfl)]
      rfl
  · obtain ⟨b, off, rfl, hb, hc⟩ := h.at_ hn
    exact run_convert_bytes_arg w _ _ Try.underlying22 Try.underlying5 b off n c l h.len (fun i hi => by rw [hc i hi, List.getD_eq_getElem?_getD]) _ Try.underlying9

/-- What a reading of a text leaves. -/
def Texts (w : World) (b : Nat) (A : Option Addr) (n c : Nat) (l : List Int) (r : Option Nat × List Int) (e : Ending) (w' : World) : Prop :=
  e = .returned (.string (strOfNums r.2)) ∧ RdrAt w' b A n c l r.1 ∧ w.grownBy w' (some b)
def TextsR (w : World) (b : Nat) (A : Option Addr) (n c : Nat) (l : List Int) (r : Option Nat × List Int) (e : Ending) (w' : World) : Prop :=
  e = .returned (.string (strOfNums r.2)) ∧ RefAt w' b A n c l r.1 ∧ w.grownBy w' (some b)

set_option maxHeartbeats 800000 in
theorem rdText (b : Nat) (A : Option Addr) (n c : Nat) (l : List Int) (s : Option Nat) (w : World) (h : RdrAt w b A n c l s) :
    Calls Try.prog 13 #[.pointer (some ⟨b, 0, none⟩)] w fun e w' => Texts w b A n c l (countS l s 2) e w' := by
  have H := Lib.hid h
  clear h
  go_enter Try.func13, Try.ntmps13
  go_wp2_with fail
  refine (rdCounted b A n c l s 2 _ H.out).mono ?_
  rintro e w2 ⟨A', n', c', rfl, hrd, hat, hg⟩
  have hcv := run_string hrd
  have HT2 := Lib.hid hat
  have HG2 := Lib.hid hg
  clear hrd hat hg
  go_wp2_with fail
  go_ret
  exact ⟨rfl, HT2.out, HG2.out⟩

set_option maxHeartbeats 800000 in
theorem rdInt (b : Nat) (A : Option Addr) (n c : Nat) (l : List Int) (s : Option Nat) (w : World) (h : RdrAt w b A n c l s) :
    Calls Try.prog 11 #[.pointer (some ⟨b, 0, none⟩)] w fun e w' => Nums .i64 w b A n c l (intS l s) e w' := by
  have H := Lib.hid h
  clear h
  go_enter Try.func11, Try.ntmps11
  go_wp2_with fail
  refine (rdCounted b A n c l s 1 _ H.out).mono ?_
  rintro e w2 ⟨A', n', c', rfl, hrd, hat, hg⟩
  have HR := Lib.hid hrd
  have HT2 := Lib.hid hat
  have HG2 := Lib.hid hg
  clear hrd hat hg
  cases hs : (countS l s 1).1 with
  | none =>
    have HS := Lib.hid (intS_fail hs)
    rw [hs] at HT2
    clear hs
    go_wp2_with fail
    refine (rdOk_no b A n c l _ HT2.out).mono ?_
    rintro e w' ⟨rfl, rfl⟩
    go_wp2_with fail
    go_ret
    exact ⟨by rw [HS.out]; rfl, by rw [HS.out]; exact HT2.out, HG2.out⟩
  | some q =>
    rw [hs] at HT2
    have HQ := Lib.hid hs
    clear hs
    cases hb : backB (countS l s 1).2 with
    | true =>
      have HS := Lib.hid (intS_yes hb)
      have HB := Lib.hid hb
      clear hb
      go_wp2_with fail
      refine (rdOk_yes b A n c l _ _ HT2.out).mono ?_
      rintro e w' ⟨rfl, rfl⟩
      go_wp2_with fail
      refine (octBack _ _ _ _ _ HR.out).mono ?_
      rintro e w' ⟨rfl, rfl⟩
      rw [HB.out]
      go_wp2_with fail
      go_ret
      exact ⟨by rw [HS.out]; rfl, by rw [HS.out, HQ.out]; exact HT2.out, HG2.out⟩
    | false =>
      have HS := Lib.hid (intS_no hb)
      have HN := Lib.hid (backN_of hb)
      have HB := Lib.hid hb
      clear hb
      have h0 := HT2.out.c0
      have f0 := HT2.out.fz 0
      go_wp2_with fail
      refine (rdOk_yes b A n c l _ _ HT2.out).mono ?_
      rintro e w' ⟨rfl, rfl⟩
      go_wp2_with fail
      refine (octBack _ _ _ _ _ HR.out).mono ?_
      rintro e w' ⟨rfl, rfl⟩
      rw [HB.out, HN.out]
      go_wp2_with fail
      refine (stFail b _ _ h0 f0).mono ?_
      rintro e w' ⟨rfl, rfl⟩
      go_wp2_with fail
      go_ret
      exact ⟨by rw [HS.out]; rfl, by rw [HS.out]; exact HT2.out.fails, grown_set HG2.out _ _⟩
end Go.Proofs.Ytjihgpjpmfeakaa
