/- Which texts are parts, and paths, of the program's text. Conditions: none. -/
import Derived.Test.YtijbahdpblopjaaDoorIdE
namespace Go.Proofs.YtijbahdpblopjaaDoor
open Go.RowKit
set_option linter.unusedVariables false

theorem cut_sizes {c : UInt8} {s a b : ByteArray} {f : Bool} (hf : f = false → s.data.toList = a.data.toList) (ht : f = true → s.data.toList = a.data.toList ++ c :: b.data.toList) :
    a.size ≤ s.size ∧ (f = true → b.size < s.size) := by
  have h1 := Lib.size_eq s
  have h2 := Lib.size_eq a
  have h3 := Lib.size_eq b
  cases f with
  | false => have := hf rfl; rw [← this] at h2; exact ⟨by omega, fun h => by cases h⟩
  | true =>
    have := congrArg List.length (ht rfl)
    simp only [List.length_append, List.length_cons] at this
    exact ⟨by omega, fun _ => by omega⟩

set_option maxHeartbeats 1000000 in
theorem idPart (s : ByteArray) (w : World) (hs : s.size ≤ 9223372036854775806) :
    Calls Tryd.prog 72 #[.string s] w fun e w' => e = .returned (.bool (partB s.data.toList)) ∧ Below w.heap.size w w' := by
  go_enter Tryd.func72, Tryd.ntmps72
  go_wp2_with fail
  refine (strCut s 46 _ hs).mono ?_
  rintro e w1 ⟨a, b, f, rfl, hb, hc, hf, ht⟩
  have hsz := cut_sizes hf ht
  have HB := Lib.hid hb
  clear hb
  by_cases hl : lowB a.data.toList = true
  · cases f with
    | false =>
      have HE := Lib.hid (show true = partB s.data.toList by rw [hf rfl, partB_none hc, hl])
      clear hf ht hc
      have ha := hsz.1
      clear hsz
      go_wp2_with fail
      refine (idLow a _ (by omega)).mono ?_
      rintro e w2 ⟨rfl, hb⟩
      have HB2 := Lib.hid (below_trans2 HB.out hb)
      clear hb
      go_wp2_with fail
      go_ret
      exact ⟨ret_bool HE.out, HB2.out⟩
    | true =>
      have HE := Lib.hid (show numB b.data.toList = partB s.data.toList by rw [ht rfl, partB_at hc, hl]; rfl)
      clear hf ht hc
      have ha := hsz.1
      have hbz := hsz.2 rfl
      clear hsz
      go_wp2_with fail
      refine (idLow a _ (by omega)).mono ?_
      rintro e w2 ⟨rfl, hb⟩
      have HB2 := Lib.hid (below_trans2 HB.out hb)
      clear hb
      go_wp2_with fail
      refine (idNumber b _ (by omega)).mono ?_
      rintro e w3 ⟨rfl, hb⟩
      have HB3 := Lib.hid (below_trans2 HB2.out hb)
      clear hb
      go_wp2_with fail
      go_ret
      exact ⟨ret_bool HE.out, HB3.out⟩
  · have hl : lowB a.data.toList = false := by simpa using hl
    have HE : Hid (false = partB s.data.toList) := by
      refine Lib.hid ?_
      cases f with
      | false => rw [hf rfl, partB_none hc, hl]
      | true => rw [ht rfl, partB_at hc, hl]; rfl
    clear hf ht hc
    have ha := hsz.1
    clear hsz
    go_wp2_with fail
    refine (idLow a _ (by omega)).mono ?_
    rintro e w2 ⟨rfl, hb⟩
    have HB2 := Lib.hid (below_trans2 HB.out hb)
    clear hb
    go_wp2_with fail
    go_ret
    exact ⟨ret_bool HE.out, HB2.out⟩

/-- How long a text is. -/
def szOf : Value → Nat
  | .string s => s.size
  | _ => 0

set_option maxHeartbeats 1000000 in
theorem idPath (s : ByteArray) (w : World) (hs : s.size ≤ 9223372036854775806) :
    Calls Tryd.prog 53 #[.string s] w fun e w' => e = .returned (.bool (pathB s.data.toList)) ∧ Below w.heap.size w w' := by
  go_enter Tryd.func53, Tryd.ntmps53
  go_wp2_with fail
  go_loopw [0] (fun v wr => ∃ t : ByteArray, v = .string t ∧ t.size ≤ s.size ∧ pathB s.data.toList = pathB t.data.toList ∧ Below w.heap.size w wr) (fun v _ => szOf v)
  case atStart => exact ⟨s, rfl, Nat.le_refl _, rfl, Below.refl _ _⟩
  case round =>
    obtain ⟨t, rfl, hts, hpt, hb0⟩ := hrel
    have HP := Lib.hid hpt
    have HB0 := Lib.hid hb0
    clear hpt hb0
    go_wp2_with fail
    refine (strCut t 47 _ (by omega)).mono ?_
    rintro e w1 ⟨a, b, f, rfl, hb, hc, hf, ht⟩
    have hsz := cut_sizes hf ht
    have HB := Lib.hid (HB0.out.trans (hb.mono HB0.out.size))
    clear hb
    have ha := hsz.1
    by_cases hl : partB a.data.toList = true
    · cases f with
      | false =>
        have HE := Lib.hid (show true = pathB s.data.toList by rw [HP.out, hf rfl, path_none hc, hl])
        clear hf ht hc hsz
        go_wp2_with fail
        refine (idPart a _ (by omega)).mono ?_
        rintro e w2 ⟨rfl, hb⟩
        have HB2 := Lib.hid (HB.out.trans (hb.mono HB.out.size))
        clear hb
        go_wp2_with fail
        go_ret
        exact ⟨ret_bool HE.out, HB2.out⟩
      | true =>
        have HE := Lib.hid (show pathB s.data.toList = pathB b.data.toList by rw [HP.out, ht rfl, path_at hc, hl]; rfl)
        have hbz := hsz.2 rfl
        clear hf ht hc hsz
        go_wp2_with fail
        refine (idPart a _ (by omega)).mono ?_
        rintro e w2 ⟨rfl, hb⟩
        have HB2 := Lib.hid (HB.out.trans (hb.mono HB.out.size))
        clear hb
        go_wp2_with fail
        go_roundw
        case rel => exact ⟨b, rfl, by omega, HE.out, HB2.out⟩
        case measure => simp [szOf]; omega
    · have hl : partB a.data.toList = false := by simpa using hl
      have HE : Hid (false = pathB s.data.toList) := by
        refine Lib.hid ?_
        rw [HP.out]
        cases f with
        | false => rw [hf rfl, path_none hc, hl]
        | true => rw [ht rfl, path_at hc, hl]; rfl
      clear hf ht hc hsz
      go_wp2_with fail
      refine (idPart a _ (by omega)).mono ?_
      rintro e w2 ⟨rfl, hb⟩
      have HB2 := Lib.hid (HB.out.trans (hb.mono HB.out.size))
      clear hb
      go_wp2_with fail
      go_ret
      exact ⟨ret_bool HE.out, HB2.out⟩
end Go.Proofs.YtijbahdpblopjaaDoor
