/- What ident's inner functions of runes return, and strings.Cut at a text of one byte. Conditions: none. What ident's Word, and the document's, return. Conditions: none. What the document's Words and Word return. Conditions: none. -/
import Derived.Test.YtapnodhgjfbjjaaGreatBase
import Derived.Test.YtapnodhgjfbjjaaGreatIdM
import Derived.Test.YtapnodhgjfbjjaaGreatRows
import Derived.Lib.Strings
import Derived.Lib.Bytealg
import Derived.Lib.Walk
import Derived.Test.YtapnodhgjfbjjaaGreatStr
namespace Go.Proofs.YtapnodhgjfbjjaaGreat
open Go.RowKit
set_option linter.unusedVariables false

set_option maxHeartbeats 400000 in
theorem idSmall (x : Int) (w : World) : Calls Tryz.prog 55 #[.int .i32 x] w fun e w' => e = .returned (.bool (smallB x)) ∧ w = w' := by
  by_cases h1 : 97 ≤ x
  all_goals
    go_enter Tryz.func55, Tryz.ntmps55
    go_wp2
    go_ret
    exact ⟨ret_bool (by rw [Bool.eq_iff_iff]; simp [smallB, h1] <;> omega), rfl⟩

set_option maxHeartbeats 400000 in
theorem idGreat (x : Int) (w : World) : Calls Tryz.prog 70 #[.int .i32 x] w fun e w' => e = .returned (.bool (greatB x)) ∧ w = w' := by
  by_cases h1 : 65 ≤ x
  all_goals
    go_enter Tryz.func70, Tryz.ntmps70
    go_wp2
    go_ret
    exact ⟨ret_bool (by rw [Bool.eq_iff_iff]; simp [greatB, h1] <;> omega), rfl⟩

set_option maxHeartbeats 400000 in
theorem idDigit (x : Int) (w : World) : Calls Tryz.prog 81 #[.int .i32 x] w fun e w' => e = .returned (.bool (digitB x)) ∧ w = w' := by
  by_cases h1 : 48 ≤ x
  all_goals
    go_enter Tryz.func81, Tryz.ntmps81
    go_wp2
    go_ret
    exact ⟨ret_bool (by rw [Bool.eq_iff_iff]; simp [digitB, h1] <;> omega), rfl⟩

set_option maxHeartbeats 800000 in
theorem idInName (x : Int) (w : World) : Calls Tryz.prog 71 #[.int .i32 x] w fun e w' => e = .returned (.bool (nameC x)) ∧ w = w' := by
  by_cases h1 : smallB x = true
  · go_enter Tryz.func71, Tryz.ntmps71
    go_wp2_with fail
    refine (idSmall x _).mono ?_
    rintro e w' ⟨rfl, rfl⟩
    go_wp2_with fail
    go_ret
    exact ⟨ret_bool (by simp [nameC, h1]), rfl⟩
  · have h1 : smallB x = false := by simpa using h1
    by_cases h2 : greatB x = true
    · go_enter Tryz.func71, Tryz.ntmps71
      go_wp2_with fail
      refine (idSmall x _).mono ?_
      rintro e w' ⟨rfl, rfl⟩
      go_wp2_with fail
      refine (idGreat x _).mono ?_
      rintro e w' ⟨rfl, rfl⟩
      go_wp2_with fail
      go_ret
      exact ⟨ret_bool (by simp [nameC, h2]), rfl⟩
    · have h2 : greatB x = false := by simpa using h2
      by_cases h3 : digitB x = true
      all_goals
        go_enter Tryz.func71, Tryz.ntmps71
        go_wp2_with fail
        refine (idSmall x _).mono ?_
        rintro e w' ⟨rfl, rfl⟩
        go_wp2_with fail
        refine (idGreat x _).mono ?_
        rintro e w' ⟨rfl, rfl⟩
        go_wp2_with fail
        refine (idDigit x _).mono ?_
        rintro e w' ⟨rfl, rfl⟩
        go_wp2_with fail
        go_ret
        exact ⟨ret_bool (by rw [Bool.eq_iff_iff]; simp [nameC, h1, h2, h3]), rfl⟩

set_option maxHeartbeats 1000000 in
set_option maxRecDepth 100000 in
theorem liteIndexByte (s : ByteArray) (c : Int) (w : World) :
    Calls Tryz.prog 107 #[.string s, .int .u8 c] w fun e w' => e = .returned (.int .i64 (Lib.indexByte s.data.toList c.toNat.toUInt8)) ∧ w = w' := by
  go_enter Tryz.func107, Tryz.ntmps107
  go_wp2
  rw [run_callFunc_extern Tryz.func111 (by kernel_rfl) (by kernel_rfl) (by kernel_rfl) (e := Extern.BytealgIndexByte.indexByte) (by kernel_rfl), Lib.run_indexByteString]
  simp only [Result.andThen]
  rw [Oper.upon_value]
  go_wp2
  go_ret
  exact ⟨rfl, rfl⟩

set_option maxHeartbeats 2000000 in
set_option maxRecDepth 100000 in
theorem liteIndex (s : ByteArray) (c : UInt8) (w : World) :
    Calls Tryz.prog 106 #[.string s, .string ⟨#[c]⟩] w fun e w' => e = .returned (.int .i64 (Lib.indexByte s.data.toList c)) ∧ w = w' := by
  go_enter Tryz.func106, Tryz.ntmps106
  go_wp2_with (go_at_call 107; refine (liteIndexByte _ _ _).mono ?_; rintro e w' ⟨rfl, rfl⟩)
  · have h : ([c] == s.toList) = true := by assumption
    go_ret
    refine ⟨?_, rfl⟩
    have e : s.data.toList = [c] := by rw [← Lib.toList_data]; exact (beq_iff_eq.1 h).symm
    rw [e]
    simp [Lib.indexByte]
  · go_ret
    refine ⟨ret_int ?_, rfl⟩
    congr 1

/-- What is told of a text at a byte: what is ahead of it, and behind it, if it is there. -/
def Cuts (c : UInt8) (s : ByteArray) (w : World) (e : Ending) (w' : World) : Prop :=
  ∃ (a b : ByteArray) (f : Bool), e = .returned (.tuple #[.string a, .string b, .bool f]) ∧ Below w.heap.size w w' ∧ c ∉ a.data.toList ∧
    (f = false → s.data.toList = a.data.toList) ∧ (f = true → s.data.toList = a.data.toList ++ c :: b.data.toList)

theorem cuts_no {c : UInt8} {s : ByteArray} {w : World} (h : Lib.indexByte s.data.toList c < 0) :
    Cuts c s w (.returned (.tuple #[.string s, .string ⟨#[]⟩, .bool false])) w :=
  ⟨s, _, false, rfl, Below.refl _ _, index_none h, fun _ => rfl, fun h => by cases h⟩

theorem cuts_yes {c : UInt8} {s : ByteArray} {w : World} {k m : Nat} {n : Nat} (hn : n = s.size) (h2 : k < s.data.toList.length) (h3 : c ∉ s.data.toList.take k) (h4 : s.data.toList = s.data.toList.take k ++ c :: s.data.toList.drop (k + 1)) :
    Cuts c s w (.returned (.tuple #[.string (s.extract 0 k), .string (s.extract (k + 1) n), .bool true])) (w.drewN m) := by
  subst hn
  have e1 : (s.extract 0 k).data.toList = s.data.toList.take k := by rw [Lib.extract_data]; simp
  have e2 : (s.extract (k + 1) s.size).data.toList = s.data.toList.drop (k + 1) := by
    rw [Lib.extract_data, List.take_of_length_le (by rw [Lib.size_eq]; simp)]
  refine ⟨_, _, true, rfl, below_drewN (Below.refl _ _) m, ?_, fun h => by (cases h), fun _ => ?_⟩
  · rw [e1]; exact h3
  · rw [e1, e2]; exact h4

set_option maxHeartbeats 1000000 in
theorem liteCut (s : ByteArray) (c : UInt8) (w : World) (hs : s.size ≤ 9223372036854775806) :
    Calls Tryz.prog 104 #[.string s, .string ⟨#[c]⟩] w (Cuts c s w) := by
  rcases (show Lib.indexByte s.data.toList c < 0 ∨ 0 ≤ Lib.indexByte s.data.toList c by omega) with h | h
  · have HC := Lib.hid (cuts_no (w := w) h)
    have hge := Lib.indexByte_ge s.data.toList c
    generalize hi : Lib.indexByte s.data.toList c = i at h hge
    have HI := Lib.hid hi
    clear hi
    go_enter Tryz.func104, Tryz.ntmps104
    go_wp2_with fail
    refine (liteIndex s c _).mono ?_
    rintro e w' ⟨rfl, rfl⟩
    rw [HI.out]
    go_wp2_with fail
    exact bodyPost_ret (v := .tuple #[.string s, .string ⟨#[]⟩, .bool false]) (by simp [results, Tryz.results104, go_sem]) rfl HC.out
  · obtain ⟨k, hi, h2, h3, h4⟩ := index_some h
    have HC := fun m => Lib.hid (cuts_yes (w := w) (m := m) (n := s.size) rfl h2 h3 h4)
    have hk : k < s.size := by rw [Lib.size_eq]; exact h2
    have HI := Lib.hid hi
    clear hi h h2 h3 h4
    have h5 : IntKind.i64.wrap ((k : Int) + 1) = (k : Int) + 1 := IntWalk.i64_in _ (by omega)
    have h6 : ((k : Int) + 1).toNat = k + 1 := by omega
    have h7 : (0 : Int) ≤ (k : Int) + 1 := by omega
    go_enter Tryz.func104, Tryz.ntmps104
    go_wp2_with fail
    refine (liteIndex s c _).mono ?_
    rintro e w' ⟨rfl, rfl⟩
    rw [HI.out]
    go_wp2_with fail
    go_quiet (fail)
    go_wp2_with fail
    exact bodyPost_ret (v := .tuple #[.string (s.extract 0 k), .string (s.extract (k + 1) s.size), .bool true]) (by simp [results, Tryz.results104, go_sem]) rfl (HC _).out

set_option maxHeartbeats 1000000 in
theorem strCut (s : ByteArray) (c : UInt8) (w : World) (hs : s.size ≤ 9223372036854775806) :
    Calls Tryz.prog 99 #[.string s, .string ⟨#[c]⟩] w (Cuts c s w) := by
  go_enter Tryz.func99, Tryz.ntmps99
  go_wp2_with fail
  refine (liteCut s c _ hs).mono ?_
  rintro e w' ⟨a, b, f, rfl, hb, hc, hf, ht⟩
  have H : Hid (Cuts c s w (.returned (.tuple #[.string a, .string b, .bool f])) w') := Lib.hid ⟨a, b, f, rfl, hb, hc, hf, ht⟩
  clear hb hc hf ht
  go_wp2_with fail
  exact bodyPost_ret (v := .tuple #[.string a, .string b, .bool f]) (by simp [results, Tryz.results99, go_sem]) rfl H.out
end Go.Proofs.YtapnodhgjfbjjaaGreat

namespace Go.Proofs.YtapnodhgjfbjjaaGreat
open Go.RowKit
set_option linter.unusedVariables false

theorem word_yes {s : ByteArray} {l : List UInt8} (h : (s.toList == l) = true) (hl : l ∈ wordsL) : wordB s.data.toList = true := by
  rw [Lib.toList_data] at h
  rw [beq_iff_eq.1 h]
  simp [wordB, hl]

theorem both_ways {s : ByteArray} {l : List UInt8} (h : (s.toList == l) = true) (h2 : (s.toList == l) = false) : False := by
  rw [h] at h2
  cases h2

theorem word_no {s : ByteArray} (h : ∀ l ∈ wordsL, (s.toList == l) = false) : wordB s.data.toList = false := by
  simp only [wordB, decide_eq_false_iff_not]
  intro hm
  have := h _ hm
  rw [Lib.toList_data] at this
  simp at this

set_option maxRecDepth 100000 in
set_option maxHeartbeats 4000000 in
theorem idWord (s : ByteArray) (w : World) : Calls Tryz.prog 56 #[.string s] w fun e w' => e = .returned (.bool (wordB s.data.toList)) ∧ w = w' := by
  go_enter Tryz.func56, Tryz.ntmps56
  go_wp2
  all_goals
    go_ret
    first
      | exact ⟨ret_bool (word_yes (by assumption) (by decide)).symm, rfl⟩
      | (exfalso; exact both_ways (by assumption) (by assumption))
      | exact ⟨ret_bool (word_no (fun l hl => by simp only [wordsL, List.mem_cons, List.not_mem_nil, or_false] at hl; rcases hl with h | h | h | h | h | h | h | h | h | h | h | h | h | h | h | h | h | h | h | h | h | h | h | h <;> subst h <;> assumption)).symm, rfl⟩
end Go.Proofs.YtapnodhgjfbjjaaGreat

namespace Go.Proofs.YtapnodhgjfbjjaaGreat
open Go.RowKit
set_option linter.unusedVariables false

def wordsS : List ByteArray := wordsL.map fun l => ⟨l.toArray⟩

theorem wordsS_at (k : Nat) (h : k < 24) : ∃ (l : List UInt8) (x : ByteArray), wordsS[k]? = some x ∧ x.toList = l ∧ l ∈ wordsL := by
  have hl : k < wordsL.length := h
  refine ⟨wordsL[k], ⟨wordsL[k].toArray⟩, ?_, ?_, List.getElem_mem hl⟩
  · simp [wordsS, List.getElem?_eq_getElem hl]
  · rw [Lib.toList_data]

theorem wordsS_all {s : ByteArray} (h : ∀ j, j < 24 → ((wordsS[j]?.getD ByteArray.empty).toList == s.toList) = false) : wordB s.data.toList = false := by
  apply word_no
  intro l hl
  obtain ⟨k, hk, e⟩ := List.getElem_of_mem hl
  have h1 := h k hk
  have h2 : wordsS[k]? = some ⟨l.toArray⟩ := by
    simp [wordsS, List.getElem?_eq_getElem hk, e]
  rw [h2] at h1
  simp only [Option.getD_some, Lib.toList_data] at h1
  rw [Lib.toList_data]
  rw [beq_eq_false_iff_ne] at h1 ⊢
  exact fun e => h1 e.symm

set_option maxRecDepth 100000 in
set_option maxHeartbeats 1000000 in
theorem refWords (w : World) : Calls Tryz.prog 77 #[] w fun e w' => ∃ A, e = .returned (.slice A 24 24) ∧ RdT w' A 24 wordsS ∧ Below w.heap.size w w' := by
  have HL := Lib.hid fun (cs : Array Value) (T : TypeId) => RdT.lit w T wordsS 24 rfl (by omega) cs
  go_enter Tryz.func77, Tryz.ntmps77
  go_wp2
  go_ret
  exact ⟨_, rfl, HL.out _ _ (by rfl), (Below.refl _ _).alloc (Nat.le_refl _) _⟩

set_option maxRecDepth 100000 in
set_option maxHeartbeats 1000000 in
theorem refWord (s : ByteArray) (w : World) : Calls Tryz.prog 65 #[.string s] w fun e w' => e = .returned (.bool (wordB s.data.toList)) ∧ Below w.heap.size w w' := by
  go_enter Tryz.func65, Tryz.ntmps65
  go_wp2_with fail
  refine (refWords _).mono ?_
  rintro e w' ⟨A, rfl, hrd, hbel⟩
  have HB := Lib.hid hbel
  obtain ⟨b, off, rfl, hb, hc⟩ := hrd.at_ (i := 0) (by omega)
  have HC := Lib.hid hc
  clear hbel hrd hc
  go_wp2_with fail
  go_loop [4] (fun i => ∃ k : Nat, k ≤ 24 ∧ i = .int .i64 k ∧ ∀ j, j < k → ((wordsS[j]?.getD ByteArray.empty).toList == s.toList) = false) (fun i => 24 - (intOf i).toNat)
  case atStart => exact ⟨0, Nat.zero_le _, rfl, fun j hj => absurd hj (by omega)⟩
  case round =>
    obtain ⟨k, hk, rfl, hall⟩ := hrel
    have HA := Lib.hid hall
    clear hall
    by_cases hlt : k < 24
    · obtain ⟨l, x, hx, hxl, hm⟩ := wordsS_at k hlt
      have hck := HC.out k hlt
      rw [hx] at hck
      simp only [Option.getD_some] at hck
      have HX := Lib.hid hx
      have HXL := Lib.hid hxl
      clear hx hxl
      by_cases heq : (x.toList == s.toList) = true
      · go_wp2
        go_ret
        refine ⟨ret_bool ?_, HB.out⟩
        exact (word_yes (l := l) (by rw [beq_iff_eq] at heq ⊢; rw [← heq, HXL.out]) hm).symm
      · have heq : (x.toList == s.toList) = false := by simpa using heq
        have HE := Lib.hid heq
        go_wp2
        go_round
        case rel =>
          refine ⟨k + 1, by omega, by go_num, fun j hj => ?_⟩
          rcases Nat.lt_or_ge j k with h | h
          · exact HA.out j h
          · obtain rfl : j = k := by omega
            rw [HX.out]
            exact HE.out
        case measure => simp [intOf]; omega
    · go_wp2
      go_ret
      exact ⟨ret_bool (wordsS_all fun j hj => HA.out j (by omega)).symm, HB.out⟩
end Go.Proofs.YtapnodhgjfbjjaaGreat
