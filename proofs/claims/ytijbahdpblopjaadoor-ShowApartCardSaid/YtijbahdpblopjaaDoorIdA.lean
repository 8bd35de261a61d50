/- What ident's inner functions of runes return, and strings.Cut at a text of one byte. Conditions: none. -/
import Derived.Test.YtijbahdpblopjaaDoorBase
import Derived.Test.YtijbahdpblopjaaDoorIdM
import Derived.Test.YtijbahdpblopjaaDoorRows
import Derived.Lib.Strings
import Derived.Lib.Bytealg
import Derived.Lib.Walk
namespace Go.Proofs.YtijbahdpblopjaaDoor
open Go.RowKit
set_option linter.unusedVariables false

set_option maxHeartbeats 400000 in
theorem idSmall (x : Int) (w : World) : Calls Tryd.prog 77 #[.int .i32 x] w fun e w' => e = .returned (.bool (smallB x)) ∧ w = w' := by
  by_cases h1 : 97 ≤ x
  all_goals
    go_enter Tryd.func77, Tryd.ntmps77
    go_wp2
    go_ret
    exact ⟨ret_bool (by rw [Bool.eq_iff_iff]; simp [smallB, h1] <;> omega), rfl⟩

set_option maxHeartbeats 400000 in
theorem idGreat (x : Int) (w : World) : Calls Tryd.prog 79 #[.int .i32 x] w fun e w' => e = .returned (.bool (greatB x)) ∧ w = w' := by
  by_cases h1 : 65 ≤ x
  all_goals
    go_enter Tryd.func79, Tryd.ntmps79
    go_wp2
    go_ret
    exact ⟨ret_bool (by rw [Bool.eq_iff_iff]; simp [greatB, h1] <;> omega), rfl⟩

set_option maxHeartbeats 400000 in
theorem idDigit (x : Int) (w : World) : Calls Tryd.prog 96 #[.int .i32 x] w fun e w' => e = .returned (.bool (digitB x)) ∧ w = w' := by
  by_cases h1 : 48 ≤ x
  all_goals
    go_enter Tryd.func96, Tryd.ntmps96
    go_wp2
    go_ret
    exact ⟨ret_bool (by rw [Bool.eq_iff_iff]; simp [digitB, h1] <;> omega), rfl⟩

set_option maxHeartbeats 800000 in
theorem idInName (x : Int) (w : World) : Calls Tryd.prog 92 #[.int .i32 x] w fun e w' => e = .returned (.bool (nameC x)) ∧ w = w' := by
  by_cases h1 : smallB x = true
  · go_enter Tryd.func92, Tryd.ntmps92
    go_wp2_with fail
    refine (idSmall x _).mono ?_
    rintro e w' ⟨rfl, rfl⟩
    go_wp2_with fail
    go_ret
    exact ⟨ret_bool (by simp [nameC, h1]), rfl⟩
  · have h1 : smallB x = false := by simpa using h1
    by_cases h2 : greatB x = true
    · go_enter Tryd.func92, Tryd.ntmps92
      go_wp2_with fail
      refine (idSmall x _).mono ?_
      rintro e w' ⟨rfl, rfl⟩
      go_wp2_with fail
      refine (idGreat x _).mono ?_
      rintro e w' ⟨rfl, rfl⟩
      go_wp2_with fail
      go_ret
      exact ⟨ret_bool (by simp [nameC, h2]), rfl⟩
    · have h2 : greatB x = false := by simpa using h2
      by_cases h3 : digitB x = true
      all_goals
        go_enter Tryd.func92, Tryd.ntmps92
        go_wp2_with fail
        refine (idSmall x _).mono ?_
        rintro e w' ⟨rfl, rfl⟩
        go_wp2_with fail
        refine (idGreat x _).mono ?_
        rintro e w' ⟨rfl, rfl⟩
        go_wp2_with fail
        refine (idDigit x _).mono ?_
        rintro e w' ⟨rfl, rfl⟩
        go_wp2_with fail
        go_ret
        exact ⟨ret_bool (by rw [Bool.eq_iff_iff]; simp [nameC, h1, h2, h3]), rfl⟩

set_option maxHeartbeats 1000000 in
set_option maxRecDepth 100000 in
theorem liteIndexByte (s : ByteArray) (c : Int) (w : World) :
    Calls Tryd.prog 97 #[.string s, .int .u8 c] w fun e w' => e = .returned (.int .i64 (Lib.indexByte s.data.toList c.toNat.toUInt8)) ∧ w = w' := by
  go_enter Tryd.func97, Tryd.ntmps97
  go_wp2
  rw [run_callFunc_extern Tryd.func101 (by kernel_rfl) (by kernel_rfl) (by kernel_rfl) (e := Extern.BytealgIndexByte.indexByte) (by kernel_rfl), Lib.run_indexByteString]
  simp only [Result.andThen]
  rw [Oper.upon_value]
  go_wp2
  go_ret
  exact ⟨rfl, rfl⟩

set_option maxHeartbeats 2000000 in
set_option maxRecDepth 100000 in
theorem liteIndex (s : ByteArray) (c : UInt8) (w : World) :
    Calls Tryd.prog 95 #[.string s, .string ⟨#[c]⟩] w fun e w' => e = .returned (.int .i64 (Lib.indexByte s.data.toList c)) ∧ w = w' := by
  go_enter Tryd.func95, Tryd.ntmps95
  go_wp2_with (go_at_call 97; refine (liteIndexByte _ _ _).mono ?_; rintro e w' ⟨rfl, rfl⟩)
  · have h : ([c] == s.toList) = true := by assumption
    go_ret
    refine ⟨?_, rfl⟩
    have e : s.data.toList = [c] := by rw [← Lib.toList_data]; exact (beq_iff_eq.1 h).symm
    rw [e]
    simp [Lib.indexByte]
  · go_ret
    refine ⟨ret_int ?_, rfl⟩
    congr 1

/-- What is told of a text at a byte: what is ahead of it, and behind it, if it is there. -/
def Cuts (c : UInt8) (s : ByteArray) (w : World) (e : Ending) (w' : World) : Prop :=
  ∃ (a b : ByteArray) (f : Bool), e = .returned (.tuple #[.string a, .string b, .bool f]) ∧ Below w.heap.size w w' ∧ c ∉ a.data.toList ∧
    (f = false → s.data.toList = a.data.toList) ∧ (f = true → s.data.toList = a.data.toList ++ c :: b.data.toList)

theorem cuts_no {c : UInt8} {s : ByteArray} {w : World} (h : Lib.indexByte s.data.toList c < 0) :
    Cuts c s w (.returned (.tuple #[.string s, .string ⟨#[]⟩, .bool false])) w :=
  ⟨s, _, false, rfl, Below.refl _ _, index_none h, fun _ => rfl, fun h => by cases h⟩

theorem cuts_yes {c : UInt8} {s : ByteArray} {w : World} {k m : Nat} {n : Nat} (hn : n = s.size) (h2 : k < s.data.toList.length) (h3 : c ∉ s.data.toList.take k) (h4 : s.data.toList = s.data.toList.take k ++ c :: s.data.toList.drop (k + 1)) :
    Cuts c s w (.returned (.tuple #[.string (s.extract 0 k), .string (s.extract (k + 1) n), .bool true])) (w.drewN m) := by
  subst hn
  have e1 : (s.extract 0 k).data.toList = s.data.toList.take k := by rw [Lib.extract_data]; simp
  have e2 : (s.extract (k + 1) s.size).data.toList = s.data.toList.drop (k + 1) := by
    rw [Lib.extract_data, List.take_of_length_le (by rw [Lib.size_eq]; simp)]
  refine ⟨_, _, true, rfl, below_drewN (Below.refl _ _) m, ?_, fun h => by (cases h), fun _ => ?_⟩
  · rw [e1]; exact h3
  · rw [e1, e2]; exact h4

set_option maxHeartbeats 1000000 in
theorem liteCut (s : ByteArray) (c : UInt8) (w : World) (hs : s.size ≤ 9223372036854775806) :
    Calls Tryd.prog 88 #[.string s, .string ⟨#[c]⟩] w (Cuts c s w) := by
  rcases (show Lib.indexByte s.data.toList c < 0 ∨ 0 ≤ Lib.indexByte s.data.toList c by omega) with h | h
  · have HC := Lib.hid (cuts_no (w := w) h)
    have hge := Lib.indexByte_ge s.data.toList c
    generalize hi : Lib.indexByte s.data.toList c = i at h hge
    have HI := Lib.hid hi
    clear hi
    go_enter Tryd.func88, Tryd.ntmps88
    go_wp2_with fail
    refine (liteIndex s c _).mono ?_
    rintro e w' ⟨rfl, rfl⟩
    rw [HI.out]
    go_wp2_with fail
    exact bodyPost_ret (v := .tuple #[.string s, .string ⟨#[]⟩, .bool false]) (by simp [results, Tryd.results88, go_sem]) rfl HC.out
  · obtain ⟨k, hi, h2, h3, h4⟩ := index_some h
    have HC := fun m => Lib.hid (cuts_yes (w := w) (m := m) (n := s.size) rfl h2 h3 h4)
    have hk : k < s.size := by rw [Lib.size_eq]; exact h2
    have HI := Lib.hid hi
    clear hi h h2 h3 h4
    have h5 : IntKind.i64.wrap ((k : Int) + 1) = (k : Int) + 1 := IntWalk.i64_in _ (by omega)
    have h6 : ((k : Int) + 1).toNat = k + 1 := by omega
    have h7 : (0 : Int) ≤ (k : Int) + 1 := by omega
    go_enter Tryd.func88, Tryd.ntmps88
    go_wp2_with fail
    refine (liteIndex s c _).mono ?_
    rintro e w' ⟨rfl, rfl⟩
    rw [HI.out]
    go_wp2_with fail
    go_quiet (fail)
    go_wp2_with fail
    exact bodyPost_ret (v := .tuple #[.string (s.extract 0 k), .string (s.extract (k + 1) s.size), .bool true]) (by simp [results, Tryd.results88, go_sem]) rfl (HC _).out

set_option maxHeartbeats 1000000 in
theorem strCut (s : ByteArray) (c : UInt8) (w : World) (hs : s.size ≤ 9223372036854775806) :
    Calls Tryd.prog 71 #[.string s, .string ⟨#[c]⟩] w (Cuts c s w) := by
  go_enter Tryd.func71, Tryd.ntmps71
  go_wp2_with fail
  refine (liteCut s c _ hs).mono ?_
  rintro e w' ⟨a, b, f, rfl, hb, hc, hf, ht⟩
  have H : Hid (Cuts c s w (.returned (.tuple #[.string a, .string b, .bool f])) w') := Lib.hid ⟨a, b, f, rfl, hb, hc, hf, ht⟩
  clear hb hc hf ht
  go_wp2_with fail
  exact bodyPost_ret (v := .tuple #[.string a, .string b, .bool f]) (by simp [results, Tryd.results71, go_sem]) rfl H.out
end Go.Proofs.YtijbahdpblopjaaDoor
