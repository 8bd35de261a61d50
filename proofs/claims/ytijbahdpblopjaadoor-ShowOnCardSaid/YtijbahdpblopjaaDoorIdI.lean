/- What the document's cut returns: the parts of a text between a byte. Conditions: none. -/
import Derived.Test.YtijbahdpblopjaaDoorIdH
namespace Go.Proofs.YtijbahdpblopjaaDoor
open Go.RowKit
set_option linter.unusedVariables false

def partsOf (ss : List ByteArray) : List (List UInt8) := ss.map fun s => s.data.toList

/-- Of the text what is cut so far, and from where on it is to be cut, at place i. -/
def CutTo (c : UInt8) (s : ByteArray) (ss : List ByteArray) (f i : Nat) : Prop :=
  ss.length ≤ i ∧ ((i ≤ s.size ∧ f ≤ i ∧ cutL c s.data.toList = partsOf ss ++ cutL c (s.data.toList.drop f) ∧ c ∉ (s.data.toList.drop f).take (i - f)) ∨
  (i = s.size + 1 ∧ f = i ∧ cutL c s.data.toList = partsOf ss))

section
variable {c : UInt8} {s : ByteArray} {ss : List ByteArray} {f i : Nat}

theorem cutTo_zero : CutTo c s [] 0 0 := ⟨by simp, .inl ⟨by omega, by omega, by simp [partsOf], by simp⟩⟩

theorem cutTo_bd (H : CutTo c s ss f i) (hi : i ≤ s.size) : f ≤ i := by
  obtain ⟨_, h | h⟩ := H <;> omega

theorem extract_at (hi : i ≤ s.size) : (s.extract f i).data.toList = (s.data.toList.drop f).take (i - f) := Lib.extract_data s f i

/-- At the end the rest is the last part. -/
theorem cutTo_last (H : CutTo c s ss f i) (hi : i = s.size) : CutTo c s (ss ++ [s.extract f i]) (i + 1) (i + 1) := by
  subst hi
  obtain ⟨hl, h | h⟩ := H
  · obtain ⟨_, hf, he, hn⟩ := h
    refine ⟨by simp; omega, .inr ⟨rfl, rfl, ?_⟩⟩
    have h1 : (s.data.toList.drop f).take (s.size - f) = s.data.toList.drop f := List.take_of_length_le (by rw [Lib.size_eq]; simp)
    rw [h1] at hn
    rw [he, cutL_none hn]
    simp only [partsOf, List.map_append, List.map_cons, List.map_nil]
    rw [extract_at (Nat.le_refl _), h1]
  · omega

/-- At the byte a part ends. -/
theorem cutTo_cut (H : CutTo c s ss f i) (hi : i < s.size) (hc : s[i]'hi = c) : CutTo c s (ss ++ [s.extract f i]) (i + 1) (i + 1) := by
  obtain ⟨hl, h | h⟩ := H
  · obtain ⟨_, hf, he, hn⟩ := h
    have hlen : i < s.data.toList.length := by rw [← Lib.size_eq]; exact hi
    refine ⟨by simp; omega, .inl ⟨by omega, by omega, ?_, by simp⟩⟩
    have e1 : s.data.toList.drop f = (s.data.toList.drop f).take (i - f) ++ c :: s.data.toList.drop (i + 1) := by
      have h1 := (List.take_append_drop (i - f) (s.data.toList.drop f)).symm
      have h2 : (s.data.toList.drop f).drop (i - f) = c :: s.data.toList.drop (i + 1) := by
        rw [List.drop_drop, show f + (i - f) = i by omega, List.drop_eq_getElem_cons hlen, at_list s i hi, hc]
      rw [h2] at h1
      exact h1
    rw [he, e1, cutL_at hn]
    simp only [partsOf, List.map_append, List.map_cons, List.map_nil, List.append_assoc, List.singleton_append]
    rw [extract_at (by omega)]
  · omega

/-- At another byte the part goes on. -/
theorem cutTo_on (H : CutTo c s ss f i) (hi : i < s.size) (hc : ¬ s[i]'hi = c) : CutTo c s ss f (i + 1) := by
  obtain ⟨hl, h | h⟩ := H
  · obtain ⟨_, hf, he, hn⟩ := h
    have hlen : i < s.data.toList.length := by rw [← Lib.size_eq]; exact hi
    refine ⟨by omega, .inl ⟨by omega, by omega, he, ?_⟩⟩
    have e1 : i + 1 - f = (i - f) + 1 := by omega
    have hd : i - f < (s.data.toList.drop f).length := by rw [List.length_drop]; omega
    rw [e1, List.take_succ_eq_append_getElem hd, List.mem_append]
    rintro (h | h)
    · exact hn h
    · simp only [List.mem_singleton, List.getElem_drop] at h
      apply hc
      rw [← at_list s i hi, h]
      congr 1
      omega
  · omega

theorem cutTo_end (H : CutTo c s ss f i) (hi : ¬ i ≤ s.size) : cutL c s.data.toList = partsOf ss := by
  obtain ⟨_, h | h⟩ := H
  · omega
  · exact h.2.2
end

/-- What cut leaves: a slice of the call's own that reads as the parts. -/
def CutsTo (c : UInt8) (s : ByteArray) (w : World) (e : Ending) (w' : World) : Prop :=
  ∃ (A : Option Addr) (n k : Nat) (ss : List ByteArray), e = .returned (.slice A n k) ∧ RdT w' A n ss ∧ cutL c s.data.toList = partsOf ss ∧ n ≤ s.size + 1 ∧ Below w.heap.size w w'

theorem cutsTo_mk {c : UInt8} {s : ByteArray} {w w' : World} {base : Nat} {T : TypeId} {v : Value} {ss : List ByteArray} {f i n : Nat}
    (H : CutTo c s ss f i) (hi : ¬ i ≤ s.size) (hi2 : i ≤ s.size + 1) (hs : s.size ≤ 1000) (hn : n = ss.length) (hrow : w'.ownsRow base T 1 v n (ss.map Value.string)) (hb : Below w.heap.size w w') :
    CutsTo c s w (.returned v) w' := by
  have h1 := cutTo_end H hi
  have h2 := H.1
  obtain ⟨A, k, rfl, hrd, _⟩ := RdT.of_own hrow (by omega)
  exact ⟨A, n, k, ss, rfl, hrd, h1, by omega, hb⟩

theorem infoString : (Tryd.prog.info? 9).map (fun i => (i.zero, i.size, i.bytes)) = some (some (.string ByteArray.empty), 1, 16) := by kernel_rfl

theorem string_cells (l : List ByteArray) : ∀ u ∈ l.map Value.string, u.oneCell' = true := by
  intro u hu
  simp only [List.mem_map] at hu
  obtain ⟨z, _, rfl⟩ := hu
  rfl

set_option maxRecDepth 100000 in
set_option maxHeartbeats 2000000 in
theorem refCut (s : ByteArray) (x : Int) (c : UInt8) (hx : x = (c.toNat : Int)) (w : World) (hs : s.size ≤ 1000) :
    Calls Tryd.prog 59 #[.string s, .int .u8 x] w (CutsTo c s w) := by
  have HX := Lib.hid hx
  clear hx
  obtain ⟨i0, hi, hz0, hz1, hz2⟩ := info_parts infoString
  have hr0 := Lib.hid (World.ownsRow_lit (base := w.heap.size) (e := 9) (size := 1) w #[] 0 (Nat.le_refl _) (by decide) rfl)
  have HB0 := Lib.hid ((Below.refl w.heap.size w).alloc (Nat.le_refl _) (.cells #[] 9))
  go_enter Tryd.func59, Tryd.ntmps59
  go_wp2_with fail
  go_loopw [5, 6, 7] (fun v fr i wr => ∃ (ss : List ByteArray) (f k : Nat), i = .int .i64 k ∧ fr = .int .i64 f ∧ k ≤ s.size + 1 ∧ CutTo c s ss f k ∧ wr.ownsRow w.heap.size 9 1 v ss.length (ss.map Value.string) ∧ Below w.heap.size w wr)
    (fun _ _ i _ => s.size + 1 - (intOf i).toNat)
  case atStart => exact ⟨[], 0, 0, rfl, rfl, by omega, cutTo_zero, hr0.out, HB0.out⟩
  case round =>
    obtain ⟨ss, f, k, rfl, rfl, hk, hcut, hrow, hbel⟩ := hrel
    have HC := Lib.hid hcut
    have hsl := hcut.1
    have HR := Lib.hid hrow
    have HB := Lib.hid hbel
    have hws := hbel.size
    by_cases hle : k ≤ s.size
    · have hfk := cutTo_bd hcut hle
      clear hcut hrow hbel hr0 HB0
      by_cases hend : k = s.size
      · have hb1 : ((k : Int) == (s.size : Int)) = true := by rw [hend]; simp
        have HE := Lib.hid hend
        clear hend
        go_wp2_with (first | (at_builtin; refine wpList_append_own_at _ rfl _ _ 25 rfl w.heap.size 9 i0 (.string ByteArray.empty) 1 16 Tryd.underlying25 hi hz0 hz1 hz2 rfl (by decide) _ _ _ rfl (HR.out.alloc _) ⟨wr.heap.size, 0, none⟩ 1 1 [.string (s.extract f k)] rfl rfl (cell_one_new _ _ _) (string_cells [s.extract f k]) (by unfold maxLen; omega) (by omega) (by simp; omega) ?_; intro v' w1 hown' hgrow hnil hloc))
        have HO := Lib.hid hown'
        have HG := Lib.hid hgrow
        have hs1 := hgrow.size
        simp at hs1
        clear hown' hgrow hnil hloc
        go_roundw
        case rel =>
          refine ⟨ss ++ [s.extract f k], k + 1, k + 1, by go_num, by go_num, by omega, cutTo_last HC.out HE.out, ?_, ?_⟩
          · rw [List.length_append, List.map_append]
            exact HO.out
          · exact (HB.out.alloc (by have := HB.out.size; omega) _).grown HG.out (by have := HB.out.size; simp; omega) (fun j hj => (HR.out.lt j hj).1)
        case measure => simp [intOf]; omega
      · have hlt : k < s.size := by omega
        have hb1 : ((k : Int) == (s.size : Int)) = false := by rw [beq_eq_false_iff_ne]; omega
        clear hend
        by_cases hce : s[k]'hlt = c
        · have hb2 : (((s[k]'hlt).toNat : Int) == x) = true := by rw [HX.out, hce]; simp
          have HE := Lib.hid hce
          clear hce
          go_wp2_with (first | (at_builtin; refine wpList_append_own_at _ rfl _ _ 25 rfl w.heap.size 9 i0 (.string ByteArray.empty) 1 16 Tryd.underlying25 hi hz0 hz1 hz2 rfl (by decide) _ _ _ rfl (HR.out.alloc _) ⟨wr.heap.size, 0, none⟩ 1 1 [.string (s.extract f k)] rfl rfl (cell_one_new _ _ _) (string_cells [s.extract f k]) (by unfold maxLen; omega) (by omega) (by simp; omega) ?_; intro v' w1 hown' hgrow hnil hloc))
          have HO := Lib.hid hown'
          have HG := Lib.hid hgrow
          have hs1 := hgrow.size
          simp at hs1
          clear hown' hgrow hnil hloc
          go_roundw
          case rel =>
            refine ⟨ss ++ [s.extract f k], k + 1, k + 1, by go_num, by go_num, by omega, cutTo_cut HC.out hlt HE.out, ?_, ?_⟩
            · rw [List.length_append, List.map_append]
              exact HO.out
            · exact (HB.out.alloc (by have := HB.out.size; omega) _).grown HG.out (by have := HB.out.size; simp; omega) (fun j hj => (HR.out.lt j hj).1)
          case measure => simp [intOf]; omega
        · have hb2 : (((s[k]'hlt).toNat : Int) == x) = false := by
            rw [HX.out, beq_eq_false_iff_ne]
            intro e
            exact hce (UInt8.toNat_inj.1 (by omega))
          have HE := Lib.hid hce
          clear hce
          go_wp2_with fail
          go_roundw
          case rel => exact ⟨ss, f, k + 1, by go_num, rfl, by omega, cutTo_on HC.out hlt HE.out, HR.out, HB.out⟩
          case measure => simp [intOf]; omega
    · have HEND := Lib.hid (cutsTo_mk hcut hle hk hs rfl hrow hbel)
      clear hcut hrow hbel hr0 HB0
      go_wp2_with fail
      go_ret
      exact HEND.out
end Go.Proofs.YtijbahdpblopjaaDoor
