/- What the document's cut returns: the parts of a text between a byte. Conditions: none. What the document's Path returns; the walk of IdentPaths. Conditions: none. -/
import Derived.Test.YtapnodhgjfbjjaaGreatIdW
namespace Go.Proofs.YtapnodhgjfbjjaaGreat
open Go.RowKit
set_option linter.unusedVariables false

def partsOf (ss : List ByteArray) : List (List UInt8) := ss.map fun s => s.data.toList

/-- Of the text what is cut so far, and from where on it is to be cut, at place i. -/
def CutTo (c : UInt8) (s : ByteArray) (ss : List ByteArray) (f i : Nat) : Prop :=
  ss.length ≤ i ∧ ((i ≤ s.size ∧ f ≤ i ∧ cutL c s.data.toList = partsOf ss ++ cutL c (s.data.toList.drop f) ∧ c ∉ (s.data.toList.drop f).take (i - f)) ∨
  (i = s.size + 1 ∧ f = i ∧ cutL c s.data.toList = partsOf ss))

section
variable {c : UInt8} {s : ByteArray} {ss : List ByteArray} {f i : Nat}

theorem cutTo_zero : CutTo c s [] 0 0 := ⟨by simp, .inl ⟨by omega, by omega, by simp [partsOf], by simp⟩⟩

theorem cutTo_bd (H : CutTo c s ss f i) (hi : i ≤ s.size) : f ≤ i := by
  obtain ⟨_, h | h⟩ := H <;> omega

theorem extract_at (hi : i ≤ s.size) : (s.extract f i).data.toList = (s.data.toList.drop f).take (i - f) := Lib.extract_data s f i

/-- At the end the rest is the last part. -/
theorem cutTo_last (H : CutTo c s ss f i) (hi : i = s.size) : CutTo c s (ss ++ [s.extract f i]) (i + 1) (i + 1) := by
  subst hi
  obtain ⟨hl, h | h⟩ := H
  · obtain ⟨_, hf, he, hn⟩ := h
    refine ⟨by simp; omega, .inr ⟨rfl, rfl, ?_⟩⟩
    have h1 : (s.data.toList.drop f).take (s.size - f) = s.data.toList.drop f := List.take_of_length_le (by rw [Lib.size_eq]; simp)
    rw [h1] at hn
    rw [he, cutL_none hn]
    simp only [partsOf, List.map_append, List.map_cons, List.map_nil]
    rw [extract_at (Nat.le_refl _), h1]
  · omega

/-- At the byte a part ends. -/
theorem cutTo_cut (H : CutTo c s ss f i) (hi : i < s.size) (hc : s[i]'hi = c) : CutTo c s (ss ++ [s.extract f i]) (i + 1) (i + 1) := by
  obtain ⟨hl, h | h⟩ := H
  · obtain ⟨_, hf, he, hn⟩ := h
    have hlen : i < s.data.toList.length := by rw [← Lib.size_eq]; exact hi
    refine ⟨by simp; omega, .inl ⟨by omega, by omega, ?_, by simp⟩⟩
    have e1 : s.data.toList.drop f = (s.data.toList.drop f).take (i - f) ++ c :: s.data.toList.drop (i + 1) := by
      have h1 := (List.take_append_drop (i - f) (s.data.toList.drop f)).symm
      have h2 : (s.data.toList.drop f).drop (i - f) = c :: s.data.toList.drop (i + 1) := by
        rw [List.drop_drop, show f + (i - f) = i by omega, List.drop_eq_getElem_cons hlen, at_list s i hi, hc]
      rw [h2] at h1
      exact h1
    rw [he, e1, cutL_at hn]
    simp only [partsOf, List.map_append, List.map_cons, List.map_nil, List.append_assoc, List.singleton_append]
    rw [extract_at (by omega)]
  · omega

/-- At another byte the part goes on. -/
theorem cutTo_on (H : CutTo c s ss f i) (hi : i < s.size) (hc : ¬ s[i]'hi = c) : CutTo c s ss f (i + 1) := by
  obtain ⟨hl, h | h⟩ := H
  · obtain ⟨_, hf, he, hn⟩ := h
    have hlen : i < s.data.toList.length := by rw [← Lib.size_eq]; exact hi
    refine ⟨by omega, .inl ⟨by omega, by omega, he, ?_⟩⟩
    have e1 : i + 1 - f = (i - f) + 1 := by omega
    have hd : i - f < (s.data.toList.drop f).length := by rw [List.length_drop]; omega
    rw [e1, List.take_succ_eq_append_getElem hd, List.mem_append]
    rintro (h | h)
    · exact hn h
    · simp only [List.mem_singleton, List.getElem_drop] at h
      apply hc
      rw [← at_list s i hi, h]
      congr 1
      omega
  · omega

theorem cutTo_end (H : CutTo c s ss f i) (hi : ¬ i ≤ s.size) : cutL c s.data.toList = partsOf ss := by
  obtain ⟨_, h | h⟩ := H
  · omega
  · exact h.2.2
end

/-- What cut leaves: a slice of the call's own that reads as the parts. -/
def CutsTo (c : UInt8) (s : ByteArray) (w : World) (e : Ending) (w' : World) : Prop :=
  ∃ (A : Option Addr) (n k : Nat) (ss : List ByteArray), e = .returned (.slice A n k) ∧ RdT w' A n ss ∧ cutL c s.data.toList = partsOf ss ∧ n ≤ s.size + 1 ∧ Below w.heap.size w w'

theorem cutsTo_mk {c : UInt8} {s : ByteArray} {w w' : World} {base : Nat} {T : TypeId} {v : Value} {ss : List ByteArray} {f i n : Nat}
    (H : CutTo c s ss f i) (hi : ¬ i ≤ s.size) (hi2 : i ≤ s.size + 1) (hs : s.size ≤ 1000) (hn : n = ss.length) (hrow : w'.ownsRow base T 1 v n (ss.map Value.string)) (hb : Below w.heap.size w w') :
    CutsTo c s w (.returned v) w' := by
  have h1 := cutTo_end H hi
  have h2 := H.1
  obtain ⟨A, k, rfl, hrd, _⟩ := RdT.of_own hrow (by omega)
  exact ⟨A, n, k, ss, rfl, hrd, h1, by omega, hb⟩

theorem infoString : (Tryz.prog.info? 9).map (fun i => (i.zero, i.size, i.bytes)) = some (some (.string ByteArray.empty), 1, 16) := by kernel_rfl

theorem string_cells (l : List ByteArray) : ∀ u ∈ l.map Value.string, u.oneCell' = true := by
  intro u hu
  simp only [List.mem_map] at hu
  obtain ⟨z, _, rfl⟩ := hu
  rfl

set_option maxRecDepth 100000 in
set_option maxHeartbeats 2000000 in
theorem refCut (s : ByteArray) (x : Int) (c : UInt8) (hx : x = (c.toNat : Int)) (w : World) (hs : s.size ≤ 1000) :
    Calls Tryz.prog 103 #[.string s, .int .u8 x] w (CutsTo c s w) := by
  have HX := Lib.hid hx
  clear hx
  obtain ⟨i0, hi, hz0, hz1, hz2⟩ := info_parts infoString
  have hr0 := Lib.hid (World.ownsRow_lit (base := w.heap.size) (e := 9) (size := 1) w #[] 0 (Nat.le_refl _) (by decide) rfl)
  have HB0 := Lib.hid ((Below.refl w.heap.size w).alloc (Nat.le_refl _) (.cells #[] 9))
  go_enter Tryz.func103, Tryz.ntmps103
  go_wp2_with fail
  go_loopw [5, 6, 7] (fun v fr i wr => ∃ (ss : List ByteArray) (f k : Nat), i = .int .i64 k ∧ fr = .int .i64 f ∧ k ≤ s.size + 1 ∧ CutTo c s ss f k ∧ wr.ownsRow w.heap.size 9 1 v ss.length (ss.map Value.string) ∧ Below w.heap.size w wr)
    (fun _ _ i _ => s.size + 1 - (intOf i).toNat)
  case atStart => exact ⟨[], 0, 0, rfl, rfl, by omega, cutTo_zero, hr0.out, HB0.out⟩
  case round =>
    obtain ⟨ss, f, k, rfl, rfl, hk, hcut, hrow, hbel⟩ := hrel
    have HC := Lib.hid hcut
    have hsl := hcut.1
    have HR := Lib.hid hrow
    have HB := Lib.hid hbel
    have hws := hbel.size
    by_cases hle : k ≤ s.size
    · have hfk := cutTo_bd hcut hle
      clear hcut hrow hbel hr0 HB0
      by_cases hend : k = s.size
      · have hb1 : ((k : Int) == (s.size : Int)) = true := by rw [hend]; simp
        have HE := Lib.hid hend
        clear hend
        go_wp2_with (first | (at_builtin; refine wpList_append_own_at _ rfl _ _ 38 rfl w.heap.size 9 i0 (.string ByteArray.empty) 1 16 Tryz.underlying38 hi hz0 hz1 hz2 rfl (by decide) _ _ _ rfl (HR.out.alloc _) ⟨wr.heap.size, 0, none⟩ 1 1 [.string (s.extract f k)] rfl rfl (cell_one_new _ _ _) (string_cells [s.extract f k]) (by unfold maxLen; omega) (by omega) (by simp; omega) ?_; intro v' w1 hown' hgrow hnil hloc))
        have HO := Lib.hid hown'
        have HG := Lib.hid hgrow
        have hs1 := hgrow.size
        simp at hs1
        clear hown' hgrow hnil hloc
        go_roundw
        case rel =>
          refine ⟨ss ++ [s.extract f k], k + 1, k + 1, by go_num, by go_num, by omega, cutTo_last HC.out HE.out, ?_, ?_⟩
          · rw [List.length_append, List.map_append]
            exact HO.out
          · exact (HB.out.alloc (by have := HB.out.size; omega) _).grown HG.out (by have := HB.out.size; simp; omega) (fun j hj => (HR.out.lt j hj).1)
        case measure => simp [intOf]; omega
      · have hlt : k < s.size := by omega
        have hb1 : ((k : Int) == (s.size : Int)) = false := by rw [beq_eq_false_iff_ne]; omega
        clear hend
        by_cases hce : s[k]'hlt = c
        · have hb2 : (((s[k]'hlt).toNat : Int) == x) = true := by rw [HX.out, hce]; simp
          have HE := Lib.hid hce
          clear hce
          go_wp2_with (first | (at_builtin; refine wpList_append_own_at _ rfl _ _ 38 rfl w.heap.size 9 i0 (.string ByteArray.empty) 1 16 Tryz.underlying38 hi hz0 hz1 hz2 rfl (by decide) _ _ _ rfl (HR.out.alloc _) ⟨wr.heap.size, 0, none⟩ 1 1 [.string (s.extract f k)] rfl rfl (cell_one_new _ _ _) (string_cells [s.extract f k]) (by unfold maxLen; omega) (by omega) (by simp; omega) ?_; intro v' w1 hown' hgrow hnil hloc))
          have HO := Lib.hid hown'
          have HG := Lib.hid hgrow
          have hs1 := hgrow.size
          simp at hs1
          clear hown' hgrow hnil hloc
          go_roundw
          case rel =>
            refine ⟨ss ++ [s.extract f k], k + 1, k + 1, by go_num, by go_num, by omega, cutTo_cut HC.out hlt HE.out, ?_, ?_⟩
            · rw [List.length_append, List.map_append]
              exact HO.out
            · exact (HB.out.alloc (by have := HB.out.size; omega) _).grown HG.out (by have := HB.out.size; simp; omega) (fun j hj => (HR.out.lt j hj).1)
          case measure => simp [intOf]; omega
        · have hb2 : (((s[k]'hlt).toNat : Int) == x) = false := by
            rw [HX.out, beq_eq_false_iff_ne]
            intro e
            exact hce (UInt8.toNat_inj.1 (by omega))
          have HE := Lib.hid hce
          clear hce
          go_wp2_with fail
          go_roundw
          case rel => exact ⟨ss, f, k + 1, by go_num, rfl, by omega, cutTo_on HC.out hlt HE.out, HR.out, HB.out⟩
          case measure => simp [intOf]; omega
    · have HEND := Lib.hid (cutsTo_mk hcut hle hk hs rfl hrow hbel)
      clear hcut hrow hbel hr0 HB0
      go_wp2_with fail
      go_ret
      exact HEND.out
end Go.Proofs.YtapnodhgjfbjjaaGreat

namespace Go.Proofs.YtapnodhgjfbjjaaGreat
open Go.RowKit
set_option linter.unusedVariables false

theorem cutL_len {c : UInt8} : ∀ {l p : List UInt8}, p ∈ cutL c l → p.length ≤ l.length
  | [], p, h => by simp [cutL] at h; simp [h]
  | b :: l, p, h => by
    unfold cutL at h
    split at h
    · rcases List.mem_cons.1 h with h | h
      · simp [h]
      · have := cutL_len h; simp; omega
    · cases hc : cutL c l with
      | nil => rw [hc] at h; simp at h; simp [h]
      | cons q qs =>
        rw [hc] at h
        rcases List.mem_cons.1 h with h | h
        · have := cutL_len (l := l) (c := c) (p := q) (by rw [hc]; simp)
          rw [h]
          simp
          omega
        · have := cutL_len (l := l) (c := c) (p := p) (by rw [hc]; simp [h])
          simp
          omega

theorem parts_len {c : UInt8} {s : ByteArray} {ss : List ByteArray} {k : Nat} (h : cutL c s.data.toList = partsOf ss) (hk : k < ss.length) : (ss[k]?.getD ByteArray.empty).size ≤ s.size := by
  rw [List.getElem?_eq_getElem hk, Option.getD_some, Lib.size_eq, Lib.size_eq]
  apply cutL_len (c := c)
  rw [h]
  exact List.mem_map.2 ⟨_, List.getElem_mem hk, rfl⟩

/-- The first k parts are right. -/
def partsTo (ss : List ByteArray) (k : Nat) : Prop := ∀ j, j < k → partB (ss[j]?.getD ByteArray.empty).data.toList = true

section
variable {s : ByteArray} {ss : List ByteArray} {k : Nat}
theorem partsTo_succ (H : partsTo ss k) (h : partB (ss[k]?.getD ByteArray.empty).data.toList = true) : partsTo ss (k + 1) := fun j hj => by
  rcases Nat.lt_or_ge j k with h1 | h1
  · exact H j h1
  · obtain rfl : j = k := by omega
    exact h
theorem path_end (hc : cutL 47 s.data.toList = partsOf ss) (H : partsTo ss k) (h : ss.length ≤ k) : pathB s.data.toList = true := by
  unfold pathB
  rw [hc, List.all_eq_true]
  intro p hp
  obtain ⟨x, hx, rfl⟩ := List.mem_map.1 hp
  obtain ⟨j, hj, rfl⟩ := List.getElem_of_mem hx
  have := H j (by omega)
  rwa [List.getElem?_eq_getElem hj] at this
theorem path_bad (hc : cutL 47 s.data.toList = partsOf ss) (hk : k < ss.length) (h : partB (ss[k]?.getD ByteArray.empty).data.toList = false) : pathB s.data.toList = false := by
  unfold pathB
  rw [hc]
  cases ha : (partsOf ss).all partB with
  | false => rfl
  | true =>
    rw [List.all_eq_true] at ha
    have := ha _ (List.mem_map.2 ⟨ss[k], List.getElem_mem hk, rfl⟩)
    rw [List.getElem?_eq_getElem hk, Option.getD_some, this] at h
    cases h
end

section
variable {x : ByteArray} {ps : List ByteArray} {m : Nat}
theorem part_many (hc : cutL 46 x.data.toList = partsOf ps) (h : 2 < ps.length) : partB x.data.toList = false := by
  unfold partB
  rw [hc]
  match ps, h with
  | a :: b :: c :: r, _ => rfl
theorem part_low (hc : cutL 46 x.data.toList = partsOf ps) (h : lowB (ps[0]?.getD ByteArray.empty).data.toList = false) (h0 : 0 < ps.length) : partB x.data.toList = false := by
  unfold partB
  rw [hc]
  match ps, h0 with
  | [a], _ => exact h
  | [a, b], _ => show (lowB a.data.toList && _) = false; rw [show lowB a.data.toList = false from h]; rfl
  | a :: b :: c :: r, _ => rfl
theorem part_one (hc : cutL 46 x.data.toList = partsOf ps) (h : lowB (ps[0]?.getD ByteArray.empty).data.toList = true) (h1 : ps.length = 1) : partB x.data.toList = true := by
  unfold partB
  rw [hc]
  match ps, h1 with
  | [a], _ => exact h
theorem part_two (hc : cutL 46 x.data.toList = partsOf ps) (h : lowB (ps[0]?.getD ByteArray.empty).data.toList = true) (h2 : ps.length = 2) : partB x.data.toList = numB (ps[1]?.getD ByteArray.empty).data.toList := by
  unfold partB
  rw [hc]
  match ps, h2 with
  | [a, b], _ => show (lowB a.data.toList && numB b.data.toList) = _; rw [show lowB a.data.toList = true from h]; rfl
theorem parts_pos {c : UInt8} (hc : cutL c x.data.toList = partsOf ps) : 0 < ps.length := by
  cases ps with
  | nil => exact absurd hc (cutL_ne _ _)
  | cons a r => simp
end

set_option maxRecDepth 100000 in
set_option maxHeartbeats 4000000 in
theorem refPath (s : ByteArray) (w : World) (hs : s.size ≤ 1000) :
    Calls Tryz.prog 96 #[.string s] w fun e w' => e = .returned (.bool (pathB s.data.toList)) ∧ Below w.heap.size w w' := by
  have hx47 : (47 : Int) = ((47 : UInt8).toNat : Int) := by decide
  have hx46 : (46 : Int) = ((46 : UInt8).toNat : Int) := by decide
  have HCUT := Lib.hid fun (w : World) => refCut s 47 47 hx47 w hs
  have HCUT2 := Lib.hid fun (x : ByteArray) (w : World) (hs : x.size ≤ 1000) => refCut x 46 46 hx46 w hs
  clear hx47 hx46
  go_enter Tryz.func96, Tryz.ntmps96
  go_wp2_with fail
  refine (HCUT.out _).mono ?_
  rintro e w1 ⟨A, n, c, ss, rfl, hrd, hcut, hn1, hb⟩
  have HB1 := Lib.hid hb
  have HCS := Lib.hid hcut
  have HL := Lib.hid hrd.len
  clear hb hcut HCUT
  go_wp2_with fail
  go_loopw [4] (fun i wr => ∃ k : Nat, k ≤ n ∧ i = .int .i64 k ∧ partsTo ss k ∧ Below w1.heap.size w1 wr) (fun i _ => n - (intOf i).toNat)
  case atStart => exact ⟨0, Nat.zero_le _, rfl, fun j hj => absurd hj (by omega), Below.refl _ _⟩
  case round =>
    obtain ⟨k, hk, rfl, hpt, hbw⟩ := hrel
    have HP := Lib.hid hpt
    have HB := Lib.hid hbw
    clear hpt
    by_cases hlt : k < n
    · obtain ⟨b, off, rfl, hbb, hc⟩ := hrd.at_ hlt
      have hck := (hbw.cell (p := ⟨b, off + k, none⟩) hbb).trans (hc k hlt)
      have hkk : k < ss.length := by rw [HL.out]; exact hlt
      have hxs := parts_len HCS.out hkk
      have HBAD := Lib.hid fun h => path_bad HCS.out hkk h
      have HNEXT := Lib.hid fun h => partsTo_succ HP.out h
      generalize hx : ss[k]?.getD ByteArray.empty = x at hck hxs HBAD HNEXT
      clear hc hbw hx hkk
      go_wp2_with fail
      refine (HCUT2.out x _ (by omega)).mono ?_
      rintro e w2 ⟨A2, n2, c2, ps, rfl, hrd2, hcut2, hn2, hb2⟩
      have HB2 := Lib.hid (HB.out.trans (hb2.mono HB.out.size))
      have h0 := parts_pos hcut2
      have hl2 := hrd2.len
      obtain ⟨b2, off2, rfl, hbb2, hc2⟩ := hrd2.at_ (i := 0) (by omega)
      have hc0 := hc2 0 (by omega)
      rw [Nat.add_zero] at hc0
      have ha := parts_len hcut2 h0
      have h0n : 0 < n2 := by omega
      by_cases h3 : 2 < n2
      · have HE := Lib.hid (HBAD.out (part_many hcut2 (by omega)))
        clear hcut2 hb2 hrd2 hc2 hc0 hl2
        go_wp2_with fail
        go_ret
        exact ⟨ret_bool HE.out.symm, HB1.out.trans (HB2.out.mono HB1.out.size)⟩
      · by_cases hlow : lowB (ps[0]?.getD ByteArray.empty).data.toList = true
        · by_cases h1 : n2 < 2
          · have HE := Lib.hid (HNEXT.out (part_one hcut2 hlow (by omega)))
            clear hcut2 hb2 hrd2 hc2 hl2
            generalize ps[0]?.getD ByteArray.empty = a at hc0 ha hlow
            go_wp2_with fail
            refine (refLow a _ (by omega)).mono ?_
            rw [hlow]
            rintro e w3 ⟨rfl, hb3⟩
            have HB3 := Lib.hid (HB2.out.trans (hb3.mono HB2.out.size))
            clear hb3 hlow
            go_wp2_with fail
            go_roundw
            case rel => exact ⟨k + 1, by omega, by go_num, HE.out, HB3.out⟩
            case measure => simp [intOf]; omega
          · have hE := part_two hcut2 hlow (by omega)
            have hc1 := hc2 1 (by omega)
            have hy := parts_len hcut2 (k := 1) (by omega)
            clear hcut2 hb2 hrd2 hc2 hl2
            generalize ps[0]?.getD ByteArray.empty = a at hc0 ha hlow
            generalize ps[1]?.getD ByteArray.empty = y at hc1 hy hE
            have HE := Lib.hid hE
            clear hE
            go_wp2_with fail
            refine (refLow a _ (by omega)).mono ?_
            rw [hlow]
            rintro e w3 ⟨rfl, hb3⟩
            have HB3 := Lib.hid (HB2.out.trans (hb3.mono HB2.out.size))
            have hc1 := (hb3.cell (p := ⟨b2, off2 + 1, none⟩) hbb2).trans hc1
            clear hb3 hlow
            have hdt : decide ((n2 : Int) < 2) = false := decide_eq_false (by omega)
            have h1n : 1 < n2 := by omega
            by_cases g1 : y.size < 1
            · have HF := Lib.hid (HBAD.out (HE.out.trans (num_len (.inl g1))))
              go_wp2_with fail
              go_ret
              exact ⟨ret_bool HF.out.symm, HB1.out.trans (HB3.out.mono HB1.out.size)⟩
            · by_cases g2 : 3 < y.size
              · have HF := Lib.hid (HBAD.out (HE.out.trans (num_len (.inr g2))))
                go_wp2_with fail
                go_ret
                exact ⟨ret_bool HF.out.symm, HB1.out.trans (HB3.out.mono HB1.out.size)⟩
              · have hd1 : decide ((y.size : Int) < 1) = false := decide_eq_false (by omega)
                have hd2 : decide ((3 : Int) < (y.size : Int)) = false := decide_eq_false (by omega)
                have hd3 : decide ((2 : Int) < (n2 : Int)) = false := decide_eq_false (by omega)
                have y0 : 0 < y.size := by omega
                have y3 : y.size ≤ 3 := by omega
                clear g1 g2
                by_cases hf : ((y[0]'y0).toNat : Int) = 48
                · have HF := Lib.hid (HBAD.out (HE.out.trans (num_first y0 hf)))
                  have hfb : (((y[0]'y0).toNat : Int) == 48) = true := by simpa using hf
                  clear hf
                  go_wp2_with fail
                  go_ret
                  exact ⟨ret_bool HF.out.symm, HB1.out.trans (HB3.out.mono HB1.out.size)⟩
                · have HF := Lib.hid hf
                  have hfb : (((y[0]'y0).toNat : Int) == 48) = false := by simpa using hf
                  clear hf
                  go_wp2_with fail
                  go_loopw [7] (fun i wr => ∃ j : Nat, j ≤ y.size ∧ i = .int .i64 j ∧ wr = w3 ∧ Digits y j) (fun i _ => y.size - (intOf i).toNat)
                  case atStart => exact ⟨0, Nat.zero_le _, rfl, rfl, digits_zero⟩
                  case round =>
                    obtain ⟨j, hj, rfl, rfl, hdg⟩ := hrel
                    have HD := Lib.hid hdg
                    clear hdg
                    by_cases hjy : j < y.size
                    · by_cases hdj : digitB ((y[j]'hjy).toNat : Int) = true
                      · go_wp2_with (go_at_call 76; refine (refInD _ _).mono ?_; rintro e w' ⟨rfl, rfl⟩)
                        go_roundw
                        case rel => exact ⟨j + 1, by omega, by go_num, (by first | trivial | rfl), digits_snoc HD.out hjy hdj⟩
                        case measure => simp [intOf]; omega
                      · have hdj : digitB ((y[j]'hjy).toNat : Int) = false := by simpa using hdj
                        have HG := Lib.hid (HBAD.out (HE.out.trans (num_at hjy hdj)))
                        go_wp2_with (go_at_call 76; refine (refInD _ _).mono ?_; rintro e w' ⟨rfl, rfl⟩)
                        go_ret
                        exact ⟨ret_bool HG.out.symm, HB1.out.trans (HB3.out.mono HB1.out.size)⟩
                    · have HG := Lib.hid (HNEXT.out (HE.out.trans (num_yes y0 y3 HF.out fun i h => HD.out i h (by omega))))
                      go_wp2_with fail
                      go_roundw
                      case rel => exact ⟨k + 1, by omega, by go_num, HG.out, HB3.out⟩
                      case measure => simp [intOf]; omega
        · have hlow : lowB (ps[0]?.getD ByteArray.empty).data.toList = false := by simpa using hlow
          have HE := Lib.hid (HBAD.out (part_low hcut2 hlow h0))
          clear hcut2 hb2 hrd2 hc2 hl2
          generalize ps[0]?.getD ByteArray.empty = a at hc0 ha hlow
          go_wp2_with fail
          refine (refLow a _ (by omega)).mono ?_
          rw [hlow]
          rintro e w3 ⟨rfl, hb3⟩
          have HB3 := Lib.hid (HB2.out.trans (hb3.mono HB2.out.size))
          clear hb3 hlow
          go_wp2_with fail
          go_ret
          exact ⟨ret_bool HE.out.symm, HB1.out.trans (HB3.out.mono HB1.out.size)⟩
    · go_wp2_with fail
      go_ret
      exact ⟨ret_bool (path_end HCS.out HP.out (by rw [HL.out]; omega)).symm, HB1.out.trans (HB.out.mono HB1.out.size)⟩

end Go.Proofs.YtapnodhgjfbjjaaGreat
