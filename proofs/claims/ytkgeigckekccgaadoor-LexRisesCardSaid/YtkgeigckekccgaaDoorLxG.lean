/- What lex's blank returns; tokens one behind the other in memory. Conditions: none. -/
import Derived.Test.YtkgeigckekccgaaDoorLxF
import Derived.Laws.OwnMore
namespace Go.Proofs.YtkgeigckekccgaaDoor
open Go.RowKit Go.Sort
set_option linter.unusedVariables false

theorem cut_line {l a b : List UInt8} {f : Bool} (hc : (10 : UInt8) ∉ a) (hf : f = false → l = a) (ht : f = true → l = a ++ 10 :: b) : lineL l = a := by
  have ha : ∀ c ∈ a, (fun c : UInt8 => c != 10) c = true := fun c h => by
    have : c ≠ 10 := fun e => hc (e ▸ h)
    simpa using this
  cases f with
  | false => exact tw_eq ha (.inl (hf rfl))
  | true => exact tw_eq ha (.inr ⟨10, b, ht rfl, by decide⟩)

theorem has_space (c : UInt8) : decide (0 ≤ Lib.indexByte [9, 10, 13, 32] c) = spaceB c := by
  by_cases h : 0 ≤ Lib.indexByte [9, 10, 13, 32] c
  · rw [decide_eq_true h]
    obtain ⟨k, _, h2, _, h4⟩ := index_some h
    have hm : c ∈ ([9, 10, 13, 32] : List UInt8) := by rw [h4]; simp
    simp at hm
    rcases hm with rfl | rfl | rfl | rfl <;> rfl
  · rw [decide_eq_false h]
    have hn := index_none (by omega : Lib.indexByte [9, 10, 13, 32] c < 0)
    simp at hn
    simp [spaceB, hn]

theorem ext_one_of {s : ByteArray} (h0 : 0 < s.size) : s.extract 0 1 = ⟨#[s[0]'h0]⟩ := by
  obtain ⟨F, hl⟩ := head_at h0
  exact eq_ofL (l := [s[0]'h0]) (by rw [ext_list, hl]; rfl)

set_option maxHeartbeats 2000000 in
theorem lxBlank (s : ByteArray) (w : World) (hs : s.size ≤ 281474976710656) :
    Calls Tryd.prog 13 #[.string s] w fun e w' => e = .returned (.int .i64 (blankN s.data.toList : Nat)) ∧ Below w.heap.size w w' := by
  have HC := Lib.hid (libPrefix s ⟨#[45, 45]⟩)
  rw [show ((⟨#[45, 45]⟩ : ByteArray).data.toList) = [45, 45] from rfl] at HC
  cases hp : ([45, 45] : List UInt8).isPrefixOf s.data.toList with
  | true =>
    have HE : Hid (blankN s.data.toList = (lineL s.data.toList).length) := Lib.hid (by unfold blankN; rw [if_pos hp])
    rw [hp] at HC
    clear hp
    rw [HE.out]
    go_enter Tryd.func13, Tryd.ntmps13
    go_wp2_with fail
    refine (HC.out _).mono ?_
    rintro e w1 ⟨rfl, rfl⟩
    go_wp2_with fail
    refine (strCut s 10 _ (by omega)).mono ?_
    rintro e w2 ⟨a, b, f, rfl, hb, hc, hf, ht⟩
    have hq := Lib.hid (cut_line hc hf ht)
    have HB := Lib.hid hb
    clear hb hc hf ht
    go_wp2_with fail
    go_ret
    exact ⟨ret_int (by rw [hq.out, Lib.size_eq]), HB.out⟩
  | false =>
    rw [hp] at HC
    by_cases h0 : 0 < s.size
    · have hx := ext_one_of h0
      obtain ⟨F, hl⟩ := head_at h0
      have HE : Hid (blankN s.data.toList = if spaceB (s[0]'h0) = true then 1 else 0) := Lib.hid (by unfold blankN; rw [if_neg (by rw [hp]; simp), hl])
      have HS := Lib.hid (libHas ⟨#[9, 10, 13, 32]⟩ (s[0]'h0))
      rw [show ((⟨#[9, 10, 13, 32]⟩ : ByteArray).data.toList) = [9, 10, 13, 32] from rfl, has_space] at HS
      have hne : (s.toList == []) = false := by rw [Lib.toList_data, hl]; rfl
      have h01 : 1 ≤ s.size := h0
      clear hp hl
      rw [HE.out]
      cases hb : spaceB (s[0]'h0) with
      | true =>
        rw [hb] at HS
        go_enter Tryd.func13, Tryd.ntmps13
        go_wp2_with fail
        refine (HC.out _).mono ?_
        rintro e w1 ⟨rfl, rfl⟩
        go_wp2_with fail
        refine (HS.out _).mono ?_
        rintro e w1 ⟨rfl, rfl⟩
        go_wp2_with fail
        go_ret
        exact ⟨rfl, Below.refl _ _⟩
      | false =>
        rw [hb] at HS
        go_enter Tryd.func13, Tryd.ntmps13
        go_wp2_with fail
        refine (HC.out _).mono ?_
        rintro e w1 ⟨rfl, rfl⟩
        go_wp2_with fail
        refine (HS.out _).mono ?_
        rintro e w1 ⟨rfl, rfl⟩
        go_wp2_with fail
        go_ret
        exact ⟨rfl, Below.refl _ _⟩
    · have hl : s.data.toList = [] := List.eq_nil_of_length_eq_zero (by rw [← Lib.size_eq]; omega)
      have HE : Hid (blankN s.data.toList = 0) := Lib.hid (by rw [hl]; rfl)
      have hne : (s.toList == []) = true := by rw [Lib.toList_data, hl]; rfl
      clear hp hl
      rw [HE.out]
      go_enter Tryd.func13, Tryd.ntmps13
      go_wp2_with fail
      refine (HC.out _).mono ?_
      rintro e w1 ⟨rfl, rfl⟩
      go_wp2_with fail
      go_ret
      exact ⟨rfl, Below.refl _ _⟩

theorem ext_rest (s : ByteArray) (p : Nat) : (s.extract p s.size).data.toList = s.data.toList.drop p := by
  rw [Lib.extract_data, List.take_of_length_le (by rw [Lib.size_eq]; simp)]

/-! ### Tokens one behind the other -/

def flatT (ts : List Tk) : List Value := ts.flatMap fun t => (tkA t).toList
theorem flatT_len : ∀ ts : List Tk, (flatT ts).length = ts.length * 4
  | [] => rfl
  | t :: ts => by
    have ih := flatT_len ts
    simp only [flatT, List.flatMap_cons, List.length_append, List.length_cons] at ih ⊢
    rw [ih]
    simp [tkA]; omega
theorem flatT_app (a b : List Tk) : flatT (a ++ b) = flatT a ++ flatT b := by simp [flatT]
theorem flatT_one (t : Tk) : flatT [t] = (tkA t).toList := by simp [flatT]
theorem flatT_at : ∀ (ts : List Tk) (i j : Nat), i < ts.length → j < 4 → (flatT ts)[i * 4 + j]? = (tkA (ts[i]?.getD default))[j]?
  | t :: ts, 0, j, _, hj => by
    have hz : j < (tkA t).toList.length := by simpa [tkA] using hj
    simp only [flatT, List.flatMap_cons, Nat.zero_mul, Nat.zero_add]
    rw [List.getElem?_append_left hz]
    simp
  | t :: ts, i + 1, j, hi, hj => by
    have ih := flatT_at ts i j (by simpa using hi) hj
    have hz : (tkA t).toList.length = 4 := by simp [tkA]
    simp only [flatT, List.flatMap_cons]
    rw [List.getElem?_append_right (by rw [hz]; omega), hz, show (i + 1) * 4 + j - 4 = i * 4 + j by omega]
    simpa [flatT] using ih

theorem flatT_ones (ts : List Tk) : ∀ u ∈ flatT ts, u.oneCell' = true := by
  intro u hu
  simp only [flatT, List.mem_flatMap] at hu
  obtain ⟨t, _, hu⟩ := hu
  simp [tkA] at hu
  rcases hu with rfl | rfl | rfl | rfl <;> rfl

/-- The slice at A, of n items, reads in w as the tokens ts. -/
def RdK (w : World) (A : Option Addr) (n : Nat) (ts : List Tk) : Prop :=
  ts.length = n ∧ n ≤ 9223372036854775807 ∧
  (0 < n → ∃ b off, A = some ⟨b, off, none⟩ ∧ b < w.heap.size ∧ ∀ i, i < n →
    w.cell? ⟨b, off + i * 4, none⟩ = some (.int .i64 (ts[i]?.getD default).k) ∧ w.cell? ⟨b, off + i * 4 + 1, none⟩ = some (.string (ofL (ts[i]?.getD default).s)) ∧
    w.cell? ⟨b, off + i * 4 + 2, none⟩ = some (.int .i64 (ts[i]?.getD default).n) ∧ w.cell? ⟨b, off + i * 4 + 3, none⟩ = some (.int .i64 ((ts[i]?.getD default).a : Int)))

section
variable {w w' : World} {A : Option Addr} {n : Nat} {ts : List Tk}
theorem RdK.nil_ (w : World) : RdK w none 0 [] := ⟨rfl, by omega, by omega⟩
theorem RdK.below (h : RdK w A n ts) (hb : Below w.heap.size w w') : RdK w' A n ts :=
  ⟨h.1, h.2.1, fun hn => by
    obtain ⟨b, off, e, hlt, hc⟩ := h.2.2 hn
    refine ⟨b, off, e, Nat.lt_of_lt_of_le hlt hb.size, fun i hi => ?_⟩
    obtain ⟨h0, h1, h2, h3⟩ := hc i hi
    exact ⟨(hb.cell hlt).trans h0, (hb.cell hlt).trans h1, (hb.cell hlt).trans h2, (hb.cell hlt).trans h3⟩⟩

/-- A row of the call's own reads so. -/
theorem RdK.of_own {base : Nat} {e : TypeId} {v : Value} (h : w.ownsRow base e 4 v n (flatT ts)) (hm : n ≤ 9223372036854775807) :
    ∃ A c, v = .slice A n c ∧ RdK w A n ts := by
  have hl : ts.length = n := by
    have := h.1
    rw [flatT_len] at this
    omega
  rcases h.2 with ⟨rfl, rfl⟩ | ⟨g, cap, cur, rfl, hg, hh, hnc, hcm, hcs, ht⟩
  · obtain rfl : ts = [] := List.eq_nil_of_length_eq_zero hl
    exact ⟨none, 0, rfl, RdK.nil_ _⟩
  · refine ⟨_, cap, rfl, hl, hm, fun hn => ⟨g, 0, rfl, (Array.getElem?_eq_some_iff.1 hh).1, fun i hi => ?_⟩⟩
    have hc : ∀ j, j < 4 → w.cell? ⟨g, 0 + i * 4 + j, none⟩ = (tkA (ts[i]?.getD default))[j]? := fun j hj => by
      rw [Nat.zero_add, h.cellAt (i * 4 + j) (by omega), flatT_at ts i j (by omega) hj]
    exact ⟨hc 0 (by omega), hc 1 (by omega), hc 2 (by omega), hc 3 (by omega)⟩

theorem own_below {base B : Nat} {e : TypeId} {size : Nat} {v : Value} {xs : List Value} (h : w.ownsRow base e size v n xs) (hb : Below B w w') (hB : w.heap.size ≤ B) : w'.ownsRow base e size v n xs := by
  refine ⟨h.1, ?_⟩
  rcases h.2 with h | ⟨g, cap, cur, rfl, hg, hh, hr⟩
  · exact .inl h
  · have hlt := (Array.getElem?_eq_some_iff.1 hh).1
    exact .inr ⟨g, cap, cur, rfl, hg, (hb.block g (by omega)).trans hh, hr⟩
end
end Go.Proofs.YtkgeigckekccgaaDoor
