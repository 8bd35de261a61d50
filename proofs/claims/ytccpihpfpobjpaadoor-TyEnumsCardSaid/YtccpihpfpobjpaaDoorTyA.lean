/- Which types are alike: of both texts. Conditions: none. -/
import Derived.Test.YtccpihpfpobjpaaDoorTyT
import Derived.Deep.RegionHeld3
namespace Go.Proofs.YtccpihpfpobjpaaDoor
open Go.RowKit
set_option linter.unusedVariables false

/-- Whether two lists of texts are the same. -/
def sameT (a b : List ByteArray) : Bool := decide (a.map (fun s => s.toList) = b.map (fun s => s.toList))
def sameTo (a b : List ByteArray) (k : Nat) : Prop := ∀ j, j < k → ((a[j]?.getD ByteArray.empty).toList == (b[j]?.getD ByteArray.empty).toList) = true

section
variable {a b : List ByteArray} {k : Nat}
theorem sameT_len (h : a.length ≠ b.length) : sameT a b = false := decide_eq_false fun e => h (by simpa using congrArg List.length e)
theorem sameT_at (ha : k < a.length) (hb : k < b.length) (h : ((a[k]?.getD ByteArray.empty).toList == (b[k]?.getD ByteArray.empty).toList) = false) : sameT a b = false := decide_eq_false fun e => by
  have h1 := congrArg (fun l => l[k]?) e
  simp only [List.getElem?_map, List.getElem?_eq_getElem ha, List.getElem?_eq_getElem hb, Option.map_some, Option.some.injEq] at h1
  rw [List.getElem?_eq_getElem ha, List.getElem?_eq_getElem hb, Option.getD_some, Option.getD_some, h1] at h
  simp at h
theorem sameT_yes (hl : a.length = b.length) (H : sameTo a b k) (h : a.length ≤ k) : sameT a b = true := decide_eq_true (by
  apply List.ext_getElem
  · simpa using hl
  · intro i h1 h2
    rw [List.length_map] at h1 h2
    have := H i (by omega)
    rw [List.getElem?_eq_getElem h1, List.getElem?_eq_getElem h2, Option.getD_some, Option.getD_some] at this
    simpa using this)
theorem sameTo_succ (H : sameTo a b k) (h : ((a[k]?.getD ByteArray.empty).toList == (b[k]?.getD ByteArray.empty).toList) = true) : sameTo a b (k + 1) := fun j hj => by
  rcases Nat.lt_or_ge j k with h1 | h1
  · exact H j h1
  · obtain rfl : j = k := by omega
    exact h
end

set_option maxRecDepth 100000 in
set_option maxHeartbeats 2000000 in
theorem slEqual (A B : Option Addr) (n m c d : Nat) (ss tt : List ByteArray) (w : World) (hs : RdT w A n ss) (ht : RdT w B m tt) :
    Calls Tryd.prog 42 #[.slice A n c, .slice B m d] w fun r w' => r = .returned (.bool (sameT ss tt)) ∧ Below w.heap.size w w' := by
  have h1 := hs.len
  have h2 := ht.len
  have h3 := hs.max
  have h4 := ht.max
  by_cases hnm : n = m
  · subst hnm
    go_enter Tryd.func42, Tryd.ntmps42
    go_wp2_with fail
    go_loopw [13] (fun i wr => ∃ k : Nat, k ≤ n ∧ i = .int .i64 k ∧ sameTo ss tt k ∧ ∃ p, wr = w.drewN p) (fun i _ => n - (intOf i).toNat)
    case atStart => exact ⟨0, Nat.zero_le _, rfl, fun j hj => absurd hj (by omega), 0, rfl⟩
    case round =>
      obtain ⟨k, hk, rfl, hto, p, rfl⟩ := hrel
      have HT := Lib.hid hto
      clear hto
      by_cases hlt : k < n
      · obtain ⟨b, off, rfl, hb, hc⟩ := hs.at_ hlt
        obtain ⟨b', off', rfl, hb', hc'⟩ := ht.at_ hlt
        have e1 := hc k hlt
        have e2 := hc' k hlt
        have HN := Lib.hid fun h => sameTo_succ HT.out h
        have HF := Lib.hid fun h => sameT_at (a := ss) (b := tt) (k := k) (by omega) (by omega) h
        clear hc hc'
        generalize ss[k]?.getD ByteArray.empty = x at e1 HN HF
        generalize tt[k]?.getD ByteArray.empty = y at e2 HN HF
        by_cases he : (x.toList == y.toList) = true
        · have HN := Lib.hid (HN.out he)
          have hne : (x.toList != y.toList) = false := by simp only [bne, he]; rfl
          go_wp2_with fail
          go_quiet (fail)
          go_wp2_with fail
          go_roundw
          case rel => exact ⟨k + 1, by omega, by go_num, HN.out, _, rfl⟩
          case measure => simp [intOf]; omega
        · have he : (x.toList == y.toList) = false := by simpa using he
          have HF := Lib.hid (HF.out he)
          have hne : (x.toList != y.toList) = true := by simp only [bne, he]; rfl
          go_wp2_with fail
          go_quiet (fail)
          go_wp2_with fail
          go_ret
          exact ⟨ret_bool HF.out.symm, below_drewN (below_drewN (Below.refl _ _) _) _⟩
      · have HY := Lib.hid (sameT_yes (by omega) HT.out (by omega))
        go_wp2_with fail
        go_ret
        exact ⟨ret_bool HY.out.symm, below_drewN (Below.refl _ _) _⟩
  · have hF := Lib.hid (sameT_len (a := ss) (b := tt) (by omega))
    have hne : ((n : Int) != (m : Int)) = true := by rw [bne_iff_ne]; omega
    go_enter Tryd.func42, Tryd.ntmps42
    go_wp2_with fail
    go_ret
    exact ⟨ret_bool hF.out.symm, Below.refl _ _⟩

set_option maxRecDepth 100000 in
set_option maxHeartbeats 2000000 in
theorem refNames (A B : Option Addr) (n m c d : Nat) (ss tt : List ByteArray) (w : World) (hs : RdT w A n ss) (ht : RdT w B m tt) :
    Calls Tryd.prog 34 #[.slice A n c, .slice B m d] w fun r w' => r = .returned (.bool (sameT ss tt)) ∧ Below w.heap.size w w' := by
  have h1 := hs.len
  have h2 := ht.len
  have h3 := hs.max
  have h4 := ht.max
  by_cases hnm : n = m
  · subst hnm
    go_enter Tryd.func34, Tryd.ntmps34
    go_wp2_with fail
    go_loopw [5] (fun i wr => ∃ k : Nat, k ≤ n ∧ i = .int .i64 k ∧ sameTo ss tt k ∧ ∃ p, wr = w.drewN p) (fun i _ => n - (intOf i).toNat)
    case atStart => exact ⟨0, Nat.zero_le _, rfl, fun j hj => absurd hj (by omega), 0, rfl⟩
    case round =>
      obtain ⟨k, hk, rfl, hto, p, rfl⟩ := hrel
      have HT := Lib.hid hto
      clear hto
      by_cases hlt : k < n
      · obtain ⟨b, off, rfl, hb, hc⟩ := hs.at_ hlt
        obtain ⟨b', off', rfl, hb', hc'⟩ := ht.at_ hlt
        have e1 := hc k hlt
        have e2 := hc' k hlt
        have HN := Lib.hid fun h => sameTo_succ HT.out h
        have HF := Lib.hid fun h => sameT_at (a := ss) (b := tt) (k := k) (by omega) (by omega) h
        clear hc hc'
        generalize ss[k]?.getD ByteArray.empty = x at e1 HN HF
        generalize tt[k]?.getD ByteArray.empty = y at e2 HN HF
        by_cases he : (x.toList == y.toList) = true
        · have HN := Lib.hid (HN.out he)
          have hne : (x.toList != y.toList) = false := by simp only [bne, he]; rfl
          go_wp2_with fail
          go_quiet (fail)
          go_wp2_with fail
          go_roundw
          case rel => exact ⟨k + 1, by omega, by go_num, HN.out, _, rfl⟩
          case measure => simp [intOf]; omega
        · have he : (x.toList == y.toList) = false := by simpa using he
          have HF := Lib.hid (HF.out he)
          have hne : (x.toList != y.toList) = true := by simp only [bne, he]; rfl
          go_wp2_with fail
          go_quiet (fail)
          go_wp2_with fail
          go_ret
          exact ⟨ret_bool HF.out.symm, below_drewN (below_drewN (Below.refl _ _) _) _⟩
      · have HY := Lib.hid (sameT_yes (by omega) HT.out (by omega))
        go_wp2_with fail
        go_ret
        exact ⟨ret_bool HY.out.symm, below_drewN (Below.refl _ _) _⟩
  · have hF := Lib.hid (sameT_len (a := ss) (b := tt) (by omega))
    have hne : ((n : Int) != (m : Int)) = true := by rw [bne_iff_ne]; omega
    go_enter Tryd.func34, Tryd.ntmps34
    go_wp2_with fail
    go_ret
    exact ⟨ret_bool hF.out.symm, Below.refl _ _⟩

/-- Whether two enums are the same. -/
def sameEn (x y : ByteArray) (ss tt : List ByteArray) : Bool := (x.toList == y.toList) && sameT ss tt

set_option maxRecDepth 100000 in
set_option maxHeartbeats 2000000 in
theorem tySame (x y : ByteArray) (A B : Option Addr) (n m c d : Nat) (ss tt : List ByteArray) (w : World) (hs : RdT w A n ss) (ht : RdT w B m tt) :
    Calls Tryd.prog 33 #[.agg #[.string x, .slice A n c], .agg #[.string y, .slice B m d]] w fun r w' => r = .returned (.bool (sameEn x y ss tt)) ∧ Below w.heap.size w w' := by
  have HB := Lib.hid (((Below.refl w.heap.size w).alloc (Nat.le_refl _) (.cells #[.string x, .slice A n c] 43)).alloc (by simp) (.cells #[.string y, .slice B m d] 43))
  have HS := Lib.hid ((hs.alloc (.cells #[.string x, .slice A n c] 43)).alloc (.cells #[.string y, .slice B m d] 43))
  have HT := Lib.hid ((ht.alloc (.cells #[.string x, .slice A n c] 43)).alloc (.cells #[.string y, .slice B m d] 43))
  clear hs ht
  by_cases he : (x.toList == y.toList) = true
  · have HE := Lib.hid (show sameT ss tt = sameEn x y ss tt by simp [sameEn, he])
    go_enter Tryd.func33, Tryd.ntmps33
    go_wp2_with fail
    refine (slEqual A B n m c d ss tt _ HS.out HT.out).mono ?_
    rintro r w1 ⟨rfl, hb1⟩
    have HB1 := Lib.hid (HB.out.trans (hb1.mono HB.out.size))
    clear hb1
    go_wp2_with fail
    go_ret
    exact ⟨ret_bool HE.out, HB1.out⟩
  · have he : (x.toList == y.toList) = false := by simpa using he
    have HE := Lib.hid (show false = sameEn x y ss tt by simp only [sameEn, he, Bool.false_and])
    go_enter Tryd.func33, Tryd.ntmps33
    go_wp2_with fail
    go_ret
    exact ⟨ret_bool HE.out, HB.out⟩

def alikeB (es fs : List En) (k e l k' e' l' : Int) : Bool :=
  rightB es.length k e l && rightB fs.length k' e' l' && decide (k = k') && decide (l = l') && (decide (k ≠ 3) || sameEn (nmE es e.toNat) (nmE fs e'.toNat) (csE es e.toNat) (csE fs e'.toNat))

section
variable {es fs : List En} {k e l k' e' l' : Int}
theorem alike_a (h : rightB es.length k e l = false) : alikeB es fs k e l k' e' l' = false := by simp only [alikeB, h, Bool.false_and]
theorem alike_b (h : rightB fs.length k' e' l' = false) : alikeB es fs k e l k' e' l' = false := by simp only [alikeB, h, Bool.and_false, Bool.false_and]
theorem alike_k (h : ¬ k = k') : alikeB es fs k e l k' e' l' = false := by simp only [alikeB, decide_eq_false h, Bool.and_false, Bool.false_and]
theorem alike_l (h : ¬ l = l') : alikeB es fs k e l k' e' l' = false := by simp only [alikeB, decide_eq_false h, Bool.and_false, Bool.false_and]
theorem alike_no (ha : rightB es.length k e l = true) (hb : rightB fs.length k e' l = true) (h : ¬ k = 3) : alikeB es fs k e l k e' l = true := by
  simp only [alikeB, ha, hb, decide_true, Bool.true_and, decide_eq_true (show k ≠ 3 from h), Bool.true_or]
theorem alike_yes (ha : rightB es.length 3 e l = true) (hb : rightB fs.length 3 e' l = true) : alikeB es fs 3 e l 3 e' l = sameEn (nmE es e.toNat) (nmE fs e'.toNat) (csE es e.toNat) (csE fs e'.toNat) := by
  simp [alikeB, ha, hb]
end
theorem cell3 (w : World) (T : TypeId) (a b c : Value) : (w.alloc (.cells #[a, b, c] T)).cell? ⟨w.heap.size, 0, none⟩ = some a ∧ (w.alloc (.cells #[a, b, c] T)).cell? ⟨w.heap.size, 1, none⟩ = some b ∧ (w.alloc (.cells #[a, b, c] T)).cell? ⟨w.heap.size, 2, none⟩ = some c := by
  refine ⟨?_, ?_, ?_⟩ <;> simp [go_sem]

set_option maxRecDepth 100000 in
set_option maxHeartbeats 4000000 in
theorem tyAlike (A B : Option Addr) (n m c d : Nat) (es fs : List En) (k e l k' e' l' : Int) (w : World) (hE : RdE w A n es) (hF : RdE w B m fs) :
    Calls Tryd.prog 22 #[.slice A n c, tyV k e l, .slice B m d, tyV k' e' l'] w fun r w' => r = .returned (.bool (alikeB es fs k e l k' e' l')) ∧ Below w.heap.size w w' := by
  have HB := Lib.hid (((Below.refl w.heap.size w).alloc (Nat.le_refl _) (.cells #[.int .i64 k, .int .i64 e, .int .i64 l] 30)).alloc (by simp) (.cells #[.int .i64 k', .int .i64 e', .int .i64 l'] 30))
  have HE := Lib.hid ((hE.alloc (.cells #[.int .i64 k, .int .i64 e, .int .i64 l] 30)).alloc (.cells #[.int .i64 k', .int .i64 e', .int .i64 l'] 30))
  have HF := Lib.hid ((hF.alloc (.cells #[.int .i64 k, .int .i64 e, .int .i64 l] 30)).alloc (.cells #[.int .i64 k', .int .i64 e', .int .i64 l'] 30))
  have hlen := hE.len
  have hlen2 := hF.len
  have HR1 := Lib.hid fun (W : World) => tyRight A n c k e l W hE.max
  have HR2 := Lib.hid fun (W : World) => tyRight B m d k' e' l' W hF.max
  have H3 := Lib.hid (cell3 w 30 (.int .i64 k) (.int .i64 e) (.int .i64 l))
  have h4 := cell3 (w.alloc (.cells #[.int .i64 k, .int .i64 e, .int .i64 l] 30)) 30 (.int .i64 k') (.int .i64 e') (.int .i64 l')
  rw [World.size_alloc] at h4
  have H4 := Lib.hid h4
  clear h4
  rw [← hlen] at HR1
  rw [← hlen2] at HR2
  clear hE hF
  cases ha : rightB es.length k e l with
  | false =>
    have HO := Lib.hid (alike_a (fs := fs) (k' := k') (e' := e') (l' := l') ha)
    rw [ha] at HR1
    clear HR2
    unfold tyV at HR1 ⊢
    go_enter Tryd.func22, Tryd.ntmps22
    go_wp2_with fail
    rw [← hlen]
    refine (HR1.out _).mono ?_
    rintro r w1 ⟨rfl, hb1⟩
    have HB1 := Lib.hid (HB.out.trans (hb1.mono HB.out.size))
    clear hb1
    go_wp2_with fail
    go_ret
    exact ⟨ret_bool HO.out.symm, HB1.out⟩
  | true =>
    rw [ha] at HR1
    cases hb : rightB fs.length k' e' l' with
    | false =>
      have HO := Lib.hid (alike_b (es := es) (k := k) (e := e) (l := l) hb)
      rw [hb] at HR2
      unfold tyV at HR1 HR2 ⊢
      go_enter Tryd.func22, Tryd.ntmps22
      go_wp2_with fail
      rw [← hlen]
      refine (HR1.out _).mono ?_
      rintro r w1 ⟨rfl, hb1⟩
      have r0 := (hb1.cell (p := ⟨w.heap.size + 1, 0, none⟩) (by simp)).trans H4.out.1
      have r1 := (hb1.cell (p := ⟨w.heap.size + 1, 1, none⟩) (by simp)).trans H4.out.2.1
      have r2 := (hb1.cell (p := ⟨w.heap.size + 1, 2, none⟩) (by simp)).trans H4.out.2.2
      have q0 := (hb1.cell (p := ⟨w.heap.size, 0, none⟩) (by simp; omega)).trans ((Below.cell ((Below.refl (w.heap.size + 1) _).alloc (by simp) _) (p := ⟨w.heap.size, 0, none⟩) (by simp)).trans H3.out.1)
      have q1 := (hb1.cell (p := ⟨w.heap.size, 1, none⟩) (by simp; omega)).trans ((Below.cell ((Below.refl (w.heap.size + 1) _).alloc (by simp) _) (p := ⟨w.heap.size, 1, none⟩) (by simp)).trans H3.out.2.1)
      have q2 := (hb1.cell (p := ⟨w.heap.size, 2, none⟩) (by simp; omega)).trans ((Below.cell ((Below.refl (w.heap.size + 1) _).alloc (by simp) _) (p := ⟨w.heap.size, 2, none⟩) (by simp)).trans H3.out.2.2)
      have hws : w.heap.size + 1 < w1.heap.size := by have := hb1.size; simp at this; omega
      have HB1 := Lib.hid (HB.out.trans (hb1.mono HB.out.size))
      have HE1 := Lib.hid (HE.out.below hb1)
      have HF1 := Lib.hid (HF.out.below hb1)
      clear hb1 H3 H4
      go_wp2_with fail
      rw [← hlen2]
      refine (HR2.out _).mono ?_
      rintro r w2 ⟨rfl, hb2⟩
      have HB2 := Lib.hid (HB1.out.trans (hb2.mono HB1.out.size))
      clear hb2
      go_wp2_with fail
      go_ret
      exact ⟨ret_bool HO.out.symm, HB2.out⟩
    | true =>
      rw [hb] at HR2
      by_cases hkk : k = k'
      · by_cases hll : l = l'
        · subst hkk hll
          have nk : (k != k) = false := by simp
          have nl : (l != l) = false := by simp
          by_cases hk3 : k = 3
          · subst hk3
            have HO := Lib.hid (alike_yes ha hb)
            obtain ⟨_, hx⟩ := right_cases ha
            obtain ⟨_, hy⟩ := right_cases hb
            obtain ⟨i, rfl, hi⟩ : ∃ i : Nat, e = i ∧ i < es.length := by rcases hx with h | h | ⟨_, h⟩ <;> first | exact h | (exfalso; omega)
            obtain ⟨j, rfl, hj⟩ : ∃ j : Nat, e' = j ∧ j < fs.length := by rcases hy with h | h | ⟨_, h⟩ <;> first | exact h | (exfalso; omega)
            clear hx hy
            have hin : i < n := by omega
            have hjm : j < m := by omega
            have hmn := HE.out.max
            have hmm := HF.out.max
            unfold tyV at HR1 HR2 ⊢
            go_enter Tryd.func22, Tryd.ntmps22
            go_wp2_with fail
            rw [← hlen]
            refine (HR1.out _).mono ?_
            rintro r w1 ⟨rfl, hb1⟩
            have r0 := (hb1.cell (p := ⟨w.heap.size + 1, 0, none⟩) (by simp)).trans H4.out.1
            have r1 := (hb1.cell (p := ⟨w.heap.size + 1, 1, none⟩) (by simp)).trans H4.out.2.1
            have r2 := (hb1.cell (p := ⟨w.heap.size + 1, 2, none⟩) (by simp)).trans H4.out.2.2
            have q0 := (hb1.cell (p := ⟨w.heap.size, 0, none⟩) (by simp; omega)).trans ((Below.cell ((Below.refl (w.heap.size + 1) _).alloc (by simp) _) (p := ⟨w.heap.size, 0, none⟩) (by simp)).trans H3.out.1)
            have q1 := (hb1.cell (p := ⟨w.heap.size, 1, none⟩) (by simp; omega)).trans ((Below.cell ((Below.refl (w.heap.size + 1) _).alloc (by simp) _) (p := ⟨w.heap.size, 1, none⟩) (by simp)).trans H3.out.2.1)
            have q2 := (hb1.cell (p := ⟨w.heap.size, 2, none⟩) (by simp; omega)).trans ((Below.cell ((Below.refl (w.heap.size + 1) _).alloc (by simp) _) (p := ⟨w.heap.size, 2, none⟩) (by simp)).trans H3.out.2.2)
            have hws : w.heap.size + 1 < w1.heap.size := by have := hb1.size; simp at this; omega
            have HB1 := Lib.hid (HB.out.trans (hb1.mono HB.out.size))
            have HE1 := Lib.hid (HE.out.below hb1)
            have HF1 := Lib.hid (HF.out.below hb1)
            clear hb1 H3 H4
            go_wp2_with fail
            rw [← hlen2]
            refine (HR2.out _).mono ?_
            rintro r w2 ⟨rfl, hb2⟩
            have r0 := (hb2.cell (p := ⟨w.heap.size + 1, 0, none⟩) hws).trans r0
            have r1 := (hb2.cell (p := ⟨w.heap.size + 1, 1, none⟩) hws).trans r1
            have r2 := (hb2.cell (p := ⟨w.heap.size + 1, 2, none⟩) hws).trans r2
            have q0 := (hb2.cell (p := ⟨w.heap.size, 0, none⟩) (by show w.heap.size < _; omega)).trans q0
            have q1 := (hb2.cell (p := ⟨w.heap.size, 1, none⟩) (by show w.heap.size < _; omega)).trans q1
            have q2 := (hb2.cell (p := ⟨w.heap.size, 2, none⟩) (by show w.heap.size < _; omega)).trans q2
            have HB2 := Lib.hid (HB1.out.trans (hb2.mono HB1.out.size))
            have HE2 := Lib.hid (HE1.out.below hb2)
            have HF2 := Lib.hid (HF1.out.below hb2)
            clear hb2
            obtain ⟨b, off, rfl, hbb, hc⟩ := HE2.out.at_ hin
            obtain ⟨b', off', rfl, hbb', hc'⟩ := HF2.out.at_ hjm
            obtain ⟨n0, A', n', c', s0, hR⟩ := hc i hin
            obtain ⟨n0', B', m', d', s0', hR'⟩ := hc' j hjm
            clear hc hc'
            have hnx : nmE es (i : Int).toNat = nmE es i := rfl
            have HO2 := Lib.hid (show alikeB es fs 3 i l 3 j l = sameEn (nmE es i) (nmE fs j) (csE es i) (csE fs j) from HO.out)
            generalize nmE es i = x at n0 HO2
            generalize nmE fs j = y at n0' HO2
            have hi0 : (0 : Int) ≤ (i : Int) := by omega
            have hi1 : (i : Int) < (n : Int) := by omega
            have hj0 : (0 : Int) ≤ (j : Int) := by omega
            have hj1 : (j : Int) < (m : Int) := by omega
            have hit : (i : Int).toNat = i := by omega
            have hjt : (j : Int).toNat = j := by omega
            have hp0 : w.heap.size < w2.heap.size := World.block_lt_of_cell? w2 _ q0
            have hp1 : w.heap.size + 1 < w2.heap.size := World.block_lt_of_cell? w2 _ r1
            have HSM := Lib.hid fun p => tySame x y A' B' n' m' c' d' (csE es i) (csE fs j) (w2.drewN p) (hR.drewN p) (hR'.drewN p)
            go_wp2_with fail
            go_region_held3 (fun W => W.cell? ⟨w.heap.size, 0, none⟩ = some (.int .i64 3) ∧ W.cell? ⟨w.heap.size, 1, none⟩ = some (.int .i64 (i : Int)) ∧ W.cell? ⟨w.heap.size + 1, 1, none⟩ = some (.int .i64 (j : Int)) ∧ W.cell? ⟨b, off + i * 2, none⟩ = some (.string x) ∧ W.cell? ⟨b, off + i * 2 + 1, none⟩ = some (.slice A' n' c') ∧ W.cell? ⟨b', off' + j * 2, none⟩ = some (.string y) ∧ W.cell? ⟨b', off' + j * 2 + 1, none⟩ = some (.slice B' m' d')) (first | exact ⟨q0, q1, r1, n0, s0, n0', s0'⟩ | exact ⟨q0', q1', r1', m0, t0, m0', t0'⟩)
              ((first | (go_at_call 33; refine (HSM.out _).mono ?_; rintro r w3 ⟨rfl, hb3⟩; have q0' := (hb3.cell (p := ⟨w.heap.size, 0, none⟩) hp0).trans q0; have q1' := (hb3.cell (p := ⟨w.heap.size, 1, none⟩) hp0).trans q1; have r1' := (hb3.cell (p := ⟨w.heap.size + 1, 1, none⟩) hp1).trans r1; have m0 := (hb3.cell (p := ⟨b, off + i * 2, none⟩) hbb).trans n0; have t0 := (hb3.cell (p := ⟨b, off + i * 2 + 1, none⟩) hbb).trans s0; have m0' := (hb3.cell (p := ⟨b', off' + j * 2, none⟩) hbb').trans n0'; have t0' := (hb3.cell (p := ⟨b', off' + j * 2 + 1, none⟩) hbb').trans s0'; have HB3 := Lib.hid hb3)))
            have HB4 := Lib.hid ((below_drewN HB2.out 1).trans (HB3.out.mono HB2.out.size))
            go_wp2_with fail
            go_ret
            exact ⟨ret_bool HO2.out.symm, HB4.out⟩
          · have HO := Lib.hid (alike_no ha hb hk3)
            have n3 : (k != 3) = true := by simpa using hk3
            unfold tyV at HR1 HR2 ⊢
            go_enter Tryd.func22, Tryd.ntmps22
            go_wp2_with fail
            rw [← hlen]
            refine (HR1.out _).mono ?_
            rintro r w1 ⟨rfl, hb1⟩
            have r0 := (hb1.cell (p := ⟨w.heap.size + 1, 0, none⟩) (by simp)).trans H4.out.1
            have r1 := (hb1.cell (p := ⟨w.heap.size + 1, 1, none⟩) (by simp)).trans H4.out.2.1
            have r2 := (hb1.cell (p := ⟨w.heap.size + 1, 2, none⟩) (by simp)).trans H4.out.2.2
            have q0 := (hb1.cell (p := ⟨w.heap.size, 0, none⟩) (by simp; omega)).trans ((Below.cell ((Below.refl (w.heap.size + 1) _).alloc (by simp) _) (p := ⟨w.heap.size, 0, none⟩) (by simp)).trans H3.out.1)
            have q1 := (hb1.cell (p := ⟨w.heap.size, 1, none⟩) (by simp; omega)).trans ((Below.cell ((Below.refl (w.heap.size + 1) _).alloc (by simp) _) (p := ⟨w.heap.size, 1, none⟩) (by simp)).trans H3.out.2.1)
            have q2 := (hb1.cell (p := ⟨w.heap.size, 2, none⟩) (by simp; omega)).trans ((Below.cell ((Below.refl (w.heap.size + 1) _).alloc (by simp) _) (p := ⟨w.heap.size, 2, none⟩) (by simp)).trans H3.out.2.2)
            have hws : w.heap.size + 1 < w1.heap.size := by have := hb1.size; simp at this; omega
            have HB1 := Lib.hid (HB.out.trans (hb1.mono HB.out.size))
            have HE1 := Lib.hid (HE.out.below hb1)
            have HF1 := Lib.hid (HF.out.below hb1)
            clear hb1 H3 H4
            go_wp2_with fail
            rw [← hlen2]
            refine (HR2.out _).mono ?_
            rintro r w2 ⟨rfl, hb2⟩
            have r0 := (hb2.cell (p := ⟨w.heap.size + 1, 0, none⟩) hws).trans r0
            have r1 := (hb2.cell (p := ⟨w.heap.size + 1, 1, none⟩) hws).trans r1
            have r2 := (hb2.cell (p := ⟨w.heap.size + 1, 2, none⟩) hws).trans r2
            have q0 := (hb2.cell (p := ⟨w.heap.size, 0, none⟩) (by show w.heap.size < _; omega)).trans q0
            have q1 := (hb2.cell (p := ⟨w.heap.size, 1, none⟩) (by show w.heap.size < _; omega)).trans q1
            have q2 := (hb2.cell (p := ⟨w.heap.size, 2, none⟩) (by show w.heap.size < _; omega)).trans q2
            have HB2 := Lib.hid (HB1.out.trans (hb2.mono HB1.out.size))
            have HE2 := Lib.hid (HE1.out.below hb2)
            have HF2 := Lib.hid (HF1.out.below hb2)
            clear hb2
            go_wp2_with fail
            go_quiet (fail)
            go_wp2_with fail
            go_ret
            exact ⟨ret_bool HO.out.symm, below_drewN HB2.out _⟩
        · subst hkk
          have HO := Lib.hid (alike_l (es := es) (fs := fs) (k := k) (e := e) (k' := k) (e' := e') hll)
          have nk : (k != k) = false := by simp
          have nl : (l != l') = true := by simpa using hll
          unfold tyV at HR1 HR2 ⊢
          go_enter Tryd.func22, Tryd.ntmps22
          go_wp2_with fail
          rw [← hlen]
          refine (HR1.out _).mono ?_
          rintro r w1 ⟨rfl, hb1⟩
          have r0 := (hb1.cell (p := ⟨w.heap.size + 1, 0, none⟩) (by simp)).trans H4.out.1
          have r1 := (hb1.cell (p := ⟨w.heap.size + 1, 1, none⟩) (by simp)).trans H4.out.2.1
          have r2 := (hb1.cell (p := ⟨w.heap.size + 1, 2, none⟩) (by simp)).trans H4.out.2.2
          have q0 := (hb1.cell (p := ⟨w.heap.size, 0, none⟩) (by simp; omega)).trans ((Below.cell ((Below.refl (w.heap.size + 1) _).alloc (by simp) _) (p := ⟨w.heap.size, 0, none⟩) (by simp)).trans H3.out.1)
          have q1 := (hb1.cell (p := ⟨w.heap.size, 1, none⟩) (by simp; omega)).trans ((Below.cell ((Below.refl (w.heap.size + 1) _).alloc (by simp) _) (p := ⟨w.heap.size, 1, none⟩) (by simp)).trans H3.out.2.1)
          have q2 := (hb1.cell (p := ⟨w.heap.size, 2, none⟩) (by simp; omega)).trans ((Below.cell ((Below.refl (w.heap.size + 1) _).alloc (by simp) _) (p := ⟨w.heap.size, 2, none⟩) (by simp)).trans H3.out.2.2)
          have hws : w.heap.size + 1 < w1.heap.size := by have := hb1.size; simp at this; omega
          have HB1 := Lib.hid (HB.out.trans (hb1.mono HB.out.size))
          have HE1 := Lib.hid (HE.out.below hb1)
          have HF1 := Lib.hid (HF.out.below hb1)
          clear hb1 H3 H4
          go_wp2_with fail
          rw [← hlen2]
          refine (HR2.out _).mono ?_
          rintro r w2 ⟨rfl, hb2⟩
          have r0 := (hb2.cell (p := ⟨w.heap.size + 1, 0, none⟩) hws).trans r0
          have r1 := (hb2.cell (p := ⟨w.heap.size + 1, 1, none⟩) hws).trans r1
          have r2 := (hb2.cell (p := ⟨w.heap.size + 1, 2, none⟩) hws).trans r2
          have q0 := (hb2.cell (p := ⟨w.heap.size, 0, none⟩) (by show w.heap.size < _; omega)).trans q0
          have q1 := (hb2.cell (p := ⟨w.heap.size, 1, none⟩) (by show w.heap.size < _; omega)).trans q1
          have q2 := (hb2.cell (p := ⟨w.heap.size, 2, none⟩) (by show w.heap.size < _; omega)).trans q2
          have HB2 := Lib.hid (HB1.out.trans (hb2.mono HB1.out.size))
          have HE2 := Lib.hid (HE1.out.below hb2)
          have HF2 := Lib.hid (HF1.out.below hb2)
          clear hb2
          go_wp2_with fail
          go_ret
          exact ⟨ret_bool HO.out.symm, HB2.out⟩
      · have HO := Lib.hid (alike_k (es := es) (fs := fs) (e := e) (l := l) (e' := e') (l' := l') hkk)
        have nk : (k != k') = true := by simpa using hkk
        unfold tyV at HR1 HR2 ⊢
        go_enter Tryd.func22, Tryd.ntmps22
        go_wp2_with fail
        rw [← hlen]
        refine (HR1.out _).mono ?_
        rintro r w1 ⟨rfl, hb1⟩
        have r0 := (hb1.cell (p := ⟨w.heap.size + 1, 0, none⟩) (by simp)).trans H4.out.1
        have r1 := (hb1.cell (p := ⟨w.heap.size + 1, 1, none⟩) (by simp)).trans H4.out.2.1
        have r2 := (hb1.cell (p := ⟨w.heap.size + 1, 2, none⟩) (by simp)).trans H4.out.2.2
        have q0 := (hb1.cell (p := ⟨w.heap.size, 0, none⟩) (by simp; omega)).trans ((Below.cell ((Below.refl (w.heap.size + 1) _).alloc (by simp) _) (p := ⟨w.heap.size, 0, none⟩) (by simp)).trans H3.out.1)
        have q1 := (hb1.cell (p := ⟨w.heap.size, 1, none⟩) (by simp; omega)).trans ((Below.cell ((Below.refl (w.heap.size + 1) _).alloc (by simp) _) (p := ⟨w.heap.size, 1, none⟩) (by simp)).trans H3.out.2.1)
        have q2 := (hb1.cell (p := ⟨w.heap.size, 2, none⟩) (by simp; omega)).trans ((Below.cell ((Below.refl (w.heap.size + 1) _).alloc (by simp) _) (p := ⟨w.heap.size, 2, none⟩) (by simp)).trans H3.out.2.2)
        have hws : w.heap.size + 1 < w1.heap.size := by have := hb1.size; simp at this; omega
        have HB1 := Lib.hid (HB.out.trans (hb1.mono HB.out.size))
        have HE1 := Lib.hid (HE.out.below hb1)
        have HF1 := Lib.hid (HF.out.below hb1)
        clear hb1 H3 H4
        go_wp2_with fail
        rw [← hlen2]
        refine (HR2.out _).mono ?_
        rintro r w2 ⟨rfl, hb2⟩
        have r0 := (hb2.cell (p := ⟨w.heap.size + 1, 0, none⟩) hws).trans r0
        have r1 := (hb2.cell (p := ⟨w.heap.size + 1, 1, none⟩) hws).trans r1
        have r2 := (hb2.cell (p := ⟨w.heap.size + 1, 2, none⟩) hws).trans r2
        have q0 := (hb2.cell (p := ⟨w.heap.size, 0, none⟩) (by show w.heap.size < _; omega)).trans q0
        have q1 := (hb2.cell (p := ⟨w.heap.size, 1, none⟩) (by show w.heap.size < _; omega)).trans q1
        have q2 := (hb2.cell (p := ⟨w.heap.size, 2, none⟩) (by show w.heap.size < _; omega)).trans q2
        have HB2 := Lib.hid (HB1.out.trans (hb2.mono HB1.out.size))
        have HE2 := Lib.hid (HE1.out.below hb2)
        have HF2 := Lib.hid (HF1.out.below hb2)
        clear hb2
        go_wp2_with fail
        go_ret
        exact ⟨ret_bool HO.out.symm, HB2.out⟩
end Go.Proofs.YtccpihpfpobjpaaDoor
