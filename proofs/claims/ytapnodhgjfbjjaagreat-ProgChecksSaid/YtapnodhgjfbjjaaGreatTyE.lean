/- What it is for a slice of enums to read as a list of them, and what keeps it so; the constructors of all, with their places. Conditions: none. -/
import Derived.Test.YtapnodhgjfbjjaaGreatStr
namespace Go.Proofs.YtapnodhgjfbjjaaGreat
open Go.RowKit
set_option linter.unusedVariables false

/-- An enum: its name, its constructors. -/
abbrev En := ByteArray × List ByteArray
def nmE (es : List En) (i : Nat) : ByteArray := (es[i]?.getD (ByteArray.empty, [])).1
def csE (es : List En) (i : Nat) : List ByteArray := (es[i]?.getD (ByteArray.empty, [])).2

/-- The slice at A, of n enums, reads in w as es. -/
def RdE (w : World) (A : Option Addr) (n : Nat) (es : List En) : Prop :=
  es.length = n ∧ n ≤ 9223372036854775807 ∧
  (0 < n → ∃ b off, A = some ⟨b, off, none⟩ ∧ b < w.heap.size ∧ ∀ i, i < n → w.cell? ⟨b, off + i * 2, none⟩ = some (.string (nmE es i)) ∧
    ∃ A' n' c', w.cell? ⟨b, off + i * 2 + 1, none⟩ = some (.slice A' n' c') ∧ RdT w A' n' (csE es i))

/-- No text in it is too long for memory. -/
def EsOk (es : List En) : Prop := ∀ i, i < es.length → (nmE es i).size ≤ maxLen ∧ ∀ s ∈ csE es i, s.size ≤ maxLen

section
variable {w w' : World} {A : Option Addr} {n : Nat} {es : List En}

theorem RdE.nil_ (w : World) : RdE w none 0 [] := ⟨rfl, by omega, by omega⟩
theorem RdE.len (h : RdE w A n es) : es.length = n := h.1
theorem RdE.max (h : RdE w A n es) : n ≤ 9223372036854775807 := h.2.1
theorem RdE.at_ (h : RdE w A n es) {i : Nat} (hi : i < n) :
    ∃ b off, A = some ⟨b, off, none⟩ ∧ b < w.heap.size ∧ ∀ i, i < n → w.cell? ⟨b, off + i * 2, none⟩ = some (.string (nmE es i)) ∧
      ∃ A' n' c', w.cell? ⟨b, off + i * 2 + 1, none⟩ = some (.slice A' n' c') ∧ RdT w A' n' (csE es i) :=
  h.2.2 (by omega)

theorem RdE.keep (h : RdE w A n es) (hs : w.heap.size ≤ w'.heap.size) (hk : ∀ p : Addr, p.block < w.heap.size → w'.cell? p = w.cell? p) : RdE w' A n es :=
  ⟨h.1, h.2.1, fun hn => by
    obtain ⟨b, off, e, hb, hc⟩ := h.2.2 hn
    refine ⟨b, off, e, by omega, fun i hi => ?_⟩
    obtain ⟨h1, A', n', c', h2, h3⟩ := hc i hi
    exact ⟨(hk _ hb).trans h1, A', n', c', (hk _ hb).trans h2, h3.keep hs hk⟩⟩
theorem RdE.below (h : RdE w A n es) (hb : Below w.heap.size w w') : RdE w' A n es := h.keep hb.size fun _ hp => hb.cell hp
theorem RdE.drewN (h : RdE w A n es) (m : Nat) : RdE (w.drewN m) A n es := h
theorem RdE.drew (h : RdE w A n es) : RdE w.drew A n es := h
theorem RdE.alloc (h : RdE w A n es) (o : Obj) : RdE (w.alloc o) A n es := h.below ((Below.refl _ _).alloc (Nat.le_refl _) o)
theorem RdT.drew {ss : List ByteArray} (h : RdT w A n ss) : RdT w.drew A n ss := h
end

theorem nm_map (es : List En) (i : Nat) : (es.map (·.1))[i]?.getD ByteArray.empty = nmE es i := by
  unfold nmE
  rw [List.getElem?_map]
  cases es[i]? <;> rfl

/-! ### The constructors of all, with their places -/
/-- A constructor's place: its enum, its number; its name. -/
abbrev Pl := Nat × Nat × ByteArray
def ctAt (es : List En) (i k : Nat) : ByteArray := (csE es i)[k]?.getD ByteArray.empty
def rowTo (es : List En) (i k : Nat) : List Pl := (List.range k).map fun k => (i, k, ctAt es i k)
def flatTo (es : List En) : Nat → List Pl
  | 0 => []
  | i + 1 => flatTo es i ++ rowTo es i (csE es i).length
def flatE (es : List En) : List Pl := flatTo es es.length
/-- What has come ahead of constructor k of enum i. -/
def upTo (es : List En) (i k : Nat) : List Pl := flatTo es i ++ rowTo es i k

section
variable {es : List En} {i k : Nat}
theorem rowTo_succ (es : List En) (i k : Nat) : rowTo es i (k + 1) = rowTo es i k ++ [(i, k, ctAt es i k)] := by simp [rowTo, List.range_succ]
theorem upTo_zero (es : List En) : upTo es 0 0 = [] := by simp [upTo, flatTo, rowTo]
theorem upTo_succ (es : List En) (i k : Nat) : upTo es i (k + 1) = upTo es i k ++ [(i, k, ctAt es i k)] := by simp [upTo, rowTo_succ]
theorem upTo_next (es : List En) (i : Nat) : upTo es i (csE es i).length = upTo es (i + 1) 0 := by simp [upTo, flatTo, rowTo]
theorem upTo_end (es : List En) : upTo es es.length 0 = flatE es := by simp [upTo, flatE, rowTo]
theorem flatTo_pre (es : List En) (i j : Nat) (h : i ≤ j) : flatTo es i <+: flatTo es j := by
  induction j with
  | zero =>
    obtain rfl : i = 0 := by omega
    exact List.prefix_refl _
  | succ j ih =>
    rcases Nat.lt_or_ge i (j + 1) with h1 | h1
    · exact (ih (by omega)).trans (by show _ <+: flatTo es j ++ _; exact List.prefix_append _ _)
    · obtain rfl : i = j + 1 := by omega
      exact List.prefix_refl _
theorem rowTo_pre (es : List En) (i k m : Nat) (h : k ≤ m) : rowTo es i k <+: rowTo es i m := by
  induction m with
  | zero =>
    obtain rfl : k = 0 := by omega
    exact List.prefix_refl _
  | succ m ih =>
    rcases Nat.lt_or_ge k (m + 1) with h1 | h1
    · exact (ih (by omega)).trans (by rw [rowTo_succ]; exact List.prefix_append _ _)
    · obtain rfl : k = m + 1 := by omega
      exact List.prefix_refl _
theorem upTo_pre (hi : i < es.length) (hk : k ≤ (csE es i).length) : upTo es i k <+: flatE es := by
  refine List.IsPrefix.trans ?_ (flatTo_pre es (i + 1) es.length (by omega))
  show flatTo es i ++ rowTo es i k <+: flatTo es i ++ rowTo es i (csE es i).length
  exact List.prefix_append_right_inj _ |>.2 (rowTo_pre es i _ _ hk)
theorem upTo_lt (hi : i < es.length) (hk : k < (csE es i).length) : (upTo es i k).length < (flatE es).length := by
  have h := (upTo_pre hi (k := k + 1) (by omega)).length_le
  rw [upTo_succ, List.length_append] at h
  simp at h
  omega
theorem upTo_mem (hi : i < es.length) (hk : k < (csE es i).length) : (i, k, ctAt es i k) ∈ flatE es :=
  (upTo_pre hi (k := k + 1) (by omega)).subset (by rw [upTo_succ]; simp)
/-- The names alone, in their order. -/
def allE (es : List En) : List ByteArray := (flatE es).map (·.2.2)
theorem rowTo_names (es : List En) (i k : Nat) (h : k ≤ (csE es i).length) : (rowTo es i k).map (·.2.2) = (csE es i).take k := by
  induction k with
  | zero => simp [rowTo]
  | succ k ih =>
    rw [rowTo_succ, List.map_append, ih (by omega), List.take_succ_eq_append_getElem (by omega)]
    simp [ctAt, List.getElem?_eq_getElem (show k < (csE es i).length by omega)]
def namesTo (es : List En) (i : Nat) : List ByteArray := (flatTo es i).map (·.2.2)
theorem namesTo_succ (es : List En) (i : Nat) : namesTo es (i + 1) = namesTo es i ++ csE es i := by
  show (flatTo es i ++ rowTo es i _).map _ = _
  rw [List.map_append, rowTo_names es i _ (Nat.le_refl _), List.take_length]
  rfl
theorem namesTo_zero (es : List En) : namesTo es 0 = [] := rfl
theorem namesTo_end (es : List En) : namesTo es es.length = allE es := rfl
theorem namesTo_len (h : ∀ j, j < i → (csE es j).length ≤ 12) : (namesTo es i).length ≤ i * 12 := by
  induction i with
  | zero => simp [namesTo, flatTo]
  | succ i ih =>
    have h1 := ih fun j hj => h j (by omega)
    have h2 := h i (by omega)
    rw [namesTo_succ, List.length_append]
    omega
theorem namesTo_mem {x : ByteArray} (h : x ∈ namesTo es i) : ∃ j, j < i ∧ x ∈ csE es j := by
  induction i with
  | zero => simp [namesTo, flatTo] at h
  | succ i ih =>
    rw [namesTo_succ, List.mem_append] at h
    rcases h with h | h
    · obtain ⟨j, hj, hx⟩ := ih h
      exact ⟨j, by omega, hx⟩
    · exact ⟨i, by omega, h⟩
end
end Go.Proofs.YtapnodhgjfbjjaaGreat
