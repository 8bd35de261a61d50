/- What may be wrong with enums, as plain functions of their lists. Conditions: none. -/
import Derived.Test.YtdnmnfpcgbbplaaDoorNmH
import Derived.Test.YtdnmnfpcgbbplaaDoorTyE
import Derived.Maps.AppendAt
namespace Go.Proofs.YtdnmnfpcgbbplaaDoor
open Go.RowKit
set_option linter.unusedVariables false

/-- Whether an enum's name is low, and whether it has a constructor. -/
def enB (e : En) : Bool := lowB e.1.data.toList && !e.2.isEmpty
def hiB (s : ByteArray) : Bool := highB s.data.toList
def namedB (es : List En) : Bool := es.all enB && (allE es).all hiB

def namedTo (es : List En) (k : Nat) : Prop := ∀ j, j < k → lowB (nmE es j).data.toList = true ∧ 0 < (csE es j).length

section
variable {es : List En} {k : Nat}
theorem en_at (h : k < es.length) : es[k]'h = (nmE es k, csE es k) := by
  simp [nmE, csE, List.getElem?_eq_getElem h]
theorem enB_at (h : k < es.length) : enB (es[k]'h) = (lowB (nmE es k).data.toList && decide (0 < (csE es k).length)) := by
  rw [en_at h]
  unfold enB
  cases csE es k <;> simp
theorem named_bad (h : k < es.length) (hb : lowB (nmE es k).data.toList = false ∨ (csE es k).length = 0) : namedB es = false := by
  have : es.all enB = false := by
    rw [List.all_eq_false]
    refine ⟨es[k]'h, List.getElem_mem h, ?_⟩
    rw [enB_at h]
    rcases hb with h | h <;> simp [h]
  unfold namedB
  rw [this, Bool.false_and]
theorem namedTo_all (H : namedTo es k) (h : es.length ≤ k) : es.all enB = true := by
  rw [List.all_eq_true]
  intro e he
  obtain ⟨j, hj, rfl⟩ := List.getElem_of_mem he
  have := H j (by omega)
  rw [enB_at hj, this.1, decide_eq_true this.2]
  rfl
theorem namedTo_succ (H : namedTo es k) (h1 : lowB (nmE es k).data.toList = true) (h2 : 0 < (csE es k).length) : namedTo es (k + 1) := fun j hj => by
  rcases Nat.lt_or_ge j k with h | h
  · exact H j h
  · obtain rfl : j = k := by omega
    exact ⟨h1, h2⟩
theorem named_yes (h : es.all enB = true) (hp : ∀ p ∈ flatE es, hiB p.2.2 = true) : namedB es = true := by
  unfold namedB
  rw [h, Bool.true_and, List.all_eq_true]
  intro s hs
  obtain ⟨p, hp', rfl⟩ := List.mem_map.1 hs
  exact hp p hp'
theorem named_no {ini : List Pl} {x : Pl} (hp : ini ++ [x] <+: flatE es) (hx : hiB x.2.2 = false) : namedB es = false := by
  unfold namedB
  have hm : x ∈ flatE es := hp.subset (by simp)
  have : (allE es).all hiB = false := by
    rw [List.all_eq_false]
    exact ⟨x.2.2, List.mem_map.2 ⟨x, hm, rfl⟩, by simp [hx]⟩
  rw [this, Bool.and_false]
theorem EsOk.flat (h : EsOk es) : ∀ p ∈ flatE es, p.2.2.size ≤ maxLen := by
  intro p hp
  have h1 : p.2.2 ∈ namesTo es es.length := List.mem_map.2 ⟨p, hp, rfl⟩
  obtain ⟨j, hj, hm⟩ := namesTo_mem h1
  exact (h j hj).2 _ hm
end
/-- The enums' names. -/
def nmsE (es : List En) : List ByteArray := es.map (·.1)
def apartB (es : List En) : Bool := onceS (nmsE es) && onceS (allE es)
/-- How great enums may be, here. -/
def EsFew (es : List En) : Prop := es.length ≤ 8 ∧ ∀ j, j < es.length → (csE es j).length ≤ 12

section
variable {es : List En}
theorem EsFew.flat (h : EsFew es) : (flatE es).length ≤ 96 := by
  have h1 := namesTo_len (es := es) (i := es.length) h.2
  have h2 : (namesTo es es.length).length = (flatE es).length := by simp [namesTo, flatE]
  have := h.1
  omega
theorem EsOk.nms (h : EsOk es) : ∀ s ∈ nmsE es, s.size ≤ maxLen := by
  intro s hs
  obtain ⟨e, he, rfl⟩ := List.mem_map.1 hs
  obtain ⟨j, hj, rfl⟩ := List.getElem_of_mem he
  have := (h j hj).1
  unfold nmE at this
  rwa [List.getElem?_eq_getElem hj] at this
theorem EsOk.all (h : EsOk es) : ∀ s ∈ allE es, s.size ≤ maxLen := by
  intro s hs
  obtain ⟨p, hp, rfl⟩ := List.mem_map.1 hs
  exact h.flat p hp
theorem nmsE_len : (nmsE es).length = es.length := by simp [nmsE]
theorem nmsE_succ {k : Nat} (h : k < es.length) : (nmsE es).take (k + 1) = (nmsE es).take k ++ [nmE es k] := by
  rw [take_snocT (by rw [nmsE_len]; exact h)]
  unfold nmsE
  rw [nm_map]
end
theorem infoString : (Tryd.prog.info? 9).map (fun i => (i.zero, i.size, i.bytes)) = some (some (.string ByteArray.empty), 1, 16) := by kernel_rfl

theorem string_cells (l : List ByteArray) : ∀ u ∈ l.map Value.string, u.oneCell' = true := by
  intro u hu
  simp only [List.mem_map] at hu
  obtain ⟨z, _, rfl⟩ := hu
  rfl

def manyB (es : List En) : Bool := decide (4 < es.length) || es.any fun e => decide (6 < e.2.length)
def fewTo (es : List En) (k : Nat) : Prop := ∀ j, j < k → (csE es j).length ≤ 6
def enumsN (es : List En) : Int := if manyB es then 4 else if namedB es then (if apartB es then 0 else 6) else 1

section
variable {es : List En} {k : Nat}
theorem many_at (h : k < es.length) (hb : 6 < (csE es k).length) : manyB es = true := by
  unfold manyB
  rw [Bool.or_eq_true, List.any_eq_true]
  refine .inr ⟨es[k]'h, List.getElem_mem h, ?_⟩
  rw [en_at h]
  exact decide_eq_true hb
theorem many_no (h4 : es.length ≤ 4) (H : fewTo es k) (h : es.length ≤ k) : manyB es = false := by
  unfold manyB
  rw [Bool.or_eq_false_iff, List.any_eq_false]
  refine ⟨decide_eq_false (by omega), fun e he => ?_⟩
  obtain ⟨j, hj, rfl⟩ := List.getElem_of_mem he
  have := H j (by omega)
  rw [en_at hj]
  simp only [decide_eq_true_eq]
  omega
theorem few_of (h : manyB es = false) : es.length ≤ 4 ∧ ∀ j, j < es.length → (csE es j).length ≤ 6 := by
  unfold manyB at h
  rw [Bool.or_eq_false_iff, List.any_eq_false] at h
  refine ⟨by have := h.1; simp at this; omega, fun j hj => ?_⟩
  have := h.2 (es[j]'hj) (List.getElem_mem hj)
  rw [en_at hj] at this
  simp at this
  exact this
theorem fewTo_succ (H : fewTo es k) (h : (csE es k).length ≤ 6) : fewTo es (k + 1) := fun j hj => by
  rcases Nat.lt_or_ge j k with h1 | h1
  · exact H j h1
  · obtain rfl : j = k := by omega
    exact h
end
theorem cell3 (w : World) (T : TypeId) (a b c : Value) : (w.alloc (.cells #[a, b, c] T)).cell? ⟨w.heap.size, 0, none⟩ = some a ∧ (w.alloc (.cells #[a, b, c] T)).cell? ⟨w.heap.size, 1, none⟩ = some b ∧ (w.alloc (.cells #[a, b, c] T)).cell? ⟨w.heap.size, 2, none⟩ = some c := by
  refine ⟨?_, ?_, ?_⟩ <;> simp [go_sem]

end Go.Proofs.YtdnmnfpcgbbplaaDoor
