/- Which programs may be: of the document's text. Conditions: a small program. -/
import Derived.Test.YtapnodhgjfbjjaaPgQ
import Derived.Test.YtapnodhgjfbjjaaIdZ
namespace Go.Proofs.Ytapnodhgjfbjjaa
open Go.RowKit Go.Sort
set_option linter.unusedVariables false
set_option linter.unusedSimpArgs false

theorem tiny_sizeX {x : Ex} (h : tinyX x = true) : sizeX x ≤ 1000000 := by
  simp only [tinyX, Bool.and_eq_true, decide_eq_true_eq] at h
  omega
theorem tiny_shortX {x : Ex} (h : tinyX x = true) : ∀ p ∈ partsX x, ShortP p := by
  simp only [tinyX, Bool.and_eq_true, List.all_eq_true] at h
  exact fun p hp => ShortP.of_few (h.2 p hp)
theorem TinyQ.ok {q : Qn} (h : TinyQ q) : OkQ q := by
  refine ⟨fun s hs => ?_, tiny_sizeX h.2.1, tiny_shortX h.2.1⟩
  obtain ⟨j, hj, rfl⟩ := List.getElem_of_mem hs
  have := h.2.2 j hj
  rw [List.getElem?_eq_getElem hj, Option.getD_some] at this
  unfold maxLen
  omega
theorem fewD_ok {l : List Dc} (h : fewD l = true) : (∀ d ∈ l, OkD d) ∧ l.length ≤ 20 := by
  simp only [fewD, Bool.and_eq_true, List.all_eq_true, decide_eq_true_eq] at h
  refine ⟨fun d hd => ?_, h.2⟩
  have h1 := h.1 d hd
  simp only [dcFew, Bool.and_eq_true, Bool.not_eq_true', decide_eq_false_iff_not] at h1
  unfold OkD maxLen
  omega
theorem TinyN.len {n : Nd} (h : TinyN n) : n.all.length ≤ 60 := by
  have h1 := (fewD_ok h.1).2
  have h2 := (fewD_ok h.2.1).2
  have h3 := (fewD_ok h.2.2.1).2
  rw [all_len]
  omega
theorem TinyN.ok {n : Nd} (h : TinyN n) : OkN n := by
  refine ⟨by have := h.2.2.2.2.1; unfold maxLen; omega, fun d hd => ?_, fun q hq => ?_⟩
  · simp only [Nd.all, List.mem_append] at hd
    rcases hd with (hd | hd) | hd
    · exact (fewD_ok h.1).1 d hd
    · exact (fewD_ok h.2.1).1 d hd
    · exact (fewD_ok h.2.2.1).1 d hd
  · obtain ⟨j, hj, rfl⟩ := List.getElem_of_mem hq
    have := h.2.2.2.2.2 j hj
    rw [List.getElem?_eq_getElem hj, Option.getD_some] at this
    exact this.ok

def rightN (es : Nat) (l : List Nd) : Bool := l.all (nodeB es rightB rightX)
def onceN (l : List Nd) : Bool := l.all fun n => onceS (namesD n.all)
def checkN (p : Pg) : Int :=
  if enumsN p.es = 0 then (if p.ns.length = 0 then 5 else if 6 < p.ns.length then 4 else if p.ns.any manyN then 4 else if rightN p.es.length p.ns then (if onceN p.ns && onceS (p.ns.map Nd.nm) then 0 else 6) else 1) else enumsN p.es
theorem nms_succ {l : List Nd} {k : Nat} (hk : k < l.length) : (l.map Nd.nm).take (k + 1) = (l.map Nd.nm).take k ++ [(l[k]?.getD default).nm] := by
  rw [List.take_add_one, List.getElem?_map, List.getElem?_eq_getElem hk]
  simp
theorem all_take_and {α : Type} [Inhabited α] {f : α → Bool} {l : List α} {k : Nat} (hk : k < l.length) : (l.take (k + 1)).all f = ((l.take k).all f && f (l[k]?.getD default)) := by
  rw [List.take_add_one, List.getElem?_eq_getElem hk, List.all_append]
  simp
theorem any_at_yes {α : Type} [Inhabited α] {f : α → Bool} {l : List α} {k : Nat} (hk : k < l.length) (hf : f (l[k]?.getD default) = true) : l.any f = true := by
  rw [List.getElem?_eq_getElem hk] at hf
  exact List.any_eq_true.2 ⟨_, List.getElem_mem hk, hf⟩
theorem any_no {α : Type} [Inhabited α] {f : α → Bool} {l : List α} (h : ∀ j, j < l.length → f (l[j]?.getD default) = false) : l.any f = false := by
  rw [List.any_eq_false]
  intro a ha
  obtain ⟨j, hj, rfl⟩ := List.getElem_of_mem ha
  have := h j hj
  rw [List.getElem?_eq_getElem hj] at this
  simpa using this
theorem drewN_below {w : World} {m : Nat} : Below w.heap.size w (w.drewN m) := below_drewN (Below.refl _ _) m
/-- A block that an append leaves. -/
theorem cells_grown {w w' : World} {g : Nat} {cs : Array Value} {T : TypeId} {v : Value} (h : w.heap[g]? = some (.cells cs T)) (hgr : w.grownBy w' v.ownBlock) (hne : v.ownBlock ≠ some g) : w'.heap[g]? = some (.cells cs T) :=
  (hgr.block g (Array.getElem?_eq_some_iff.1 h).1 (fun e => hne e.symm)).trans h
theorem cells_at {w w' : World} {g : Nat} {cs : Array Value} {T : TypeId} (h : w.heap[g]? = some (.cells cs T)) (hb : Below w.heap.size w w') (j : Nat) : w'.cell? ⟨g, j, none⟩ = cs[j]? := by
  have hlt : g < w.heap.size := (Array.getElem?_eq_some_iff.1 h).1
  rw [hb.cell (p := ⟨g, j, none⟩) hlt]
  unfold World.cell?
  rw [show w.heap[(⟨g, j, none⟩ : Addr).block]? = _ from h]
  rfl

end Go.Proofs.Ytapnodhgjfbjjaa
