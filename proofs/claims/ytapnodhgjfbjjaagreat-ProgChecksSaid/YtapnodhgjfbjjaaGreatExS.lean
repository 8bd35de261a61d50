/- Which expressions are the same, of the document's text. Conditions: none. -/
import Derived.Test.YtapnodhgjfbjjaaGreatExF
import Derived.Test.YtapnodhgjfbjjaaGreatNmT
namespace Go.Proofs.YtapnodhgjfbjjaaGreat
open Go.RowKit Go.Sort
set_option linter.unusedVariables false

mutual
def sameX : Ex → Ex → Bool
  | .mk k n s op arms subs, y => (k == y.k) && (n == y.n) && (s.toList == y.s.toList) && (op == y.op) && sameT arms y.arms && sameXs subs y.subs
def sameXs : List Ex → List Ex → Bool
  | [], [] => true
  | x :: l, y :: m => sameX x y && sameXs l m
  | _, _ => false
end
theorem sameX_eq (x y : Ex) : sameX x y = ((x.k == y.k) && (x.n == y.n) && (x.s.toList == y.s.toList) && (x.op == y.op) && sameT x.arms y.arms && sameXs x.subs y.subs) := by
  cases x; simp only [sameX, Ex.k, Ex.n, Ex.s, Ex.op, Ex.arms, Ex.subs]
theorem sameXs_len : ∀ {l m : List Ex}, l.length ≠ m.length → sameXs l m = false
  | [], [], h => absurd rfl h
  | x :: l, y :: m, h => by
    simp only [sameXs, sameXs_len (l := l) (m := m) (fun e => h (by simp [e])), Bool.and_false]
  | [], _ :: _, _ => by simp only [sameXs]
  | _ :: _, [], _ => by simp only [sameXs]
theorem sameXs_at : ∀ {l m : List Ex} {i : Nat}, i < l.length → i < m.length → sameX (l[i]?.getD default) (m[i]?.getD default) = false → sameXs l m = false
  | [], _, i, h, _, _ => absurd h (by simp)
  | _ :: _, [], i, _, h, _ => absurd h (by simp)
  | x :: l, y :: m, 0, _, _, h => by
    simp only [List.getElem?_cons_zero, Option.getD_some] at h
    simp only [sameXs, h, Bool.false_and]
  | x :: l, y :: m, i + 1, h1, h2, h => by
    simp only [List.getElem?_cons_succ] at h
    simp only [sameXs, sameXs_at (by simpa using h1) (by simpa using h2) h, Bool.and_false]
theorem sameXs_yes : ∀ {l m : List Ex}, l.length = m.length → (∀ i, i < l.length → sameX (l[i]?.getD default) (m[i]?.getD default) = true) → sameXs l m = true
  | [], [], _, _ => by simp only [sameXs]
  | [], _ :: _, h, _ => by simp at h
  | _ :: _, [], h, _ => by simp at h
  | x :: l, y :: m, h, H => by
    simp only [sameXs, Bool.and_eq_true]
    refine ⟨by simpa using H 0 (by simp), sameXs_yes (by simpa using h) fun i hi => ?_⟩
    simpa using H (i + 1) (by simpa using hi)

/-- Two parameters' boxes. -/
theorem box2_facts (w : World) (x y : Ex) (A A' : Option Addr) (ca ca' : Nat) (B B' : Option Addr) (cb cb' : Nat) (w1 : World) (h : (w.alloc (.cells (exA x A ca B cb) 41)).alloc (.cells (exA y A' ca' B' cb') 41) = w1) (hr : rdX w x A B) (hr' : rdX w y A' B') :
    Below w.heap.size w w1 ∧ w.heap.size + 1 < w1.heap.size ∧ rdX w1 x A B ∧ rdX w1 y A' B' ∧ (∀ w', Below w1.heap.size w1 w' → ∀ j, w'.cell? ⟨w.heap.size, j, none⟩ = (exA x A ca B cb)[j]?) ∧ ∀ w', Below w1.heap.size w1 w' → ∀ j, w'.cell? ⟨w.heap.size + 1, j, none⟩ = (exA y A' ca' B' cb')[j]? := by
  subst h
  refine ⟨((Below.refl _ _).alloc (Nat.le_refl _) _).alloc (by simp) _, by simp, (hr.alloc _).alloc _, (hr'.alloc _).alloc _, fun w' hb j => ?_, fun w' hb j => ?_⟩
  · rw [hb.cell (p := ⟨w.heap.size, j, none⟩) (by simp; omega), World.cell?_alloc_lt _ _ _ (by simp), World.cell?_alloc_new]
  · rw [hb.cell (p := ⟨w.heap.size + 1, j, none⟩) (by simp)]
    have := World.cell?_alloc_new (w.alloc (.cells (exA x A ca B cb) 41)) (exA y A' ca' B' cb') 41 j
    rwa [World.size_alloc] at this

end Go.Proofs.YtapnodhgjfbjjaaGreat
