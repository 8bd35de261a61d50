/- What expr.Each returns; how many parts an expression has: of the program's text. Conditions: at most 1000000 parts. -/
import Derived.Test.YtijbahdpblopjaaDoorEyI
namespace Go.Proofs.YtijbahdpblopjaaDoor
open Go.RowKit Go.Shelf
set_option linter.unusedVariables false
set_option linter.unusedSimpArgs false
attribute [local go_sem] Oper.semAt_some

set_option maxRecDepth 100000 in
set_option maxHeartbeats 2000000 in
theorem exEach (x : Ex) (A : Option Addr) (ca : Nat) (B : Option Addr) (cb : Nat) (w : World) (hr : rdX w x A B) :
    Calls Tryd.prog 28 #[.agg (exA x A ca B cb)] w fun r w' => r = .returned (.func (.func 47) #[] #[.pointer (some ⟨w.heap.size, 0, none⟩)]) ∧ w' = w.alloc (Obj.cells (exA x A ca B cb) 28) := by
  have hmk : ∀ fn first cap w, (Instr.makeFunc fn first cap).run Tryd.prog w = .ok (.func fn first cap) w := fun _ _ _ _ => rfl
  clear hr
  unfold exA
  go_enter Tryd.func28, Tryd.ntmps28
  go_wp2_with fail
  go_ret
  exact ⟨rfl, rfl⟩

theorem box_facts2 (w : World) (x : Ex) (A : Option Addr) (ca : Nat) (B : Option Addr) (cb : Nat) (w1 : World) (h : w.alloc (.cells (exA x A ca B cb) 28) = w1) : w1.heap[w.heap.size]? = some (Obj.cells (exA x A ca B cb) 28) := by
  subst h
  exact World.alloc_heap_new _ _
theorem KeepsE.setCell {W : World} {B : Nat} {t : TypeId} {v : Value} (h : Boxed W B t v) (ht : t ≠ 28) (u : Value) : KeepsE W (W.setCell ⟨B, 0, none⟩ u) := fun k cs hh e => by
  have hne : some k ≠ some B := by
    intro e'
    injection e' with e'
    subst e'
    rw [show W.heap[k]? = _ from h] at e
    injection e with e
    injection e with _ e
    exact ht e
  have hk := (Array.getElem?_eq_some_iff.1 e).1
  exact ((grownBy_setCell' W B u).block k hk hne).trans e
theorem exs_part {w0 : World} {e : Ex} (pre : List (PtIn w0 e)) : pre.length = (exs pre).length := (exs_len pre).symm

end Go.Proofs.YtijbahdpblopjaaDoor
