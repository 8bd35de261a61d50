/- What ty.ctors hands back: an iterator over the constructors of all enums, with their places. Conditions: none. -/
import Derived.RangeFuncNested
import Derived.RangeFuncBound
import Derived.RangeFuncCalls
import Derived.RangeFuncLeaves
import Derived.Shelf.Abstract
import Derived.Shelf.RegionOpen
import Derived.WalkKit
import Derived.OwnWalkIn
import Derived.TacticsInMore
import Derived.LoopNIn
import Derived.LoopIn
import Derived.Test.YtccpihpfpobjpaaDoorRows
import Derived.Test.YtccpihpfpobjpaaDoorTyE
namespace Go.Proofs.YtccpihpfpobjpaaDoor
open Go.RowKit Go.Shelf
set_option linter.unusedVariables false
attribute [local go_sem] Oper.semAt_some

theorem grownBy_of_below {W W' : World} (h : Below W.heap.size W W') : W.grownBy W' none := ⟨h.os, h.tape, h.output, h.size, fun i hi _ => h.block i hi⟩

/-- What the iterator hands to a round. -/
def encPl (x : Pl) : Array Value := #[.agg #[.int .i64 (x.1 : Int), .int .i64 (x.2.1 : Int)], .string x.2.2]

set_option maxHeartbeats 1000000 in
theorem tyCtors (A : Option Addr) (n c : Nat) (w : World) :
    Calls Tryd.prog 30 #[.slice A n c] w fun e w' => e = .returned (.func (.func 40) #[] #[.pointer (some ⟨w.heap.size, 0, none⟩)]) ∧ w' = w.alloc (.cells #[.slice A n c] 22) := by
  go_enter Tryd.func30, Tryd.ntmps30
  go_wp2
  go_ret
  exact ⟨rfl, rfl⟩

set_option maxRecDepth 100000 in
set_option maxHeartbeats 2000000 in
theorem tyIter_in (n : Nat) (hn : 1 ≤ n) (l Bs : Nat) (w : World) (A : Option Addr) (len cap : Nat) (es : List En) (hE : RdE w A len es) (J Jx : List Pl → World → Prop) (W : World) (hbW : Below w.heap.size w W)
    (hJ : AbidesFrom W.heap.size J)
    (hY : ∀ pre x W, J pre W → pre ++ [x] <+: flatE es → YieldAt Fence.wide (n - 1) Tryd.prog l (encPl x) W fun e W' =>
      (e = .returned (.bool true) ∧ J (pre ++ [x]) W' ∧ Below w.heap.size W W') ∨ (e = .returned (.bool false) ∧ Jx (pre ++ [x]) W'))
    (hBs : W.cell? ⟨Bs, 0, none⟩ = some (.slice A len cap)) (h0 : J [] W) :
    CallsIn Fence.wide n Tryd.prog 40 #[.func (.yield l) #[] #[], .pointer (some ⟨Bs, 0, none⟩)] W fun e W' => (∃ v, e = .returned v) ∧
      ((∃ ys, ys = flatE es ∧ J ys W') ∨ (∃ pre, pre <+: flatE es ∧ Jx pre W')) := by
  have hlen := hE.len
  have hmx := hE.max
  refine callsIn_of_wp Tryd.func40 rfl trivial ?_ rfl
  simp only [Tryd.ntmps40, List.size_toArray, List.length_cons, List.length_nil, Nat.reduceAdd, Nat.reduceSub, Array.replicate_succ, Array.replicate_zero, List.push_toArray, List.append_toArray, List.nil_append, List.cons_append]
  gi_wp2
  gi_loopw [9] (fun i wr => ∃ k : Nat, k ≤ len ∧ i = .int .i64 k ∧ J (upTo es k 0) wr ∧ Below w.heap.size w wr)
    (fun i _ => len - (intOf i).toNat)
  case atStart => exact ⟨0, Nat.zero_le _, rfl, by rw [upTo_zero]; exact h0, hbW⟩
  case round =>
    obtain ⟨k, hk, rfl, hJs, hnx⟩ := hrel
    by_cases hlt : k < len
    · obtain ⟨b, off, rfl, hb, hc⟩ := hE.at_ hlt
      obtain ⟨hn0, A', n', c', hs0, hR0⟩ := hc k hlt
      have hn1 : wr.cell? ⟨b, off + k * 2, none⟩ = some (.string (nmE es k)) := (hnx.cell (p := ⟨b, off + k * 2, none⟩) hb).trans hn0
      have hs1 : wr.cell? ⟨b, off + k * 2 + 1, none⟩ = some (.slice A' n' c') := (hnx.cell (p := ⟨b, off + k * 2 + 1, none⟩) hb).trans hs0
      have hkl : k < es.length := by omega
      have hcl := hR0.len
      have hcm := hR0.max
      have hJa : ∀ W', Below wr.heap.size wr W' → J (upTo es k 0) W' := fun W' h => hJ _ _ _ none hJs (grownBy_of_below h) (fun r e => by cases e)
      gi_wp2
      gi_loopw [17] (fun i wr => ∃ m : Nat, m ≤ n' ∧ i = .int .i64 m ∧ J (upTo es k m) wr ∧ Below w.heap.size w wr)
        (fun i _ => n' - (intOf i).toNat)
      case atStart => exact ⟨0, Nat.zero_le _, rfl, hJa _ ((Below.refl _ _).alloc (Nat.le_refl _) _), hnx.alloc hnx.size _⟩
      case round =>
        obtain ⟨m, hm, rfl, hJm, hnm⟩ := hrel
        by_cases hltm : m < n'
        · obtain ⟨b2, off2, rfl, hb2, hc2⟩ := hR0.at_ hltm
          have hcm2 := (hnm.cell (p := ⟨b2, off2 + m, none⟩) hb2).trans (hc2 m hltm)
          have hpre := upTo_pre (es := es) hkl (k := m + 1) (by omega)
          obtain ⟨fn, tmps, assign, body, hy, hR⟩ := hY _ (k, m, ctAt es k m) _ hJm (by rw [← upTo_succ]; exact hpre)
          rw [← upTo_succ] at hR
          unfold ctAt at hy
          simp only [encPl] at hy
          generalize hx : (csE es k)[m]?.getD ByteArray.empty = x at hcm2 hy
          gi_wp2
          refine hR.mono ?_
          rintro e W3 (⟨rfl, hJ3, hk3⟩ | ⟨rfl, hJx3⟩)
          · gi_wp2
            go_roundw
            case rel => exact ⟨m + 1, by omega, by go_num, hJ3, hnm.trans hk3⟩
            case measure => simp [intOf]; omega
          · gi_wp2
            refine bodyPost_ret (results_none rfl _ _ _) rfl ?_
            exact ⟨⟨_, rfl⟩, .inr ⟨_, hpre, hJx3⟩⟩
        · obtain rfl : m = n' := by omega
          gi_wp2
          go_roundw
          case rel => exact ⟨k + 1, by omega, by go_num, by rw [← upTo_next, hcl]; exact hJm, hnm⟩
          case measure => simp [intOf]; omega
    · obtain rfl : k = len := by omega
      gi_wp2
      go_end0
      exact ⟨⟨_, rfl⟩, .inl ⟨_, rfl, by rw [← upTo_end, hlen]; exact hJs⟩⟩

theorem tyIter_stops (n : Nat) (hn : 1 ≤ n) (Bs : Nat) (w0 : World) (A : Option Addr) (len cap : Nat) (es : List En) (hE : RdE w0 A len es) (w : World) (hb : Below w0.heap.size w0 w) (hBs : Bs < w.heap.size)
    (hc : w.cell? ⟨Bs, 0, none⟩ = some (.slice A len cap)) :
    SeqStopsK Fence.wide n Tryd.prog 40 #[.pointer (some ⟨Bs, 0, none⟩)] encPl (Below w0.heap.size) (fun ys => ys = flatE es) (fun pre => pre <+: flatE es) (flatE es).length w := fun l J Jx W hW hJ _ hY h0 =>
  tyIter_in n hn l Bs w0 A len cap es hE J Jx W (hb.trans (hW.mono hb.size)) hJ (fun pre x W1 h1 h2 => hY pre x W1 h1 (by have := h2.length_le; simp at this; omega)) ((hW.cell (p := ⟨Bs, 0, none⟩) hBs).trans hc) h0

/-- A place of those that come. -/
abbrev PlIn (es : List En) := { x : Pl // x ∈ flatE es }

theorem tyIter_stopsIn (n : Nat) (hn : 1 ≤ n) (Bs : Nat) (w0 : World) (A : Option Addr) (len cap : Nat) (es : List En) (hE : RdE w0 A len es) (w : World) (hb : Below w0.heap.size w0 w) (hBs : Bs < w.heap.size)
    (hc : w.cell? ⟨Bs, 0, none⟩ = some (.slice A len cap)) :
    SeqStopsK Fence.wide n Tryd.prog 40 #[.pointer (some ⟨Bs, 0, none⟩)] (fun x : PlIn es => encPl x.1) (Below w0.heap.size) (fun ys => ys.map (·.1) = flatE es) (fun pre => pre.map (·.1) <+: flatE es) (flatE es).length w := fun l J Jx W hW hJ _ hY h0 => by
  refine (tyIter_in n hn l Bs w0 A len cap es hE (fun pre W => ∃ ps : List (PlIn es), ps.map (·.1) = pre ∧ J ps W) (fun pre W => ∃ ps : List (PlIn es), ps.map (·.1) = pre ∧ Jx ps W) W (hb.trans (hW.mono hb.size))
    (fun s X Y row hs hg hr => by obtain ⟨ps, e, h⟩ := hs; exact ⟨ps, e, hJ ps X Y row h hg hr⟩) (fun pre x W1 h1 h2 => ?_) ((hW.cell (p := ⟨Bs, 0, none⟩) hBs).trans hc) ⟨[], rfl, h0⟩).mono ?_
  · obtain ⟨ps, rfl, h1⟩ := h1
    have hx : x ∈ flatE es := h2.subset (by simp)
    obtain ⟨fn, tmps, assign, body, hy, hR⟩ := hY ps ⟨x, hx⟩ W1 h1 (by have := h2.length_le; simp at this; omega)
    refine ⟨fn, tmps, assign, body, hy, hR.mono ?_⟩
    rintro e W' (⟨rfl, hj, hk⟩ | ⟨rfl, hj⟩)
    · exact .inl ⟨rfl, ⟨_, by simp, hj⟩, hk⟩
    · exact .inr ⟨rfl, ⟨_, by simp, hj⟩⟩
  · rintro e W' ⟨he, ⟨ys, rfl, ps, e1, hj⟩ | ⟨pre, hp, ps, rfl, hj⟩⟩
    · exact ⟨he, .inl ⟨ps, e1, hj⟩⟩
    · exact ⟨he, .inr ⟨ps, hp, hj⟩⟩

/-! ### A block of two cells -/
def Box2 (W : World) (B : Nat) (t : TypeId) (u v : Value) : Prop := W.heap[B]? = some (.cells #[u, v] t (0, 0))
section
variable {W W' : World} {B : Nat} {t : TypeId} {u v : Value}
theorem Box2.lt (h : Box2 W B t u v) : B < W.heap.size := (Array.getElem?_eq_some_iff.1 h).1
theorem Box2.c0 (h : Box2 W B t u v) : W.cell? ⟨B, 0, none⟩ = some u := by simp [World.cell?, show W.heap[B]? = _ from h]
theorem Box2.c1 (h : Box2 W B t u v) : W.cell? ⟨B, 1, none⟩ = some v := by simp [World.cell?, show W.heap[B]? = _ from h]
theorem Box2.new (W : World) (t : TypeId) (u v : Value) : Box2 (W.alloc (.cells #[u, v] t)) W.heap.size t u v := World.alloc_heap_new W _
theorem box2_own {β : Type} (B : Nat) (t : TypeId) (u v : Value) : Own (fun (_ : β) W => Box2 W B t u v) := fun s X Y row hs hg hrow =>
  (hg.block B (Box2.lt hs) (fun e' => by obtain ⟨o, ho, hc⟩ := hrow B e'.symm; rw [show X.heap[B]? = _ from hs] at ho; cases ho; cases hc)).trans hs
end
theorem boxed_below {W W' : World} {B : Nat} {t : TypeId} {v : Value} (h : Boxed W B t v) {n : Nat} (hb : Below n W W') (hn : B < n) : Boxed W' B t v := (hb.block B hn).trans h

theorem keepsFrom_below {B : Nat} {W W' : World} (h : Below W.heap.size W W') : KeepsFrom B W W' := KeepsFrom.of_grownBy (grownBy_of_below h) (fun j e => by cases e)
end Go.Proofs.YtccpihpfpobjpaaDoor
