/- A Writer as it lies in memory, and the reference's: New, Ok, put, bytes. Conditions: none. -/
import Derived.Test.YtjihgpjpmfeakaaWrM
import Derived.Test.YtjihgpjpmfeakaaRdN
import Derived.Maps.AppendAt
namespace Go.Proofs.Ytjihgpjpmfeakaa
open Go.RowKit
set_option linter.unusedVariables false

/-- append onto a row of the call's own, of whatever reads as numbers; where the new row lies. -/
theorem wpList_append_at {P : Program} {w : World} {k : IntKind} {ops : Array Oper} {rest : List Oper} {o : Oper} {a : Act} {Q : Exit → Act → World → Prop} (hgd : o.guard = none) (s x : Operand) (t : TypeId)
    (ho : o.op = .call { callee := .builtin .append, args := #[s, x], argTypes := #[t, t] })
    (base : Nat) (e : TypeId) (i : TypeInfo) (z : Value) (bytes : Nat) (ht : P.underlying t = some (.slice e)) (hi : P.info? e = some i) (hz : i.zero = some z)
    (hsize : i.size = 1) (hby : i.bytes = bytes) (hzs : z.cells.size = 1)
    (v : Value) (n : Nat) (xs : List Int) (hs : a.eval s = v) (hown : w.ownsRow base e 1 v n (xs.map (Value.int k)))
    (A : Option Addr) (m c : Nat) (l : List Int) (hx : a.eval x = .slice A m c) (hr : Rd k w A m c l)
    (h63 : n + m ≤ maxLen) (hbytes : (n + m) * bytes ≤ 140737488355328) (hbase : base ≤ w.heap.size)
    (h : ∀ v' w', w'.ownsRow base e 1 v' (n + m) ((xs ++ l).map (Value.int k)) → w.grownBy w' v.ownBlock → (v'.ownBlock = v.ownBlock ∨ v'.ownBlock = some w.heap.size) → wpList P ops Q rest (a.put o.dst v') w') : wpList P ops Q (o :: rest) a w := by
  rcases A with _ | ad
  · obtain rfl : m = 0 := by
      rcases Nat.eq_zero_or_pos m with h0 | h0
      · exact h0
      · obtain ⟨b, off, e, _⟩ := hr.at_ h0; cases e
    obtain rfl : l = [] := List.eq_nil_of_length_eq_zero hr.len
    refine wpList_plain hgd fun K hK => ?_
    have hrun := run_append_nil (P := P) (w := w) base t o.type e i 1 ht hi v n _ hown c
    unfold Oper.wp
    simp [execOp, ho, resolve, invoke, builtin, hs, hx, hrun, Result.andThen]
    exact hK _ _ (h v w (by simpa using hown) (World.grownBy.refl w _) (.inl rfl))
  · exact wpList_append_own_at w hgd s x t ho base e i z 1 bytes ht hi hz hsize hby hzs (by decide) v n _ hs hown ad m c (l.map (Value.int k)) hx (by simp [hr.len]) hr.news (one_cells _) h63 hbytes hbase fun v' w' h1 h2 _ h4 => h v' w' (by rw [List.map_append]; exact h1) h2 h4

/-- The cells of a Writer: well, what was written. -/
def wrCell (ok : Bool) (v : Value) : Nat → Value
  | 0 => .bool ok
  | _ => v
/-- The cells of the reference's: what was written, whether it failed. -/
def rwCell (v : Value) (bad : Bool) : Nat → Value
  | 0 => v
  | _ => .bool bad

/-- Block b is a Writer; what it wrote lies in a row of its own, in block g. -/
def WrAt (w : World) (base b : Nat) (st : Option (List Int)) (g : Option Nat) : Prop :=
  ∃ v n, w.rowIs b 55 2 (wrCell st.isSome v) ∧ ∀ l, st = some l → w.ownsRow base 5 1 v n (l.map (Value.int .u8)) ∧ v.ownBlock = g ∧ ∀ z ∈ l, 0 ≤ z ∧ z ≤ 255
def RwAt (w : World) (base b : Nat) (st : Option (List Int)) (g : Option Nat) : Prop :=
  ∃ v n, w.rowIs b 44 2 (rwCell v st.isNone) ∧ (st = none → v = .slice none 0 0) ∧ ∀ l, st = some l → w.ownsRow base 5 1 v n (l.map (Value.int .u8)) ∧ v.ownBlock = g ∧ ∀ z ∈ l, 0 ≤ z ∧ z ≤ 255

/-- Of what was there, block b and block g alone may have turned. -/
structure Mine (w w' : World) (b : Nat) (g : Option Nat) : Prop where
  os : w'.os = w.os
  tape : w'.tape = w.tape
  output : w'.output = w.output
  size : w.heap.size ≤ w'.heap.size
  block : ∀ k, k < w.heap.size → k ≠ b → some k ≠ g → w'.heap[k]? = w.heap[k]?

/-- Where the row lies behind a writing. -/
def Goes (w : World) (g g' : Option Nat) : Prop := g' = g ∨ ∃ k, g' = some k ∧ w.heap.size ≤ k

theorem Goes.refl (w : World) (g : Option Nat) : Goes w g g := .inl rfl
theorem Goes.trans {w w' : World} {g g1 g' : Option Nat} (h : Goes w g g1) (h' : Goes w' g1 g') (hs : w.heap.size ≤ w'.heap.size) : Goes w g g' := by
  rcases h' with rfl | ⟨k, rfl, hk⟩
  · exact h
  · exact .inr ⟨k, rfl, by omega⟩
/-- What lies in old memory, beside the row, lies beside it still. -/
theorem Goes.ne {w : World} {g g' : Option Nat} (h : Goes w g g') {k : Nat} (hk : k < w.heap.size) (hne : some k ≠ g) : some k ≠ g' := by
  rcases h with rfl | ⟨j, rfl, hj⟩
  · exact hne
  · intro e; injection e with e; omega

theorem Mine.refl (w : World) (b : Nat) (g : Option Nat) : Mine w w b g := ⟨rfl, rfl, rfl, Nat.le_refl _, fun _ _ _ _ => rfl⟩
theorem Mine.trans {w w1 w' : World} {b : Nat} {g g1 : Option Nat} (h : Mine w w1 b g) (h' : Mine w1 w' b g1) (hg : Goes w g g1) : Mine w w' b g :=
  ⟨h'.os.trans h.os, h'.tape.trans h.tape, h'.output.trans h.output, Nat.le_trans h.size h'.size, fun k hk h1 h2 => (h'.block k (Nat.lt_of_lt_of_le hk h.size) h1 (hg.ne hk h2)).trans (h.block k hk h1 h2)⟩
theorem Mine.below_ {w w' : World} {b : Nat} {g : Option Nat} (h : Below w.heap.size w w') : Mine w w' b g := ⟨h.os, h.tape, h.output, h.size, fun k hk _ _ => h.block k hk⟩
theorem Mine.row {w w' : World} {b : Nat} {g : Option Nat} (h : w.grownBy w' g) : Mine w w' b g := ⟨h.os, h.tape, h.output, h.size, fun k hk _ h2 => h.block k hk h2⟩
theorem Mine.obj {w w' : World} {b : Nat} {g : Option Nat} (h : w.grownBy w' (some b)) : Mine w w' b g := ⟨h.os, h.tape, h.output, h.size, fun k hk h1 _ => h.block k hk (fun e => h1 (by injection e))⟩
theorem Mine.drewN {w w' : World} {b : Nat} {g : Option Nat} (h : Mine w w' b g) (m : Nat) : Mine w (w'.drewN m) b g := ⟨h.os, h.tape, h.output, h.size, h.block⟩
theorem Mine.set {w w1 : World} {b : Nat} {g : Option Nat} (h : Mine w w1 b g) (i : Nat) (v : Value) : Mine w (w1.setCell ⟨b, i, none⟩ v) b g :=
  h.trans (g1 := g) (Mine.obj (set_grown _ _ _ _)) (.inl rfl)
theorem Mine.into {w w1 w' : World} {b : Nat} {g : Option Nat} (h : Below w.heap.size w w1) (h' : Mine w1 w' b g) : Mine w w' b g :=
  (Mine.below_ h).trans h' (.inl rfl)
/-- Behind whatever of its own a call did, old memory stands. -/
theorem Mine.under {B : Nat} {a w w' : World} {b : Nat} {g : Option Nat} (h' : Mine w w' b g) (h : Below B a w) (hB : B ≤ w.heap.size) (hb : B ≤ b) (hg : ∀ k, g = some k → B ≤ k) : Below B a w' :=
  ⟨h'.os.trans h.os, h'.tape.trans h.tape, h'.output.trans h.output, Nat.le_trans h.size h'.size, fun k hk => (h'.block k (by omega) (by omega) (fun e => by have := hg k e.symm; omega)).trans (h.block k hk)⟩
end Go.Proofs.Ytjihgpjpmfeakaa
