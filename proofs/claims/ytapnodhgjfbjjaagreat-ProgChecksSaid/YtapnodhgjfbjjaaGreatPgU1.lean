/- A variable of a name: of the document's text. Conditions: at most 1000 variables. A clock's row: of the document's text. Conditions: at most 1000 variables. Which lists of variables are the same: of the document's text. Conditions: none. Which enums are the same: of the document's text. Conditions: none. Which nodes are the same: of the document's text. Conditions: none. Which programs are the same: of the document's text. Conditions: none. -/
import Derived.Test.YtapnodhgjfbjjaaGreatPgU2
import Derived.Sort.Grow
import Derived.Laws.ResultCell
import Derived.Laws.Rows
import Derived.Laws.Tables
import Derived.Laws.CopyOwn
import Derived.Test.YtapnodhgjfbjjaaGreatNmT
import Derived.BigQuiet
import Derived.Test.YtapnodhgjfbjjaaGreatExS
namespace Go.Proofs.YtapnodhgjfbjjaaGreat
open Go.RowKit Go.Sort
set_option linter.unusedVariables false
set_option linter.unusedSimpArgs false

/-- A variable's cells, in block g. -/
def RowD (w : World) (g : Nat) (d : Dc) : Prop := w.heap[g]? = some (Obj.cells (dcA d) 48)
theorem dcinfo : (Tryz.prog.info? 48).map (·.size) = some 6 := by kernel_rfl
theorem dcinfo' (d : Dc) : (Tryz.prog.info? 48).map (·.size) = some (dcA d).size := dcinfo
theorem res_dc2 {fn : Func} {p u : Tmp} (h : fn.results = #[.cell p 48, .tmp u]) (tmps : Array Value) (w : World) (g : Nat) {d : Dc}
    (hp : tmps.getD p undef = .pointer (some ⟨g, 0, none⟩)) (hg : RowD w g d) : (results fn tmps).run Tryz.prog w = .ok (.tuple #[.agg (dcA d), tmps.getD u undef]) w := by
  rw [results_cell_tmp h, hp]
  have hl := run_loadVar_row (P := Tryz.prog) w g 48 48 _ _ _ hg Tryz.underlying48 rfl (dcinfo' d)
  simp [asAddr, Result.andThen, hl]
theorem RowD.below {w w' : World} {g : Nat} {d : Dc} (h : RowD w g d) (hb : Below w.heap.size w w') : RowD w' g d := by
  have hl : g < w.heap.size := (Array.getElem?_eq_some_iff.1 h).1
  exact (hb.block g hl).trans h
theorem RowD.set {w : World} {g : Nat} {d : Dc} (h : RowD w g d) (d' : Dc) : RowD (w.setRow g (dcA d')) g d' := setRow_heap _ _ _ _ _ _ h

theorem find_hit {α : Type} [Inhabited α] {f : α → Bool} : ∀ {l : List α} {k : Nat}, k < l.length → (∀ j, j < k → f (l[j]?.getD default) = false) → f (l[k]?.getD default) = true → l.find? f = some (l[k]?.getD default)
  | [], k, h, _, _ => by simp at h
  | a :: l, 0, _, _, h => by
    have h : f a = true := by simpa using h
    simp [List.find?, h]
  | a :: l, k + 1, hk, hn, h => by
    have h0 : f a = false := by simpa using hn 0 (by omega)
    rw [List.find?_cons_of_neg (by simp [h0]), find_hit (k := k) (by simpa using hk) (fun j hj => by simpa using hn (j + 1) (by omega)) (by simpa using h)]
    simp
theorem find_none {α : Type} [Inhabited α] {f : α → Bool} {l : List α} (hn : ∀ j, j < l.length → f (l[j]?.getD default) = false) : l.find? f = none := by
  rw [List.find?_eq_none]
  intro a ha
  obtain ⟨j, hj, rfl⟩ := List.getElem_of_mem ha
  have := hn j hj
  rw [List.getElem?_eq_getElem hj] at this
  simpa using this
/-- What Decl tells. -/
def declV (o : Option Dc) : Value := .tuple #[.agg (dcA (o.getD default)), .bool o.isSome]
def DeclPost (w : World) (o : Option Dc) (e : Ending) (w' : World) : Prop := e = .returned (declV o) ∧ Below w.heap.size w w'

end Go.Proofs.YtapnodhgjfbjjaaGreat

namespace Go.Proofs.YtapnodhgjfbjjaaGreat
open Go.RowKit Go.Sort
set_option linter.unusedVariables false
set_option linter.unusedSimpArgs false

section
variable {P : Program} {w : World}
/-- append of a list of variables, nil among them, to a row of the call's own. -/
theorem wpList_append_dc {ops : Array Oper} {rest : List Oper} {o : Oper} {a : Act} {Q : Exit → Act → World → Prop} (hgd : o.guard = none) (s x : Operand) (t : TypeId)
    (ho : o.op = .call { callee := .builtin .append, args := #[s, x], argTypes := #[t, t] })
    (base : Nat) (e : TypeId) (i : TypeInfo) (z : Value) (bytes : Nat) (ht : P.underlying t = some (.slice e)) (hi : P.info? e = some i) (hz : i.zero = some z)
    (hsize : i.size = 6) (hby : i.bytes = bytes) (hzs : z.cells.size = 6)
    (v : Value) (n : Nat) (xs : List Dc) (hs : a.eval s = v) (hown : w.ownsRow base e 6 v n (flD xs))
    (A : Option Addr) (m c : Nat) (l : List Dc) (hx : a.eval x = .slice A m c) (hr : RdD w A m l)
    (h63 : n + m ≤ maxLen) (hbytes : (n + m) * bytes ≤ 140737488355328) (hbase : base ≤ w.heap.size)
    (h : ∀ v' w', w'.ownsRow base e 6 v' (n + m) (flD (xs ++ l)) → w.grownBy w' v.ownBlock → wpList P ops Q rest (a.put o.dst v') w') : wpList P ops Q (o :: rest) a w := by
  obtain ⟨hA, hnews⟩ := hr.news
  have hlen := RdS.len hr
  rcases A with _ | ad
  · obtain rfl : m = 0 := hA rfl
    obtain rfl : l = [] := List.eq_nil_of_length_eq_zero hlen
    refine wpList_plain hgd fun K hK => ?_
    have hrun := run_append_nil (P := P) (w := w) base t o.type e i 6 ht hi v n _ hown c
    unfold Oper.wp
    simp [execOp, ho, resolve, invoke, builtin, hs, hx, hrun, Result.andThen]
    exact hK _ _ (h v w (by simpa using hown) (World.grownBy.refl w _))
  · exact wpList_append_own_at w hgd s x t ho base e i z 6 bytes ht hi hz hsize hby hzs (by decide) v n _ hs hown ad m c (flD l) hx (by rw [flD_len, hlen]) (fun j u hu => hnews ad rfl j u hu) (flD_ones l) h63 hbytes hbase fun v' w' h1 h2 _ _ => h v' w' (by rw [flD_app]; exact h1) h2
end
theorem RowD.cells {w : World} {g : Nat} {d : Dc} (h : RowD w g d) (j : Nat) : w.cell? ⟨g, j, none⟩ = (dcA d)[j]? := by
  unfold World.cell?
  rw [show w.heap[(⟨g, j, none⟩ : Addr).block]? = _ from h]
  rfl
/-- What Clock ends with. -/
def ClockPost (w : World) (o : Option (List Dc)) (e : Ending) (w' : World) : Prop :=
  Below w.heap.size w w' ∧ match o with
    | none => e = .returned (.tuple #[.slice none 0 0, .bool false])
    | some l => ∃ A c, e = .returned (.tuple #[.slice A l.length c, .bool true]) ∧ RdD w' A l.length l
/-- How far the row has come. -/
def ClockAt (x : Nd) (out : Option (List Dc)) (w : World) (k : Nat) (t : ByteArray) (v : Value) : Prop :=
  ∃ acc A c, v = .slice A acc.length c ∧ RdD w A acc.length acc ∧ acc.length = k ∧ clockR x (13 - k) t acc = out
theorem ClockAt.below {x : Nd} {out : Option (List Dc)} {w w' : World} {k : Nat} {t : ByteArray} {v : Value} (h : ClockAt x out w k t v) (hb : Below w.heap.size w w') : ClockAt x out w' k t v := by
  obtain ⟨acc, A, c, e, h1, h2⟩ := h
  exact ⟨acc, A, c, e, h1.below hb, h2⟩
theorem clockR_succ (x : Nd) (k : Nat) (s : ByteArray) (acc : List Dc) : clockR x (k + 1) s acc = match declO x s with | none => none | some d => if noB d.on then some acc else clockR x k d.on (d :: acc) := rfl

end Go.Proofs.YtapnodhgjfbjjaaGreat

namespace Go.Proofs.YtapnodhgjfbjjaaGreat
open Go.RowKit Go.Sort
set_option linter.unusedVariables false
set_option linter.unusedSimpArgs false

theorem toL_eq {a b : ByteArray} (h : a.data.toList = b.data.toList) : a = b := by
  cases a
  cases b
  congr 1
  exact Array.toList_inj.1 h
theorem eqD_refl (a : Dc) : eqD a a = true := by simp [eqD]

end Go.Proofs.YtapnodhgjfbjjaaGreat

namespace Go.Proofs.YtapnodhgjfbjjaaGreat
open Go.RowKit Go.Sort Go.BigFrame
set_option linter.unusedVariables false
set_option linter.unusedSimpArgs false

def eqE (a b : En) : Bool := (a.1.data.toList == b.1.data.toList) && sameT a.2 b.2
theorem enD (es : List En) (i : Nat) : es[i]?.getD default = (nmE es i, csE es i) := by
  unfold nmE csE
  cases es[i]? <;> rfl

end Go.Proofs.YtapnodhgjfbjjaaGreat

namespace Go.Proofs.YtapnodhgjfbjjaaGreat
open Go.RowKit Go.Sort Go.BigFrame
set_option linter.unusedVariables false
set_option linter.unusedSimpArgs false

def eqQ (a b : Qn) : Bool := sameT a.ns b.ns && sameX a.x b.x
def eqN (a b : Nd) : Bool := (a.nm.data.toList == b.nm.data.toList) && sameL eqD a.ins b.ins && sameL eqD a.outs b.outs && sameL eqD a.vars b.vars && sameL eqQ a.eqs b.eqs

end Go.Proofs.YtapnodhgjfbjjaaGreat

namespace Go.Proofs.YtapnodhgjfbjjaaGreat
open Go.RowKit Go.Sort Go.BigFrame
set_option linter.unusedVariables false
set_option linter.unusedSimpArgs false

def eqP (a b : Pg) : Bool := sameL eqE a.es b.es && sameL eqN a.ns b.ns
/-- A node's cells at a place, one by one. -/
theorem NdAt.five {w : World} {b o : Nat} {x : Nd} (h : NdAt w b o x) : ∃ A1 c1 A2 c2 A3 c3 A4 c4, rdN w x A1 A2 A3 A4 ∧
    w.cell? ⟨b, o, none⟩ = some (.string x.nm) ∧ w.cell? ⟨b, o + 1, none⟩ = some (.slice A1 x.ins.length c1) ∧ w.cell? ⟨b, o + 2, none⟩ = some (.slice A2 x.outs.length c2) ∧ w.cell? ⟨b, o + 3, none⟩ = some (.slice A3 x.vars.length c3) ∧ w.cell? ⟨b, o + 4, none⟩ = some (.slice A4 x.eqs.length c4) := by
  obtain ⟨A1, c1, A2, c2, A3, c3, A4, c4, h1, h2⟩ := h
  obtain ⟨d0, d1, d2, d3, d4⟩ := ndL_five h1
  exact ⟨A1, c1, A2, c2, A3, c3, A4, c4, h2, d0, d1, d2, d3, d4⟩

end Go.Proofs.YtapnodhgjfbjjaaGreat
