/- May a variable be: of the document's text. Conditions: none. May an equation be: of the document's text. Conditions: at most 1000000 parts, short names. May a node be: of the document's text. Conditions: at most 1000 variables, texts and parts as the calls want them. -/
import Derived.Test.YtapnodhgjfbjjaaPgB
import Derived.Test.YtapnodhgjfbjjaaEnZ
import Derived.Test.YtapnodhgjfbjjaaPgC
import Derived.Test.YtapnodhgjfbjjaaExV
namespace Go.Proofs.Ytapnodhgjfbjjaa
open Go.RowKit
set_option linter.unusedVariables false
set_option linter.unusedSimpArgs false

/-- A variable's texts are not too long for memory. -/
def OkD (d : Dc) : Prop := d.nm.size ≤ maxLen ∧ d.on.size ≤ maxLen ∧ d.ct.size ≤ maxLen
/-- A variable's box: what is read of it, in every world behind. -/
theorem dc_facts (w : World) (d : Dc) (w1 : World) (h : w.alloc (.cells (dcA d) 32) = w1) :
    Below w.heap.size w w1 ∧ w1.heap.size = w.heap.size + 1 ∧ ∀ w', Below w1.heap.size w1 w' → ∀ j, w'.cell? ⟨w.heap.size, j, none⟩ = (dcA d)[j]? := by
  subst h
  refine ⟨(Below.refl _ _).alloc (Nat.le_refl _) _, by simp, fun w' hb j => ?_⟩
  rw [hb.cell (p := ⟨w.heap.size, j, none⟩) (by simp), World.cell?_alloc_new]
theorem below_next {w w1 w2 : World} (h : Below w.heap.size w w1) (hb : Below w1.heap.size w1 w2) : Below w.heap.size w w2 := h.trans (hb.mono h.size)

end Go.Proofs.Ytapnodhgjfbjjaa

namespace Go.Proofs.Ytapnodhgjfbjjaa
open Go.RowKit
set_option linter.unusedVariables false
set_option linter.unusedSimpArgs false

def qnA (q : Qn) (A : Option Addr) (c : Nat) (A' : Option Addr) (ca : Nat) (B' : Option Addr) (cb : Nat) : Array Value :=
  #[.slice A q.ns.length c, .int .i64 q.x.k, .int .i64 q.x.n, .string q.x.s, .int .i64 q.x.op, .slice A' q.x.arms.length ca, .slice B' q.x.subs.length cb]
/-- What an equation's texts and parts are, for the calls that read them. -/
def OkQ (q : Qn) : Prop := (∀ s ∈ q.ns, s.size ≤ maxLen) ∧ sizeX q.x ≤ 1000000 ∧ ∀ p ∈ partsX q.x, ShortP p
theorem qn_facts (w : World) (q : Qn) (A : Option Addr) (c : Nat) (A' : Option Addr) (ca : Nat) (B' : Option Addr) (cb : Nat) (w1 : World) (h : w.alloc (.cells (qnA q A c A' ca B' cb) 50) = w1) (hr : RdT w A q.ns.length q.ns) (hx : rdX w q.x A' B') :
    Below w.heap.size w w1 ∧ w1.heap.size = w.heap.size + 1 ∧ RdT w1 A q.ns.length q.ns ∧ rdX w1 q.x A' B' ∧ ∀ w', Below w1.heap.size w1 w' → ∀ j, w'.cell? ⟨w.heap.size, j, none⟩ = (qnA q A c A' ca B' cb)[j]? := by
  subst h
  have hb := (Below.refl w.heap.size w).alloc (Nat.le_refl _) (.cells (qnA q A c A' ca B' cb) 50)
  refine ⟨hb, by simp, hr.below hb, hx.below hb, fun w' hb j => ?_⟩
  rw [hb.cell (p := ⟨w.heap.size, j, none⟩) (by simp), World.cell?_alloc_new]
theorem getD_mem {ss : List ByteArray} {k : Nat} (h : k < ss.length) : ss[k]?.getD ByteArray.empty ∈ ss := by
  rw [List.getElem?_eq_getElem h]
  exact List.getElem_mem _

end Go.Proofs.Ytapnodhgjfbjjaa

namespace Go.Proofs.Ytapnodhgjfbjjaa
open Go.RowKit Go.Sort
set_option linter.unusedVariables false
set_option linter.unusedSimpArgs false

def OkN (n : Nd) : Prop := n.nm.size ≤ maxLen ∧ (∀ d ∈ n.all, OkD d) ∧ ∀ q ∈ n.eqs, OkQ q
def ndAtB (es io i : Nat) (d : Dc) : Bool := declB es rightB d && !(decide (i < io) && !noB d.on)
theorem getD_memA {α : Type} [Inhabited α] {l : List α} {k : Nat} (h : k < l.length) : l[k]?.getD default ∈ l := by
  rw [List.getElem?_eq_getElem h]
  exact List.getElem_mem _
theorem all_io {n : Nd} {i : Nat} (h : i < n.ins.length + n.outs.length) : n.all[i]?.getD default = (n.ins ++ n.outs)[i]?.getD default := by
  rw [Nd.all, List.getElem?_append_left (by rw [List.length_append]; exact h)]
theorem node_yes {n : Nd} {es : Nat} (h : ∀ i, i < n.all.length → ndAtB es (n.ins.length + n.outs.length) i (n.all[i]?.getD default) = true) : (n.all.all (declB es rightB) && portsB n) = true := by
  rw [Bool.and_eq_true]
  constructor
  · rw [List.all_eq_true]
    intro d hd
    obtain ⟨i, hi, rfl⟩ := List.getElem_of_mem hd
    have := h i hi
    rw [List.getElem?_eq_getElem hi, Option.getD_some, ndAtB, Bool.and_eq_true] at this
    exact this.1
  · rw [portsB, List.all_eq_true]
    intro d hd
    obtain ⟨i, hi, rfl⟩ := List.getElem_of_mem hd
    have hl : i < n.ins.length + n.outs.length := by rw [← List.length_append]; exact hi
    have := h i (by rw [all_len]; omega)
    rw [all_io hl, List.getElem?_eq_getElem hi, Option.getD_some, ndAtB, Bool.and_eq_true, decide_eq_true hl] at this
    simpa using this.2
theorem node_no {n : Nd} {es i : Nat} (hi : i < n.all.length) (h : ndAtB es (n.ins.length + n.outs.length) i (n.all[i]?.getD default) = false) : (n.all.all (declB es rightB) && portsB n) = false := by
  rw [Bool.and_eq_false_iff]
  rw [ndAtB, Bool.and_eq_false_iff] at h
  rcases h with h | h
  · exact .inl (all_at_no hi h)
  · right
    have h2 : (decide (i < n.ins.length + n.outs.length) && !noB (n.all[i]?.getD default).on) = true := by simpa using h
    rw [Bool.and_eq_true, decide_eq_true_eq] at h2
    rw [portsB]
    refine all_at_no (k := i) (by rw [List.length_append]; exact h2.1) ?_
    rw [← all_io h2.1]
    simpa using h2.2

/-- An equation's seven cells, one by one. -/
theorem QnAt.seven {w : World} {b o : Nat} {q : Qn} (h : QnAt w b o q) : ∃ A c A' ca B' cb, RdT w A q.ns.length q.ns ∧ rdX w q.x A' B' ∧
    w.cell? ⟨b, o, none⟩ = some (.slice A q.ns.length c) ∧ w.cell? ⟨b, o + 1, none⟩ = some (.int .i64 q.x.k) ∧ w.cell? ⟨b, o + 2, none⟩ = some (.int .i64 q.x.n) ∧ w.cell? ⟨b, o + 3, none⟩ = some (.string q.x.s) ∧ w.cell? ⟨b, o + 4, none⟩ = some (.int .i64 q.x.op) ∧
      w.cell? ⟨b, o + 5, none⟩ = some (.slice A' q.x.arms.length ca) ∧ w.cell? ⟨b, o + 6, none⟩ = some (.slice B' q.x.subs.length cb) := by
  obtain ⟨A, c, A', ca, B', cb, h1, h2, h3, h4⟩ := h
  obtain ⟨r0, r1, r2, r3, r4, r5⟩ := rangeAt_six h3
  exact ⟨A, c, A', ca, B', cb, h2, h4, h1, r0, r1, r2, r3, r4, r5⟩

end Go.Proofs.Ytapnodhgjfbjjaa
