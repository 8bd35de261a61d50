/- Programs in memory; what keeps them. Conditions: none. -/
import Derived.Test.YtapnodhgjfbjjaaGreatPgM
import Derived.Test.YtapnodhgjfbjjaaGreatExR
namespace Go.Proofs.YtapnodhgjfbjjaaGreat
open Go.RowKit
set_option linter.unusedVariables false

/-- The slice at A, of n items of k cells each, reads in w as l; an item lies as At says. -/
def RdS {α : Type} [Inhabited α] (k : Nat) (At : World → Nat → Nat → α → Prop) (w : World) (A : Option Addr) (n : Nat) (l : List α) : Prop :=
  l.length = n ∧ n ≤ 9223372036854775807 ∧ (0 < n → ∃ b off, A = some ⟨b, off, none⟩ ∧ b < w.heap.size ∧ ∀ i, i < n → At w b (off + i * k) (l[i]?.getD default))
/-- What keeps an item. -/
def KeepsAt {α : Type} (At : World → Nat → Nat → α → Prop) : Prop :=
  ∀ {w w' : World} {b o : Nat} {x : α}, At w b o x → b < w.heap.size → w.heap.size ≤ w'.heap.size → (∀ p : Addr, p.block < w.heap.size → w'.cell? p = w.cell? p) → At w' b o x

def dcL (d : Dc) : List Value := [.string d.nm, .int .i64 d.k, .int .i64 d.e, .int .i64 d.l, .string d.on, .string d.ct]
def dcA (d : Dc) : Array Value := #[.string d.nm, .int .i64 d.k, .int .i64 d.e, .int .i64 d.l, .string d.on, .string d.ct]
def DcAt (w : World) (b o : Nat) (d : Dc) : Prop := w.rangeAt b o (dcL d)
def RdD (w : World) (A : Option Addr) (n : Nat) (l : List Dc) : Prop := RdS 6 DcAt w A n l
/-- An equation's names, its expression. -/
def QnAt (w : World) (b o : Nat) (q : Qn) : Prop :=
  ∃ A c A' ca B' cb, w.cell? ⟨b, o, none⟩ = some (.slice A q.ns.length c) ∧ RdT w A q.ns.length q.ns ∧ w.rangeAt b (o + 1) (exL q.x A' ca B' cb) ∧ rdX w q.x A' B'
def RdQ (w : World) (A : Option Addr) (n : Nat) (l : List Qn) : Prop := RdS 7 QnAt w A n l
/-- A node's five cells. -/
def ndA (n : Nd) (A1 : Option Addr) (c1 : Nat) (A2 : Option Addr) (c2 : Nat) (A3 : Option Addr) (c3 : Nat) (A4 : Option Addr) (c4 : Nat) : Array Value :=
  #[.string n.nm, .slice A1 n.ins.length c1, .slice A2 n.outs.length c2, .slice A3 n.vars.length c3, .slice A4 n.eqs.length c4]
def ndL (n : Nd) (A1 : Option Addr) (c1 : Nat) (A2 : Option Addr) (c2 : Nat) (A3 : Option Addr) (c3 : Nat) (A4 : Option Addr) (c4 : Nat) : List Value :=
  [.string n.nm, .slice A1 n.ins.length c1, .slice A2 n.outs.length c2, .slice A3 n.vars.length c3, .slice A4 n.eqs.length c4]
/-- What lies at a node's four lists. -/
def rdN (w : World) (n : Nd) (A1 A2 A3 A4 : Option Addr) : Prop := RdD w A1 n.ins.length n.ins ∧ RdD w A2 n.outs.length n.outs ∧ RdD w A3 n.vars.length n.vars ∧ RdQ w A4 n.eqs.length n.eqs
def NdAt (w : World) (b o : Nat) (n : Nd) : Prop :=
  ∃ A1 c1 A2 c2 A3 c3 A4 c4, w.rangeAt b o (ndL n A1 c1 A2 c2 A3 c3 A4 c4) ∧ rdN w n A1 A2 A3 A4
def RdNs (w : World) (A : Option Addr) (n : Nat) (l : List Nd) : Prop := RdS 5 NdAt w A n l

section
variable {w w' : World} {A B A1 A2 A3 A4 : Option Addr} {n : Nat}
theorem RdS.len {α : Type} [Inhabited α] {k : Nat} {At : World → Nat → Nat → α → Prop} {l : List α} (h : RdS k At w A n l) : l.length = n := h.1
theorem RdS.max {α : Type} [Inhabited α] {k : Nat} {At : World → Nat → Nat → α → Prop} {l : List α} (h : RdS k At w A n l) : n ≤ 9223372036854775807 := h.2.1
theorem RdS.at_ {α : Type} [Inhabited α] {k : Nat} {At : World → Nat → Nat → α → Prop} {l : List α} (h : RdS k At w A n l) (hn : 0 < n) :
    ∃ b off, A = some ⟨b, off, none⟩ ∧ b < w.heap.size ∧ ∀ i, i < n → At w b (off + i * k) (l[i]?.getD default) := h.2.2 hn
theorem RdS.nil_ {α : Type} [Inhabited α] (k : Nat) (At : World → Nat → Nat → α → Prop) (w : World) : RdS k At w none 0 [] := ⟨rfl, by omega, by omega⟩
theorem RdS.keep {α : Type} [Inhabited α] {k : Nat} {At : World → Nat → Nat → α → Prop} {l : List α} (hAt : KeepsAt At) (h : RdS k At w A n l) (hs : w.heap.size ≤ w'.heap.size) (hk : ∀ p : Addr, p.block < w.heap.size → w'.cell? p = w.cell? p) : RdS k At w' A n l :=
  ⟨h.1, h.2.1, fun hn => by
    obtain ⟨b, off, e, hb, hc⟩ := h.2.2 hn
    exact ⟨b, off, e, by omega, fun i hi => hAt (hc i hi) hb hs hk⟩⟩

theorem keeps_dc : KeepsAt DcAt := fun h hb hs hk => rangeAt_keep h hb hk
theorem keeps_qn : KeepsAt QnAt := fun h hb hs hk => by
  obtain ⟨A, c, A', ca, B', cb, h1, h2, h3, h4⟩ := h
  exact ⟨A, c, A', ca, B', cb, (hk _ hb).trans h1, h2.keep hs hk, rangeAt_keep h3 hb hk, h4.keep hs hk⟩
theorem RdD.keep {l : List Dc} (h : RdD w A n l) (hs : w.heap.size ≤ w'.heap.size) (hk : ∀ p : Addr, p.block < w.heap.size → w'.cell? p = w.cell? p) : RdD w' A n l := RdS.keep keeps_dc h hs hk
theorem RdQ.keep {l : List Qn} (h : RdQ w A n l) (hs : w.heap.size ≤ w'.heap.size) (hk : ∀ p : Addr, p.block < w.heap.size → w'.cell? p = w.cell? p) : RdQ w' A n l := RdS.keep keeps_qn h hs hk
theorem rdN.keep {x : Nd} (h : rdN w x A1 A2 A3 A4) (hs : w.heap.size ≤ w'.heap.size) (hk : ∀ p : Addr, p.block < w.heap.size → w'.cell? p = w.cell? p) : rdN w' x A1 A2 A3 A4 :=
  ⟨h.1.keep hs hk, h.2.1.keep hs hk, h.2.2.1.keep hs hk, h.2.2.2.keep hs hk⟩
theorem keeps_nd : KeepsAt NdAt := fun h hb hs hk => by
  obtain ⟨A1, c1, A2, c2, A3, c3, A4, c4, h1, h2⟩ := h
  exact ⟨A1, c1, A2, c2, A3, c3, A4, c4, rangeAt_keep h1 hb hk, h2.keep hs hk⟩
theorem RdNs.keep {l : List Nd} (h : RdNs w A n l) (hs : w.heap.size ≤ w'.heap.size) (hk : ∀ p : Addr, p.block < w.heap.size → w'.cell? p = w.cell? p) : RdNs w' A n l := RdS.keep keeps_nd h hs hk
theorem RdD.below {l : List Dc} (h : RdD w A n l) (hb : Below w.heap.size w w') : RdD w' A n l := h.keep hb.size fun _ hp => hb.cell hp
theorem RdQ.below {l : List Qn} (h : RdQ w A n l) (hb : Below w.heap.size w w') : RdQ w' A n l := h.keep hb.size fun _ hp => hb.cell hp
theorem rdN.below {x : Nd} (h : rdN w x A1 A2 A3 A4) (hb : Below w.heap.size w w') : rdN w' x A1 A2 A3 A4 := h.keep hb.size fun _ hp => hb.cell hp
theorem RdNs.below {l : List Nd} (h : RdNs w A n l) (hb : Below w.heap.size w w') : RdNs w' A n l := h.keep hb.size fun _ hp => hb.cell hp

/-- A variable's cells, one by one. -/
theorem DcAt.six {b o : Nat} {d : Dc} (h : DcAt w b o d) :
    w.cell? ⟨b, o, none⟩ = some (.string d.nm) ∧ w.cell? ⟨b, o + 1, none⟩ = some (.int .i64 d.k) ∧ w.cell? ⟨b, o + 2, none⟩ = some (.int .i64 d.e) ∧ w.cell? ⟨b, o + 3, none⟩ = some (.int .i64 d.l) ∧
      w.cell? ⟨b, o + 4, none⟩ = some (.string d.on) ∧ w.cell? ⟨b, o + 5, none⟩ = some (.string d.ct) := ⟨h 0 _ rfl, h 1 _ rfl, h 2 _ rfl, h 3 _ rfl, h 4 _ rfl, h 5 _ rfl⟩
theorem ndL_five {b o : Nat} {x : Nd} {c1 c2 c3 c4 : Nat} (h : w.rangeAt b o (ndL x A1 c1 A2 c2 A3 c3 A4 c4)) :
    w.cell? ⟨b, o, none⟩ = some (.string x.nm) ∧ w.cell? ⟨b, o + 1, none⟩ = some (.slice A1 x.ins.length c1) ∧ w.cell? ⟨b, o + 2, none⟩ = some (.slice A2 x.outs.length c2) ∧ w.cell? ⟨b, o + 3, none⟩ = some (.slice A3 x.vars.length c3) ∧
      w.cell? ⟨b, o + 4, none⟩ = some (.slice A4 x.eqs.length c4) := ⟨h 0 _ rfl, h 1 _ rfl, h 2 _ rfl, h 3 _ rfl, h 4 _ rfl⟩
end

theorem cells_dc : Tryz.prog.cellsOf 48 = 6 := by kernel_rfl
theorem dc_info (d : Dc) : (Tryz.prog.info? 48).map (·.size) = some (dcL d).length := by kernel_rfl
theorem cells_qn : Tryz.prog.cellsOf 43 = 7 := by kernel_rfl
theorem cells_nd : Tryz.prog.cellsOf 36 = 5 := by kernel_rfl
end Go.Proofs.YtapnodhgjfbjjaaGreat
