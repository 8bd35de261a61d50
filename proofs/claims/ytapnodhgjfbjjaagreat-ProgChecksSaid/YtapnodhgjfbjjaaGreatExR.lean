/- Expressions in memory: six cells; what keeps them. Conditions: none. -/
import Derived.Test.YtapnodhgjfbjjaaGreatExM
import Derived.Test.YtapnodhgjfbjjaaGreatStr
import Derived.Test.YtapnodhgjfbjjaaGreatRows
import Derived.Deep.MidRow
namespace Go.Proofs.YtapnodhgjfbjjaaGreat
open Go.RowKit
set_option linter.unusedVariables false

/-- An expression's six cells: its arms lie at A, its subs at B. -/
def exL (x : Ex) (A : Option Addr) (ca : Nat) (B : Option Addr) (cb : Nat) : List Value :=
  [.int .i64 x.k, .int .i64 x.n, .string x.s, .int .i64 x.op, .slice A x.arms.length ca, .slice B x.subs.length cb]
def exA (x : Ex) (A : Option Addr) (ca : Nat) (B : Option Addr) (cb : Nat) : Array Value :=
  #[.int .i64 x.k, .int .i64 x.n, .string x.s, .int .i64 x.op, .slice A x.arms.length ca, .slice B x.subs.length cb]

mutual
/-- What lies at A and B reads as x's arms and subs. -/
def rdX (w : World) : Ex → Option Addr → Option Addr → Prop
  | .mk _ _ _ _ arms subs, A, B => RdT w A arms.length arms ∧ subs.length ≤ 9223372036854775807 ∧
      (0 < subs.length → ∃ b off, B = some ⟨b, off, none⟩ ∧ b < w.heap.size ∧ rdXs w subs b off)
/-- In block b from off on lie these. -/
def rdXs (w : World) : List Ex → Nat → Nat → Prop
  | [], _, _ => True
  | x :: l, b, off => (∃ A ca B cb, w.rangeAt b off (exL x A ca B cb) ∧ rdX w x A B) ∧ rdXs w l b (off + 6)
end

/-- The value v reads in w as the expression x. -/
def ExV (w : World) (v : Value) (x : Ex) : Prop := ∃ A ca B cb, v = .agg (exA x A ca B cb) ∧ rdX w x A B
/-- The slice at A, of n expressions, reads in w as l. -/
def RdX (w : World) (A : Option Addr) (n : Nat) (l : List Ex) : Prop :=
  l.length = n ∧ n ≤ 9223372036854775807 ∧ (0 < n → ∃ b off, A = some ⟨b, off, none⟩ ∧ b < w.heap.size ∧ rdXs w l b off)

section
variable {w w' : World} {A B : Option Addr} {n : Nat} {x : Ex} {l : List Ex}
theorem exL_A (x : Ex) (A : Option Addr) (ca : Nat) (B : Option Addr) (cb : Nat) : (exL x A ca B cb).toArray = exA x A ca B cb := rfl

theorem rdX_eq : rdX w x A B ↔ RdT w A x.arms.length x.arms ∧ RdX w B x.subs.length x.subs := by
  cases x
  simp only [rdX, RdX, Ex.arms, Ex.subs, true_and]
theorem rdX.arms (h : rdX w x A B) : RdT w A x.arms.length x.arms := (rdX_eq.1 h).1
theorem rdX.subs (h : rdX w x A B) : RdX w B x.subs.length x.subs := (rdX_eq.1 h).2

theorem rdXs_at : ∀ (l : List Ex) {b off : Nat}, rdXs w l b off → ∀ i, i < l.length → ∃ A ca B cb, w.rangeAt b (off + i * 6) (exL (l[i]?.getD default) A ca B cb) ∧ rdX w (l[i]?.getD default) A B
  | [], _, _, _, _, hi => absurd hi (by simp)
  | x :: l, b, off, h, i, hi => by
    simp only [rdXs] at h
    cases i with
    | zero => simpa using h.1
    | succ i =>
      have := rdXs_at l h.2 i (by simpa using hi)
      rw [show off + 6 + i * 6 = off + (i + 1) * 6 by omega] at this
      simpa using this
theorem rdXs_of : ∀ (l : List Ex) {b off : Nat}, (∀ i, i < l.length → ∃ A ca B cb, w.rangeAt b (off + i * 6) (exL (l[i]?.getD default) A ca B cb) ∧ rdX w (l[i]?.getD default) A B) → rdXs w l b off
  | [], _, _, _ => by simp only [rdXs]
  | x :: l, b, off, h => by
    simp only [rdXs]
    refine ⟨by simpa using h 0 (by simp), rdXs_of l fun i hi => ?_⟩
    have := h (i + 1) (by simpa using hi)
    rw [show off + (i + 1) * 6 = off + 6 + i * 6 by omega] at this
    simpa using this

theorem RdX.len (h : RdX w A n l) : l.length = n := h.1
theorem RdX.max (h : RdX w A n l) : n ≤ 9223372036854775807 := h.2.1
theorem RdX.at_ (h : RdX w A n l) {i : Nat} (hi : i < n) :
    ∃ b off, A = some ⟨b, off, none⟩ ∧ b < w.heap.size ∧ ∀ i, i < n → ∃ A' ca B' cb, w.rangeAt b (off + i * 6) (exL (l[i]?.getD default) A' ca B' cb) ∧ rdX w (l[i]?.getD default) A' B' := by
  obtain ⟨b, off, e, hb, hr⟩ := h.2.2 (by omega)
  exact ⟨b, off, e, hb, fun i hi => rdXs_at l hr i (by rw [h.1]; exact hi)⟩
theorem RdX.nil_ (w : World) : RdX w none 0 [] := ⟨rfl, by omega, by omega⟩

theorem rangeAt_keep {cs : List Value} {b o : Nat} (h : w.rangeAt b o cs) (hb : b < w.heap.size) (hk : ∀ p : Addr, p.block < w.heap.size → w'.cell? p = w.cell? p) : w'.rangeAt b o cs := fun j v hv => (hk _ hb).trans (h j v hv)

mutual
theorem rdX_keep (hs : w.heap.size ≤ w'.heap.size) (hk : ∀ p : Addr, p.block < w.heap.size → w'.cell? p = w.cell? p) : ∀ (x : Ex) (A B : Option Addr), rdX w x A B → rdX w' x A B
  | .mk _ _ _ _ arms subs, A, B, h => by
    simp only [rdX] at h ⊢
    refine ⟨h.1.keep hs hk, h.2.1, fun hn => ?_⟩
    obtain ⟨b, off, e, hb, hr⟩ := h.2.2 hn
    exact ⟨b, off, e, by omega, rdXs_keep hs hk subs b off hb hr⟩
theorem rdXs_keep (hs : w.heap.size ≤ w'.heap.size) (hk : ∀ p : Addr, p.block < w.heap.size → w'.cell? p = w.cell? p) : ∀ (l : List Ex) (b off : Nat), b < w.heap.size → rdXs w l b off → rdXs w' l b off
  | [], _, _, _, _ => by simp only [rdXs]
  | x :: l, b, off, hb, h => by
    simp only [rdXs] at h ⊢
    obtain ⟨⟨A, ca, B, cb, h1, h2⟩, h3⟩ := h
    exact ⟨⟨A, ca, B, cb, rangeAt_keep h1 hb hk, rdX_keep hs hk x A B h2⟩, rdXs_keep hs hk l b (off + 6) hb h3⟩
end

theorem rdX.keep (h : rdX w x A B) (hs : w.heap.size ≤ w'.heap.size) (hk : ∀ p : Addr, p.block < w.heap.size → w'.cell? p = w.cell? p) : rdX w' x A B := rdX_keep hs hk x A B h
theorem rdX.below (h : rdX w x A B) (hb : Below w.heap.size w w') : rdX w' x A B := h.keep hb.size fun _ hp => hb.cell hp
theorem rdX.alloc (h : rdX w x A B) (o : Obj) : rdX (w.alloc o) x A B := h.below ((Below.refl _ _).alloc (Nat.le_refl _) o)
theorem rdX.drewN (h : rdX w x A B) (m : Nat) : rdX (w.drewN m) x A B := h.keep (Nat.le_refl _) fun _ _ => rfl
theorem rdX.drew (h : rdX w x A B) : rdX w.drew x A B := h.keep (Nat.le_refl _) fun _ _ => rfl
theorem RdX.keep (h : RdX w A n l) (hs : w.heap.size ≤ w'.heap.size) (hk : ∀ p : Addr, p.block < w.heap.size → w'.cell? p = w.cell? p) : RdX w' A n l :=
  ⟨h.1, h.2.1, fun hn => by
    obtain ⟨b, off, e, hb, hr⟩ := h.2.2 hn
    exact ⟨b, off, e, by omega, rdXs_keep hs hk l b off hb hr⟩⟩
theorem RdX.below (h : RdX w A n l) (hb : Below w.heap.size w w') : RdX w' A n l := h.keep hb.size fun _ hp => hb.cell hp
theorem RdX.alloc (h : RdX w A n l) (o : Obj) : RdX (w.alloc o) A n l := h.below ((Below.refl _ _).alloc (Nat.le_refl _) o)
theorem ExV.below {v : Value} (h : ExV w v x) (hb : Below w.heap.size w w') : ExV w' v x := by
  obtain ⟨A, ca, B, cb, e, hr⟩ := h
  exact ⟨A, ca, B, cb, e, hr.below hb⟩
theorem ExV.alloc {v : Value} (h : ExV w v x) (o : Obj) : ExV (w.alloc o) v x := h.below ((Below.refl _ _).alloc (Nat.le_refl _) o)

/-- The sub at a place, in memory. -/
theorem rdX.sub (h : rdX w x A B) {i : Nat} (hi : i < x.subs.length) :
    ∃ b off, B = some ⟨b, off, none⟩ ∧ b < w.heap.size ∧ ∀ i, i < x.subs.length → ∃ A' ca B' cb, w.rangeAt b (off + i * 6) (exL (subX x i) A' ca B' cb) ∧ rdX w (subX x i) A' B' := h.subs.at_ hi
end

/-- The six cells, one by one. -/
theorem rangeAt_six {w : World} {b o : Nat} {x : Ex} {A : Option Addr} {ca : Nat} {B : Option Addr} {cb : Nat} (h : w.rangeAt b o (exL x A ca B cb)) :
    w.cell? ⟨b, o, none⟩ = some (.int .i64 x.k) ∧ w.cell? ⟨b, o + 1, none⟩ = some (.int .i64 x.n) ∧ w.cell? ⟨b, o + 2, none⟩ = some (.string x.s) ∧ w.cell? ⟨b, o + 3, none⟩ = some (.int .i64 x.op) ∧
      w.cell? ⟨b, o + 4, none⟩ = some (.slice A x.arms.length ca) ∧ w.cell? ⟨b, o + 5, none⟩ = some (.slice B x.subs.length cb) :=
  ⟨h 0 _ rfl, h 1 _ rfl, h 2 _ rfl, h 3 _ rfl, h 4 _ rfl, h 5 _ rfl⟩

theorem cells_ex : Tryz.prog.cellsOf 41 = 6 := by kernel_rfl
theorem ex_info : (Tryz.prog.info? 41).map (·.size) = some 6 := by kernel_rfl
theorem ex_info' (x : Ex) (A : Option Addr) (ca : Nat) (B : Option Addr) (cb : Nat) : (Tryz.prog.info? 41).map (·.size) = some (exL x A ca B cb).length := ex_info
end Go.Proofs.YtapnodhgjfbjjaaGreat
