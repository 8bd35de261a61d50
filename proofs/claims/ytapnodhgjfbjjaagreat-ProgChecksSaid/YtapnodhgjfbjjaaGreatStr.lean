/- What it is for a slice of texts to read as a list of texts, and what keeps it so. Conditions: none. -/
import Derived.Test.YtapnodhgjfbjjaaGreatBase
namespace Go.Proofs.YtapnodhgjfbjjaaGreat
open Go.RowKit

/-- The slice at A, of n items, reads in w as the texts ss. -/
def RdT (w : World) (A : Option Addr) (n : Nat) (ss : List ByteArray) : Prop :=
  ss.length = n ∧ n ≤ 9223372036854775807 ∧
  (0 < n → ∃ b off, A = some ⟨b, off, none⟩ ∧ b < w.heap.size ∧ ∀ i, i < n → w.cell? ⟨b, off + i, none⟩ = some (.string (ss[i]?.getD ByteArray.empty)))

section
variable {w w' : World} {A : Option Addr} {n : Nat} {ss : List ByteArray}

theorem RdT.nil_ (w : World) : RdT w none 0 [] := ⟨rfl, by omega, by omega⟩
theorem RdT.len (h : RdT w A n ss) : ss.length = n := h.1
theorem RdT.max (h : RdT w A n ss) : n ≤ 9223372036854775807 := h.2.1
theorem RdT.at_ (h : RdT w A n ss) {i : Nat} (hi : i < n) :
    ∃ b off, A = some ⟨b, off, none⟩ ∧ b < w.heap.size ∧ ∀ i, i < n → w.cell? ⟨b, off + i, none⟩ = some (.string (ss[i]?.getD ByteArray.empty)) :=
  h.2.2 (by omega)

theorem RdT.keep (h : RdT w A n ss) (hs : w.heap.size ≤ w'.heap.size) (hk : ∀ p : Addr, p.block < w.heap.size → w'.cell? p = w.cell? p) : RdT w' A n ss :=
  ⟨h.1, h.2.1, fun hn => by
    obtain ⟨b, off, e, hb, hc⟩ := h.2.2 hn
    exact ⟨b, off, e, by omega, fun i hi => (hk _ hb).trans (hc i hi)⟩⟩

theorem RdT.below (h : RdT w A n ss) (hb : Below w.heap.size w w') : RdT w' A n ss := h.keep hb.size fun _ hp => hb.cell hp
theorem RdT.drewN (h : RdT w A n ss) (m : Nat) : RdT (w.drewN m) A n ss := h
theorem RdT.alloc (h : RdT w A n ss) (o : Obj) : RdT (w.alloc o) A n ss := h.below ((Below.refl _ _).alloc (Nat.le_refl _) o)

/-- A row of the call's own reads so. -/
theorem RdT.of_own {base : Nat} {e : TypeId} {v : Value} (h : w.ownsRow base e 1 v n (ss.map Value.string)) (hm : n ≤ 9223372036854775807) :
    ∃ A c, v = .slice A n c ∧ RdT w A n ss ∧ (A = none → n = 0) := by
  have hl : ss.length = n := by have := h.1; simpa using this
  rcases h.2 with ⟨rfl, rfl⟩ | ⟨g, cap, cur, rfl, hg, hh, hnc, hcm, hcs, ht⟩
  · obtain rfl : ss = [] := List.eq_nil_of_length_eq_zero hl
    exact ⟨none, 0, rfl, RdT.nil_ _, fun _ => rfl⟩
  · refine ⟨_, cap, rfl, ⟨hl, hm, fun hn => ⟨g, 0, rfl, ?_, fun i hi => ?_⟩⟩, fun h => by cases h⟩
    · exact (Array.getElem?_eq_some_iff.1 hh).1
    · have h1 := h.cellAt i (by omega)
      rw [Nat.zero_add, h1]
      simp [List.getElem?_eq_getElem (show i < ss.length by omega)]

/-- A literal reads so. -/
theorem RdT.lit (w : World) (T : TypeId) (ss : List ByteArray) (n : Nat) (hn : ss.length = n) (hm : n ≤ 9223372036854775807) (cs : Array Value) (hcs : cs = (ss.map Value.string).toArray) :
    RdT (w.alloc (.cells cs T)) (some ⟨w.heap.size, 0, none⟩) n ss := by
  subst hcs hn
  refine ⟨rfl, hm, fun _ => ⟨_, _, rfl, by simp, fun i hi => ?_⟩⟩
  rw [Nat.zero_add, World.cell?_alloc_new]
  simp [List.getElem?_eq_getElem hi]
end

/-- An argument reads so. -/
theorem rdT_arg {w : World} {x : Addr} {n : Nat} {ss : List ByteArray} (hle : n ≤ ss.length) (hm : n ≤ 9223372036854775807) (hc : ∀ i, i < ss.length → w.cell? (x.add i) = some (.string (ss.getD i ByteArray.empty))) :
    RdT w (some x) n (ss.take n) := by
  refine ⟨by simp; omega, hm, fun hn => ?_⟩
  obtain ⟨b, off, spot⟩ := x
  have h0 := hc 0 (by omega)
  have hspot : spot = none := by simpa [Addr.add] using World.cell?_spot h0
  subst hspot
  have hadd : ∀ i, (⟨b, off, none⟩ : Addr).add i = ⟨b, off + i, none⟩ := fun i => by unfold Addr.add; split <;> simp_all
  refine ⟨b, off, rfl, World.block_lt_of_cell? w _ h0, fun i hi => ?_⟩
  rw [← hadd, hc i (by omega), List.getElem?_take_of_lt hi, List.getD_eq_getElem?_getD]

theorem below_trans2 {a b c : World} (h1 : Below a.heap.size a b) (h2 : Below b.heap.size b c) : Below a.heap.size a c := h1.trans (h2.mono h1.size)
end Go.Proofs.YtapnodhgjfbjjaaGreat
