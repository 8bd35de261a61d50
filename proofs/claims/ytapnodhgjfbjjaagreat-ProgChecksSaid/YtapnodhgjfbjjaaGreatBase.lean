/- What the walks of this seat share: what it is for a slice to read as a list of whole numbers, and what keeps it so. Conditions: none. -/
import Derived.WalkKit
import Derived.ProofKit
import Derived.OpenShut
import Derived.Below
import Derived.Lib.Hide
import Derived.IntWalk
import Derived.Deep.QuietTactic
import Derived.BigQuiet
import Derived.Deep.Draws
import Derived.Laws.BitsAllLaws
import Derived.Laws.BitsLemmas
import Derived.Laws.Bits64
import Derived.Deep.OwnRows
import Derived.RegionTactic
import Derived.ChangeAlike
import Derived.OwnWalk
import Derived.Outline
import Derived.WalkSpells
namespace Go.Proofs.YtapnodhgjfbjjaaGreat
open Go.RowKit

/-- The slice at A, of n items, with room for c, reads in w as the numbers l, each of kind k. -/
def Rd (k : IntKind) (w : World) (A : Option Addr) (n c : Nat) (l : List Int) : Prop :=
  l.length = n ∧ n ≤ c ∧ c ≤ maxLen ∧ (∀ z ∈ l, (Lit.int k z).wf = true) ∧
  (0 < n → ∃ b off, A = some ⟨b, off, none⟩ ∧ b < w.heap.size ∧ ∀ i, i < n → w.cell? ⟨b, off + i, none⟩ = some (.int k (l[i]?.getD 0)))

section
variable {k : IntKind} {w w' : World} {A : Option Addr} {n c : Nat} {l : List Int}

theorem Rd.nil_ (k : IntKind) (w : World) : Rd k w none 0 0 [] := ⟨rfl, Nat.le_refl _, by decide, by simp, by omega⟩

theorem Rd.len (h : Rd k w A n c l) : l.length = n := h.1
theorem Rd.le (h : Rd k w A n c l) : n ≤ c := h.2.1
theorem Rd.max (h : Rd k w A n c l) : n ≤ 9223372036854775807 := by
  have h1 := h.2.1
  have h2 := h.2.2.1
  unfold maxLen at h2
  omega

theorem Rd.at_ (h : Rd k w A n c l) {i : Nat} (hi : i < n) :
    ∃ b off, A = some ⟨b, off, none⟩ ∧ b < w.heap.size ∧ ∀ i, i < n → w.cell? ⟨b, off + i, none⟩ = some (.int k (l[i]?.getD 0)) :=
  h.2.2.2.2 (by omega)

theorem Rd.wf (h : Rd k w A n c l) {i : Nat} (hi : i < n) : (Lit.int k (l[i]?.getD 0)).wf = true := by
  have h1 := h.1
  have : l[i]?.getD 0 ∈ l := by
    rw [List.getElem?_eq_getElem (by omega)]
    exact List.getElem_mem _
  exact h.2.2.2.1 _ this

theorem Rd.u8 (h : Rd .u8 w A n c l) {i : Nat} (hi : i < n) : 0 ≤ l[i]?.getD 0 ∧ l[i]?.getD 0 ≤ 255 := by
  simpa [Lit.wf, IntKind.min, IntKind.max, IntKind.signed, IntKind.bits] using h.wf hi

theorem Rd.keep (h : Rd k w A n c l) (hs : w.heap.size ≤ w'.heap.size) (hk : ∀ p : Addr, p.block < w.heap.size → w'.cell? p = w.cell? p) : Rd k w' A n c l :=
  ⟨h.1, h.2.1, h.2.2.1, h.2.2.2.1, fun hn => by
    obtain ⟨b, off, e, hb, hc⟩ := h.2.2.2.2 hn
    exact ⟨b, off, e, by omega, fun i hi => (hk _ hb).trans (hc i hi)⟩⟩

theorem Rd.below (h : Rd k w A n c l) (hb : Below w.heap.size w w') : Rd k w' A n c l := h.keep hb.size fun _ hp => hb.cell hp
theorem Rd.drewN (h : Rd k w A n c l) (m : Nat) : Rd k (w.drewN m) A n c l := h
theorem Rd.drew (h : Rd k w A n c l) : Rd k w.drew A n c l := h
theorem Rd.alloc (h : Rd k w A n c l) (o : Obj) : Rd k (w.alloc o) A n c l := h.below ((Below.refl _ _).alloc (Nat.le_refl _) o)
end

/-- A row of the call's own reads so. -/
theorem Rd.of_own {k : IntKind} {w : World} {base : Nat} {e : TypeId} {v : Value} {n : Nat} {xs : List Value} {l : List Int} (h : w.ownsRow base e 1 v n xs) (hx : xs = l.map (Value.int k)) (hwf : ∀ z ∈ l, (Lit.int k z).wf = true) :
    ∃ A c, v = .slice A n c ∧ Rd k w A n c l ∧ (0 < n → ∃ g, A = some ⟨g, 0, none⟩ ∧ base ≤ g) := by
  subst hx
  have hl : l.length = n := by have := h.1; simpa using this
  rcases h.2 with ⟨rfl, rfl⟩ | ⟨g, cap, cur, rfl, hg, hh, hnc, hcm, hcs, ht⟩
  · obtain rfl : l = [] := List.eq_nil_of_length_eq_zero hl
    exact ⟨none, 0, rfl, Rd.nil_ _ _, by omega⟩
  · refine ⟨_, cap, rfl, ⟨hl, hnc, hcm, hwf, fun hn => ⟨g, 0, rfl, ?_, fun i hi => ?_⟩⟩, fun _ => ⟨g, rfl, hg⟩⟩
    · exact (Array.getElem?_eq_some_iff.1 hh).1
    · have h1 := h.cellAt i (by omega)
      rw [Nat.zero_add, h1]
      simp [List.getElem?_eq_getElem (show i < l.length by omega)]

/-- The cells of what reads so, for an append's law. -/
theorem Rd.news {k : IntKind} {w : World} {a : Addr} {n c : Nat} {l : List Int} (h : Rd k w (some a) n c l) (j : Nat) (u : Value) (hu : (l.map (Value.int k))[j]? = some u) : w.cell? (a.add j) = some u := by
  have hj : j < l.length := by
    rcases Nat.lt_or_ge j l.length with h | h
    · exact h
    · rw [List.getElem?_eq_none (by simpa using h)] at hu; cases hu
  obtain ⟨b, off, e, _, hc⟩ := h.at_ (i := j) (by rw [← h.len]; exact hj)
  injection e with e
  subst e
  have := hc j (by rw [← h.len]; exact hj)
  have e2 : (⟨b, off, none⟩ : Addr).add j = ⟨b, off + j, none⟩ := by unfold Addr.add; split <;> simp_all
  rw [e2, this, ← hu]
  simp [List.getElem?_eq_getElem hj]

theorem one_cells {k : IntKind} (l : List Int) : ∀ u ∈ l.map (Value.int k), u.oneCell' = true := by
  intro u hu
  simp only [List.mem_map] at hu
  obtain ⟨z, _, rfl⟩ := hu
  rfl

theorem below_drewN {B : Nat} {a w : World} (h : Below B a w) (n : Nat) : Below B a (w.drewN n) := ⟨h.os, h.tape, h.output, h.size, h.block⟩

theorem take_snoc {l : List Int} {i : Nat} (h : i < l.length) : l.take (i + 1) = l.take i ++ [l[i]?.getD 0] := by
  rw [List.take_succ_eq_append_getElem h, List.getElem?_eq_getElem h]
  rfl

/-- make of n items of one cell each: an equation for every world. -/
theorem mk_row {P : Program} (t e : TypeId) (z : Value) (by_ : Nat) (ht : P.underlying t = some (.slice e)) (hi : (P.info? e).map (fun i => (i.zero, i.size, i.bytes)) = some (some z, 1, by_))
    (hzc : z.cells = #[z]) (n : Nat) (hb : by_ * n ≤ 281474976710656) (hn : n ≤ 9223372036854775807) (W : World) :
    (Instr.makeSlice t (.int .i64 (n : Int)) (.int .i64 (n : Int))).run P W = .ok (.slice (some ⟨W.heap.size, 0, none⟩) n n) (W.alloc (.cells (madeCells #[z] n) e)) := by
  obtain ⟨i0, hi, hz0, hz1, hz2⟩ := info_parts hi
  have hb' : (i0.bytes : Int) * (n : Int) ≤ 281474976710656 := by
    rw [hz2]
    have h : ((by_ * n : Nat) : Int) ≤ 281474976710656 := by omega
    rwa [Int.natCast_mul] at h
  have := run_make (P := P) W t e i0 z ht hi hz0 .i64 .i64 n n (by omega) (by omega) hb' (by omega)
  rw [hz1] at this
  simpa [hzc] using this

theorem ret_int {k : IntKind} {a b : Int} (h : a = b) : Ending.returned (.int k a) = .returned (.int k b) := by rw [h]
theorem ret_bool {a b : Bool} (h : a = b) : Ending.returned (.bool a) = .returned (.bool b) := by rw [h]
end Go.Proofs.YtapnodhgjfbjjaaGreat
