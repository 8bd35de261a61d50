/- Slices of pieces, as they lie in memory. Conditions: none. -/
import Derived.Test.YtjihgpjpmfeakaaRdL
import Derived.Deep.RegionHeld3
namespace Go.Proofs.Ytjihgpjpmfeakaa
open Go.RowKit
set_option linter.unusedVariables false

/-- One piece: what to do, the number, the size, the Int, the text. -/
structure Pc where
  d : Int
  n : Int
  z : Int
  i : Int
  s : ByteArray
instance : Inhabited Pc := ⟨⟨0, 0, 0, 0, .empty⟩⟩

/-- The slice at A reads as the pieces f 0 .. f (n - 1). -/
def Pcs (w : World) (A : Option Addr) (n c : Nat) (f : Nat → Pc) : Prop :=
  n ≤ c ∧ c ≤ maxLen ∧ (0 < n → ∃ b off, A = some ⟨b, off, none⟩ ∧ b < w.heap.size ∧ ∀ i, i < n →
    (w.cell? ⟨b, off + i * 5, none⟩ = some (.int .i64 (f i).d) ∧ w.cell? ⟨b, off + i * 5 + 1, none⟩ = some (.int .i64 (f i).n) ∧ w.cell? ⟨b, off + i * 5 + 2, none⟩ = some (.int .i64 (f i).z) ∧
     w.cell? ⟨b, off + i * 5 + 3, none⟩ = some (.int .i64 (f i).i) ∧ w.cell? ⟨b, off + i * 5 + 4, none⟩ = some (.string (f i).s)) ∧ I64 (f i).n ∧ I64 (f i).i ∧ (f i).s.size ≤ 9223372036854775807)

theorem Pcs.max {w : World} {A : Option Addr} {n c : Nat} {f : Nat → Pc} (h : Pcs w A n c f) : n ≤ 9223372036854775807 := by
  have h1 := h.1
  have h2 := h.2.1
  unfold maxLen at h2
  omega

theorem Pcs.below {w w' : World} {A : Option Addr} {n c : Nat} {f : Nat → Pc} (h : Pcs w A n c f) (hb : Below w.heap.size w w') : Pcs w' A n c f :=
  ⟨h.1, h.2.1, fun hn => by
    obtain ⟨b, off, e, hlt, hc⟩ := h.2.2 hn
    refine ⟨b, off, e, Nat.lt_of_lt_of_le hlt hb.size, fun i hi => ?_⟩
    obtain ⟨⟨h0, h1, h2, h3, h4⟩, h5⟩ := hc i hi
    exact ⟨⟨(hb.cell hlt).trans h0, (hb.cell hlt).trans h1, (hb.cell hlt).trans h2, (hb.cell hlt).trans h3, (hb.cell hlt).trans h4⟩, h5⟩⟩

theorem rdAt_no (b : Nat) (A : Option Addr) (n c : Nat) (l : List Int) (w : World) (h : RdrAt w b A n c l none) :
    Calls Try.prog 19 #[.pointer (some ⟨b, 0, none⟩)] w fun e w' => e = .returned (.int .i64 0) ∧ w = w' := rdAt b A n c l none w h
theorem rdAt_yes (b : Nat) (A : Option Addr) (n c : Nat) (l : List Int) (p : Nat) (w : World) (h : RdrAt w b A n c l (some p)) :
    Calls Try.prog 19 #[.pointer (some ⟨b, 0, none⟩)] w fun e w' => e = .returned (.int .i64 p) ∧ w = w' := rdAt b A n c l (some p) w h
theorem RefAt.n1 {w : World} {b n c : Nat} {A : Option Addr} {l : List Int} (h : RefAt w b A n c l none) : w.cell? ⟨b, 1, none⟩ = some (.int .i64 0) := h.c1
theorem RefAt.n2 {w : World} {b n c : Nat} {A : Option Addr} {l : List Int} (h : RefAt w b A n c l none) : w.cell? ⟨b, 2, none⟩ = some (.bool true) := h.c2
theorem RefAt.y1 {w : World} {b n c p : Nat} {A : Option Addr} {l : List Int} (h : RefAt w b A n c l (some p)) : w.cell? ⟨b, 1, none⟩ = some (.int .i64 p) := h.c1
theorem RefAt.y2 {w : World} {b n c p : Nat} {A : Option Addr} {l : List Int} (h : RefAt w b A n c l (some p)) : w.cell? ⟨b, 2, none⟩ = some (.bool false) := h.c2

/-- What reads as bytes lies in no block that holds none. -/
theorem rd_off {w : World} {b n : Nat} {T : TypeId} {g : Nat → Value} (h : w.rowIs b T n g) (hu : ∀ i, i < n → ∀ z, g i ≠ .int .u8 z) {A : Option Addr} {m c : Nat} {l : List Int} (hr : Rd .u8 w A m c l) :
    0 < m → ∀ a, A = some a → some a.block ≠ some b := by
  intro hm a ha e
  obtain ⟨b', off, e2, hb, hc⟩ := hr.at_ hm
  rw [ha] at e2
  injection e2 with e2
  subst e2
  have e3 : b' = b := Option.some.inj e
  subst e3
  have h0 := hc 0 hm
  obtain ⟨cs, hh, hs, hf⟩ := h
  rw [cell_of_row w b' (off + 0) cs T (0, 0) hh] at h0
  rcases Nat.lt_or_ge off n with ho | ho
  · have := hf off ho
    rw [Nat.add_zero, this] at h0
    exact hu off ho _ (Option.some.inj h0)
  · rw [Array.getElem?_eq_none (by omega)] at h0
    cases h0
theorem RefAt.off {w : World} {b n c : Nat} {A : Option Addr} {l : List Int} {s : Option Nat} (h : RefAt w b A n c l s) {A' : Option Addr} {m c' : Nat} {l' : List Int} (hr : Rd .u8 w A' m c' l') :
    0 < m → ∀ a, A' = some a → some a.block ≠ some b := rd_off h.1.1 (fun i hi z => by
  obtain rfl | rfl | rfl : i = 0 ∨ i = 1 ∨ i = 2 := by omega
  all_goals (simp [refCell])) hr
end Go.Proofs.Ytjihgpjpmfeakaa
