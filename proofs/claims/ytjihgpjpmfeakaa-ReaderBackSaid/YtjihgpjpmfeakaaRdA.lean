/- A Reader as it lies in memory, and the reference's: Ok, At, More, fail. Conditions: none. -/
import Derived.Test.YtjihgpjpmfeakaaRdM
import Derived.StillTailTactics
import Derived.BigRegion
namespace Go.Proofs.Ytjihgpjpmfeakaa
open Go.RowKit
set_option linter.unusedVariables false

/-- The cells of a Reader: well, the bytes, the place. -/
def rdrCell (ok : Bool) (v : Value) (p : Int) : Nat → Value
  | 0 => .bool ok
  | 1 => v
  | _ => .int .i64 p
/-- The cells of the reference's: the bytes, the place, whether it failed. -/
def refCell (v : Value) (p : Int) (bad : Bool) : Nat → Value
  | 0 => v
  | 1 => .int .i64 p
  | _ => .bool bad

/-- Block b is a Reader of the bytes l, which lie at A, in state s. -/
def RdrAt (w : World) (b : Nat) (A : Option Addr) (n c : Nat) (l : List Int) (s : Option Nat) : Prop :=
  (∃ p : Nat, w.rowIs b 53 3 (rdrCell s.isSome (.slice A n c) p) ∧ ∀ q, s = some q → p = q ∧ q ≤ n) ∧
  Rd .u8 w A n c l ∧ (0 < n → ∀ a, A = some a → a.block ≠ b)
def RefAt (w : World) (b : Nat) (A : Option Addr) (n c : Nat) (l : List Int) (s : Option Nat) : Prop :=
  (w.rowIs b 37 3 (refCell (.slice A n c) (s.getD 0 : Nat) s.isNone) ∧ ∀ q, s = some q → q ≤ n) ∧
  Rd .u8 w A n c l ∧ (0 < n → ∀ a, A = some a → a.block ≠ b)

theorem Rd.grown {k : IntKind} {w w' : World} {A : Option Addr} {n c : Nat} {l : List Int} {row : Option Nat} (h : Rd k w A n c l) (hg : w.grownBy w' row) (hne : 0 < n → ∀ a, A = some a → some a.block ≠ row) : Rd k w' A n c l :=
  ⟨h.1, h.2.1, h.2.2.1, h.2.2.2.1, fun hn => by
    obtain ⟨b, off, e, hb, hc⟩ := h.2.2.2.2 hn
    exact ⟨b, off, e, Nat.lt_of_lt_of_le hb hg.size, fun i hi => hg.cell (hc i hi) (show some (⟨b, off, none⟩ : Addr).block ≠ row from hne hn _ e)⟩⟩

theorem grown_trans {w w1 w' : World} {row : Option Nat} (h : w.grownBy w1 row) (k : w1.grownBy w' row) : w.grownBy w' row :=
  ⟨k.os.trans h.os, k.tape.trans h.tape, k.output.trans h.output, Nat.le_trans h.size k.size, fun i hi hne => (k.block i (Nat.lt_of_lt_of_le hi h.size) hne).trans (h.block i hi hne)⟩
theorem grown_set {w w1 : World} {b : Nat} (h : w.grownBy w1 (some b)) (i : Nat) (v : Value) : w.grownBy (w1.setCell ⟨b, i, none⟩ v) (some b) :=
  grown_trans h ⟨rfl, rfl, rfl, by simp [World.setCell], fun k _ hne => Below.heap_setCell _ _ _ _ fun e => hne (by rw [e])⟩
theorem grown_drewN {w w1 : World} {row : Option Nat} (h : w.grownBy w1 row) (n : Nat) : w.grownBy (w1.drewN n) row := ⟨h.os, h.tape, h.output, h.size, h.block⟩
theorem grown_drew {w w1 : World} {row : Option Nat} (h : w.grownBy w1 row) : w.grownBy w1.drew row := ⟨h.os, h.tape, h.output, h.size, h.block⟩

section
variable {w w1 w' : World} {b : Nat} {A : Option Addr} {n c : Nat} {l : List Int} {s : Option Nat} {p : Nat}
theorem RdrAt.c0 (h : RdrAt w b A n c l s) : w.cell? ⟨b, 0, none⟩ = some (.bool s.isSome) := by
  obtain ⟨⟨p, hr, _⟩, _⟩ := h
  exact World.rowIs.cell hr (by omega)
theorem RdrAt.c1 (h : RdrAt w b A n c l s) : w.cell? ⟨b, 1, none⟩ = some (.slice A n c) := by
  obtain ⟨⟨p, hr, _⟩, _⟩ := h
  exact World.rowIs.cell hr (by omega)
theorem RdrAt.c2 (h : RdrAt w b A n c l (some p)) : w.cell? ⟨b, 2, none⟩ = some (.int .i64 p) := by
  obtain ⟨⟨q, hr, hq⟩, _⟩ := h
  obtain rfl := (hq p rfl).1
  exact World.rowIs.cell hr (by omega)
theorem RdrAt.fz (h : RdrAt w b A n c l s) (i : Nat) : w.frozen? ⟨b, i, none⟩ = false := by
  obtain ⟨⟨p, hr, _⟩, _⟩ := h
  exact World.rowIs.frozen hr i
theorem RdrAt.lt (h : RdrAt w b A n c l s) : b < w.heap.size := by
  obtain ⟨⟨p, hr, _⟩, _⟩ := h
  exact World.rowIs.lt hr
theorem RdrAt.le (h : RdrAt w b A n c l (some p)) : p ≤ n := by
  obtain ⟨⟨q, hr, hq⟩, _⟩ := h
  exact (hq p rfl).2
theorem RdrAt.rd (h : RdrAt w b A n c l s) : Rd .u8 w A n c l := h.2.1
theorem RdrAt.drewN (h : RdrAt w b A n c l s) (m : Nat) : RdrAt (w.drewN m) b A n c l s := h
theorem RdrAt.drew (h : RdrAt w b A n c l s) : RdrAt w.drew b A n c l s := h
theorem RdrAt.kept {row : Option Nat} (h : RdrAt w b A n c l s) (hg : w.grownBy w' row) (hb : some b ≠ row) (hA : 0 < n → ∀ a, A = some a → some a.block ≠ row) : RdrAt w' b A n c l s := by
  obtain ⟨⟨p, hr, hp⟩, hrd, hne⟩ := h
  exact ⟨⟨p, World.rowIs.of_block hr (hg.block b (World.rowIs.lt hr) hb), hp⟩, hrd.grown hg hA, hne⟩
theorem set_grown (w : World) (b i : Nat) (v : Value) : w.grownBy (w.setCell ⟨b, i, none⟩ v) (some b) := grown_set (World.grownBy.refl _ _) i v
theorem RdrAt.fails (h : RdrAt w b A n c l s) : RdrAt (w.setCell ⟨b, 0, none⟩ (.bool false)) b A n c l none := by
  obtain ⟨⟨p, hr, hp⟩, hrd, hne⟩ := h
  refine ⟨⟨p, (World.rowIs.set hr 0 _).congr fun i hi => ?_, by simp⟩, hrd.grown (set_grown _ _ _ _) (fun h0 a e x => hne h0 a e (by injection x)), hne⟩
  obtain rfl | rfl | rfl : i = 0 ∨ i = 1 ∨ i = 2 := by omega
  all_goals rfl
theorem RdrAt.moves (h : RdrAt w b A n c l (some p)) {q : Nat} (hq : q ≤ n) : RdrAt (w.setCell ⟨b, 2, none⟩ (.int .i64 q)) b A n c l (some q) := by
  obtain ⟨⟨p, hr, hp⟩, hrd, hne⟩ := h
  refine ⟨⟨q, (World.rowIs.set hr 2 _).congr fun i hi => ?_, fun q' e => by injection e with e; exact ⟨e, e ▸ hq⟩⟩, hrd.grown (set_grown _ _ _ _) (fun h0 a e x => hne h0 a e (by injection x)), hne⟩
  obtain rfl | rfl | rfl : i = 0 ∨ i = 1 ∨ i = 2 := by omega
  all_goals rfl

theorem RefAt.c0 (h : RefAt w b A n c l s) : w.cell? ⟨b, 0, none⟩ = some (.slice A n c) := World.rowIs.cell h.1.1 (by omega)
theorem RefAt.c1 (h : RefAt w b A n c l s) : w.cell? ⟨b, 1, none⟩ = some (.int .i64 (s.getD 0 : Nat)) := World.rowIs.cell h.1.1 (by omega)
theorem RefAt.c2 (h : RefAt w b A n c l s) : w.cell? ⟨b, 2, none⟩ = some (.bool s.isNone) := World.rowIs.cell h.1.1 (by omega)
theorem RefAt.fz (h : RefAt w b A n c l s) (i : Nat) : w.frozen? ⟨b, i, none⟩ = false := World.rowIs.frozen h.1.1 i
theorem RefAt.lt (h : RefAt w b A n c l s) : b < w.heap.size := World.rowIs.lt h.1.1
theorem RefAt.le (h : RefAt w b A n c l (some p)) : p ≤ n := h.1.2 p rfl
theorem RefAt.rd (h : RefAt w b A n c l s) : Rd .u8 w A n c l := h.2.1
theorem RefAt.drewN (h : RefAt w b A n c l s) (m : Nat) : RefAt (w.drewN m) b A n c l s := h
theorem RefAt.drew (h : RefAt w b A n c l s) : RefAt w.drew b A n c l s := h
theorem RefAt.kept {row : Option Nat} (h : RefAt w b A n c l s) (hg : w.grownBy w' row) (hb : some b ≠ row) (hA : 0 < n → ∀ a, A = some a → some a.block ≠ row) : RefAt w' b A n c l s :=
  ⟨⟨World.rowIs.of_block h.1.1 (hg.block b (World.rowIs.lt h.1.1) hb), h.1.2⟩, h.2.1.grown hg hA, h.2.2⟩
theorem RefAt.fails (h : RefAt w b A n c l s) : RefAt ((w.setCell ⟨b, 2, none⟩ (.bool true)).setCell ⟨b, 1, none⟩ (.int .i64 0)) b A n c l none := by
  obtain ⟨⟨hr, hp⟩, hrd, hne⟩ := h
  refine ⟨⟨(World.rowIs.set (World.rowIs.set hr 2 _) 1 _).congr fun i hi => ?_, by simp⟩, hrd.grown (grown_set (set_grown _ _ _ _) _ _) (fun h0 a e x => hne h0 a e (by injection x)), hne⟩
  obtain rfl | rfl | rfl : i = 0 ∨ i = 1 ∨ i = 2 := by omega
  all_goals rfl
theorem RefAt.moves (h : RefAt w b A n c l (some p)) {q : Nat} (hq : q ≤ n) : RefAt (w.setCell ⟨b, 1, none⟩ (.int .i64 q)) b A n c l (some q) := by
  obtain ⟨⟨hr, hp⟩, hrd, hne⟩ := h
  refine ⟨⟨(World.rowIs.set hr 1 _).congr fun i hi => ?_, fun q' e => by injection e with e; exact e ▸ hq⟩, hrd.grown (set_grown _ _ _ _) (fun h0 a e x => hne h0 a e (by injection x)), hne⟩
  obtain rfl | rfl | rfl : i = 0 ∨ i = 1 ∨ i = 2 := by omega
  all_goals rfl
end

set_option maxHeartbeats 400000 in
theorem rdOk (b : Nat) (A : Option Addr) (n c : Nat) (l : List Int) (s : Option Nat) (w : World) (h : RdrAt w b A n c l s) :
    Calls Try.prog 18 #[.pointer (some ⟨b, 0, none⟩)] w fun e w' => e = .returned (.bool s.isSome) ∧ w = w' := by
  have h0 := h.c0
  go_enter Try.func18, Try.ntmps18
  go_wp2_with fail
  go_ret
  exact ⟨rfl, rfl⟩

theorem rdOk_no (b : Nat) (A : Option Addr) (n c : Nat) (l : List Int) (w : World) (h : RdrAt w b A n c l none) :
    Calls Try.prog 18 #[.pointer (some ⟨b, 0, none⟩)] w fun e w' => e = .returned (.bool false) ∧ w = w' := rdOk b A n c l none w h
theorem rdOk_yes (b : Nat) (A : Option Addr) (n c : Nat) (l : List Int) (p : Nat) (w : World) (h : RdrAt w b A n c l (some p)) :
    Calls Try.prog 18 #[.pointer (some ⟨b, 0, none⟩)] w fun e w' => e = .returned (.bool true) ∧ w = w' := rdOk b A n c l (some p) w h

set_option maxHeartbeats 400000 in
theorem rdOk_nil (w : World) : Calls Try.prog 18 #[.pointer none] w fun e w' => e = .returned (.bool false) ∧ w = w' := by
  go_enter Try.func18, Try.ntmps18
  go_wp2_with fail
  go_ret
  exact ⟨rfl, rfl⟩

set_option maxHeartbeats 400000 in
theorem rdAt (b : Nat) (A : Option Addr) (n c : Nat) (l : List Int) (s : Option Nat) (w : World) (h : RdrAt w b A n c l s) :
    Calls Try.prog 19 #[.pointer (some ⟨b, 0, none⟩)] w fun e w' => e = .returned (.int .i64 (s.getD 0 : Nat)) ∧ w = w' := by
  cases s with
  | none =>
    go_enter Try.func19, Try.ntmps19
    go_wp2_with fail
    refine (rdOk_no b A n c l _ h).mono ?_
    rintro e w' ⟨rfl, rfl⟩
    go_wp2_with fail
    go_ret
    exact ⟨rfl, rfl⟩
  | some p =>
    have h2 := h.c2
    go_enter Try.func19, Try.ntmps19
    go_wp2_with fail
    refine (rdOk_yes b A n c l _ _ h).mono ?_
    rintro e w' ⟨rfl, rfl⟩
    go_wp2_with fail
    go_ret
    exact ⟨rfl, rfl⟩

def moreS (s : Option Nat) (n : Nat) : Bool := match s with | none => false | some p => decide (p < n)

set_option maxHeartbeats 400000 in
theorem rdMore (b : Nat) (A : Option Addr) (n c : Nat) (l : List Int) (s : Option Nat) (w : World) (h : RdrAt w b A n c l s) :
    Calls Try.prog 20 #[.pointer (some ⟨b, 0, none⟩)] w fun e w' => e = .returned (.bool (moreS s n)) ∧ ∃ m, w' = w.drewN m := by
  cases s with
  | none =>
    have H := Lib.hid h
    clear h
    go_enter Try.func20, Try.ntmps20
    go_wp2_with fail
    go_quiet (first | (go_at_call 18; refine Calls.quiet_of_same ((rdOk_no b A n c l _ (H.out.drewN _)).mono fun e w' h => ⟨h.1, h.2.symm⟩)))
    go_wp2_with fail
    go_ret
    exact ⟨rfl, _, rfl⟩
  | some p =>
    have h1 := h.c1
    have h2 := h.c2
    have H := Lib.hid h
    clear h
    go_enter Try.func20, Try.ntmps20
    go_wp2_with fail
    go_quiet (first | (go_at_call 18; refine Calls.quiet_of_same ((rdOk_yes b A n c l _ _ (H.out.drewN _)).mono fun e w' h => ⟨h.1, h.2.symm⟩)))
    go_wp2_with fail
    go_ret
    exact ⟨rfl, _, rfl⟩

set_option maxHeartbeats 400000 in
theorem refMore (b : Nat) (A : Option Addr) (n c : Nat) (l : List Int) (s : Option Nat) (w : World) (h : RefAt w b A n c l s) :
    Calls Try.prog 21 #[.pointer (some ⟨b, 0, none⟩)] w fun e w' => e = .returned (.bool (moreS s n)) ∧ ∃ m, w' = w.drewN m := by
  cases s with
  | none =>
    have h2 := h.c2
    clear h
    go_enter Try.func21, Try.ntmps21
    go_wp2_with fail
    go_quiet (fail)
    go_wp2_with fail
    go_ret
    exact ⟨rfl, _, rfl⟩
  | some p =>
    have h0 := h.c0
    have h1 := h.c1
    have h2 := h.c2
    clear h
    go_enter Try.func21, Try.ntmps21
    go_wp2_with fail
    go_quiet (fail)
    go_wp2_with fail
    go_ret
    exact ⟨rfl, _, rfl⟩

set_option maxHeartbeats 400000 in
theorem stFail (b : Nat) (w : World) (v : Value) (h : w.cell? ⟨b, 0, none⟩ = some v) (hf : w.frozen? ⟨b, 0, none⟩ = false) :
    Calls Try.prog 34 #[.pointer (some ⟨b, 0, none⟩)] w fun e w' => e = .returned (.tuple #[]) ∧ w' = w.setCell ⟨b, 0, none⟩ (.bool false) := by
  go_enter Try.func34, Try.ntmps34
  go_wp2_with fail
  go_end0
  exact ⟨rfl, rfl⟩
end Go.Proofs.Ytjihgpjpmfeakaa
