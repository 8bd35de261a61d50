/- A Sum as it lies in memory: what makes one, what fills its table. Conditions: none. -/
import Derived.Test.YtoaaailgfdcflaaCrcA
import Derived.StillTailTactics
import Derived.BigRegion
namespace Go.Proofs.Ytoaaailgfdcflaa
open Go.RowKit
set_option linter.unusedVariables false

/-- The cells of a Sum: made, the register, done, the lock's two, the table. -/
def sumCell (m : Bool) (r d s : Int) (t : Nat → Int) : Nat → Value
  | 0 => .bool m
  | 1 => .int .u32 r
  | 2 => .int .u32 d
  | 3 => .int .i32 s
  | 4 => .int .u32 0
  | j + 5 => .int .u32 (t j)
/-- Block b is a Sum. -/
def SumAt (w : World) (b : Nat) (m : Bool) (r d s : Int) (t : Nat → Int) : Prop := w.rowIs b 44 261 (sumCell m r d s t)
/-- The table of all bytes. -/
def full (j : Nat) : Int := (stps 8 j : Nat)

section
variable {w w1 w' : World} {b : Nat} {m : Bool} {r d s : Int} {t t' : Nat → Int}
theorem SumAt.c0 (h : SumAt w b m r d s t) : w.cell? ⟨b, 0, none⟩ = some (.bool m) := World.rowIs.cell h (by omega)
theorem SumAt.c1 (h : SumAt w b m r d s t) : w.cell? ⟨b, 1, none⟩ = some (.int .u32 r) := World.rowIs.cell h (by omega)
theorem SumAt.c2 (h : SumAt w b m r d s t) : w.cell? ⟨b, 2, none⟩ = some (.int .u32 d) := World.rowIs.cell h (by omega)
theorem SumAt.c3 (h : SumAt w b m r d s t) : w.cell? ⟨b, 3, none⟩ = some (.int .i32 s) := World.rowIs.cell h (by omega)
theorem SumAt.c5 (h : SumAt w b m r d s t) {j : Nat} (hj : j < 256) : w.cell? ⟨b, 5 + j, none⟩ = some (.int .u32 (t j)) := by
  have := World.rowIs.cell h (i := 5 + j) (by omega)
  rw [this, Nat.add_comm]
  rfl
theorem SumAt.fz (h : SumAt w b m r d s t) (i : Nat) : w.frozen? ⟨b, i, none⟩ = false := World.rowIs.frozen h i
theorem SumAt.lt (h : SumAt w b m r d s t) : b < w.heap.size := World.rowIs.lt h
theorem SumAt.drew (h : SumAt w b m r d s t) : SumAt w.drew b m r d s t := h
theorem SumAt.drewN (h : SumAt w b m r d s t) (n : Nat) : SumAt (w.drewN n) b m r d s t := h
theorem five (i : Nat) : i = 0 ∨ i = 1 ∨ i = 2 ∨ i = 3 ∨ i = 4 ∨ ∃ j, i = j + 5 := by
  rcases Nat.lt_or_ge i 5 with h | h
  · omega
  · exact .inr (.inr (.inr (.inr (.inr ⟨i - 5, by omega⟩))))
theorem SumAt.setR (h : SumAt w b m r d s t) (x : Int) : SumAt (w.setCell ⟨b, 1, none⟩ (.int .u32 x)) b m x d s t :=
  (World.rowIs.set h 1 _).congr fun i _ => by
    rcases five i with rfl | rfl | rfl | rfl | rfl | ⟨j, rfl⟩ <;> first | rfl | (rw [if_neg (by omega)]; rfl)
theorem SumAt.setD (h : SumAt w b m r d s t) (x : Int) : SumAt (w.setCell ⟨b, 2, none⟩ (.int .u32 x)) b m r x s t :=
  (World.rowIs.set h 2 _).congr fun i _ => by
    rcases five i with rfl | rfl | rfl | rfl | rfl | ⟨j, rfl⟩ <;> first | rfl | (rw [if_neg (by omega)]; rfl)
theorem SumAt.setS (h : SumAt w b m r d s t) (x : Int) : SumAt (w.setCell ⟨b, 3, none⟩ (.int .i32 x)) b m r d x t :=
  (World.rowIs.set h 3 _).congr fun i _ => by
    rcases five i with rfl | rfl | rfl | rfl | rfl | ⟨j, rfl⟩ <;> first | rfl | (rw [if_neg (by omega)]; rfl)
theorem SumAt.setT (h : SumAt w b m r d s t) (k : Nat) (x : Int) : SumAt (w.setCell ⟨b, 5 + k, none⟩ (.int .u32 x)) b m r d s (fun j => if j = k then x else t j) :=
  (World.rowIs.set h (5 + k) _).congr fun i _ => by
    rcases five i with rfl | rfl | rfl | rfl | rfl | ⟨j, rfl⟩
    iterate 5 (rw [if_neg (by omega)]; rfl)
    by_cases e : j = k
    · subst e; rw [if_pos (Nat.add_comm _ _)]; simp [sumCell]
    · rw [if_neg (by omega)]; simp [sumCell, e]
theorem SumAt.congr (h : SumAt w b m r d s t) (e : ∀ j, j < 256 → t j = t' j) : SumAt w b m r d s t' :=
  World.rowIs.congr h fun i hi => by
    rcases five i with rfl | rfl | rfl | rfl | rfl | ⟨j, rfl⟩
    iterate 5 rfl
    exact congrArg (Value.int .u32) (e j (by omega))
theorem SumAt.kept {row : Option Nat} (h : SumAt w b m r d s t) (hg : w.grownBy w' row) (hne : some b ≠ row) : SumAt w' b m r d s t :=
  World.rowIs.of_block h (hg.block b h.lt hne)
theorem SumAt.alloc (h : SumAt w b m r d s t) (o : Obj) : SumAt (w.alloc o) b m r d s t := World.rowIs.alloc h o
theorem SumAt.below {B : Nat} (h : SumAt w b m r d s t) (hg : Below B w w') (hb : b < B) : SumAt w' b m r d s t := World.rowIs.of_block h (hg.block b hb)

theorem grown_trans {row : Option Nat} (h : w.grownBy w1 row) (k : w1.grownBy w' row) : w.grownBy w' row :=
  ⟨k.os.trans h.os, k.tape.trans h.tape, k.output.trans h.output, Nat.le_trans h.size k.size, fun i hi hne => (k.block i (Nat.lt_of_lt_of_le hi h.size) hne).trans (h.block i hi hne)⟩
theorem grown_set (h : w.grownBy w1 (some b)) (i : Nat) (v : Value) : w.grownBy (w1.setCell ⟨b, i, none⟩ v) (some b) :=
  grown_trans h ⟨rfl, rfl, rfl, by simp [World.setCell], fun k _ hne => Below.heap_setCell _ _ _ _ fun e => hne (by rw [e])⟩
theorem grown_drew (h : w.grownBy w1 (some b)) : w.grownBy w1.drew (some b) := ⟨h.os, h.tape, h.output, h.size, h.block⟩
theorem grown_drewN (h : w.grownBy w1 (some b)) (n : Nat) : w.grownBy (w1.drewN n) (some b) := ⟨h.os, h.tape, h.output, h.size, h.block⟩
end

set_option maxRecDepth 100000
def zSum : Array Value := #[.bool false, .int .u32 0, .int .u32 0, .int .i32 0, .int .u32 0] ++ Array.replicate 256 (.int .u32 0)
theorem zero_sum (w : World) : (zeroValue 44).run Try.prog w = .ok (.agg zSum) w := by kernel_rfl
theorem zSum_size : zSum.size = 261 := by simp [zSum]
theorem zSum_ne : (zSum = #[]) = False := by
  refine eq_false fun h => ?_
  have := zSum_size
  rw [h] at this
  exact absurd this (by decide)
theorem zSum_cell (i : Nat) (hi : i < 261) : zSum[i]? = some (sumCell false 0 0 0 (fun _ => 0) i) := by
  unfold zSum
  rcases five i with rfl | rfl | rfl | rfl | rfl | ⟨j, rfl⟩
  iterate 5 (rw [Array.getElem?_append_left (by decide)]; rfl)
  rw [Array.getElem?_append_right (by simp)]
  simp only [sumCell, List.size_toArray, List.length_cons, List.length_nil, Array.getElem?_replicate]
  rw [if_pos (by omega)]

theorem SumAt.zero (w : World) : SumAt (w.alloc (.cells zSum 44)) w.heap.size false 0 0 0 (fun _ => 0) := by
  have := World.rowIs_alloc w zSum 44 (sumCell false 0 0 0 (fun _ => 0)) fun i hi => zSum_cell i (by rw [← zSum_size]; exact hi)
  rw [zSum_size] at this
  exact this
theorem SumAt.made (w : World) : SumAt (w.alloc (.cells ((zSum.setIfInBounds 0 (.bool true)).setIfInBounds 1 (.int .u32 4294967295)) 44)) w.heap.size true 4294967295 0 0 (fun _ => 0) := by
  have hs : ((zSum.setIfInBounds 0 (.bool true)).setIfInBounds 1 (.int .u32 4294967295)).size = 261 := by rw [Array.size_setIfInBounds, Array.size_setIfInBounds, zSum_size]
  have := World.rowIs_alloc w ((zSum.setIfInBounds 0 (.bool true)).setIfInBounds 1 (.int .u32 4294967295)) 44 (sumCell true 4294967295 0 0 (fun _ => 0)) fun i hi => by
    rw [hs] at hi
    rcases five i with rfl | rfl | rfl | rfl | rfl | ⟨j, rfl⟩
    · rw [Array.getElem?_setIfInBounds_ne (by omega), Array.getElem?_setIfInBounds_self_of_lt (by rw [zSum_size]; exact hi)]; rfl
    · rw [Array.getElem?_setIfInBounds_self_of_lt (by rw [Array.size_setIfInBounds, zSum_size]; exact hi)]; rfl
    all_goals (rw [Array.getElem?_setIfInBounds_ne (by omega), Array.getElem?_setIfInBounds_ne (by omega), zSum_cell _ hi]; rfl)
  rw [hs] at this
  exact this

set_option maxHeartbeats 400000 in
theorem newSum (w : World) :
    Calls Try.prog 7 #[] w fun e w' => e = .returned (.pointer (some ⟨w.heap.size, 0, none⟩)) ∧ SumAt w' w.heap.size true 4294967295 0 0 (fun _ => 0) ∧ w.grownBy w' none := by
  have hz := zero_sum
  have hne := zSum_ne
  have hsz := zSum_size
  go_enter Try.func7, Try.ntmps7
  go_wp2_with fail
  go_ret
  exact ⟨rfl, SumAt.made w, World.grownBy_alloc _ _ _⟩

set_option maxHeartbeats 400000 in
theorem fill_any (b : Nat) (m : Bool) (r d s : Int) (t : Nat → Int) (w : World) (h : SumAt w b m r d s t) :
    Calls Try.prog 18 #[.pointer (some ⟨b, 0, none⟩)] w fun e w' => e = .returned (.tuple #[]) ∧ SumAt w' b m r d s full ∧ w.grownBy w' (some b) := by
  go_enter Try.func18, Try.ntmps18
  go_wp2_with fail
  go_loopw [2, 3] (fun _ i wr => ∃ k : Nat, k ≤ 256 ∧ i = .int .i64 k ∧ SumAt wr b m r d s (fun j => if j < k then full j else t j) ∧ w.grownBy wr (some b)) (fun _ i _ => 256 - (intOf i).toNat)
  case atStart => exact ⟨0, by omega, rfl, h.congr fun j _ => by simp, World.grownBy.refl _ _⟩
  case round =>
    obtain ⟨k, hk, rfl, hs, hg⟩ := hrel
    by_cases hlt : k < 256
    · have hc := hs.c5 hlt
      have hf := hs.fz (5 + k)
      have HS := Lib.hid hs
      have HG := Lib.hid hg
      clear hs hg h
      have hwk : IntKind.u32.wrap (k : Int) = (k : Int) := by rw [IntKind.wrap_u32']; omega
      go_wp2_with fail
      go_still_tail 8, (by kernel_rfl)
      still_call ((moved_any k _ (by omega)).mono fun e w' ⟨h, k⟩ => ⟨h, k.symm⟩)
      repeat still_step
      refine wpStill_nil ?_
      change wpList _ _ _ _ _ wr.drew
      go_wp2_with fail
      go_roundw
      case rel =>
        refine ⟨k + 1, by omega, by go_num, ((HS.out.setT k _).drew).congr fun j _ => ?_, grown_drew (grown_set HG.out _ _)⟩
        by_cases e : j = k
        · subst e; rw [if_pos rfl, if_pos (by omega)]; rfl
        · rw [if_neg e]
          by_cases h1 : j < k
          · rw [if_pos h1, if_pos (by omega)]
          · rw [if_neg h1, if_neg (by omega)]
      case measure => simp [intOf]; omega
    · obtain rfl : k = 256 := by omega
      go_wp2_with fail
      go_end0
      exact ⟨rfl, hs.congr fun j hj => by rw [if_pos hj], hg⟩
end Go.Proofs.Ytoaaailgfdcflaa
