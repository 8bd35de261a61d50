/- The examples of layer 1's page hold. Conditions: none. -/
import Derived.Test.YtdmnogmkjekffaaOctD
namespace Go.Proofs.Ytdmnogmkjekffaa
open Go.RowKit
set_option linter.unusedVariables false

theorem Rd.lit (k : IntKind) (w : World) (T : TypeId) (l : List Int) (n : Nat) (hn : l.length = n) (hm : n ≤ 9223372036854775807) (hwf : ∀ z ∈ l, (Lit.int k z).wf = true) (cs : Array Value) (hcs : cs = (l.map (Value.int k)).toArray) :
    Rd k (w.alloc (.cells cs T)) (some ⟨w.heap.size, 0, none⟩) n n l := by
  subst hcs hn
  refine ⟨rfl, Nat.le_refl _, by unfold maxLen; omega, hwf, fun _ => ⟨_, _, rfl, by simp, fun i hi => ?_⟩⟩
  rw [Nat.zero_add, World.cell?_alloc_new]
  simp [List.getElem?_eq_getElem hi]

theorem Rd.u8lit (w : World) (T : TypeId) (x y : Int) (hx : (Lit.int .u8 x).wf = true) (hy : (Lit.int .u8 y).wf = true) :
    Rd .u8 (w.alloc (.cells #[.int .u8 x, .int .u8 y] T)) (some ⟨w.heap.size, 0, none⟩) 2 2 [x, y] :=
  Rd.lit .u8 w T [x, y] 2 rfl (by omega) (by simp [hx, hy]) _ rfl

theorem Rd.u8at {w : World} {T : TypeId} {x y : Int} {g : Nat} (hg : g = w.heap.size) (hx : (Lit.int .u8 x).wf = true) (hy : (Lit.int .u8 y).wf = true) :
    Rd .u8 (w.alloc (.cells #[.int .u8 x, .int .u8 y] T)) (some ⟨g, 0, none⟩) 2 2 [x, y] := by
  subst hg
  exact Rd.u8lit _ _ _ _ hx hy

theorem live1 : backN [0, 1] = 0 ∧ backB [0, 1] = false := by decide
theorem live2 : backN [255, 127] = -129 ∧ backB [255, 127] = true := by decide
theorem live3 : decide (putL 258 2 = [1, 2]) = true := by decide
theorem live4 : decide (putL (u64 (-129)) (wid (-129)) = [255, 127]) = true := by decide

set_option maxHeartbeats 800000 in
theorem live_any (w : World) : Calls Try.prog 6 #[] w fun e w' => e = .returned (.bool true) ∧ Below w.heap.size w w' := by
  have L1 := Lib.hid live1
  have L2 := Lib.hid live2
  have L3 := Lib.hid live3
  have L4 := Lib.hid live4
  go_enter Try.func6, Try.ntmps6
  go_wp2_with fail
  refine (octBack _ _ _ [0, 1] _ (Rd.u8at (by simp) rfl rfl)).mono ?_
  rintro e w1 ⟨rfl, rfl⟩
  rw [L1.out.1, L1.out.2]
  go_wp2_with fail
  refine (octBack _ _ _ [255, 127] _ (Rd.u8at (by simp) rfl rfl)).mono ?_
  rintro e w1 ⟨rfl, rfl⟩
  rw [L2.out.1, L2.out.2]
  go_wp2_with fail
  refine (octPut 258 2 _ (by omega) (by omega) (by omega)).mono ?_
  rintro e w1 ⟨A, n, c, rfl, hrd, hbel⟩
  go_wp2_with fail
  refine (refSame _ _ _ _ _ _ _ _ _ (hrd.alloc _) (Rd.u8at rfl rfl rfl)).mono ?_
  rintro e w2 ⟨rfl, m, rfl⟩
  rw [L3.out]
  go_wp2_with fail
  refine (octInt (-129) _ (Lib.hid (by unfold I64; omega))).mono ?_
  rintro e w2 ⟨A', n', c', rfl, hrd', hbel'⟩
  go_wp2_with fail
  refine (refSame _ _ _ _ _ _ _ _ _ (hrd'.alloc _) (Rd.u8at rfl rfl rfl)).mono ?_
  rintro e w3 ⟨rfl, m', rfl⟩
  rw [L4.out]
  have HB : Below w.heap.size w ((w2.alloc (Obj.cells #[Value.int IntKind.u8 255, Value.int IntKind.u8 127] 5)).drewN m') := by
    have h1 : Below w.heap.size w w1 := (((Below.refl _ _).alloc (Nat.le_refl _) _).alloc (by simp) _).trans (hbel.mono (by simp; omega))
    have h2 := (below_drewN (h1.alloc h1.size (Obj.cells #[Value.int IntKind.u8 1, Value.int IntKind.u8 2] 5)) m).trans (hbel'.mono (by have := h1.size; simp; omega))
    exact below_drewN (h2.alloc h2.size _) m'
  have HB := Lib.hid HB
  clear hbel hbel' hrd hrd'
  go_wp2_with fail
  go_ret
  exact ⟨rfl, HB.out⟩
end Go.Proofs.Ytdmnogmkjekffaa
