/- The signs of the operators, of both texts. Conditions: none. -/
import Derived.Test.YtijbahdpblopjaaDoorStr
import Derived.Test.YtijbahdpblopjaaDoorRows
import Derived.Lib.Walk
namespace Go.Proofs.YtijbahdpblopjaaDoor
open Go.RowKit
set_option linter.unusedVariables false

def signs : List ByteArray := [⟨#[]⟩, ⟨#[45]⟩, ⟨#[110, 111, 116]⟩, ⟨#[43]⟩, ⟨#[45]⟩, ⟨#[42]⟩, ⟨#[47]⟩, ⟨#[109, 111, 100]⟩, ⟨#[97, 110, 100]⟩, ⟨#[111, 114]⟩, ⟨#[120, 111, 114]⟩, ⟨#[61]⟩, ⟨#[60, 62]⟩, ⟨#[60]⟩, ⟨#[60, 61]⟩, ⟨#[62]⟩, ⟨#[62, 61]⟩]
def signS (op : Int) : ByteArray := if 1 ≤ op ∧ op ≤ 16 then signs[op.toNat]?.getD ⟨#[]⟩ else ⟨#[]⟩

theorem sign_no {op : Int} (h : op < 1 ∨ 16 < op) : signS op = ⟨#[]⟩ := by
  unfold signS
  rw [if_neg (by omega)]
theorem sg_no {op : Int} (h : op < 1 ∨ 16 < op) (k : Int) (hk : 1 ≤ k ∧ k ≤ 16) : (op == k) = false := by
  rw [beq_eq_false_iff_ne]
  omega

set_option maxHeartbeats 4000000 in
theorem arSign (op : Int) (w : World) :
    Calls Tryd.prog 37 #[.int .i64 op] w fun r w' => r = .returned (.string (signS op)) ∧ w = w' := by
  obtain h | rfl | rfl | rfl | rfl | rfl | rfl | rfl | rfl | rfl | rfl | rfl | rfl | rfl | rfl | rfl | rfl : (op < 1 ∨ 16 < op) ∨ op = 1 ∨ op = 2 ∨ op = 3 ∨ op = 4 ∨ op = 5 ∨ op = 6 ∨ op = 7 ∨ op = 8 ∨ op = 9 ∨ op = 10 ∨ op = 11 ∨ op = 12 ∨ op = 13 ∨ op = 14 ∨ op = 15 ∨ op = 16 := by omega
  · rw [sign_no h]
    have b1 := sg_no h 1 (by omega)
    have b2 := sg_no h 2 (by omega)
    have b3 := sg_no h 3 (by omega)
    have b4 := sg_no h 4 (by omega)
    have b5 := sg_no h 5 (by omega)
    have b6 := sg_no h 6 (by omega)
    have b7 := sg_no h 7 (by omega)
    have b8 := sg_no h 8 (by omega)
    have b9 := sg_no h 9 (by omega)
    have b10 := sg_no h 10 (by omega)
    have b11 := sg_no h 11 (by omega)
    have b12 := sg_no h 12 (by omega)
    have b13 := sg_no h 13 (by omega)
    have b14 := sg_no h 14 (by omega)
    have b15 := sg_no h 15 (by omega)
    have b16 := sg_no h 16 (by omega)
    clear h
    go_enter Tryd.func37, Tryd.ntmps37
    go_wp2_with fail
    go_ret
    exact ⟨rfl, rfl⟩
  all_goals
    go_enter Tryd.func37, Tryd.ntmps37
    go_wp2_with fail
    go_ret
    exact ⟨rfl, rfl⟩

end Go.Proofs.YtijbahdpblopjaaDoor
