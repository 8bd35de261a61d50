/- Parts of parts; the function that the law hands over. Conditions: none. -/
import Derived.Test.YthihkpigikhflaaExW
import Derived.Test.YthihkpigikhflaaExZ
import Derived.Test.YthihkpigikhflaaQt
namespace Go.Proofs.Ythihkpigikhflaa
open Go.RowKit Go.Sort
set_option linter.unusedVariables false

theorem parts_trans : ∀ x : Ex, ∀ p ∈ partsX x, ∀ q ∈ partsX p, q ∈ partsX x := by
  refine size_ind fun x ih p hp q hq => ?_
  rw [partsX_eq] at hp
  rcases List.mem_cons.1 hp with rfl | hp
  · exact hq
  · obtain ⟨i, hi, h⟩ := partss_mem hp
    rw [partsX_eq]
    exact List.mem_cons_of_mem _ (mem_partss hi (ih i hi p h q hq))
theorem parts_size : ∀ x : Ex, ∀ p ∈ partsX x, sizeX p ≤ sizeX x := by
  refine size_ind fun x ih p hp => ?_
  rw [partsX_eq] at hp
  rcases List.mem_cons.1 hp with rfl | hp
  · exact Nat.le_refl _
  · obtain ⟨i, hi, h⟩ := partss_mem hp
    have h1 := ih i hi p h
    have h2 := size_sub (subX_mem hi)
    omega
theorem depths_at : ∀ (l : List Ex) {i : Nat}, i < l.length → depthX (l[i]?.getD default) ≤ depthsX l
  | [], i, h => absurd h (by simp)
  | x :: l, 0, _ => by
    simp only [List.getElem?_cons_zero, Option.getD_some, depthsX]
    omega
  | x :: l, i + 1, h => by
    have := depths_at l (i := i) (by simpa using h)
    simp only [List.getElem?_cons_succ, depthsX]
    omega
theorem parts_depth : ∀ x : Ex, ∀ p ∈ partsX x, depthX p ≤ depthX x := by
  refine size_ind fun x ih p hp => ?_
  rw [partsX_eq] at hp
  rcases List.mem_cons.1 hp with rfl | hp
  · exact Nat.le_refl _
  · obtain ⟨i, hi, h⟩ := partss_mem hp
    have h1 := ih i hi p h
    have h2 : depthX (subX x i) ≤ depthsX x.subs := depths_at x.subs hi
    rw [depthX_eq x]
    omega
/-- Parts of what is right are right. -/
theorem right_parts {x p : Ex} (h : rightX x = true) (hp : p ∈ partsX x) : rightX p = true := by
  have h1 := parts_size x p hp
  have h2 := parts_depth x p hp
  simp only [rightX, Bool.and_eq_true, Bool.not_eq_true', decide_eq_false_iff_not, List.all_eq_true] at h ⊢
  obtain ⟨⟨h3, h4⟩, h5⟩ := h
  exact ⟨⟨by omega, by omega⟩, fun q hq => h5 q (parts_trans x p hp q hq)⟩
theorem tiny_part {x p : Ex} (h : tinyX x = true) (hp : p ∈ partsX x) : sizeX p ≤ 1000000 ∧ ∀ q ∈ partsX p, ShortP q := by
  have h1 := parts_size x p hp
  have h2 := tiny_size h
  exact ⟨by omega, fun q hq => tiny_short h q (parts_trans x p hp q hq)⟩
theorem parts_at {x : Ex} {i : Nat} (h : i < sizeX x) : (partsX x)[i]?.getD default ∈ partsX x := by
  rw [List.getElem?_eq_getElem (by rw [partsX_len]; exact h)]
  exact List.getElem_mem _
end Go.Proofs.Ythihkpigikhflaa
