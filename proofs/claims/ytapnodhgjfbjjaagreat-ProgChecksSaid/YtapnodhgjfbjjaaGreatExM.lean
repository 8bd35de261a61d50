/- Expressions as trees, and what is told of them, as plain functions. Conditions: none. -/
import Derived.Test.YtapnodhgjfbjjaaGreatIdM
namespace Go.Proofs.YtapnodhgjfbjjaaGreat
set_option linter.unusedVariables false
set_option linter.unusedSimpArgs false

/-- An expression: kind, number, name, operator, arms, subs. -/
inductive Ex where
  | mk (k n : Int) (s : ByteArray) (op : Int) (arms : List ByteArray) (subs : List Ex)
def Ex.k : Ex → Int | .mk k _ _ _ _ _ => k
def Ex.n : Ex → Int | .mk _ n _ _ _ _ => n
def Ex.s : Ex → ByteArray | .mk _ _ s _ _ _ => s
def Ex.op : Ex → Int | .mk _ _ _ op _ _ => op
def Ex.arms : Ex → List ByteArray | .mk _ _ _ _ a _ => a
def Ex.subs : Ex → List Ex | .mk _ _ _ _ _ l => l
instance : Inhabited Ex := ⟨.mk 0 0 ByteArray.empty 0 [] []⟩
theorem Ex.eta (x : Ex) : Ex.mk x.k x.n x.s x.op x.arms x.subs = x := by cases x; rfl

mutual
def sizeX : Ex → Nat
  | .mk _ _ _ _ _ l => 1 + sizesX l
def sizesX : List Ex → Nat
  | [] => 0
  | x :: l => sizeX x + sizesX l
end
mutual
def depthX : Ex → Nat
  | .mk _ _ _ _ _ l => depthsX l + 1
def depthsX : List Ex → Nat
  | [] => 0
  | x :: l => max (depthX x) (depthsX l)
end
mutual
def partsX : Ex → List Ex
  | .mk k n s op a l => .mk k n s op a l :: partssX l
def partssX : List Ex → List Ex
  | [] => []
  | x :: l => partsX x ++ partssX l
end

theorem sizeX_eq (x : Ex) : sizeX x = 1 + sizesX x.subs := by cases x; simp only [sizeX, Ex.subs]
theorem depthX_eq (x : Ex) : depthX x = depthsX x.subs + 1 := by cases x; simp only [depthX, Ex.subs]
theorem partsX_eq (x : Ex) : partsX x = x :: partssX x.subs := by cases x; simp only [partsX, Ex.subs]
theorem sizesX_app (a b : List Ex) : sizesX (a ++ b) = sizesX a + sizesX b := by
  induction a with
  | nil => simp [sizesX]
  | cons x a ih => simp [sizesX, ih]; omega
theorem partssX_app (a b : List Ex) : partssX (a ++ b) = partssX a ++ partssX b := by
  induction a with
  | nil => simp [partssX]
  | cons x a ih => simp [partssX, ih]
theorem depthsX_app (a b : List Ex) : depthsX (a ++ b) = max (depthsX a) (depthsX b) := by
  induction a with
  | nil => simp [depthsX]
  | cons x a ih => simp only [List.cons_append, depthsX, ih]; omega
theorem size_pos (x : Ex) : 0 < sizeX x := by rw [sizeX_eq]; omega
theorem sizes_mem {l : List Ex} {x : Ex} (h : x ∈ l) : sizeX x ≤ sizesX l := by
  induction l with
  | nil => cases h
  | cons y l ih =>
    simp only [sizesX]
    rcases List.mem_cons.1 h with rfl | h
    · omega
    · have := ih h; omega
theorem size_sub {x y : Ex} (h : y ∈ x.subs) : sizeX y < sizeX x := by
  have := sizes_mem h
  rw [sizeX_eq x]; omega
theorem sizes_take (l : List Ex) (k : Nat) : sizesX (l.take k) ≤ sizesX l := by
  have := sizesX_app (l.take k) (l.drop k)
  rw [List.take_append_drop] at this
  omega
theorem sizes_len (l : List Ex) : l.length ≤ sizesX l := by
  induction l with
  | nil => simp [sizesX]
  | cons x l ih => have := size_pos x; simp [sizesX]; omega

mutual
theorem partsX_len : ∀ x : Ex, (partsX x).length = sizeX x
  | .mk k n s op a l => by simp only [partsX, sizeX, List.length_cons, partssX_len l]; omega
theorem partssX_len : ∀ l : List Ex, (partssX l).length = sizesX l
  | [] => rfl
  | x :: l => by simp only [partssX, sizesX, List.length_append, partsX_len x, partssX_len l]
end
mutual
theorem depth_size : ∀ x : Ex, depthX x ≤ sizeX x
  | .mk k n s op a l => by simp only [depthX, sizeX]; have := depths_size l; omega
theorem depths_size : ∀ l : List Ex, depthsX l ≤ sizesX l
  | [] => Nat.le_refl _
  | x :: l => by simp only [depthsX, sizesX]; have := depth_size x; have := depths_size l; omega
end

/-- The sub at a place. -/
def subX (x : Ex) (i : Nat) : Ex := x.subs[i]?.getD default
theorem subX_mem {x : Ex} {i : Nat} (h : i < x.subs.length) : subX x i ∈ x.subs := by
  unfold subX
  rw [List.getElem?_eq_getElem h]
  exact List.getElem_mem _
theorem subs_snoc {x : Ex} {i : Nat} (h : i < x.subs.length) : x.subs.take (i + 1) = x.subs.take i ++ [subX x i] := by
  unfold subX
  rw [List.take_succ_eq_append_getElem h, List.getElem?_eq_getElem h]
  rfl
theorem sizes_snoc {x : Ex} {i : Nat} (h : i < x.subs.length) : sizesX (x.subs.take (i + 1)) = sizesX (x.subs.take i) + sizeX (subX x i) := by
  rw [subs_snoc h, sizesX_app]
  simp [sizesX]
theorem depths_snoc {x : Ex} {i : Nat} (h : i < x.subs.length) : depthsX (x.subs.take (i + 1)) = max (depthsX (x.subs.take i)) (depthX (subX x i)) := by
  rw [subs_snoc h, depthsX_app]
  simp [depthsX]
theorem partss_snoc {x : Ex} {i : Nat} (h : i < x.subs.length) : partssX (x.subs.take (i + 1)) = partssX (x.subs.take i) ++ partsX (subX x i) := by
  rw [subs_snoc h, partssX_app]
  simp [partssX]

/-- A tree's parts are trees within it. -/
theorem size_ind {P : Ex → Prop} (h : ∀ x, (∀ i, i < x.subs.length → P (subX x i)) → P x) : ∀ x, P x := by
  have : ∀ n x, sizeX x ≤ n → P x := by
    intro n
    induction n with
    | zero => intro x hx; have := size_pos x; omega
    | succ n ih =>
      intro x hx
      refine h x fun i hi => ih _ ?_
      have := size_sub (subX_mem hi)
      omega
  exact fun x => this _ x (Nat.le_refl _)
end Go.Proofs.YtapnodhgjfbjjaaGreat
