/- The texts of arms, of what has no subs, of lists and calls: of the document's text. Conditions: names of at most 1000 bytes, numbers of 64 bits. -/
import Derived.Test.YtijbahdpblopjaaDoorShG
import Derived.Test.YtijbahdpblopjaaDoorExC
import Derived.Test.YtijbahdpblopjaaDoorArY
import Derived.Test.YtijbahdpblopjaaDoorVaC
import Derived.Test.YtijbahdpblopjaaDoorExA
import Derived.Test.YtijbahdpblopjaaDoorQt
namespace Go.Proofs.YtijbahdpblopjaaDoor
open Go.RowKit Go.Sort
set_option linter.unusedVariables false
set_option linter.unusedSimpArgs false

set_option maxRecDepth 100000 in
set_option maxHeartbeats 2000000 in
theorem refOn (name arm : ByteArray) (w : World) (h1 : name.size ≤ 1000000) (h2 : arm.size ≤ 1000000) :
    Calls Tryd.prog 7 #[.string name, .string arm] w fun e w' => e = .returned (.string (ofB (onL name.data.toList arm.data.toList))) ∧ Below w.heap.size w w' := by
  have z1 : (9223372036854775807 < 4 + name.size) = False := by rw [eq_iff_iff, iff_false]; omega
  have z2 : (9223372036854775807 < arm.size + 1) = False := by rw [eq_iff_iff, iff_false]; omega
  have z3 : (9223372036854775807 < arm.size + 1 + name.size) = False := by rw [eq_iff_iff, iff_false]; omega
  have z4 : (9223372036854775807 < arm.size + 1 + name.size + 1) = False := by rw [eq_iff_iff, iff_false]; omega
  have ht := Lib.toList_data arm
  cases e1 : (arm.toList == [116, 114, 117, 101]) with
  | true =>
    have HE := Lib.hid (show name = ofB (onL name.data.toList arm.data.toList) by
      rw [ht] at e1
      unfold onL
      rw [if_pos (by simpa [trueL] using e1), ofB_self])
    clear ht
    go_enter Tryd.func7, Tryd.ntmps7
    go_wp2_with fail
    go_ret
    exact ⟨ret_str HE.out, Below.refl _ _⟩
  | false =>
    cases e2 : (arm.toList == [102, 97, 108, 115, 101]) with
    | true =>
      have HE := Lib.hid (show (⟨#[110, 111, 116, 32]⟩ : ByteArray) ++ name = ofB (onL name.data.toList arm.data.toList) by
        rw [ht] at e1 e2
        unfold onL
        rw [if_neg (by simpa [trueL] using e1), if_pos (by simpa [falseL] using e2)]
        exact ba_ext (by rw [ofB_data]; simp [notL]))
      clear ht
      go_enter Tryd.func7, Tryd.ntmps7
      go_wp2_with fail
      go_ret
      exact ⟨ret_str HE.out, Below.refl _ _⟩
    | false =>
      have HE := Lib.hid (show arm ++ (⟨#[40]⟩ : ByteArray) ++ name ++ ⟨#[41]⟩ = ofB (onL name.data.toList arm.data.toList) by
        rw [ht] at e1 e2
        unfold onL
        rw [if_neg (by simpa [trueL] using e1), if_neg (by simpa [falseL] using e2)]
        exact ba_ext (by rw [ofB_data]; simp))
      clear ht
      go_enter Tryd.func7, Tryd.ntmps7
      go_wp2_with fail
      go_ret
      exact ⟨ret_str HE.out, Below.refl _ _⟩

theorem ofB_size (l : List UInt8) : (ofB l).size = l.length := by
  show l.toArray.size = l.length
  simp
theorem joinC_snoc : ∀ (l : List (List UInt8)) (x : List UInt8), l ≠ [] → joinC (l ++ [x]) = joinC l ++ 44 :: 32 :: x
  | [], _, h => absurd rfl h
  | [a], x, _ => rfl
  | a :: b :: l, x, _ => by
    have := joinC_snoc (b :: l) x (by simp)
    simp only [List.cons_append] at this ⊢
    simp only [joinC, this, List.append_assoc, List.cons_append]
theorem take_snocL {l : List Ex} {k : Nat} (h : k < l.length) : (l.map textL).take (k + 1) = (l.map textL).take k ++ [textL (l[k]?.getD default)] := by
  rw [List.take_succ_eq_append_getElem (by simpa using h)]
  simp [List.getElem?_eq_getElem h]
theorem join_take_len (l : List Ex) (k : Nat) (h : ∀ y ∈ l, (textL y).length ≤ 1300 * sizeX y) : (joinC ((l.map textL).take k)).length ≤ 1302 * sizesX l := by
  have h1 := joinC_len ((l.map textL).take k)
  have h2 := lensT_take (l.map textL) k
  have h3 := lens_subs l h
  have h4 := sizes_len l
  have h5 : ((l.map textL).take k).length ≤ l.length := by simp; omega
  omega

end Go.Proofs.YtijbahdpblopjaaDoor
