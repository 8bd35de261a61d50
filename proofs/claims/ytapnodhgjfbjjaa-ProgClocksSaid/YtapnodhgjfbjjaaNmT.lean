/- The document's Names: whether two lists of texts are the same. Conditions: none. -/
import Derived.Test.YtapnodhgjfbjjaaStr
import Derived.Test.YtapnodhgjfbjjaaIdM
import Derived.Test.YtapnodhgjfbjjaaRows
import Derived.Lib.Strings
import Derived.Lib.Walk
import Derived.Deep.RegionHeld3
namespace Go.Proofs.Ytapnodhgjfbjjaa
open Go.RowKit
set_option linter.unusedVariables false

/-- Whether two lists of texts are the same. -/
def sameT (a b : List ByteArray) : Bool := decide (a.map (fun s => s.toList) = b.map (fun s => s.toList))
def sameTo (a b : List ByteArray) (k : Nat) : Prop := ∀ j, j < k → ((a[j]?.getD ByteArray.empty).toList == (b[j]?.getD ByteArray.empty).toList) = true

section
variable {a b : List ByteArray} {k : Nat}
theorem sameT_len (h : a.length ≠ b.length) : sameT a b = false := decide_eq_false fun e => h (by simpa using congrArg List.length e)
theorem sameT_at (ha : k < a.length) (hb : k < b.length) (h : ((a[k]?.getD ByteArray.empty).toList == (b[k]?.getD ByteArray.empty).toList) = false) : sameT a b = false := decide_eq_false fun e => by
  have h1 := congrArg (fun l => l[k]?) e
  simp only [List.getElem?_map, List.getElem?_eq_getElem ha, List.getElem?_eq_getElem hb, Option.map_some, Option.some.injEq] at h1
  rw [List.getElem?_eq_getElem ha, List.getElem?_eq_getElem hb, Option.getD_some, Option.getD_some, h1] at h
  simp at h
theorem sameT_yes (hl : a.length = b.length) (H : sameTo a b k) (h : a.length ≤ k) : sameT a b = true := decide_eq_true (by
  apply List.ext_getElem
  · simpa using hl
  · intro i h1 h2
    rw [List.length_map] at h1 h2
    have := H i (by omega)
    rw [List.getElem?_eq_getElem h1, List.getElem?_eq_getElem h2, Option.getD_some, Option.getD_some] at this
    simpa using this)
theorem sameTo_succ (H : sameTo a b k) (h : ((a[k]?.getD ByteArray.empty).toList == (b[k]?.getD ByteArray.empty).toList) = true) : sameTo a b (k + 1) := fun j hj => by
  rcases Nat.lt_or_ge j k with h1 | h1
  · exact H j h1
  · obtain rfl : j = k := by omega
    exact h
end

set_option maxRecDepth 100000 in
set_option maxHeartbeats 2000000 in
theorem refNames (A B : Option Addr) (n m c d : Nat) (ss tt : List ByteArray) (w : World) (hs : RdT w A n ss) (ht : RdT w B m tt) :
    Calls Try.prog 35 #[.slice A n c, .slice B m d] w fun r w' => r = .returned (.bool (sameT ss tt)) ∧ Below w.heap.size w w' := by
  have h1 := hs.len
  have h2 := ht.len
  have h3 := hs.max
  have h4 := ht.max
  by_cases hnm : n = m
  · subst hnm
    go_enter Try.func35, Try.ntmps35
    go_wp2_with fail
    go_loopw [5] (fun i wr => ∃ k : Nat, k ≤ n ∧ i = .int .i64 k ∧ sameTo ss tt k ∧ ∃ p, wr = w.drewN p) (fun i _ => n - (intOf i).toNat)
    case atStart => exact ⟨0, Nat.zero_le _, rfl, fun j hj => absurd hj (by omega), 0, rfl⟩
    case round =>
      obtain ⟨k, hk, rfl, hto, p, rfl⟩ := hrel
      have HT := Lib.hid hto
      clear hto
      by_cases hlt : k < n
      · obtain ⟨b, off, rfl, hb, hc⟩ := hs.at_ hlt
        obtain ⟨b', off', rfl, hb', hc'⟩ := ht.at_ hlt
        have e1 := hc k hlt
        have e2 := hc' k hlt
        have HN := Lib.hid fun h => sameTo_succ HT.out h
        have HF := Lib.hid fun h => sameT_at (a := ss) (b := tt) (k := k) (by omega) (by omega) h
        clear hc hc'
        generalize ss[k]?.getD ByteArray.empty = x at e1 HN HF
        generalize tt[k]?.getD ByteArray.empty = y at e2 HN HF
        by_cases he : (x.toList == y.toList) = true
        · have HN := Lib.hid (HN.out he)
          have hne : (x.toList != y.toList) = false := by simp only [bne, he]; rfl
          go_wp2_with fail
          go_quiet (fail)
          go_wp2_with fail
          go_roundw
          case rel => exact ⟨k + 1, by omega, by go_num, HN.out, _, rfl⟩
          case measure => simp [intOf]; omega
        · have he : (x.toList == y.toList) = false := by simpa using he
          have HF := Lib.hid (HF.out he)
          have hne : (x.toList != y.toList) = true := by simp only [bne, he]; rfl
          go_wp2_with fail
          go_quiet (fail)
          go_wp2_with fail
          go_ret
          exact ⟨ret_bool HF.out.symm, below_drewN (below_drewN (Below.refl _ _) _) _⟩
      · have HY := Lib.hid (sameT_yes (by omega) HT.out (by omega))
        go_wp2_with fail
        go_ret
        exact ⟨ret_bool HY.out.symm, below_drewN (Below.refl _ _) _⟩
  · have hF := Lib.hid (sameT_len (a := ss) (b := tt) (by omega))
    have hne : ((n : Int) != (m : Int)) = true := by rw [bne_iff_ne]; omega
    go_enter Try.func35, Try.ntmps35
    go_wp2_with fail
    go_ret
    exact ⟨ret_bool hF.out.symm, Below.refl _ _⟩
end Go.Proofs.Ytapnodhgjfbjjaa
