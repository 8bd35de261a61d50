/- What is wrong with enums: of the program's text. Conditions: at most 100 enums, and 12 constructors of each. -/
import Derived.Test.YtccpihpfpobjpaaDoorTyP
namespace Go.Proofs.YtccpihpfpobjpaaDoor
open Go.RowKit
set_option linter.unusedVariables false

def manyB (es : List En) : Bool := decide (4 < es.length) || es.any fun e => decide (6 < e.2.length)
def fewTo (es : List En) (k : Nat) : Prop := ∀ j, j < k → (csE es j).length ≤ 6
def enumsN (es : List En) : Int := if manyB es then 4 else if namedB es then (if apartB es then 0 else 6) else 1

section
variable {es : List En} {k : Nat}
theorem many_at (h : k < es.length) (hb : 6 < (csE es k).length) : manyB es = true := by
  unfold manyB
  rw [Bool.or_eq_true, List.any_eq_true]
  refine .inr ⟨es[k]'h, List.getElem_mem h, ?_⟩
  rw [en_at h]
  exact decide_eq_true hb
theorem many_no (h4 : es.length ≤ 4) (H : fewTo es k) (h : es.length ≤ k) : manyB es = false := by
  unfold manyB
  rw [Bool.or_eq_false_iff, List.any_eq_false]
  refine ⟨decide_eq_false (by omega), fun e he => ?_⟩
  obtain ⟨j, hj, rfl⟩ := List.getElem_of_mem he
  have := H j (by omega)
  rw [en_at hj]
  simp only [decide_eq_true_eq]
  omega
theorem few_of (h : manyB es = false) : es.length ≤ 4 ∧ ∀ j, j < es.length → (csE es j).length ≤ 6 := by
  unfold manyB at h
  rw [Bool.or_eq_false_iff, List.any_eq_false] at h
  refine ⟨by have := h.1; simp at this; omega, fun j hj => ?_⟩
  have := h.2 (es[j]'hj) (List.getElem_mem hj)
  rw [en_at hj] at this
  simp at this
  exact this
theorem fewTo_succ (H : fewTo es k) (h : (csE es k).length ≤ 6) : fewTo es (k + 1) := fun j hj => by
  rcases Nat.lt_or_ge j k with h1 | h1
  · exact H j h1
  · obtain rfl : j = k := by omega
    exact h
end

set_option maxRecDepth 100000 in
set_option maxHeartbeats 2000000 in
theorem tyMany (A : Option Addr) (len cap : Nat) (es : List En) (w : World) (hE : RdE w A len es) :
    Calls Tryd.prog 24 #[.slice A len cap] w fun e w' => e = .returned (.bool (manyB es)) ∧ Below w.heap.size w w' := by
  have hlen := hE.len
  have hmx := hE.max
  by_cases h4 : 4 < len
  · go_enter Tryd.func24, Tryd.ntmps24
    go_wp2_with fail
    go_ret
    exact ⟨ret_bool (by simp [manyB, hlen, h4]), Below.refl _ _⟩
  · have hd4 : decide ((4 : Int) < (len : Int)) = false := decide_eq_false (by omega)
    go_enter Tryd.func24, Tryd.ntmps24
    go_wp2_with fail
    go_loopw [10] (fun i wr => ∃ k : Nat, k ≤ len ∧ i = .int .i64 k ∧ fewTo es k ∧ Below w.heap.size w wr) (fun i _ => len - (intOf i).toNat)
    case atStart => exact ⟨0, Nat.zero_le _, rfl, fun j hj => absurd hj (by omega), Below.refl _ _⟩
    case round =>
      obtain ⟨k, hk, rfl, hto, hnx⟩ := hrel
      have HT := Lib.hid hto
      clear hto
      by_cases hlt : k < len
      · obtain ⟨b, off, rfl, hb, hc⟩ := hE.at_ hlt
        obtain ⟨hn0, A', n', c', hs0, hR0⟩ := hc k hlt
        have hn1 : wr.cell? ⟨b, off + k * 2, none⟩ = some (.string (nmE es k)) := (hnx.cell (p := ⟨b, off + k * 2, none⟩) hb).trans hn0
        have hs1 : wr.cell? ⟨b, off + k * 2 + 1, none⟩ = some (.slice A' n' c') := (hnx.cell (p := ⟨b, off + k * 2 + 1, none⟩) hb).trans hs0
        have hkl : k < es.length := by omega
        have hcl := hR0.len
        have hcm := hR0.max
        by_cases h6 : 6 < n'
        · have HE := Lib.hid (many_at hkl (by omega))
          go_wp2_with fail
          go_ret
          exact ⟨ret_bool HE.out.symm, hnx.alloc hnx.size _⟩
        · have HN := Lib.hid (fewTo_succ HT.out (by omega))
          have hd6 : decide ((6 : Int) < (n' : Int)) = false := decide_eq_false (by omega)
          go_wp2_with fail
          go_roundw
          case rel => exact ⟨k + 1, by omega, by go_num, HN.out, hnx.alloc hnx.size _⟩
          case measure => simp [intOf]; omega
      · go_wp2_with fail
        go_ret
        exact ⟨ret_bool (many_no (by omega) HT.out (by omega)).symm, hnx⟩

set_option maxRecDepth 100000 in
set_option maxHeartbeats 2000000 in
theorem tyEnums (A : Option Addr) (len cap : Nat) (es : List En) (w : World) (hE : RdE w A len es) (hok : EsOk es) (hfew : EsFew es) :
    Calls Tryd.prog 10 #[.slice A len cap] w fun e w' => e = .returned (.int .i64 (enumsN es)) ∧ Below w.heap.size w w' := by
  have HE := Lib.hid hE
  clear hE
  cases hm : manyB es with
  | true =>
    have hN := Lib.hid (show (4 : Int) = enumsN es by simp [enumsN, hm])
    go_enter Tryd.func10, Tryd.ntmps10
    go_wp2_with fail
    refine (tyMany A len cap es w HE.out).mono ?_
    rw [hm]
    rintro e w1 ⟨rfl, hb1⟩
    have HB1 := Lib.hid hb1
    clear hb1
    go_wp2_with fail
    go_ret
    exact ⟨ret_int hN.out, HB1.out⟩
  | false =>
    cases hn : namedB es with
    | false =>
      have hN := Lib.hid (show (1 : Int) = enumsN es by simp [enumsN, hm, hn])
      go_enter Tryd.func10, Tryd.ntmps10
      go_wp2_with fail
      refine (tyMany A len cap es w HE.out).mono ?_
      rw [hm]
      rintro e w1 ⟨rfl, hb1⟩
      have HB1 := Lib.hid hb1
      clear hb1
      go_wp2_with fail
      refine (tyNamed A len cap es _ (HE.out.below HB1.out) hok).mono ?_
      rw [hn]
      rintro e w2 ⟨rfl, hb2⟩
      have HB2 := Lib.hid (below_trans2 HB1.out hb2)
      clear hb2
      go_wp2_with fail
      go_ret
      exact ⟨ret_int hN.out, HB2.out⟩
    | true =>
      cases ha : apartB es with
      | false =>
        have hN := Lib.hid (show (6 : Int) = enumsN es by simp [enumsN, hm, hn, ha])
        go_enter Tryd.func10, Tryd.ntmps10
        go_wp2_with fail
        refine (tyMany A len cap es w HE.out).mono ?_
        rw [hm]
        rintro e w1 ⟨rfl, hb1⟩
        have HB1 := Lib.hid hb1
        clear hb1
        go_wp2_with fail
        refine (tyNamed A len cap es _ (HE.out.below HB1.out) hok).mono ?_
        rw [hn]
        rintro e w2 ⟨rfl, hb2⟩
        have HB2 := Lib.hid (below_trans2 HB1.out hb2)
        clear hb2
        go_wp2_with fail
        refine (tyApart A len cap es _ (HE.out.below HB2.out) hok hfew).mono ?_
        rw [ha]
        rintro e w3 ⟨rfl, hb3⟩
        have HB3 := Lib.hid (below_trans2 HB2.out hb3)
        clear hb3
        go_wp2_with fail
        go_ret
        exact ⟨ret_int hN.out, HB3.out⟩
      | true =>
        have hN := Lib.hid (show (0 : Int) = enumsN es by simp [enumsN, hm, hn, ha])
        go_enter Tryd.func10, Tryd.ntmps10
        go_wp2_with fail
        refine (tyMany A len cap es w HE.out).mono ?_
        rw [hm]
        rintro e w1 ⟨rfl, hb1⟩
        have HB1 := Lib.hid hb1
        clear hb1
        go_wp2_with fail
        refine (tyNamed A len cap es _ (HE.out.below HB1.out) hok).mono ?_
        rw [hn]
        rintro e w2 ⟨rfl, hb2⟩
        have HB2 := Lib.hid (below_trans2 HB1.out hb2)
        clear hb2
        go_wp2_with fail
        refine (tyApart A len cap es _ (HE.out.below HB2.out) hok hfew).mono ?_
        rw [ha]
        rintro e w3 ⟨rfl, hb3⟩
        have HB3 := Lib.hid (below_trans2 HB2.out hb3)
        clear hb3
        go_wp2_with fail
        go_ret
        exact ⟨ret_int hN.out, HB3.out⟩
end Go.Proofs.YtccpihpfpobjpaaDoor
