/- Which enums are small; the page's example holds; the walks of TyEnums and TyTells. Conditions: none. -/
import Derived.Test.YtdnmnfpcgbbplaaDoorTyT
import Derived.Test.YtdnmnfpcgbbplaaDoorTyS
namespace Go.Proofs.YtdnmnfpcgbbplaaDoor
open Go.RowKit
set_option linter.unusedVariables false

def tinyTo (es : List En) (k : Nat) : Prop := ∀ j, j < k → (csE es j).length ≤ 12 ∧ (nmE es j).size ≤ 100 ∧ ∀ q, q < (csE es j).length → (ctAt es j q).size ≤ 100
def EsTiny (es : List En) : Prop := es.length ≤ 8 ∧ tinyTo es es.length

theorem EsTiny.few {es : List En} (h : EsTiny es) : EsFew es := ⟨h.1, fun j hj => (h.2 j hj).1⟩
theorem EsTiny.short {es : List En} (h : EsTiny es) : EsShort es := fun j hj => (h.2 j hj).2.1
theorem EsTiny.ok {es : List En} (h : EsTiny es) : EsOk es := fun j hj => by
  have h1 := h.2 j hj
  unfold maxLen
  refine ⟨by omega, fun s hs => ?_⟩
  obtain ⟨q, hq, rfl⟩ := List.getElem_of_mem hs
  have := h1.2.2 q hq
  unfold ctAt at this
  rw [List.getElem?_eq_getElem hq, Option.getD_some] at this
  omega
theorem tinyTo_succ {es : List En} {k : Nat} (H : tinyTo es k) (h1 : (csE es k).length ≤ 12) (h2 : (nmE es k).size ≤ 100) (h3 : ∀ q, q < (csE es k).length → (ctAt es k q).size ≤ 100) : tinyTo es (k + 1) := fun j hj => by
  rcases Nat.lt_or_ge j k with h | h
  · exact H j h
  · obtain rfl : j = k := by omega
    exact ⟨h1, h2, h3⟩

/-- What Small tells: if it tells true, they are small. -/
def SmallPost (es : List En) (w : World) (e : Ending) (w' : World) : Prop := ∃ b, e = .returned (.bool b) ∧ (b = true → EsTiny es) ∧ w = w'
theorem small_no (es : List En) (w : World) : SmallPost es w (.returned (.bool false)) w := ⟨false, rfl, fun h => (by cases h), rfl⟩
theorem small_yes {es : List En} (h : EsTiny es) (w : World) : SmallPost es w (.returned (.bool true)) w := ⟨true, rfl, fun _ => h, rfl⟩

set_option maxRecDepth 100000 in
set_option maxHeartbeats 4000000 in
theorem refSmall (A : Option Addr) (len cap : Nat) (es : List En) (w : World) (hE : RdE w A len es) :
    Calls Tryd.prog 6 #[.slice A len cap] w (SmallPost es w) := by
  have hlen := hE.len
  have hmx := hE.max
  by_cases h8 : 8 < len
  · go_enter Tryd.func6, Tryd.ntmps6
    go_wp2_with fail
    go_ret
    exact small_no es w
  · have hd8 : decide ((8 : Int) < (len : Int)) = false := decide_eq_false (by omega)
    go_enter Tryd.func6, Tryd.ntmps6
    go_wp2_with fail
    go_loop [3] (fun i => ∃ k : Nat, k ≤ len ∧ i = .int .i64 k ∧ tinyTo es k) (fun i => len - (intOf i).toNat)
    case atStart => exact ⟨0, Nat.zero_le _, rfl, fun j hj => absurd hj (by omega)⟩
    case round =>
      obtain ⟨k, hk, rfl, hto⟩ := hrel
      have HT := Lib.hid hto
      clear hto
      by_cases hlt : k < len
      · obtain ⟨b, off, rfl, hb, hc⟩ := hE.at_ hlt
        obtain ⟨hn0, A', n', c', hs0, hR0⟩ := hc k hlt
        have hkl : k < es.length := by omega
        have hcl := hR0.len
        have hcm := hR0.max
        clear hc
        by_cases h12 : 12 < n'
        · go_wp2_with fail
          go_ret
          exact small_no es w
        · have HS := Lib.hid fun h2 h3 => tinyTo_succ HT.out (show (csE es k).length ≤ 12 by omega) h2 h3
          have hd12 : decide ((12 : Int) < (n' : Int)) = false := decide_eq_false (by omega)
          generalize nmE es k = x at hn0 HS
          by_cases h100 : 100 < x.size
          · go_wp2_with fail
            go_ret
            exact small_no es w
          · have HS := Lib.hid fun h3 => HS.out (by omega) h3
            have hd100 : decide ((100 : Int) < (x.size : Int)) = false := decide_eq_false (by omega)
            go_wp2_with fail
            go_loop [4] (fun i => ∃ m : Nat, m ≤ n' ∧ i = .int .i64 m ∧ ∀ q, q < m → (ctAt es k q).size ≤ 100) (fun i => n' - (intOf i).toNat)
            case atStart => exact ⟨0, Nat.zero_le _, rfl, fun j hj => absurd hj (by omega)⟩
            case round =>
              obtain ⟨m, hm, rfl, hto⟩ := hrel
              have HT2 := Lib.hid hto
              clear hto
              by_cases hltm : m < n'
              · obtain ⟨b2, off2, rfl, hb2, hc2⟩ := hR0.at_ hltm
                have hcm2 := hc2 m hltm
                clear hc2
                rw [show (csE es k)[m]?.getD ByteArray.empty = ctAt es k m from rfl] at hcm2
                have HN := Lib.hid (show (ctAt es k m).size ≤ 100 → ∀ q, q < m + 1 → (ctAt es k q).size ≤ 100 from fun h q hq => by
                  rcases Nat.lt_or_ge q m with h1 | h1
                  · exact HT2.out q h1
                  · obtain rfl : q = m := by omega
                    exact h)
                generalize ctAt es k m = y at hcm2 HN
                by_cases hy : 100 < y.size
                · go_wp2_with fail
                  go_ret
                  exact small_no es w
                · have HN := Lib.hid (HN.out (by omega))
                  go_wp2_with fail
                  go_round
                  case rel => exact ⟨m + 1, by omega, by go_num, HN.out⟩
                  case measure => simp [intOf]; omega
              · have HS := Lib.hid (HS.out fun q hq => HT2.out q (by omega))
                go_wp2_with fail
                go_round
                case rel => exact ⟨k + 1, by omega, by go_num, HS.out⟩
                case measure => simp [intOf]; omega
      · have hkl : k = es.length := by omega
        have hno := HT.out
        rw [hkl] at hno
        have HY := Lib.hid (show EsTiny es from ⟨by omega, hno⟩)
        go_wp2_with fail
        go_ret
        exact small_yes HY.out w

theorem exText : textE [] 2 0 3 = (⟨#[98, 111, 111, 108, 91, 51, 93]⟩ : ByteArray) := by decide

end Go.Proofs.YtdnmnfpcgbbplaaDoor
