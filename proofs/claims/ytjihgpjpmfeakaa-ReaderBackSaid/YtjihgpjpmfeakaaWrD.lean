/- What a Writer's Num, Int, Text, Part and Bytes do. Conditions: what is written is less than memory holds. -/
import Derived.Test.YtjihgpjpmfeakaaWrC
import Derived.Laws.IdiomStrings
namespace Go.Proofs.Ytjihgpjpmfeakaa
open Go.RowKit
set_option linter.unusedVariables false

set_option maxHeartbeats 1600000 in
theorem wrNum_in (base b : Nat) (l : List Int) (g : Option Nat) (n : Int) (z : Nat) (w : World) (h : WrAt w base b (some l) g) (h1 : 1 ≤ z) (h4 : z ≤ 4) (h0 : 0 ≤ n) (hn : n < 256 ^ z) (hl : l.length + 4 ≤ 140737488355328) (hB : base ≤ w.heap.size) :
    Calls Try.prog 23 #[.pointer (some ⟨b, 0, none⟩), .int .i64 n, .int .i64 z] w fun e w' => Wrote w base b (some (l ++ putL n z)) g e w' := by
  have H := Lib.hid h
  clear h
  have hw : IntKind.u64.wrap n = n := by
    rw [IntKind.wrap_u64]
    obtain rfl | rfl | rfl | rfl : z = 1 ∨ z = 2 ∨ z = 3 ∨ z = 4 := by omega
    all_goals (simp at hn; omega)
  have HP := Lib.hid (fun W : World => octPut n z W h1 (by omega) h0)
  have hz : (z = 1 ∧ n < 256) ∨ (z = 2 ∧ n < 65536) ∨ (z = 3 ∧ n < 16777216) ∨ (z = 4 ∧ n < 4294967296) := by
    obtain rfl | rfl | rfl | rfl : z = 1 ∨ z = 2 ∨ z = 3 ∨ z = 4 := by omega
    all_goals (simp at hn; omega)
  have hd0 : decide (n < 0) = false := by simp; omega
  clear hn h1 h4
  rcases hz with ⟨rfl, h3⟩ | ⟨rfl, h3⟩ | ⟨rfl, h3⟩ | ⟨rfl, h3⟩
  all_goals
    go_enter Try.func23, Try.ntmps23
    go_wp2_with fail
    refine (wrOk_yes base b l g _ H.out).mono ?_
    rintro e w' ⟨rfl, rfl⟩
    go_wp2_with fail
    refine (HP.out w).mono ?_
    rintro e w1 ⟨A1, n1, c1, rfl, hrd, hb, hloc⟩
    have HR := Lib.hid hrd
    have HB := Lib.hid hb
    have HN := Lib.hid hrd.len
    clear hrd hb hloc
    go_wp2_with fail
    refine (wrPut_yes base b l g A1 n1 c1 _ _ (H.out.below HB.out) HR.out (by have := HN.out; rw [putL_length] at this; omega) (Nat.le_trans hB HB.out.size)).mono ?_
    intro e w2 hw2
    have HW := Lib.hid (hw2.below HB.out)
    obtain rfl := hw2.1
    clear hw2
    go_wp2_with fail
    go_end0
    exact HW.out

theorem wrNum (base b : Nat) (st : Option (List Int)) (g : Option Nat) (n z : Int) (k : Nat) (w : World) (h : WrAt w base b st g) (hs : Short st k) (hk : k + 4 ≤ 140737488355328) (hB : base ≤ w.heap.size) :
    Calls Try.prog 23 #[.pointer (some ⟨b, 0, none⟩), .int .i64 n, .int .i64 z] w fun e w' => Wrote w base b (wNum st n z) g e w' := by
  cases st with
  | none => exact wrNum_no base b g n z w h
  | some l =>
    have := hs l rfl
    by_cases hz : 1 ≤ z ∧ z ≤ 4 ∧ 0 ≤ n ∧ n < 256 ^ z.toNat
    · obtain ⟨j, rfl⟩ := Int.eq_ofNat_of_zero_le (show 0 ≤ z by omega)
      have hj : n < 256 ^ j := hz.2.2.2
      rw [wNum_yes l (z := j) (by omega) (by omega) hz.2.2.1 hj]
      exact wrNum_in base b l g n j w h (by omega) (by omega) hz.2.2.1 hj (by omega) hB
    · rw [wNum_no l hz]
      exact wrNum_out base b l g n z w h hz

theorem Rd.mine {k : IntKind} {w w' : World} {A : Option Addr} {n c : Nat} {l : List Int} {b : Nat} {g : Option Nat} (h : Rd k w A n c l) (hm : Mine w w' b g) (h1 : 0 < n → ∀ a, A = some a → some a.block ≠ some b ∧ some a.block ≠ g) : Rd k w' A n c l :=
  ⟨h.1, h.2.1, h.2.2.1, h.2.2.2.1, fun hn => by
    obtain ⟨b', off, e, hb, hc⟩ := h.2.2.2.2 hn
    obtain ⟨h2, h3⟩ := h1 hn _ e
    exact ⟨b', off, e, Nat.lt_of_lt_of_le hb hm.size, fun i hi => (World.cell?_of_block (a := ⟨b', off + i, none⟩) (hm.block b' hb (fun e => h2 (by rw [← e])) h3)).trans (hc i hi)⟩⟩
theorem WrAt.off {w : World} {base b : Nat} {st : Option (List Int)} {g : Option Nat} (h : WrAt w base b st g) {A' : Option Addr} {m c' : Nat} {l' : List Int} (hst : st.isSome = true) (hr : Rd .u8 w A' m c' l') :
    0 < m → ∀ a, A' = some a → some a.block ≠ some b := by
  cases st with
  | none => cases hst
  | some l =>
    obtain ⟨A, n, c, hrow, _⟩ := h.open_
    exact rd_off hrow (fun i hi z => by
      obtain rfl | rfl : i = 0 ∨ i = 1 := by omega
      all_goals (simp [wrCell])) hr

set_option maxHeartbeats 800000 in
theorem wrCounted (base b : Nat) (st : Option (List Int)) (g : Option Nat) (A : Option Addr) (m c : Nat) (t : List Int) (z : Int) (k : Nat) (w : World) (h : WrAt w base b st g) (hr : Rd .u8 w A m c t)
    (hA : st.isSome = true → 0 < m → ∀ a, A = some a → some a.block ≠ g) (hs : Short st k) (hk : k + 4 + m ≤ 140737488355328) (hB : base ≤ w.heap.size) :
    Calls Try.prog 45 #[.pointer (some ⟨b, 0, none⟩), .slice A m c, .int .i64 z] w fun e w' => Wrote w base b (wCount st t z) g e w' := by
  have HL := Lib.hid hr.len
  have HS := Lib.hid (hs.num (m : Int) z)
  have HN := Lib.hid (wrNum base b st g (m : Int) z k w h hs (by omega) hB)
  have HR := Lib.hid hr
  have HX := Lib.hid (fun h1 : st.isSome = true => h.off h1 hr)
  have HA := Lib.hid hA
  have hB' := hB
  have HE : Hid (wCount st t z = wPut (wNum st (m : Int) z) t) := Lib.hid (by unfold wCount; rw [hr.len])
  have H := Lib.hid h
  clear h hr hs hA
  rw [HE.out]
  go_enter Try.func45, Try.ntmps45
  go_wp2_with fail
  refine HN.out.mono ?_
  rintro e w1 ⟨rfl, g1, hat, hm, hg⟩
  have HM := Lib.hid hm
  have HG := Lib.hid hg
  have HT := Lib.hid hat
  clear hat hm hg
  have hB1 : base ≤ w1.heap.size := Nat.le_trans hB HM.out.size
  go_wp2_with fail
  cases hst : st with
  | none =>
    rw [hst] at HT
    refine (wrPut_no base b g1 A m c _ HT.out).mono ?_
    intro e w2 hw2
    have HW := Lib.hid (hw2.then_ HM.out HG.out)
    obtain rfl := hw2.1
    have HST := Lib.hid hst
    clear hw2 hst
    go_wp2_with fail
    go_end0
    rw [HST.out]
    exact HW.out
  | some l =>
    have HR1 := Lib.hid (HR.out.mine HM.out fun h0 a e => ⟨HX.out (by rw [hst]; rfl) h0 a e, HA.out (by rw [hst]; rfl) h0 a e⟩)
    rw [hst] at HT HS
    refine (wrPut base b _ g1 A m c t _ (k + 4) HT.out HR1.out HS.out (by omega) hB1).mono ?_
    intro e w2 hw2
    have HW := Lib.hid (hw2.then_ HM.out HG.out)
    obtain rfl := hw2.1
    have HST := Lib.hid hst
    clear hw2 hst
    go_wp2_with fail
    go_end0
    rw [HST.out]
    exact HW.out
end Go.Proofs.Ytjihgpjpmfeakaa
