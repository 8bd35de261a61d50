/- The page's example, which every law of this layer asks last. Conditions: none. -/
import Derived.Test.YtjihgpjpmfeakaaRdF
namespace Go.Proofs.Ytjihgpjpmfeakaa
open Go.RowKit
set_option linter.unusedVariables false

def exL : List Int := [0, 2, 97, 98, 2, 255, 127, 1]
theorem ex_text : countS exL (some 0) 2 = (some 4, [97, 98]) := by decide
theorem ex_int : intS exL (some 4) = (some 7, -129) := by decide
theorem ex_num : numS exL (some 7) 2 = (none, 0) := by decide
theorem ex_str : strOfNums [97, 98] = ⟨#[97, 98]⟩ := rfl

theorem below_row {B b : Nat} {a w w' : World} (h : Below B a w) (hg : w.grownBy w' (some b)) (hb : B ≤ b) (hB : B ≤ w.heap.size) : Below B a w' :=
  h.grown hg hB fun g e => by injection e with e; omega

theorem lit_rd (w : World) : Rd .u8 (w.alloc (.cells #[.int .u8 0, .int .u8 2, .int .u8 97, .int .u8 98, .int .u8 2, .int .u8 255, .int .u8 127, .int .u8 1] 5)) (some ⟨w.heap.size, 0, none⟩) 8 8 exL :=
  Rd.lit .u8 w _ exL 8 rfl (by omega) (by decide) _ rfl

set_option maxHeartbeats 1600000 in
theorem live_any (w : World) :
    Calls Try.prog 6 #[] w fun e w' => e = .returned (.bool true) ∧ Below w.heap.size w w' := by
  have HL := Lib.hid (lit_rd w)
  have HB0 := Lib.hid ((Below.refl w.heap.size w).alloc (Nat.le_refl _) (.cells #[.int .u8 0, .int .u8 2, .int .u8 97, .int .u8 98, .int .u8 2, .int .u8 255, .int .u8 127, .int .u8 1] 5))
  go_enter Try.func6, Try.ntmps6
  go_wp2_with fail
  refine (rdFrom _ _ _ _ _ HL.out (by omega)).mono ?_
  rintro e w1 ⟨b, A, n, c, rfl, hb, hA, hat, hbel⟩
  have hb' : w.heap.size ≤ b := Nat.le_trans (by simp) hb
  have HB1 := Lib.hid (HB0.out.trans (hbel.mono (by simp)))
  have HT := Lib.hid hat
  have HN := Lib.hid (show n = 8 from by rw [← hat.rd.len]; rfl)
  clear hb hA hat hbel
  go_wp2_with fail
  refine (rdText b A n c exL _ _ HT.out).mono ?_
  rw [ex_text]
  rintro e w2 ⟨rfl, hat, hg⟩
  have HB2 := Lib.hid (below_row HB1.out hg hb' HB1.out.size)
  have HT2 := Lib.hid hat
  clear hat hg
  rw [show strOfNums ((some 4, [97, 98]) : Option Nat × List Int).2 = ⟨#[97, 98]⟩ from rfl]
  go_wp2_with fail
  refine (rdInt b A n c exL _ _ HT2.out).mono ?_
  rw [ex_int]
  rintro e w3 ⟨rfl, hat, hg⟩
  have HB3 := Lib.hid (below_row HB2.out hg hb' HB2.out.size)
  have HT3 := Lib.hid hat
  clear hat hg
  go_wp2_with fail
  refine (rdAt b A n c exL (some 7) _ HT3.out).mono ?_
  rintro e w4 ⟨rfl, rfl⟩
  go_wp2_with fail
  refine (rdMore b A n c exL (some 7) _ HT3.out).mono ?_
  rintro e w4 ⟨rfl, m, rfl⟩
  rw [show moreS (some 7) n = true from by rw [HN.out]; rfl]
  go_wp2_with fail
  refine (rdNum b A n c exL (some 7) 2 _ (HT3.out.drewN m)).mono ?_
  rw [ex_num]
  rintro e w5 ⟨rfl, hat, hg⟩
  have HB5 := Lib.hid (below_row (below_drewN HB3.out m) hg hb' HB3.out.size)
  have HT5 := Lib.hid hat
  clear hat hg
  go_wp2_with fail
  refine (rdOk_no b A n c exL _ HT5.out).mono ?_
  rintro e w4 ⟨rfl, rfl⟩
  go_wp2_with fail
  refine (rdAt b A n c exL none _ HT5.out).mono ?_
  rintro e w4 ⟨rfl, rfl⟩
  go_wp2_with fail
  go_ret
  exact ⟨rfl, HB5.out⟩
end Go.Proofs.Ytjihgpjpmfeakaa
