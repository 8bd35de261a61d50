/- The page's example holds; the walk of ValTexts. Conditions: the powers of ten lie as laid. -/
import Derived.Test.YtdnmnfpcgbbplaaDoorVaP
import Derived.Test.YtdnmnfpcgbbplaaDoorTyL
namespace Go.Proofs.YtdnmnfpcgbbplaaDoor
open Go.RowKit
set_option linter.unusedVariables false

theorem exVal : valT [] 2 0 2 [1, 0] = (⟨#[91, 116, 114, 117, 101, 44, 102, 97, 108, 115, 101, 93]⟩ : ByteArray) := by decide
theorem ctShort_nil : CtShort [] := fun j q hj _ => absurd hj (by simp)
theorem EsTiny.ct {es : List En} (h : EsTiny es) : CtShort es := fun j q hj hq => (h.2 j hj).2.2 q hq
theorem sameB_self (l : List Int) : sameB l l = true := decide_eq_true rfl

set_option maxRecDepth 100000 in
set_option maxHeartbeats 2000000 in
theorem live_any (w : World) (hTab : Tab w) : Calls Tryd.prog 7 #[] w fun e w' => e = .returned (.bool true) ∧ Below w.heap.size w w' := by
  have HB := Lib.hid ((Below.refl w.heap.size w).alloc (Nat.le_refl _) (.cells #[.int .i64 1, .int .i64 0] 2))
  have HR := Lib.hid (Rd.lit .i64 w 2 [1, 0] 2 rfl (by omega) (by intro z hz; simp at hz; rcases hz with rfl | rfl <;> rfl) #[.int .i64 1, .int .i64 0] rfl)
  have HT := Lib.hid (valText none 0 0 [] (some ⟨w.heap.size, 0, none⟩) 2 2 [1, 0] 2 0 2 _ (RdE.nil_ _) HR.out ctShort_nil (hTab.below HB.out))
  rw [exVal] at HT
  unfold tyV at HT
  clear hTab HR
  go_enter Tryd.func7, Tryd.ntmps7
  go_wp2_with fail
  refine HT.out.mono ?_
  rintro r w1 ⟨rfl, hb1⟩
  have HB1 := Lib.hid (HB.out.trans (hb1.mono HB.out.size))
  clear hb1
  go_wp2_with fail
  go_ret
  exact ⟨rfl, HB1.out⟩

set_option maxRecDepth 100000 in
set_option maxHeartbeats 4000000 in
theorem walkTexts (A : Option Addr) (n c : Nat) (es : List En) (k e l : Int) (B : Option Addr) (m d : Nat) (zs : List Int) (w : World) (hE : RdE w A n es) (hV : Rd .i64 w B m d zs) (hTab : Tab w) :
    Calls Tryd.prog 4 #[.slice A n c, tyV k e l, .slice B m d] w fun r w' => r = .returned (.bool true) ∧ Below w.heap.size w w' := by
  have HB := Lib.hid ((Below.refl w.heap.size w).alloc (Nat.le_refl _) (.cells #[.int .i64 k, .int .i64 e, .int .i64 l] 24))
  have H3 := Lib.hid (cell3 w 24 (.int .i64 k) (.int .i64 e) (.int .i64 l))
  have HE := Lib.hid hE
  have HV := Lib.hid hV
  have HTB := Lib.hid hTab
  have hmx := hV.max
  have HC1 := Lib.hid fun (W : World) (h1 : RdE W A n es) (h2 : Rd .i64 W B m d zs) (h3 : CtShort es) (h4 : Tab W) => valText A n c es B m d zs k e l W h1 h2 h3 h4
  have HC2 := Lib.hid fun (W : World) (h1 : RdE W A n es) (h2 : Rd .i64 W B m d zs) (h3 : CtShort es) => refValText A n c es B m d zs k e l W h1 h2 h3
  clear hE hV hTab
  unfold tyV at HC1 HC2 ⊢
  generalize valT es k e l zs = x at HC1 HC2
  go_enter Tryd.func4, Tryd.ntmps4
  go_wp2_with fail
  refine (refSmall A n c es _ (HE.out.below HB.out)).mono ?_
  rintro r w' ⟨b, rfl, ht, rfl⟩
  cases b with
  | false =>
    clear ht
    go_wp2_with fail
    refine (live_any _ (HTB.out.below HB.out)).mono ?_
    rintro r w1 ⟨rfl, hb1⟩
    have HB1 := Lib.hid (HB.out.trans (hb1.mono HB.out.size))
    clear hb1
    go_wp2_with fail
    go_ret
    exact ⟨rfl, HB1.out⟩
  | true =>
    have HT := Lib.hid (ht rfl)
    clear ht
    by_cases hn : 20 < m
    · go_wp2_with fail
      refine (live_any _ (HTB.out.below HB.out)).mono ?_
      rintro r w1 ⟨rfl, hb1⟩
      have HB1 := Lib.hid (HB.out.trans (hb1.mono HB.out.size))
      clear hb1
      go_wp2_with fail
      go_ret
      exact ⟨rfl, HB1.out⟩
    · have hd : decide ((20 : Int) < (m : Int)) = false := decide_eq_false (by omega)
      have q0 := H3.out.1
      have q1 := H3.out.2.1
      have q2 := H3.out.2.2
      have HBLq := Lib.hid (below_drewN HB.out 1)
      have hxx : (x.toList == x.toList) = true := by simp
      go_wp2_with fail
      go_region_held3 (fun W => W.cell? ⟨w.heap.size, 0, none⟩ = some (.int .i64 k) ∧ W.cell? ⟨w.heap.size, 1, none⟩ = some (.int .i64 e) ∧ W.cell? ⟨w.heap.size, 2, none⟩ = some (.int .i64 l)) (first | exact ⟨q0, q1, q2⟩ | exact ⟨a0, a1, a2⟩ | exact ⟨b0, b1, b2⟩ | exact ⟨c0, c1, c2⟩)
        ((first
          | (go_at_call 18; refine (HC1.out _ (HE.out.below HBLq.out) (HV.out.below HBLq.out) HT.out.ct (HTB.out.below HBLq.out)).mono ?_; rintro r Wa ⟨rfl, hba⟩; have a0 := (hba.cell (p := ⟨w.heap.size, 0, none⟩) (World.block_lt_of_cell? _ _ q0)).trans q0; have a1 := (hba.cell (p := ⟨w.heap.size, 1, none⟩) (World.block_lt_of_cell? _ _ q1)).trans q1; have a2 := (hba.cell (p := ⟨w.heap.size, 2, none⟩) (World.block_lt_of_cell? _ _ q2)).trans q2; have HBLa := Lib.hid (HBLq.out.trans (hba.mono HBLq.out.size)); clear hba)
          | (go_at_call 19; refine (HC2.out _ (HE.out.below HBLa.out) (HV.out.below HBLa.out) HT.out.ct).mono ?_; rintro r Wb ⟨rfl, hbb⟩; have b0 := (hbb.cell (p := ⟨w.heap.size, 0, none⟩) (World.block_lt_of_cell? _ _ a0)).trans a0; have b1 := (hbb.cell (p := ⟨w.heap.size, 1, none⟩) (World.block_lt_of_cell? _ _ a1)).trans a1; have b2 := (hbb.cell (p := ⟨w.heap.size, 2, none⟩) (World.block_lt_of_cell? _ _ a2)).trans a2; have HBLb := Lib.hid (HBLa.out.trans (hbb.mono HBLa.out.size)); clear hbb)
          | (go_at_call 7; refine (live_any _ (HTB.out.below HBLb.out)).mono ?_; rintro r Wc ⟨rfl, hbc⟩; have c0 := (hbc.cell (p := ⟨w.heap.size, 0, none⟩) (World.block_lt_of_cell? _ _ b0)).trans b0; have c1 := (hbc.cell (p := ⟨w.heap.size, 1, none⟩) (World.block_lt_of_cell? _ _ b1)).trans b1; have c2 := (hbc.cell (p := ⟨w.heap.size, 2, none⟩) (World.block_lt_of_cell? _ _ b2)).trans b2; have HBLc := Lib.hid (HBLb.out.trans (hbc.mono HBLb.out.size)); clear hbc)))
      go_wp2_with fail
      go_ret
      exact ⟨rfl, HBLc.out⟩
end Go.Proofs.YtdnmnfpcgbbplaaDoor
