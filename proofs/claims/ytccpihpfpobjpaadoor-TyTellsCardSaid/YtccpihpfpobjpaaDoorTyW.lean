/- The walk of TyTells. Conditions: none. -/
import Derived.Test.YtccpihpfpobjpaaDoorTyL
namespace Go.Proofs.YtccpihpfpobjpaaDoor
open Go.RowKit
set_option linter.unusedVariables false

set_option maxRecDepth 100000 in
set_option maxHeartbeats 8000000 in
theorem walkTells (A : Option Addr) (n c : Nat) (es : List En) (k e l : Int) (name : ByteArray) (w : World) (hE : RdE w A n es) :
    Calls Tryd.prog 4 #[.slice A n c, tyV k e l, .string name] w fun r w' => r = .returned (.bool true) ∧ Below w.heap.size w w' := by
  have hmx := hE.max
  have HE := Lib.hid (hE.alloc (.cells #[.int .i64 k, .int .i64 e, .int .i64 l] 30))
  have HB := Lib.hid ((Below.refl w.heap.size w).alloc (Nat.le_refl _) (.cells #[.int .i64 k, .int .i64 e, .int .i64 l] 30))
  have H3 := Lib.hid (cell3 w 30 (.int .i64 k) (.int .i64 e) (.int .i64 l))
  have HC1 := Lib.hid fun (W : World) => tyRight A n c k e l W hmx
  have HC2 := Lib.hid fun (W : World) => refRight A n c k e l W hmx
  have HC3 := Lib.hid fun (W : World) => tyCells k e l W
  have HC4 := Lib.hid fun (W : World) => refCells k e l W
  have HC5 := Lib.hid fun (W : World) => tyOne k e l W
  have HC6 := Lib.hid fun (W : World) => refOne k e l W
  have HC7 := Lib.hid fun (W : World) (h : RdE W A n es) (hs : EsShort es) => tyText A n c es k e l W h hs
  have HC8 := Lib.hid fun (W : World) (h : RdE W A n es) (hs : EsShort es) => refText A n c es k e l W h hs
  clear hE
  unfold tyV at HC1 HC2 HC3 HC4 HC5 HC6 HC7 HC8 ⊢
  generalize rightB n k e l = br at HC1 HC2
  generalize cellsN l = xc at HC3 HC4
  generalize textE es k e l = xt at HC7 HC8
  go_enter Tryd.func4, Tryd.ntmps4
  go_wp2_with fail
  refine (refSmall A n c es _ HE.out).mono ?_
  rintro r w' ⟨b, rfl, ht, rfl⟩
  cases b with
  | false =>
    clear ht
    go_wp2_with fail
    refine (live_any _).mono ?_
    rintro r w1 ⟨rfl, hb1⟩
    have HB1 := Lib.hid (HB.out.trans (hb1.mono HB.out.size))
    clear hb1
    go_wp2_with fail
    go_ret
    exact ⟨rfl, HB1.out⟩
  | true =>
    have HT := Lib.hid (ht rfl)
    clear ht
    by_cases hn : 1000 < name.size
    · go_wp2_with fail
      refine (live_any _).mono ?_
      rintro r w1 ⟨rfl, hb1⟩
      have HB1 := Lib.hid (HB.out.trans (hb1.mono HB.out.size))
      clear hb1
      go_wp2_with fail
      go_ret
      exact ⟨rfl, HB1.out⟩
    · go_wp2_with fail
      refine (tyCtor A n c es name _ HE.out).mono ?_
      rintro r w1 ⟨rfl, hb1⟩
      have q0 := (hb1.cell (p := ⟨w.heap.size, 0, none⟩) (by simp)).trans H3.out.1
      have q1 := (hb1.cell (p := ⟨w.heap.size, 1, none⟩) (by simp)).trans H3.out.2.1
      have q2 := (hb1.cell (p := ⟨w.heap.size, 2, none⟩) (by simp)).trans H3.out.2.2
      have hws : w.heap.size < w1.heap.size := by have := hb1.size; simp at this; omega
      have HB1 := Lib.hid (HB.out.trans (hb1.mono HB.out.size))
      have HE1 := Lib.hid (HE.out.below hb1)
      clear hb1
      have HR := Lib.hid (refCtor A n c es name w1 HE1.out)
      unfold ctorV at HR ⊢
      generalize (((findE es name).map (·.1)).getD 0 : Nat) = x1 at HR ⊢
      generalize (((findE es name).map (·.2.1)).getD 0 : Nat) = x2 at HR ⊢
      generalize (findE es name).isSome = x3 at HR ⊢
      go_wp2_with fail
      refine HR.out.mono ?_
      rintro r w2 ⟨rfl, hb2⟩
      have q0 := (hb2.cell (p := ⟨w.heap.size, 0, none⟩) hws).trans q0
      have q1 := (hb2.cell (p := ⟨w.heap.size, 1, none⟩) hws).trans q1
      have q2 := (hb2.cell (p := ⟨w.heap.size, 2, none⟩) hws).trans q2
      have HB2 := Lib.hid (HB1.out.trans (hb2.mono HB1.out.size))
      have HE2 := Lib.hid (HE1.out.below hb2)
      clear hb2
      have n1 : ((x1 : Int) != (x1 : Int)) = false := by simp
      have n2 : ((x2 : Int) != (x2 : Int)) = false := by simp
      have n3 : (x3 != x3) = false := by simp
      go_wp2_with fail
      go_region_held3 (fun W => W.cell? ⟨w.heap.size, 0, none⟩ = some (.int .i64 k) ∧ W.cell? ⟨w.heap.size, 1, none⟩ = some (.int .i64 e) ∧ W.cell? ⟨w.heap.size, 2, none⟩ = some (.int .i64 l)) (first | exact ⟨q0, q1, q2⟩ | exact ⟨a0, a1, a2⟩ | exact ⟨b0, b1, b2⟩ | exact ⟨c0, c1, c2⟩ | exact ⟨d0, d1, d2⟩ | exact ⟨e0, e1, e2⟩ | exact ⟨f0, f1, f2⟩ | exact ⟨g0, g1, g2⟩ | exact ⟨h0, h1, h2⟩ | exact ⟨i0, i1, i2⟩)
        ((first
          | (go_at_call 14; refine (HC1.out _).mono ?_; rintro r Wa ⟨rfl, hba⟩; have a0 := (hba.cell (p := ⟨w.heap.size, 0, none⟩) (World.block_lt_of_cell? _ _ q0)).trans q0; have a1 := (hba.cell (p := ⟨w.heap.size, 1, none⟩) (World.block_lt_of_cell? _ _ q1)).trans q1; have a2 := (hba.cell (p := ⟨w.heap.size, 2, none⟩) (World.block_lt_of_cell? _ _ q2)).trans q2; have HBLa := Lib.hid ((below_drewN HB2.out 1).trans (hba.mono (below_drewN HB2.out 1).size)); have HEa := Lib.hid ((HE2.out.drewN 1).below hba); clear hba)
          | (go_at_call 15; refine (HC2.out _).mono ?_; rintro r Wb ⟨rfl, hbb⟩; have b0 := (hbb.cell (p := ⟨w.heap.size, 0, none⟩) (World.block_lt_of_cell? _ _ a0)).trans a0; have b1 := (hbb.cell (p := ⟨w.heap.size, 1, none⟩) (World.block_lt_of_cell? _ _ a1)).trans a1; have b2 := (hbb.cell (p := ⟨w.heap.size, 2, none⟩) (World.block_lt_of_cell? _ _ a2)).trans a2; have HBLb := Lib.hid (HBLa.out.trans (hbb.mono HBLa.out.size)); have HEb := Lib.hid (HEa.out.below hbb); clear hbb)
          | (go_at_call 16; refine (HC3.out _).mono ?_; rintro r Wc ⟨rfl, hbc⟩; have c0 := (hbc.cell (p := ⟨w.heap.size, 0, none⟩) (World.block_lt_of_cell? _ _ b0)).trans b0; have c1 := (hbc.cell (p := ⟨w.heap.size, 1, none⟩) (World.block_lt_of_cell? _ _ b1)).trans b1; have c2 := (hbc.cell (p := ⟨w.heap.size, 2, none⟩) (World.block_lt_of_cell? _ _ b2)).trans b2; have HBLc := Lib.hid (HBLb.out.trans (hbc.mono HBLb.out.size)); have HEc := Lib.hid (HEb.out.below hbc); clear hbc)
          | (go_at_call 17; refine (HC4.out _).mono ?_; rintro r Wd ⟨rfl, hbd⟩; have d0 := (hbd.cell (p := ⟨w.heap.size, 0, none⟩) (World.block_lt_of_cell? _ _ c0)).trans c0; have d1 := (hbd.cell (p := ⟨w.heap.size, 1, none⟩) (World.block_lt_of_cell? _ _ c1)).trans c1; have d2 := (hbd.cell (p := ⟨w.heap.size, 2, none⟩) (World.block_lt_of_cell? _ _ c2)).trans c2; have HBLd := Lib.hid (HBLc.out.trans (hbd.mono HBLc.out.size)); have HEd := Lib.hid (HEc.out.below hbd); clear hbd)
          | (go_at_call 18; refine (HC5.out _).mono ?_; rintro r We ⟨rfl, hbe⟩; have e0 := (hbe.cell (p := ⟨w.heap.size, 0, none⟩) (World.block_lt_of_cell? _ _ d0)).trans d0; have e1 := (hbe.cell (p := ⟨w.heap.size, 1, none⟩) (World.block_lt_of_cell? _ _ d1)).trans d1; have e2 := (hbe.cell (p := ⟨w.heap.size, 2, none⟩) (World.block_lt_of_cell? _ _ d2)).trans d2; have HBLe := Lib.hid (HBLd.out.trans (hbe.mono HBLd.out.size)); have HEe := Lib.hid (HEd.out.below hbe); clear hbe)
          | (go_at_call 19; refine (HC6.out _).mono ?_; rintro r Wf ⟨rfl, hbf⟩; have f0 := (hbf.cell (p := ⟨w.heap.size, 0, none⟩) (World.block_lt_of_cell? _ _ e0)).trans e0; have f1 := (hbf.cell (p := ⟨w.heap.size, 1, none⟩) (World.block_lt_of_cell? _ _ e1)).trans e1; have f2 := (hbf.cell (p := ⟨w.heap.size, 2, none⟩) (World.block_lt_of_cell? _ _ e2)).trans e2; have HBLf := Lib.hid (HBLe.out.trans (hbf.mono HBLe.out.size)); have HEf := Lib.hid (HEe.out.below hbf); clear hbf)
          | (go_at_call 20; refine (HC7.out _ HEf.out HT.out.short).mono ?_; rintro r Wg ⟨rfl, hbg⟩; have g0 := (hbg.cell (p := ⟨w.heap.size, 0, none⟩) (World.block_lt_of_cell? _ _ f0)).trans f0; have g1 := (hbg.cell (p := ⟨w.heap.size, 1, none⟩) (World.block_lt_of_cell? _ _ f1)).trans f1; have g2 := (hbg.cell (p := ⟨w.heap.size, 2, none⟩) (World.block_lt_of_cell? _ _ f2)).trans f2; have HBLg := Lib.hid (HBLf.out.trans (hbg.mono HBLf.out.size)); have HEg := Lib.hid (HEf.out.below hbg); clear hbg)
          | (go_at_call 21; refine (HC8.out _ HEg.out HT.out.short).mono ?_; rintro r Wh ⟨rfl, hbh⟩; have h0 := (hbh.cell (p := ⟨w.heap.size, 0, none⟩) (World.block_lt_of_cell? _ _ g0)).trans g0; have h1 := (hbh.cell (p := ⟨w.heap.size, 1, none⟩) (World.block_lt_of_cell? _ _ g1)).trans g1; have h2 := (hbh.cell (p := ⟨w.heap.size, 2, none⟩) (World.block_lt_of_cell? _ _ g2)).trans g2; have HBLh := Lib.hid (HBLg.out.trans (hbh.mono HBLg.out.size)); have HEh := Lib.hid (HEg.out.below hbh); clear hbh)
          | (go_at_call 8; refine (live_any _).mono ?_; rintro r Wi ⟨rfl, hbi⟩; have i0 := (hbi.cell (p := ⟨w.heap.size, 0, none⟩) (World.block_lt_of_cell? _ _ h0)).trans h0; have i1 := (hbi.cell (p := ⟨w.heap.size, 1, none⟩) (World.block_lt_of_cell? _ _ h1)).trans h1; have i2 := (hbi.cell (p := ⟨w.heap.size, 2, none⟩) (World.block_lt_of_cell? _ _ h2)).trans h2; have HBLi := Lib.hid (HBLh.out.trans (hbi.mono HBLh.out.size)); have HEi := Lib.hid (HEh.out.below hbi); clear hbi)))
      go_wp2_with fail
      go_ret
      exact ⟨rfl, HBLi.out⟩
end Go.Proofs.YtccpihpfpobjpaaDoor
