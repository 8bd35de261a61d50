/- The walk of TyOrders. Conditions: none. -/
import Derived.Test.YtccpihpfpobjpaaDoorTyO
namespace Go.Proofs.YtccpihpfpobjpaaDoor
open Go.RowKit
set_option linter.unusedVariables false

set_option maxRecDepth 100000 in
set_option maxHeartbeats 16000000 in
theorem walkOrders (A : Option Addr) (n c : Nat) (es : List En) (B : Option Addr) (m d : Nat) (fs : List En) (k e l k' e' l' : Int) (w : World) (hE : RdE w A n es) (hF : RdE w B m fs) :
    Calls Tryd.prog 6 #[.slice A n c, .slice B m d, twoV k e l k' e' l'] w fun r w' => r = .returned (.bool true) ∧ Below w.heap.size w w' := by
  have hmx := hE.max
  have hlen := hE.len
  have HE := Lib.hid (hE.alloc (six k e l k' e' l'))
  have HF := Lib.hid (hF.alloc (six k e l k' e' l'))
  have HB := Lib.hid ((Below.refl w.heap.size w).alloc (Nat.le_refl _) (six k e l k' e' l'))
  have HC1 := Lib.hid fun (W : World) (h1 : RdE W A n es) (h2 : RdE W B m fs) => tyAlike A B n m c d es fs k e l k' e' l' W h1 h2
  have HC2 := Lib.hid fun (W : World) (h1 : RdE W A n es) (h2 : RdE W B m fs) => tyAlike B A m n d c fs es k' e' l' k e l W h2 h1
  rw [← alike_symm] at HC2
  have HC3 := Lib.hid fun (W : World) (h1 : RdE W A n es) => tyAlike A A n n c c es es k e l k e l W h1 h1
  rw [alike_self] at HC3
  have HC4 := Lib.hid fun (W : World) => tyRight A n c k e l W hmx
  have HC5 := Lib.hid fun (W : World) => tyRight A n c k' e' l' W hmx
  have HC6 := Lib.hid fun (W : World) (h1 : RdE W A n es) => tyAlike A A n n c c es es k e l k' e' l' W h1 h1
  have HC7 := Lib.hid fun (W : World) (h : RdE W A n es) (hs : EsShort es) => tyText A n c es k e l W h hs
  have HC8 := Lib.hid fun (W : World) (h : RdE W A n es) (hs : EsShort es) => tyText A n c es k' e' l' W h hs
  have HC9 := Lib.hid fun (W : World) (h : RdE W A n es) (h1 : EsOk es) (h2 : EsFew es) => tyEnums A n c es W h h1 h2
  have HSAME := Lib.hid fun h h1 h2 => alike_same (es := es) (k := k) (e := e) (l := l) (k' := k') (e' := e') (l' := l') h h1 h2
  have HTEXT := Lib.hid fun h h1 h2 => text_same (es := es) (k := k) (e := e) (l := l) (k' := k') (e' := e') (l' := l') h h1 h2
  rw [← hlen] at HC4 HC5
  clear hE hF
  unfold twoV
  unfold tyV at HC1 HC2 HC3 HC4 HC5 HC6 HC7 HC8
  generalize alikeB es fs k e l k' e' l' = br at HC1 HC2
  generalize alikeB es es k e l k' e' l' = sm at HC6 HSAME
  generalize rightB es.length k e l = rt at HC3 HC4 HSAME HTEXT
  generalize rightB es.length k' e' l' = ru at HC5 HSAME HTEXT
  generalize textE es k e l = xt at HC7 HTEXT
  generalize textE es k' e' l' = yt at HC8 HTEXT
  generalize enumsN es = xn at HC9 HSAME HTEXT
  have nb : (br != br) = false := by simp
  have nr : (rt != rt) = false := by simp
  have H6 := Lib.hid (six_at w k e l k' e' l')
  unfold six at HE HF HB H6
  subst hlen
  go_enter Tryd.func6, Tryd.ntmps6
  go_wp2_with fail
  refine (refSmall A es.length c es _ HE.out).mono ?_
  rintro r w' ⟨b1, rfl, ht, rfl⟩
  cases b1 with
  | false =>
    clear ht
    go_wp2_with fail
    refine (live_any _).mono ?_
    rintro r W1 ⟨rfl, hb1⟩
    have HB1 := Lib.hid (HB.out.trans (hb1.mono HB.out.size))
    clear hb1
    go_wp2_with fail
    go_ret
    exact ⟨rfl, HB1.out⟩
  | true =>
    have HT := Lib.hid (ht rfl)
    clear ht
    go_wp2_with fail
    refine (refSmall B m d fs _ HF.out).mono ?_
    rintro r w' ⟨b2, rfl, -, rfl⟩
    cases b2 with
    | false =>
      go_wp2_with fail
      refine (live_any _).mono ?_
      rintro r W1 ⟨rfl, hb1⟩
      have HB1 := Lib.hid (HB.out.trans (hb1.mono HB.out.size))
      clear hb1
      go_wp2_with fail
      go_ret
      exact ⟨rfl, HB1.out⟩
    | true =>
      obtain ⟨q0, q1, q2, q3, q4, q5⟩ := H6.out
      go_wp2_with fail
      generalize hw1 : w.alloc (.cells #[.int .i64 k, .int .i64 e, .int .i64 l, .int .i64 k', .int .i64 e', .int .i64 l'] 38) = w1 at *
      clear hw1 H6
      have HBLq := Lib.hid (below_drewN HB.out 1)
      have HEq := Lib.hid (HE.out.drewN 1)
      have HFq := Lib.hid (HF.out.drewN 1)
      go_region_held3 (fun W => W.cell? ⟨w.heap.size, 0, none⟩ = some (.int .i64 k) ∧ W.cell? ⟨w.heap.size, 1, none⟩ = some (.int .i64 e) ∧ W.cell? ⟨w.heap.size, 2, none⟩ = some (.int .i64 l) ∧ W.cell? ⟨w.heap.size, 3, none⟩ = some (.int .i64 k') ∧ W.cell? ⟨w.heap.size, 4, none⟩ = some (.int .i64 e') ∧ W.cell? ⟨w.heap.size, 5, none⟩ = some (.int .i64 l')) (first | exact ⟨q0, q1, q2, q3, q4, q5⟩ | exact ⟨a0, a1, a2, a3, a4, a5⟩ | exact ⟨b0, b1, b2, b3, b4, b5⟩ | exact ⟨c0, c1, c2, c3, c4, c5⟩ | exact ⟨d0, d1, d2, d3, d4, d5⟩)
        ((first
          | (go_at_call 22; refine (HC1.out _ HEq.out HFq.out).mono ?_; clear HC1; rintro r Wa ⟨rfl, hba⟩; have a0 := (hba.cell (p := ⟨w.heap.size, 0, none⟩) (World.block_lt_of_cell? _ _ q0)).trans q0; have a1 := (hba.cell (p := ⟨w.heap.size, 1, none⟩) (World.block_lt_of_cell? _ _ q1)).trans q1; have a2 := (hba.cell (p := ⟨w.heap.size, 2, none⟩) (World.block_lt_of_cell? _ _ q2)).trans q2; have a3 := (hba.cell (p := ⟨w.heap.size, 3, none⟩) (World.block_lt_of_cell? _ _ q3)).trans q3; have a4 := (hba.cell (p := ⟨w.heap.size, 4, none⟩) (World.block_lt_of_cell? _ _ q4)).trans q4; have a5 := (hba.cell (p := ⟨w.heap.size, 5, none⟩) (World.block_lt_of_cell? _ _ q5)).trans q5; have HBLa := Lib.hid (HBLq.out.trans (hba.mono HBLq.out.size)); have HEa := Lib.hid (HEq.out.below hba); have HFa := Lib.hid (HFq.out.below hba); clear hba)
          | (go_at_call 22; refine (HC2.out _ HEa.out HFa.out).mono ?_; clear HC2; rintro r Wb ⟨rfl, hbb⟩; have b0 := (hbb.cell (p := ⟨w.heap.size, 0, none⟩) (World.block_lt_of_cell? _ _ a0)).trans a0; have b1 := (hbb.cell (p := ⟨w.heap.size, 1, none⟩) (World.block_lt_of_cell? _ _ a1)).trans a1; have b2 := (hbb.cell (p := ⟨w.heap.size, 2, none⟩) (World.block_lt_of_cell? _ _ a2)).trans a2; have b3 := (hbb.cell (p := ⟨w.heap.size, 3, none⟩) (World.block_lt_of_cell? _ _ a3)).trans a3; have b4 := (hbb.cell (p := ⟨w.heap.size, 4, none⟩) (World.block_lt_of_cell? _ _ a4)).trans a4; have b5 := (hbb.cell (p := ⟨w.heap.size, 5, none⟩) (World.block_lt_of_cell? _ _ a5)).trans a5; have HBLb := Lib.hid (HBLa.out.trans (hbb.mono HBLa.out.size)); have HEb := Lib.hid (HEa.out.below hbb); have HFb := Lib.hid (HFa.out.below hbb); clear hbb)
          | (go_at_call 22; refine (HC3.out _ HEb.out).mono ?_; clear HC3; rintro r Wc ⟨rfl, hbc⟩; have c0 := (hbc.cell (p := ⟨w.heap.size, 0, none⟩) (World.block_lt_of_cell? _ _ b0)).trans b0; have c1 := (hbc.cell (p := ⟨w.heap.size, 1, none⟩) (World.block_lt_of_cell? _ _ b1)).trans b1; have c2 := (hbc.cell (p := ⟨w.heap.size, 2, none⟩) (World.block_lt_of_cell? _ _ b2)).trans b2; have c3 := (hbc.cell (p := ⟨w.heap.size, 3, none⟩) (World.block_lt_of_cell? _ _ b3)).trans b3; have c4 := (hbc.cell (p := ⟨w.heap.size, 4, none⟩) (World.block_lt_of_cell? _ _ b4)).trans b4; have c5 := (hbc.cell (p := ⟨w.heap.size, 5, none⟩) (World.block_lt_of_cell? _ _ b5)).trans b5; have HBLc := Lib.hid (HBLb.out.trans (hbc.mono HBLb.out.size)); have HEc := Lib.hid (HEb.out.below hbc); have HFc := Lib.hid (HFb.out.below hbc); clear hbc)
          | (go_at_call 14; refine (HC4.out _).mono ?_; rintro r Wd ⟨rfl, hbd⟩; have d0 := (hbd.cell (p := ⟨w.heap.size, 0, none⟩) (World.block_lt_of_cell? _ _ c0)).trans c0; have d1 := (hbd.cell (p := ⟨w.heap.size, 1, none⟩) (World.block_lt_of_cell? _ _ c1)).trans c1; have d2 := (hbd.cell (p := ⟨w.heap.size, 2, none⟩) (World.block_lt_of_cell? _ _ c2)).trans c2; have d3 := (hbd.cell (p := ⟨w.heap.size, 3, none⟩) (World.block_lt_of_cell? _ _ c3)).trans c3; have d4 := (hbd.cell (p := ⟨w.heap.size, 4, none⟩) (World.block_lt_of_cell? _ _ c4)).trans c4; have d5 := (hbd.cell (p := ⟨w.heap.size, 5, none⟩) (World.block_lt_of_cell? _ _ c5)).trans c5; have HBLd := Lib.hid (HBLc.out.trans (hbd.mono HBLc.out.size)); have HEd := Lib.hid (HEc.out.below hbd); have HFd := Lib.hid (HFc.out.below hbd); clear hbd)))
      clear q0 q1 q2 q3 q4 q5 a0 a1 a2 a3 a4 a5 b0 b1 b2 b3 b4 b5 c0 c1 c2 c3 c4 c5 nb nr
      go_wp2_with fail
      refine (HC9.out _ HEd.out HT.out.ok HT.out.few).mono ?_
      rintro r Wf ⟨rfl, hbf⟩
      have f0 := (hbf.cell (p := ⟨w.heap.size, 0, none⟩) (World.block_lt_of_cell? _ _ d0)).trans d0
      have f1 := (hbf.cell (p := ⟨w.heap.size, 1, none⟩) (World.block_lt_of_cell? _ _ d1)).trans d1
      have f2 := (hbf.cell (p := ⟨w.heap.size, 2, none⟩) (World.block_lt_of_cell? _ _ d2)).trans d2
      have f3 := (hbf.cell (p := ⟨w.heap.size, 3, none⟩) (World.block_lt_of_cell? _ _ d3)).trans d3
      have f4 := (hbf.cell (p := ⟨w.heap.size, 4, none⟩) (World.block_lt_of_cell? _ _ d4)).trans d4
      have f5 := (hbf.cell (p := ⟨w.heap.size, 5, none⟩) (World.block_lt_of_cell? _ _ d5)).trans d5
      have HBLf := Lib.hid (HBLd.out.trans (hbf.mono HBLd.out.size))
      have HEf := Lib.hid (HEd.out.below hbf)
      have HFf := Lib.hid (HFd.out.below hbf)
      clear hbf
      go_wp2_with fail
      refine (lawNum xn _).mono ?_
      rintro r w' ⟨rfl, rfl⟩
      by_cases hx : xn = 0
      · subst hx
        cases rt with
        | false =>
          go_wp2_with fail
          refine (HC4.out _).mono ?_
          rintro r Wg ⟨rfl, hbg⟩
          have g0 := (hbg.cell (p := ⟨w.heap.size, 0, none⟩) (World.block_lt_of_cell? _ _ f0)).trans f0
          have g1 := (hbg.cell (p := ⟨w.heap.size, 1, none⟩) (World.block_lt_of_cell? _ _ f1)).trans f1
          have g2 := (hbg.cell (p := ⟨w.heap.size, 2, none⟩) (World.block_lt_of_cell? _ _ f2)).trans f2
          have g3 := (hbg.cell (p := ⟨w.heap.size, 3, none⟩) (World.block_lt_of_cell? _ _ f3)).trans f3
          have g4 := (hbg.cell (p := ⟨w.heap.size, 4, none⟩) (World.block_lt_of_cell? _ _ f4)).trans f4
          have g5 := (hbg.cell (p := ⟨w.heap.size, 5, none⟩) (World.block_lt_of_cell? _ _ f5)).trans f5
          have HBLg := Lib.hid (HBLf.out.trans (hbg.mono HBLf.out.size))
          have HEg := Lib.hid (HEf.out.below hbg)
          clear hbg
          go_wp2_with fail
          refine (live_any _).mono ?_
          rintro r W1 ⟨rfl, hb1⟩
          have HB1 := Lib.hid (HBLg.out.trans (hb1.mono HBLg.out.size))
          clear hb1
          go_wp2_with fail
          go_ret
          exact ⟨rfl, HB1.out⟩
        | true =>
          go_wp2_with fail
          refine (HC4.out _).mono ?_
          rintro r Wg ⟨rfl, hbg⟩
          have g0 := (hbg.cell (p := ⟨w.heap.size, 0, none⟩) (World.block_lt_of_cell? _ _ f0)).trans f0
          have g1 := (hbg.cell (p := ⟨w.heap.size, 1, none⟩) (World.block_lt_of_cell? _ _ f1)).trans f1
          have g2 := (hbg.cell (p := ⟨w.heap.size, 2, none⟩) (World.block_lt_of_cell? _ _ f2)).trans f2
          have g3 := (hbg.cell (p := ⟨w.heap.size, 3, none⟩) (World.block_lt_of_cell? _ _ f3)).trans f3
          have g4 := (hbg.cell (p := ⟨w.heap.size, 4, none⟩) (World.block_lt_of_cell? _ _ f4)).trans f4
          have g5 := (hbg.cell (p := ⟨w.heap.size, 5, none⟩) (World.block_lt_of_cell? _ _ f5)).trans f5
          have HBLg := Lib.hid (HBLf.out.trans (hbg.mono HBLf.out.size))
          have HEg := Lib.hid (HEf.out.below hbg)
          clear hbg
          clear f0 f1 f2 f3 f4 f5
          cases ru with
          | false =>
            go_wp2_with fail
            refine (HC5.out _).mono ?_
            rintro r Wh ⟨rfl, hbh⟩
            have h0 := (hbh.cell (p := ⟨w.heap.size, 0, none⟩) (World.block_lt_of_cell? _ _ g0)).trans g0
            have h1 := (hbh.cell (p := ⟨w.heap.size, 1, none⟩) (World.block_lt_of_cell? _ _ g1)).trans g1
            have h2 := (hbh.cell (p := ⟨w.heap.size, 2, none⟩) (World.block_lt_of_cell? _ _ g2)).trans g2
            have h3 := (hbh.cell (p := ⟨w.heap.size, 3, none⟩) (World.block_lt_of_cell? _ _ g3)).trans g3
            have h4 := (hbh.cell (p := ⟨w.heap.size, 4, none⟩) (World.block_lt_of_cell? _ _ g4)).trans g4
            have h5 := (hbh.cell (p := ⟨w.heap.size, 5, none⟩) (World.block_lt_of_cell? _ _ g5)).trans g5
            have HBLh := Lib.hid (HBLg.out.trans (hbh.mono HBLg.out.size))
            have HEh := Lib.hid (HEg.out.below hbh)
            clear hbh
            go_wp2_with fail
            refine (live_any _).mono ?_
            rintro r W1 ⟨rfl, hb1⟩
            have HB1 := Lib.hid (HBLh.out.trans (hb1.mono HBLh.out.size))
            clear hb1
            go_wp2_with fail
            go_ret
            exact ⟨rfl, HB1.out⟩
          | true =>
            go_wp2_with fail
            refine (HC5.out _).mono ?_
            rintro r Wh ⟨rfl, hbh⟩
            have h0 := (hbh.cell (p := ⟨w.heap.size, 0, none⟩) (World.block_lt_of_cell? _ _ g0)).trans g0
            have h1 := (hbh.cell (p := ⟨w.heap.size, 1, none⟩) (World.block_lt_of_cell? _ _ g1)).trans g1
            have h2 := (hbh.cell (p := ⟨w.heap.size, 2, none⟩) (World.block_lt_of_cell? _ _ g2)).trans g2
            have h3 := (hbh.cell (p := ⟨w.heap.size, 3, none⟩) (World.block_lt_of_cell? _ _ g3)).trans g3
            have h4 := (hbh.cell (p := ⟨w.heap.size, 4, none⟩) (World.block_lt_of_cell? _ _ g4)).trans g4
            have h5 := (hbh.cell (p := ⟨w.heap.size, 5, none⟩) (World.block_lt_of_cell? _ _ g5)).trans g5
            have HBLh := Lib.hid (HBLg.out.trans (hbh.mono HBLg.out.size))
            have HEh := Lib.hid (HEg.out.below hbh)
            clear hbh
            clear g0 g1 g2 g3 g4 g5
            have hsm := HSAME.out (by simp) (by simp) (by simp)
            have htx := HTEXT.out (by simp) (by simp) (by simp)
            clear HSAME HTEXT HC4 HC5
            by_cases heq : k = k' ∧ e = e' ∧ l = l'
            · rw [decide_eq_true heq] at hsm htx
              obtain ⟨rfl, rfl, rfl⟩ := heq
              subst hsm
              go_wp2_with fail
              go_region_held3 (fun W => W.cell? ⟨w.heap.size, 0, none⟩ = some (.int .i64 k) ∧ W.cell? ⟨w.heap.size, 1, none⟩ = some (.int .i64 e) ∧ W.cell? ⟨w.heap.size, 2, none⟩ = some (.int .i64 l) ∧ W.cell? ⟨w.heap.size, 3, none⟩ = some (.int .i64 k) ∧ W.cell? ⟨w.heap.size, 4, none⟩ = some (.int .i64 e) ∧ W.cell? ⟨w.heap.size, 5, none⟩ = some (.int .i64 l)) (first | exact ⟨h0, h1, h2, h3, h4, h5⟩ | exact ⟨i0, i1, i2, i3, i4, i5⟩ | exact ⟨j0, j1, j2, j3, j4, j5⟩ | exact ⟨x0, x1, x2, x3, x4, x5⟩ | exact ⟨y0, y1, y2, y3, y4, y5⟩)
                ((first
                  | (go_at_call 22; refine (HC6.out _ (HEh.out.drewN 1)).mono ?_; clear HC6; rintro r Wi ⟨rfl, hbi⟩; have i0 := (hbi.cell (p := ⟨w.heap.size, 0, none⟩) (World.block_lt_of_cell? _ _ h0)).trans h0; have i1 := (hbi.cell (p := ⟨w.heap.size, 1, none⟩) (World.block_lt_of_cell? _ _ h1)).trans h1; have i2 := (hbi.cell (p := ⟨w.heap.size, 2, none⟩) (World.block_lt_of_cell? _ _ h2)).trans h2; have i3 := (hbi.cell (p := ⟨w.heap.size, 3, none⟩) (World.block_lt_of_cell? _ _ h3)).trans h3; have i4 := (hbi.cell (p := ⟨w.heap.size, 4, none⟩) (World.block_lt_of_cell? _ _ h4)).trans h4; have i5 := (hbi.cell (p := ⟨w.heap.size, 5, none⟩) (World.block_lt_of_cell? _ _ h5)).trans h5; have HBLi := Lib.hid ((below_drewN HBLh.out 1).trans (hbi.mono (below_drewN HBLh.out 1).size)); have HEi := Lib.hid ((HEh.out.drewN 1).below hbi); clear hbi)
                  | (go_at_call 20; refine (HC7.out _ HEi.out HT.out.short).mono ?_; clear HC7; rintro r Wj ⟨rfl, hbj⟩; have j0 := (hbj.cell (p := ⟨w.heap.size, 0, none⟩) (World.block_lt_of_cell? _ _ i0)).trans i0; have j1 := (hbj.cell (p := ⟨w.heap.size, 1, none⟩) (World.block_lt_of_cell? _ _ i1)).trans i1; have j2 := (hbj.cell (p := ⟨w.heap.size, 2, none⟩) (World.block_lt_of_cell? _ _ i2)).trans i2; have j3 := (hbj.cell (p := ⟨w.heap.size, 3, none⟩) (World.block_lt_of_cell? _ _ i3)).trans i3; have j4 := (hbj.cell (p := ⟨w.heap.size, 4, none⟩) (World.block_lt_of_cell? _ _ i4)).trans i4; have j5 := (hbj.cell (p := ⟨w.heap.size, 5, none⟩) (World.block_lt_of_cell? _ _ i5)).trans i5; have HBLj := Lib.hid (HBLi.out.trans (hbj.mono HBLi.out.size)); have HEj := Lib.hid (HEi.out.below hbj); clear hbj)
                  | (go_at_call 20; refine (HC8.out _ HEj.out HT.out.short).mono ?_; clear HC8; rintro r Wx ⟨rfl, hbx⟩; have x0 := (hbx.cell (p := ⟨w.heap.size, 0, none⟩) (World.block_lt_of_cell? _ _ j0)).trans j0; have x1 := (hbx.cell (p := ⟨w.heap.size, 1, none⟩) (World.block_lt_of_cell? _ _ j1)).trans j1; have x2 := (hbx.cell (p := ⟨w.heap.size, 2, none⟩) (World.block_lt_of_cell? _ _ j2)).trans j2; have x3 := (hbx.cell (p := ⟨w.heap.size, 3, none⟩) (World.block_lt_of_cell? _ _ j3)).trans j3; have x4 := (hbx.cell (p := ⟨w.heap.size, 4, none⟩) (World.block_lt_of_cell? _ _ j4)).trans j4; have x5 := (hbx.cell (p := ⟨w.heap.size, 5, none⟩) (World.block_lt_of_cell? _ _ j5)).trans j5; have HBLx := Lib.hid (HBLj.out.trans (hbx.mono HBLj.out.size)); have HEx := Lib.hid (HEj.out.below hbx); clear hbx)
                  | (go_at_call 8; refine (live_any _).mono ?_; rintro r Wy ⟨rfl, hby⟩; have y0 := (hby.cell (p := ⟨w.heap.size, 0, none⟩) (World.block_lt_of_cell? _ _ x0)).trans x0; have y1 := (hby.cell (p := ⟨w.heap.size, 1, none⟩) (World.block_lt_of_cell? _ _ x1)).trans x1; have y2 := (hby.cell (p := ⟨w.heap.size, 2, none⟩) (World.block_lt_of_cell? _ _ x2)).trans x2; have y3 := (hby.cell (p := ⟨w.heap.size, 3, none⟩) (World.block_lt_of_cell? _ _ x3)).trans x3; have y4 := (hby.cell (p := ⟨w.heap.size, 4, none⟩) (World.block_lt_of_cell? _ _ x4)).trans x4; have y5 := (hby.cell (p := ⟨w.heap.size, 5, none⟩) (World.block_lt_of_cell? _ _ x5)).trans x5; have HBLy := Lib.hid (HBLx.out.trans (hby.mono HBLx.out.size)); have HEy := Lib.hid (HEx.out.below hby); clear hby)))
              go_wp2_with fail
              go_ret
              exact ⟨rfl, HBLy.out⟩
            · rw [decide_eq_false heq] at hsm htx
              subst hsm
              by_cases hk : k = k'
              · subst hk
                by_cases he : e = e'
                · subst he
                  have hl : ¬ l = l' := fun h => heq ⟨rfl, rfl, h⟩
                  have hb : (l == l') = false := by simpa using hl
                  clear heq
                  go_wp2_with fail
                  go_region_held3 (fun W => W.cell? ⟨w.heap.size, 0, none⟩ = some (.int .i64 k) ∧ W.cell? ⟨w.heap.size, 1, none⟩ = some (.int .i64 e) ∧ W.cell? ⟨w.heap.size, 2, none⟩ = some (.int .i64 l) ∧ W.cell? ⟨w.heap.size, 3, none⟩ = some (.int .i64 k) ∧ W.cell? ⟨w.heap.size, 4, none⟩ = some (.int .i64 e) ∧ W.cell? ⟨w.heap.size, 5, none⟩ = some (.int .i64 l')) (first | exact ⟨h0, h1, h2, h3, h4, h5⟩ | exact ⟨i0, i1, i2, i3, i4, i5⟩ | exact ⟨j0, j1, j2, j3, j4, j5⟩ | exact ⟨x0, x1, x2, x3, x4, x5⟩ | exact ⟨y0, y1, y2, y3, y4, y5⟩)
                    ((first
                      | (go_at_call 22; refine (HC6.out _ (HEh.out.drewN 1)).mono ?_; clear HC6; rintro r Wi ⟨rfl, hbi⟩; have i0 := (hbi.cell (p := ⟨w.heap.size, 0, none⟩) (World.block_lt_of_cell? _ _ h0)).trans h0; have i1 := (hbi.cell (p := ⟨w.heap.size, 1, none⟩) (World.block_lt_of_cell? _ _ h1)).trans h1; have i2 := (hbi.cell (p := ⟨w.heap.size, 2, none⟩) (World.block_lt_of_cell? _ _ h2)).trans h2; have i3 := (hbi.cell (p := ⟨w.heap.size, 3, none⟩) (World.block_lt_of_cell? _ _ h3)).trans h3; have i4 := (hbi.cell (p := ⟨w.heap.size, 4, none⟩) (World.block_lt_of_cell? _ _ h4)).trans h4; have i5 := (hbi.cell (p := ⟨w.heap.size, 5, none⟩) (World.block_lt_of_cell? _ _ h5)).trans h5; have HBLi := Lib.hid ((below_drewN HBLh.out 1).trans (hbi.mono (below_drewN HBLh.out 1).size)); have HEi := Lib.hid ((HEh.out.drewN 1).below hbi); clear hbi)
                      | (go_at_call 20; refine (HC7.out _ HEi.out HT.out.short).mono ?_; clear HC7; rintro r Wj ⟨rfl, hbj⟩; have j0 := (hbj.cell (p := ⟨w.heap.size, 0, none⟩) (World.block_lt_of_cell? _ _ i0)).trans i0; have j1 := (hbj.cell (p := ⟨w.heap.size, 1, none⟩) (World.block_lt_of_cell? _ _ i1)).trans i1; have j2 := (hbj.cell (p := ⟨w.heap.size, 2, none⟩) (World.block_lt_of_cell? _ _ i2)).trans i2; have j3 := (hbj.cell (p := ⟨w.heap.size, 3, none⟩) (World.block_lt_of_cell? _ _ i3)).trans i3; have j4 := (hbj.cell (p := ⟨w.heap.size, 4, none⟩) (World.block_lt_of_cell? _ _ i4)).trans i4; have j5 := (hbj.cell (p := ⟨w.heap.size, 5, none⟩) (World.block_lt_of_cell? _ _ i5)).trans i5; have HBLj := Lib.hid (HBLi.out.trans (hbj.mono HBLi.out.size)); have HEj := Lib.hid (HEi.out.below hbj); clear hbj)
                      | (go_at_call 20; refine (HC8.out _ HEj.out HT.out.short).mono ?_; clear HC8; rintro r Wx ⟨rfl, hbx⟩; have x0 := (hbx.cell (p := ⟨w.heap.size, 0, none⟩) (World.block_lt_of_cell? _ _ j0)).trans j0; have x1 := (hbx.cell (p := ⟨w.heap.size, 1, none⟩) (World.block_lt_of_cell? _ _ j1)).trans j1; have x2 := (hbx.cell (p := ⟨w.heap.size, 2, none⟩) (World.block_lt_of_cell? _ _ j2)).trans j2; have x3 := (hbx.cell (p := ⟨w.heap.size, 3, none⟩) (World.block_lt_of_cell? _ _ j3)).trans j3; have x4 := (hbx.cell (p := ⟨w.heap.size, 4, none⟩) (World.block_lt_of_cell? _ _ j4)).trans j4; have x5 := (hbx.cell (p := ⟨w.heap.size, 5, none⟩) (World.block_lt_of_cell? _ _ j5)).trans j5; have HBLx := Lib.hid (HBLj.out.trans (hbx.mono HBLj.out.size)); have HEx := Lib.hid (HEj.out.below hbx); clear hbx)
                      | (go_at_call 8; refine (live_any _).mono ?_; rintro r Wy ⟨rfl, hby⟩; have y0 := (hby.cell (p := ⟨w.heap.size, 0, none⟩) (World.block_lt_of_cell? _ _ x0)).trans x0; have y1 := (hby.cell (p := ⟨w.heap.size, 1, none⟩) (World.block_lt_of_cell? _ _ x1)).trans x1; have y2 := (hby.cell (p := ⟨w.heap.size, 2, none⟩) (World.block_lt_of_cell? _ _ x2)).trans x2; have y3 := (hby.cell (p := ⟨w.heap.size, 3, none⟩) (World.block_lt_of_cell? _ _ x3)).trans x3; have y4 := (hby.cell (p := ⟨w.heap.size, 4, none⟩) (World.block_lt_of_cell? _ _ x4)).trans x4; have y5 := (hby.cell (p := ⟨w.heap.size, 5, none⟩) (World.block_lt_of_cell? _ _ x5)).trans x5; have HBLy := Lib.hid (HBLx.out.trans (hby.mono HBLx.out.size)); have HEy := Lib.hid (HEx.out.below hby); clear hby)))
                  go_wp2_with fail
                  go_ret
                  exact ⟨rfl, HBLy.out⟩
                · have hb : (e == e') = false := by simpa using he
                  clear heq
                  go_wp2_with fail
                  go_region_held3 (fun W => W.cell? ⟨w.heap.size, 0, none⟩ = some (.int .i64 k) ∧ W.cell? ⟨w.heap.size, 1, none⟩ = some (.int .i64 e) ∧ W.cell? ⟨w.heap.size, 2, none⟩ = some (.int .i64 l) ∧ W.cell? ⟨w.heap.size, 3, none⟩ = some (.int .i64 k) ∧ W.cell? ⟨w.heap.size, 4, none⟩ = some (.int .i64 e') ∧ W.cell? ⟨w.heap.size, 5, none⟩ = some (.int .i64 l')) (first | exact ⟨h0, h1, h2, h3, h4, h5⟩ | exact ⟨i0, i1, i2, i3, i4, i5⟩ | exact ⟨j0, j1, j2, j3, j4, j5⟩ | exact ⟨x0, x1, x2, x3, x4, x5⟩ | exact ⟨y0, y1, y2, y3, y4, y5⟩)
                    ((first
                      | (go_at_call 22; refine (HC6.out _ (HEh.out.drewN 1)).mono ?_; clear HC6; rintro r Wi ⟨rfl, hbi⟩; have i0 := (hbi.cell (p := ⟨w.heap.size, 0, none⟩) (World.block_lt_of_cell? _ _ h0)).trans h0; have i1 := (hbi.cell (p := ⟨w.heap.size, 1, none⟩) (World.block_lt_of_cell? _ _ h1)).trans h1; have i2 := (hbi.cell (p := ⟨w.heap.size, 2, none⟩) (World.block_lt_of_cell? _ _ h2)).trans h2; have i3 := (hbi.cell (p := ⟨w.heap.size, 3, none⟩) (World.block_lt_of_cell? _ _ h3)).trans h3; have i4 := (hbi.cell (p := ⟨w.heap.size, 4, none⟩) (World.block_lt_of_cell? _ _ h4)).trans h4; have i5 := (hbi.cell (p := ⟨w.heap.size, 5, none⟩) (World.block_lt_of_cell? _ _ h5)).trans h5; have HBLi := Lib.hid ((below_drewN HBLh.out 1).trans (hbi.mono (below_drewN HBLh.out 1).size)); have HEi := Lib.hid ((HEh.out.drewN 1).below hbi); clear hbi)
                      | (go_at_call 20; refine (HC7.out _ HEi.out HT.out.short).mono ?_; clear HC7; rintro r Wj ⟨rfl, hbj⟩; have j0 := (hbj.cell (p := ⟨w.heap.size, 0, none⟩) (World.block_lt_of_cell? _ _ i0)).trans i0; have j1 := (hbj.cell (p := ⟨w.heap.size, 1, none⟩) (World.block_lt_of_cell? _ _ i1)).trans i1; have j2 := (hbj.cell (p := ⟨w.heap.size, 2, none⟩) (World.block_lt_of_cell? _ _ i2)).trans i2; have j3 := (hbj.cell (p := ⟨w.heap.size, 3, none⟩) (World.block_lt_of_cell? _ _ i3)).trans i3; have j4 := (hbj.cell (p := ⟨w.heap.size, 4, none⟩) (World.block_lt_of_cell? _ _ i4)).trans i4; have j5 := (hbj.cell (p := ⟨w.heap.size, 5, none⟩) (World.block_lt_of_cell? _ _ i5)).trans i5; have HBLj := Lib.hid (HBLi.out.trans (hbj.mono HBLi.out.size)); have HEj := Lib.hid (HEi.out.below hbj); clear hbj)
                      | (go_at_call 20; refine (HC8.out _ HEj.out HT.out.short).mono ?_; clear HC8; rintro r Wx ⟨rfl, hbx⟩; have x0 := (hbx.cell (p := ⟨w.heap.size, 0, none⟩) (World.block_lt_of_cell? _ _ j0)).trans j0; have x1 := (hbx.cell (p := ⟨w.heap.size, 1, none⟩) (World.block_lt_of_cell? _ _ j1)).trans j1; have x2 := (hbx.cell (p := ⟨w.heap.size, 2, none⟩) (World.block_lt_of_cell? _ _ j2)).trans j2; have x3 := (hbx.cell (p := ⟨w.heap.size, 3, none⟩) (World.block_lt_of_cell? _ _ j3)).trans j3; have x4 := (hbx.cell (p := ⟨w.heap.size, 4, none⟩) (World.block_lt_of_cell? _ _ j4)).trans j4; have x5 := (hbx.cell (p := ⟨w.heap.size, 5, none⟩) (World.block_lt_of_cell? _ _ j5)).trans j5; have HBLx := Lib.hid (HBLj.out.trans (hbx.mono HBLj.out.size)); have HEx := Lib.hid (HEj.out.below hbx); clear hbx)
                      | (go_at_call 8; refine (live_any _).mono ?_; rintro r Wy ⟨rfl, hby⟩; have y0 := (hby.cell (p := ⟨w.heap.size, 0, none⟩) (World.block_lt_of_cell? _ _ x0)).trans x0; have y1 := (hby.cell (p := ⟨w.heap.size, 1, none⟩) (World.block_lt_of_cell? _ _ x1)).trans x1; have y2 := (hby.cell (p := ⟨w.heap.size, 2, none⟩) (World.block_lt_of_cell? _ _ x2)).trans x2; have y3 := (hby.cell (p := ⟨w.heap.size, 3, none⟩) (World.block_lt_of_cell? _ _ x3)).trans x3; have y4 := (hby.cell (p := ⟨w.heap.size, 4, none⟩) (World.block_lt_of_cell? _ _ x4)).trans x4; have y5 := (hby.cell (p := ⟨w.heap.size, 5, none⟩) (World.block_lt_of_cell? _ _ x5)).trans x5; have HBLy := Lib.hid (HBLx.out.trans (hby.mono HBLx.out.size)); have HEy := Lib.hid (HEx.out.below hby); clear hby)))
                  go_wp2_with fail
                  go_ret
                  exact ⟨rfl, HBLy.out⟩
              · have hb : (k == k') = false := by simpa using hk
                clear heq
                go_wp2_with fail
                go_region_held3 (fun W => W.cell? ⟨w.heap.size, 0, none⟩ = some (.int .i64 k) ∧ W.cell? ⟨w.heap.size, 1, none⟩ = some (.int .i64 e) ∧ W.cell? ⟨w.heap.size, 2, none⟩ = some (.int .i64 l) ∧ W.cell? ⟨w.heap.size, 3, none⟩ = some (.int .i64 k') ∧ W.cell? ⟨w.heap.size, 4, none⟩ = some (.int .i64 e') ∧ W.cell? ⟨w.heap.size, 5, none⟩ = some (.int .i64 l')) (first | exact ⟨h0, h1, h2, h3, h4, h5⟩ | exact ⟨i0, i1, i2, i3, i4, i5⟩ | exact ⟨j0, j1, j2, j3, j4, j5⟩ | exact ⟨x0, x1, x2, x3, x4, x5⟩ | exact ⟨y0, y1, y2, y3, y4, y5⟩)
                  ((first
                    | (go_at_call 22; refine (HC6.out _ (HEh.out.drewN 1)).mono ?_; clear HC6; rintro r Wi ⟨rfl, hbi⟩; have i0 := (hbi.cell (p := ⟨w.heap.size, 0, none⟩) (World.block_lt_of_cell? _ _ h0)).trans h0; have i1 := (hbi.cell (p := ⟨w.heap.size, 1, none⟩) (World.block_lt_of_cell? _ _ h1)).trans h1; have i2 := (hbi.cell (p := ⟨w.heap.size, 2, none⟩) (World.block_lt_of_cell? _ _ h2)).trans h2; have i3 := (hbi.cell (p := ⟨w.heap.size, 3, none⟩) (World.block_lt_of_cell? _ _ h3)).trans h3; have i4 := (hbi.cell (p := ⟨w.heap.size, 4, none⟩) (World.block_lt_of_cell? _ _ h4)).trans h4; have i5 := (hbi.cell (p := ⟨w.heap.size, 5, none⟩) (World.block_lt_of_cell? _ _ h5)).trans h5; have HBLi := Lib.hid ((below_drewN HBLh.out 1).trans (hbi.mono (below_drewN HBLh.out 1).size)); have HEi := Lib.hid ((HEh.out.drewN 1).below hbi); clear hbi)
                    | (go_at_call 20; refine (HC7.out _ HEi.out HT.out.short).mono ?_; clear HC7; rintro r Wj ⟨rfl, hbj⟩; have j0 := (hbj.cell (p := ⟨w.heap.size, 0, none⟩) (World.block_lt_of_cell? _ _ i0)).trans i0; have j1 := (hbj.cell (p := ⟨w.heap.size, 1, none⟩) (World.block_lt_of_cell? _ _ i1)).trans i1; have j2 := (hbj.cell (p := ⟨w.heap.size, 2, none⟩) (World.block_lt_of_cell? _ _ i2)).trans i2; have j3 := (hbj.cell (p := ⟨w.heap.size, 3, none⟩) (World.block_lt_of_cell? _ _ i3)).trans i3; have j4 := (hbj.cell (p := ⟨w.heap.size, 4, none⟩) (World.block_lt_of_cell? _ _ i4)).trans i4; have j5 := (hbj.cell (p := ⟨w.heap.size, 5, none⟩) (World.block_lt_of_cell? _ _ i5)).trans i5; have HBLj := Lib.hid (HBLi.out.trans (hbj.mono HBLi.out.size)); have HEj := Lib.hid (HEi.out.below hbj); clear hbj)
                    | (go_at_call 20; refine (HC8.out _ HEj.out HT.out.short).mono ?_; clear HC8; rintro r Wx ⟨rfl, hbx⟩; have x0 := (hbx.cell (p := ⟨w.heap.size, 0, none⟩) (World.block_lt_of_cell? _ _ j0)).trans j0; have x1 := (hbx.cell (p := ⟨w.heap.size, 1, none⟩) (World.block_lt_of_cell? _ _ j1)).trans j1; have x2 := (hbx.cell (p := ⟨w.heap.size, 2, none⟩) (World.block_lt_of_cell? _ _ j2)).trans j2; have x3 := (hbx.cell (p := ⟨w.heap.size, 3, none⟩) (World.block_lt_of_cell? _ _ j3)).trans j3; have x4 := (hbx.cell (p := ⟨w.heap.size, 4, none⟩) (World.block_lt_of_cell? _ _ j4)).trans j4; have x5 := (hbx.cell (p := ⟨w.heap.size, 5, none⟩) (World.block_lt_of_cell? _ _ j5)).trans j5; have HBLx := Lib.hid (HBLj.out.trans (hbx.mono HBLj.out.size)); have HEx := Lib.hid (HEj.out.below hbx); clear hbx)
                    | (go_at_call 8; refine (live_any _).mono ?_; rintro r Wy ⟨rfl, hby⟩; have y0 := (hby.cell (p := ⟨w.heap.size, 0, none⟩) (World.block_lt_of_cell? _ _ x0)).trans x0; have y1 := (hby.cell (p := ⟨w.heap.size, 1, none⟩) (World.block_lt_of_cell? _ _ x1)).trans x1; have y2 := (hby.cell (p := ⟨w.heap.size, 2, none⟩) (World.block_lt_of_cell? _ _ x2)).trans x2; have y3 := (hby.cell (p := ⟨w.heap.size, 3, none⟩) (World.block_lt_of_cell? _ _ x3)).trans x3; have y4 := (hby.cell (p := ⟨w.heap.size, 4, none⟩) (World.block_lt_of_cell? _ _ x4)).trans x4; have y5 := (hby.cell (p := ⟨w.heap.size, 5, none⟩) (World.block_lt_of_cell? _ _ x5)).trans x5; have HBLy := Lib.hid (HBLx.out.trans (hby.mono HBLx.out.size)); have HEy := Lib.hid (HEx.out.below hby); clear hby)))
                go_wp2_with fail
                go_ret
                exact ⟨rfl, HBLy.out⟩
      · have hxb : (xn != 0) = true := by simpa using hx
        go_wp2_with fail
        refine (live_any _).mono ?_
        rintro r W1 ⟨rfl, hb1⟩
        have HB1 := Lib.hid (HBLf.out.trans (hb1.mono HBLf.out.size))
        clear hb1
        go_wp2_with fail
        go_ret
        exact ⟨rfl, HB1.out⟩
end Go.Proofs.YtccpihpfpobjpaaDoor
