/- The walk of ValApart. Conditions: the powers of ten lie as laid. -/
import Derived.Test.YtdnmnfpcgbbplaaDoorVaL
import Derived.Lib.QuietBelow
namespace Go.Proofs.YtdnmnfpcgbbplaaDoor
open Go.RowKit Go.Sort
set_option linter.unusedVariables false

set_option maxRecDepth 100000 in
set_option maxHeartbeats 8000000 in
theorem walkApart (A : Option Addr) (n c : Nat) (es : List En) (k e l : Int) (B : Option Addr) (m d : Nat) (zs : List Int) (B' : Option Addr) (m' d' : Nat) (ys : List Int) (w : World) (hE : RdE w A n es) (hV : Rd .i64 w B m d zs) (hV' : Rd .i64 w B' m' d' ys) (hTab : Tab w) :
    Calls Tryd.prog 5 #[.slice A n c, tyV k e l, .agg #[.slice B m d, .slice B' m' d']] w fun r w' => r = .returned (.bool true) ∧ Below w.heap.size w w' := by
  have hen := hE.len
  have hemx := hE.max
  have HB := Lib.hid (((Below.refl w.heap.size w).alloc (Nat.le_refl _) (.cells #[.int .i64 k, .int .i64 e, .int .i64 l] 24)).alloc (by simp) (.cells #[.slice B m d, .slice B' m' d'] 34))
  have hq : ∀ j v, (w.alloc (.cells #[.int .i64 k, .int .i64 e, .int .i64 l] 24)).cell? ⟨w.heap.size, j, none⟩ = some v → ((w.alloc (.cells #[.int .i64 k, .int .i64 e, .int .i64 l] 24)).alloc (.cells #[.slice B m d, .slice B' m' d'] 34)).cell? ⟨w.heap.size, j, none⟩ = some v := fun j v h => (((Below.refl _ (w.alloc (.cells #[.int .i64 k, .int .i64 e, .int .i64 l] 24))).alloc (Nat.le_refl _) _).cell (p := ⟨w.heap.size, j, none⟩) (by simp)).trans h
  have q0 := hq 0 _ (cell3 w 24 (.int .i64 k) (.int .i64 e) (.int .i64 l)).1
  have q1 := hq 1 _ (cell3 w 24 (.int .i64 k) (.int .i64 e) (.int .i64 l)).2.1
  have q2 := hq 2 _ (cell3 w 24 (.int .i64 k) (.int .i64 e) (.int .i64 l)).2.2
  have q3 : ((w.alloc (.cells #[.int .i64 k, .int .i64 e, .int .i64 l] 24)).alloc (.cells #[.slice B m d, .slice B' m' d'] 34)).cell? ⟨w.heap.size + 1, 0, none⟩ = some (.slice B m d) := by simp [go_sem]
  have q4 : ((w.alloc (.cells #[.int .i64 k, .int .i64 e, .int .i64 l] 24)).alloc (.cells #[.slice B m d, .slice B' m' d'] 34)).cell? ⟨w.heap.size + 1, 1, none⟩ = some (.slice B' m' d') := by simp [go_sem]
  have Q := Lib.hid (And.intro q0 (And.intro q1 (And.intro q2 (And.intro q3 q4))))
  have HE := Lib.hid hE
  have HV := Lib.hid hV
  have HV' := Lib.hid hV'
  have HTB := Lib.hid hTab
  have hmx := hV.max
  have hmx' := hV'.max
  have HRT := Lib.hid fun (W : World) => refRight A n c k e l W hemx
  rw [show rightB n k e l = rightB es.length k e l by rw [hen]] at HRT
  have HEN0 := Lib.hid fun (W : World) (h1 : RdE W A n es) (h2 : EsOk es) (h3 : EsFew es) => refEnums A n c es W h1 h2 h3
  have HC1 := Lib.hid fun (W : World) (h1 : RdE W A n es) (h2 : Rd .i64 W B m d zs) => valRight A n c es B m d zs k e l W h1 h2
  have HC2 := Lib.hid fun (W : World) (h1 : RdE W A n es) (h2 : Rd .i64 W B' m' d' ys) => valRight A n c es B' m' d' ys k e l W h1 h2
  have HZ1 := Lib.hid fun (W : World) => (show Calls _ _ _ W (fun r w' => ∃ A c, r = .returned (.slice A (cellsN l).toNat c) ∧ Rd .i64 w' A (cellsN l).toNat c (zerosL l) ∧ Below W.heap.size W w') from valZero k e l W)
  have HCZ := Lib.hid fun (A1 : Option Addr) (c1 : Nat) (W : World) (h1 : RdE W A n es) (h2 : Rd .i64 W A1 (cellsN l).toNat c1 (zerosL l)) => valRight A n c es A1 (cellsN l).toNat c1 (zerosL l) k e l W h1 h2
  have HX1 := Lib.hid fun (W : World) (h1 : RdE W A n es) (h2 : Rd .i64 W B m d zs) (h3 : CtShort es) (h4 : Tab W) => valText A n c es B m d zs k e l W h1 h2 h3 h4
  have HX2 := Lib.hid fun (W : World) (h1 : RdE W A n es) (h2 : Rd .i64 W B' m' d' ys) (h3 : CtShort es) (h4 : Tab W) => valText A n c es B' m' d' ys k e l W h1 h2 h3 h4
  have HVV := Lib.hid fun (W : World) (h1 : Rd .i64 W B m d zs) (h2 : Rd .i64 W B' m' d' ys) => refVals B B' m m' d d' zs ys W h1 h2
  clear hE hV hV' hTab q0 q1 q2 q3 q4 hq
  unfold tyV at HRT HC1 HC2 HZ1 HCZ HX1 HX2 ⊢
  go_enter Tryd.func5, Tryd.ntmps5
  go_wp2_with fail
  refine (refSmall A n c es _ (HE.out.below HB.out)).mono ?_
  rintro r w' ⟨b, rfl, ht, rfl⟩
  cases b with
  | false =>
    clear ht
    go_wp2_with fail
    refine (live_any _ (HTB.out.below HB.out)).mono ?_
    rintro r wL ⟨rfl, hbL⟩
    have HBL := Lib.hid (HB.out.trans (hbL.mono HB.out.size))
    clear hbL
    go_wp2_with fail
    go_ret
    exact ⟨rfl, HBL.out⟩
  | true =>
    have HT := Lib.hid (ht rfl)
    clear ht
    go_wp2_with fail
    refine (HEN0.out _ (HE.out.below HB.out) HT.out.ok HT.out.few).mono ?_
    rintro r w1 ⟨rfl, hb1⟩
    have p0 := (hb1.cell (p := ⟨w.heap.size, 0, none⟩) (World.block_lt_of_cell? _ _ (Q.out.1))).trans (Q.out.1)
    have p1 := (hb1.cell (p := ⟨w.heap.size, 1, none⟩) (World.block_lt_of_cell? _ _ (Q.out.2.1))).trans (Q.out.2.1)
    have p2 := (hb1.cell (p := ⟨w.heap.size, 2, none⟩) (World.block_lt_of_cell? _ _ (Q.out.2.2.1))).trans (Q.out.2.2.1)
    have p3 := (hb1.cell (p := ⟨w.heap.size + 1, 0, none⟩) (World.block_lt_of_cell? _ _ (Q.out.2.2.2.1))).trans (Q.out.2.2.2.1)
    have p4 := (hb1.cell (p := ⟨w.heap.size + 1, 1, none⟩) (World.block_lt_of_cell? _ _ (Q.out.2.2.2.2))).trans (Q.out.2.2.2.2)
    have HB1 := Lib.hid (HB.out.trans (hb1.mono HB.out.size))
    clear hb1
    by_cases hx0 : enumsN es = 0
    · have HEN := Lib.hid hx0
      have hxb : (enumsN es != 0) = false := by simp [bne, hx0]
      generalize enumsN es = xn at hxb
      clear hx0
      by_cases hn : 20 < m
      · go_wp2_with fail
        refine (live_any _ (HTB.out.below HB1.out)).mono ?_
        rintro r wL ⟨rfl, hbL⟩
        have HBL := Lib.hid (HB1.out.trans (hbL.mono HB1.out.size))
        clear hbL
        go_wp2_with fail
        go_ret
        exact ⟨rfl, HBL.out⟩
      · have hd : decide ((20 : Int) < (m : Int)) = false := decide_eq_false (by omega)
        by_cases hn' : 20 < m'
        · go_wp2_with fail
          refine (live_any _ (HTB.out.below HB1.out)).mono ?_
          rintro r wL ⟨rfl, hbL⟩
          have HBL := Lib.hid (HB1.out.trans (hbL.mono HB1.out.size))
          clear hbL
          go_wp2_with fail
          go_ret
          exact ⟨rfl, HBL.out⟩
        · have hd' : decide ((20 : Int) < (m' : Int)) = false := decide_eq_false (by omega)
          have HBLp := Lib.hid (below_drewN HB1.out 1)
          cases hr : rightB es.length k e l with
          | false =>
            rw [hr] at HRT
            clear hr
            go_wp2_with fail
            have cA := fun d os => Calls.regrown_of (HRT.out (grow (redrawn w1 d) os))
            have l0 := fun d os => cell_regrown p0 d os
            have l1 := fun d os => cell_regrown p1 d os
            have l2 := fun d os => cell_regrown p2 d os
            refine wp_region_quiet_below (by kernel_rfl) (by kernel_rfl) ?_
            repeat (quiet_step (exact cA _ _))
            refine wpQuiet_nil ?_
            intro _ hw'
            obtain ⟨⟨dq, osq⟩, hw''⟩ := hw'
            subst hw''
            have t0 := cell_regrown p0 dq osq
            have t1 := cell_regrown p1 dq osq
            have t2 := cell_regrown p2 dq osq
            have t3 := cell_regrown p3 dq osq
            have t4 := cell_regrown p4 dq osq
            have HBLt := Lib.hid (HB1.out.trans ((below_regrown w1 dq osq).mono HB1.out.size))
            clear cA l0 l1 l2
            generalize grow (redrawn w1 dq) osq = wq at t0 t1 t2 t3 t4 HBLt ⊢
            have HBW := HBLt
            clear p0 p1 p2 p3 p4
            have p0 := t0
            have p1 := t1
            have p2 := t2
            have p3 := t3
            have p4 := t4
            clear t0 t1 t2 t3 t4
            cases hz : rightVB es k e l zs with
            | false =>
              rw [hz] at HC1
              go_wp2_with fail
              refine (HC1.out _ (HE.out.below HBW.out) (HV.out.below HBW.out)).mono ?_
              rintro r w5 ⟨rfl, hb5⟩
              have HB5 := Lib.hid (HBW.out.trans (hb5.mono HBW.out.size))
              clear hb5
              go_wp2_with fail
              refine (live_any _ (HTB.out.below HB5.out)).mono ?_
              rintro r wL ⟨rfl, hbL⟩
              have HBL := Lib.hid (HB5.out.trans (hbL.mono HB5.out.size))
              clear hbL
              go_wp2_with fail
              go_ret
              exact ⟨rfl, HBL.out⟩
            | true =>
              rw [hz] at HC1
              go_wp2_with fail
              refine (HC1.out _ (HE.out.below HBW.out) (HV.out.below HBW.out)).mono ?_
              rintro r w5 ⟨rfl, hb5⟩
              have r0 := (hb5.cell (p := ⟨w.heap.size, 0, none⟩) (World.block_lt_of_cell? _ _ p0)).trans p0
              have r1 := (hb5.cell (p := ⟨w.heap.size, 1, none⟩) (World.block_lt_of_cell? _ _ p1)).trans p1
              have r2 := (hb5.cell (p := ⟨w.heap.size, 2, none⟩) (World.block_lt_of_cell? _ _ p2)).trans p2
              have r3 := (hb5.cell (p := ⟨w.heap.size + 1, 0, none⟩) (World.block_lt_of_cell? _ _ p3)).trans p3
              have r4 := (hb5.cell (p := ⟨w.heap.size + 1, 1, none⟩) (World.block_lt_of_cell? _ _ p4)).trans p4
              have HB5 := Lib.hid (HBW.out.trans (hb5.mono HBW.out.size))
              clear hb5
              cases hy : rightVB es k e l ys with
              | false =>
                rw [hy] at HC2
                go_wp2_with fail
                refine (HC2.out _ (HE.out.below HB5.out) (HV'.out.below HB5.out)).mono ?_
                rintro r w6 ⟨rfl, hb6⟩
                have HB6 := Lib.hid (HB5.out.trans (hb6.mono HB5.out.size))
                clear hb6
                go_wp2_with fail
                refine (live_any _ (HTB.out.below HB6.out)).mono ?_
                rintro r wL ⟨rfl, hbL⟩
                have HBL := Lib.hid (HB6.out.trans (hbL.mono HB6.out.size))
                clear hbL
                go_wp2_with fail
                go_ret
                exact ⟨rfl, HBL.out⟩
              | true =>
                rw [hy] at HC2
                go_wp2_with fail
                refine (HC2.out _ (HE.out.below HB5.out) (HV'.out.below HB5.out)).mono ?_
                rintro r w6 ⟨rfl, hb6⟩
                have s0 := (hb6.cell (p := ⟨w.heap.size, 0, none⟩) (World.block_lt_of_cell? _ _ r0)).trans r0
                have s1 := (hb6.cell (p := ⟨w.heap.size, 1, none⟩) (World.block_lt_of_cell? _ _ r1)).trans r1
                have s2 := (hb6.cell (p := ⟨w.heap.size, 2, none⟩) (World.block_lt_of_cell? _ _ r2)).trans r2
                have s3 := (hb6.cell (p := ⟨w.heap.size + 1, 0, none⟩) (World.block_lt_of_cell? _ _ r3)).trans r3
                have s4 := (hb6.cell (p := ⟨w.heap.size + 1, 1, none⟩) (World.block_lt_of_cell? _ _ r4)).trans r4
                have HBLs := Lib.hid (below_drewN (HB5.out.trans (hb6.mono HB5.out.size)) 1)
                have HXY := Lib.hid (text_apart HEN.out hz hy)
                clear hb6 hz hy HC1 HC2
                generalize sameB zs ys = bs at HVV HXY
                generalize valT es k e l zs = x at HX1 HXY
                generalize valT es k e l ys = y at HX2 HXY
                have hxy := HXY.out
                have n1 : (bs == bs) = true := by simp
                go_wp2_with fail
                go_region_held3 (fun W => W.cell? ⟨w.heap.size, 0, none⟩ = some (.int .i64 k) ∧ W.cell? ⟨w.heap.size, 1, none⟩ = some (.int .i64 e) ∧ W.cell? ⟨w.heap.size, 2, none⟩ = some (.int .i64 l) ∧ W.cell? ⟨w.heap.size + 1, 0, none⟩ = some (.slice B m d) ∧ W.cell? ⟨w.heap.size + 1, 1, none⟩ = some (.slice B' m' d')) (first | exact ⟨s0, s1, s2, s3, s4⟩ | exact ⟨a0, a1, a2, a3, a4⟩ | exact ⟨b0, b1, b2, b3, b4⟩ | exact ⟨c0, c1, c2, c3, c4⟩ | exact ⟨d0, d1, d2, d3, d4⟩)
                  ((first
                    | (go_at_call 18; refine (HX1.out _ (HE.out.below HBLs.out) (HV.out.below HBLs.out) HT.out.ct (HTB.out.below HBLs.out)).mono ?_; clear HX1; rintro r Wa ⟨rfl, hba⟩; have a0 := (hba.cell (p := ⟨w.heap.size, 0, none⟩) (World.block_lt_of_cell? _ _ s0)).trans s0; have a1 := (hba.cell (p := ⟨w.heap.size, 1, none⟩) (World.block_lt_of_cell? _ _ s1)).trans s1; have a2 := (hba.cell (p := ⟨w.heap.size, 2, none⟩) (World.block_lt_of_cell? _ _ s2)).trans s2; have a3 := (hba.cell (p := ⟨w.heap.size + 1, 0, none⟩) (World.block_lt_of_cell? _ _ s3)).trans s3; have a4 := (hba.cell (p := ⟨w.heap.size + 1, 1, none⟩) (World.block_lt_of_cell? _ _ s4)).trans s4; have HBLa := Lib.hid (HBLs.out.trans (hba.mono HBLs.out.size)); clear hba)
                    | (go_at_call 18; refine (HX2.out _ (HE.out.below HBLa.out) (HV'.out.below HBLa.out) HT.out.ct (HTB.out.below HBLa.out)).mono ?_; clear HX2; rintro r Wb ⟨rfl, hbb⟩; have b0 := (hbb.cell (p := ⟨w.heap.size, 0, none⟩) (World.block_lt_of_cell? _ _ a0)).trans a0; have b1 := (hbb.cell (p := ⟨w.heap.size, 1, none⟩) (World.block_lt_of_cell? _ _ a1)).trans a1; have b2 := (hbb.cell (p := ⟨w.heap.size, 2, none⟩) (World.block_lt_of_cell? _ _ a2)).trans a2; have b3 := (hbb.cell (p := ⟨w.heap.size + 1, 0, none⟩) (World.block_lt_of_cell? _ _ a3)).trans a3; have b4 := (hbb.cell (p := ⟨w.heap.size + 1, 1, none⟩) (World.block_lt_of_cell? _ _ a4)).trans a4; have HBLb := Lib.hid (HBLa.out.trans (hbb.mono HBLa.out.size)); clear hbb)
                    | (go_at_call 12; refine (HVV.out _ (HV.out.below HBLb.out) (HV'.out.below HBLb.out)).mono ?_; rintro r Wc ⟨rfl, hbc⟩; have c0 := (hbc.cell (p := ⟨w.heap.size, 0, none⟩) (World.block_lt_of_cell? _ _ b0)).trans b0; have c1 := (hbc.cell (p := ⟨w.heap.size, 1, none⟩) (World.block_lt_of_cell? _ _ b1)).trans b1; have c2 := (hbc.cell (p := ⟨w.heap.size, 2, none⟩) (World.block_lt_of_cell? _ _ b2)).trans b2; have c3 := (hbc.cell (p := ⟨w.heap.size + 1, 0, none⟩) (World.block_lt_of_cell? _ _ b3)).trans b3; have c4 := (hbc.cell (p := ⟨w.heap.size + 1, 1, none⟩) (World.block_lt_of_cell? _ _ b4)).trans b4; have HBLc := Lib.hid (HBLb.out.trans (hbc.mono HBLb.out.size)); clear hbc)
                    | (go_at_call 7; refine (live_any _ (HTB.out.below HBLc.out)).mono ?_; rintro r Wd ⟨rfl, hbd⟩; have d0 := (hbd.cell (p := ⟨w.heap.size, 0, none⟩) (World.block_lt_of_cell? _ _ c0)).trans c0; have d1 := (hbd.cell (p := ⟨w.heap.size, 1, none⟩) (World.block_lt_of_cell? _ _ c1)).trans c1; have d2 := (hbd.cell (p := ⟨w.heap.size, 2, none⟩) (World.block_lt_of_cell? _ _ c2)).trans c2; have d3 := (hbd.cell (p := ⟨w.heap.size + 1, 0, none⟩) (World.block_lt_of_cell? _ _ c3)).trans c3; have d4 := (hbd.cell (p := ⟨w.heap.size + 1, 1, none⟩) (World.block_lt_of_cell? _ _ c4)).trans c4; have HBLd := Lib.hid (HBLc.out.trans (hbd.mono HBLc.out.size)); clear hbd)))
                go_wp2_with fail
                go_ret
                exact ⟨rfl, HBLd.out⟩
          | true =>
            rw [hr] at HRT
            have hzr := zeros_right HEN.out hr
            rw [hzr] at HCZ
            clear hr hzr
            generalize zerosL l = zz at HZ1 HCZ
            generalize (cellsN l).toNat = nz at HZ1 HCZ
            go_wp2_with fail
            go_region_held3 (fun W => W.cell? ⟨w.heap.size, 0, none⟩ = some (.int .i64 k) ∧ W.cell? ⟨w.heap.size, 1, none⟩ = some (.int .i64 e) ∧ W.cell? ⟨w.heap.size, 2, none⟩ = some (.int .i64 l) ∧ W.cell? ⟨w.heap.size + 1, 0, none⟩ = some (.slice B m d) ∧ W.cell? ⟨w.heap.size + 1, 1, none⟩ = some (.slice B' m' d')) (first | exact ⟨p0, p1, p2, p3, p4⟩ | exact ⟨t0, t1, t2, t3, t4⟩ | exact ⟨u0, u1, u2, u3, u4⟩ | exact ⟨v0, v1, v2, v3, v4⟩)
              ((first
                | (go_at_call 21; refine (HRT.out _).mono ?_; rintro r Wt ⟨rfl, hbt⟩; have t0 := (hbt.cell (p := ⟨w.heap.size, 0, none⟩) (World.block_lt_of_cell? _ _ p0)).trans p0; have t1 := (hbt.cell (p := ⟨w.heap.size, 1, none⟩) (World.block_lt_of_cell? _ _ p1)).trans p1; have t2 := (hbt.cell (p := ⟨w.heap.size, 2, none⟩) (World.block_lt_of_cell? _ _ p2)).trans p2; have t3 := (hbt.cell (p := ⟨w.heap.size + 1, 0, none⟩) (World.block_lt_of_cell? _ _ p3)).trans p3; have t4 := (hbt.cell (p := ⟨w.heap.size + 1, 1, none⟩) (World.block_lt_of_cell? _ _ p4)).trans p4; have HBLt := Lib.hid (HBLp.out.trans (hbt.mono HBLp.out.size)); clear hbt)
                | (go_at_call 13; refine (HZ1.out _).mono ?_; clear HZ1; rintro r Wu ⟨A1, sz1, rfl, hR1, hbu⟩; have u0 := (hbu.cell (p := ⟨w.heap.size, 0, none⟩) (World.block_lt_of_cell? _ _ t0)).trans t0; have u1 := (hbu.cell (p := ⟨w.heap.size, 1, none⟩) (World.block_lt_of_cell? _ _ t1)).trans t1; have u2 := (hbu.cell (p := ⟨w.heap.size, 2, none⟩) (World.block_lt_of_cell? _ _ t2)).trans t2; have u3 := (hbu.cell (p := ⟨w.heap.size + 1, 0, none⟩) (World.block_lt_of_cell? _ _ t3)).trans t3; have u4 := (hbu.cell (p := ⟨w.heap.size + 1, 1, none⟩) (World.block_lt_of_cell? _ _ t4)).trans t4; have HBLu := Lib.hid (HBLt.out.trans (hbu.mono HBLt.out.size)); have HR1 := Lib.hid hR1; clear hR1; clear hbu)
                | (go_at_call 10; refine (HCZ.out A1 sz1 _ (HE.out.below HBLu.out) HR1.out).mono ?_; rintro r Wv ⟨rfl, hbv⟩; have v0 := (hbv.cell (p := ⟨w.heap.size, 0, none⟩) (World.block_lt_of_cell? _ _ u0)).trans u0; have v1 := (hbv.cell (p := ⟨w.heap.size, 1, none⟩) (World.block_lt_of_cell? _ _ u1)).trans u1; have v2 := (hbv.cell (p := ⟨w.heap.size, 2, none⟩) (World.block_lt_of_cell? _ _ u2)).trans u2; have v3 := (hbv.cell (p := ⟨w.heap.size + 1, 0, none⟩) (World.block_lt_of_cell? _ _ u3)).trans u3; have v4 := (hbv.cell (p := ⟨w.heap.size + 1, 1, none⟩) (World.block_lt_of_cell? _ _ u4)).trans u4; have HBLv := Lib.hid (HBLu.out.trans (hbv.mono HBLu.out.size)); clear hbv)))
            have HBW := HBLv
            clear p0 p1 p2 p3 p4
            have p0 := v0
            have p1 := v1
            have p2 := v2
            have p3 := v3
            have p4 := v4
            clear v0 v1 v2 v3 v4 t0 t1 t2 t3 t4 u0 u1 u2 u3 u4
            cases hz : rightVB es k e l zs with
            | false =>
              rw [hz] at HC1
              go_wp2_with fail
              refine (HC1.out _ (HE.out.below HBW.out) (HV.out.below HBW.out)).mono ?_
              rintro r w5 ⟨rfl, hb5⟩
              have HB5 := Lib.hid (HBW.out.trans (hb5.mono HBW.out.size))
              clear hb5
              go_wp2_with fail
              refine (live_any _ (HTB.out.below HB5.out)).mono ?_
              rintro r wL ⟨rfl, hbL⟩
              have HBL := Lib.hid (HB5.out.trans (hbL.mono HB5.out.size))
              clear hbL
              go_wp2_with fail
              go_ret
              exact ⟨rfl, HBL.out⟩
            | true =>
              rw [hz] at HC1
              go_wp2_with fail
              refine (HC1.out _ (HE.out.below HBW.out) (HV.out.below HBW.out)).mono ?_
              rintro r w5 ⟨rfl, hb5⟩
              have r0 := (hb5.cell (p := ⟨w.heap.size, 0, none⟩) (World.block_lt_of_cell? _ _ p0)).trans p0
              have r1 := (hb5.cell (p := ⟨w.heap.size, 1, none⟩) (World.block_lt_of_cell? _ _ p1)).trans p1
              have r2 := (hb5.cell (p := ⟨w.heap.size, 2, none⟩) (World.block_lt_of_cell? _ _ p2)).trans p2
              have r3 := (hb5.cell (p := ⟨w.heap.size + 1, 0, none⟩) (World.block_lt_of_cell? _ _ p3)).trans p3
              have r4 := (hb5.cell (p := ⟨w.heap.size + 1, 1, none⟩) (World.block_lt_of_cell? _ _ p4)).trans p4
              have HB5 := Lib.hid (HBW.out.trans (hb5.mono HBW.out.size))
              clear hb5
              cases hy : rightVB es k e l ys with
              | false =>
                rw [hy] at HC2
                go_wp2_with fail
                refine (HC2.out _ (HE.out.below HB5.out) (HV'.out.below HB5.out)).mono ?_
                rintro r w6 ⟨rfl, hb6⟩
                have HB6 := Lib.hid (HB5.out.trans (hb6.mono HB5.out.size))
                clear hb6
                go_wp2_with fail
                refine (live_any _ (HTB.out.below HB6.out)).mono ?_
                rintro r wL ⟨rfl, hbL⟩
                have HBL := Lib.hid (HB6.out.trans (hbL.mono HB6.out.size))
                clear hbL
                go_wp2_with fail
                go_ret
                exact ⟨rfl, HBL.out⟩
              | true =>
                rw [hy] at HC2
                go_wp2_with fail
                refine (HC2.out _ (HE.out.below HB5.out) (HV'.out.below HB5.out)).mono ?_
                rintro r w6 ⟨rfl, hb6⟩
                have s0 := (hb6.cell (p := ⟨w.heap.size, 0, none⟩) (World.block_lt_of_cell? _ _ r0)).trans r0
                have s1 := (hb6.cell (p := ⟨w.heap.size, 1, none⟩) (World.block_lt_of_cell? _ _ r1)).trans r1
                have s2 := (hb6.cell (p := ⟨w.heap.size, 2, none⟩) (World.block_lt_of_cell? _ _ r2)).trans r2
                have s3 := (hb6.cell (p := ⟨w.heap.size + 1, 0, none⟩) (World.block_lt_of_cell? _ _ r3)).trans r3
                have s4 := (hb6.cell (p := ⟨w.heap.size + 1, 1, none⟩) (World.block_lt_of_cell? _ _ r4)).trans r4
                have HBLs := Lib.hid (below_drewN (HB5.out.trans (hb6.mono HB5.out.size)) 1)
                have HXY := Lib.hid (text_apart HEN.out hz hy)
                clear hb6 hz hy HC1 HC2
                generalize sameB zs ys = bs at HVV HXY
                generalize valT es k e l zs = x at HX1 HXY
                generalize valT es k e l ys = y at HX2 HXY
                have hxy := HXY.out
                have n1 : (bs == bs) = true := by simp
                go_wp2_with fail
                go_region_held3 (fun W => W.cell? ⟨w.heap.size, 0, none⟩ = some (.int .i64 k) ∧ W.cell? ⟨w.heap.size, 1, none⟩ = some (.int .i64 e) ∧ W.cell? ⟨w.heap.size, 2, none⟩ = some (.int .i64 l) ∧ W.cell? ⟨w.heap.size + 1, 0, none⟩ = some (.slice B m d) ∧ W.cell? ⟨w.heap.size + 1, 1, none⟩ = some (.slice B' m' d')) (first | exact ⟨s0, s1, s2, s3, s4⟩ | exact ⟨a0, a1, a2, a3, a4⟩ | exact ⟨b0, b1, b2, b3, b4⟩ | exact ⟨c0, c1, c2, c3, c4⟩ | exact ⟨d0, d1, d2, d3, d4⟩)
                  ((first
                    | (go_at_call 18; refine (HX1.out _ (HE.out.below HBLs.out) (HV.out.below HBLs.out) HT.out.ct (HTB.out.below HBLs.out)).mono ?_; clear HX1; rintro r Wa ⟨rfl, hba⟩; have a0 := (hba.cell (p := ⟨w.heap.size, 0, none⟩) (World.block_lt_of_cell? _ _ s0)).trans s0; have a1 := (hba.cell (p := ⟨w.heap.size, 1, none⟩) (World.block_lt_of_cell? _ _ s1)).trans s1; have a2 := (hba.cell (p := ⟨w.heap.size, 2, none⟩) (World.block_lt_of_cell? _ _ s2)).trans s2; have a3 := (hba.cell (p := ⟨w.heap.size + 1, 0, none⟩) (World.block_lt_of_cell? _ _ s3)).trans s3; have a4 := (hba.cell (p := ⟨w.heap.size + 1, 1, none⟩) (World.block_lt_of_cell? _ _ s4)).trans s4; have HBLa := Lib.hid (HBLs.out.trans (hba.mono HBLs.out.size)); clear hba)
                    | (go_at_call 18; refine (HX2.out _ (HE.out.below HBLa.out) (HV'.out.below HBLa.out) HT.out.ct (HTB.out.below HBLa.out)).mono ?_; clear HX2; rintro r Wb ⟨rfl, hbb⟩; have b0 := (hbb.cell (p := ⟨w.heap.size, 0, none⟩) (World.block_lt_of_cell? _ _ a0)).trans a0; have b1 := (hbb.cell (p := ⟨w.heap.size, 1, none⟩) (World.block_lt_of_cell? _ _ a1)).trans a1; have b2 := (hbb.cell (p := ⟨w.heap.size, 2, none⟩) (World.block_lt_of_cell? _ _ a2)).trans a2; have b3 := (hbb.cell (p := ⟨w.heap.size + 1, 0, none⟩) (World.block_lt_of_cell? _ _ a3)).trans a3; have b4 := (hbb.cell (p := ⟨w.heap.size + 1, 1, none⟩) (World.block_lt_of_cell? _ _ a4)).trans a4; have HBLb := Lib.hid (HBLa.out.trans (hbb.mono HBLa.out.size)); clear hbb)
                    | (go_at_call 12; refine (HVV.out _ (HV.out.below HBLb.out) (HV'.out.below HBLb.out)).mono ?_; rintro r Wc ⟨rfl, hbc⟩; have c0 := (hbc.cell (p := ⟨w.heap.size, 0, none⟩) (World.block_lt_of_cell? _ _ b0)).trans b0; have c1 := (hbc.cell (p := ⟨w.heap.size, 1, none⟩) (World.block_lt_of_cell? _ _ b1)).trans b1; have c2 := (hbc.cell (p := ⟨w.heap.size, 2, none⟩) (World.block_lt_of_cell? _ _ b2)).trans b2; have c3 := (hbc.cell (p := ⟨w.heap.size + 1, 0, none⟩) (World.block_lt_of_cell? _ _ b3)).trans b3; have c4 := (hbc.cell (p := ⟨w.heap.size + 1, 1, none⟩) (World.block_lt_of_cell? _ _ b4)).trans b4; have HBLc := Lib.hid (HBLb.out.trans (hbc.mono HBLb.out.size)); clear hbc)
                    | (go_at_call 7; refine (live_any _ (HTB.out.below HBLc.out)).mono ?_; rintro r Wd ⟨rfl, hbd⟩; have d0 := (hbd.cell (p := ⟨w.heap.size, 0, none⟩) (World.block_lt_of_cell? _ _ c0)).trans c0; have d1 := (hbd.cell (p := ⟨w.heap.size, 1, none⟩) (World.block_lt_of_cell? _ _ c1)).trans c1; have d2 := (hbd.cell (p := ⟨w.heap.size, 2, none⟩) (World.block_lt_of_cell? _ _ c2)).trans c2; have d3 := (hbd.cell (p := ⟨w.heap.size + 1, 0, none⟩) (World.block_lt_of_cell? _ _ c3)).trans c3; have d4 := (hbd.cell (p := ⟨w.heap.size + 1, 1, none⟩) (World.block_lt_of_cell? _ _ c4)).trans c4; have HBLd := Lib.hid (HBLc.out.trans (hbd.mono HBLc.out.size)); clear hbd)))
                go_wp2_with fail
                go_ret
                exact ⟨rfl, HBLd.out⟩
    · have hxb : (enumsN es != 0) = true := by simpa [bne] using hx0
      generalize enumsN es = xn at hxb
      clear hx0
      go_wp2_with fail
      refine (live_any _ (HTB.out.below HB1.out)).mono ?_
      rintro r wL ⟨rfl, hbL⟩
      have HBL := Lib.hid (HB1.out.trans (hbL.mono HB1.out.size))
      clear hbL
      go_wp2_with fail
      go_ret
      exact ⟨rfl, HBL.out⟩
end Go.Proofs.YtdnmnfpcgbbplaaDoor
