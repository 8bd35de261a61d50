/- Which programs are the same: of the program's text. Conditions: none. -/
import Derived.Test.YtapnodhgjfbjjaaPhE
import Derived.Test.YtapnodhgjfbjjaaPhC
import Derived.Test.YtapnodhgjfbjjaaPgO
import Derived.Test.YtapnodhgjfbjjaaEyC
import Derived.Test.YtapnodhgjfbjjaaSlN
namespace Go.Proofs.Ytapnodhgjfbjjaa
open Go.RowKit Go.Sort
set_option linter.unusedVariables false
set_option linter.unusedSimpArgs false

/-- An enum's two cells. -/
def enA (e : En) (A : Option Addr) (c : Nat) : Array Value := #[.string e.1, .slice A e.2.length c]
theorem en_facts (w : World) (e : En) (A : Option Addr) (c : Nat) (w1 : World) (h : w.alloc (.cells (enA e A c) 59) = w1) (hr : RdT w A e.2.length e.2) :
    Below w.heap.size w w1 ∧ w1.heap.size = w.heap.size + 1 ∧ RdT w1 A e.2.length e.2 ∧ ∀ w', Below w1.heap.size w1 w' → ∀ j, w'.cell? ⟨w.heap.size, j, none⟩ = (enA e A c)[j]? := by
  subst h
  have hb := (Below.refl w.heap.size w).alloc (Nat.le_refl _) (.cells (enA e A c) 59)
  refine ⟨hb, by simp, hr.below hb, fun w' hb j => ?_⟩
  rw [hb.cell (p := ⟨w.heap.size, j, none⟩) (by simp), World.cell?_alloc_new]
theorem en_cell {w : World} {A : Option Addr} {n i : Nat} {es : List En} (h : RdE w A n es) (hi : i < n) :
    ∃ b off A' c', A = some ⟨b, off, none⟩ ∧ b < w.heap.size ∧ RdT w A' (es[i]?.getD default).2.length (es[i]?.getD default).2 ∧ w.cell? ⟨b, off + i * 2, none⟩ = some (.string (es[i]?.getD default).1) ∧ w.cell? ⟨b, off + i * 2 + 1, none⟩ = some (.slice A' (es[i]?.getD default).2.length c') := by
  obtain ⟨b, off, e, hb, hc⟩ := h.at_ hi
  obtain ⟨h1, A', n', c', h2, h3⟩ := hc i hi
  have hl := h3.len
  refine ⟨b, off, A', c', e, hb, ?_, ?_, ?_⟩
  · rw [enD]; rw [hl]; exact h3
  · rw [enD]; exact h1
  · rw [enD]; rw [hl]; exact h2
theorem qn_at {w : World} {A : Option Addr} {n i : Nat} {l : List Qn} (h : RdQ w A n l) (hi : i < n) :
    ∃ b off, ∃ B c A' ca B' cb, A = some ⟨b, off, none⟩ ∧ b < w.heap.size ∧ (RdT w B (l[i]?.getD default).ns.length (l[i]?.getD default).ns ∧ rdX w (l[i]?.getD default).x A' B') ∧
      w.cell? ⟨b, off + i * 7, none⟩ = some (.slice B (l[i]?.getD default).ns.length c) ∧ w.cell? ⟨b, off + i * 7 + 1, none⟩ = some (.int .i64 (l[i]?.getD default).x.k) ∧ w.cell? ⟨b, off + i * 7 + 2, none⟩ = some (.int .i64 (l[i]?.getD default).x.n) ∧
      w.cell? ⟨b, off + i * 7 + 3, none⟩ = some (.string (l[i]?.getD default).x.s) ∧ w.cell? ⟨b, off + i * 7 + 4, none⟩ = some (.int .i64 (l[i]?.getD default).x.op) ∧ w.cell? ⟨b, off + i * 7 + 5, none⟩ = some (.slice A' (l[i]?.getD default).x.arms.length ca) ∧ w.cell? ⟨b, off + i * 7 + 6, none⟩ = some (.slice B' (l[i]?.getD default).x.subs.length cb) := by
  obtain ⟨b, off, e, hb, hc⟩ := RdS.at_ h (by omega)
  obtain ⟨B, c, A', ca, B', cb, h0, h1, h2, h3⟩ := hc i hi
  obtain ⟨c0, c1, c2, c3, c4, c5⟩ := rangeAt_six h2
  exact ⟨b, off, B, c, A', ca, B', cb, e, hb, ⟨h1, h3⟩, h0, c0, c1, c2, c3, c4, c5⟩
theorem nd_at {w : World} {A : Option Addr} {n i : Nat} {l : List Nd} (h : RdNs w A n l) (hi : i < n) :
    ∃ b off A1 c1 A2 c2 A3 c3 A4 c4, A = some ⟨b, off, none⟩ ∧ b < w.heap.size ∧ rdN w (l[i]?.getD default) A1 A2 A3 A4 ∧
    w.cell? ⟨b, off + i * 5, none⟩ = some (.string (l[i]?.getD default).nm) ∧ w.cell? ⟨b, off + i * 5 + 1, none⟩ = some (.slice A1 (l[i]?.getD default).ins.length c1) ∧ w.cell? ⟨b, off + i * 5 + 2, none⟩ = some (.slice A2 (l[i]?.getD default).outs.length c2) ∧ w.cell? ⟨b, off + i * 5 + 3, none⟩ = some (.slice A3 (l[i]?.getD default).vars.length c3) ∧ w.cell? ⟨b, off + i * 5 + 4, none⟩ = some (.slice A4 (l[i]?.getD default).eqs.length c4) := by
  obtain ⟨b, off, e, hb, hc⟩ := RdS.at_ h (by omega)
  obtain ⟨A1, c1, A2, c2, A3, c3, A4, c4, h1, h2⟩ := nd_five (hc i hi)
  exact ⟨b, off, A1, c1, A2, c2, A3, c3, A4, c4, e, hb, h1, h2⟩

set_option maxRecDepth 100000 in
set_option maxHeartbeats 2000000 in
theorem pgSameEnum (x : En) (A : Option Addr) (c : Nat) (y : En) (B : Option Addr) (d : Nat) (w : World) (hx : RdT w A x.2.length x.2) (hy : RdT w B y.2.length y.2) :
    Calls Try.prog 24 #[.agg (enA x A c), .agg (enA y B d)] w fun e w' => e = .returned (.bool (eqE x y)) ∧ Below w.heap.size w w' := by
  have HF := Lib.hid fun w1 hw => en_facts w x A c w1 hw hx
  have HF' := Lib.hid fun w1 w2 hw (hb : Below w.heap.size w w1) => en_facts w1 y B d w2 hw (hy.below hb)
  have HE := Lib.hid (show eqE x y = ((x.1.toList == y.1.toList) && sameT x.2 y.2) by simp only [Lib.toList_data]; rfl)
  have HC := Lib.hid fun w1 a b => slEqual A B x.2.length y.2.length c d x.2 y.2 w1 a b
  clear hx hy
  unfold enA
  generalize eqE x y = out at *
  generalize sameT x.2 y.2 = st at *
  go_enter Try.func24, Try.ntmps24
  go_upto_region 1 with (fail)
  generalize hw1 : w.alloc _ = w1
  obtain ⟨hb1, hg, hR1, hcell⟩ := HF.out w1 hw1
  generalize hw2 : w1.alloc _ = w2
  obtain ⟨hb2, hg2, hR2, hcell2⟩ := HF'.out w1 w2 hw2 hb1
  rw [hg] at hg2
  have HB2 := Lib.hid (below_next hb1 hb2)
  have p0 := hcell w2 hb2 0
  have p1 := hcell w2 hb2 1
  have q0 := hcell2 w2 (Below.refl _ _) 0
  have q1 := hcell2 w2 (Below.refl _ _) 1
  rw [hg] at q0 q1
  simp only [enA, List.getElem?_toArray, List.getElem?_cons_zero, List.getElem?_cons_succ] at p0 p1 q0 q1
  have HD := Lib.hid (HC.out w2 (hR1.below hb2) hR2)
  clear hw1 hw2 hcell hcell2 hb1 hb2 HF HF' hR1 hR2 HC
  cases e0 : (x.1.toList == y.1.toList) with
  | false =>
    rw [e0] at HE
    go_wp2_with fail
    go_ret
    exact ⟨ret_bool (by rw [HE.out]; rfl), HB2.out⟩
  | true =>
    rw [e0] at HE
    go_wp2_with fail
    refine HD.out.mono ?_
    rintro e w3 ⟨rfl, hb3⟩
    have HB3 := Lib.hid (HB2.out.trans (hb3.mono HB2.out.size))
    clear hb3
    go_wp2_with fail
    go_ret
    exact ⟨ret_bool (by rw [HE.out]; rfl), HB3.out⟩

set_option maxRecDepth 100000 in
set_option maxHeartbeats 2000000 in
theorem pgSameEq (x : Qn) (A : Option Addr) (c : Nat) (A' : Option Addr) (ca : Nat) (B' : Option Addr) (cb : Nat) (y : Qn) (D : Option Addr) (d : Nat) (D' : Option Addr) (da : Nat) (E' : Option Addr) (eb : Nat) (w : World)
    (hx : RdT w A x.ns.length x.ns) (hxx : rdX w x.x A' B') (hy : RdT w D y.ns.length y.ns) (hyx : rdX w y.x D' E') :
    Calls Try.prog 34 #[.agg (qnA x A c A' ca B' cb), .agg (qnA y D d D' da E' eb)] w fun e w' => e = .returned (.bool (eqQ x y)) ∧ Below w.heap.size w w' := by
  have HF := Lib.hid fun w1 hw => qn_facts w x A c A' ca B' cb w1 hw hx hxx
  have HF' := Lib.hid fun w1 w2 hw (hb : Below w.heap.size w w1) => qn_facts w1 y D d D' da E' eb w2 hw (hy.below hb) (hyx.below hb)
  have HE := Lib.hid (show eqQ x y = (sameT x.ns y.ns && sameX x.x y.x) from rfl)
  have HC := Lib.hid fun w1 a b => slEqual A D x.ns.length y.ns.length c d x.ns y.ns w1 a b
  have HX := Lib.hid fun w1 a b => exSame x.x A' ca B' cb y.x D' da E' eb w1 a b
  clear hx hy hxx hyx
  unfold exA at HX
  unfold qnA
  generalize eqQ x y = out at *
  generalize sameT x.ns y.ns = st at *
  generalize sameX x.x y.x = sx at *
  go_enter Try.func34, Try.ntmps34
  go_upto_region 1 with (fail)
  generalize hw1 : w.alloc _ = w1
  obtain ⟨hb1, hg, hR1, hX1, hcell⟩ := HF.out w1 hw1
  generalize hw2 : w1.alloc _ = w2
  obtain ⟨hb2, hg2, hR2, hX2, hcell2⟩ := HF'.out w1 w2 hw2 hb1
  rw [hg] at hg2
  have HB2 := Lib.hid (below_next hb1 hb2)
  have HP := Lib.hid fun w' (hb : Below w2.heap.size w2 w') => hcell w' (hb2.trans (hb.mono hb2.size))
  have HQ := Lib.hid hcell2
  have p0 := HP.out w2 (Below.refl _ _) 0
  have q0 := hcell2 w2 (Below.refl _ _) 0
  rw [hg] at q0 HQ
  simp only [qnA, List.getElem?_toArray, List.getElem?_cons_zero, List.getElem?_cons_succ] at p0 q0
  have HD := Lib.hid (HC.out w2 (hR1.below hb2) hR2)
  have HXX := Lib.hid fun w3 (hb : Below w2.heap.size w2 w3) => HX.out w3 ((hX1.below hb2).below hb) (hX2.below hb)
  clear hw1 hw2 hcell hcell2 hb1 hb2 HF HF' hR1 hR2 HC hX1 hX2 HX
  simp only [qnA] at HP HQ
  cases st with
  | false =>
    go_wp2_with fail
    refine HD.out.mono ?_
    rintro e w3 ⟨rfl, hb3⟩
    have HB3 := Lib.hid (HB2.out.trans (hb3.mono HB2.out.size))
    clear hb3 p0 q0
    go_wp2_with fail
    go_ret
    exact ⟨ret_bool (by rw [HE.out]; rfl), HB3.out⟩
  | true =>
    go_wp2_with fail
    refine HD.out.mono ?_
    rintro e w3 ⟨rfl, hb3⟩
    have HB3 := Lib.hid (HB2.out.trans (hb3.mono HB2.out.size))
    have HX3 := Lib.hid (HXX.out w3 hb3)
    have p1 := HP.out w3 hb3 1
    have p2 := HP.out w3 hb3 2
    have p3 := HP.out w3 hb3 3
    have p4 := HP.out w3 hb3 4
    have p5 := HP.out w3 hb3 5
    have p6 := HP.out w3 hb3 6
    have q1 := HQ.out w3 hb3 1
    have q2 := HQ.out w3 hb3 2
    have q3 := HQ.out w3 hb3 3
    have q4 := HQ.out w3 hb3 4
    have q5 := HQ.out w3 hb3 5
    have q6 := HQ.out w3 hb3 6
    simp only [List.getElem?_toArray, List.getElem?_cons_zero, List.getElem?_cons_succ] at p1 p2 p3 p4 p5 p6 q1 q2 q3 q4 q5 q6
    clear hb3 p0 q0
    go_wp2_with fail
    refine HX3.out.mono ?_
    rintro e w4 ⟨rfl, hb4⟩
    have HB4 := Lib.hid (HB3.out.trans (hb4.mono HB3.out.size))
    clear hb4 p1 p2 p3 p4 p5 p6 q1 q2 q3 q4 q5 q6
    go_wp2_with fail
    go_ret
    exact ⟨ret_bool (by rw [HE.out]; rfl), HB4.out⟩

set_option maxRecDepth 100000 in
set_option maxHeartbeats 4000000 in
theorem slEqFuncE (l m : List En) (A B : Option Addr) (n1 n2 c d : Nat) (w : World) (hl : RdE w A n1 l) (hm : RdE w B n2 m) :
    Calls Try.prog 23 #[.slice A n1 c, .slice B n2 d, .func (.func 24) #[] #[]] w fun e w' => e = .returned (.bool (sameL eqE l m)) ∧ Below w.heap.size w w' := by
  have hl1 := hl.len
  have hl2 := hm.len
  have hx1 := hl.max
  have hx2 := hm.max
  have HRL := Lib.hid hl
  have HRM := Lib.hid hm
  have HXL := Lib.hid fun h => sameL_len (f := eqE) (l := l) (m := m) h
  have HXA := Lib.hid fun (i : Nat) h1 h2 h => sameL_no (f := eqE) (l := l) (m := m) (i := i) h1 h2 h
  have HXY := Lib.hid fun h1 h2 => sameL_yes (f := eqE) (l := l) (m := m) h1 h2
  have HBX := Lib.hid en_facts
  have HK := Lib.hid pgSameEnum
  clear hl hm
  unfold enA at HBX HK
  generalize sameL eqE l m = res at *
  by_cases hnn : n1 = n2
  · subst hnn
    go_enter Try.func23, Try.ntmps23
    go_wp2_with fail
    go_loopw [17] (fun i wr => ∃ k : Nat, k ≤ n1 ∧ i = .int .i64 k ∧ (∀ j, j < k → eqE (l[j]?.getD default) (m[j]?.getD default) = true) ∧ Below w.heap.size w wr) (fun i _ => n1 - (intOf i).toNat)
    case atStart => exact ⟨0, Nat.zero_le _, rfl, fun j hj => absurd hj (by omega), Below.refl _ _⟩
    case round =>
      obtain ⟨k, hk, rfl, hall, hbw⟩ := hrel
      have HA := Lib.hid hall
      have HBW := Lib.hid hbw
      clear hall
      by_cases hlt : k < n1
      · obtain ⟨b, off, Ax, cx, rfl, hb, hrdx, d0, d1⟩ := en_cell (HRL.out.below hbw) hlt
        obtain ⟨b2, off2, Ay, cy, rfl, hby, hrdy, f0, f1⟩ := en_cell (HRM.out.below hbw) hlt
        have HRDx := Lib.hid hrdx
        have HRDy := Lib.hid hrdy
        have HNO := Lib.hid fun h => HXA.out k (by omega) (by omega) h
        have HYE := Lib.hid fun (hsm : eqE (l[k]?.getD default) (m[k]?.getD default) = true) => to_next (P := fun j => eqE (l[j]?.getD default) (m[j]?.getD default) = true) HA.out hsm
        clear hrdx hrdy hbw
        generalize l[k]?.getD default = p at *
        generalize m[k]?.getD default = q at *
        have HF3 := Lib.hid fun w3 h => HBX.out wr p Ax cx w3 h HRDx.out
        go_upto_region 6 with (fail)
        generalize hw3 : wr.alloc _ = w3
        obtain ⟨hb3, hg3, hr3, hcell3⟩ := HF3.out w3 hw3
        have HR3 := Lib.hid hr3
        have HC3 := Lib.hid hcell3
        have HB3 := Lib.hid (HBW.out.trans (hb3.mono HBW.out.size))
        have HRY3 := Lib.hid (RdT.below HRDy.out hb3)
        have g0 := below_cell hb3 hby f0
        have g1 := below_cell hb3 hby f1
        clear f0 f1
        have HF4 := Lib.hid fun w4 h => HBX.out w3 q Ay cy w4 h HRY3.out
        clear hcell3 hb3 hw3 HF3 d0 d1 hr3
        go_upto_region 7 with (fail)
        generalize hw4 : w3.alloc _ = w4
        obtain ⟨hb4, hg4, hr4, hcell4⟩ := HF4.out w4 hw4
        rw [hg3] at hcell4 hg4
        have e0 := HC3.out w4 hb4 0
        have h0 := hcell4 w4 (Below.refl _ _) 0
        have e1 := HC3.out w4 hb4 1
        have h1 := hcell4 w4 (Below.refl _ _) 1
        simp only [List.getElem?_toArray, List.getElem?_cons_zero, List.getElem?_cons_succ] at e0 h0 e1 h1
        have HB4 := Lib.hid (HB3.out.trans (hb4.mono HB3.out.size))
        have HCL := Lib.hid (HK.out p Ax cx q Ay cy w4 (RdT.below HR3.out hb4) hr4)
        clear hcell4 hb4 hw4 HF4 g0 g1 HR3 HC3 HRY3 hr4
        cases hsm : eqE p q with
        | false =>
          have HN := Lib.hid (HNO.out hsm)
          rw [hsm] at HCL
          go_wp2_with fail
          refine HCL.out.mono ?_
          rintro r w5 ⟨rfl, hb5⟩
          have HB5 := Lib.hid (HB4.out.trans (hb5.mono HB4.out.size))
          clear hb5
          go_wp2_with fail
          go_ret
          exact ⟨ret_bool HN.out.symm, HB5.out⟩
        | true =>
          have HN := Lib.hid (HYE.out hsm)
          rw [hsm] at HCL
          go_wp2_with fail
          refine HCL.out.mono ?_
          rintro r w5 ⟨rfl, hb5⟩
          have HB5 := Lib.hid (HB4.out.trans (hb5.mono HB4.out.size))
          clear hb5
          go_wp2_with fail
          go_roundw
          case rel => exact ⟨k + 1, by omega, by go_num, HN.out, HB5.out⟩
          case measure => simp [intOf]; omega
      · have hkl : k = n1 := by omega
        have HN := Lib.hid (show res = true by rw [HXY.out (by omega) (fun i hi => HA.out i (by omega))])
        go_wp2_with fail
        go_ret
        exact ⟨ret_bool HN.out.symm, HBW.out⟩
  · have nn : ((n1 : Int) != (n2 : Int)) = true := by rw [bne_iff_ne]; omega
    have HN := Lib.hid (show res = false by rw [HXL.out (by omega)])
    go_enter Try.func23, Try.ntmps23
    go_wp2_with fail
    go_ret
    exact ⟨ret_bool HN.out.symm, Below.refl _ _⟩

set_option maxRecDepth 100000 in
set_option maxHeartbeats 4000000 in
theorem slEqFuncQ (l m : List Qn) (A B : Option Addr) (n1 n2 c d : Nat) (w : World) (hl : RdQ w A n1 l) (hm : RdQ w B n2 m) :
    Calls Try.prog 33 #[.slice A n1 c, .slice B n2 d, .func (.func 34) #[] #[]] w fun e w' => e = .returned (.bool (sameL eqQ l m)) ∧ Below w.heap.size w w' := by
  have hl1 := hl.len
  have hl2 := hm.len
  have hx1 := hl.max
  have hx2 := hm.max
  have HRL := Lib.hid hl
  have HRM := Lib.hid hm
  have HXL := Lib.hid fun h => sameL_len (f := eqQ) (l := l) (m := m) h
  have HXA := Lib.hid fun (i : Nat) h1 h2 h => sameL_no (f := eqQ) (l := l) (m := m) (i := i) h1 h2 h
  have HXY := Lib.hid fun h1 h2 => sameL_yes (f := eqQ) (l := l) (m := m) h1 h2
  have HBX := Lib.hid qn_facts
  have HK := Lib.hid pgSameEq
  clear hl hm
  unfold qnA at HBX HK
  generalize sameL eqQ l m = res at *
  by_cases hnn : n1 = n2
  · subst hnn
    go_enter Try.func33, Try.ntmps33
    go_wp2_with fail
    go_loopw [17] (fun i wr => ∃ k : Nat, k ≤ n1 ∧ i = .int .i64 k ∧ (∀ j, j < k → eqQ (l[j]?.getD default) (m[j]?.getD default) = true) ∧ Below w.heap.size w wr) (fun i _ => n1 - (intOf i).toNat)
    case atStart => exact ⟨0, Nat.zero_le _, rfl, fun j hj => absurd hj (by omega), Below.refl _ _⟩
    case round =>
      obtain ⟨k, hk, rfl, hall, hbw⟩ := hrel
      have HA := Lib.hid hall
      have HBW := Lib.hid hbw
      clear hall
      by_cases hlt : k < n1
      · obtain ⟨b, off, Ax, cx, Bx, bx, Dx, dx, rfl, hb, hrdx, d0, d1, d2, d3, d4, d5, d6⟩ := qn_at (HRL.out.below hbw) hlt
        obtain ⟨b2, off2, Ay, cy, By, bY, Dy, dy, rfl, hby, hrdy, f0, f1, f2, f3, f4, f5, f6⟩ := qn_at (HRM.out.below hbw) hlt
        have HRDx := Lib.hid hrdx
        have HRDy := Lib.hid hrdy
        have HNO := Lib.hid fun h => HXA.out k (by omega) (by omega) h
        have HYE := Lib.hid fun (hsm : eqQ (l[k]?.getD default) (m[k]?.getD default) = true) => to_next (P := fun j => eqQ (l[j]?.getD default) (m[j]?.getD default) = true) HA.out hsm
        clear hrdx hrdy hbw
        generalize l[k]?.getD default = p at *
        generalize m[k]?.getD default = q at *
        have HF3 := Lib.hid fun w3 h => HBX.out wr p Ax cx Bx bx Dx dx w3 h HRDx.out.1 HRDx.out.2
        go_upto_region 6 with (fail)
        generalize hw3 : wr.alloc _ = w3
        obtain ⟨hb3, hg3, hr3, hx3, hcell3⟩ := HF3.out w3 hw3
        have HR3 := Lib.hid (And.intro hr3 hx3)
        have HC3 := Lib.hid hcell3
        have HB3 := Lib.hid (HBW.out.trans (hb3.mono HBW.out.size))
        have HRY3 := Lib.hid (And.intro (RdT.below HRDy.out.1 hb3) (rdX.below HRDy.out.2 hb3))
        have g0 := below_cell hb3 hby f0
        have g1 := below_cell hb3 hby f1
        have g2 := below_cell hb3 hby f2
        have g3 := below_cell hb3 hby f3
        have g4 := below_cell hb3 hby f4
        have g5 := below_cell hb3 hby f5
        have g6 := below_cell hb3 hby f6
        clear f0 f1 f2 f3 f4 f5 f6
        have HF4 := Lib.hid fun w4 h => HBX.out w3 q Ay cy By bY Dy dy w4 h HRY3.out.1 HRY3.out.2
        clear hcell3 hb3 hw3 HF3 d0 d1 d2 d3 d4 d5 d6 hr3 hx3
        go_upto_region 7 with (fail)
        generalize hw4 : w3.alloc _ = w4
        obtain ⟨hb4, hg4, hr4, hx4, hcell4⟩ := HF4.out w4 hw4
        rw [hg3] at hcell4 hg4
        have e0 := HC3.out w4 hb4 0
        have h0 := hcell4 w4 (Below.refl _ _) 0
        have e1 := HC3.out w4 hb4 1
        have h1 := hcell4 w4 (Below.refl _ _) 1
        have e2 := HC3.out w4 hb4 2
        have h2 := hcell4 w4 (Below.refl _ _) 2
        have e3 := HC3.out w4 hb4 3
        have h3 := hcell4 w4 (Below.refl _ _) 3
        have e4 := HC3.out w4 hb4 4
        have h4 := hcell4 w4 (Below.refl _ _) 4
        have e5 := HC3.out w4 hb4 5
        have h5 := hcell4 w4 (Below.refl _ _) 5
        have e6 := HC3.out w4 hb4 6
        have h6 := hcell4 w4 (Below.refl _ _) 6
        simp only [List.getElem?_toArray, List.getElem?_cons_zero, List.getElem?_cons_succ] at e0 h0 e1 h1 e2 h2 e3 h3 e4 h4 e5 h5 e6 h6
        have HB4 := Lib.hid (HB3.out.trans (hb4.mono HB3.out.size))
        have HCL := Lib.hid (HK.out p Ax cx Bx bx Dx dx q Ay cy By bY Dy dy w4 (RdT.below HR3.out.1 hb4) (rdX.below HR3.out.2 hb4) hr4 hx4)
        clear hcell4 hb4 hw4 HF4 g0 g1 g2 g3 g4 g5 g6 HR3 HC3 HRY3 hr4 hx4
        cases hsm : eqQ p q with
        | false =>
          have HN := Lib.hid (HNO.out hsm)
          rw [hsm] at HCL
          go_wp2_with fail
          refine HCL.out.mono ?_
          rintro r w5 ⟨rfl, hb5⟩
          have HB5 := Lib.hid (HB4.out.trans (hb5.mono HB4.out.size))
          clear hb5
          go_wp2_with fail
          go_ret
          exact ⟨ret_bool HN.out.symm, HB5.out⟩
        | true =>
          have HN := Lib.hid (HYE.out hsm)
          rw [hsm] at HCL
          go_wp2_with fail
          refine HCL.out.mono ?_
          rintro r w5 ⟨rfl, hb5⟩
          have HB5 := Lib.hid (HB4.out.trans (hb5.mono HB4.out.size))
          clear hb5
          go_wp2_with fail
          go_roundw
          case rel => exact ⟨k + 1, by omega, by go_num, HN.out, HB5.out⟩
          case measure => simp [intOf]; omega
      · have hkl : k = n1 := by omega
        have HN := Lib.hid (show res = true by rw [HXY.out (by omega) (fun i hi => HA.out i (by omega))])
        go_wp2_with fail
        go_ret
        exact ⟨ret_bool HN.out.symm, HBW.out⟩
  · have nn : ((n1 : Int) != (n2 : Int)) = true := by rw [bne_iff_ne]; omega
    have HN := Lib.hid (show res = false by rw [HXL.out (by omega)])
    go_enter Try.func33, Try.ntmps33
    go_wp2_with fail
    go_ret
    exact ⟨ret_bool HN.out.symm, Below.refl _ _⟩
end Go.Proofs.Ytapnodhgjfbjjaa
