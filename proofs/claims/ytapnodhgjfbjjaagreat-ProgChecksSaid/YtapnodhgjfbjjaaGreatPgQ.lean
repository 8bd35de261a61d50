/- Which programs are small: of the document's text. Conditions: none. -/
import Derived.Test.YtapnodhgjfbjjaaGreatPgU1
import Derived.Test.YtapnodhgjfbjjaaGreatTyV
import Derived.Test.YtapnodhgjfbjjaaGreatExF
namespace Go.Proofs.YtapnodhgjfbjjaaGreat
open Go.RowKit Go.Sort
set_option linter.unusedVariables false
set_option linter.unusedSimpArgs false

def TinyQ (q : Qn) : Prop := q.ns.length ≤ 20 ∧ tinyX q.x = true ∧ ∀ j, j < q.ns.length → (q.ns[j]?.getD ByteArray.empty).size ≤ 100
def TinyN (n : Nd) : Prop := fewD n.ins = true ∧ fewD n.outs = true ∧ fewD n.vars = true ∧ n.eqs.length ≤ 30 ∧ n.nm.size ≤ 100 ∧ ∀ j, j < n.eqs.length → TinyQ (n.eqs[j]?.getD default)
def TinyP (p : Pg) : Prop := EsTiny p.es ∧ p.ns.length ≤ 10 ∧ ∀ j, j < p.ns.length → TinyN (p.ns[j]?.getD default)
/-- What Small tells: if it tells true, it is small. -/
def SmallP (w : World) (p : Pg) (e : Ending) (w' : World) : Prop := ∃ b, e = .returned (.bool b) ∧ (b = true → TinyP p) ∧ Below w.heap.size w w'
theorem smallP_no {w w' : World} (p : Pg) (hb : Below w.heap.size w w') : SmallP w p (.returned (.bool false)) w' := ⟨false, rfl, fun h => (by cases h), hb⟩
/-- A variable of the call's own, laid and written at once. -/
theorem box_store {w : World} {zc cs : Array Value} {T : TypeId} {w4 : World} (hw : (w.alloc (.cells zc T)).setRow w.heap.size cs = w4) :
    Below w.heap.size w w4 ∧ w.heap.size < w4.heap.size ∧ ∀ w', Below w4.heap.size w4 w' → ∀ j, w'.cell? ⟨w.heap.size, j, none⟩ = cs[j]? := by
  have h1 : w4.heap[w.heap.size]? = some (.cells cs T) := by
    rw [← hw]
    exact setRow_heap _ _ _ _ _ _ (heap_alloc_new _ _)
  have hlt : w.heap.size < w4.heap.size := (Array.getElem?_eq_some_iff.1 h1).1
  refine ⟨?_, hlt, fun w' hb j => ?_⟩
  · rw [← hw]
    exact below_setRow ((Below.refl _ _).alloc (Nat.le_refl _) _) (Nat.le_refl _) cs
  · rw [hb.cell (p := ⟨w.heap.size, j, none⟩) hlt]
    unfold World.cell?
    rw [show w4.heap[(⟨w.heap.size, j, none⟩ : Addr).block]? = _ from h1]
    rfl
theorem ndinfo : (Tryz.prog.info? 36).map (·.size) = some 5 := by kernel_rfl
theorem qninfo : (Tryz.prog.info? 43).map (·.size) = some 7 := by kernel_rfl

set_option maxRecDepth 100000 in
set_option maxHeartbeats 8000000 in
theorem refPgSmall (p : Pg) (E : Option Addr) (ec : Nat) (N : Option Addr) (nc : Nat) (w : World) (h : rdP w p E N) :
    Calls Tryz.prog 4 #[.agg (pgA p E ec N nc)] w (SmallP w p) := by
  have HF := Lib.hid fun w1 hw => pg_facts w p E ec N nc w1 hw h
  have HSM := Lib.hid fun w1 a => refEnSmall E p.es.length ec p.es w1 a
  have HFW := Lib.hid fun A n c l w1 a => refFewD A n c l w1 a
  have HXS := Lib.hid fun x A ca B cb w1 a => refSmall x A ca B cb w1 a
  have hmx := RdS.max h.2
  have HTP := Lib.hid (show EsTiny p.es → p.ns.length ≤ 10 → (∀ j, j < p.ns.length → TinyN (p.ns[j]?.getD default)) → TinyP p from fun a b c => ⟨a, b, c⟩)
  have HNO := Lib.hid fun w' hb => smallP_no (w := w) (w' := w') p hb
  have HYS := Lib.hid fun w' (hb : Below w.heap.size w w') (ht : TinyP p) => (show SmallP w p (.returned (.bool true)) w' from ⟨true, rfl, fun _ => ht, hb⟩)
  unfold pgA
  unfold exA at HXS
  generalize TinyP p = TP at *
  go_enter Tryz.func4, Tryz.ntmps4
  go_upto_region 1 with (fail)
  generalize hw1 : w.alloc _ = w1
  obtain ⟨hb1, hg, hR1, hcell⟩ := HF.out w1 hw1
  have HB1 := Lib.hid hb1
  have HC := Lib.hid hcell
  have HEN := Lib.hid hR1.1
  have HNS := Lib.hid (show RdS 5 NdAt w1 N p.ns.length p.ns from hR1.2)
  simp only [pgA] at HC
  have q0 := HC.out w1 (Below.refl _ _) 0
  have q1 := HC.out w1 (Below.refl _ _) 1
  simp only [List.getElem?_toArray, List.getElem?_cons_zero, List.getElem?_cons_succ] at q0 q1
  clear hw1 hcell hb1 HF h hR1
  generalize hns : p.ns = ns at *
  generalize hnl : ns.length = n at *
  have HNL := Lib.hid hnl
  clear hnl hns
  go_wp2_with fail
  refine (HSM.out w1 HEN.out).mono ?_
  rintro e w2 ⟨be, rfl, hbe, rfl⟩
  cases be with
  | false =>
    go_wp2_with fail
    go_ret
    exact HNO.out w1 HB1.out
  | true =>
    have HTE := Lib.hid (hbe rfl)
    clear hbe
    by_cases h10 : 10 < n
    · go_wp2_with fail
      go_ret
      exact HNO.out w1 HB1.out
    · have d10 : decide ((10 : Int) < (n : Int)) = false := decide_eq_false (by omega)
      go_wp2_with fail
      go_loopw [3] (fun i wr => ∃ k : Nat, k ≤ n ∧ i = .int .i64 k ∧ (∀ j, j < k → TinyN (ns[j]?.getD default)) ∧ Below w1.heap.size w1 wr) (fun i _ => n - (intOf i).toNat)
      case atStart => exact ⟨0, Nat.zero_le _, rfl, fun j hj => absurd hj (by omega), Below.refl _ _⟩
      case round =>
        obtain ⟨k, hk, rfl, hto, hnx⟩ := hrel
        have HT := Lib.hid hto
        have HNX := Lib.hid hnx
        have hz := hnx.size
        have q1 := HC.out wr hnx 1
        simp only [List.getElem?_toArray, List.getElem?_cons_zero, List.getElem?_cons_succ] at q1
        clear hto
        by_cases hlt : k < n
        · obtain ⟨b, off, rfl, hb, hc⟩ := RdS.at_ (RdNs.below HNS.out hnx) (by omega)
          have hnd := hc k hlt
          clear hc hnx
          have HS := Lib.hid fun (hf : TinyN (ns[k]?.getD default)) => to_next (P := fun j => TinyN (ns[j]?.getD default)) HT.out hf
          generalize ns[k]?.getD default = x at hnd HS
          have HTN := Lib.hid (show fewD x.ins = true → fewD x.outs = true → fewD x.vars = true → x.eqs.length ≤ 30 → x.nm.size ≤ 100 → (∀ j, j < x.eqs.length → TinyQ (x.eqs[j]?.getD default)) → TinyN x from fun a b c d e f => ⟨a, b, c, d, e, f⟩)
          obtain ⟨A1, c1, A2, c2, A3, c3, A4, c4, hrd, p10, p11, p12, p13, p14⟩ := hnd.five
          have hmq := RdS.max hrd.2.2.2
          have HBX := Lib.hid fun zc w4 hw => box_store (w := wr) (zc := zc) (cs := ndA x A1 c1 A2 c2 A3 c3 A4 c4) (T := 36) (w4 := w4) hw
          have HRD := Lib.hid hrd
          simp only [ndA] at HBX
          clear hrd hnd
          go_upto_region 7 with (refine wpList_store_row rfl _ _ _ rfl wr.heap.size _ rfl rfl _ _ (heap_alloc_new _ _) ndinfo rfl (by simp [Value.oneCell']) ?_)
          generalize hw4 : World.setRow _ _ _ = w4
          obtain ⟨hb4, hlt4, hcell4⟩ := HBX.out _ w4 hw4
          have HB4 := Lib.hid (HNX.out.trans (hb4.mono hz))
          have HBV := Lib.hid (HB1.out.trans (HB4.out.mono (by omega)))
          have HC4 := Lib.hid hcell4
          have HRD4 := Lib.hid (HRD.out.below hb4)
          have hz4 := hb4.size
          have r0 := hcell4 w4 (Below.refl _ _) 0
          have r1 := hcell4 w4 (Below.refl _ _) 1
          have r2 := hcell4 w4 (Below.refl _ _) 2
          have r3 := hcell4 w4 (Below.refl _ _) 3
          have r4 := hcell4 w4 (Below.refl _ _) 4
          simp only [List.getElem?_toArray, List.getElem?_cons_zero, List.getElem?_cons_succ] at r0 r1 r2 r3 r4
          have HF1 := Lib.hid (HFW.out A1 x.ins.length c1 x.ins w4 HRD4.out.1)
          have HF2 := Lib.hid (HFW.out A2 x.outs.length c2 x.outs w4 HRD4.out.2.1)
          have HF3 := Lib.hid (HFW.out A3 x.vars.length c3 x.vars w4 HRD4.out.2.2.1)
          have HQS := Lib.hid (show RdS 7 QnAt w4 A4 x.eqs.length x.eqs from HRD4.out.2.2.2)
          clear hw4 hcell4 hb4 p10 p11 p12 p13 p14 q1 HBX
          generalize hqs : x.eqs = qs at *
          generalize hql : qs.length = nq at *
          have HQL := Lib.hid hql
          clear hql hqs
          generalize wr.heap.size = gb at *
          cases g1 : fewD x.ins with
          | false =>
            go_wp2_with fail
            refine HF1.out.mono ?_
            rw [g1]
            rintro e v1 ⟨rfl, rfl⟩
            go_wp2_with fail
            go_ret
            exact HNO.out w4 HBV.out
          | true =>
            go_wp2_with fail
            refine HF1.out.mono ?_
            rw [g1]
            rintro e v1 ⟨rfl, rfl⟩
            cases g2 : fewD x.outs with
            | false =>
              go_wp2_with fail
              refine HF2.out.mono ?_
              rw [g2]
              rintro e v2 ⟨rfl, rfl⟩
              go_wp2_with fail
              go_ret
              exact HNO.out w4 HBV.out
            | true =>
              go_wp2_with fail
              refine HF2.out.mono ?_
              rw [g2]
              rintro e v2 ⟨rfl, rfl⟩
              cases g3 : fewD x.vars with
              | false =>
                go_wp2_with fail
                refine HF3.out.mono ?_
                rw [g3]
                rintro e v3 ⟨rfl, rfl⟩
                go_wp2_with fail
                go_ret
                exact HNO.out w4 HBV.out
              | true =>
                go_wp2_with fail
                refine HF3.out.mono ?_
                rw [g3]
                rintro e v3 ⟨rfl, rfl⟩
                by_cases h30 : 30 < nq
                · go_wp2_with fail
                  go_ret
                  exact HNO.out w4 HBV.out
                · have d30 : decide ((30 : Int) < (nq : Int)) = false := decide_eq_false (by omega)
                  by_cases h100 : 100 < x.nm.size
                  · have d100 : decide ((100 : Int) < (x.nm.size : Int)) = true := decide_eq_true (by omega)
                    go_wp2_with fail
                    go_ret
                    exact HNO.out w4 HBV.out
                  · have d100 : decide ((100 : Int) < (x.nm.size : Int)) = false := decide_eq_false (by omega)
                    have HTN := Lib.hid (HTN.out g1 g2 g3 (by omega) (by omega))
                    generalize wr = wo at *
                    go_wp2_with fail
                    go_loopw [5] (fun i wq => ∃ j : Nat, j ≤ nq ∧ i = .int .i64 j ∧ (∀ a, a < j → TinyQ (qs[a]?.getD default)) ∧ Below w4.heap.size w4 wq) (fun i _ => nq - (intOf i).toNat)
                    case atStart => exact ⟨0, Nat.zero_le _, rfl, fun j hj => absurd hj (by omega), Below.refl _ _⟩
                    case round =>
                      obtain ⟨j, hj, rfl, htq, hnq⟩ := hrel
                      have HTQ := Lib.hid htq
                      have HNQ := Lib.hid hnq
                      have hzq := hnq.size
                      have r4 := HC4.out _ hnq 4
                      simp only [List.getElem?_toArray, List.getElem?_cons_zero, List.getElem?_cons_succ] at r4
                      clear htq
                      by_cases hjl : j < nq
                      · obtain ⟨b5, off5, rfl, hb5, hc5⟩ := RdS.at_ (RdQ.below HQS.out hnq) (by omega)
                        have hqa := hc5 j hjl
                        clear hc5 hnq
                        have HSQ := Lib.hid fun (hf : TinyQ (qs[j]?.getD default)) => to_next (P := fun a => TinyQ (qs[a]?.getD default)) HTQ.out hf
                        generalize qs[j]?.getD default = q at hqa HSQ
                        have HTY := Lib.hid (show q.ns.length ≤ 20 → tinyX q.x = true → (∀ j, j < q.ns.length → (q.ns[j]?.getD ByteArray.empty).size ≤ 100) → TinyQ q from fun a b c => ⟨a, b, c⟩)
                        obtain ⟨A6, c6, A7, c7, A8, c8, hqt, hqx, s0, s1, s2, s3, s4, s5, s6⟩ := hqa.seven
                        have hmt := hqt.max
                        have HBX := Lib.hid fun zc w6 hw => box_store (w := wr) (zc := zc) (cs := qnA q A6 c6 A7 c7 A8 c8) (T := 43) (w4 := w6) hw
                        have HQT := Lib.hid hqt
                        have HQX := Lib.hid hqx
                        simp only [qnA] at HBX
                        clear hqt hqx hqa
                        go_upto_region 13 with (refine wpList_store_row rfl _ _ _ rfl wr.heap.size _ rfl rfl _ _ (heap_alloc_new _ _) qninfo rfl (by simp [Value.oneCell']) ?_)
                        generalize hw6 : World.setRow _ _ _ = w6
                        obtain ⟨hb6, hlt6, hcell6⟩ := HBX.out _ w6 hw6
                        have HB6 := Lib.hid (HNQ.out.trans (hb6.mono hzq))
                        have HBU := Lib.hid (HBV.out.trans (HB6.out.mono HBV.out.size))
                        have HC6 := Lib.hid hcell6
                        have HQT6 := Lib.hid (HQT.out.below hb6)
                        have hz6 := hb6.size
                        have t0 := hcell6 w6 (Below.refl _ _) 0
                        have t1 := hcell6 w6 (Below.refl _ _) 1
                        have t2 := hcell6 w6 (Below.refl _ _) 2
                        have t3 := hcell6 w6 (Below.refl _ _) 3
                        have t4 := hcell6 w6 (Below.refl _ _) 4
                        have t5 := hcell6 w6 (Below.refl _ _) 5
                        have t6 := hcell6 w6 (Below.refl _ _) 6
                        simp only [List.getElem?_toArray, List.getElem?_cons_zero, List.getElem?_cons_succ] at t0 t1 t2 t3 t4 t5 t6
                        have HX6 := Lib.hid (HXS.out q.x A7 c7 A8 c8 w6 (HQX.out.below hb6))
                        clear hw6 hcell6 hb6 s0 s1 s2 s3 s4 s5 s6 r4 HBX
                        generalize hss : q.ns = ss at *
                        generalize hsl : ss.length = nn at *
                        have HSL := Lib.hid hsl
                        clear hsl hss
                        generalize wr.heap.size = gq at *
                        by_cases h20 : 20 < nn
                        · go_wp2_with fail
                          go_ret
                          exact HNO.out w6 HBU.out
                        · have d20 : decide ((20 : Int) < (nn : Int)) = false := decide_eq_false (by omega)
                          cases gx : tinyX q.x with
                          | false =>
                            rw [gx] at HX6
                            go_wp2_with fail
                            refine HX6.out.mono ?_
                            rintro e w7 ⟨rfl, hb7⟩
                            have HB7 := Lib.hid (HBU.out.trans (hb7.mono HBU.out.size))
                            clear hb7
                            go_wp2_with fail
                            go_ret
                            exact HNO.out w7 HB7.out
                          | true =>
                            rw [gx] at HX6
                            have HTY := Lib.hid (HTY.out (by omega) gx)
                            go_wp2_with fail
                            refine HX6.out.mono ?_
                            rintro e w7 ⟨rfl, hb7⟩
                            have HB7 := Lib.hid (HBU.out.trans (hb7.mono HBU.out.size))
                            have HB67 := Lib.hid (HB6.out.trans (hb7.mono HB6.out.size))
                            have u0 := HC6.out w7 hb7 0
                            simp only [List.getElem?_toArray, List.getElem?_cons_zero, List.getElem?_cons_succ] at u0
                            have HQT7 := Lib.hid (HQT6.out.below hb7)
                            clear hb7 t0 t1 t2 t3 t4 t5 t6
                            go_wp2_with fail
                            go_loop [7] (fun i => ∃ m : Nat, m ≤ nn ∧ i = .int .i64 m ∧ ∀ a, a < m → (ss[a]?.getD ByteArray.empty).size ≤ 100) (fun i => nn - (intOf i).toNat)
                            case atStart => exact ⟨0, Nat.zero_le _, rfl, fun j hj => absurd hj (by omega)⟩
                            case round =>
                              obtain ⟨m, hm, rfl, hts⟩ := hrel
                              have HTS := Lib.hid hts
                              clear hts
                              by_cases hml : m < nn
                              · obtain ⟨b8, off8, rfl, hb8, hc8⟩ := HQT7.out.at_ hml
                                have hs8 := hc8 m hml
                                clear hc8
                                have HSS := Lib.hid fun (hf : (ss[m]?.getD ByteArray.empty).size ≤ 100) => to_next (P := fun a => (ss[a]?.getD ByteArray.empty).size ≤ 100) HTS.out hf
                                generalize ss[m]?.getD ByteArray.empty = y at hs8 HSS
                                by_cases hy : 100 < y.size
                                · go_wp2_with fail
                                  go_ret
                                  exact HNO.out w7 HB7.out
                                · have HS2 := Lib.hid (HSS.out (by omega))
                                  go_wp2_with fail
                                  go_round
                                  case rel => exact ⟨m + 1, by omega, by go_num, HS2.out⟩
                                  case measure => simp [intOf]; omega
                              · have HS3 := Lib.hid (HSQ.out (HTY.out fun a ha => HTS.out a (by omega)))
                                go_wp2_with fail
                                go_roundw
                                case rel => exact ⟨j + 1, by omega, by go_num, HS3.out, HB67.out⟩
                                case measure => simp [intOf]; omega
                      · have HS4 := Lib.hid (HS.out (HTN.out fun a ha => HTQ.out a (by omega)))
                        have HB8 := Lib.hid (HB4.out.trans (HNQ.out.mono HB4.out.size))
                        go_wp2_with fail
                        go_roundw
                        case rel => exact ⟨k + 1, by omega, by go_num, HS4.out, HB8.out⟩
                        case measure => simp [intOf]; omega
        · have HP := Lib.hid (HTP.out HTE.out (by omega) fun a ha => HT.out a (by omega))
          go_wp2_with fail
          go_ret
          exact HYS.out wr (HB1.out.trans (HNX.out.mono (by omega))) HP.out
end Go.Proofs.YtapnodhgjfbjjaaGreat
