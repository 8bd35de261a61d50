/- Which programs may be: of the document's text. Conditions: a small program. -/
import Derived.Test.YtapnodhgjfbjjaaGreatPgQ
import Derived.Test.YtapnodhgjfbjjaaGreatIdW
namespace Go.Proofs.YtapnodhgjfbjjaaGreat
open Go.RowKit Go.Sort
set_option linter.unusedVariables false
set_option linter.unusedSimpArgs false

theorem tiny_sizeX {x : Ex} (h : tinyX x = true) : sizeX x ≤ 1000000 := by
  simp only [tinyX, Bool.and_eq_true, decide_eq_true_eq] at h
  omega
theorem tiny_shortX {x : Ex} (h : tinyX x = true) : ∀ p ∈ partsX x, ShortP p := by
  simp only [tinyX, Bool.and_eq_true, List.all_eq_true] at h
  exact fun p hp => ShortP.of_few (h.2 p hp)
theorem TinyQ.ok {q : Qn} (h : TinyQ q) : OkQ q := by
  refine ⟨fun s hs => ?_, tiny_sizeX h.2.1, tiny_shortX h.2.1⟩
  obtain ⟨j, hj, rfl⟩ := List.getElem_of_mem hs
  have := h.2.2 j hj
  rw [List.getElem?_eq_getElem hj, Option.getD_some] at this
  unfold maxLen
  omega
theorem fewD_ok {l : List Dc} (h : fewD l = true) : (∀ d ∈ l, OkD d) ∧ l.length ≤ 20 := by
  simp only [fewD, Bool.and_eq_true, List.all_eq_true, decide_eq_true_eq] at h
  refine ⟨fun d hd => ?_, h.2⟩
  have h1 := h.1 d hd
  simp only [dcFew, Bool.and_eq_true, Bool.not_eq_true', decide_eq_false_iff_not] at h1
  unfold OkD maxLen
  omega
theorem TinyN.len {n : Nd} (h : TinyN n) : n.all.length ≤ 60 := by
  have h1 := (fewD_ok h.1).2
  have h2 := (fewD_ok h.2.1).2
  have h3 := (fewD_ok h.2.2.1).2
  rw [all_len]
  omega
theorem TinyN.ok {n : Nd} (h : TinyN n) : OkN n := by
  refine ⟨by have := h.2.2.2.2.1; unfold maxLen; omega, fun d hd => ?_, fun q hq => ?_⟩
  · simp only [Nd.all, List.mem_append] at hd
    rcases hd with (hd | hd) | hd
    · exact (fewD_ok h.1).1 d hd
    · exact (fewD_ok h.2.1).1 d hd
    · exact (fewD_ok h.2.2.1).1 d hd
  · obtain ⟨j, hj, rfl⟩ := List.getElem_of_mem hq
    have := h.2.2.2.2.2 j hj
    rw [List.getElem?_eq_getElem hj, Option.getD_some] at this
    exact this.ok

def rightN (es : Nat) (l : List Nd) : Bool := l.all (nodeB es rightB rightX)
def onceN (l : List Nd) : Bool := l.all fun n => onceS (namesD n.all)
def checkN (p : Pg) : Int :=
  if enumsN p.es = 0 then (if p.ns.length = 0 then 5 else if 6 < p.ns.length then 4 else if p.ns.any manyN then 4 else if rightN p.es.length p.ns then (if onceN p.ns && onceS (p.ns.map Nd.nm) then 0 else 6) else 1) else enumsN p.es
theorem nms_succ {l : List Nd} {k : Nat} (hk : k < l.length) : (l.map Nd.nm).take (k + 1) = (l.map Nd.nm).take k ++ [(l[k]?.getD default).nm] := by
  rw [List.take_add_one, List.getElem?_map, List.getElem?_eq_getElem hk]
  simp
theorem all_take_and {α : Type} [Inhabited α] {f : α → Bool} {l : List α} {k : Nat} (hk : k < l.length) : (l.take (k + 1)).all f = ((l.take k).all f && f (l[k]?.getD default)) := by
  rw [List.take_add_one, List.getElem?_eq_getElem hk, List.all_append]
  simp
theorem any_at_yes {α : Type} [Inhabited α] {f : α → Bool} {l : List α} {k : Nat} (hk : k < l.length) (hf : f (l[k]?.getD default) = true) : l.any f = true := by
  rw [List.getElem?_eq_getElem hk] at hf
  exact List.any_eq_true.2 ⟨_, List.getElem_mem hk, hf⟩
theorem any_no {α : Type} [Inhabited α] {f : α → Bool} {l : List α} (h : ∀ j, j < l.length → f (l[j]?.getD default) = false) : l.any f = false := by
  rw [List.any_eq_false]
  intro a ha
  obtain ⟨j, hj, rfl⟩ := List.getElem_of_mem ha
  have := h j hj
  rw [List.getElem?_eq_getElem hj] at this
  simpa using this
theorem drewN_below {w : World} {m : Nat} : Below w.heap.size w (w.drewN m) := below_drewN (Below.refl _ _) m
/-- A block that an append leaves. -/
theorem cells_grown {w w' : World} {g : Nat} {cs : Array Value} {T : TypeId} {v : Value} (h : w.heap[g]? = some (.cells cs T)) (hgr : w.grownBy w' v.ownBlock) (hne : v.ownBlock ≠ some g) : w'.heap[g]? = some (.cells cs T) :=
  (hgr.block g (Array.getElem?_eq_some_iff.1 h).1 (fun e => hne e.symm)).trans h
theorem cells_at {w w' : World} {g : Nat} {cs : Array Value} {T : TypeId} (h : w.heap[g]? = some (.cells cs T)) (hb : Below w.heap.size w w') (j : Nat) : w'.cell? ⟨g, j, none⟩ = cs[j]? := by
  have hlt : g < w.heap.size := (Array.getElem?_eq_some_iff.1 h).1
  rw [hb.cell (p := ⟨g, j, none⟩) hlt]
  unfold World.cell?
  rw [show w.heap[(⟨g, j, none⟩ : Addr).block]? = _ from h]
  rfl

set_option maxRecDepth 100000 in
set_option maxHeartbeats 8000000 in
theorem refCheck (p : Pg) (E : Option Addr) (ec : Nat) (N : Option Addr) (nc : Nat) (w : World) (h : rdP w p E N) (ht : TinyP p) :
    Calls Tryz.prog 8 #[.agg (pgA p E ec N nc)] w fun e w' => e = .returned (.int .i64 (checkN p)) ∧ Below w.heap.size w w' := by
  have HF := Lib.hid fun w1 hw => pg_facts w p E ec N nc w1 hw h
  have HEC := Lib.hid fun w1 a => refEnums E p.es.length ec p.es w1 a ht.1.ok ht.1.few
  have HND := Lib.hid fun x A1 c1 A2 c2 A3 c3 A4 c4 w1 a b c => refNode E p.es.length ec x A1 c1 A2 c2 A3 c3 A4 c4 w1 (by have := ht.1.1; omega) a b c
  have hmx := RdS.max h.2
  have HE := Lib.hid (show checkN p = if enumsN p.es = 0 then (if p.ns.length = 0 then 5 else if 6 < p.ns.length then 4 else if p.ns.any manyN then 4 else if rightN p.es.length p.ns then (if onceN p.ns && onceS (p.ns.map Nd.nm) then 0 else 6) else 1) else enumsN p.es from rfl)
  have HTN := Lib.hid ht.2.2
  obtain ⟨i0, hi, ji0, ji1, ji2⟩ := info_parts infoString
  unfold pgA
  unfold rightN onceN at HE
  generalize checkN p = out at *
  go_enter Tryz.func8, Tryz.ntmps8
  go_upto_region 1 with (fail)
  generalize hw1 : w.alloc _ = w1
  obtain ⟨hb1, hg, hR1, hcell⟩ := HF.out w1 hw1
  have HB1 := Lib.hid hb1
  have HC := Lib.hid hcell
  have HE1 := Lib.hid (HEC.out w1 hR1.1)
  have HNS := Lib.hid (show RdS 5 NdAt w1 N p.ns.length p.ns from hR1.2)
  simp only [pgA] at HC
  have q0 := HC.out w1 (Below.refl _ _) 0
  simp only [List.getElem?_toArray, List.getElem?_cons_zero, List.getElem?_cons_succ] at q0
  clear hw1 hcell hb1 HF h hR1 HEC ht
  generalize hns : p.ns = ns at *
  generalize hnl : ns.length = n at *
  have HNL := Lib.hid hnl
  generalize p.es.length = ne at *
  generalize enumsN p.es = en at *
  clear hnl hns
  go_wp2_with fail
  refine HE1.out.mono ?_
  rintro e w2 ⟨rfl, hb2⟩
  have HB2 := Lib.hid (HB1.out.trans (hb2.mono (by omega)))
  have HW2 := Lib.hid hb2
  have q1 := HC.out w2 hb2 1
  have q0 := HC.out w2 hb2 0
  have hz2 := hb2.size
  simp only [List.getElem?_toArray, List.getElem?_cons_zero, List.getElem?_cons_succ] at q0 q1
  clear hb2
  by_cases he0 : en = 0
  · subst he0
    rw [if_pos rfl] at HE
    rcases Nat.eq_zero_or_pos n with hn0 | hn0
    · subst hn0
      rw [if_pos rfl] at HE
      go_wp2_with fail
      go_ret
      exact ⟨ret_int HE.out.symm, HB2.out⟩
    · rw [if_neg (by omega)] at HE
      have dn0 : ((n : Int) == 0) = false := by rw [beq_eq_false_iff_ne]; omega
      by_cases hn6 : 6 < n
      · rw [if_pos hn6] at HE
        go_wp2_with fail
        go_ret
        exact ⟨ret_int HE.out.symm, HB2.out⟩
      · rw [if_neg hn6] at HE
        have d6 : decide ((6 : Int) < (n : Int)) = false := decide_eq_false (by omega)
        have hr3 := Lib.hid (World.ownsRow_lit (base := w2.heap.size) (e := 9) (size := 1) w2 #[] 0 (Nat.le_refl _) (by decide) rfl)
        have HB0 := Lib.hid (HW2.out.alloc HW2.out.size (.cells #[] 9))
        go_wp2_with fail
        go_loopw [4, 5, 6, 7] (fun v r o i wr => ∃ k : Nat, k ≤ n ∧ i = .int .i64 k ∧ wr.ownsRow w2.heap.size 9 1 v k (((ns.map Nd.nm).take k).map Value.string) ∧ r = .bool ((ns.take k).all (nodeB ne rightB rightX)) ∧ o = .bool ((ns.take k).all fun n => onceS (namesD n.all)) ∧ (∀ j, j < k → manyN (ns[j]?.getD default) = false) ∧ Below w1.heap.size w1 wr ∧ w2.heap.size ≤ wr.heap.size) (fun _ _ _ i _ => n - (intOf i).toNat)
        case atStart => exact ⟨0, Nat.zero_le _, rfl, hr3.out, rfl, rfl, fun j hj => absurd hj (by omega), HB0.out, by simp⟩
        case round =>
          obtain ⟨k, hk, rfl, hrow, rfl, rfl, hmn, hnx, hzr⟩ := hrel
          have HROW := Lib.hid hrow
          have HMN := Lib.hid hmn
          have HNX := Lib.hid hnx
          have hz := hnx.size
          have q0 := HC.out wr hnx 0
          have q1 := HC.out wr hnx 1
          simp only [List.getElem?_toArray, List.getElem?_cons_zero, List.getElem?_cons_succ] at q0 q1
          clear hmn hrow hr3 HB0
          by_cases hlt : k < n
          · obtain ⟨b, off, rfl, hb, hc⟩ := RdS.at_ HNS.out (by omega)
            have hnd := hc k hlt
            clear hc
            have hnm := nms_succ (l := ns) (k := k) (by rw [HNL.out]; exact hlt)
            have hal := all_take_and (f := nodeB ne rightB rightX) (l := ns) (k := k) (by rw [HNL.out]; exact hlt)
            have hon := all_take_and (f := fun n => onceS (namesD n.all)) (l := ns) (k := k) (by rw [HNL.out]; exact hlt)
            have hty := HTN.out k hlt
            have HAY := Lib.hid fun hf => any_at_yes (l := ns) (f := manyN) (k := k) (by rw [HNL.out]; exact hlt) hf
            have HS := Lib.hid fun (hf : manyN (ns[k]?.getD default) = false) => to_next (P := fun j => manyN (ns[j]?.getD default) = false) HMN.out hf
            generalize ns[k]?.getD default = x at hnd hnm hal hon hty HAY HS
            have HNM := Lib.hid hnm
            have HAL := Lib.hid hal
            have HON := Lib.hid hon
            have HTY := Lib.hid hty
            have hlen := hty.len
            have HMB := Lib.hid (show manyN x = (decide ((6 : Int) < (x.ins.length : Int)) || decide ((6 : Int) < (x.outs.length : Int)) || decide ((12 : Int) < (x.vars.length : Int)) || decide ((18 : Int) < (x.eqs.length : Int))) by
              have hd : ∀ a b : Nat, decide ((a : Int) < (b : Int)) = decide (a < b) := fun a b => by simp
              have h6 := hd 6
              have h12 := hd 12
              have h18 := hd 18
              simp only [manyN] at *
              rw [← h6, ← h6, ← h12, ← h18]
              rfl)
            clear hnm hal hon hty
            obtain ⟨A1, c1, A2, c2, A3, c3, A4, c4, hrd, e0, e1, e2, e3, e4⟩ := hnd.five
            have p10 := (hnx.cell (p := ⟨b, off + k * 5, none⟩) hb).trans e0
            have p11 := (hnx.cell (p := ⟨b, off + k * 5 + 1, none⟩) hb).trans e1
            have p12 := (hnx.cell (p := ⟨b, off + k * 5 + 2, none⟩) hb).trans e2
            have p13 := (hnx.cell (p := ⟨b, off + k * 5 + 3, none⟩) hb).trans e3
            have p14 := (hnx.cell (p := ⟨b, off + k * 5 + 4, none⟩) hb).trans e4
            have HRD := Lib.hid fun w' (hb : Below w1.heap.size w1 w') => hrd.below hb
            have HXN := Lib.hid fun w' hb => HND.out x A1 c1 A2 c2 A3 c3 A4 c4 w' (HRD.out w' hb) HTY.out.ok (by have := HTY.out.len; omega)
            have HXA := Lib.hid fun w' hb => refAllD x A1 c1 A2 c2 A3 c3 A4 c4 w' (HRD.out w' hb) (by have := HTY.out.len; omega)
            have HBX := Lib.hid fun zc w4 (hw : (wr.alloc (.cells zc 36)).setRow wr.heap.size (ndA x A1 c1 A2 c2 A3 c3 A4 c4) = w4) => (show w4.heap[wr.heap.size]? = some (.cells (ndA x A1 c1 A2 c2 A3 c3 A4 c4) 36) ∧ Below wr.heap.size wr w4 from ⟨by rw [← hw]; exact setRow_heap _ _ _ _ _ _ (heap_alloc_new _ _), (box_store hw).1⟩)
            unfold ndA at HXN HXA
            clear e0 e1 e2 e3 e4 hrd hnd hnx
            go_upto_region 13 with (refine wpList_store_row rfl _ _ _ rfl wr.heap.size _ rfl rfl _ _ (heap_alloc_new _ _) ndinfo rfl (by simp [Value.oneCell']) ?_)
            generalize hw4 : World.setRow _ _ _ = w4
            obtain ⟨hh4, hb4⟩ := HBX.out _ w4 hw4
            have HH4 := Lib.hid hh4
            have HB4 := Lib.hid (HNX.out.trans (hb4.mono hz))
            have HROW4 := Lib.hid (own_belowX HROW.out hb4)
            have hz4 := hb4.size
            have hg4 : wr.heap.size < w4.heap.size := (Array.getElem?_eq_some_iff.1 hh4).1
            have r0 := cells_at hh4 (Below.refl _ _) 0
            have r1 := cells_at hh4 (Below.refl _ _) 1
            have r2 := cells_at hh4 (Below.refl _ _) 2
            have r3 := cells_at hh4 (Below.refl _ _) 3
            have r4 := cells_at hh4 (Below.refl _ _) 4
            simp only [ndA, List.getElem?_toArray, List.getElem?_cons_zero, List.getElem?_cons_succ] at r0 r1 r2 r3 r4
            have HNE := Lib.hid (show u4.ownBlock ≠ some wr.heap.size from fun e => by have := (HROW.out.lt _ e).2; omega)
            clear hw4 hh4 hb4 HBX p10 p11 p12 p13 p14 q0 q1
            generalize wr.heap.size = gb at *
            cases m1 : decide ((6 : Int) < (x.ins.length : Int)) with
            | true =>
              rw [m1] at HMB
              go_wp2_with fail
              go_ret
              exact ⟨ret_int (by rw [HE.out, HAY.out (by rw [HMB.out]; rfl)]; rfl), HB1.out.trans (HB4.out.mono (by omega))⟩
            | false =>
              rw [m1] at HMB
              cases m2 : decide ((6 : Int) < (x.outs.length : Int)) with
              | true =>
                rw [m2] at HMB
                go_wp2_with fail
                go_ret
                exact ⟨ret_int (by rw [HE.out, HAY.out (by rw [HMB.out]; rfl)]; rfl), HB1.out.trans (HB4.out.mono (by omega))⟩
              | false =>
                rw [m2] at HMB
                cases m3 : decide ((12 : Int) < (x.vars.length : Int)) with
                | true =>
                  rw [m3] at HMB
                  go_wp2_with fail
                  go_ret
                  exact ⟨ret_int (by rw [HE.out, HAY.out (by rw [HMB.out]; rfl)]; rfl), HB1.out.trans (HB4.out.mono (by omega))⟩
                | false =>
                  rw [m3] at HMB
                  cases m4 : decide ((18 : Int) < (x.eqs.length : Int)) with
                  | true =>
                    rw [m4] at HMB
                    go_wp2_with fail
                    go_ret
                    exact ⟨ret_int (by rw [HE.out, HAY.out (by rw [HMB.out]; rfl)]; rfl), HB1.out.trans (HB4.out.mono (by omega))⟩
                  | false =>
                    rw [m4] at HMB
                    have HM2 := Lib.hid (HS.out (by rw [HMB.out]; rfl))
                    go_upto_region 16 with (at_builtin; refine wpList_append_own_at _ rfl _ _ 38 rfl w2.heap.size 9 i0 (.string ByteArray.empty) 1 16 Tryz.underlying38 hi ji0 ji1 ji2 rfl (by decide) _ _ _ rfl (HROW4.out.alloc _) ⟨w4.heap.size, 0, none⟩ 1 1 [.string x.nm] rfl rfl (cell_one_new _ _ _) (string_cells [x.nm]) (by unfold maxLen; omega) (by omega) (by simp; omega) ?_; intro v' w5 hown' hgrow hnil hloc; have HO5 := Lib.hid hown'; have HG5 := Lib.hid hgrow; clear hown' hgrow hnil hloc)
                    have HB5 := Lib.hid ((HB4.out.alloc HB4.out.size (.cells #[.string x.nm] 9)).grown HG5.out (by have := HB4.out.size; simp; omega) (fun j hj => by have := (HROW4.out.lt j hj).1; omega))
                    have hh5 := cells_grown ((Below.heap_alloc w4 (.cells #[.string x.nm] 9) gb hg4).trans HH4.out) HG5.out HNE.out
                    have HH5 := Lib.hid hh5
                    have hz5 := HB5.out.size
                    have hz45 := HG5.out.size
                    simp at hz45
                    have s0 := cells_at hh5 (Below.refl _ _) 0
                    have s1 := cells_at hh5 (Below.refl _ _) 1
                    have s2 := cells_at hh5 (Below.refl _ _) 2
                    have s3 := cells_at hh5 (Below.refl _ _) 3
                    have s4 := cells_at hh5 (Below.refl _ _) 4
                    have s5 := HC.out w5 HB5.out 0
                    simp only [ndA, List.getElem?_toArray, List.getElem?_cons_zero, List.getElem?_cons_succ] at s0 s1 s2 s3 s4 s5
                    clear r0 r1 r2 r3 r4 hh5
                    cases hr : (ns.take k).all (nodeB ne rightB rightX) with
                    | false =>
                      cases ho : (ns.take k).all (fun n => onceS (namesD n.all)) with
                      | false =>
                        have HRE := Lib.hid HO5.out
                        have HBE := Lib.hid HB5.out
                        go_wp2_with fail
                        go_roundw
                        case rel =>
                          refine ⟨k + 1, by omega, by go_num, ?_, ?_, ?_, HM2.out, HBE.out, by omega⟩
                          · rw [HNM.out, List.map_append]
                            exact HRE.out
                          · rw [HAL.out, hr]
                            rfl
                          · rw [HON.out, ho]
                            rfl
                        case measure => simp [intOf]; omega
                      | true =>
                        have HRE := Lib.hid HO5.out
                        have HBE := Lib.hid HB5.out
                        go_wp2_with fail
                        have HXA6 := Lib.hid (HXA.out _ HBE.out)
                        refine HXA6.out.mono ?_
                        rintro e w7 ⟨A9, c9, rfl, hr7, hb7⟩
                        have HBE := Lib.hid (HBE.out.trans (hb7.mono HBE.out.size))
                        have HRE := Lib.hid (own_belowX HRE.out hb7)
                        have hzz7 := hb7.size
                        have HN7 := Lib.hid (refNamesD A9 x.all.length c9 x.all _ hr7 (by omega))
                        clear hr7 hb7 s0 s1 s2 s3 s4 s5
                        go_wp2_with fail
                        refine HN7.out.mono ?_
                        rintro e w8 ⟨A10, c10, rfl, hr8, hb8⟩
                        have HBE := Lib.hid (HBE.out.trans (hb8.mono HBE.out.size))
                        have HRE := Lib.hid (own_belowX HRE.out hb8)
                        have hzz8 := hb8.size
                        have HN8 := Lib.hid (refOnce A10 x.all.length c10 (namesD x.all) _ hr8 (by omega))
                        clear hr8 hb8
                        go_wp2_with fail
                        refine HN8.out.mono ?_
                        rintro e w9 ⟨rfl, md, rfl⟩
                        have hzz9 : w8.heap.size ≤ (w8.drewN md).heap.size := Nat.le_refl _
                        have HBE := Lib.hid (HBE.out.trans ((drewN_below (m := md)).mono HBE.out.size))
                        have HRE := Lib.hid (own_belowX HRE.out (drewN_below (m := md)))
                        go_wp2_with fail
                        go_roundw
                        case rel =>
                          refine ⟨k + 1, by omega, by go_num, ?_, ?_, ?_, HM2.out, HBE.out, by omega⟩
                          · rw [HNM.out, List.map_append]
                            exact HRE.out
                          · rw [HAL.out, hr]
                            rfl
                          · rw [HON.out, ho]
                            rfl
                        case measure => simp [intOf]; omega
                    | true =>
                      cases ho : (ns.take k).all (fun n => onceS (namesD n.all)) with
                      | false =>
                        have HXN5 := Lib.hid (HXN.out w5 HB5.out)
                        go_wp2_with fail
                        refine HXN5.out.mono ?_
                        rintro e w6 ⟨rfl, hb6⟩
                        have HBE := Lib.hid (HB5.out.trans (hb6.mono HB5.out.size))
                        have HRE := Lib.hid (own_belowX HO5.out hb6)
                        have hzz6 := hb6.size
                        have t0 := cells_at HH5.out hb6 0
                        have t1 := cells_at HH5.out hb6 1
                        have t2 := cells_at HH5.out hb6 2
                        have t3 := cells_at HH5.out hb6 3
                        have t4 := cells_at HH5.out hb6 4
                        simp only [ndA, List.getElem?_toArray, List.getElem?_cons_zero, List.getElem?_cons_succ] at t0 t1 t2 t3 t4
                        clear hb6 s0 s1 s2 s3 s4 s5
                        go_wp2_with fail
                        go_roundw
                        case rel =>
                          refine ⟨k + 1, by omega, by go_num, ?_, ?_, ?_, HM2.out, HBE.out, by omega⟩
                          · rw [HNM.out, List.map_append]
                            exact HRE.out
                          · rw [HAL.out, hr]
                            rfl
                          · rw [HON.out, ho]
                            rfl
                        case measure => simp [intOf]; omega
                      | true =>
                        have HXN5 := Lib.hid (HXN.out w5 HB5.out)
                        go_wp2_with fail
                        refine HXN5.out.mono ?_
                        rintro e w6 ⟨rfl, hb6⟩
                        have HBE := Lib.hid (HB5.out.trans (hb6.mono HB5.out.size))
                        have HRE := Lib.hid (own_belowX HO5.out hb6)
                        have hzz6 := hb6.size
                        have t0 := cells_at HH5.out hb6 0
                        have t1 := cells_at HH5.out hb6 1
                        have t2 := cells_at HH5.out hb6 2
                        have t3 := cells_at HH5.out hb6 3
                        have t4 := cells_at HH5.out hb6 4
                        simp only [ndA, List.getElem?_toArray, List.getElem?_cons_zero, List.getElem?_cons_succ] at t0 t1 t2 t3 t4
                        clear hb6 s0 s1 s2 s3 s4 s5
                        go_wp2_with fail
                        have HXA6 := Lib.hid (HXA.out _ HBE.out)
                        refine HXA6.out.mono ?_
                        rintro e w7 ⟨A9, c9, rfl, hr7, hb7⟩
                        have HBE := Lib.hid (HBE.out.trans (hb7.mono HBE.out.size))
                        have HRE := Lib.hid (own_belowX HRE.out hb7)
                        have hzz7 := hb7.size
                        have HN7 := Lib.hid (refNamesD A9 x.all.length c9 x.all _ hr7 (by omega))
                        clear hr7 hb7 t0 t1 t2 t3 t4
                        go_wp2_with fail
                        refine HN7.out.mono ?_
                        rintro e w8 ⟨A10, c10, rfl, hr8, hb8⟩
                        have HBE := Lib.hid (HBE.out.trans (hb8.mono HBE.out.size))
                        have HRE := Lib.hid (own_belowX HRE.out hb8)
                        have hzz8 := hb8.size
                        have HN8 := Lib.hid (refOnce A10 x.all.length c10 (namesD x.all) _ hr8 (by omega))
                        clear hr8 hb8
                        go_wp2_with fail
                        refine HN8.out.mono ?_
                        rintro e w9 ⟨rfl, md, rfl⟩
                        have hzz9 : w8.heap.size ≤ (w8.drewN md).heap.size := Nat.le_refl _
                        have HBE := Lib.hid (HBE.out.trans ((drewN_below (m := md)).mono HBE.out.size))
                        have HRE := Lib.hid (own_belowX HRE.out (drewN_below (m := md)))
                        go_wp2_with fail
                        go_roundw
                        case rel =>
                          refine ⟨k + 1, by omega, by go_num, ?_, ?_, ?_, HM2.out, HBE.out, by omega⟩
                          · rw [HNM.out, List.map_append]
                            exact HRE.out
                          · rw [HAL.out, hr]
                            rfl
                          · rw [HON.out, ho]
                            rfl
                        case measure => simp [intOf]; omega
          · obtain rfl : k = n := by omega
            have hta : ∀ f : Nd → Bool, (ns.take k).all f = ns.all f := fun f => by rw [List.take_of_length_le (by rw [HNL.out]; exact Nat.le_refl _)]
            have HAN := Lib.hid (any_no (l := ns) (f := manyN) fun j hj => HMN.out j (by rw [← HNL.out]; exact hj))
            rw [HAN.out, if_neg (by simp)] at HE
            have hrw := HROW.out
            rw [List.take_of_length_le (by rw [List.length_map, HNL.out]; exact Nat.le_refl _)] at hrw
            obtain ⟨A9, c9, rfl, hR9, _⟩ := RdT.of_own hrw (by omega)
            have HO9 := Lib.hid (refOnce A9 k c9 (ns.map Nd.nm) wr hR9 (by omega))
            have HBE := Lib.hid (HB1.out.trans (HNX.out.mono (by omega)))
            rw [hta, hta]
            clear hta hrw hR9 hnx
            cases hr : ns.all (nodeB ne rightB rightX) with
            | false =>
              rw [hr] at HE
              go_wp2_with fail
              go_ret
              exact ⟨ret_int (by rw [HE.out]; rfl), HBE.out⟩
            | true =>
              rw [hr, if_pos rfl] at HE
              cases ho : ns.all (fun n => onceS (namesD n.all)) with
              | false =>
                rw [ho] at HE
                go_wp2_with fail
                go_ret
                exact ⟨ret_int (by rw [HE.out]; rfl), HBE.out⟩
              | true =>
                rw [ho, Bool.true_and] at HE
                cases hx : onceS (ns.map Nd.nm) with
                | false =>
                  rw [hx] at HE HO9
                  go_wp2_with fail
                  refine HO9.out.mono ?_
                  rintro e w9 ⟨rfl, md, rfl⟩
                  have HBE := Lib.hid (HBE.out.trans ((drewN_below (m := md)).mono HBE.out.size))
                  go_wp2_with fail
                  go_ret
                  exact ⟨ret_int (by rw [HE.out]; rfl), HBE.out⟩
                | true =>
                  rw [hx, if_pos rfl] at HE
                  rw [hx] at HO9
                  go_wp2_with fail
                  refine HO9.out.mono ?_
                  rintro e w9 ⟨rfl, md, rfl⟩
                  have HBE := Lib.hid (HBE.out.trans ((drewN_below (m := md)).mono HBE.out.size))
                  go_wp2_with fail
                  go_ret
                  exact ⟨ret_int HE.out.symm, HBE.out⟩
  · rw [if_neg he0] at HE
    have de : (en == 0) = false := by rw [beq_eq_false_iff_ne]; exact he0
    go_wp2_with fail
    go_ret
    exact ⟨ret_int HE.out.symm, HB2.out⟩
end Go.Proofs.YtapnodhgjfbjjaaGreat
