/- May an equation be: of the document's text. Conditions: at most 1000000 parts, short names. May a node be: of the document's text. Conditions: at most 1000 variables, texts and parts as the calls want them. Where a node is: of the document's text. Conditions: none. -/
import Derived.Test.YtapnodhgjfbjjaaGreatPgD
import Derived.Test.YtapnodhgjfbjjaaGreatExV
namespace Go.Proofs.YtapnodhgjfbjjaaGreat
open Go.RowKit
set_option linter.unusedVariables false
set_option linter.unusedSimpArgs false

def qnA (q : Qn) (A : Option Addr) (c : Nat) (A' : Option Addr) (ca : Nat) (B' : Option Addr) (cb : Nat) : Array Value :=
  #[.slice A q.ns.length c, .int .i64 q.x.k, .int .i64 q.x.n, .string q.x.s, .int .i64 q.x.op, .slice A' q.x.arms.length ca, .slice B' q.x.subs.length cb]
/-- What an equation's texts and parts are, for the calls that read them. -/
def OkQ (q : Qn) : Prop := (∀ s ∈ q.ns, s.size ≤ maxLen) ∧ sizeX q.x ≤ 1000000 ∧ ∀ p ∈ partsX q.x, ShortP p
theorem qn_facts (w : World) (q : Qn) (A : Option Addr) (c : Nat) (A' : Option Addr) (ca : Nat) (B' : Option Addr) (cb : Nat) (w1 : World) (h : w.alloc (.cells (qnA q A c A' ca B' cb) 43) = w1) (hr : RdT w A q.ns.length q.ns) (hx : rdX w q.x A' B') :
    Below w.heap.size w w1 ∧ w1.heap.size = w.heap.size + 1 ∧ RdT w1 A q.ns.length q.ns ∧ rdX w1 q.x A' B' ∧ ∀ w', Below w1.heap.size w1 w' → ∀ j, w'.cell? ⟨w.heap.size, j, none⟩ = (qnA q A c A' ca B' cb)[j]? := by
  subst h
  have hb := (Below.refl w.heap.size w).alloc (Nat.le_refl _) (.cells (qnA q A c A' ca B' cb) 43)
  refine ⟨hb, by simp, hr.below hb, hx.below hb, fun w' hb j => ?_⟩
  rw [hb.cell (p := ⟨w.heap.size, j, none⟩) (by simp), World.cell?_alloc_new]
theorem getD_mem {ss : List ByteArray} {k : Nat} (h : k < ss.length) : ss[k]?.getD ByteArray.empty ∈ ss := by
  rw [List.getElem?_eq_getElem h]
  exact List.getElem_mem _

set_option maxRecDepth 100000 in
set_option maxHeartbeats 8000000 in
theorem refEq (q : Qn) (A : Option Addr) (c : Nat) (A' : Option Addr) (ca : Nat) (B' : Option Addr) (cb : Nat) (w : World) (hr : RdT w A q.ns.length q.ns) (hx : rdX w q.x A' B') (hok : OkQ q) :
    Calls Tryz.prog 50 #[.agg (qnA q A c A' ca B' cb)] w fun e w' => e = .returned (.bool (eqB rightX q)) ∧ Below w.heap.size w w' := by
  have HF := Lib.hid fun w1 h => qn_facts w q A c A' ca B' cb w1 h hr hx
  have HE := Lib.hid (show eqB rightX q = (q.ns.all (fun s => lowB s.data.toList) && decide (0 < q.ns.length) && rightX q.x && (decide (q.ns.length = 1) || q.x.k == 13)) from rfl)
  have hmx := hr.max
  have HOK := Lib.hid hok
  have HRX := Lib.hid fun w1 (h : rdX w1 q.x A' B') => refRight q.x A' ca B' cb w1 h hok.2.1 hok.2.2
  have hlen : q.ns.length = q.ns.length := rfl
  unfold qnA
  unfold exA at HRX
  generalize eqB rightX q = out at *
  go_enter Tryz.func50, Tryz.ntmps50
  go_upto_region 1 with (fail)
  generalize hw1 : w.alloc _ = w1
  obtain ⟨hb1, hg, hR1, hX1, hcell⟩ := HF.out w1 hw1
  have HB1 := Lib.hid hb1
  have HC := Lib.hid hcell
  have HR1 := Lib.hid hR1
  have HX1 := Lib.hid hX1
  simp only [qnA] at HC
  clear hw1 hcell hb1 HF hr hx hR1 hX1 hok
  have HNS := Lib.hid (show (q.ns.all fun s => lowB s.data.toList) = q.ns.all (fun s => lowB s.data.toList) from rfl)
  generalize hss : q.ns = ss at *
  generalize hnn : ss.length = n at *
  have HNN := Lib.hid hnn
  generalize q.x.k = xk at *
  generalize q.x.n = xn at *
  generalize q.x.s = xs at *
  generalize q.x.op = xo at *
  generalize q.x.arms.length = xa at *
  generalize q.x.subs.length = xb at *
  clear hnn hlen
  go_wp2_with fail
  go_loopw [3] (fun i wr => ∃ k : Nat, k ≤ n ∧ i = .int .i64 k ∧ ((ss.take k).all fun s => lowB s.data.toList) = true ∧ Below w1.heap.size w1 wr) (fun i _ => n - (intOf i).toNat)
  case atStart => exact ⟨0, Nat.zero_le _, rfl, by simp, Below.refl _ _⟩
  case round =>
    obtain ⟨k, hk, rfl, hto, hnx⟩ := hrel
    have HT := Lib.hid hto
    have HNX := Lib.hid hnx
    have q0 := HC.out wr hnx 0
    simp only [List.getElem?_toArray, List.getElem?_cons_zero, List.getElem?_cons_succ] at q0
    clear hto
    by_cases hlt : k < n
    · obtain ⟨b, off, rfl, hb, hc⟩ := (HR1.out.below hnx).at_ hlt
      have c0 := hc k hlt
      clear hc hnx
      have hz := HOK.out.1 (ss[k]?.getD ByteArray.empty) (by rw [hss]; exact getD_mem (by rw [HNN.out]; exact hlt))
      have HS := Lib.hid fun hf => all_take_step (l := ss) (f := fun s => lowB s.data.toList) HT.out (by rw [HNN.out]; exact hlt) hf
      have HN := Lib.hid fun hf => all_at_no (l := ss) (f := fun s => lowB s.data.toList) (k := k) (by rw [HNN.out]; exact hlt) hf
      unfold maxLen at hz
      rw [show (default : ByteArray) = ByteArray.empty from rfl] at HS HN
      generalize ss[k]?.getD ByteArray.empty = x at c0 hz HS HN
      cases hl : lowB x.data.toList with
      | true =>
        have HS2 := Lib.hid (HS.out hl)
        go_wp2_with fail
        refine (refLow x wr (by omega)).mono ?_
        rw [hl]
        rintro e w2 ⟨rfl, hb2⟩
        have HB2 := Lib.hid (HNX.out.trans (hb2.mono HNX.out.size))
        clear hb2
        go_wp2_with fail
        go_roundw
        case rel => exact ⟨k + 1, by omega, by go_num, HS2.out, HB2.out⟩
        case measure => simp [intOf]; omega
      | false =>
        have HN2 := Lib.hid (HN.out hl)
        go_wp2_with fail
        refine (refLow x wr (by omega)).mono ?_
        rw [hl]
        rintro e w2 ⟨rfl, hb2⟩
        have HB2 := Lib.hid (HNX.out.trans (hb2.mono HNX.out.size))
        clear hb2
        go_wp2_with fail
        go_ret
        exact ⟨ret_bool (by rw [HE.out, HN2.out]; rfl), HB1.out.trans (HB2.out.mono (by omega))⟩
    · obtain rfl : k = n := by omega
      have HY := Lib.hid (show (ss.all fun s => lowB s.data.toList) = true by have := HT.out; rwa [List.take_of_length_le (by rw [HNN.out]; exact Nat.le_refl _)] at this)
      rw [HY.out, Bool.true_and] at HE
      have q1 := HC.out wr hnx 1
      have q2 := HC.out wr hnx 2
      have q3 := HC.out wr hnx 3
      have q4 := HC.out wr hnx 4
      have q5 := HC.out wr hnx 5
      have q6 := HC.out wr hnx 6
      simp only [List.getElem?_toArray, List.getElem?_cons_zero, List.getElem?_cons_succ] at q1 q2 q3 q4 q5 q6
      have HBW := Lib.hid (HB1.out.trans (hnx.mono (by omega)))
      have HR2 := Lib.hid (HRX.out wr (HX1.out.below hnx))
      clear hnx
      rcases Nat.eq_zero_or_pos k with h0 | h0
      · subst h0
        go_wp2_with fail
        go_ret
        exact ⟨ret_bool (by rw [HE.out]; simp), HBW.out⟩
      · have d0 : decide ((0 : Int) < (k : Int)) = true := decide_eq_true (by omega)
        rw [decide_eq_true h0, Bool.true_and] at HE
        cases hrx : rightX q.x with
        | false =>
          rw [hrx] at HR2 HE
          go_wp2_with fail
          refine HR2.out.mono ?_
          rintro e w2 ⟨rfl, hb2⟩
          have HB2 := Lib.hid (below_next HBW.out hb2)
          clear hb2
          go_wp2_with fail
          go_ret
          exact ⟨ret_bool (by rw [HE.out]; rfl), HB2.out⟩
        | true =>
          rw [hrx, Bool.true_and] at HE
          rw [hrx] at HR2
          go_wp2_with fail
          refine HR2.out.mono ?_
          rintro e w2 ⟨rfl, hb2⟩
          have HB2 := Lib.hid (below_next HBW.out hb2)
          have r0 := (hb2.cell (p := ⟨w.heap.size, 0, none⟩) (World.block_lt_of_cell? _ _ q0)).trans q0
          have r1 := (hb2.cell (p := ⟨w.heap.size, 1, none⟩) (World.block_lt_of_cell? _ _ q1)).trans q1
          clear hb2 q0 q1 q2 q3 q4 q5 q6
          cases d1 : ((k : Int) == 1) with
          | true =>
            have HE2 := Lib.hid (show out = true by rw [HE.out, show decide (k = 1) = true by have := eq_of_beq d1; exact decide_eq_true (by omega)]; rfl)
            go_wp2_with fail
            go_ret
            exact ⟨ret_bool (by rw [HE2.out]), HB2.out⟩
          | false =>
            have HE2 := Lib.hid (show out = (xk == 13) by rw [HE.out, show decide (k = 1) = false by have := ne_of_beq_false d1; exact decide_eq_false (by omega)]; rfl)
            go_wp2_with fail
            go_ret
            exact ⟨ret_bool (by rw [HE2.out]), HB2.out⟩
end Go.Proofs.YtapnodhgjfbjjaaGreat

namespace Go.Proofs.YtapnodhgjfbjjaaGreat
open Go.RowKit Go.Sort
set_option linter.unusedVariables false
set_option linter.unusedSimpArgs false

def OkN (n : Nd) : Prop := n.nm.size ≤ maxLen ∧ (∀ d ∈ n.all, OkD d) ∧ ∀ q ∈ n.eqs, OkQ q
def ndAtB (es io i : Nat) (d : Dc) : Bool := declB es rightB d && !(decide (i < io) && !noB d.on)
theorem getD_memA {α : Type} [Inhabited α] {l : List α} {k : Nat} (h : k < l.length) : l[k]?.getD default ∈ l := by
  rw [List.getElem?_eq_getElem h]
  exact List.getElem_mem _
theorem all_io {n : Nd} {i : Nat} (h : i < n.ins.length + n.outs.length) : n.all[i]?.getD default = (n.ins ++ n.outs)[i]?.getD default := by
  rw [Nd.all, List.getElem?_append_left (by rw [List.length_append]; exact h)]
theorem node_yes {n : Nd} {es : Nat} (h : ∀ i, i < n.all.length → ndAtB es (n.ins.length + n.outs.length) i (n.all[i]?.getD default) = true) : (n.all.all (declB es rightB) && portsB n) = true := by
  rw [Bool.and_eq_true]
  constructor
  · rw [List.all_eq_true]
    intro d hd
    obtain ⟨i, hi, rfl⟩ := List.getElem_of_mem hd
    have := h i hi
    rw [List.getElem?_eq_getElem hi, Option.getD_some, ndAtB, Bool.and_eq_true] at this
    exact this.1
  · rw [portsB, List.all_eq_true]
    intro d hd
    obtain ⟨i, hi, rfl⟩ := List.getElem_of_mem hd
    have hl : i < n.ins.length + n.outs.length := by rw [← List.length_append]; exact hi
    have := h i (by rw [all_len]; omega)
    rw [all_io hl, List.getElem?_eq_getElem hi, Option.getD_some, ndAtB, Bool.and_eq_true, decide_eq_true hl] at this
    simpa using this.2
theorem node_no {n : Nd} {es i : Nat} (hi : i < n.all.length) (h : ndAtB es (n.ins.length + n.outs.length) i (n.all[i]?.getD default) = false) : (n.all.all (declB es rightB) && portsB n) = false := by
  rw [Bool.and_eq_false_iff]
  rw [ndAtB, Bool.and_eq_false_iff] at h
  rcases h with h | h
  · exact .inl (all_at_no hi h)
  · right
    have h2 : (decide (i < n.ins.length + n.outs.length) && !noB (n.all[i]?.getD default).on) = true := by simpa using h
    rw [Bool.and_eq_true, decide_eq_true_eq] at h2
    rw [portsB]
    refine all_at_no (k := i) (by rw [List.length_append]; exact h2.1) ?_
    rw [← all_io h2.1]
    simpa using h2.2

/-- An equation's seven cells, one by one. -/
theorem QnAt.seven {w : World} {b o : Nat} {q : Qn} (h : QnAt w b o q) : ∃ A c A' ca B' cb, RdT w A q.ns.length q.ns ∧ rdX w q.x A' B' ∧
    w.cell? ⟨b, o, none⟩ = some (.slice A q.ns.length c) ∧ w.cell? ⟨b, o + 1, none⟩ = some (.int .i64 q.x.k) ∧ w.cell? ⟨b, o + 2, none⟩ = some (.int .i64 q.x.n) ∧ w.cell? ⟨b, o + 3, none⟩ = some (.string q.x.s) ∧ w.cell? ⟨b, o + 4, none⟩ = some (.int .i64 q.x.op) ∧
      w.cell? ⟨b, o + 5, none⟩ = some (.slice A' q.x.arms.length ca) ∧ w.cell? ⟨b, o + 6, none⟩ = some (.slice B' q.x.subs.length cb) := by
  obtain ⟨A, c, A', ca, B', cb, h1, h2, h3, h4⟩ := h
  obtain ⟨r0, r1, r2, r3, r4, r5⟩ := rangeAt_six h3
  exact ⟨A, c, A', ca, B', cb, h2, h4, h1, r0, r1, r2, r3, r4, r5⟩

set_option maxRecDepth 100000 in
set_option maxHeartbeats 8000000 in
theorem refNode (E : Option Addr) (es ec : Nat) (x : Nd) (A1 : Option Addr) (c1 : Nat) (A2 : Option Addr) (c2 : Nat) (A3 : Option Addr) (c3 : Nat) (A4 : Option Addr) (c4 : Nat) (w : World) (hes : es ≤ 9223372036854775807) (h : rdN w x A1 A2 A3 A4) (hok : OkN x) (hn : x.all.length ≤ 1000) :
    Calls Tryz.prog 22 #[.slice E es ec, .agg (ndA x A1 c1 A2 c2 A3 c3 A4 c4)] w fun e w' => e = .returned (.bool (nodeB es rightB rightX x)) ∧ Below w.heap.size w w' := by
  have HF := Lib.hid fun w1 hw => nd_facts w x A1 c1 A2 c2 A3 c3 A4 c4 w1 hw h
  have HAL := Lib.hid fun w1 (hw : rdN w1 x A1 A2 A3 A4) => refAllD x A1 c1 A2 c2 A3 c3 A4 c4 w1 hw hn
  have HE := Lib.hid (show nodeB es rightB rightX x = ((x.all.all (declB es rightB) && portsB x) && x.eqs.all (eqB rightX) && lowB x.nm.data.toList && decide (0 < x.outs.length)) from rfl)
  have hio : x.ins.length + x.outs.length ≤ 1000 := by have := all_len x; omega
  have HOK := Lib.hid hok
  have HYES := Lib.hid (fun hh => node_yes (n := x) (es := es) hh)
  have HNO := Lib.hid (fun i hi hh => node_no (n := x) (es := es) (i := i) hi hh)
  have hmx := RdS.max h.2.2.2
  have HLN := Lib.hid fun w1 => refLow x.nm w1 (by have := hok.1; unfold maxLen at this; omega)
  unfold ndA at HAL ⊢
  generalize nodeB es rightB rightX x = out at *
  go_enter Tryz.func22, Tryz.ntmps22
  go_upto_region 1 with (fail)
  generalize hw1 : w.alloc _ = w1
  obtain ⟨hb1, hg, hR1, hcell⟩ := HF.out w1 hw1
  have HB1 := Lib.hid hb1
  have HC := Lib.hid hcell
  have HR1 := Lib.hid hR1
  have q0 := hcell w1 (Below.refl _ _) 0
  have q1 := hcell w1 (Below.refl _ _) 1
  have q2 := hcell w1 (Below.refl _ _) 2
  have q3 := hcell w1 (Below.refl _ _) 3
  have q4 := hcell w1 (Below.refl _ _) 4
  simp only [ndA, List.getElem?_toArray, List.getElem?_cons_zero, List.getElem?_cons_succ] at HC q0 q1 q2 q3 q4
  have HA1 := Lib.hid (HAL.out w1 hR1)
  have HQR := Lib.hid (show RdS 7 QnAt w1 A4 x.eqs.length x.eqs from hR1.2.2.2)
  clear hw1 hcell hb1 HF h hR1 hok HAL
  generalize hq : x.eqs = qs at *
  generalize hql : qs.length = nq at *
  generalize x.ins.length = n1 at *
  generalize x.outs.length = n2 at *
  generalize x.vars.length = n3 at *
  generalize hx : x.all = all at *
  generalize hxl : all.length = na at *
  have HXL := Lib.hid hxl
  have HQL := Lib.hid hql
  clear hxl hql
  go_wp2_with fail
  refine HA1.out.mono ?_
  rintro e w2 ⟨A5, c5, rfl, hR2, hb2⟩
  have HB2 := Lib.hid (below_next HB1.out hb2)
  have HW2 := Lib.hid hb2
  have HR2 := Lib.hid hR2
  clear hR2 hb2 q0 q1 q2 q3 q4
  go_wp2_with fail
  go_loopw [6] (fun i wr => ∃ k : Nat, k ≤ na ∧ i = .int .i64 k ∧ (∀ j, j < k → ndAtB es (n1 + n2) j (all[j]?.getD default) = true) ∧ Below w2.heap.size w2 wr) (fun i _ => na - (intOf i).toNat)
  case atStart => exact ⟨0, Nat.zero_le _, rfl, fun j hj => absurd hj (by omega), Below.refl _ _⟩
  case round =>
    obtain ⟨k, hk, rfl, hto, hnx⟩ := hrel
    have HT := Lib.hid hto
    have HNX := Lib.hid hnx
    clear hto
    by_cases hlt : k < na
    · obtain ⟨b, off, rfl, hb, hc⟩ := RdS.at_ (HR2.out.below hnx) (by omega)
      obtain ⟨d0, d1, d2, d3, d4, d5⟩ := (hc k hlt).six
      clear hc hnx
      have hz := HOK.out.2.1 (all[k]?.getD default) (by rw [hx]; exact getD_memA (by rw [HXL.out]; exact hlt))
      have HZ := Lib.hid hz
      have HN := Lib.hid (HNO.out k hlt)
      have HS := Lib.hid fun (hf : ndAtB es (n1 + n2) k (all[k]?.getD default) = true) => (show ∀ j, j < k + 1 → ndAtB es (n1 + n2) j (all[j]?.getD default) = true from fun j hj => by
        rcases Nat.lt_or_ge j k with h1 | h1
        · exact HT.out j h1
        · obtain rfl : j = k := by omega
          exact hf)
      clear hz
      have HDE := Lib.hid fun (d : Dc) => (show ndAtB es (n1 + n2) k d = (declB es rightB d && !(decide (k < n1 + n2) && !(d.on.toList == []))) by simp only [Lib.toList_data]; rfl)
      generalize all[k]?.getD default = d at d0 d1 d2 d3 d4 d5 HZ HN HS
      have HDE := Lib.hid (HDE.out d)
      have HD := Lib.hid (refDecl E es ec d wr hes HZ.out)
      unfold dcA at HD
      generalize ndAtB es (n1 + n2) k d = ob at HDE HS HN
      cases h1 : declB es rightB d with
      | false =>
        rw [h1] at HD HDE
        have HN2 := Lib.hid (HN.out (by rw [HDE.out]; rfl))
        go_wp2_with fail
        refine HD.out.mono ?_
        rintro e w3 ⟨rfl, hb3⟩
        have HB3 := Lib.hid (HNX.out.trans (hb3.mono HNX.out.size))
        clear hb3
        go_wp2_with fail
        go_ret
        exact ⟨ret_bool (by rw [HE.out, HN2.out]; rfl), below_next HB2.out HB3.out⟩
      | true =>
        rw [h1] at HD HDE
        cases h2 : decide ((k : Int) < (n1 : Int) + (n2 : Int)) with
        | false =>
          have HS2 := Lib.hid (HS.out (by rw [HDE.out, show decide (k < n1 + n2) = false by have := of_decide_eq_false h2; exact decide_eq_false (by omega)]; rfl))
          go_wp2_with fail
          refine HD.out.mono ?_
          rintro e w3 ⟨rfl, hb3⟩
          have HB3 := Lib.hid (HNX.out.trans (hb3.mono HNX.out.size))
          have hB := HW2.out.trans (HB3.out.mono HW2.out.size)
          have q1 := HC.out w3 hB 1
          have q2 := HC.out w3 hB 2
          simp only [List.getElem?_toArray, List.getElem?_cons_zero, List.getElem?_cons_succ] at q1 q2
          clear hb3 hB
          go_wp2_with fail
          go_roundw
          case rel => exact ⟨k + 1, by omega, by go_num, HS2.out, HB3.out⟩
          case measure => simp [intOf]; omega
        | true =>
          rw [show decide (k < n1 + n2) = true by have := of_decide_eq_true h2; exact decide_eq_true (by omega)] at HDE
          cases h3 : (d.on.toList == []) with
          | true =>
            rw [h3] at HDE
            have HS2 := Lib.hid (HS.out (by rw [HDE.out]; rfl))
            go_wp2_with fail
            refine HD.out.mono ?_
            rintro e w3 ⟨rfl, hb3⟩
            have HB3 := Lib.hid (HNX.out.trans (hb3.mono HNX.out.size))
            have hB := HW2.out.trans (HB3.out.mono HW2.out.size)
            have q1 := HC.out w3 hB 1
            have q2 := HC.out w3 hB 2
            have t4 := (hb3.cell (p := ⟨b, off + k * 6 + 4, none⟩) hb).trans d4
            simp only [List.getElem?_toArray, List.getElem?_cons_zero, List.getElem?_cons_succ] at q1 q2
            clear hb3 hB d0 d1 d2 d3 d4 d5
            go_wp2_with fail
            go_roundw
            case rel => exact ⟨k + 1, by omega, by go_num, HS2.out, HB3.out⟩
            case measure => simp [intOf]; omega
          | false =>
            rw [h3] at HDE
            have HN2 := Lib.hid (HN.out (by rw [HDE.out]; rfl))
            go_wp2_with fail
            refine HD.out.mono ?_
            rintro e w3 ⟨rfl, hb3⟩
            have HB3 := Lib.hid (HNX.out.trans (hb3.mono HNX.out.size))
            have hB := HW2.out.trans (HB3.out.mono HW2.out.size)
            have q1 := HC.out w3 hB 1
            have q2 := HC.out w3 hB 2
            have t4 := (hb3.cell (p := ⟨b, off + k * 6 + 4, none⟩) hb).trans d4
            simp only [List.getElem?_toArray, List.getElem?_cons_zero, List.getElem?_cons_succ] at q1 q2
            clear hb3 hB d0 d1 d2 d3 d4 d5
            go_wp2_with fail
            go_ret
            exact ⟨ret_bool (by rw [HE.out, HN2.out]; rfl), below_next HB2.out HB3.out⟩
    · obtain rfl : k = na := by omega
      have HY := Lib.hid (HYES.out fun i hi => HT.out i hi)
      rw [HY.out, Bool.true_and] at HE
      have HBW := Lib.hid (below_next HB2.out hnx)
      have HW3 := Lib.hid (HW2.out.trans (hnx.mono HW2.out.size))
      clear hnx
      go_wp2_with fail
      go_loopw [7] (fun i wq => ∃ j : Nat, j ≤ nq ∧ i = .int .i64 j ∧ (qs.take j).all (eqB rightX) = true ∧ Below wr.heap.size wr wq) (fun i _ => nq - (intOf i).toNat)
      case atStart => exact ⟨0, Nat.zero_le _, rfl, by simp, Below.refl _ _⟩
      case round =>
        obtain ⟨j, hj, rfl, hto, hnq⟩ := hrel
        have HTJ := Lib.hid hto
        have HNQ := Lib.hid hnq
        have hB := HW3.out.trans (hnq.mono HW3.out.size)
        have q0 := HC.out _ hB 0
        have q2 := HC.out _ hB 2
        have q4 := HC.out _ hB 4
        simp only [List.getElem?_toArray, List.getElem?_cons_zero, List.getElem?_cons_succ] at q0 q2 q4
        clear hto
        by_cases hjl : j < nq
        · obtain ⟨b, off, rfl, hb, hc⟩ := RdS.at_ (RdQ.below HQR.out hB) (by omega)
          have hcj := hc j hjl
          have HS := Lib.hid fun hf => all_take_step (l := qs) (f := eqB rightX) HTJ.out (by rw [HQL.out]; exact hjl) hf
          have HN := Lib.hid fun hf => all_at_no (l := qs) (f := eqB rightX) (k := j) (by rw [HQL.out]; exact hjl) hf
          have HQ := Lib.hid (HOK.out.2.2 (qs[j]?.getD default) (by rw [hq]; exact getD_memA (by rw [HQL.out]; exact hjl)))
          clear hc hnq hB
          generalize qs[j]?.getD default = q at hcj HS HN HQ
          obtain ⟨Aq, cq, A', ca, B', cb, hqt, hqx, r0, r1, r2, r3, r4, r5, r6⟩ := hcj.seven
          have HEQ := Lib.hid (refEq q Aq cq A' ca B' cb _ hqt hqx HQ.out)
          unfold qnA at HEQ
          clear hqt hqx hcj
          cases h1 : eqB rightX q with
          | true =>
            rw [h1] at HEQ
            have HS2 := Lib.hid (HS.out h1)
            go_wp2_with fail
            refine HEQ.out.mono ?_
            rintro e w3 ⟨rfl, hb3⟩
            have HB3 := Lib.hid (HNQ.out.trans (hb3.mono HNQ.out.size))
            clear hb3
            go_wp2_with fail
            go_roundw
            case rel =>
              exact ⟨j + 1, by omega, by go_num, HS2.out, HB3.out⟩
            case measure => simp [intOf]; omega
          | false =>
            rw [h1] at HEQ
            have HN2 := Lib.hid (HN.out h1)
            go_wp2_with fail
            refine HEQ.out.mono ?_
            rintro e w3 ⟨rfl, hb3⟩
            have HB3 := Lib.hid (HNQ.out.trans (hb3.mono HNQ.out.size))
            clear hb3
            go_wp2_with fail
            go_ret
            exact ⟨ret_bool (by rw [HE.out, HN2.out]; rfl), below_next HBW.out HB3.out⟩
        · obtain rfl : j = nq := by omega
          have HQA := Lib.hid (show qs.all (eqB rightX) = true by have := HTJ.out; rwa [List.take_of_length_le (by rw [HQL.out]; exact Nat.le_refl _)] at this)
          rw [HQA.out, Bool.true_and] at HE
          have HBQ := Lib.hid (below_next HBW.out hnq)
          clear hnq hB
          cases h1 : lowB x.nm.data.toList with
          | false =>
            rw [h1] at HE HLN
            go_wp2_with fail
            refine (HLN.out _).mono ?_
            rintro e w3 ⟨rfl, hb3⟩
            have HB3 := Lib.hid (below_next HBQ.out hb3)
            clear hb3
            go_wp2_with fail
            go_ret
            exact ⟨ret_bool (by rw [HE.out]; rfl), HB3.out⟩
          | true =>
            rw [h1, Bool.true_and] at HE
            rw [h1] at HLN
            have HE2 := Lib.hid (show out = decide (0 < n2) from HE.out)
            go_wp2_with fail
            refine (HLN.out _).mono ?_
            rintro e w3 ⟨rfl, hb3⟩
            have HB3 := Lib.hid (below_next HBQ.out hb3)
            have t2 := (hb3.cell (p := ⟨w.heap.size, 2, none⟩) (World.block_lt_of_cell? _ _ q2)).trans q2
            clear hb3 q0 q2 q4
            go_wp2_with fail
            go_ret
            exact ⟨ret_bool HE2.out.symm, HB3.out⟩
end Go.Proofs.YtapnodhgjfbjjaaGreat

namespace Go.Proofs.YtapnodhgjfbjjaaGreat
open Go.RowKit Go.Sort
set_option linter.unusedVariables false
set_option linter.unusedSimpArgs false

/-- A program's two cells. -/
def pgA (p : Pg) (E : Option Addr) (ec : Nat) (N : Option Addr) (nc : Nat) : Array Value := #[.slice E p.es.length ec, .slice N p.ns.length nc]
def rdP (w : World) (p : Pg) (E N : Option Addr) : Prop := RdE w E p.es.length p.es ∧ RdNs w N p.ns.length p.ns
theorem rdP.below {w w' : World} {p : Pg} {E N : Option Addr} (h : rdP w p E N) (hb : Below w.heap.size w w') : rdP w' p E N := ⟨h.1.below hb, h.2.below hb⟩
theorem pg_facts (w : World) (p : Pg) (E : Option Addr) (ec : Nat) (N : Option Addr) (nc : Nat) (w1 : World) (h : w.alloc (.cells (pgA p E ec N nc) 25) = w1) (hr : rdP w p E N) :
    Below w.heap.size w w1 ∧ w1.heap.size = w.heap.size + 1 ∧ rdP w1 p E N ∧ ∀ w', Below w1.heap.size w1 w' → ∀ j, w'.cell? ⟨w.heap.size, j, none⟩ = (pgA p E ec N nc)[j]? := by
  subst h
  have hb := (Below.refl w.heap.size w).alloc (Nat.le_refl _) (.cells (pgA p E ec N nc) 25)
  refine ⟨hb, by simp, hr.below hb, fun w' hb j => ?_⟩
  rw [hb.cell (p := ⟨w.heap.size, j, none⟩) (by simp), World.cell?_alloc_new]

theorem findI_hit {α : Type} [Inhabited α] {f : α → Bool} : ∀ {l : List α} {k i : Nat}, k < l.length → (∀ j, j < k → f (l[j]?.getD default) = false) → f (l[k]?.getD default) = true → findI f l i = ((i + k : Nat) : Int)
  | [], k, i, h, _, _ => by simp at h
  | a :: l, 0, i, _, _, h => by
    have h : f a = true := by simpa using h
    simp [findI, h]
  | a :: l, k + 1, i, hk, hn, h => by
    have h0 : f a = false := by simpa using hn 0 (by omega)
    rw [findI, h0, if_neg (by simp), findI_hit (k := k) (by simpa using hk) (fun j hj => by simpa using hn (j + 1) (by omega)) (by simpa using h)]
    congr 1
    omega
theorem findI_none {α : Type} [Inhabited α] {f : α → Bool} : ∀ {l : List α} {i : Nat}, (∀ j, j < l.length → f (l[j]?.getD default) = false) → findI f l i = -1
  | [], i, _ => rfl
  | a :: l, i, hn => by
    have h0 : f a = false := by simpa using hn 0 (by simp)
    rw [findI, h0, if_neg (by simp)]
    exact findI_none fun j hj => by simpa using hn (j + 1) (by simpa using hj)
theorem to_next {P : Nat → Prop} {k : Nat} (h : ∀ j, j < k → P j) (hk : P k) : ∀ j, j < k + 1 → P j := fun j hj => by
  rcases Nat.lt_or_ge j k with h1 | h1
  · exact h j h1
  · obtain rfl : j = k := by omega
    exact hk

end Go.Proofs.YtapnodhgjfbjjaaGreat
