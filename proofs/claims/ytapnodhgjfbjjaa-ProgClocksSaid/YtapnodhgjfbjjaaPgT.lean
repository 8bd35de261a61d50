/- The walk of ProgClocks. Conditions: none. -/
import Derived.Test.YtapnodhgjfbjjaaPgY
namespace Go.Proofs.Ytapnodhgjfbjjaa
open Go.RowKit Go.Sort Go.BigFrame
set_option linter.unusedVariables false
set_option linter.unusedSimpArgs false

/-- Each has the one ahead of it as its On. -/
def ChainD (l : List Dc) : Prop := ∀ j, j + 1 < l.length → (l[j + 1]?.getD default).on.data.toList = (l[j]?.getD default).nm.data.toList
theorem chain_cons {d : Dc} {l : List Dc} (h : ChainD l) (hd : 0 < l.length → (l[0]?.getD default).on.data.toList = d.nm.data.toList) : ChainD (d :: l) := by
  intro j hj
  cases j with
  | zero =>
    have := hd (by simpa using hj)
    simpa using this
  | succ j =>
    have := h j (by simpa using hj)
    simpa using this
theorem declO_name {x : Nd} {s : ByteArray} {d : Dc} (h : declO x s = some d) : d.nm.data.toList = s.data.toList := by
  have := List.find?_some h
  exact eq_of_beq this
theorem clock_chain {x : Nd} : ∀ {k : Nat} {t : ByteArray} {acc l : List Dc}, ChainD acc → (0 < acc.length → (acc[0]?.getD default).on.data.toList = t.data.toList) → clockR x k t acc = some l → ChainD l
  | 0, t, acc, l, _, _, h => by cases h
  | k + 1, t, acc, l, hc, ht, h => by
    rw [clockR_succ] at h
    cases hd : declO x t with
    | none => rw [hd] at h; cases h
    | some d =>
      rw [hd] at h
      have h : (if noB d.on then some acc else clockR x k d.on (d :: acc)) = some l := h
      by_cases hn : noB d.on = true
      · rw [if_pos hn] at h
        injection h with h
        exact h ▸ hc
      · rw [if_neg hn] at h
        refine clock_chain (chain_cons hc fun hp => (ht hp).trans (declO_name hd).symm) (fun _ => ?_) h
        simp

set_option maxRecDepth 100000 in
set_option maxHeartbeats 8000000 in
/-- The law ProgClocks. -/
theorem walkClocks (p : Pg) (E : Option Addr) (ec : Nat) (N : Option Addr) (nc : Nat) (s : ByteArray) (w : World) (h : rdP w p E N) :
    Calls Try.prog 4 #[.agg (pgA p E ec N nc), .string s] w fun e w' => e = .returned (.bool true) ∧ Below w.heap.size w w' := by
  have HF := Lib.hid fun w1 hw => pg_facts w p E ec N nc w1 hw h
  have HSM := Lib.hid fun w1 a => refPgSmall p E ec N nc w1 a
  have hmx := RdS.max h.2
  unfold pgA at HSM ⊢
  go_enter Try.func4, Try.ntmps4
  go_upto_region 1 with (fail)
  generalize hw1 : w.alloc _ = w1
  obtain ⟨hb1, hg, hR1, hcell⟩ := HF.out w1 hw1
  have HB1 := Lib.hid hb1
  have HCE := Lib.hid hcell
  have HR1 := Lib.hid hR1
  simp only [pgA] at HCE
  have q0 := HCE.out w1 (Below.refl _ _) 0
  have q1 := HCE.out w1 (Below.refl _ _) 1
  simp only [List.getElem?_toArray, List.getElem?_cons_zero, List.getElem?_cons_succ] at q0 q1
  clear hw1 hcell hb1 HF h hR1
  go_wp2_with fail
  refine (HSM.out w1 HR1.out).mono ?_
  rintro e w2 ⟨b, rfl, ht, hb2⟩
  have HB2 := Lib.hid (below_next HB1.out hb2)
  have HW2 := Lib.hid hb2
  have hz2 := hb2.size
  have HR2 := Lib.hid (HR1.out.below hb2)
  clear hb2 q0 q1
  cases b with
  | false =>
    go_wp2_with fail
    refine (live_any w2).mono ?_
    rintro e w3 ⟨rfl, hb3⟩
    have HB3 := Lib.hid (below_next HB2.out hb3)
    clear hb3
    go_wp2_with fail
    go_ret
    exact ⟨rfl, HB3.out⟩
  | true =>
    have HT := Lib.hid (ht rfl)
    clear ht
    by_cases h5 : 500 < s.size
    · go_wp2_with fail
      refine (live_any w2).mono ?_
      rintro e w3 ⟨rfl, hb3⟩
      have HB3 := Lib.hid (below_next HB2.out hb3)
      clear hb3
      go_wp2_with fail
      go_ret
      exact ⟨rfl, HB3.out⟩
    · have d5 : decide ((500 : Int) < (s.size : Int)) = false := decide_eq_false (by omega)
      have HNS := Lib.hid (show RdS 5 NdAt w1 N p.ns.length p.ns from HR1.out.2)
      have HTN := Lib.hid HT.out.2.2
      generalize p.es.length = ne at *
      generalize p.ns = ns at *
      generalize ns.length = n at *
      go_wp2_with fail
      go_loopw [5] (fun i wr => ∃ k : Nat, k ≤ n ∧ i = .int .i64 k ∧ Below w1.heap.size w1 wr) (fun i _ => n - (intOf i).toNat)
      case atStart => exact ⟨0, Nat.zero_le _, rfl, HW2.out⟩
      case round =>
        obtain ⟨k, hk, rfl, hnx⟩ := hrel
        have HNX := Lib.hid hnx
        have hz := hnx.size
        have q1 := HCE.out wr hnx 1
        simp only [List.getElem?_toArray, List.getElem?_cons_zero, List.getElem?_cons_succ] at q1
        by_cases hlt : k < n
        · obtain ⟨b, off, rfl, hb, hc⟩ := RdS.at_ HNS.out (by omega)
          have hnd := hc k hlt
          have HTX := Lib.hid (HTN.out k hlt)
          clear hc
          generalize ns[k]?.getD default = x at hnd HTX
          obtain ⟨A1, c1, A2, c2, A3, c3, A4, c4, hrd, e0, e1, e2, e3, e4⟩ := hnd.five
          have HE := Lib.hid fun w' (hb' : Go.RowKit.Below w1.heap.size w1 w') => (show w'.cell? ⟨b, off + k * 5, none⟩ = some (.string x.nm) ∧ w'.cell? ⟨b, off + k * 5 + 1, none⟩ = some (.slice A1 x.ins.length c1) ∧ w'.cell? ⟨b, off + k * 5 + 2, none⟩ = some (.slice A2 x.outs.length c2) ∧ w'.cell? ⟨b, off + k * 5 + 3, none⟩ = some (.slice A3 x.vars.length c3) ∧ w'.cell? ⟨b, off + k * 5 + 4, none⟩ = some (.slice A4 x.eqs.length c4) from ⟨(hb'.cell (p := ⟨b, _, none⟩) hb).trans e0, (hb'.cell (p := ⟨b, _, none⟩) hb).trans e1, (hb'.cell (p := ⟨b, _, none⟩) hb).trans e2, (hb'.cell (p := ⟨b, _, none⟩) hb).trans e3, (hb'.cell (p := ⟨b, _, none⟩) hb).trans e4⟩)
          have HRD := Lib.hid hrd
          obtain ⟨p10, p11, p12, p13, p14⟩ := HE.out wr hnx
          have HD1 := Lib.hid (pgClock x A1 c1 A2 c2 A3 c3 A4 c4 s wr (HRD.out.below hnx))
          have HD2 := Lib.hid fun w' a => refClock x A1 c1 A2 c2 A3 c3 A4 c4 s w' a (by have := HTX.out.len; omega)
          have HCH := Lib.hid fun l (hl : clockO x s = some l) => clock_chain (x := x) (k := 13) (t := s) (acc := []) (l := l) (fun j hj => by simp at hj) (fun hp => by simp at hp) hl
          unfold ndA at HD1 HD2
          generalize clockO x s = out at *
          clear hrd hnd e0 e1 e2 e3 e4 hnx
          go_wp2_with fail
          refine HD1.out.mono ?_
          rintro e v2 ⟨hb2, hp⟩
          have HV2 := Lib.hid (HNX.out.trans (hb2.mono hz))
          have q1 := HCE.out v2 HV2.out 1
          simp only [List.getElem?_toArray, List.getElem?_cons_zero, List.getElem?_cons_succ] at q1
          clear p10 p11 p12 p13 p14
          obtain ⟨p10, p11, p12, p13, p14⟩ := HE.out v2 HV2.out
          have HD3 := Lib.hid (HD2.out v2 (HRD.out.below HV2.out))
          have hzv := HV2.out.size
          clear hb2 HD2
          cases out with
          | none =>
            subst hp
            go_wp2_with fail
            refine HD3.out.mono ?_
            rintro e v3 ⟨hb3, hp⟩
            have HV3 := Lib.hid (HV2.out.trans (hb3.mono hzv))
            clear hb3
            subst hp
            go_wp2_with fail
            go_loop [10] (fun i => i = .int .i64 0) (fun _ => 0)
            case atStart => rfl
            case round =>
              obtain rfl := hrel
              go_wp2_with fail
              go_roundw
              case rel => exact ⟨k + 1, by omega, by go_num, HV3.out⟩
              case measure => simp [intOf]; omega
          | some l =>
            obtain ⟨A, c, rfl, hr⟩ := hp
            have HRL := Lib.hid hr
            have hml := RdS.max hr
            have HCL := Lib.hid (HCH.out l rfl)
            clear hr
            go_wp2_with fail
            refine HD3.out.mono ?_
            rintro e v3 ⟨hb3, A', c', rfl, hr3⟩
            have HV3 := Lib.hid (HV2.out.trans (hb3.mono hzv))
            have HRA := Lib.hid (HRL.out.below hb3)
            have HRB := Lib.hid hr3
            clear hb3 hr3 p10 p11 p12 p13 p14 q1
            generalize hll : l.length = nl at *
            have HLL := Lib.hid hll
            clear hll
            generalize wr = wo at *
            go_wp2_with fail
            go_loopw [10] (fun i wq => ∃ j : Nat, j ≤ nl ∧ i = .int .i64 j ∧ Below v3.heap.size v3 wq) (fun i _ => nl - (intOf i).toNat)
            case atStart => exact ⟨0, Nat.zero_le _, rfl, Below.refl _ _⟩
            case round =>
              obtain ⟨j, hj, rfl, hnq⟩ := hrel
              have HNQ := Lib.hid hnq
              by_cases hjl : j < nl
              · obtain ⟨b5, off5, rfl, hb5, hc5⟩ := RdS.at_ (RdD.below HRA.out hnq) (by omega)
                obtain ⟨b6, off6, rfl, hb6, hc6⟩ := RdS.at_ (RdD.below HRB.out hnq) (by omega)
                obtain ⟨r0, r1, r2, r3, r4, r5⟩ := (hc5 j hjl).six
                obtain ⟨t0, t1, t2, t3, t4, t5⟩ := (hc6 j hjl).six
                rcases Nat.eq_zero_or_pos j with hj0 | hj0
                · subst hj0
                  clear hc5 hc6 hnq
                  simp only [Nat.zero_mul, Nat.add_zero] at r0 r1 r2 r3 r4 r5 t0 t1 t2 t3 t4 t5
                  generalize l[0]?.getD default = d at *
                  go_upto_region 13 with (fail)
                  go_quiet (fail)
                  go_wp2_with fail
                  go_roundw
                  case rel => exact ⟨0 + 1, by omega, by go_num, below_drewN HNQ.out _⟩
                  case measure => simp [intOf]; omega
                · obtain ⟨m, rfl⟩ : ∃ m, j = m + 1 := ⟨j - 1, by omega⟩
                  obtain ⟨s0, -⟩ := (hc5 m (by omega)).six
                  have hch := HCL.out m (by rw [HLL.out]; omega)
                  have hf : ((l[m + 1]?.getD default).on.toList == (l[m]?.getD default).nm.toList) = true := by rw [Lib.toList_data, Lib.toList_data, hch]; simp
                  clear hc5 hc6 hnq hch
                  generalize l[m + 1]?.getD default = d at *
                  generalize l[m]?.getD default = y at *
                  have dj : decide ((0 : Int) < ((m + 1 : Nat) : Int)) = true := decide_eq_true (by omega)
                  go_upto_region 13 with (fail)
                  go_quiet (fail)
                  go_wp2_with fail
                  go_roundw
                  case rel => exact ⟨m + 1 + 1, by omega, by go_num, below_drewN HNQ.out _⟩
                  case measure => simp [intOf]; omega
              · have HV4 := Lib.hid (HV3.out.trans (HNQ.out.mono HV3.out.size))
                go_wp2_with fail
                go_roundw
                case rel => exact ⟨k + 1, by omega, by go_num, HV4.out⟩
                case measure => simp [intOf]; omega
        · have HBW := Lib.hid (HB1.out.trans (HNX.out.mono (by omega)))
          go_wp2_with fail
          refine (live_any wr).mono ?_
          rintro e w3 ⟨rfl, hb3⟩
          have HB3 := Lib.hid (below_next HBW.out hb3)
          clear hb3
          go_wp2_with fail
          go_ret
          exact ⟨rfl, HB3.out⟩
end Go.Proofs.Ytapnodhgjfbjjaa
