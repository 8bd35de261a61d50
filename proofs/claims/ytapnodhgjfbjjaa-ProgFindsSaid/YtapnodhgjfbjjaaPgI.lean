/- A clock's row: of the document's text. Conditions: at most 1000 variables. -/
import Derived.Test.YtapnodhgjfbjjaaPgH
namespace Go.Proofs.Ytapnodhgjfbjjaa
open Go.RowKit Go.Sort
set_option linter.unusedVariables false
set_option linter.unusedSimpArgs false

section
variable {P : Program} {w : World}
/-- append of a list of variables, nil among them, to a row of the call's own. -/
theorem wpList_append_dc {ops : Array Oper} {rest : List Oper} {o : Oper} {a : Act} {Q : Exit → Act → World → Prop} (hgd : o.guard = none) (s x : Operand) (t : TypeId)
    (ho : o.op = .call { callee := .builtin .append, args := #[s, x], argTypes := #[t, t] })
    (base : Nat) (e : TypeId) (i : TypeInfo) (z : Value) (bytes : Nat) (ht : P.underlying t = some (.slice e)) (hi : P.info? e = some i) (hz : i.zero = some z)
    (hsize : i.size = 6) (hby : i.bytes = bytes) (hzs : z.cells.size = 6)
    (v : Value) (n : Nat) (xs : List Dc) (hs : a.eval s = v) (hown : w.ownsRow base e 6 v n (flD xs))
    (A : Option Addr) (m c : Nat) (l : List Dc) (hx : a.eval x = .slice A m c) (hr : RdD w A m l)
    (h63 : n + m ≤ maxLen) (hbytes : (n + m) * bytes ≤ 140737488355328) (hbase : base ≤ w.heap.size)
    (h : ∀ v' w', w'.ownsRow base e 6 v' (n + m) (flD (xs ++ l)) → w.grownBy w' v.ownBlock → wpList P ops Q rest (a.put o.dst v') w') : wpList P ops Q (o :: rest) a w := by
  obtain ⟨hA, hnews⟩ := hr.news
  have hlen := RdS.len hr
  rcases A with _ | ad
  · obtain rfl : m = 0 := hA rfl
    obtain rfl : l = [] := List.eq_nil_of_length_eq_zero hlen
    refine wpList_plain hgd fun K hK => ?_
    have hrun := run_append_nil (P := P) (w := w) base t o.type e i 6 ht hi v n _ hown c
    unfold Oper.wp
    simp [execOp, ho, resolve, invoke, builtin, hs, hx, hrun, Result.andThen]
    exact hK _ _ (h v w (by simpa using hown) (World.grownBy.refl w _))
  · exact wpList_append_own_at w hgd s x t ho base e i z 6 bytes ht hi hz hsize hby hzs (by decide) v n _ hs hown ad m c (flD l) hx (by rw [flD_len, hlen]) (fun j u hu => hnews ad rfl j u hu) (flD_ones l) h63 hbytes hbase fun v' w' h1 h2 _ _ => h v' w' (by rw [flD_app]; exact h1) h2
end
theorem RowD.cells {w : World} {g : Nat} {d : Dc} (h : RowD w g d) (j : Nat) : w.cell? ⟨g, j, none⟩ = (dcA d)[j]? := by
  unfold World.cell?
  rw [show w.heap[(⟨g, j, none⟩ : Addr).block]? = _ from h]
  rfl
/-- What Clock ends with. -/
def ClockPost (w : World) (o : Option (List Dc)) (e : Ending) (w' : World) : Prop :=
  Below w.heap.size w w' ∧ match o with
    | none => e = .returned (.tuple #[.slice none 0 0, .bool false])
    | some l => ∃ A c, e = .returned (.tuple #[.slice A l.length c, .bool true]) ∧ RdD w' A l.length l
/-- How far the row has come. -/
def ClockAt (x : Nd) (out : Option (List Dc)) (w : World) (k : Nat) (t : ByteArray) (v : Value) : Prop :=
  ∃ acc A c, v = .slice A acc.length c ∧ RdD w A acc.length acc ∧ acc.length = k ∧ clockR x (13 - k) t acc = out
theorem ClockAt.below {x : Nd} {out : Option (List Dc)} {w w' : World} {k : Nat} {t : ByteArray} {v : Value} (h : ClockAt x out w k t v) (hb : Below w.heap.size w w') : ClockAt x out w' k t v := by
  obtain ⟨acc, A, c, e, h1, h2⟩ := h
  exact ⟨acc, A, c, e, h1.below hb, h2⟩
theorem clockR_succ (x : Nd) (k : Nat) (s : ByteArray) (acc : List Dc) : clockR x (k + 1) s acc = match declO x s with | none => none | some d => if noB d.on then some acc else clockR x k d.on (d :: acc) := rfl

set_option maxRecDepth 100000 in
set_option maxHeartbeats 8000000 in
theorem refClock (x : Nd) (A1 : Option Addr) (c1 : Nat) (A2 : Option Addr) (c2 : Nat) (A3 : Option Addr) (c3 : Nat) (A4 : Option Addr) (c4 : Nat) (s : ByteArray) (w : World) (h : rdN w x A1 A2 A3 A4) (hn : x.all.length ≤ 1000) :
    Calls Try.prog 13 #[.agg (ndA x A1 c1 A2 c2 A3 c3 A4 c4), .string s] w (ClockPost w (clockO x s)) := by
  have HF := Lib.hid fun w1 hw => nd_facts w x A1 c1 A2 c2 A3 c3 A4 c4 w1 hw h
  have HDC := Lib.hid fun t w1 (hw : rdN w1 x A1 A2 A3 A4) => refDeclN x A1 c1 A2 c2 A3 c3 A4 c4 t w1 hw hn
  obtain ⟨i0, z0, hi, hz1, hz0, hz2, hz3⟩ := info_three infoDecl
  have HOUT := Lib.hid (show clockR x 13 s [] = clockO x s from rfl)
  unfold ndA at HDC ⊢
  generalize clockO x s = out at *
  go_enter Try.func13, Try.ntmps13
  go_upto_region 1 with (fail)
  generalize hw1 : w.alloc _ = w1
  obtain ⟨hb1, hg, hR1, hcell⟩ := HF.out w1 hw1
  have HB1 := Lib.hid hb1
  have HC := Lib.hid hcell
  have HR1 := Lib.hid hR1
  have HC0 := Lib.hid (show ClockAt x out (w1.alloc (.cells #[] 32)) 0 s (.slice (some ⟨w1.heap.size, 0, none⟩) 0 0) from by
    obtain ⟨A, c, e, hr⟩ := RdD.of_own (l := []) (World.ownsRow_lit (base := w1.heap.size) (e := 32) (size := 6) w1 #[] 0 (Nat.le_refl _) (by decide) rfl) (by omega)
    exact ⟨[], A, c, e, hr, rfl, HOUT.out⟩)
  have HW0 := Lib.hid ((Below.refl w1.heap.size w1).alloc (Nat.le_refl _) (.cells #[] 32))
  simp only [ndA] at HC
  rw [hg] at HC0
  clear hw1 hcell hb1 HF h hR1 HOUT
  go_wp2_with fail
  go_loopw [1, 6, 7] (fun nm v i wr => ∃ (k : Nat) (t : ByteArray), k ≤ 13 ∧ i = .int .i64 k ∧ nm = .string t ∧ ClockAt x out wr k t v ∧ Below w1.heap.size w1 wr) (fun _ _ i _ => 13 - (intOf i).toNat)
  case atStart => exact ⟨0, s, by omega, rfl, rfl, HC0.out, HW0.out⟩
  case round =>
    obtain ⟨k, t, hk, rfl, rfl, hat, hnx⟩ := hrel
    have HNX := Lib.hid hnx
    have hz := hnx.size
    rw [hg] at hz
    by_cases hlt : k < 13
    · obtain ⟨acc, A, c, rfl, hrd, hal, hcl⟩ := hat
      have HRD := Lib.hid hrd
      have HCL := Lib.hid hcl
      have q0 := HC.out wr hnx 0
      have q1 := HC.out wr hnx 1
      have q2 := HC.out wr hnx 2
      have q3 := HC.out wr hnx 3
      have q4 := HC.out wr hnx 4
      simp only [List.getElem?_toArray, List.getElem?_cons_zero, List.getElem?_cons_succ] at q0 q1 q2 q3 q4
      have HD := Lib.hid (HDC.out t wr (HR1.out.below hnx))
      have d12 : decide ((k : Int) ≤ 12) = true := decide_eq_true (by omega)
      rw [show 13 - k = (12 - k) + 1 by omega, clockR_succ] at HCL
      clear hrd hcl hnx
      cases hd : declO x t with
      | none =>
        rw [hd] at HD HCL
        have HO := Lib.hid (show none = out from HCL.out)
        go_wp2_with fail
        refine HD.out.mono ?_
        rintro e w2 ⟨rfl, hb2⟩
        have HN3 := Lib.hid (show RowD (w2.alloc (.cells (dcA default) 32)) w2.heap.size default from heap_alloc_new _ _)
        have HB2 := Lib.hid (HNX.out.trans (hb2.mono HNX.out.size))
        have HB3 := Lib.hid (below_setRow ((HB2.out).alloc HB2.out.size (.cells (dcA default) 32)) (g := w2.heap.size) HB2.out.size (dcA default))
        unfold declV dcA
        unfold dcA at HN3 HB3
        simp only [Option.getD_none, Option.isSome_none]
        clear q0 q1 q2 q3 q4
        go_upto_region 6 with (refine wpList_store_row rfl _ _ _ rfl w2.heap.size _ rfl rfl _ _ HN3.out dcinfo rfl (by simp [Value.oneCell']) ?_)
        go_wp2_with fail
        refine bodyPost_ret (results_tmp2 rfl _ _ _) rfl ?_
        refine ⟨HB1.out.trans (HB3.out.mono (by omega)), ?_⟩
        rw [← HO.out]
        rfl
      | some d =>
        rw [hd] at HD HCL
        have HCL := Lib.hid (show (if noB d.on then some acc else clockR x (12 - k) d.on (d :: acc)) = out from HCL.out)
        go_wp2_with fail
        refine HD.out.mono ?_
        rintro e w2 ⟨rfl, hb2⟩
        have HN3 := Lib.hid (show RowD (w2.alloc (.cells (dcA default) 32)) w2.heap.size default from heap_alloc_new _ _)
        have HB2 := Lib.hid (HNX.out.trans (hb2.mono HNX.out.size))
        have hB3 := below_setRow ((HB2.out).alloc HB2.out.size (.cells (dcA default) 32)) (g := w2.heap.size) HB2.out.size (dcA d)
        have hN4 := HN3.out.set d
        have hW4 := below_setRow ((Below.refl w2.heap.size w2).alloc (Nat.le_refl _) (.cells (dcA default) 32)) (g := w2.heap.size) (Nat.le_refl _) (dcA d)
        have hrd4 := (HRD.out.below hb2).below hW4
        have HRS := Lib.hid fun w4 (hw : (w2.alloc (.cells (dcA default) 32)).setRow w2.heap.size (dcA d) = w4) => (show RowD w4 w2.heap.size d ∧ Below w1.heap.size w1 w4 ∧ RdD w4 A acc.length acc by subst hw; exact ⟨hN4, hB3, hrd4⟩)
        unfold declV dcA
        unfold dcA at HN3
        simp only [Option.getD_some, Option.isSome_some]
        clear q0 q1 q2 q3 q4 hB3 hN4 hW4 hrd4 hb2
        go_upto_region 6 with (refine wpList_store_row rfl _ _ _ rfl w2.heap.size _ rfl rfl _ _ HN3.out dcinfo rfl (by simp [Value.oneCell']) ?_)
        generalize hw4 : World.setRow _ _ _ = w4
        obtain ⟨hN4, hB4, hrd4⟩ := HRS.out w4 hw4
        have HN4 := Lib.hid hN4
        have HB4 := Lib.hid hB4
        have HRD4 := Lib.hid hrd4
        generalize w2.heap.size = gb at *
        have r0 := hN4.cells 0
        have r1 := hN4.cells 1
        have r2 := hN4.cells 2
        have r3 := hN4.cells 3
        have r4 := hN4.cells 4
        have r5 := hN4.cells 5
        simp only [dcA, List.getElem?_toArray, List.getElem?_cons_zero, List.getElem?_cons_succ] at r0 r1 r2 r3 r4 r5
        clear hw4 HRS hN4 hB4 hrd4 HN3
        cases h1 : (d.on.toList == []) with
        | true =>
          have HO := Lib.hid (show some acc = out by have h := HCL.out; rwa [show noB d.on = true by rw [Lib.toList_data] at h1; exact h1, if_pos rfl] at h)
          rw [hal] at HRD4
          go_wp2_with fail
          refine bodyPost_ret (results_tmp2 rfl _ _ _) rfl ?_
          refine ⟨HB1.out.trans (HB4.out.mono (by omega)), ?_⟩
          rw [← HO.out]
          exact ⟨A, c, by rw [hal]; rfl, by rw [hal]; exact HRD4.out⟩
        | false =>
          have HO := Lib.hid (show clockR x (13 - (k + 1)) d.on (d :: acc) = out by have h := HCL.out; rw [show noB d.on = false by rw [Lib.toList_data] at h1; exact h1, if_neg (by simp)] at h; rwa [show 13 - (k + 1) = 12 - k by omega])
          have HLIT := Lib.hid (World.ownsRow_lit (base := w4.heap.size) (e := 32) (size := 6) w4 (dcA d) 1 (Nat.le_refl _) (by decide) rfl)
          have HAL := Lib.hid ((Below.refl w4.heap.size w4).alloc (Nat.le_refl _) (.cells (dcA d) 32))
          have HRD5 := Lib.hid (HRD4.out.below HAL.out)
          rw [hal] at HRD5
          have HFL := Lib.hid (show flD ([d] ++ acc) = flD (d :: acc) from rfl)
          have HF1 := Lib.hid (show (dcA d).toList = flD [d] by rw [flD_one]; rfl)
          rw [HF1.out] at HLIT
          unfold dcA at HLIT HAL HRD5
          go_wp2_with (at_builtin; refine wpList_append_dc rfl _ _ 35 rfl w4.heap.size 32 i0 z0 72 Try.underlying35 hi hz1 hz0 hz2 hz3 _ 1 [d] rfl HLIT.out A k c acc rfl HRD5.out (by unfold maxLen; omega) (by omega) HAL.out.size ?_; intro v' w5 hown' hgrow; have hB5 := HAL.out.grown hgrow HAL.out.size (fun j hj => (HLIT.out.lt j hj).1); have HO5 := Lib.hid hown'; have HB5 := Lib.hid hB5; have s4 := (hB5.cell (p := ⟨gb, 4, none⟩) (World.block_lt_of_cell? _ _ r4)).trans r4; clear hown' hgrow hB5)
          have hO5 := HO5.out
          obtain ⟨A9, c9, e9, hrd9⟩ := RdD.of_own (l := d :: acc) hO5 (by omega)
          subst e9
          have HRD9 := Lib.hid hrd9
          clear hO5 hrd9
          go_wp2_with fail
          go_roundw
          case rel => exact ⟨k + 1, d.on, by omega, by go_num, rfl, ⟨d :: acc, A9, c9, by rw [List.length_cons, hal, Nat.add_comm], by rw [List.length_cons, hal, Nat.add_comm k 1]; exact HRD9.out, by rw [List.length_cons, hal], HO.out⟩, HB4.out.trans (HB5.out.mono HB4.out.size)⟩
          case measure => simp [intOf]; omega
    · obtain rfl : k = 13 := by omega
      have HO := Lib.hid (show none = out by obtain ⟨acc, A, c, e, h1, h2, h3⟩ := hat; exact h3)
      have d12 : decide (((13 : Nat) : Int) ≤ 12) = false := by decide
      obtain ⟨acc, A, c, rfl, -, hal, -⟩ := hat
      go_wp2_with fail
      refine bodyPost_ret (results_tmp2 rfl _ _ _) rfl ?_
      refine ⟨HB1.out.trans (HNX.out.mono (by omega)), ?_⟩
      rw [← HO.out]
      rfl
end Go.Proofs.Ytapnodhgjfbjjaa
