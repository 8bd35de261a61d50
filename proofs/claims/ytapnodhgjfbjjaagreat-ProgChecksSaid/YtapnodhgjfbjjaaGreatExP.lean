/- All parts of an expression, of the document's text. Conditions: none. -/
import Derived.Test.YtapnodhgjfbjjaaGreatExA
import Derived.Maps.AppendAt
import Derived.Laws.OwnMore
namespace Go.Proofs.YtapnodhgjfbjjaaGreat
open Go.RowKit Go.Sort
set_option linter.unusedVariables false

/-- Cells that read, in w, as expressions one behind the other. -/
def flX (w : World) : List Ex → List Value → Prop
  | [], cs => cs = []
  | x :: l, cs => ∃ A ca B cb cs', cs = exL x A ca B cb ++ cs' ∧ rdX w x A B ∧ flX w l cs'
theorem flX_nil (w : World) : flX w [] [] := rfl
theorem flX_one {w : World} {x : Ex} {A : Option Addr} {ca : Nat} {B : Option Addr} {cb : Nat} (h : rdX w x A B) : flX w [x] (exL x A ca B cb) := ⟨A, ca, B, cb, [], by simp, h, rfl⟩
theorem flX_app {w : World} : ∀ {l l' : List Ex} {cs cs' : List Value}, flX w l cs → flX w l' cs' → flX w (l ++ l') (cs ++ cs')
  | [], l', cs, cs', h, h' => by
    obtain rfl : cs = [] := h
    simpa using h'
  | x :: l, l', cs, cs', h, h' => by
    obtain ⟨A, ca, B, cb, cs1, rfl, h1, h2⟩ := h
    exact ⟨A, ca, B, cb, cs1 ++ cs', by simp, h1, flX_app h2 h'⟩
theorem flX_len {w : World} : ∀ {l : List Ex} {cs : List Value}, flX w l cs → cs.length = l.length * 6
  | [], cs, h => by
    obtain rfl : cs = [] := h
    rfl
  | x :: l, cs, h => by
    obtain ⟨A, ca, B, cb, cs1, rfl, h1, h2⟩ := h
    rw [List.length_append, flX_len h2, List.length_cons]
    show 6 + l.length * 6 = _
    omega
theorem flX_cells {w : World} : ∀ {l : List Ex} {cs : List Value}, flX w l cs → ∀ u ∈ cs, u.oneCell' = true
  | [], cs, h, u, hu => by
    obtain rfl : cs = [] := h
    cases hu
  | x :: l, cs, h, u, hu => by
    obtain ⟨A, ca, B, cb, cs1, rfl, h1, h2⟩ := h
    rcases List.mem_append.1 hu with hu | hu
    · simp only [exL, List.mem_cons, List.not_mem_nil, or_false] at hu
      rcases hu with rfl | rfl | rfl | rfl | rfl | rfl <;> rfl
    · exact flX_cells h2 u hu
theorem flX_below {w w' : World} (hb : Below w.heap.size w w') : ∀ {l : List Ex} {cs : List Value}, flX w l cs → flX w' l cs
  | [], cs, h => h
  | x :: l, cs, h => by
    obtain ⟨A, ca, B, cb, cs1, rfl, h1, h2⟩ := h
    exact ⟨A, ca, B, cb, cs1, rfl, h1.below hb, flX_below hb h2⟩
theorem flX_rd {w : World} {b : Nat} : ∀ {l : List Ex} {cs : List Value} {off : Nat}, flX w l cs → w.rangeAt b off cs → rdXs w l b off
  | [], cs, off, h, hr => by simp only [rdXs]
  | x :: l, cs, off, h, hr => by
    obtain ⟨A, ca, B, cb, cs1, rfl, h1, h2⟩ := h
    simp only [rdXs]
    refine ⟨⟨A, ca, B, cb, fun j v hj => hr j v ?_, h1⟩, flX_rd h2 fun j v hj => ?_⟩
    · rw [List.getElem?_append_left (List.getElem?_eq_some_iff.1 hj).1]
      exact hj
    · rw [Nat.add_assoc]
      refine hr (6 + j) v ?_
      rw [List.getElem?_append_right (by show 6 ≤ 6 + j; omega)]
      show cs1[6 + j - 6]? = some v
      rw [show 6 + j - 6 = j by omega]
      exact hj

/-- The slice at A, of n expressions, holds these cells. -/
def Cel6 (w : World) (A : Option Addr) (n : Nat) (cs : List Value) : Prop :=
  cs.length = n * 6 ∧ n ≤ 9223372036854775807 ∧ (0 < n → ∃ b off, A = some ⟨b, off, none⟩ ∧ b < w.heap.size ∧ w.rangeAt b off cs)
theorem Cel6.of_own {w : World} {base : Nat} {e : TypeId} {v : Value} {n : Nat} {cs : List Value} (h : w.ownsRow base e 6 v n cs) (hm : n ≤ 9223372036854775807) : ∃ A c, v = .slice A n c ∧ Cel6 w A n cs ∧ (0 < n → ∃ g, A = some ⟨g, 0, none⟩ ∧ base ≤ g) := by
  rcases h.2 with ⟨rfl, rfl⟩ | ⟨g, cap, cur, rfl, hg, hh, hnc, hcm, hcs, ht⟩
  · exact ⟨none, 0, rfl, ⟨h.1, hm, by omega⟩, by omega⟩
  · refine ⟨_, cap, rfl, ⟨h.1, hm, fun hn => ⟨g, 0, rfl, (Array.getElem?_eq_some_iff.1 hh).1, fun j v hj => ?_⟩⟩, fun _ => ⟨g, rfl, hg⟩⟩
    have := h.cellAt j (by rw [← h.1]; exact (List.getElem?_eq_some_iff.1 hj).1)
    rw [Nat.zero_add, this, hj]
theorem Cel6.rd {w w0 : World} {A : Option Addr} {n : Nat} {cs : List Value} {l : List Ex} (h : Cel6 w A n cs) (hf : flX w0 l cs) (hb : Below w0.heap.size w0 w) : RdX w A n l := by
  have h1 := flX_len hf
  have h2 := h.1
  refine ⟨by omega, h.2.1, fun hn => ?_⟩
  obtain ⟨b, off, e, hbl, hr⟩ := h.2.2 hn
  exact ⟨b, off, e, hbl, flX_rd (flX_below hb hf) hr⟩

theorem own_belowX {w w' : World} {base : Nat} {e : TypeId} {size : Nat} {v : Value} {n : Nat} {xs : List Value} (h : w.ownsRow base e size v n xs) (hb : Below w.heap.size w w') : w'.ownsRow base e size v n xs := by
  refine ⟨h.1, ?_⟩
  rcases h.2 with h | ⟨g, cap, cur, e1, hg, hh, r⟩
  · exact .inl h
  · exact .inr ⟨g, cap, cur, e1, hg, (hb.block g (Array.getElem?_eq_some_iff.1 hh).1).trans hh, r⟩

/-- What Parts returns: the parts' own cells, as they lie in w0. -/
def PartsAt (w0 w w' : World) (e : Ending) (x : Ex) : Prop := ∃ A c cs, e = .returned (.slice A (sizeX x) c) ∧ Cel6 w' A (sizeX x) cs ∧ flX w0 (partsX x) cs ∧ Below w.heap.size w w' ∧ ∃ g, A = some ⟨g, 0, none⟩ ∧ w.heap.size ≤ g

theorem infoEx : ∃ i : TypeInfo, Tryz.prog.info? 41 = some i ∧ i.size = 6 ∧ i.zero = some (.agg #[.int .i64 0, .int .i64 0, .string ⟨#[]⟩, .int .i64 0, .slice none 0 0, .slice none 0 0]) ∧ i.bytes = 88 := by
  have h : (Tryz.prog.info? 41).map (fun i => (i.size, i.zero, i.bytes)) = some (6, some (.agg #[.int .i64 0, .int .i64 0, .string ⟨#[]⟩, .int .i64 0, .slice none 0 0, .slice none 0 0]), 88) := by kernel_rfl
  cases hq : Tryz.prog.info? 41 with
  | none => rw [hq] at h; cases h
  | some i =>
    rw [hq] at h
    simp only [Option.map_some, Option.some.injEq, Prod.mk.injEq] at h
    exact ⟨i, rfl, h.1, h.2.1, h.2.2⟩

set_option maxRecDepth 100000 in
set_option maxHeartbeats 4000000 in
theorem refParts : ∀ (x : Ex) (A : Option Addr) (ca : Nat) (B : Option Addr) (cb : Nat) (w0 w : World), rdX w0 x A B → Below w0.heap.size w0 w → sizeX x ≤ 1000000 →
    Calls Tryz.prog 51 #[.agg (exA x A ca B cb)] w fun e w' => PartsAt w0 w w' e x := by
  refine size_ind fun x ih A ca B cb w0 w hr0 hb0 hs => ?_
  obtain ⟨i0, hi, hz0, hz1, hz2⟩ := infoEx
  have HIH := Lib.hid ih
  have HSZ := Lib.hid (sizeX_eq x)
  have hmx := hr0.subs.max
  have HR0 := Lib.hid hr0
  have HB0 := Lib.hid hb0
  have HF := Lib.hid fun w1 h => box_facts w x A ca B cb w1 h (hr0.below hb0)
  have HSN := Lib.hid fun i (hi : i < x.subs.length) => sizes_snoc hi
  have HPN := Lib.hid fun i (hi : i < x.subs.length) => partss_snoc hi
  have HLE := Lib.hid fun i => sizes_take x.subs i
  have HSUB := Lib.hid fun i (hi : i < x.subs.length) => size_sub (subX_mem hi)
  have HTL := Lib.hid (List.take_length (l := x.subs))
  have HONE := Lib.hid (flX_one (ca := ca) (cb := cb) hr0)
  have hsx := sizeX_eq x
  clear ih hr0 hb0
  unfold exA at HF HIH ⊢
  unfold exL at HONE
  generalize hlen : x.subs.length = len at *
  go_enter Tryz.func51, Tryz.ntmps51
  go_upto_region 1 with (fail)
  generalize hw1 : w.alloc _ = w1
  obtain ⟨hb1, hg, hr1, hcell⟩ := HF.out w1 hw1
  have HC := Lib.hid hcell
  have HB1 := Lib.hid hb1
  have q0 := hcell w1 (Below.refl _ _) 0
  have q1 := hcell w1 (Below.refl _ _) 1
  have q2 := hcell w1 (Below.refl _ _) 2
  have q3 := hcell w1 (Below.refl _ _) 3
  have q4 := hcell w1 (Below.refl _ _) 4
  have q5 := hcell w1 (Below.refl _ _) 5
  clear hcell hb1 hr1 hw1 HF
  have HL := Lib.hid fun (cs : Array Value) (hs : cs.size = 1 * 6) => World.ownsRow_lit (base := w1.heap.size) (e := 41) (size := 6) w1 cs 1 (Nat.le_refl _) (by decide) hs
  have HBA := Lib.hid fun (o : Obj) => (Below.refl w1.heap.size w1).alloc (Nat.le_refl _) o
  go_wp2_with fail
  go_loopw [3, 4] (fun v i wr => ∃ k : Nat, k ≤ len ∧ i = .int .i64 k ∧ (∃ cs, flX w0 (x :: partssX (x.subs.take k)) cs ∧ wr.ownsRow w1.heap.size 41 6 v (1 + sizesX (x.subs.take k)) cs) ∧ Below w1.heap.size w1 wr) (fun _ i _ => len - (intOf i).toNat)
  case atStart =>
    refine ⟨0, Nat.zero_le _, rfl, ⟨_, ?_, HL.out _ rfl⟩, HBA.out _⟩
    exact HONE.out
  case round =>
    obtain ⟨k, hk, rfl, ⟨cs, hfl, hrow⟩, hbw⟩ := hrel
    have HBW := Lib.hid hbw
    have HFL := Lib.hid hfl
    have HRW := Lib.hid hrow
    have hc5 := HC.out wr hbw 5
    have hle := HLE.out k
    have hbs := hbw.size
    have HB0R := Lib.hid (HB0.out.trans ((HB1.out.trans (hbw.mono (Nat.le_of_lt hg))).mono HB0.out.size))
    by_cases hlt : k < len
    · obtain ⟨b, off, rfl, hb, hat⟩ := HR0.out.sub (i := k) (by omega)
      obtain ⟨A', ca', B', cb', hrg, hrd⟩ := hat k (by omega)
      obtain ⟨c0, c1, c2, c3, c4, c5⟩ := rangeAt_six (rangeAt_keep hrg hb fun p hp => HB0R.out.cell hp)
      have HRD := Lib.hid hrd
      have HSNK := Lib.hid (HSN.out k (by omega))
      have HPNK := Lib.hid (HPN.out k (by omega))
      have hsn := HSN.out k (by omega)
      have hle2 := HLE.out (k + 1)
      have hss := HSUB.out k (by omega)
      clear hat hbw hrg hrd hfl hrow
      go_wp2_with fail
      refine (HIH.out k (by omega) A' ca' B' cb' w0 _ HRD.out HB0R.out (by omega)).mono ?_
      rintro r w2 ⟨A2, c2', cs2, rfl, hcel, hfl2, hb2, _⟩
      obtain ⟨b2, off2, rfl, hbl2, hrg2⟩ := hcel.2.2 (size_pos _)
      have HFA := Lib.hid (flX_app HFL.out hfl2)
      have HF2 := Lib.hid (flX_cells hfl2)
      have hcl := hcel.1
      have hrow2 := own_belowX HRW.out hb2
      have HBW2 := Lib.hid (HBW.out.trans (hb2.mono HBW.out.size))
      have hbs2 := HBW2.out.size
      go_wp2_with (at_builtin; go_must (refine wpList_append_own_at _ rfl _ _ 39 rfl w1.heap.size 41 i0 _ 6 88 Tryz.underlying39 hi hz1 hz0 hz2 rfl (by decide) _ _ _ rfl hrow2 ⟨b2, off2, none⟩ (sizeX (subX x k)) c2' cs2 rfl hcl (fun j u hu => by rw [Addr.add_mid]; exact hrg2 j u hu) HF2.out (by unfold maxLen; omega) (by omega) hbs2 ?_; intro v' w3 hown' hgrow _ hloc))
      have HBE := Lib.hid (HBW2.out.grown hgrow hbs2 (fun j hj => (hrow2.lt j hj).1))
      have HOW := Lib.hid hown'
      clear hown' hgrow hloc hrow2 hb2
      go_wp2_with fail
      go_roundw
      case rel =>
        refine ⟨k + 1, by omega, by go_num, ⟨cs ++ cs2, ?_, ?_⟩, HBE.out⟩
        · rw [HPNK.out]
          exact HFA.out
        · rw [HSNK.out, ← Nat.add_assoc]
          exact HOW.out
      case measure => simp [intOf]; omega
    · have hkl : k = len := by omega
      subst hkl
      have HE := Lib.hid (hlen ▸ HTL.out : x.subs.take k = x.subs)
      rw [HE.out] at HRW HFL
      obtain ⟨A3, c3, rfl, hcel, hgg⟩ := Cel6.of_own HRW.out (by omega)
      have HCL := Lib.hid hcel
      obtain ⟨g3, hA3, hg3⟩ := hgg (by omega)
      have HA3 := Lib.hid hA3
      clear hA3 hgg
      clear hcel hfl hrow
      go_wp2_with fail
      go_ret
      rw [← HSZ.out] at HCL
      refine ⟨A3, c3, cs, ?_, HCL.out, ?_, HB1.out.trans (HBW.out.mono (Nat.le_of_lt hg)), g3, HA3.out, by omega⟩
      · rw [HSZ.out]
        rfl
      · rw [partsX_eq]
        exact HFL.out
end Go.Proofs.YtapnodhgjfbjjaaGreat
