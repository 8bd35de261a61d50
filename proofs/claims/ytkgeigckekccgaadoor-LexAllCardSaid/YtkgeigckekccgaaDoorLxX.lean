/- Places rise; the walk of LexRises. Conditions: that the variables lie as laid. -/
import Derived.Test.YtkgeigckekccgaaDoorLxW
namespace Go.Proofs.YtkgeigckekccgaaDoor
open Go.RowKit Go.Sort
set_option linter.unusedVariables false

theorem endAt_succ (ts : List Tk) (k : Nat) : endAt ts (k + 1) = (ts[k]?.getD default).a + (ts[k]?.getD default).w := rfl
theorem endAt_app (acc : List Tk) (t : Tk) : ∀ k, k ≤ acc.length → endAt (acc ++ [t]) k = endAt acc k
  | 0, _ => rfl
  | k + 1, h => by
    rw [endAt_succ, endAt_succ, List.getElem?_append_left (by omega)]

abbrev endTk (s : ByteArray) : Tk := ⟨6, [], 0, s.size⟩

/-- What is so of the token at place k, of all that there are. -/
theorem rises_at {s : ByteArray} {acc : List Tk} (h : lexL 0 s.data.toList = (acc, none)) {k : Nat} (hk : k < acc.length + 1) {t : Tk} (ht : (acc ++ [endTk s])[k]?.getD default = t) :
    endAt (acc ++ [endTk s]) k ≤ t.a ∧ t.a + t.w ≤ s.size ∧ (t.k ≠ 4 → t.s = (s.data.toList.drop t.a).take t.w) ∧ ((t.k == 6) = decide (k = acc.length)) := by
  subst ht
  have hR : Runs s.data.toList 0 acc := by
    have := lex_runs s.data.toList 0 s.data.toList rfl (Nat.zero_le _)
    rwa [h] at this
  rw [endAt_app acc _ k (by omega)]
  rcases Nat.lt_or_ge k acc.length with h1 | h1
  · rw [List.getElem?_append_left h1]
    obtain ⟨r1, r2, r3, r4⟩ := hR.at_ k h1
    rw [← Lib.size_eq] at r2
    refine ⟨?_, r2, r4, ?_⟩
    · split at r1
      · rename_i h0; subst h0; exact Nat.zero_le _
      · exact r1
    · rw [Bool.eq_iff_iff]
      simp only [beq_iff_eq, decide_eq_true_eq]
      exact ⟨fun e => absurd e r3, fun e => by omega⟩
  · obtain rfl : k = acc.length := by omega
    have hE := hR.end_
    rw [← Lib.size_eq] at hE
    rw [List.getElem?_append_right (Nat.le_refl _)]
    simp only [Nat.sub_self, List.getElem?_cons_zero, Option.getD_some]
    exact ⟨hE, by simp [Tk.w], fun _ => by simp [Tk.w], by simp⟩

theorem endAt_last (acc : List Tk) (s : ByteArray) : endAt (acc ++ [endTk s]) (acc.length + 1) = s.size := by
  rw [endAt_succ, List.getElem?_append_right (Nat.le_refl _)]
  simp [Tk.w]

set_option maxRecDepth 100000 in
set_option maxHeartbeats 4000000 in
theorem walkRises (s : ByteArray) (w : World) (hs : s.size ≤ maxLen) (hv : Vars w) :
    Calls Tryd.prog 4 #[.string s] w fun e w' => e = .returned (.bool true) ∧ Below w.heap.size w w' := by
  unfold maxLen at hs
  have HV0 := Lib.hid hv
  have HB0 := Lib.hid (Below.refl w.heap.size w)
  clear hv
  by_cases h1 : 600 < s.size
  · go_enter Tryd.func4, Tryd.ntmps4
    go_wp2_with fail
    refine (live_any _ HV0.out).mono ?_
    rintro e w1 ⟨rfl, hb⟩
    have HB1 := Lib.hid (HB0.out.trans (hb.mono HB0.out.size))
    clear hb
    go_wp2_with fail
    go_ret
    exact ⟨rfl, HB1.out⟩
  · go_enter Tryd.func4, Tryd.ntmps4
    go_wp2_with fail
    refine (lxAll s 600 _ (by omega) (by omega) HV0.out).mono ?_
    rintro e w1 ⟨hans, hb⟩
    have HB1 := Lib.hid hb
    have HV1 := Lib.hid (HV0.out.below hb)
    clear hb
    rcases hans with ⟨p, hp, rfl⟩ | ⟨hn, A, c, rfl, hR⟩
    · have hpl := (lex_place 0 s.data.toList p hp).2
      rw [Nat.zero_add, ← Lib.size_eq] at hpl
      clear hp
      go_wp2_with fail
      refine (lxNum _ _).mono ?_
      rintro e w' ⟨rfl, rfl⟩
      go_wp2_with fail
      refine (live_any _ HV1.out).mono ?_
      rintro e w2 ⟨rfl, hb⟩
      have HB2 := Lib.hid (HB1.out.trans (hb.mono HB1.out.size))
      clear hb
      go_wp2_with fail
      go_ret
      exact ⟨rfl, HB2.out⟩
    · have hacc : lexL 0 s.data.toList = ((lexL 0 s.data.toList).1, none) := by rw [← hn]
      have HRI := Lib.hid (fun k hk t ht => rises_at (s := s) hacc (k := k) hk (t := t) ht)
      have HEL := Lib.hid (endAt_last (lexL 0 s.data.toList).1 s)
      have HRD := Lib.hid hR
      have hmx := hR.2.1
      have HES := Lib.hid (endAt_succ ((lexL 0 s.data.toList).1 ++ [endTk s]))
      clear hacc hn hR
      generalize (lexL 0 s.data.toList).1.length = m at *
      generalize (lexL 0 s.data.toList).1 ++ [endTk s] = ts at *
      go_wp2_with fail
      refine (lxNum _ _).mono ?_
      rintro e w' ⟨rfl, rfl⟩
      go_wp2_with fail
      go_loopw [6, 7] (fun q i wr => ∃ k : Nat, k ≤ m + 1 ∧ i = .int .i64 k ∧ q = .int .i64 (endAt ts k) ∧ Below w1.heap.size w1 wr) (fun _ i _ => (m + 1) - (intOf i).toNat)
      case atStart => exact ⟨0, Nat.zero_le _, rfl, rfl, Below.refl _ _⟩
      case round =>
        obtain ⟨k, hk, rfl, rfl, hbw⟩ := hrel
        have HBW := Lib.hid hbw
        by_cases hlt : k < m + 1
        · obtain ⟨b, off, rfl, hb, hc⟩ := (HRD.out.below hbw).2.2 (by omega)
          obtain ⟨a0, a1, a2, a3⟩ := hc k hlt
          have hri := HRI.out k hlt _ rfl
          have HE2 := Lib.hid (HES.out k)
          clear hc hbw
          generalize ts[k]?.getD default = t at *
          obtain ⟨tk, tt, tn, ta⟩ := t
          obtain ⟨r1, r2, r3, r4⟩ := hri
          simp only at r1 r2 r3 r4 a0 a1 a2 a3
          have hkn : (k == m) = decide (k = m) := by rw [Bool.eq_iff_iff]; simp
          have hkm : ((k : Int) == (m : Int)) = decide (k = m) := by rw [Bool.eq_iff_iff]; simp; omega
          have hl : (ofL tt).size = tt.length := ofL_size tt
          have hg1 : decide (ta < endAt ts k) = false := decide_eq_false (by omega)
          have HQ := Lib.hid r1
          clear r1
          generalize endAt ts k = q at *
          by_cases h4 : tk = 4
          · subst h4
            have hw : (⟨4, tt, tn, ta⟩ : Tk).w = tt.length + 2 := rfl
            rw [hw] at r2
            have hkf : k ≠ m := fun e => by rw [decide_eq_true e] at r4; exact absurd r4 (by decide)
            have hkm2 : ((k : Int) == (m : Int)) = false := by rw [hkm]; exact decide_eq_false hkf
            have hg2 : decide ((s.size : Int) - (ta : Int) < (tt.length : Int) + 2) = false := decide_eq_false (by omega)
            have HE3 : Hid (endAt ts (k + 1) = ta + (tt.length + 2)) := Lib.hid HE2.out
            have hkn2 : (k == m) = false := by rw [hkn]; exact decide_eq_false hkf
            clear r3 r4 hkm hkn hw HE2 hkf
            go_upto_region 11 with (fail)
            have HX : Hid (Row4 35 (wr.alloc (.cells #[.int .i64 4, .string (ofL tt), .int .i64 tn, .int .i64 (ta : Int)] 35)) wr.heap.size ⟨4, tt, tn, ta⟩) := Lib.hid (Row4.new _ wr ⟨4, tt, tn, ta⟩)
            have HBX : Hid (Below w1.heap.size w1 (wr.alloc (.cells #[.int .i64 4, .string (ofL tt), .int .i64 tn, .int .i64 (ta : Int)] 35))) := Lib.hid (HBW.out.alloc HBW.out.size _)
            generalize (wr.alloc (.cells #[.int .i64 4, .string (ofL tt), .int .i64 tn, .int .i64 (ta : Int)] 35)) = wb at *
            have c0 := HX.out.c0
            have c1 := HX.out.c1
            have c2 := HX.out.c2
            have c3 := HX.out.c3
            simp only at c0 c1 c2 c3
            go_wp2_with fail
            go_quiet (fail)
            go_wp2_with fail
            go_roundw
            case rel => exact ⟨k + 1, by omega, by go_num, by rw [HE3.out]; go_num, below_drewN HBX.out _⟩
            case measure => simp [intOf]; omega
          · have hw : (⟨tk, tt, tn, ta⟩ : Tk).w = tt.length := by simp [Tk.w, h4]
            rw [hw] at r2 r3
            have hx : s.extract ta (ta + tt.length) = ofL tt := eq_ofL (by rw [Lib.extract_data, show ta + tt.length - ta = tt.length by omega]; exact (r3 h4).symm)
            have hg2 : decide ((s.size : Int) - (ta : Int) < (tt.length : Int)) = false := decide_eq_false (by omega)
            have h4b : (tk == 4) = false := by simpa using h4
            have h4c : (tk != 4) = true := by simpa using h4
            have HE3 : Hid (endAt ts (k + 1) = ta + tt.length) := Lib.hid (by rw [HE2.out, hw])
            generalize decide (k = m) = bk at *
            clear r3 hw HE2 h4
            cases bk
            all_goals
              go_upto_region 11 with (fail)
              have HX : Hid (Row4 35 (wr.alloc (.cells #[.int .i64 tk, .string (ofL tt), .int .i64 tn, .int .i64 (ta : Int)] 35)) wr.heap.size ⟨tk, tt, tn, ta⟩) := Lib.hid (Row4.new _ wr ⟨tk, tt, tn, ta⟩)
              have HBX : Hid (Below w1.heap.size w1 (wr.alloc (.cells #[.int .i64 tk, .string (ofL tt), .int .i64 tn, .int .i64 (ta : Int)] 35))) := Lib.hid (HBW.out.alloc HBW.out.size _)
              generalize (wr.alloc (.cells #[.int .i64 tk, .string (ofL tt), .int .i64 tn, .int .i64 (ta : Int)] 35)) = wb at *
              have c0 := HX.out.c0
              have c1 := HX.out.c1
              have c2 := HX.out.c2
              have c3 := HX.out.c3
              simp only at c0 c1 c2 c3
              go_wp2_with fail
              go_quiet (fail)
              go_wp2_with fail
              go_roundw
              case rel => exact ⟨k + 1, by omega, by go_num, by rw [HE3.out]; go_num, below_drewN HBX.out _⟩
              case measure => simp [intOf]; omega
        · obtain rfl : k = m + 1 := by omega
          have HBE := Lib.hid (HB1.out.trans (HBW.out.mono HB1.out.size))
          have HVE := Lib.hid (HV1.out.below HBW.out)
          have hel := HEL.out
          clear hbw
          go_wp2_with fail
          refine (live_any _ HVE.out).mono ?_
          rintro e w6 ⟨rfl, hb⟩
          have HB6 := Lib.hid (HBE.out.trans (hb.mono HBE.out.size))
          clear hb
          go_wp2_with fail
          go_ret
          exact ⟨rfl, HB6.out⟩
end Go.Proofs.YtkgeigckekccgaaDoor
