/- Two texts, a line feed between; the walk of LexJoins. Conditions: that the variables lie as laid. -/
import Derived.Test.YtkgeigckekccgaaDoorLxX
namespace Go.Proofs.YtkgeigckekccgaaDoor
open Go.RowKit Go.Sort
set_option linter.unusedVariables false

theorem lex_count (a : Nat) (l : List UInt8) : (lexL a l).1.length ≤ l.length := by
  refine lex_ind (P := fun a l => (lexL a l).1.length ≤ l.length) ?_ ?_ ?_ ?_ l.length a l (Nat.le_refl _)
  · intro a
    rw [lex_nil]; exact Nat.le_refl _
  · intro a l h hb ih
    rw [lex_blank hb]
    simp only [List.length_drop] at ih
    omega
  · intro a l h hb ht
    rw [lex_bad h hb ht]; exact Nat.zero_le _
  · intro a l t z h hb ht ih
    obtain ⟨h1, h2, _⟩ := tok_ok ht
    rw [lex_tok hb ht]
    simp only [List.length_drop, List.length_cons] at ih ⊢
    omega

theorem cell4 (w : World) (T : TypeId) (a b c d : Value) : (w.alloc (.cells #[a, b, c, d] T)).cell? ⟨w.heap.size, 0, none⟩ = some a ∧ (w.alloc (.cells #[a, b, c, d] T)).cell? ⟨w.heap.size, 1, none⟩ = some b ∧ (w.alloc (.cells #[a, b, c, d] T)).cell? ⟨w.heap.size, 2, none⟩ = some c ∧ (w.alloc (.cells #[a, b, c, d] T)).cell? ⟨w.heap.size, 3, none⟩ = some d := by
  refine ⟨?_, ?_, ?_, ?_⟩ <;> simp [go_sem]

/-- Two texts with a line feed between. -/
def joinS (a b : ByteArray) : ByteArray := a ++ (⟨#[10]⟩ : ByteArray) ++ b
theorem joinS_list (a b : ByteArray) : (joinS a b).data.toList = a.data.toList ++ 10 :: b.data.toList := by simp [joinS]
theorem joinS_size (a b : ByteArray) : (joinS a b).size = a.size + 1 + b.size := by
  unfold joinS
  rw [ByteArray.size_append, ByteArray.size_append]
  rfl

theorem join_lex {a b : ByteArray} (ha : (lexL 0 a.data.toList).2 = none) (hb : (lexL 0 b.data.toList).2 = none) :
    lexL 0 (joinS a b).data.toList = ((lexL 0 a.data.toList).1 ++ (lexL 0 b.data.toList).1.map (Tk.up (a.size + 1)), none) := by
  rw [joinS_list, lex_join _ _ _ ha, ← Lib.size_eq, show 0 + a.size + 1 = 0 + (a.size + 1) by omega, lex_shift (a.size + 1) 0, hb]
  rfl

/-- The token at place k of both. -/
theorem join_at {a b : ByteArray} {ta tb : List Tk} {k : Nat} (hk : k < ta.length + tb.length + 1) :
    (k < ta.length → ((ta ++ tb.map (Tk.up (a.size + 1))) ++ [endTk (joinS a b)])[k]?.getD default = (ta ++ [endTk a])[k]?.getD default) ∧
    (∀ j, k = ta.length + j → ((ta ++ tb.map (Tk.up (a.size + 1))) ++ [endTk (joinS a b)])[k]?.getD default = Tk.up (a.size + 1) ((tb ++ [endTk b])[j]?.getD default)) := by
  refine ⟨fun h => ?_, fun j hj => ?_⟩
  · rw [List.append_assoc, List.getElem?_append_left h, List.getElem?_append_left h]
  · subst hj
    rw [List.append_assoc, List.getElem?_append_right (by omega), Nat.add_sub_cancel_left]
    rcases Nat.lt_or_ge j tb.length with h | h
    · rw [List.getElem?_append_left (by simpa using h), List.getElem?_append_left h, List.getElem?_map, List.getElem?_eq_getElem h]
      rfl
    · obtain rfl : j = tb.length := by omega
      rw [List.getElem?_append_right (by simp), List.getElem?_append_right (Nat.le_refl _)]
      simp only [List.length_map, Nat.sub_self, List.getElem?_cons_zero, Option.getD_some]
      show endTk (joinS a b) = Tk.up (a.size + 1) (endTk b)
      have e : (joinS a b).size = b.size + (a.size + 1) := by rw [joinS_size]; omega
      unfold endTk Tk.up
      rw [e]

set_option maxRecDepth 100000 in
set_option maxHeartbeats 4000000 in
theorem walkJoins (a b : ByteArray) (w : World) (hs : a.size ≤ maxLen) (ht : b.size ≤ maxLen) (hv : Vars w) :
    Calls Tryd.prog 5 #[.string a, .string b] w fun e w' => e = .returned (.bool true) ∧ Below w.heap.size w w' := by
  unfold maxLen at hs ht
  have HV0 := Lib.hid hv
  have HB0 := Lib.hid (Below.refl w.heap.size w)
  clear hv
  by_cases h1 : 300 < a.size
  · go_enter Tryd.func5, Tryd.ntmps5
    go_wp2_with fail
    refine (live_any _ HV0.out).mono ?_
    rintro e w1 ⟨rfl, hb⟩
    have HB1 := Lib.hid (HB0.out.trans (hb.mono HB0.out.size))
    clear hb
    go_wp2_with fail
    go_ret
    exact ⟨rfl, HB1.out⟩
  · by_cases h2 : 300 < b.size
    · go_enter Tryd.func5, Tryd.ntmps5
      go_wp2_with fail
      refine (live_any _ HV0.out).mono ?_
      rintro e w1 ⟨rfl, hb⟩
      have HB1 := Lib.hid (HB0.out.trans (hb.mono HB0.out.size))
      clear hb
      go_wp2_with fail
      go_ret
      exact ⟨rfl, HB1.out⟩
    · have hd1 : decide ((300 : Int) < (a.size : Int)) = false := decide_eq_false (by omega)
      have hd2 : decide ((300 : Int) < (b.size : Int)) = false := decide_eq_false (by omega)
      have ha3 : a.size ≤ 300 := by omega
      have hb3 : b.size ≤ 300 := by omega
      clear h1 h2
      go_enter Tryd.func5, Tryd.ntmps5
      go_wp2_with fail
      refine (lxAll a 300 _ (by omega) (by omega) HV0.out).mono ?_
      rintro e w1 ⟨hans, hb⟩
      have HB1 := Lib.hid hb
      have HV1 := Lib.hid (HV0.out.below hb)
      clear hb
      rcases hans with ⟨p, hp, rfl⟩ | ⟨hna, A, ca, rfl, hRa⟩
      · go_wp2_with fail
        refine (lxAll b 300 _ (by omega) (by omega) HV1.out).mono ?_
        rintro e w2 ⟨hans, hb⟩
        have HB2 := Lib.hid (HB1.out.trans (hb.mono HB1.out.size))
        have HV2 := Lib.hid (HV1.out.below hb)
        clear hb hp
        rcases hans with ⟨p2, hp2, rfl⟩ | ⟨hnb, B, cb, rfl, hRb⟩
        all_goals
          go_wp2_with fail
          refine (lxNum _ _).mono ?_
          rintro e w' ⟨rfl, rfl⟩
          go_wp2_with fail
          refine (live_any _ HV2.out).mono ?_
          rintro e w3 ⟨rfl, hb⟩
          have HB3 := Lib.hid (HB2.out.trans (hb.mono HB2.out.size))
          clear hb
          go_wp2_with fail
          go_ret
          exact ⟨rfl, HB3.out⟩
      · go_wp2_with fail
        refine (lxAll b 300 _ (by omega) (by omega) HV1.out).mono ?_
        rintro e w2 ⟨hans, hb⟩
        have HB2 := Lib.hid (HB1.out.trans (hb.mono HB1.out.size))
        have HV2 := Lib.hid (HV1.out.below hb)
        have hRa2 := hRa.below hb
        clear hb hRa
        rcases hans with ⟨p2, hp2, rfl⟩ | ⟨hnb, B, cb, rfl, hRb⟩
        · clear hp2 hRa2
          go_wp2_with fail
          refine (lxNum _ _).mono ?_
          rintro e w' ⟨rfl, rfl⟩
          go_wp2_with fail
          refine (lxNum _ _).mono ?_
          rintro e w' ⟨rfl, rfl⟩
          go_wp2_with fail
          refine (live_any _ HV2.out).mono ?_
          rintro e w3 ⟨rfl, hb⟩
          have HB3 := Lib.hid (HB2.out.trans (hb.mono HB2.out.size))
          clear hb
          go_wp2_with fail
          go_ret
          exact ⟨rfl, HB3.out⟩
        · have HJ := Lib.hid (join_lex hna hnb)
          have HRa := Lib.hid hRa2
          have HRb := Lib.hid hRb
          have hmxa := hRa2.2.1
          have hmxb := hRb.2.1
          have hjz := joinS_size a b
          have HNB := Lib.hid hnb
          clear hRa2 hRb hna hnb
          go_wp2_with fail
          refine (lxNum _ _).mono ?_
          rintro e w' ⟨rfl, rfl⟩
          go_wp2_with fail
          refine (lxNum _ _).mono ?_
          rintro e w' ⟨rfl, rfl⟩
          go_wp2_with fail
          refine (lxAll (joinS a b) 700 _ (by omega) (by omega) HV2.out).mono ?_
          rintro e w3 ⟨hans, hb⟩
          have HB3 := Lib.hid (HB2.out.trans (hb.mono HB2.out.size))
          have HV3 := Lib.hid (HV2.out.below hb)
          have HRa3 := Lib.hid (HRa.out.below hb)
          have HRb3 := Lib.hid (HRb.out.below hb)
          clear hb HRa HRb
          rcases hans with ⟨p3, hp3, rfl⟩ | ⟨hnw, W, cw, rfl, hRw⟩
          · rw [HJ.out] at hp3
            cases hp3
          · have HRw := Lib.hid hRw
            have HW := Lib.hid (fun k hk => join_at (a := a) (b := b) (ta := (lexL 0 a.data.toList).1) (tb := (lexL 0 b.data.toList).1) (k := k) hk)
            rw [HJ.out] at HRw
            have hmxw := HRw.out.2.1
            simp only [List.length_append, List.length_map] at HRw hmxw
            rw [HJ.out]
            simp only [List.length_append, List.length_map]
            have hbx : lexL 0 b.data.toList = ((lexL 0 b.data.toList).1, none) := by rw [← HNB.out]
            have HTB := Lib.hid (fun j hj => (rises_at (s := b) hbx (k := j) hj rfl).2.1)
            clear hnw hRw HJ hbx HNB
            have hca : (lexL 0 a.data.toList).1.length ≤ 300 := by have := lex_count 0 a.data.toList; rw [← Lib.size_eq] at this; omega
            have hcb : (lexL 0 b.data.toList).1.length ≤ 300 := by have := lex_count 0 b.data.toList; rw [← Lib.size_eq] at this; omega
            generalize hna : (lexL 0 a.data.toList).1.length = na at *
            generalize hnb : (lexL 0 b.data.toList).1.length = nb at *
            generalize (lexL 0 a.data.toList).1 ++ (lexL 0 b.data.toList).1.map (Tk.up (a.size + 1)) ++ [endTk (joinS a b)] = tw at *
            generalize (lexL 0 a.data.toList).1 ++ [endTk a] = tl at *
            generalize (lexL 0 b.data.toList).1 ++ [endTk b] = tm at *
            clear hna hnb
            go_wp2_with fail
            refine (lxNum _ _).mono ?_
            rintro e w' ⟨rfl, rfl⟩
            go_wp2_with fail
            go_loopw [14] (fun i wr => ∃ k : Nat, k ≤ na + nb + 1 ∧ i = .int .i64 k ∧ Below w3.heap.size w3 wr) (fun i _ => (na + nb + 1) - (intOf i).toNat)
            case atStart => exact ⟨0, Nat.zero_le _, rfl, Below.refl _ _⟩
            case round =>
              obtain ⟨k, hk, rfl, hbw⟩ := hrel
              have HBW := Lib.hid hbw
              by_cases hlt : k < na + nb + 1
              · obtain ⟨bw, ow, rfl, hbwl, hcw⟩ := (HRw.out.below hbw).2.2 (by omega)
                obtain ⟨a0, a1, a2, a3⟩ := hcw k hlt
                have hwk := HW.out k (by omega)
                by_cases hka : k < na
                · obtain ⟨bl, ol, rfl, hbll, hcl⟩ := (HRa3.out.below hbw).2.2 (by omega)
                  obtain ⟨l0, l1, l2, l3⟩ := hcl k (by omega)
                  rw [hwk.1 hka] at a0 a1 a2 a3
                  clear hwk hcl hcw hbw
                  generalize tl[k]?.getD default = t at *
                  go_upto_region 18 with (fail)
                  have hxx := cell4 wr 35 (.int .i64 t.k) (.string (ofL t.s)) (.int .i64 t.n) (.int .i64 ((t.a : Int)))
                  have HBX := Lib.hid (HBW.out.alloc HBW.out.size (.cells #[.int .i64 t.k, .string (ofL t.s), .int .i64 t.n, .int .i64 ((t.a : Int))] 35))
                  have hbo := (Below.refl wr.heap.size wr).alloc (Nat.le_refl _) (.cells #[.int .i64 t.k, .string (ofL t.s), .int .i64 t.n, .int .i64 ((t.a : Int))] 35)
                  have b0 := (hbo.cell (p := ⟨bw, _, none⟩) hbwl).trans a0
                  have b1 := (hbo.cell (p := ⟨bw, _, none⟩) hbwl).trans a1
                  have b2 := (hbo.cell (p := ⟨bw, _, none⟩) hbwl).trans a2
                  have b3 := (hbo.cell (p := ⟨bw, _, none⟩) hbwl).trans a3
                  obtain ⟨c0, c1, c2, c3⟩ := hxx
                  clear hbo a0 a1 a2 a3 l0 l1 l2 l3
                  generalize (wr.alloc (.cells #[.int .i64 t.k, .string (ofL t.s), .int .i64 t.n, .int .i64 ((t.a : Int))] 35)) = wb at *
                  go_quiet (fail)
                  go_wp2_with fail
                  go_roundw
                  case rel => exact ⟨k + 1, by omega, by go_num, below_drewN HBX.out _⟩
                  case measure => simp [intOf]; omega
                · obtain ⟨j, rfl⟩ : ∃ j, k = na + j := ⟨k - na, by omega⟩
                  obtain ⟨bl, ol, rfl, hbll, hcl⟩ := (HRb3.out.below hbw).2.2 (by omega)
                  obtain ⟨l0, l1, l2, l3⟩ := hcl j (by omega)
                  rw [hwk.2 j rfl] at a0 a1 a2 a3
                  clear hwk hcl hcw hbw
                  have hta := HTB.out j (by omega)
                  generalize tm[j]?.getD default = t at *
                  have hix : ((na : Int) + (j : Int) - ((na : Int) + 1) + 1).toNat = j := by omega
                  have e3 : ((Tk.up (a.size + 1) t).a : Int) = (t.a : Int) + (a.size : Int) + 1 := by simp [Tk.up]; omega
                  rw [e3] at a3
                  have a0 : _ = some (Value.int .i64 t.k) := a0
                  have a1 : _ = some (Value.string (ofL t.s)) := a1
                  have a2 : _ = some (Value.int .i64 t.n) := a2
                  go_upto_region 18 with (fail)
                  have hxx := cell4 wr 35 (.int .i64 t.k) (.string (ofL t.s)) (.int .i64 t.n) (.int .i64 ((t.a : Int) + (a.size : Int) + 1))
                  have HBX := Lib.hid (HBW.out.alloc HBW.out.size (.cells #[.int .i64 t.k, .string (ofL t.s), .int .i64 t.n, .int .i64 ((t.a : Int) + (a.size : Int) + 1)] 35))
                  have hbo := (Below.refl wr.heap.size wr).alloc (Nat.le_refl _) (.cells #[.int .i64 t.k, .string (ofL t.s), .int .i64 t.n, .int .i64 ((t.a : Int) + (a.size : Int) + 1)] 35)
                  have b0 := (hbo.cell (p := ⟨bw, _, none⟩) hbwl).trans a0
                  have b1 := (hbo.cell (p := ⟨bw, _, none⟩) hbwl).trans a1
                  have b2 := (hbo.cell (p := ⟨bw, _, none⟩) hbwl).trans a2
                  have b3 := (hbo.cell (p := ⟨bw, _, none⟩) hbwl).trans a3
                  obtain ⟨c0, c1, c2, c3⟩ := hxx
                  clear hbo a0 a1 a2 a3 l0 l1 l2 l3
                  generalize (wr.alloc (.cells #[.int .i64 t.k, .string (ofL t.s), .int .i64 t.n, .int .i64 ((t.a : Int) + (a.size : Int) + 1)] 35)) = wb at *
                  go_quiet (fail)
                  go_wp2_with fail
                  go_roundw
                  case rel => exact ⟨na + j + 1, by omega, by go_num, below_drewN HBX.out _⟩
                  case measure => simp [intOf]; omega
              · obtain rfl : k = na + nb + 1 := by omega
                have HBE := Lib.hid (HB3.out.trans (HBW.out.mono HB3.out.size))
                have HVE := Lib.hid (HV3.out.below HBW.out)
                clear hbw
                go_wp2_with fail
                refine (live_any _ HVE.out).mono ?_
                rintro e w6 ⟨rfl, hb⟩
                have HB6 := Lib.hid (HBE.out.trans (hb.mono HBE.out.size))
                clear hb
                go_wp2_with fail
                go_ret
                exact ⟨rfl, HB6.out⟩
end Go.Proofs.YtkgeigckekccgaaDoor
