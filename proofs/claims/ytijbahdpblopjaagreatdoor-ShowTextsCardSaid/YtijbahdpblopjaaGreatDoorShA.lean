/- The texts of arms, of what has no subs, of lists and calls: of the document's text. Conditions: names of at most 1000 bytes, numbers of 64 bits. -/
import Derived.Test.YtijbahdpblopjaaGreatDoorShG
import Derived.Test.YtijbahdpblopjaaGreatDoorExC
import Derived.Test.YtijbahdpblopjaaGreatDoorArY
import Derived.Test.YtijbahdpblopjaaGreatDoorVaC
import Derived.Test.YtijbahdpblopjaaGreatDoorExA
import Derived.Test.YtijbahdpblopjaaGreatDoorQt
namespace Go.Proofs.YtijbahdpblopjaaGreatDoor
open Go.RowKit Go.Sort
set_option linter.unusedVariables false
set_option linter.unusedSimpArgs false

set_option maxRecDepth 100000 in
set_option maxHeartbeats 2000000 in
theorem refOn (name arm : ByteArray) (w : World) (h1 : name.size ≤ 1000000) (h2 : arm.size ≤ 1000000) :
    Calls Tryz.prog 33 #[.string name, .string arm] w fun e w' => e = .returned (.string (ofB (onL name.data.toList arm.data.toList))) ∧ Below w.heap.size w w' := by
  have z1 : (9223372036854775807 < 4 + name.size) = False := by rw [eq_iff_iff, iff_false]; omega
  have z2 : (9223372036854775807 < arm.size + 1) = False := by rw [eq_iff_iff, iff_false]; omega
  have z3 : (9223372036854775807 < arm.size + 1 + name.size) = False := by rw [eq_iff_iff, iff_false]; omega
  have z4 : (9223372036854775807 < arm.size + 1 + name.size + 1) = False := by rw [eq_iff_iff, iff_false]; omega
  have ht := Lib.toList_data arm
  cases e1 : (arm.toList == [116, 114, 117, 101]) with
  | true =>
    have HE := Lib.hid (show name = ofB (onL name.data.toList arm.data.toList) by
      rw [ht] at e1
      unfold onL
      rw [if_pos (by simpa [trueL] using e1), ofB_self])
    clear ht
    go_enter Tryz.func33, Tryz.ntmps33
    go_wp2_with fail
    go_ret
    exact ⟨ret_str HE.out, Below.refl _ _⟩
  | false =>
    cases e2 : (arm.toList == [102, 97, 108, 115, 101]) with
    | true =>
      have HE := Lib.hid (show (⟨#[110, 111, 116, 32]⟩ : ByteArray) ++ name = ofB (onL name.data.toList arm.data.toList) by
        rw [ht] at e1 e2
        unfold onL
        rw [if_neg (by simpa [trueL] using e1), if_pos (by simpa [falseL] using e2)]
        exact ba_ext (by rw [ofB_data]; simp [notL]))
      clear ht
      go_enter Tryz.func33, Tryz.ntmps33
      go_wp2_with fail
      go_ret
      exact ⟨ret_str HE.out, Below.refl _ _⟩
    | false =>
      have HE := Lib.hid (show arm ++ (⟨#[40]⟩ : ByteArray) ++ name ++ ⟨#[41]⟩ = ofB (onL name.data.toList arm.data.toList) by
        rw [ht] at e1 e2
        unfold onL
        rw [if_neg (by simpa [trueL] using e1), if_neg (by simpa [falseL] using e2)]
        exact ba_ext (by rw [ofB_data]; simp))
      clear ht
      go_enter Tryz.func33, Tryz.ntmps33
      go_wp2_with fail
      go_ret
      exact ⟨ret_str HE.out, Below.refl _ _⟩

set_option maxRecDepth 100000 in
set_option maxHeartbeats 2000000 in
theorem refLeaf (x : Ex) (A : Option Addr) (ca : Nat) (B : Option Addr) (cb : Nat) (w : World) (hr : rdX w x A B) (hn : NumP x) :
    Calls Tryz.prog 36 #[.agg (exA x A ca B cb)] w fun e w' => e = .returned (.string (ofB (leafT x.k x.n x.s.data.toList))) ∧ Below w.heap.size w w' := by
  obtain ⟨hs, hn0, hn1⟩ := hn
  have HF := Lib.hid fun w1 h => box_facts w x A ca B cb w1 h hr
  have HL := Lib.hid (show leafT x.k x.n x.s.data.toList = if x.k = 1 then Lib.itoa x.n else if x.k = 2 then (if x.n = 1 then trueL else falseL) else if x.k = 17 then 39 :: (x.s.data.toList ++ [39]) else x.s.data.toList from rfl)
  clear hr
  unfold exA at HF ⊢
  generalize leafT x.k x.n x.s.data.toList = lt at *
  generalize x.k = k at *
  generalize x.s = s at *
  generalize x.n = n at *
  have z1 : (9223372036854775807 < 1 + s.size) = False := by rw [eq_iff_iff, iff_false]; omega
  have z2 : (9223372036854775807 < s.size + 1) = False := by rw [eq_iff_iff, iff_false]; omega
  have z3 : (9223372036854775807 < 1 + s.size + 1) = False := by rw [eq_iff_iff, iff_false]; omega
  by_cases h1 : k = 1
  · subst h1
    have HE := Lib.hid (show (⟨(Lib.itoa n).toArray⟩ : ByteArray) = ofB lt by rw [HL.out]; rfl)
    have HD := Lib.hid fun w => refDigits n hn0 hn1 w
    go_enter Tryz.func36, Tryz.ntmps36
    go_upto_region 1 with (fail)
    generalize hw1 : w.alloc _ = w1
    obtain ⟨hb1, hg, hr1, hcell⟩ := HF.out w1 hw1
    have HB1 := Lib.hid hb1
    have q0 := hcell w1 (Below.refl _ _) 0
    have q1 := hcell w1 (Below.refl _ _) 1
    clear hcell hb1 hr1 hw1 HF
    go_wp2_with fail
    refine (HD.out _).mono ?_
    rintro r w2 ⟨rfl, hb2⟩
    have HB2 := Lib.hid (HB1.out.trans (hb2.mono HB1.out.size))
    clear hb2
    go_wp2_with fail
    go_ret
    exact ⟨ret_str HE.out, HB2.out⟩
  by_cases h2 : k = 2
  · subst h2
    by_cases hn : n = 1
    · subst hn
      have HE := Lib.hid (show (⟨#[116, 114, 117, 101]⟩ : ByteArray) = ofB lt by rw [HL.out]; rfl)
      go_enter Tryz.func36, Tryz.ntmps36
      go_upto_region 1 with (fail)
      generalize hw1 : w.alloc _ = w1
      obtain ⟨hb1, hg, hr1, hcell⟩ := HF.out w1 hw1
      have HB1 := Lib.hid hb1
      have q0 := hcell w1 (Below.refl _ _) 0
      have q1 := hcell w1 (Below.refl _ _) 1
      clear hcell hb1 hr1 hw1 HF
      go_wp2_with fail
      go_ret
      exact ⟨ret_str HE.out, HB1.out⟩
    · have hne : (n == 1) = false := by simpa using hn
      have HE := Lib.hid (show (⟨#[102, 97, 108, 115, 101]⟩ : ByteArray) = ofB lt by rw [HL.out, if_neg (by decide), if_pos rfl, if_neg hn]; rfl)
      go_enter Tryz.func36, Tryz.ntmps36
      go_upto_region 1 with (fail)
      generalize hw1 : w.alloc _ = w1
      obtain ⟨hb1, hg, hr1, hcell⟩ := HF.out w1 hw1
      have HB1 := Lib.hid hb1
      have q0 := hcell w1 (Below.refl _ _) 0
      have q1 := hcell w1 (Below.refl _ _) 1
      clear hcell hb1 hr1 hw1 HF
      go_wp2_with fail
      go_ret
      exact ⟨ret_str HE.out, HB1.out⟩
  by_cases h17 : k = 17
  · subst h17
    have HE := Lib.hid (show (⟨#[39]⟩ : ByteArray) ++ s ++ ⟨#[39]⟩ = ofB lt by
      rw [HL.out, if_neg (by decide), if_neg (by decide), if_pos rfl]
      exact ba_ext (by rw [ofB_data]; simp))
    go_enter Tryz.func36, Tryz.ntmps36
    go_upto_region 1 with (fail)
    generalize hw1 : w.alloc _ = w1
    obtain ⟨hb1, hg, hr1, hcell⟩ := HF.out w1 hw1
    have HB1 := Lib.hid hb1
    have q0 := hcell w1 (Below.refl _ _) 0
    have q2 := hcell w1 (Below.refl _ _) 2
    clear hcell hb1 hr1 hw1 HF
    go_wp2_with fail
    go_ret
    exact ⟨ret_str HE.out, HB1.out⟩
  have e1 : (k == 1) = false := by simpa using h1
  have e2 : (k == 2) = false := by simpa using h2
  have e17 : (k == 17) = false := by simpa using h17
  have HE := Lib.hid (show s = ofB lt by rw [HL.out, if_neg h1, if_neg h2, if_neg h17, ofB_self])
  go_enter Tryz.func36, Tryz.ntmps36
  go_upto_region 1 with (fail)
  generalize hw1 : w.alloc _ = w1
  obtain ⟨hb1, hg, hr1, hcell⟩ := HF.out w1 hw1
  have HB1 := Lib.hid hb1
  have q0 := hcell w1 (Below.refl _ _) 0
  have q2 := hcell w1 (Below.refl _ _) 2
  clear hcell hb1 hr1 hw1 HF
  go_wp2_with fail
  go_ret
  exact ⟨ret_str HE.out, HB1.out⟩

theorem ofB_size (l : List UInt8) : (ofB l).size = l.length := by
  show l.toArray.size = l.length
  simp
theorem joinC_snoc : ∀ (l : List (List UInt8)) (x : List UInt8), l ≠ [] → joinC (l ++ [x]) = joinC l ++ 44 :: 32 :: x
  | [], _, h => absurd rfl h
  | [a], x, _ => rfl
  | a :: b :: l, x, _ => by
    have := joinC_snoc (b :: l) x (by simp)
    simp only [List.cons_append] at this ⊢
    simp only [joinC, this, List.append_assoc, List.cons_append]
theorem take_snocL {l : List Ex} {k : Nat} (h : k < l.length) : (l.map textL).take (k + 1) = (l.map textL).take k ++ [textL (l[k]?.getD default)] := by
  rw [List.take_succ_eq_append_getElem (by simpa using h)]
  simp [List.getElem?_eq_getElem h]
theorem join_take_len (l : List Ex) (k : Nat) (h : ∀ y ∈ l, (textL y).length ≤ 1300 * sizeX y) : (joinC ((l.map textL).take k)).length ≤ 1302 * sizesX l := by
  have h1 := joinC_len ((l.map textL).take k)
  have h2 := lensT_take (l.map textL) k
  have h3 := lens_subs l h
  have h4 := sizes_len l
  have h5 : ((l.map textL).take k).length ≤ l.length := by simp; omega
  omega

set_option maxRecDepth 100000 in
set_option maxHeartbeats 2000000 in
theorem refList (l : List Ex) (A : Option Addr) (n c : Nat) (w : World) (hl : RdX w A n l) (hs : sizesX l ≤ 1000000)
    (hb : ∀ y ∈ l, (textL y).length ≤ 1300 * sizeX y)
    (IH : ∀ i, i < n → ∀ w1, Below w.heap.size w w1 → ∃ b off, A = some ⟨b, off, none⟩ ∧ b < w.heap.size ∧ ∃ A' ca B' cb, w1.rangeAt b (off + i * 6) (exL (l[i]?.getD default) A' ca B' cb) ∧
      Calls Tryz.prog 13 #[.agg (exA (l[i]?.getD default) A' ca B' cb)] w1 fun e w' => e = .returned (.string (ofB (textL (l[i]?.getD default)))) ∧ Below w1.heap.size w1 w') :
    Calls Tryz.prog 35 #[.slice A n c] w fun e w' => e = .returned (.string (ofB (joinC (l.map textL)))) ∧ Below w.heap.size w w' := by
  have hlen := hl.len
  have hmx := hl.max
  have HIH := Lib.hid IH
  have HTS := Lib.hid fun k (hk : k < l.length) => take_snocL hk
  have HJL := Lib.hid fun k => join_take_len l k hb
  have HTL := Lib.hid fun k (hk : k < l.length) => (show (textL (l[k]?.getD default)).length ≤ 1300000000 by
    rw [List.getElem?_eq_getElem hk, Option.getD_some]
    have h1 := hb _ (List.getElem_mem hk)
    have h2 := sizes_mem (List.getElem_mem hk)
    omega)
  clear IH hb hl
  go_enter Tryz.func35, Tryz.ntmps35
  go_wp2_with fail
  go_loopw [3, 4] (fun s i wr => ∃ k : Nat, k ≤ n ∧ i = .int .i64 k ∧ s = .string (ofB (joinC ((l.map textL).take k))) ∧ Below w.heap.size w wr) (fun _ i _ => n - (intOf i).toNat)
  case atStart => exact ⟨0, Nat.zero_le _, rfl, rfl, Below.refl _ _⟩
  case round =>
    obtain ⟨k, hk, rfl, rfl, hbw⟩ := hrel
    have HBW := Lib.hid hbw
    have hjl := HJL.out k
    by_cases hlt : k < n
    · obtain ⟨b, off, rfl, hbl, A', ca', B', cb', hrg, hcl⟩ := HIH.out k hlt wr hbw
      obtain ⟨c0, c1, c2, c3, c4, c5⟩ := rangeAt_six hrg
      have HCL := Lib.hid hcl
      have hts := HTS.out k (by omega)
      have htl := HTL.out k (by omega)
      have HSN := Lib.hid fun h => joinC_snoc ((l.map textL).take k) (textL (l[k]?.getD default)) h
      have HK0 := Lib.hid (show (l.map textL).take k = [] → k = 0 from fun h => by
        have := congrArg List.length h
        rw [List.length_take, List.length_map, List.length_nil] at this
        omega)
      have HZ := Lib.hid (show (l.map textL).take 0 = [] from rfl)
      have HTK := Lib.hid hts
      clear hts hbw hrg hcl HIH
      unfold exA at HCL
      generalize l[k]?.getD default = y at *
      generalize htk : (l.map textL).take k = tk at *
      have hsz : (ofB (joinC tk)).size = (joinC tk).length := ofB_size _
      have hsy : (ofB (textL y)).size = (textL y).length := ofB_size _
      by_cases h0 : k = 0
      · subst h0
        simp only [Nat.zero_mul, Nat.add_zero] at c0 c1 c2 c3 c4 c5
        have HE := Lib.hid (show ofB (joinC tk) ++ ofB (textL y) = ofB (joinC ((l.map textL).take (0 + 1))) by
          rw [HTK.out, ← htk]
          exact ba_ext (by simp [ofB, joinC]))
        generalize ofB (joinC tk) = sa at *
        generalize ofB (textL y) = sb at *
        have z1 : (9223372036854775807 < sa.size + sb.size) = False := by rw [eq_iff_iff, iff_false]; omega
        go_wp2_with fail
        refine HCL.out.mono ?_
        rintro r w2 ⟨rfl, hb2⟩
        have HB2 := Lib.hid (HBW.out.trans (hb2.mono HBW.out.size))
        clear hb2
        go_wp2_with fail
        go_roundw
        case rel => exact ⟨1, by omega, by go_num, by rw [← HE.out], HB2.out⟩
        case measure => simp [intOf]; omega
      · have hd : decide ((0 : Int) < (k : Int)) = true := decide_eq_true (by omega)
        have HE := Lib.hid (show ofB (joinC tk) ++ (⟨#[44, 32]⟩ : ByteArray) ++ ofB (textL y) = ofB (joinC ((l.map textL).take (k + 1))) by
          rw [HTK.out, HSN.out (fun h => h0 (HK0.out h))]
          exact ba_ext (by simp [ofB]))
        generalize ofB (joinC tk) = sa at *
        generalize ofB (textL y) = sb at *
        have z1 : (9223372036854775807 < sa.size + 2) = False := by rw [eq_iff_iff, iff_false]; omega
        have z2 : (9223372036854775807 < sa.size + 2 + sb.size) = False := by rw [eq_iff_iff, iff_false]; omega
        go_wp2_with fail
        refine HCL.out.mono ?_
        rintro r w2 ⟨rfl, hb2⟩
        have HB2 := Lib.hid (HBW.out.trans (hb2.mono HBW.out.size))
        clear hb2
        go_wp2_with fail
        go_roundw
        case rel => exact ⟨k + 1, by omega, by go_num, by rw [← HE.out], HB2.out⟩
        case measure => simp [intOf]; omega
    · have hkl : k = n := by omega
      have HE := Lib.hid (show (l.map textL).take k = l.map textL from List.take_of_length_le (by simp; omega))
      go_wp2_with fail
      go_ret
      exact ⟨ret_str (by rw [HE.out]), HBW.out⟩
end Go.Proofs.YtijbahdpblopjaaGreatDoor
