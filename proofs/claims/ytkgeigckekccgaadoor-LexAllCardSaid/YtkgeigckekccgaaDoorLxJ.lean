/- What the document's number returns. Conditions: none. -/
import Derived.Test.YtkgeigckekccgaaDoorLxI
namespace Go.Proofs.YtkgeigckekccgaaDoor
open Go.RowKit Go.Sort
set_option linter.unusedVariables false

theorem tw_ge {p : UInt8 → Bool} : ∀ (l : List UInt8) (m : Nat), m ≤ l.length → (∀ c ∈ l.take m, p c = true) → ∃ r, l.takeWhile p = l.take m ++ r
  | l, 0, _, _ => ⟨l.takeWhile p, by simp⟩
  | [], m + 1, h, _ => by simp at h
  | c :: l, m + 1, h, ha => by
    have hc := ha c (by simp)
    obtain ⟨r, hr⟩ := tw_ge l m (by simpa using h) (fun c hc => ha c (by simp [hc]))
    exact ⟨r, by simp [hc, hr]⟩

/-- What stands from place p up to place k. -/
def pieceL (s : ByteArray) (p k : Nat) : List UInt8 := (s.data.toList.drop p).take (k - p)

section
variable {s : ByteArray} {p k v : Nat}
theorem piece_len (hp : p ≤ k) (hk : k ≤ s.size) : (pieceL s p k).length = k - p := by
  rw [pieceL, List.length_take, List.length_drop, ← Lib.size_eq]; omega
theorem piece_on (hp : p ≤ k) (h : k < s.size) : pieceL s p (k + 1) = pieceL s p k ++ [s[k]'h] := by
  unfold pieceL
  have e : k + 1 - p = (k - p) + 1 := by omega
  have hl : k - p < (s.data.toList.drop p).length := by rw [List.length_drop, ← Lib.size_eq]; omega
  rw [e, List.take_succ_eq_append_getElem hl, List.getElem_drop]
  have : p + (k - p) = k := by omega
  simp only [this]
  rw [at_list s k h]
theorem piece_ext (hp : p ≤ k) (hk : k ≤ s.size) : s.extract p k = ofL (pieceL s p k) := eq_ofL (Lib.extract_data s p k)
/-- All that stands from place p up to place k is such. -/
def PieceAll (f : UInt8 → Bool) (s : ByteArray) (p k : Nat) : Prop := p ≤ k ∧ k ≤ s.size ∧ ∀ c ∈ pieceL s p k, f c = true
theorem PieceAll.start {f : UInt8 → Bool} (h : p ≤ s.size) : PieceAll f s p p := ⟨Nat.le_refl _, h, fun c hc => by simp [pieceL] at hc⟩
theorem PieceAll.on {f : UInt8 → Bool} (H : PieceAll f s p k) (h : k < s.size) (hc : f (s[k]'h) = true) : PieceAll f s p (k + 1) := by
  refine ⟨by have := H.1; omega, by omega, fun c hm => ?_⟩
  rw [piece_on H.1 h] at hm
  rcases List.mem_append.1 hm with hm | hm
  · exact H.2.2 c hm
  · simp at hm; rw [hm]; exact hc
theorem PieceAll.stop {f : UInt8 → Bool} (H : PieceAll f s p k) (he : k = s.size ∨ ∃ h : k < s.size, f (s[k]'h) = false) : (s.data.toList.drop p).takeWhile f = pieceL s p k := by
  refine tw_eq H.2.2 ?_
  rcases he with rfl | ⟨h, hc⟩
  · exact .inl (List.take_of_length_le (by rw [List.length_drop, ← Lib.size_eq]; omega)).symm
  · refine .inr ⟨s[k]'h, s.data.toList.drop (k + 1), ?_, hc⟩
    have h2 : (s.data.toList.drop p).drop (k - p) = s[k]'h :: s.data.toList.drop (k + 1) := by
      rw [List.drop_drop, show p + (k - p) = k by have := H.1; omega, drop_at h]
    rw [← h2]
    exact (List.take_append_drop _ _).symm
theorem PieceAll.more {f : UInt8 → Bool} (H : PieceAll f s p k) : ∃ r, (s.data.toList.drop p).takeWhile f = pieceL s p k ++ r :=
  tw_ge _ _ (by rw [List.length_drop, ← Lib.size_eq]; have := H.2.1; omega) H.2.2

/-- The digits from place p up to place k are the number v. -/
def NumTo (s : ByteArray) (p k v : Nat) : Prop := PieceAll (fun c => digitB (c.toNat : Int)) s p k ∧ v = decV (pieceL s p k) ∧ v ≤ 9223372036854775807 ∧ (p + 1 < k → ∀ h : p < s.size, ¬ s[p]'h = 48)
theorem NumTo.start (h : p ≤ s.size) : NumTo s p p 0 := ⟨PieceAll.start h, by simp [pieceL, decV], by omega, fun h => absurd h (by omega)⟩
theorem NumTo.on (H : NumTo s p k v) (h : k < s.size) (hd : digitB ((s[k]'h).toNat : Int) = true) (hv : v * 10 + ((s[k]'h).toNat - 48) ≤ 9223372036854775807) (h0 : p < k → ∀ h : p < s.size, ¬ s[p]'h = 48) :
    NumTo s p (k + 1) (v * 10 + ((s[k]'h).toNat - 48)) :=
  ⟨H.1.on h hd, by rw [piece_on H.1.1 h, decV_snoc, ← H.2.1], hv, fun hp => h0 (by omega)⟩
theorem head_drop (h : p < s.size) : (s.data.toList.drop p).head? = some (s[p]'h) := by rw [drop_at h]; rfl
theorem NumTo.yes (H : NumTo s p k v) (hp : p < k) (he : k = s.size ∨ ∃ h : k < s.size, digitB ((s[k]'h).toNat : Int) = false) :
    numT (s.data.toList.drop p) = some (⟨3, pieceL s p k, (v : Int), 0⟩, k - p) := by
  have hd : digL (s.data.toList.drop p) = pieceL s p k := H.1.stop he
  have hps : p < s.size := by have := H.1.2.1; omega
  have hl := piece_len H.1.1 H.1.2.1
  unfold numT
  rw [hd, head_drop hps, hl, if_neg, H.2.1]
  rintro (⟨h1, h2⟩ | h1)
  · exact H.2.2.2 (by omega) hps (Option.some.inj h2)
  · rw [← H.2.1] at h1
    have := H.2.2.1
    omega
theorem NumTo.big (H : NumTo s p k v) (h : k < s.size) (hd : digitB ((s[k]'h).toNat : Int) = true) (hv : 9223372036854775807 < v * 10 + ((s[k]'h).toNat - 48)) : numT (s.data.toList.drop p) = none := by
  obtain ⟨r, hr⟩ := (H.1.on h hd).more
  have hd2 : digL (s.data.toList.drop p) = pieceL s p (k + 1) ++ r := hr
  unfold numT
  rw [if_pos]
  refine .inr ?_
  rw [hd2]
  have h1 := decV_app (pieceL s p (k + 1)) r
  rw [piece_on H.1.1 h, decV_snoc, ← H.2.1] at h1
  rw [piece_on H.1.1 h]
  omega
theorem NumTo.nought (H : NumTo s p k v) (hp : p < k) (h : k < s.size) (hd : digitB ((s[k]'h).toNat : Int) = true) (h48 : s[p]'(by omega) = 48) : numT (s.data.toList.drop p) = none := by
  obtain ⟨r, hr⟩ := (H.1.on h hd).more
  have hd2 : digL (s.data.toList.drop p) = pieceL s p (k + 1) ++ r := hr
  have hl := piece_len (s := s) (p := p) (k := k + 1) (by omega) (by omega)
  unfold numT
  rw [if_pos]
  refine .inl ⟨?_, ?_⟩
  · rw [hd2, List.length_append, hl]; omega
  · rw [head_drop (by omega), h48]
end

/-- What number tells. -/
def numAns (s : ByteArray) (p : Nat) : Value := match numT (s.data.toList.drop p) with
  | some (t, _) => .tuple #[tkV { t with a := p }, .bool true]
  | none => .tuple #[tkV tk0, .bool false]

set_option maxRecDepth 100000 in
set_option maxHeartbeats 4000000 in
theorem rxNumber (s : ByteArray) (p : Nat) (w : World) (hs : s.size ≤ 9223372036854775806) (hp : p < s.size) (hdp : digitB ((s[p]'hp).toNat : Int) = true) :
    Calls Tryd.prog 30 #[.string s, .int .i64 (p : Int)] w fun e w' => e = .returned (numAns s p) ∧ Below w.heap.size w w' := by
  have HG0 : Hid (Row4 42 (w.alloc (.cells #[.int .i64 0, .string ⟨#[]⟩, .int .i64 0, .int .i64 0] 42)) w.heap.size tk0) := Lib.hid (Row4.new _ w tk0)
  have HB0 : Hid (Below w.heap.size w (w.alloc (.cells #[.int .i64 0, .string ⟨#[]⟩, .int .i64 0, .int .i64 0] 42))) := Lib.hid ((Below.refl _ _).alloc (Nat.le_refl _) _)
  have HD := Lib.hid hdp
  clear hdp
  go_enter Tryd.func30, Tryd.ntmps30
  go_upto_region 1 with (fail)
  generalize (w.alloc (.cells #[.int .i64 0, .string ⟨#[]⟩, .int .i64 0, .int .i64 0] 42)) = w1 at *
  go_wp2_with fail
  go_loop [6, 7] (fun n i => ∃ k v : Nat, i = .int .i64 k ∧ n = .int .u64 v ∧ NumTo s p k v) (fun _ i => s.size - (intOf i).toNat)
  case atStart => exact ⟨p, 0, rfl, rfl, NumTo.start (by omega)⟩
  case round =>
    obtain ⟨k, v, rfl, rfl, hrel⟩ := hrel
    have HR := Lib.hid hrel
    have hpk := hrel.1.1
    have hk := hrel.1.2.1
    have hvm := hrel.2.2.1
    clear hrel
    by_cases hlt : k < s.size
    · by_cases hd : digitB ((s[k]'hlt).toNat : Int) = true
      · have HD2 := Lib.hid (digit_nat hd)
        by_cases hbig : 9223372036854775807 < v * 10 + ((s[k]'hlt).toNat - 48)
        · have HE : Hid (numAns s p = .tuple #[tkV tk0, .bool false]) := Lib.hid (by unfold numAns; rw [HR.out.big hlt hd hbig])
          have hg : decide ((9223372036854775807 - (((s[k]'hlt).toNat : Int) - 48)) / 10 < (v : Int)) = true := decide_eq_true (by have := HD2.out; omega)
          have hd2 := HD2.out
          clear hbig
          go_wp2_with (first | (go_at_call 29; refine (rxInD _ _).mono ?_; rintro e w' ⟨rfl, rfl⟩) | (refine wpList_store_row rfl _ _ _ rfl w.heap.size _ rfl rfl _ _ HG0.out tr_info rfl (by simp [Value.oneCell']) ?_))
          rw [HE.out]
          exact bodyPost_ret (res_tr2 (p := 4) (u := 5) rfl _ _ w.heap.size tk0 rfl (HG0.out.set tk0)) rfl ⟨rfl, below_setRow HB0.out (Nat.le_refl _) _⟩
        · have hg : decide ((9223372036854775807 - (((s[k]'hlt).toNat : Int) - 48)) / 10 < (v : Int)) = false := decide_eq_false (by have := HD2.out; omega)
          have HBG := Lib.hid (Nat.not_lt.1 hbig)
          clear hbig
          by_cases hpk2 : p < k
          · have hdp : decide ((p : Int) < (k : Int)) = true := decide_eq_true (by omega)
            by_cases h48 : s[p]'hp = 48
            · have HE : Hid (numAns s p = .tuple #[tkV tk0, .bool false]) := Lib.hid (by unfold numAns; rw [HR.out.nought hpk2 hlt hd h48])
              have hx : (((s[p]'hp).toNat : Int) == 48) = true := by rw [h48]; rfl
              have hd2 := HD2.out
              clear h48
              go_wp2_with (first | (go_at_call 29; refine (rxInD _ _).mono ?_; rintro e w' ⟨rfl, rfl⟩) | (refine wpList_store_row rfl _ _ _ rfl w.heap.size _ rfl rfl _ _ HG0.out tr_info rfl (by simp [Value.oneCell']) ?_))
              rw [HE.out]
              exact bodyPost_ret (res_tr2 (p := 4) (u := 5) rfl _ _ w.heap.size tk0 rfl (HG0.out.set tk0)) rfl ⟨rfl, below_setRow HB0.out (Nat.le_refl _) _⟩
            · have HN := Lib.hid (HR.out.on hlt hd HBG.out (fun _ _ => h48))
              have hx : (((s[p]'hp).toNat : Int) == 48) = false := byte_no 48 48 rfl (by simpa using h48)
              have hd2 := HD2.out
              clear h48
              go_wp2_with (go_at_call 29; refine (rxInD _ _).mono ?_; rintro e w' ⟨rfl, rfl⟩)
              have hd2 := HD2.out
              have hbg := HBG.out
              have he1 : IntKind.u64.wrap (IntKind.u64.wrap ((v : Int) * 10) + (((s[k]'hlt).toNat : Int) - 48)) = ((v * 10 + ((s[k]'hlt).toNat - 48) : Nat) : Int) := by
                rw [IntWalk.u64_in ((v : Int) * 10) (by omega), IntWalk.u64_in _ (by omega)]; omega
              rw [he1]
              go_round
              case rel => exact ⟨k + 1, v * 10 + ((s[k]'hlt).toNat - 48), by go_num, rfl, HN.out⟩
              case measure => simp [intOf]; omega
          · have hdp : decide ((p : Int) < (k : Int)) = false := decide_eq_false (by omega)
            have HN := Lib.hid (HR.out.on hlt hd HBG.out (fun h => absurd h hpk2))
            have hd2 := HD2.out
            go_wp2_with (go_at_call 29; refine (rxInD _ _).mono ?_; rintro e w' ⟨rfl, rfl⟩)
            have hd2 := HD2.out
            have hbg := HBG.out
            have he1 : IntKind.u64.wrap (IntKind.u64.wrap ((v : Int) * 10) + (((s[k]'hlt).toNat : Int) - 48)) = ((v * 10 + ((s[k]'hlt).toNat - 48) : Nat) : Int) := by
              rw [IntWalk.u64_in ((v : Int) * 10) (by omega), IntWalk.u64_in _ (by omega)]; omega
            rw [he1]
            go_round
            case rel => exact ⟨k + 1, v * 10 + ((s[k]'hlt).toNat - 48), by go_num, rfl, HN.out⟩
            case measure => simp [intOf]; omega
      · have hd : digitB ((s[k]'hlt).toNat : Int) = false := Bool.eq_false_iff.2 hd
        have hpk2 : p < k := by
          rcases Nat.lt_or_ge p k with h | h
          · exact h
          · obtain rfl : k = p := by omega
            have := HD.out
            rw [hd] at this; cases this
        have HE : Hid (numAns s p = .tuple #[tkV ⟨3, pieceL s p k, (v : Int), p⟩, .bool true]) := Lib.hid (by unfold numAns; rw [HR.out.yes hpk2 (.inr ⟨hlt, hd⟩)])
        have hpx := piece_ext hpk hk
        go_wp2_with (first | (go_at_call 29; refine (rxInD _ _).mono ?_; rintro e w' ⟨rfl, rfl⟩) | (refine wpList_store_row rfl _ _ _ rfl w.heap.size _ rfl rfl _ _ HG0.out tr_info rfl (by simp [Value.oneCell']) ?_))
        rw [HE.out]
        exact bodyPost_ret (res_tr2 (p := 4) (u := 5) rfl _ _ w.heap.size ⟨3, pieceL s p k, (v : Int), p⟩ rfl (HG0.out.set ⟨3, pieceL s p k, (v : Int), p⟩)) rfl ⟨rfl, below_setRow HB0.out (Nat.le_refl _) _⟩
    · have hpk2 : p < k := by omega
      have HE : Hid (numAns s p = .tuple #[tkV ⟨3, pieceL s p k, (v : Int), p⟩, .bool true]) := Lib.hid (by unfold numAns; rw [HR.out.yes hpk2 (.inl (by omega))])
      have hpx := piece_ext hpk hk
      go_wp2_with (first | (go_at_call 29; refine (rxInD _ _).mono ?_; rintro e w' ⟨rfl, rfl⟩) | (refine wpList_store_row rfl _ _ _ rfl w.heap.size _ rfl rfl _ _ HG0.out tr_info rfl (by simp [Value.oneCell']) ?_))
      rw [HE.out]
      exact bodyPost_ret (res_tr2 (p := 4) (u := 5) rfl _ _ w.heap.size ⟨3, pieceL s p k, (v : Int), p⟩ rfl (HG0.out.set ⟨3, pieceL s p k, (v : Int), p⟩)) rfl ⟨rfl, below_setRow HB0.out (Nat.le_refl _) _⟩
end Go.Proofs.YtkgeigckekccgaaDoor
