/- What the document's inner functions of lex's bytes, and its skip, return. Conditions: none. -/
import Derived.Test.YtkgeigckekccgaaDoorLxG
namespace Go.Proofs.YtkgeigckekccgaaDoor
open Go.RowKit Go.Sort
set_option linter.unusedVariables false

set_option maxHeartbeats 400000 in
theorem rxIn (x a b : Int) (w : World) : Calls Tryd.prog 29 #[.int .u8 x, .int .u8 a, .int .u8 b] w fun e w' => e = .returned (.bool (inR a b x)) ∧ w = w' := by
  by_cases h1 : a ≤ x
  all_goals
    go_enter Tryd.func29, Tryd.ntmps29
    go_wp2
    go_ret
    exact ⟨ret_bool (by rw [Bool.eq_iff_iff]; simp [inR, h1] <;> omega), rfl⟩

theorem rxInS (x : Int) (w : World) : Calls Tryd.prog 29 #[.int .u8 x, .int .u8 97, .int .u8 122] w fun e w' => e = .returned (.bool (smallB x)) ∧ w = w' := rxIn x 97 122 w
theorem rxInG (x : Int) (w : World) : Calls Tryd.prog 29 #[.int .u8 x, .int .u8 65, .int .u8 90] w fun e w' => e = .returned (.bool (greatB x)) ∧ w = w' := rxIn x 65 90 w
theorem rxInD (x : Int) (w : World) : Calls Tryd.prog 29 #[.int .u8 x, .int .u8 48, .int .u8 57] w fun e w' => e = .returned (.bool (digitB x)) ∧ w = w' := rxIn x 48 57 w

set_option maxHeartbeats 1000000 in
theorem rxInner (x : Int) (w : World) : Calls Tryd.prog 31 #[.int .u8 x] w fun e w' => e = .returned (.bool (nameC x)) ∧ w = w' := by
  by_cases h1 : smallB x = true
  · go_enter Tryd.func31, Tryd.ntmps31
    go_wp2_with fail
    refine (rxInS x _).mono ?_
    rintro e w' ⟨rfl, rfl⟩
    go_wp2_with fail
    go_ret
    exact ⟨ret_bool (by simp [nameC, h1]), rfl⟩
  · have h1 : smallB x = false := by simpa using h1
    by_cases h2 : greatB x = true
    · go_enter Tryd.func31, Tryd.ntmps31
      go_wp2_with fail
      refine (rxInS x _).mono ?_
      rintro e w' ⟨rfl, rfl⟩
      go_wp2_with fail
      refine (rxInG x _).mono ?_
      rintro e w' ⟨rfl, rfl⟩
      go_wp2_with fail
      go_ret
      exact ⟨ret_bool (by simp [nameC, h2]), rfl⟩
    · have h2 : greatB x = false := by simpa using h2
      by_cases h3 : digitB x = true
      all_goals
        go_enter Tryd.func31, Tryd.ntmps31
        go_wp2_with fail
        refine (rxInS x _).mono ?_
        rintro e w' ⟨rfl, rfl⟩
        go_wp2_with fail
        refine (rxInG x _).mono ?_
        rintro e w' ⟨rfl, rfl⟩
        go_wp2_with fail
        refine (rxInD x _).mono ?_
        rintro e w' ⟨rfl, rfl⟩
        go_wp2_with fail
        go_ret
        exact ⟨ret_bool (by rw [Bool.eq_iff_iff]; simp [nameC, h1, h2, h3]), rfl⟩

/-! ### skip -/

/-- From place p on nothing but blanks stands ahead of place q. -/
def SkipTo (s : ByteArray) (p q : Nat) : Prop := p ≤ q ∧ q ≤ s.size ∧ lexL p (s.data.toList.drop p) = lexL q (s.data.toList.drop q)

section
variable {s : ByteArray} {p q k : Nat}
theorem SkipTo.start (h : p ≤ s.size) : SkipTo s p p := ⟨Nat.le_refl _, h, rfl⟩
theorem drop_at (h : k < s.size) : s.data.toList.drop k = s[k]'h :: s.data.toList.drop (k + 1) := by
  have hl : k < s.data.toList.length := by rw [← Lib.size_eq]; exact h
  rw [List.drop_eq_getElem_cons hl, at_list s k h]
theorem blank_space (h : k < s.size) (hc : spaceB (s[k]'h) = true) : blankN (s.data.toList.drop k) = 1 := by
  rw [drop_at h]
  unfold blankN
  have hn : ¬ ([45, 45] : List UInt8).isPrefixOf (s[k]'h :: s.data.toList.drop (k + 1)) = true := by
    intro e
    have : s[k]'h = 45 := by
      simp only [List.isPrefixOf_cons_cons, Bool.and_eq_true, beq_iff_eq] at e
      exact e.1.symm
    rw [this] at hc
    revert hc
    decide
  rw [if_neg hn]
  simp [hc]
theorem blank_no (h : k < s.size) (hc : spaceB (s[k]'h) = false) (hr : ¬ s[k]'h = 45 ∨ s.size ≤ k + 1 ∨ ∃ h2 : k + 1 < s.size, ¬ s[k + 1]'h2 = 45) : blankN (s.data.toList.drop k) = 0 := by
  rw [drop_at h]
  unfold blankN
  have hn : ¬ ([45, 45] : List UInt8).isPrefixOf (s[k]'h :: s.data.toList.drop (k + 1)) = true := by
    intro e
    simp only [List.isPrefixOf_cons_cons, Bool.and_eq_true, beq_iff_eq] at e
    rcases hr with hr | hr | ⟨h2, hr⟩
    · exact hr e.1.symm
    · have : s.data.toList.drop (k + 1) = [] := List.drop_of_length_le (by rw [← Lib.size_eq]; exact hr)
      rw [this] at e
      exact absurd e.2 (by simp)
    · rw [drop_at h2] at e
      simp only [List.isPrefixOf_cons_cons, Bool.and_eq_true, beq_iff_eq] at e
      exact hr e.2.1.symm
  rw [if_neg hn]
  simp [hc]
theorem SkipTo.space (H : SkipTo s p k) (h : k < s.size) (hc : spaceB (s[k]'h) = true) : SkipTo s p (k + 1) := by
  have hb := blank_space h hc
  refine ⟨by have := H.1; omega, by omega, ?_⟩
  rw [H.2.2, lex_blank (by rw [hb]; decide), hb, List.drop_drop]

/-- No line feed stands from place k up to place j. -/
def NoFeed (s : ByteArray) (k j : Nat) : Prop := k ≤ j ∧ j ≤ s.size ∧ ∀ i (h : i < s.size), k ≤ i → i < j → ¬ s[i]'h = 10
theorem NoFeed.on {j : Nat} (H : NoFeed s k j) (h : j < s.size) (hc : ¬ s[j]'h = 10) : NoFeed s k (j + 1) := by
  refine ⟨by have := H.1; omega, by omega, fun i hi h1 h2 => ?_⟩
  rcases Nat.lt_or_ge i j with h3 | h3
  · exact H.2.2 i hi h1 h3
  · obtain rfl : i = j := by omega
    exact hc
theorem NoFeed.line {j : Nat} (H : NoFeed s k j) (he : j = s.size ∨ ∃ h : j < s.size, s[j]'h = 10) : (lineL (s.data.toList.drop k)).length = j - k := by
  have hjz : j ≤ s.data.toList.length := by rw [← Lib.size_eq]; exact H.2.1
  have h1 : lineL (s.data.toList.drop k) = (s.data.toList.drop k).take (j - k) := by
    refine tw_eq (fun c hc => ?_) ?_
    · obtain ⟨i, hi, e⟩ := List.getElem_of_mem hc
      rw [List.length_take, List.length_drop] at hi
      have hik : k + i < s.size := by rw [Lib.size_eq]; omega
      rw [List.getElem_take, List.getElem_drop, at_list s (k + i) hik] at e
      have := H.2.2 (k + i) hik (by omega) (by omega)
      rw [e] at this
      simpa using this
    · rcases he with rfl | ⟨h, hc⟩
      · exact .inl (List.take_of_length_le (by rw [List.length_drop, ← Lib.size_eq]; omega)).symm
      · refine .inr ⟨10, s.data.toList.drop (j + 1), ?_, by decide⟩
        have h2 : (s.data.toList.drop k).drop (j - k) = 10 :: s.data.toList.drop (j + 1) := by
          rw [List.drop_drop, show k + (j - k) = j by have := H.1; omega, drop_at h, hc]
        rw [← h2, List.take_append_drop]
  rw [h1, List.length_take, List.length_drop]
  omega
theorem SkipTo.line {j : Nat} (H : SkipTo s p k) (N : NoFeed s k j) (h1 : k + 1 < s.size) (ha : s[k]'(by omega) = 45) (hb : s[k + 1]'h1 = 45) (he : j = s.size ∨ ∃ h : j < s.size, s[j]'h = 10) : SkipTo s p j := by
  have hl := N.line he
  have h0 : k < s.size := by omega
  have hp : ([45, 45] : List UInt8).isPrefixOf (s.data.toList.drop k) = true := by
    rw [drop_at h0, drop_at h1, ha, hb]
    simp
  have hbl : blankN (s.data.toList.drop k) = j - k := by
    unfold blankN
    rw [if_pos hp, hl]
  have hkj : k < j := by
    have h2 : (lineL (s.data.toList.drop k)).length ≠ 0 := by
      rw [drop_at h0, ha]
      simp [lineL]
    omega
  refine ⟨by have := H.1; omega, N.2.1, ?_⟩
  rw [H.2.2, lex_blank (by rw [hbl]; omega), hbl, List.drop_drop, show k + (j - k) = j by omega]
end

/-- What skip tells. -/
def SkipAns (s : ByteArray) (p : Nat) (e : Ending) : Prop := ∃ q : Nat, e = .returned (.int .i64 (q : Int)) ∧ SkipTo s p q ∧ (q < s.size → blankN (s.data.toList.drop q) = 0)

theorem byte_no {c : UInt8} (n : Int) (m : UInt8) (hm : (m.toNat : Int) = n) (h : (c == m) = false) : (((c.toNat : Int) == n) = false) := by
  have h2 : ¬ c = m := by simpa using h
  rw [← hm]
  have h3 : ¬ (c.toNat : Int) = m.toNat := fun e => h2 (UInt8.toNat_inj.1 (by omega))
  simpa using h3

set_option maxRecDepth 100000 in
set_option maxHeartbeats 4000000 in
theorem rxSkip (s : ByteArray) (p : Nat) (w : World) (hs : s.size ≤ 9223372036854775806) (hp : p ≤ s.size) :
    Calls Tryd.prog 15 #[.string s, .int .i64 (p : Int)] w fun e w' => SkipAns s p e ∧ w = w' := by
  go_enter Tryd.func15, Tryd.ntmps15
  go_wp2_with fail
  go_loop [1] (fun i => ∃ k : Nat, i = .int .i64 k ∧ SkipTo s p k) (fun i => s.size - (intOf i).toNat)
  case atStart => exact ⟨p, rfl, SkipTo.start hp⟩
  case round =>
    obtain ⟨k, rfl, hrel⟩ := hrel
    have HR := Lib.hid hrel
    have hk := hrel.2.1
    clear hrel
    by_cases hlt : k < s.size
    · by_cases hsp : spaceB (s[k]'hlt) = true
      · have HN := Lib.hid (HR.out.space hlt hsp)
        have hv : ((s[k]'hlt).toNat : Int) = 9 ∨ ((s[k]'hlt).toNat : Int) = 10 ∨ ((s[k]'hlt).toNat : Int) = 13 ∨ ((s[k]'hlt).toNat : Int) = 32 := by
          simp [spaceB] at hsp
          rcases hsp with ((h | h) | h) | h <;> simp [h]
        clear hsp
        rcases hv with hv | hv | hv | hv
        all_goals
          go_wp2_with fail
          go_round
          case rel => exact ⟨k + 1, by go_num, HN.out⟩
          case measure => simp [intOf]; omega
      · have hsp : spaceB (s[k]'hlt) = false := Bool.eq_false_iff.2 hsp
        have HNB := Lib.hid (fun h => blank_no hlt hsp h)
        simp only [spaceB, Bool.or_eq_false_iff] at hsp
        obtain ⟨⟨⟨h9, h10⟩, h13⟩, h32⟩ := hsp
        have g9 : (((s[k]'hlt).toNat : Int) == 9) = false := byte_no 9 9 rfl h9
        have g10 : (((s[k]'hlt).toNat : Int) == 10) = false := byte_no 10 10 rfl h10
        have g13 : (((s[k]'hlt).toNat : Int) == 13) = false := byte_no 13 13 rfl h13
        have g32 : (((s[k]'hlt).toNat : Int) == 32) = false := byte_no 32 32 rfl h32
        clear h9 h10 h13 h32
        by_cases h45 : s[k]'hlt = 45
        · have hx : ((s[k]'hlt).toNat : Int) = 45 := by rw [h45]; rfl
          by_cases h1 : k + 1 < s.size
          · by_cases g45 : s[k + 1]'h1 = 45
            · have hy : ((s[k + 1]'h1).toNat : Int) = 45 := by rw [g45]; rfl
              have HX := Lib.hid h45
              have HY := Lib.hid g45
              clear h45 g45 g9 g10 g13 g32
              go_wp2_with fail
              clear hx hy
              go_loop [1] (fun i => ∃ j : Nat, i = .int .i64 j ∧ NoFeed s k j) (fun i => s.size - (intOf i).toNat)
              case atStart => exact ⟨k, rfl, Nat.le_refl _, hk, fun i h a b => absurd b (by omega)⟩
              case round =>
                obtain ⟨j, rfl, hj⟩ := hrel
                have HJ := Lib.hid hj
                have hjs := hj.2.1
                have hkj := hj.1
                clear hj
                by_cases hjl : j < s.size
                · by_cases hf : s[j]'hjl = 10
                  · have HN := Lib.hid (HR.out.line HJ.out h1 HX.out HY.out (.inr ⟨hjl, hf⟩))
                    have hv : ((s[j]'hjl).toNat : Int) = 10 := by rw [hf]; rfl
                    have HJK := Lib.hid (show k < j by
                      have := HX.out
                      rcases Nat.lt_or_ge k j with h | h
                      · exact h
                      · obtain rfl : k = j := by omega
                        rw [hf] at this; exact absurd this (by decide))
                    clear hf
                    go_wp2_with fail
                    have hkj2 := HJK.out
                    go_round
                    case rel => exact ⟨j, rfl, HN.out⟩
                    case measure => simp [intOf]; omega
                  · have HN := Lib.hid (HJ.out.on hjl hf)
                    have hv : (((s[j]'hjl).toNat : Int) != 10) = true := by
                      have := byte_no 10 10 rfl (show (s[j]'hjl == 10) = false by simpa using hf)
                      simpa using this
                    clear hf
                    go_wp2_with fail
                    go_round
                    case rel => exact ⟨j + 1, by go_num, HN.out⟩
                    case measure => simp [intOf]; omega
                · obtain rfl : j = s.size := by omega
                  have HN := Lib.hid (HR.out.line HJ.out h1 HX.out HY.out (.inl rfl))
                  go_wp2_with fail
                  go_round
                  case rel => exact ⟨s.size, rfl, HN.out⟩
                  case measure => simp [intOf]; omega
            · have HE := Lib.hid (HNB.out (.inr (.inr ⟨h1, g45⟩)))
              have hv : (((s[k + 1]'h1).toNat : Int) != 45) = true := by
                have := byte_no 45 45 rfl (show (s[k + 1]'h1 == 45) = false by simpa using g45)
                simpa using this
              clear h45 g45 g9 g10 g13 g32
              go_wp2_with fail
              go_ret
              exact ⟨⟨k, rfl, HR.out, fun _ => HE.out⟩, rfl⟩
          · have HE := Lib.hid (HNB.out (.inr (.inl (by omega))))
            clear h45 g9 g10 g13 g32
            have h1 : s.size ≤ k + 1 := by omega
            go_wp2_with fail
            go_ret
            exact ⟨⟨k, rfl, HR.out, fun _ => HE.out⟩, rfl⟩
        · have HE := Lib.hid (HNB.out (.inl h45))
          have hv : (((s[k]'hlt).toNat : Int) != 45) = true := by
            have := byte_no 45 45 rfl (show (s[k]'hlt == 45) = false by simpa using h45)
            simpa using this
          clear h45
          go_wp2_with fail
          go_ret
          exact ⟨⟨k, rfl, HR.out, fun _ => HE.out⟩, rfl⟩
    · obtain rfl : k = s.size := by omega
      go_wp2_with fail
      go_ret
      exact ⟨⟨_, rfl, HR.out, fun h => absurd h (by omega)⟩, rfl⟩
end Go.Proofs.YtkgeigckekccgaaDoor
