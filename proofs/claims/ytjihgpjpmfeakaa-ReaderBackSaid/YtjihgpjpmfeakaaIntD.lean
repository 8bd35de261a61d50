/- What the reference's Int and Back of octet return. Conditions: none. -/
import Derived.Test.YtjihgpjpmfeakaaIntC
namespace Go.Proofs.Ytjihgpjpmfeakaa
open Go.RowKit
set_option linter.unusedVariables false

theorem rd_two {w : World} {A : Option Addr} {k c : Nat} {a : Int} (h : Rd .u8 w A k c (putL a k)) (hk : 1 < k) :
    ∃ b off B0 B1, A = some ⟨b, off, none⟩ ∧ b < w.heap.size ∧ w.cell? ⟨b, off, none⟩ = some (.int .u8 B0) ∧ w.cell? ⟨b, off + 1, none⟩ = some (.int .u8 B1) ∧
      0 ≤ B0 ∧ B0 ≤ 255 ∧ 0 ≤ B1 ∧ B1 ≤ 255 ∧ Hid (B0 = byteAt a (k - 1)) ∧ Hid (B1 = byteAt a (k - 2)) := by
  obtain ⟨b, off, rfl, hb, hc⟩ := h.at_ hk
  have h0 := hc 0 (by omega)
  have h1 := hc 1 (by omega)
  rw [putL_get _ _ _ (by omega)] at h0 h1
  have b0 := byteAt_bd a (k - 1 - 0)
  have b1 := byteAt_bd a (k - 1 - 1)
  exact ⟨b, off, _, _, rfl, hb, h0, h1, b0.1, b0.2, b1.1, b1.2, Lib.hid rfl, Lib.hid (by congr 1)⟩

theorem rd_tail {w : World} {b off k c : Nat} {a : Int} (h : Rd .u8 w (some ⟨b, off, none⟩) k c (putL a k)) (hk : 1 < k) : Rd .u8 w (some ⟨b, off + 1, none⟩) (k - 1) (c - 1) (putL a (k - 1)) := by
  have hl := h.le
  refine ⟨putL_length _ _, by omega, Nat.le_trans (Nat.sub_le _ _) h.2.2.1, putL_wf _ _, fun _ => ?_⟩
  obtain ⟨b', off', e, hb, hc⟩ := h.at_ hk
  injection e with e
  injection e with e1 e2
  subst e1 e2
  refine ⟨b, off + 1, rfl, hb, fun i hi => ?_⟩
  have := hc (1 + i) (by omega)
  rw [putL_get _ _ _ (by omega)] at this
  rw [Nat.add_assoc, this, putL_get _ _ _ hi]
  congr 3
  omega

/-- The four ways of the test of two bytes. -/
theorem idle_cases (B0 B1 : Int) :
    ((B0 == 0) = true ∧ B1 < 128 ∧ Idle B0 B1) ∨ ((B0 == 0) = false ∧ (B0 == 255) = true ∧ 128 ≤ B1 ∧ Idle B0 B1) ∨
    ((B0 == 0) = true ∧ (B0 == 255) = false ∧ 128 ≤ B1 ∧ ¬ Idle B0 B1) ∨ ((B0 == 0) = false ∧ (B0 == 255) = true ∧ B1 < 128 ∧ ¬ Idle B0 B1) ∨ ((B0 == 0) = false ∧ (B0 == 255) = false ∧ ¬ Idle B0 B1) := by
  unfold Idle
  by_cases h0 : B0 = 0
  · subst h0
    rcases Int.lt_or_le B1 128 with h | h
    · exact .inl ⟨rfl, h, by omega⟩
    · exact .inr (.inr (.inl ⟨rfl, rfl, h, by omega⟩))
  · by_cases h5 : B0 = 255
    · subst h5
      rcases Int.lt_or_le B1 128 with h | h
      · exact .inr (.inr (.inr (.inl ⟨rfl, rfl, h, by omega⟩)))
      · exact .inr (.inl ⟨rfl, rfl, h, by omega⟩)
    · exact .inr (.inr (.inr (.inr ⟨by simpa using h0, by simpa using h5, by omega⟩)))

set_option maxHeartbeats 800000 in
theorem refInt (n : Int) (w : World) (H : Hid (I64 n)) :
    Calls Try.prog 47 #[.int .i64 n] w fun e w' => Gives .u8 w (putL (u64 n) (wid n)) e w' := by
  go_enter Try.func47, Try.ntmps47
  go_wp2_with fail
  rw [u64_wrap]
  refine (refPut _ 8 _ (by omega) (by omega) (u64_bd n).1 (Lib.hid (u64_bd n).2)).mono ?_
  rintro e w1 ⟨A, m, c, rfl, hrd, hbel, hloc⟩
  have HLo := Lib.hid hloc
  clear hloc
  obtain rfl : 8 = m := by have := hrd.len; rw [putL_length] at this; exact this
  go_wp2_with fail
  go_loop [3] (fun v => ∃ (k c : Nat) (A : Option Addr), 1 ≤ k ∧ k ≤ 8 ∧ v = .slice A k c ∧ Rd .u8 w1 A k c (putL (u64 n) k) ∧ Hid (Fits n k) ∧ Hid (∀ a, A = some a → w.heap.size ≤ a.block)) (fun v => match v with | .slice _ k _ => k | _ => 0)
  case atStart => exact ⟨8, c, A, by omega, by omega, rfl, hrd, Lib.hid (fits_8 H.out), HLo⟩
  case round =>
    obtain ⟨k, c, A, hk1, hk8, rfl, hrd, HF, HLo⟩ := hrel
    by_cases hlt : 1 < k
    · obtain ⟨b, off, B0, B1, rfl, hb, hc0, hc1, p0, q0, p1, q1, E0, E1⟩ := rd_two hrd hlt
      have hcap := hrd.le
      have HI : Hid (Idle B0 B1 ↔ Fits n (k - 1)) := by rw [E0.out, E1.out]; exact Lib.hid (idle_iff (by omega) hk8 HF.out)
      have hcap1 : ¬ c = 1 := by omega
      rcases idle_cases B0 B1 with ⟨h0, h1, hi⟩ | ⟨h0, h5, h1, hi⟩ | ⟨h0, h5, h1, hi⟩ | ⟨h0, h5, h1, hi⟩ | ⟨h0, h5, hi⟩
      iterate 2
        · have HX := Lib.hid (HI.out.1 hi)
          clear hi
          go_wp2_with fail
          go_round
          case rel => exact ⟨k - 1, c - 1, _, by omega, by omega, rfl, rd_tail hrd hlt, HX, Lib.hid (fun a e => by injection e with e; subst e; exact HLo.out ⟨b, off, none⟩ rfl)⟩
          case measure => simp; omega
      all_goals
        have HX := Lib.hid (fun h => hi (HI.out.2 h))
        clear hi
        go_wp2_with fail
        go_ret
        exact ⟨_, _, _, rfl, by rw [wid_eq' hk1 hk8 (.inr HX.out) HF.out]; exact hrd, hbel, HLo.out⟩
    · obtain rfl : k = 1 := by omega
      go_wp2_with fail
      go_ret
      exact ⟨_, _, _, rfl, by rw [wid_eq' hk1 hk8 (.inl rfl) HF.out]; exact hrd, hbel, HLo.out⟩

theorem fold_snoc (l : List Int) (x i : Int) : (l ++ [x]).foldl getStep i = getStep (l.foldl getStep i) x := by simp
theorem fold_bd (l : List Int) (i : Int) (h0 : 0 ≤ i) (h1 : i ≤ 18446744073709551615) : 0 ≤ l.foldl getStep i ∧ l.foldl getStep i ≤ 18446744073709551615 := by
  rcases l.eq_nil_or_concat with rfl | ⟨l', x, rfl⟩
  · exact ⟨h0, h1⟩
  · rw [List.concat_eq_append, fold_snoc]; unfold getStep; omega

theorem rd_one {w : World} {A : Option Addr} {k c : Nat} {a : Int} (h : Rd .u8 w A k c (putL a k)) (hk : 0 < k) :
    ∃ b off B0, A = some ⟨b, off, none⟩ ∧ w.cell? ⟨b, off, none⟩ = some (.int .u8 B0) ∧ 0 ≤ B0 ∧ B0 ≤ 255 ∧ Hid (B0 = byteAt a (k - 1)) := by
  obtain ⟨b, off, rfl, hb, hc⟩ := h.at_ hk
  have h0 := hc 0 hk
  rw [putL_get _ _ _ hk] at h0
  have b0 := byteAt_bd a (k - 1 - 0)
  exact ⟨b, off, _, rfl, h0, b0.1, b0.2, Lib.hid rfl⟩

theorem getL_a {a : Int} {s : Nat} (h8 : s ≤ 8) (h0 : 0 ≤ a) (ha : a < 256 ^ s) : getL (putL a s) = a := by
  rw [getL_put h8, Int.emod_eq_of_lt h0 ha]

theorem u64_sgn_byte {a : Int} {s i : Nat} (h1 : 1 ≤ s) (h8 : s ≤ 8) (hi : i < s) : byteAt (u64 (sgn a s)) i = byteAt a i := by
  rw [← byteAt_mod (a := u64 (sgn a s)) hi, u64_sgn a h1 h8, byteAt_mod hi]

theorem wid_not {n : Int} {k : Nat} (h1 : 2 ≤ k) (h : Fits n (k - 1)) : ¬ wid n = k := by
  intro e
  exact wid_least (n := n) (j := k - 1) (by omega) (by omega) h

/-- What Back does with the bytes of a, said by the reference's own tests. -/
theorem back_idle {a : Int} {s : Nat} (h2 : 2 ≤ s) (h8 : s ≤ 8) (h0 : 0 ≤ a) (ha : a < 256 ^ s) (hi : Idle (byteAt a (s - 1)) (byteAt a (s - 2))) : backN (putL a s) = 0 ∧ backB (putL a s) = false := by
  refine back_no (putL_length _ _) ?_
  rintro ⟨_, _, hw⟩
  rw [getL_a h8 h0 ha] at hw
  rw [← u64_sgn_byte (a := a) (s := s) (by omega) h8 (by omega), ← u64_sgn_byte (a := a) (s := s) (i := s - 2) (by omega) h8 (by omega)] at hi
  exact wid_not h2 ((idle_iff h2 h8 (fits_sgn _ (by omega) h8)).1 hi) hw

theorem back_busy {a : Int} {s : Nat} (h1 : 1 ≤ s) (h8 : s ≤ 8) (h0 : 0 ≤ a) (ha : a < 256 ^ s) (hi : s = 1 ∨ ¬ Idle (byteAt a (s - 1)) (byteAt a (s - 2))) : backN (putL a s) = sgn a s ∧ backB (putL a s) = true := by
  have hw : wid (sgn (getL (putL a s)) s) = s := by
    rw [getL_a h8 h0 ha]
    refine wid_eq' h1 h8 ?_ (fits_sgn _ h1 h8)
    rcases Nat.lt_or_ge 1 s with h2 | h2
    · refine .inr fun hf => ?_
      rcases hi with hi | hi
      · omega
      · apply hi
        rw [← u64_sgn_byte (a := a) (s := s) (by omega) h8 (by omega), ← u64_sgn_byte (a := a) (s := s) (i := s - 2) (by omega) h8 (by omega)]
        exact (idle_iff h2 h8 (fits_sgn _ (by omega) h8)).2 hf
    · exact .inl (by omega)
  have h := back_yes (putL_length a s) h1 h8 hw
  rw [getL_a h8 h0 ha] at h
  exact h

set_option maxHeartbeats 800000 in
theorem refBack_no (A : Option Addr) (n c : Nat) (w : World) (h : n < 1 ∨ 8 < n) :
    Calls Try.prog 41 #[.slice A n c] w fun e w' => e = .returned (.tuple #[.int .i64 0, .bool false]) ∧ w = w' := by
  have hn' : (n : Int) < 1 ∨ ¬ (n : Int) < 1 ∧ (8 : Int) < n := by omega
  clear h
  rcases hn' with h1 | ⟨h1, h2⟩
  all_goals
    go_enter Try.func41, Try.ntmps41
    go_wp2_with fail
    go_ret2
    exact ⟨rfl, rfl⟩

set_option maxHeartbeats 800000 in
theorem refBack_idle (A : Option Addr) (s c : Nat) (a : Int) (w : World) (h : Rd .u8 w A s c (putL a s)) (h2 : 2 ≤ s) (h8 : s ≤ 8) (hi : Hid (Idle (byteAt a (s - 1)) (byteAt a (s - 2)))) :
    Calls Try.prog 41 #[.slice A s c] w fun e w' => e = .returned (.tuple #[.int .i64 0, .bool false]) ∧ w = w' := by
  obtain ⟨b, off, B0, B1, rfl, hb, hc0, hc1, p0, q0, p1, q1, E0, E1⟩ := rd_two h (by omega)
  have HI : Hid (Idle B0 B1) := by rw [E0.out, E1.out]; exact hi
  rcases idle_cases B0 B1 with ⟨h0, h1, hi⟩ | ⟨h0, h5, h1, hi⟩ | ⟨h0, h5, h1, hi⟩ | ⟨h0, h5, h1, hi⟩ | ⟨h0, h5, hi⟩
  iterate 2
    · clear hi
      go_enter Try.func41, Try.ntmps41
      go_wp2_with fail
      go_ret2
      exact ⟨rfl, rfl⟩
  all_goals exact absurd HI.out hi

def FoldSays (a : Int) (s : Nat) (e : Ending) : Prop := e = .returned (.tuple #[.int .i64 (sgn a s), .bool true])

theorem fold_says {a : Int} {s : Nat} (h1 : 1 ≤ s) (h8 : s ≤ 8) (h0 : 0 ≤ a) (ha : a < 256 ^ s) {i : Int} (hi : i = if 128 ≤ byteAt a (s - 1) then 18446744073709551615 else 0) :
    wrap64 ((putL a s).foldl getStep i) = sgn a s := by
  rw [i64_wrap_put h1 h8 i h0 ha hi _ rfl]
  have hb := fold_bd (putL a s) i (by rw [hi]; split <;> omega) (by rw [hi]; split <;> omega)
  unfold wrap64
  split <;> omega


theorem rd_all {w : World} {b off k c : Nat} {a : Int} (h : Rd .u8 w (some ⟨b, off, none⟩) k c (putL a k)) : ∀ i, i < k → w.cell? ⟨b, off + i, none⟩ = some (.int .u8 ((putL a k)[i]?.getD 0)) := by
  intro i hi
  obtain ⟨b', off', e, _, hc⟩ := h.at_ hi
  injection e with e
  injection e with e1 e2
  subst e1 e2
  exact hc i hi

set_option maxRecDepth 100000 in
set_option maxHeartbeats 1600000 in
theorem refBack_yes (A : Option Addr) (s c : Nat) (a : Int) (w : World) (h : Rd .u8 w A s c (putL a s)) (h1 : 1 ≤ s) (h8 : s ≤ 8) (H0 : Hid (0 ≤ a)) (HA : Hid (a < 256 ^ s)) (hi : Hid (s = 1 ∨ ¬ Idle (byteAt a (s - 1)) (byteAt a (s - 2)))) :
    Calls Try.prog 41 #[.slice A s c] w fun e w' => e = .returned (.tuple #[.int .i64 (sgn a s), .bool true]) ∧ w = w' := by
  have HX := Lib.hid (fun k (hk : k < s) => h.u8 hk)
  have hd1 : decide ((s : Int) < 1) = false := by simp; omega
  have hd8 : decide ((8 : Int) < s) = false := by simp; omega
  rcases Nat.lt_or_ge 1 s with h2 | h2
  · have hd2 : decide ((1 : Int) < s) = true := by simp; omega
    obtain ⟨b, off, B0, B1, rfl, hb, hc0, hc1, p0, q0, p1, q1, E0, E1⟩ := rd_two h h2
    have HC := Lib.hid (rd_all h)
    have hni : ¬ Idle B0 B1 := by
      rw [E0.out, E1.out]
      rcases hi.out with e | e
      · omega
      · exact e
    rcases idle_cases B0 B1 with ⟨_, _, hi'⟩ | ⟨_, _, _, hi'⟩ | ⟨h00, h05, h01, _⟩ | ⟨h00, h05, h01, _⟩ | ⟨h00, h05, _⟩
    iterate 2
      · exact absurd hi' hni
    all_goals clear hni
    · have hd3 : decide (B1 < 128) = false := by simp; omega
      have hd4 : decide (128 ≤ B1) = true := by simp; omega
      have hs : B0 < 128 := (by simp at h00; omega)
      have hsd : decide (128 ≤ B0) = false := by simp; omega
      have HR : Hid (wrap64 ((putL a s).foldl getStep 0) = sgn a s) := Lib.hid (fold_says h1 h8 H0.out HA.out (by rw [if_neg (by rw [← E0.out]; omega)]))
      have HB := Lib.hid (fun k => fold_bd ((putL a s).take k) 0 (by omega) (by omega))
      go_enter Try.func41, Try.ntmps41
      go_wp2_with fail
      go_loop [4, 5] (fun v i => ∃ k : Nat, k ≤ s ∧ i = .int .i64 k ∧ v = .int .u64 (((putL a s).take k).foldl getStep (0 : Int))) (fun _ i => s - (intOf i).toNat)
      case atStart => exact ⟨0, Nat.zero_le _, rfl, rfl⟩
      case round =>
        obtain ⟨k, hk, rfl, rfl⟩ := hrel
        have hg := HB.out k
        by_cases hlt : k < s
        · have hc := HC.out k hlt
          have hx := HX.out k hlt
          go_wp2_with fail
          go_round
          case rel => exact ⟨k + 1, by omega, by go_num, by rw [take_snoc (by rw [putL_length]; exact hlt), fold_snoc, get_add hx.1 hx.2]⟩
          case measure => simp [intOf]; omega
        · go_wp2_with fail
          go_ret2
          obtain rfl : k = s := by omega
          rw [List.take_of_length_le (by rw [putL_length]; omega), HR.out]
          exact ⟨rfl, rfl⟩
    · have hd3 : decide (B1 < 128) = true := by simp; omega
      have hd4 : decide (128 ≤ B1) = false := by simp; omega
      have hs : 128 ≤ B0 := (by simp at h05; omega)
      have hsd : decide (128 ≤ B0) = true := by simp; omega
      have HR : Hid (wrap64 ((putL a s).foldl getStep 18446744073709551615) = sgn a s) := Lib.hid (fold_says h1 h8 H0.out HA.out (by rw [if_pos (by rw [← E0.out]; omega)]))
      have HB := Lib.hid (fun k => fold_bd ((putL a s).take k) 18446744073709551615 (by omega) (by omega))
      go_enter Try.func41, Try.ntmps41
      go_wp2_with fail
      go_loop [4, 5] (fun v i => ∃ k : Nat, k ≤ s ∧ i = .int .i64 k ∧ v = .int .u64 (((putL a s).take k).foldl getStep (18446744073709551615 : Int))) (fun _ i => s - (intOf i).toNat)
      case atStart => exact ⟨0, Nat.zero_le _, rfl, (by rw [show IntKind.u64.wrap (-1) = 18446744073709551615 from by decide]; rfl)⟩
      case round =>
        obtain ⟨k, hk, rfl, rfl⟩ := hrel
        have hg := HB.out k
        by_cases hlt : k < s
        · have hc := HC.out k hlt
          have hx := HX.out k hlt
          go_wp2_with fail
          go_round
          case rel => exact ⟨k + 1, by omega, by go_num, by rw [take_snoc (by rw [putL_length]; exact hlt), fold_snoc, get_add hx.1 hx.2]⟩
          case measure => simp [intOf]; omega
        · go_wp2_with fail
          go_ret2
          obtain rfl : k = s := by omega
          rw [List.take_of_length_le (by rw [putL_length]; omega), HR.out]
          exact ⟨rfl, rfl⟩
    · rcases Int.lt_or_le B0 128 with hs' | hs'
      · have hs : B0 < 128 := hs'
        have hsd : decide (128 ≤ B0) = false := by simp; omega
        have HR : Hid (wrap64 ((putL a s).foldl getStep 0) = sgn a s) := Lib.hid (fold_says h1 h8 H0.out HA.out (by rw [if_neg (by rw [← E0.out]; omega)]))
        have HB := Lib.hid (fun k => fold_bd ((putL a s).take k) 0 (by omega) (by omega))
        go_enter Try.func41, Try.ntmps41
        go_wp2_with fail
        go_loop [4, 5] (fun v i => ∃ k : Nat, k ≤ s ∧ i = .int .i64 k ∧ v = .int .u64 (((putL a s).take k).foldl getStep (0 : Int))) (fun _ i => s - (intOf i).toNat)
        case atStart => exact ⟨0, Nat.zero_le _, rfl, rfl⟩
        case round =>
          obtain ⟨k, hk, rfl, rfl⟩ := hrel
          have hg := HB.out k
          by_cases hlt : k < s
          · have hc := HC.out k hlt
            have hx := HX.out k hlt
            go_wp2_with fail
            go_round
            case rel => exact ⟨k + 1, by omega, by go_num, by rw [take_snoc (by rw [putL_length]; exact hlt), fold_snoc, get_add hx.1 hx.2]⟩
            case measure => simp [intOf]; omega
          · go_wp2_with fail
            go_ret2
            obtain rfl : k = s := by omega
            rw [List.take_of_length_le (by rw [putL_length]; omega), HR.out]
            exact ⟨rfl, rfl⟩
      · have hs : 128 ≤ B0 := hs'
        have hsd : decide (128 ≤ B0) = true := by simp; omega
        have HR : Hid (wrap64 ((putL a s).foldl getStep 18446744073709551615) = sgn a s) := Lib.hid (fold_says h1 h8 H0.out HA.out (by rw [if_pos (by rw [← E0.out]; omega)]))
        have HB := Lib.hid (fun k => fold_bd ((putL a s).take k) 18446744073709551615 (by omega) (by omega))
        go_enter Try.func41, Try.ntmps41
        go_wp2_with fail
        go_loop [4, 5] (fun v i => ∃ k : Nat, k ≤ s ∧ i = .int .i64 k ∧ v = .int .u64 (((putL a s).take k).foldl getStep (18446744073709551615 : Int))) (fun _ i => s - (intOf i).toNat)
        case atStart => exact ⟨0, Nat.zero_le _, rfl, (by rw [show IntKind.u64.wrap (-1) = 18446744073709551615 from by decide]; rfl)⟩
        case round =>
          obtain ⟨k, hk, rfl, rfl⟩ := hrel
          have hg := HB.out k
          by_cases hlt : k < s
          · have hc := HC.out k hlt
            have hx := HX.out k hlt
            go_wp2_with fail
            go_round
            case rel => exact ⟨k + 1, by omega, by go_num, by rw [take_snoc (by rw [putL_length]; exact hlt), fold_snoc, get_add hx.1 hx.2]⟩
            case measure => simp [intOf]; omega
          · go_wp2_with fail
            go_ret2
            obtain rfl : k = s := by omega
            rw [List.take_of_length_le (by rw [putL_length]; omega), HR.out]
            exact ⟨rfl, rfl⟩
  · have hd2 : decide ((1 : Int) < s) = false := by simp; omega
    obtain ⟨b, off, B0, rfl, hc0, p0, q0, E0⟩ := rd_one h (by omega)
    have HC := Lib.hid (rd_all h)
    rcases Int.lt_or_le B0 128 with hs' | hs'
    · have hs : B0 < 128 := hs'
      have hsd : decide (128 ≤ B0) = false := by simp; omega
      have HR : Hid (wrap64 ((putL a s).foldl getStep 0) = sgn a s) := Lib.hid (fold_says h1 h8 H0.out HA.out (by rw [if_neg (by rw [← E0.out]; omega)]))
      have HB := Lib.hid (fun k => fold_bd ((putL a s).take k) 0 (by omega) (by omega))
      go_enter Try.func41, Try.ntmps41
      go_wp2_with fail
      go_loop [4, 5] (fun v i => ∃ k : Nat, k ≤ s ∧ i = .int .i64 k ∧ v = .int .u64 (((putL a s).take k).foldl getStep (0 : Int))) (fun _ i => s - (intOf i).toNat)
      case atStart => exact ⟨0, Nat.zero_le _, rfl, rfl⟩
      case round =>
        obtain ⟨k, hk, rfl, rfl⟩ := hrel
        have hg := HB.out k
        by_cases hlt : k < s
        · have hc := HC.out k hlt
          have hx := HX.out k hlt
          go_wp2_with fail
          go_round
          case rel => exact ⟨k + 1, by omega, by go_num, by rw [take_snoc (by rw [putL_length]; exact hlt), fold_snoc, get_add hx.1 hx.2]⟩
          case measure => simp [intOf]; omega
        · go_wp2_with fail
          go_ret2
          obtain rfl : k = s := by omega
          rw [List.take_of_length_le (by rw [putL_length]; omega), HR.out]
          exact ⟨rfl, rfl⟩
    · have hs : 128 ≤ B0 := hs'
      have hsd : decide (128 ≤ B0) = true := by simp; omega
      have HR : Hid (wrap64 ((putL a s).foldl getStep 18446744073709551615) = sgn a s) := Lib.hid (fold_says h1 h8 H0.out HA.out (by rw [if_pos (by rw [← E0.out]; omega)]))
      have HB := Lib.hid (fun k => fold_bd ((putL a s).take k) 18446744073709551615 (by omega) (by omega))
      go_enter Try.func41, Try.ntmps41
      go_wp2_with fail
      go_loop [4, 5] (fun v i => ∃ k : Nat, k ≤ s ∧ i = .int .i64 k ∧ v = .int .u64 (((putL a s).take k).foldl getStep (18446744073709551615 : Int))) (fun _ i => s - (intOf i).toNat)
      case atStart => exact ⟨0, Nat.zero_le _, rfl, (by rw [show IntKind.u64.wrap (-1) = 18446744073709551615 from by decide]; rfl)⟩
      case round =>
        obtain ⟨k, hk, rfl, rfl⟩ := hrel
        have hg := HB.out k
        by_cases hlt : k < s
        · have hc := HC.out k hlt
          have hx := HX.out k hlt
          go_wp2_with fail
          go_round
          case rel => exact ⟨k + 1, by omega, by go_num, by rw [take_snoc (by rw [putL_length]; exact hlt), fold_snoc, get_add hx.1 hx.2]⟩
          case measure => simp [intOf]; omega
        · go_wp2_with fail
          go_ret2
          obtain rfl : k = s := by omega
          rw [List.take_of_length_le (by rw [putL_length]; omega), HR.out]
          exact ⟨rfl, rfl⟩
end Go.Proofs.Ytjihgpjpmfeakaa
