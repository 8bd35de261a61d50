/- What was written is read again, piece by piece: on plain lists. Conditions: none. -/
import Derived.Test.YtjihgpjpmfeakaaWrP
namespace Go.Proofs.Ytjihgpjpmfeakaa
open Go.RowKit
set_option linter.unusedVariables false

/-- What the pieces ahead of k were written as. -/
def wAll (f : Nat → Pc) : Nat → Option (List Int)
  | 0 => some []
  | k + 1 => wPc (wAll f k) (f k)

/-- From the place q on the piece p is read, and the place is q' then. -/
def ReadsPc (L : List Int) (q q' : Nat) (p : Pc) : Prop :=
  (p.d = 0 → numS L (some q) p.z = (some q', p.n)) ∧ (p.d = 1 → intS L (some q) = (some q', p.i)) ∧
  (p.d = 2 → countS L (some q) 2 = (some q', sL p.s)) ∧ (p.d ≠ 0 → p.d ≠ 1 → p.d ≠ 2 → countS L (some q) 4 = (some q', sL p.s))

theorem takeS_at {L a e r : List Int} (h : L = a ++ (e ++ r)) {k : Nat} (hk : e.length = k) : takeS L (some a.length) k = (some (a.length + k), e) := by
  subst h hk
  rw [takeS_yes (by simp)]
  simp
theorem numS_at {L a r : List Int} {n : Int} {z : Nat} (h : L = a ++ (putL n z ++ r)) (h1 : 1 ≤ z) (h4 : z ≤ 4) (h0 : 0 ≤ n) (hn : n < 256 ^ z) : numS L (some a.length) z = (some (a.length + z), n) := by
  rw [numS_yes L _ h1 h4, takeS_at h (putL_length n z), getL_a (by omega) h0 hn]
theorem countS_at {L a t r : List Int} {z : Nat} (h : L = a ++ (putL t.length z ++ (t ++ r))) (h1 : 1 ≤ z) (h4 : z ≤ 4) (hn : (t.length : Int) < 256 ^ z) : countS L (some a.length) z = (some (a.length + z + t.length), t) := by
  unfold countS
  rw [numS_at h h1 h4 (by omega) hn]
  have e : L = (a ++ putL t.length z) ++ (t ++ r) := by rw [h, List.append_assoc]
  have := takeS_at e (k := t.length) rfl
  rw [List.length_append, putL_length] at this
  exact this

theorem back_intL {n : Int} (h : I64 n) : backN (intL n) = n ∧ backB (intL n) = true := by
  have hb := wid_bd n
  have hs : sgn (getL (intL n)) (wid n) = n := by
    unfold intL
    rw [getL_put hb.2, sgn_mod]
    exact (sgn_fits hb.1 hb.2 h).2 (wid_fits h)
  have := back_yes (l := intL n) (putL_length _ _) hb.1 hb.2 (by rw [hs])
  rw [hs] at this
  exact this

theorem wNum_inv {l t : List Int} {n z : Int} (h : wNum (some l) n z = some t) : ∃ j : Nat, z = (j : Int) ∧ 1 ≤ j ∧ j ≤ 4 ∧ 0 ≤ n ∧ n < 256 ^ j ∧ t = l ++ putL n j := by
  by_cases hz : 1 ≤ z ∧ z ≤ 4 ∧ 0 ≤ n ∧ n < 256 ^ z.toNat
  · obtain ⟨j, rfl⟩ := Int.eq_ofNat_of_zero_le (show 0 ≤ z by omega)
    have hj : n < 256 ^ j := hz.2.2.2
    rw [wNum_yes l (z := j) (by omega) (by omega) hz.2.2.1 hj] at h
    injection h with h
    exact ⟨j, rfl, by omega, by omega, hz.2.2.1, hj, h.symm⟩
  · rw [wNum_no l hz] at h
    cases h
theorem wCount_inv {l t m : List Int} {z : Int} (h : wCount (some l) m z = some t) : ∃ j : Nat, z = (j : Int) ∧ 1 ≤ j ∧ j ≤ 4 ∧ (m.length : Int) < 256 ^ j ∧ t = l ++ (putL m.length j ++ m) := by
  unfold wCount at h
  cases hn : wNum (some l) (m.length : Int) z with
  | none => rw [hn] at h; cases h
  | some t' =>
    obtain ⟨j, hj, h1, h4, _, hlt, e⟩ := wNum_inv hn
    rw [hn] at h
    injection h with h
    exact ⟨j, hj, h1, h4, hlt, by rw [← h, e]; exact List.append_assoc _ _ _⟩

theorem count_reads {l t m : List Int} {z : Int} (h : wCount (some l) m z = some t) : (∃ e, t = l ++ e) ∧ ∀ r, countS (t ++ r) (some l.length) z = (some t.length, m) := by
  obtain ⟨j, rfl, h1, h4, hlt, rfl⟩ := wCount_inv h
  refine ⟨⟨_, rfl⟩, fun r => ?_⟩
  rw [countS_at (a := l) (t := m) (r := r) (by simp [List.append_assoc]) h1 h4 hlt]
  simp [putL_length]
  omega

theorem wPc_reads {l t : List Int} {p : Pc} (hi : I64 p.i) (h : wPc (some l) p = some t) : (∃ e, t = l ++ e) ∧ ∀ r, ReadsPc (t ++ r) l.length t.length p := by
  unfold wPc at h
  by_cases h0 : p.d = 0
  · rw [if_pos h0] at h
    obtain ⟨j, hj, h1, h4, hn0, hlt, rfl⟩ := wNum_inv h
    refine ⟨⟨_, rfl⟩, fun r => ⟨fun _ => ?_, (fun x => by omega), (fun x => by omega), fun x => absurd h0 x⟩⟩
    rw [hj, numS_at (a := l) (r := r) (by rw [List.append_assoc]) h1 h4 hn0 hlt, List.length_append, putL_length]
  · rw [if_neg h0] at h
    by_cases h1 : p.d = 1
    · rw [if_pos h1] at h
      obtain ⟨he, hr⟩ := count_reads h
      refine ⟨he, fun r => ⟨(fun x => by omega), fun _ => ?_, (fun x => by omega), fun _ x => absurd h1 x⟩⟩
      have hb := back_intL hi
      rw [intS_yes (by rw [hr r]; exact hb.2), hr r]
      exact Prod.ext rfl hb.1
    · rw [if_neg h1] at h
      by_cases h2 : p.d = 2
      · rw [if_pos h2] at h
        obtain ⟨he, hr⟩ := count_reads h
        exact ⟨he, fun r => ⟨(fun x => by omega), (fun x => by omega), fun _ => hr r, fun _ _ x => absurd h2 x⟩⟩
      · rw [if_neg h2] at h
        obtain ⟨he, hr⟩ := count_reads h
        exact ⟨he, fun r => ⟨(fun x => by omega), (fun x => by omega), (fun x => by omega), fun _ _ _ => hr r⟩⟩

theorem wPc_none (p : Pc) : wPc none p = none := by
  unfold wPc
  split
  · rfl
  · split
    · rfl
    · split <;> rfl
theorem wAll_some {f : Nat → Pc} {k : Nat} {t : List Int} (h : wAll f (k + 1) = some t) : ∃ l, wAll f k = some l ∧ wPc (some l) (f k) = some t := by
  cases hk : wAll f k with
  | none => rw [wAll, hk, wPc_none] at h; cases h
  | some l => rw [wAll, hk] at h; exact ⟨l, rfl, h⟩
theorem wAll_pre {f : Nat → Pc} {k N : Nat} (hf : ∀ i, i < N → I64 (f i).i) : ∀ (j : Nat) {L : List Int}, k + j ≤ N → wAll f (k + j) = some L → ∃ l r, wAll f k = some l ∧ L = l ++ r
  | 0, L, _, h => ⟨L, [], h, by simp⟩
  | j + 1, L, hN, h => by
    obtain ⟨m, hm, hp⟩ := wAll_some (k := k + j) h
    obtain ⟨l, r, hl, rfl⟩ := wAll_pre hf j (by omega) hm
    obtain ⟨⟨e, rfl⟩, _⟩ := wPc_reads (hf _ (by omega)) hp
    exact ⟨l, r ++ e, hl, by rw [List.append_assoc]⟩
/-- Where piece k lies in what was written. -/
theorem wAll_reads {f : Nat → Pc} {n k : Nat} {L : List Int} (hf : ∀ i, i < n → I64 (f i).i) (h : wAll f n = some L) (hk : k < n) : ∃ l t, wAll f k = some l ∧ wAll f (k + 1) = some t ∧ ReadsPc L l.length t.length (f k) := by
  obtain ⟨j, rfl⟩ : ∃ j, n = k + 1 + j := ⟨n - (k + 1), by omega⟩
  obtain ⟨t, r, ht, rfl⟩ := wAll_pre hf j (Nat.le_refl _) h
  obtain ⟨l, hl, hp⟩ := wAll_some ht
  exact ⟨l, t, hl, ht, (wPc_reads (hf _ hk) hp).2 r⟩
end Go.Proofs.Ytjihgpjpmfeakaa
