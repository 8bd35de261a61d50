/- What the writing functions of octet, and of its reference, return: Put. Conditions: none. -/
import Derived.Test.YtjihgpjpmfeakaaBase
import Derived.Test.YtjihgpjpmfeakaaOctM
import Derived.Test.YtjihgpjpmfeakaaRows
namespace Go.Proofs.Ytjihgpjpmfeakaa
open Go.RowKit
set_option linter.unusedVariables false

/-- What a call leaves that returns a slice of its own. -/
def Gives (k : IntKind) (w : World) (l : List Int) (e : Ending) (w' : World) : Prop :=
  ∃ A n c, e = .returned (.slice A n c) ∧ Rd k w' A n c l ∧ Below w.heap.size w w' ∧ ∀ a, A = some a → w.heap.size ≤ a.block


theorem Try.info5 : (Try.prog.info? 5).map (fun i => (i.zero, i.size, i.bytes)) = some (some (.int .u8 0), 1, 1) := by kernel_rfl

def putCell (a : Int) (s k j : Nat) : Value := .int .u8 (if s - k ≤ j then byteAt a (s - 1 - j) else 0)

theorem putL_wf (a : Int) (s : Nat) : ∀ z ∈ putL a s, (Lit.int .u8 z).wf = true := by
  intro z hz
  simp only [putL, List.mem_map] at hz
  obtain ⟨j, _, rfl⟩ := hz
  have := byteAt_bd a (s - 1 - j)
  simp [Lit.wf, IntKind.min, IntKind.max, IntKind.signed, IntKind.bits]
  omega

theorem pow_8 (k : Nat) : (2 : Int) ^ (8 * k) = 256 ^ k := by rw [Int.pow_mul]; rfl

theorem putCell_step {a : Int} {s k j : Nat} (hk : k < s) (hj : j < s) :
    (if j = s - 1 - k then Value.int .u8 (a / 2 ^ (8 * k) % 256) else putCell a s k j) = putCell a s (k + 1) j := by
  unfold putCell
  by_cases e : j = s - 1 - k
  · subst e
    rw [if_pos rfl, if_pos (by omega), pow_8, show s - 1 - (s - 1 - k) = k from by omega]
    rfl
  · rw [if_neg e]
    by_cases h : s - k ≤ j
    · rw [if_pos h, if_pos (by omega)]
    · rw [if_neg h, if_neg (by omega)]

set_option maxHeartbeats 400000 in
theorem octPut (a : Int) (s : Nat) (w : World) (h1 : 1 ≤ s) (h8 : s ≤ 8) (ha : 0 ≤ a) :
    Calls Try.prog 43 #[.int .u64 a, .int .i64 s] w fun e w' => Gives .u8 w (putL a s) e w' := by
  have hmk := fun W : World => mk_row (P := Try.prog) 22 5 (.int .u8 0) 1 Try.underlying22 Try.info5 rfl s (by omega) (by omega) W
  have h1' : ¬ (s : Int) < 1 := by omega
  have h8' : ¬ (8 : Int) < s := by omega
  go_enter Try.func43, Try.ntmps43
  go_wp2_with fail
  go_loopw [6, 16] (fun _ i wr => ∃ k : Nat, k ≤ s ∧ i = .int .i64 k ∧ wr.rowIs w.heap.size 5 s (putCell a s k) ∧ Below w.heap.size w wr) (fun _ i _ => s - (intOf i).toNat)
  case atStart =>
    refine ⟨0, Nat.zero_le _, rfl, (World.rowIs_made w (.int .u8 0) s 5).congr (fun i hi => ?_), (Below.refl _ _).alloc (Nat.le_refl _) _⟩
    unfold putCell
    rw [if_neg (by omega)]
  case round =>
    obtain ⟨k, hk, rfl, hrow, hbel⟩ := hrel
    by_cases hlt : k < s
    · have hc := hrow.cell (i := s - 1 - k) (by omega)
      have hf := hrow.frozen (s - 1 - k)
      clear hmk
      go_wp2
      go_roundw
      case rel => exact ⟨k + 1, by omega, by go_num, (hrow.set _ _).congr fun j hj => putCell_step hlt hj, hbel.setCell (Nat.le_refl _) _⟩
      case measure => simp [intOf]; omega
    · obtain rfl : k = s := by omega
      go_wp2_with fail
      go_ret
      refine ⟨_, _, _, rfl, ⟨putL_length _ _, Nat.le_refl _, by unfold maxLen; omega, putL_wf _ _, fun _ => ⟨_, _, rfl, hrow.lt, fun i hi => ?_⟩⟩, hbel, fun a e => by injection e with e; subst e; exact Nat.le_refl _⟩
      rw [Nat.zero_add, hrow.cell hi, putL_get _ _ _ hi, putCell, if_pos (by omega)]

theorem quo_256 {x : Int} (h0 : 0 ≤ x) (h1 : x ≤ 18446744073709551615) : IntKind.u64.wrap (x.tdiv 256) = x / 256 := by
  rw [Int.tdiv_eq_ediv_of_nonneg h0, IntKind.wrap_u64]
  omega

theorem octPut_none (a s : Int) (w : World) (h : s < 1 ∨ 8 < s) :
    Calls Try.prog 43 #[.int .u64 a, .int .i64 s] w fun e w' => e = .returned (.slice none 0 0) ∧ w = w' := by
  rcases h with h | h
  · go_enter Try.func43, Try.ntmps43
    go_wp2_with fail
    go_ret
    exact ⟨rfl, rfl⟩
  · have h' : ¬ s < 1 := by omega
    go_enter Try.func43, Try.ntmps43
    go_wp2_with fail
    go_ret
    exact ⟨rfl, rfl⟩

theorem refPut_none (a s : Int) (w : World) (h : s < 1 ∨ 8 < s) :
    Calls Try.prog 44 #[.int .u64 a, .int .i64 s] w fun e w' => e = .returned (.slice none 0 0) ∧ w = w' := by
  rcases h with h | h
  · go_enter Try.func44, Try.ntmps44
    go_wp2_with fail
    go_ret
    exact ⟨rfl, rfl⟩
  · have h' : ¬ s < 1 := by omega
    go_enter Try.func44, Try.ntmps44
    go_wp2_with fail
    go_ret
    exact ⟨rfl, rfl⟩

set_option maxHeartbeats 400000 in
theorem refPut (a : Int) (s : Nat) (w : World) (h1 : 1 ≤ s) (h8 : s ≤ 8) (ha : 0 ≤ a) (HA : Hid (a ≤ 18446744073709551615)) :
    Calls Try.prog 44 #[.int .u64 a, .int .i64 s] w fun e w' => Gives .u8 w (putL a s) e w' := by
  have h1' : ¬ (s : Int) < 1 := by omega
  have h8' : ¬ (8 : Int) < s := by omega
  go_enter Try.func44, Try.ntmps44
  go_wp2_with fail
  go_loopw [0, 5, 6] (fun av v i wr => ∃ (k c : Nat) (ad : Addr), k ≤ s ∧ i = .int .i64 k ∧ av = .int .u64 (a / 256 ^ k) ∧ v = .slice (some ad) k c ∧ Rd .u8 wr (some ad) k c (putL a k) ∧ Below w.heap.size w wr ∧ w.heap.size ≤ ad.block) (fun _ _ i _ => s - (intOf i).toNat)
  case atStart =>
    exact ⟨0, 0, _, Nat.zero_le _, rfl, by simp, rfl, ⟨rfl, Nat.le_refl _, by decide, by simp [putL], by omega⟩, (Below.refl _ _).alloc (Nat.le_refl _) _, Nat.le_refl _⟩
  case round =>
    obtain ⟨k, c, ad, hk, rfl, rfl, rfl, hrd, hbel, hloc⟩ := hrel
    have HLo := Lib.hid hloc
    clear hloc
    by_cases hlt : k < s
    · have hq : 0 ≤ a / 256 ^ k := Int.ediv_nonneg ha (by exact Int.le_of_lt (Int.pow_pos (by omega)))
      obtain ⟨i0, hi, hz0, hz1, hz2⟩ := info_parts Try.info5
      have hrd' := hrd.alloc (.cells #[Value.int .u8 (a / 256 ^ k % 256)] 5)
      have hown := World.ownsRow_lit (base := w.heap.size) (e := 5) (size := 1) wr #[Value.int .u8 (a / 256 ^ k % 256)] 1 hbel.size (by decide) rfl
      have hnews := hrd'.news
      have hlen : (List.map (Value.int .u8) (putL a k)).length = k * 1 := by simp [putL_length]
      have hbel' := hbel.alloc hbel.size (.cells #[Value.int .u8 (a / 256 ^ k % 256)] 5)
      have HB := Lib.hid hbel
      have HB' := Lib.hid hbel'
      have HO := Lib.hid hown
      have HN := Lib.hid hnews
      have HL := Lib.hid hlen
      clear hbel hbel' hown hnews hlen
      go_wp2_with (at_builtin; go_must (refine wpList_append_own _ rfl _ _ _ rfl w.heap.size 5 i0 (.int .u8 0) 1 1 Try.underlying22 hi hz0 hz1 hz2 rfl (by decide) _ 1 _ rfl HO.out ad k c (List.map (Value.int .u8) (putL a k)) rfl HL.out HN.out (one_cells _) ?c1 ?c2 ?c3 ?_))
      case c1 => unfold maxLen; omega
      case c2 => omega
      case c3 => have := HB'.out.size; exact Nat.le_trans HB.out.size (by simp)
      intro v' w1 hown' hgrow _
      have hbel1 := Below.grown HB'.out hgrow (Nat.le_trans HB.out.size (by simp)) (fun g e => by
        have : wr.heap.size = g := by simpa [Value.ownBlock] using e
        have h1 := HB.out.size
        omega)
      obtain ⟨A', c', rfl, hrd1, hA⟩ := Rd.of_own (l := putL a (k + 1)) (k := .u8) (Nat.add_comm 1 k ▸ hown') (by rw [putL_succ]; rfl) (putL_wf _ _)
      obtain ⟨g, rfl, hgl⟩ := hA (by omega)
      clear hown' hgrow
      go_wp2
      go_roundw
      case rel => exact ⟨k + 1, _, _, by omega, by go_num, by rw [div_succ, quo_256 hq (div_le ha (HA.out) k)], rfl, hrd1, hbel1, hgl⟩
      case measure => simp [intOf]; omega
    · obtain rfl : k = s := by omega
      go_wp2_with fail
      go_ret
      exact ⟨_, _, _, rfl, hrd, hbel, fun a e => by injection e with e; subst e; exact HLo.out⟩
end Go.Proofs.Ytjihgpjpmfeakaa
