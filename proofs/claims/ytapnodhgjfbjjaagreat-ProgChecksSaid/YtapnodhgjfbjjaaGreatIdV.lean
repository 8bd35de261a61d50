/- What a name is, of the program's and of the document's text. Conditions: none. Which texts are low and high names, of the program and of the document; and the numbers of parts. Conditions: none. -/
import Derived.Test.YtapnodhgjfbjjaaGreatIdU
import Derived.Laws.RangeAny
namespace Go.Proofs.YtapnodhgjfbjjaaGreat
open Go.RowKit
set_option linter.unusedVariables false

section
variable {P : Int → Bool} {s : ByteArray}

theorem at_list (s : ByteArray) (k : Nat) (h : k < s.size) : s.data.toList[k]'(by rw [← Lib.size_eq]; exact h) = s[k]'h := rfl

theorem name_len (h : s.size < 1 ∨ 12 < s.size) : nameB P s.data.toList = false := by
  have : ¬ (1 ≤ s.data.toList.length ∧ s.data.toList.length ≤ 12) := by rw [← Lib.size_eq]; omega
  simp only [nameB, decide_eq_false this, Bool.false_and]

theorem at_opt (s : ByteArray) (k : Nat) (h : k < s.size) : s.data.toList[k]? = some (s[k]'h) := by
  rw [← at_list s k h, List.getElem?_eq_getElem]

theorem head_at (h : 0 < s.size) : ∃ F, s.data.toList = s[0]'h :: F := by
  have hl := at_opt s 0 h
  generalize s[0]'h = c at hl ⊢
  cases e : s.data.toList with
  | nil => rw [e] at hl; simp at hl
  | cons d F => rw [e] at hl; simp at hl; exact ⟨F, by rw [hl]⟩

theorem name_first (h : 0 < s.size) (hp : P ((s[0]'h).toNat : Int) = false) : nameB P s.data.toList = false := by
  obtain ⟨F, e⟩ := head_at h
  rw [e]
  simp only [nameB, hp, Bool.and_false, Bool.false_and]

theorem name_at {k : Nat} (h : k < s.size) (hp : nameC ((s[k]'h).toNat : Int) = false) : nameB P s.data.toList = false := by
  have hm : s[k]'h ∈ s.data.toList := by rw [← at_list s k h]; exact List.getElem_mem _
  cases hn : nameB P s.data.toList with
  | false => rfl
  | true => rw [nameB_all hn _ hm] at hp; cases hp

theorem name_yes (h1 : 0 < s.size) (h2 : s.size ≤ 12) (hp : P ((s[0]'h1).toNat : Int) = true) (ha : ∀ k (h : k < s.size), nameC ((s[k]'h).toNat : Int) = true) : nameB P s.data.toList = true := by
  have hz := Lib.size_eq s
  have hall : s.data.toList.all (fun c => nameC (c.toNat : Int)) = true := by
    rw [List.all_eq_true]
    intro c hc
    obtain ⟨k, hk, e⟩ := List.getElem_of_mem hc
    rw [← e, at_list s k (by omega)]
    exact ha k (by omega)
  have hlen : decide (1 ≤ s.data.toList.length ∧ s.data.toList.length ≤ 12) = true := decide_eq_true (by omega)
  obtain ⟨F, e⟩ := head_at h1
  unfold nameB
  rw [hall, hlen, e]
  simp only [hp, Bool.and_true]
end

theorem nameC_high {x : Int} (h : 128 ≤ x) : nameC x = false := by
  cases hn : nameC x with
  | false => rfl
  | true => have := nameC_bd hn; omega

/-- What a range over a text tells at a place. -/
theorem next_at {P : Program} (w : World) (s : ByteArray) (pos : Nat) (h : pos < s.size) :
    ∃ (x : Int) (q : Nat), (∀ ty, (Instr.next (.pointer (some ⟨w.heap.size, 0, none⟩)) true ty).run P (w.iter s pos) = .ok (.tuple #[.bool true, .int .i64 pos, .int .i32 x]) (w.iter s q)) ∧
      ((x = ((s[pos]'h).toNat : Int) ∧ q = pos + 1) ∨ (128 ≤ x ∧ 128 ≤ (s[pos]'h).toNat ∧ pos < q)) := by
  by_cases ha : (s[pos]'h).toNat < 128
  · exact ⟨_, _, fun ty => run_next_ascii (P := P) w s pos ty h ha, .inl ⟨rfl, rfl⟩⟩
  · have := decode_high s pos h (by omega)
    exact ⟨_, _, fun ty => run_next_any (P := P) w s pos ty h, .inr ⟨by omega, by omega, by omega⟩⟩

theorem below_iter (w : World) (s : ByteArray) (q : Nat) : Below w.heap.size w (w.iter s q) := (Below.refl _ _).alloc (Nat.le_refl _) _

/-- All that stands ahead of a place may stand in a name, and what stands first is as asked. -/
def NameTo (P : Int → Bool) (s : ByteArray) (pos : Nat) : Prop :=
  (∀ k (h : k < s.size), k < pos → nameC ((s[k]'h).toNat : Int) = true) ∧ (0 < pos → ∀ h : 0 < s.size, P ((s[0]'h).toNat : Int) = true)

section
variable {P : Int → Bool} {s : ByteArray} {pos q : Nat} {x : Int}

theorem nameTo_zero : NameTo P s 0 := ⟨fun k h hk => absurd hk (by omega), fun h => absurd h (by omega)⟩

theorem nameTo_lt (hp : pos < s.size) (hx : (x = ((s[pos]'hp).toNat : Int) ∧ q = pos + 1) ∨ (128 ≤ x ∧ 128 ≤ (s[pos]'hp).toNat ∧ pos < q)) : pos < q := by
  rcases hx with ⟨_, h⟩ | ⟨_, _, h⟩ <;> omega

theorem nameTo_step (H : NameTo P s pos) (hp : pos < s.size) (hx : (x = ((s[pos]'hp).toNat : Int) ∧ q = pos + 1) ∨ (128 ≤ x ∧ 128 ≤ (s[pos]'hp).toNat ∧ pos < q))
    (h1 : pos = 0 → P x = true) (h2 : nameC x = true) : q ≤ s.size ∧ NameTo P s q := by
  rcases hx with ⟨rfl, rfl⟩ | ⟨h, _, _⟩
  · refine ⟨by omega, fun k hk hlt => ?_, fun _ h0 => ?_⟩
    · rcases Nat.lt_or_ge k pos with h | h
      · exact H.1 k hk h
      · obtain rfl : k = pos := by omega
        exact h2
    · rcases Nat.eq_zero_or_pos pos with h | h
      · subst h
        exact h1 rfl
      · exact H.2 h h0
  · rw [nameC_high h] at h2
    cases h2

theorem nameTo_bad (hp : pos < s.size) (hx : (x = ((s[pos]'hp).toNat : Int) ∧ q = pos + 1) ∨ (128 ≤ x ∧ 128 ≤ (s[pos]'hp).toNat ∧ pos < q)) (h2 : nameC x = false) : nameB P s.data.toList = false := by
  rcases hx with ⟨rfl, rfl⟩ | ⟨_, h, _⟩
  · exact name_at hp h2
  · exact name_at hp (nameC_high (by omega))

theorem nameTo_first (hz : pos = 0) (hp : pos < s.size) (hx : (x = ((s[pos]'hp).toNat : Int) ∧ q = pos + 1) ∨ (128 ≤ x ∧ 128 ≤ (s[pos]'hp).toNat ∧ pos < q)) (h2 : P x = false) : nameB P s.data.toList = false := by
  subst hz
  rcases hx with ⟨rfl, rfl⟩ | ⟨_, h, _⟩
  · exact name_first hp h2
  · exact name_at hp (nameC_high (by omega))

theorem nameTo_end (H : NameTo P s pos) (h0 : 0 < s.size) (h12 : s.size ≤ 12) (he : s.size ≤ pos) : nameB P s.data.toList = true :=
  name_yes h0 h12 (H.2 (by omega) h0) fun k h => H.1 k h (by omega)
end

set_option maxRecDepth 100000 in
set_option maxHeartbeats 2000000 in
theorem idName (K : FuncId) (P : Int → Bool) (hK : (K = 55 ∧ P = smallB) ∨ (K = 70 ∧ P = greatB)) (s : ByteArray) (w : World) (hs : s.size ≤ 9223372036854775807) :
    Calls Tryz.prog 54 #[.string s, .func (.func K) #[] #[]] w fun e w' => e = .returned (.bool (nameB P s.data.toList)) ∧ Below w.heap.size w w' := by
  by_cases h1 : s.size < 1
  · go_enter Tryz.func54, Tryz.ntmps54
    go_wp2
    go_ret
    exact ⟨ret_bool (name_len (.inl h1)).symm, Below.refl _ _⟩
  · by_cases h2 : 12 < s.size
    · go_enter Tryz.func54, Tryz.ntmps54
      go_wp2
      go_ret
      exact ⟨ret_bool (name_len (.inr h2)).symm, Below.refl _ _⟩
    · have hd1 : decide ((s.size : Int) < 1) = false := decide_eq_false (by omega)
      have hd2 : decide ((12 : Int) < (s.size : Int)) = false := decide_eq_false (by omega)
      have h0 : 0 < s.size := by omega
      have h12 : s.size ≤ 12 := by omega
      clear h1 h2
      rcases hK with ⟨rfl, rfl⟩ | ⟨rfl, rfl⟩
      · go_enter Tryz.func54, Tryz.ntmps54
        go_wp2_with fail
        clear hd1 hd2
        go_loopw [5] (fun _ wr => ∃ pos : Nat, pos ≤ s.size ∧ wr = w.iter s pos ∧ NameTo smallB s pos) (fun _ wr => s.size - wr.iterPos w.heap.size)
        case atStart => exact ⟨0, by omega, rfl, nameTo_zero⟩
        case round =>
          obtain ⟨pos, hle, rfl, hrel⟩ := hrel
          have HR := Lib.hid hrel
          clear hrel
          by_cases hp : pos < s.size
          · obtain ⟨x, q, hnx, hx⟩ := next_at (P := Tryz.prog) w s pos hp
            have HX := Lib.hid hx
            clear hx
            have hpi : ((pos : Int) == 0) = decide (pos = 0) := by rw [Bool.eq_iff_iff]; simp
            generalize (pos : Int) = pi at hnx hpi
            by_cases hz : pos = 0
            · have hpi : (pi == 0) = true := by rw [hpi]; exact decide_eq_true hz
              have HZ := Lib.hid hz
              clear hz
              by_cases hx1 : smallB x = true
              · by_cases hx2 : nameC x = true
                · go_wp2_with (first | (go_at_call 55; refine (idSmall x _).mono ?_; rintro e w' ⟨rfl, rfl⟩) | (go_at_call 71; refine (idInName x _).mono ?_; rintro e w' ⟨rfl, rfl⟩))
                  go_roundw
                  case rel => exact ⟨q, (nameTo_step HR.out hp HX.out (fun _ => hx1) hx2).1, rfl, (nameTo_step HR.out hp HX.out (fun _ => hx1) hx2).2⟩
                  case measure => simp; have := nameTo_lt hp HX.out; omega
                · have hx2 : nameC x = false := by simpa using hx2
                  go_wp2_with (first | (go_at_call 55; refine (idSmall x _).mono ?_; rintro e w' ⟨rfl, rfl⟩) | (go_at_call 71; refine (idInName x _).mono ?_; rintro e w' ⟨rfl, rfl⟩))
                  go_ret
                  exact ⟨ret_bool (nameTo_bad hp HX.out hx2).symm, below_iter _ _ _⟩
              · have hx1 : smallB x = false := by simpa using hx1
                go_wp2_with (first | (go_at_call 55; refine (idSmall x _).mono ?_; rintro e w' ⟨rfl, rfl⟩) | (go_at_call 71; refine (idInName x _).mono ?_; rintro e w' ⟨rfl, rfl⟩))
                go_ret
                exact ⟨ret_bool (nameTo_first HZ.out hp HX.out hx1).symm, below_iter _ _ _⟩
            · have hpi : (pi == 0) = false := by rw [hpi]; exact decide_eq_false hz
              have HZ := Lib.hid hz
              clear hz
              by_cases hx2 : nameC x = true
              · go_wp2_with (first | (go_at_call 55; refine (idSmall x _).mono ?_; rintro e w' ⟨rfl, rfl⟩) | (go_at_call 71; refine (idInName x _).mono ?_; rintro e w' ⟨rfl, rfl⟩))
                go_roundw
                case rel => exact ⟨q, (nameTo_step HR.out hp HX.out (fun h => absurd h HZ.out) hx2).1, rfl, (nameTo_step HR.out hp HX.out (fun h => absurd h HZ.out) hx2).2⟩
                case measure => simp; have := nameTo_lt hp HX.out; omega
              · have hx2 : nameC x = false := by simpa using hx2
                go_wp2_with (first | (go_at_call 55; refine (idSmall x _).mono ?_; rintro e w' ⟨rfl, rfl⟩) | (go_at_call 71; refine (idInName x _).mono ?_; rintro e w' ⟨rfl, rfl⟩))
                go_ret
                exact ⟨ret_bool (nameTo_bad hp HX.out hx2).symm, below_iter _ _ _⟩
          · have hnx : ∀ ty, (Instr.next (.pointer (some ⟨w.heap.size, 0, none⟩)) true ty).run Tryz.prog (w.iter s pos) = _ := fun ty => run_next_end w s pos ty hp
            go_wp2_with fail
            go_ret
            exact ⟨ret_bool (nameTo_end HR.out h0 h12 (by omega)).symm, below_iter _ _ _⟩
      · go_enter Tryz.func54, Tryz.ntmps54
        go_wp2_with fail
        clear hd1 hd2
        go_loopw [5] (fun _ wr => ∃ pos : Nat, pos ≤ s.size ∧ wr = w.iter s pos ∧ NameTo greatB s pos) (fun _ wr => s.size - wr.iterPos w.heap.size)
        case atStart => exact ⟨0, by omega, rfl, nameTo_zero⟩
        case round =>
          obtain ⟨pos, hle, rfl, hrel⟩ := hrel
          have HR := Lib.hid hrel
          clear hrel
          by_cases hp : pos < s.size
          · obtain ⟨x, q, hnx, hx⟩ := next_at (P := Tryz.prog) w s pos hp
            have HX := Lib.hid hx
            clear hx
            have hpi : ((pos : Int) == 0) = decide (pos = 0) := by rw [Bool.eq_iff_iff]; simp
            generalize (pos : Int) = pi at hnx hpi
            by_cases hz : pos = 0
            · have hpi : (pi == 0) = true := by rw [hpi]; exact decide_eq_true hz
              have HZ := Lib.hid hz
              clear hz
              by_cases hx1 : greatB x = true
              · by_cases hx2 : nameC x = true
                · go_wp2_with (first | (go_at_call 70; refine (idGreat x _).mono ?_; rintro e w' ⟨rfl, rfl⟩) | (go_at_call 71; refine (idInName x _).mono ?_; rintro e w' ⟨rfl, rfl⟩))
                  go_roundw
                  case rel => exact ⟨q, (nameTo_step HR.out hp HX.out (fun _ => hx1) hx2).1, rfl, (nameTo_step HR.out hp HX.out (fun _ => hx1) hx2).2⟩
                  case measure => simp; have := nameTo_lt hp HX.out; omega
                · have hx2 : nameC x = false := by simpa using hx2
                  go_wp2_with (first | (go_at_call 70; refine (idGreat x _).mono ?_; rintro e w' ⟨rfl, rfl⟩) | (go_at_call 71; refine (idInName x _).mono ?_; rintro e w' ⟨rfl, rfl⟩))
                  go_ret
                  exact ⟨ret_bool (nameTo_bad hp HX.out hx2).symm, below_iter _ _ _⟩
              · have hx1 : greatB x = false := by simpa using hx1
                go_wp2_with (first | (go_at_call 70; refine (idGreat x _).mono ?_; rintro e w' ⟨rfl, rfl⟩) | (go_at_call 71; refine (idInName x _).mono ?_; rintro e w' ⟨rfl, rfl⟩))
                go_ret
                exact ⟨ret_bool (nameTo_first HZ.out hp HX.out hx1).symm, below_iter _ _ _⟩
            · have hpi : (pi == 0) = false := by rw [hpi]; exact decide_eq_false hz
              have HZ := Lib.hid hz
              clear hz
              by_cases hx2 : nameC x = true
              · go_wp2_with (first | (go_at_call 70; refine (idGreat x _).mono ?_; rintro e w' ⟨rfl, rfl⟩) | (go_at_call 71; refine (idInName x _).mono ?_; rintro e w' ⟨rfl, rfl⟩))
                go_roundw
                case rel => exact ⟨q, (nameTo_step HR.out hp HX.out (fun h => absurd h HZ.out) hx2).1, rfl, (nameTo_step HR.out hp HX.out (fun h => absurd h HZ.out) hx2).2⟩
                case measure => simp; have := nameTo_lt hp HX.out; omega
              · have hx2 : nameC x = false := by simpa using hx2
                go_wp2_with (first | (go_at_call 70; refine (idGreat x _).mono ?_; rintro e w' ⟨rfl, rfl⟩) | (go_at_call 71; refine (idInName x _).mono ?_; rintro e w' ⟨rfl, rfl⟩))
                go_ret
                exact ⟨ret_bool (nameTo_bad hp HX.out hx2).symm, below_iter _ _ _⟩
          · have hnx : ∀ ty, (Instr.next (.pointer (some ⟨w.heap.size, 0, none⟩)) true ty).run Tryz.prog (w.iter s pos) = _ := fun ty => run_next_end w s pos ty hp
            go_wp2_with fail
            go_ret
            exact ⟨ret_bool (nameTo_end HR.out h0 h12 (by omega)).symm, below_iter _ _ _⟩
end Go.Proofs.YtapnodhgjfbjjaaGreat

namespace Go.Proofs.YtapnodhgjfbjjaaGreat
open Go.RowKit
set_option linter.unusedVariables false

set_option maxHeartbeats 1000000 in
theorem idLow (s : ByteArray) (w : World) (hs : s.size ≤ 9223372036854775807) :
    Calls Tryz.prog 35 #[.string s] w fun e w' => e = .returned (.bool (lowB s.data.toList)) ∧ Below w.heap.size w w' := by
  by_cases h1 : nameB smallB s.data.toList = true
  · have HE := Lib.hid (show (!wordB s.data.toList) = lowB s.data.toList by simp [lowB, h1])
    go_enter Tryz.func35, Tryz.ntmps35
    go_wp2_with fail
    refine (idName _ smallB (.inl ⟨rfl, rfl⟩) s _ hs).mono ?_
    rintro e w' ⟨rfl, hb⟩
    have HB := Lib.hid hb
    clear hb
    go_wp2_with fail
    refine (idWord s _).mono ?_
    rintro e w' ⟨rfl, rfl⟩
    go_wp2_with fail
    go_ret
    exact ⟨ret_bool HE.out, HB.out⟩
  · have h1 : nameB smallB s.data.toList = false := by simpa using h1
    have HE := Lib.hid (show false = lowB s.data.toList by simp [lowB, h1])
    go_enter Tryz.func35, Tryz.ntmps35
    go_wp2_with fail
    refine (idName _ smallB (.inl ⟨rfl, rfl⟩) s _ hs).mono ?_
    rintro e w' ⟨rfl, hb⟩
    have HB := Lib.hid hb
    clear hb
    go_wp2_with fail
    go_ret
    exact ⟨ret_bool HE.out, HB.out⟩

set_option maxHeartbeats 1000000 in
theorem idHigh (s : ByteArray) (w : World) (hs : s.size ≤ 9223372036854775807) :
    Calls Tryz.prog 53 #[.string s] w fun e w' => e = .returned (.bool (highB s.data.toList)) ∧ Below w.heap.size w w' := by
  have HE := Lib.hid (show nameB greatB s.data.toList = highB s.data.toList from rfl)
  go_enter Tryz.func53, Tryz.ntmps53
  go_wp2_with fail
  refine (idName _ greatB (.inr ⟨rfl, rfl⟩) s _ hs).mono ?_
  rintro e w' ⟨rfl, hb⟩
  have HB := Lib.hid hb
  clear hb
  go_wp2_with fail
  go_ret
  exact ⟨ret_bool HE.out, HB.out⟩

/-! ### The document's -/

/-- Whether a number lies between two. -/
def inR (a b x : Int) : Bool := decide (a ≤ x ∧ x ≤ b)
theorem inR_small (x : Int) : inR 97 122 x = smallB x := rfl
theorem inR_great (x : Int) : inR 65 90 x = greatB x := rfl
theorem inR_digit (x : Int) : inR 48 57 x = digitB x := rfl

set_option maxHeartbeats 400000 in
theorem refIn (x a b : Int) (w : World) : Calls Tryz.prog 76 #[.int .u8 x, .int .u8 a, .int .u8 b] w fun e w' => e = .returned (.bool (inR a b x)) ∧ w = w' := by
  by_cases h1 : a ≤ x
  all_goals
    go_enter Tryz.func76, Tryz.ntmps76
    go_wp2
    go_ret
    exact ⟨ret_bool (by rw [Bool.eq_iff_iff]; simp [inR, h1] <;> omega), rfl⟩

theorem refInS (x : Int) (w : World) : Calls Tryz.prog 76 #[.int .u8 x, .int .u8 97, .int .u8 122] w fun e w' => e = .returned (.bool (smallB x)) ∧ w = w' := refIn x 97 122 w
theorem refInG (x : Int) (w : World) : Calls Tryz.prog 76 #[.int .u8 x, .int .u8 65, .int .u8 90] w fun e w' => e = .returned (.bool (greatB x)) ∧ w = w' := refIn x 65 90 w
theorem refInD (x : Int) (w : World) : Calls Tryz.prog 76 #[.int .u8 x, .int .u8 48, .int .u8 57] w fun e w' => e = .returned (.bool (digitB x)) ∧ w = w' := refIn x 48 57 w

theorem nameC_snoc {s : ByteArray} {k : Nat} (H : ∀ j (h : j < s.size), j < k → nameC ((s[j]'h).toNat : Int) = true) (hlt : k < s.size) (hx : nameC ((s[k]'hlt).toNat : Int) = true) :
    ∀ j (h : j < s.size), j < k + 1 → nameC ((s[j]'h).toNat : Int) = true := fun j h hj => by
  rcases Nat.lt_or_ge j k with h1 | h1
  · exact H j h h1
  · obtain rfl : j = k := by omega
    exact hx

set_option maxRecDepth 100000 in
set_option maxHeartbeats 2000000 in
theorem refName (a b : Int) (s : ByteArray) (w : World) (hs : s.size ≤ 9223372036854775807) :
    Calls Tryz.prog 64 #[.string s, .int .u8 a, .int .u8 b] w fun e w' => e = .returned (.bool (nameB (inR a b) s.data.toList)) ∧ w = w' := by
  by_cases h1 : s.size < 1
  · go_enter Tryz.func64, Tryz.ntmps64
    go_wp2_with fail
    go_ret
    exact ⟨ret_bool (name_len (.inl h1)).symm, rfl⟩
  · by_cases h2 : 12 < s.size
    · go_enter Tryz.func64, Tryz.ntmps64
      go_wp2_with fail
      go_ret
      exact ⟨ret_bool (name_len (.inr h2)).symm, rfl⟩
    · have hd1 : decide ((s.size : Int) < 1) = false := decide_eq_false (by omega)
      have hd2 : decide ((12 : Int) < (s.size : Int)) = false := decide_eq_false (by omega)
      have h0 : 0 < s.size := by omega
      have h12 : s.size ≤ 12 := by omega
      clear h1 h2
      by_cases hf : inR a b ((s[0]'h0).toNat : Int) = true
      · have HF := Lib.hid hf
        go_enter Tryz.func64, Tryz.ntmps64
        go_wp2_with fail
        refine (refIn _ a b _).mono ?_
        rintro e w' ⟨rfl, rfl⟩
        go_wp2_with fail
        clear hd1 hd2 hf
        go_loop [7] (fun i => ∃ k : Nat, k ≤ s.size ∧ i = .int .i64 k ∧ ∀ j (h : j < s.size), j < k → nameC ((s[j]'h).toNat : Int) = true) (fun i => s.size - (intOf i).toNat)
        case atStart => exact ⟨0, by omega, rfl, fun j _ hj => absurd hj (by omega)⟩
        case round =>
          obtain ⟨k, hk, rfl, hrel⟩ := hrel
          have HR := Lib.hid hrel
          clear hrel
          by_cases hlt : k < s.size
          · by_cases hx1 : smallB ((s[k]'hlt).toNat : Int) = true
            · go_wp2_with (go_at_call 76; refine (refInS _ _).mono ?_; rintro e w' ⟨rfl, rfl⟩)
              go_round
              case rel => exact ⟨k + 1, by omega, by go_num, nameC_snoc HR.out hlt (by simp [nameC, hx1])⟩
              case measure => simp [intOf]; omega
            · have hx1 : smallB ((s[k]'hlt).toNat : Int) = false := by simpa using hx1
              by_cases hx2 : greatB ((s[k]'hlt).toNat : Int) = true
              · go_wp2_with (first | (go_at_call 76; (with_reducible refine (refInS _ _).mono ?_); rintro e w' ⟨rfl, rfl⟩) | (go_at_call 76; (with_reducible refine (refInG _ _).mono ?_); rintro e w' ⟨rfl, rfl⟩))
                go_round
                case rel => exact ⟨k + 1, by omega, by go_num, nameC_snoc HR.out hlt (by simp [nameC, hx2])⟩
                case measure => simp [intOf]; omega
              · have hx2 : greatB ((s[k]'hlt).toNat : Int) = false := by simpa using hx2
                by_cases hx3 : digitB ((s[k]'hlt).toNat : Int) = true
                · go_wp2_with (first | (go_at_call 76; (with_reducible refine (refInS _ _).mono ?_); rintro e w' ⟨rfl, rfl⟩) | (go_at_call 76; (with_reducible refine (refInG _ _).mono ?_); rintro e w' ⟨rfl, rfl⟩) | (go_at_call 76; (with_reducible refine (refInD _ _).mono ?_); rintro e w' ⟨rfl, rfl⟩))
                  go_round
                  case rel => exact ⟨k + 1, by omega, by go_num, nameC_snoc HR.out hlt (by simp [nameC, hx3])⟩
                  case measure => simp [intOf]; omega
                · have hx3 : digitB ((s[k]'hlt).toNat : Int) = false := by simpa using hx3
                  have HN := Lib.hid (show nameC ((s[k]'hlt).toNat : Int) = decide (((s[k]'hlt).toNat : Int) = 95) by simp [nameC, hx1, hx2, hx3])
                  go_wp2_with (first | (go_at_call 76; (with_reducible refine (refInS _ _).mono ?_); rintro e w' ⟨rfl, rfl⟩) | (go_at_call 76; (with_reducible refine (refInG _ _).mono ?_); rintro e w' ⟨rfl, rfl⟩) | (go_at_call 76; (with_reducible refine (refInD _ _).mono ?_); rintro e w' ⟨rfl, rfl⟩))
                  · have hne : (((s[k]'hlt).toNat : Int) != 95) = true := by assumption
                    have hno : nameC ((s[k]'hlt).toNat : Int) = false := by
                      rw [HN.out]
                      exact decide_eq_false (by simpa using hne)
                    go_ret
                    exact ⟨ret_bool (name_at hlt hno).symm, rfl⟩
                  · have hne : (((s[k]'hlt).toNat : Int) != 95) = false := by assumption
                    have hyes : nameC ((s[k]'hlt).toNat : Int) = true := by
                      rw [HN.out]
                      exact decide_eq_true (by simpa using hne)
                    go_round
                    case rel => exact ⟨k + 1, by omega, by go_num, nameC_snoc HR.out hlt hyes⟩
                    case measure => simp [intOf]; omega
          · go_wp2_with fail
            go_ret
            exact ⟨ret_bool (name_yes h0 h12 HF.out fun j h => HR.out j h (by omega)).symm, rfl⟩
      · have hf : inR a b ((s[0]'h0).toNat : Int) = false := by simpa using hf
        go_enter Tryz.func64, Tryz.ntmps64
        go_wp2_with fail
        refine (refIn _ a b _).mono ?_
        rintro e w' ⟨rfl, rfl⟩
        go_wp2_with fail
        go_ret
        exact ⟨ret_bool (name_first h0 hf).symm, rfl⟩

set_option maxHeartbeats 1000000 in
theorem refLow (s : ByteArray) (w : World) (hs : s.size ≤ 9223372036854775807) :
    Calls Tryz.prog 47 #[.string s] w fun e w' => e = .returned (.bool (lowB s.data.toList)) ∧ Below w.heap.size w w' := by
  have HS := Lib.hid (show nameB (inR 97 122) s.data.toList = nameB smallB s.data.toList from rfl)
  by_cases h1 : nameB smallB s.data.toList = true
  · have HE := Lib.hid (show (!wordB s.data.toList) = lowB s.data.toList by simp [lowB, h1])
    go_enter Tryz.func47, Tryz.ntmps47
    go_wp2_with fail
    refine (refName 97 122 s _ hs).mono ?_
    rw [HS.out]
    rintro e w' ⟨rfl, rfl⟩
    go_wp2_with fail
    refine (refWord s _).mono ?_
    rintro e w' ⟨rfl, hb⟩
    have HB := Lib.hid hb
    clear hb
    go_wp2_with fail
    go_ret
    exact ⟨ret_bool HE.out, HB.out⟩
  · have h1 : nameB smallB s.data.toList = false := by simpa using h1
    have HE := Lib.hid (show false = lowB s.data.toList by simp [lowB, h1])
    go_enter Tryz.func47, Tryz.ntmps47
    go_wp2_with fail
    refine (refName 97 122 s _ hs).mono ?_
    rw [HS.out]
    rintro e w' ⟨rfl, rfl⟩
    go_wp2_with fail
    go_ret
    exact ⟨ret_bool HE.out, Below.refl _ _⟩

set_option maxHeartbeats 1000000 in
theorem refHigh (s : ByteArray) (w : World) (hs : s.size ≤ 9223372036854775807) :
    Calls Tryz.prog 48 #[.string s] w fun e w' => e = .returned (.bool (highB s.data.toList)) ∧ w = w' := by
  have HS := Lib.hid (show nameB (inR 65 90) s.data.toList = highB s.data.toList from rfl)
  go_enter Tryz.func48, Tryz.ntmps48
  go_wp2_with fail
  refine (refName 65 90 s _ hs).mono ?_
  rw [HS.out]
  rintro e w' ⟨rfl, rfl⟩
  go_wp2_with fail
  go_ret
  exact ⟨rfl, rfl⟩

/-! ### Numbers of parts -/

section
variable {s : ByteArray}
theorem num_len (h : s.size < 1 ∨ 3 < s.size) : numB s.data.toList = false := by
  have : ¬ (1 ≤ s.data.toList.length ∧ s.data.toList.length ≤ 3) := by rw [← Lib.size_eq]; omega
  simp only [numB, decide_eq_false this, Bool.false_and]

theorem num_first (h : 0 < s.size) (hp : ((s[0]'h).toNat : Int) = 48) : numB s.data.toList = false := by
  obtain ⟨F, e⟩ := head_at h
  have h48 : s[0]'h = 48 := UInt8.toNat_inj.1 (by simpa using (by omega : (s[0]'h).toNat = 48))
  rw [e]
  simp [numB, h48]

theorem num_at {k : Nat} (h : k < s.size) (hp : digitB ((s[k]'h).toNat : Int) = false) : numB s.data.toList = false := by
  have hm : s[k]'h ∈ s.data.toList := by rw [← at_list s k h]; exact List.getElem_mem _
  cases hn : numB s.data.toList with
  | false => rfl
  | true =>
    simp only [numB, Bool.and_eq_true, List.all_eq_true] at hn
    rw [hn.2 _ hm] at hp
    cases hp

theorem num_yes (h1 : 0 < s.size) (h2 : s.size ≤ 3) (hp : ¬ ((s[0]'h1).toNat : Int) = 48) (ha : ∀ k (h : k < s.size), digitB ((s[k]'h).toNat : Int) = true) : numB s.data.toList = true := by
  have hz := Lib.size_eq s
  have hall : s.data.toList.all (fun c => digitB (c.toNat : Int)) = true := by
    rw [List.all_eq_true]
    intro c hc
    obtain ⟨k, hk, e⟩ := List.getElem_of_mem hc
    rw [← e, at_list s k (by omega)]
    exact ha k (by omega)
  have hlen : decide (1 ≤ s.data.toList.length ∧ s.data.toList.length ≤ 3) = true := decide_eq_true (by omega)
  obtain ⟨F, e⟩ := head_at h1
  have h48 : ¬ s[0]'h1 = 48 := fun e => hp (by rw [e]; rfl)
  unfold numB
  rw [hall, hlen, e]
  simp [h48]
end

theorem digitB_high {x : Int} (h : 128 ≤ x) : digitB x = false := by
  simp [digitB]; omega

def Digits (s : ByteArray) (pos : Nat) : Prop := ∀ k (h : k < s.size), k < pos → digitB ((s[k]'h).toNat : Int) = true

theorem digits_zero {s : ByteArray} : Digits s 0 := fun k h hk => absurd hk (by omega)
theorem digits_snoc {s : ByteArray} {k : Nat} (H : Digits s k) (hlt : k < s.size) (hx : digitB ((s[k]'hlt).toNat : Int) = true) : Digits s (k + 1) := fun j h hj => by
  rcases Nat.lt_or_ge j k with h1 | h1
  · exact H j h h1
  · obtain rfl : j = k := by omega
    exact hx

theorem digits_step {s : ByteArray} {pos q : Nat} {x : Int} (H : Digits s pos) (hp : pos < s.size) (hx : (x = ((s[pos]'hp).toNat : Int) ∧ q = pos + 1) ∨ (128 ≤ x ∧ 128 ≤ (s[pos]'hp).toNat ∧ pos < q))
    (h2 : digitB x = true) : q ≤ s.size ∧ Digits s q := by
  rcases hx with ⟨rfl, rfl⟩ | ⟨h, _, _⟩
  · exact ⟨by omega, digits_snoc H hp h2⟩
  · rw [digitB_high h] at h2
    cases h2

theorem digits_bad {s : ByteArray} {pos q : Nat} {x : Int} (hp : pos < s.size) (hx : (x = ((s[pos]'hp).toNat : Int) ∧ q = pos + 1) ∨ (128 ≤ x ∧ 128 ≤ (s[pos]'hp).toNat ∧ pos < q)) (h2 : digitB x = false) : numB s.data.toList = false := by
  rcases hx with ⟨rfl, rfl⟩ | ⟨_, h, _⟩
  · exact num_at hp h2
  · exact num_at hp (digitB_high (by omega))

set_option maxRecDepth 100000 in
set_option maxHeartbeats 2000000 in
theorem idNumber (s : ByteArray) (w : World) (hs : s.size ≤ 9223372036854775807) :
    Calls Tryz.prog 105 #[.string s] w fun e w' => e = .returned (.bool (numB s.data.toList)) ∧ Below w.heap.size w w' := by
  by_cases h1 : s.size < 1
  · go_enter Tryz.func105, Tryz.ntmps105
    go_wp2_with fail
    go_ret
    exact ⟨ret_bool (num_len (.inl h1)).symm, Below.refl _ _⟩
  · by_cases h2 : 3 < s.size
    · go_enter Tryz.func105, Tryz.ntmps105
      go_wp2_with fail
      go_ret
      exact ⟨ret_bool (num_len (.inr h2)).symm, Below.refl _ _⟩
    · have hd1 : decide ((s.size : Int) < 1) = false := decide_eq_false (by omega)
      have hd2 : decide ((3 : Int) < (s.size : Int)) = false := decide_eq_false (by omega)
      have h0 : 0 < s.size := by omega
      have h3 : s.size ≤ 3 := by omega
      clear h1 h2
      by_cases hf : ((s[0]'h0).toNat : Int) = 48
      · have HF := Lib.hid hf
        have hfb : (((s[0]'h0).toNat : Int) == 48) = true := by simpa using hf
        clear hf
        go_enter Tryz.func105, Tryz.ntmps105
        go_wp2_with fail
        go_ret
        exact ⟨ret_bool (num_first h0 HF.out).symm, Below.refl _ _⟩
      · have HF := Lib.hid hf
        have hfb : (((s[0]'h0).toNat : Int) == 48) = false := by simpa using hf
        clear hf
        go_enter Tryz.func105, Tryz.ntmps105
        go_wp2_with fail
        clear hd1 hd2 hfb
        go_loopw [4] (fun _ wr => ∃ pos : Nat, pos ≤ s.size ∧ wr = w.iter s pos ∧ Digits s pos) (fun _ wr => s.size - wr.iterPos w.heap.size)
        case atStart => exact ⟨0, by omega, rfl, digits_zero⟩
        case round =>
          obtain ⟨pos, hle, rfl, hrel⟩ := hrel
          have HR := Lib.hid hrel
          clear hrel
          by_cases hp : pos < s.size
          · obtain ⟨x, q, hnx, hx⟩ := next_at (P := Tryz.prog) w s pos hp
            have HX := Lib.hid hx
            clear hx
            by_cases hx2 : digitB x = true
            · go_wp2_with (go_at_call 81; refine (idDigit x _).mono ?_; rintro e w' ⟨rfl, rfl⟩)
              go_roundw
              case rel => exact ⟨q, (digits_step HR.out hp HX.out hx2).1, rfl, (digits_step HR.out hp HX.out hx2).2⟩
              case measure => simp; have := nameTo_lt hp HX.out; omega
            · have hx2 : digitB x = false := by simpa using hx2
              go_wp2_with (go_at_call 81; refine (idDigit x _).mono ?_; rintro e w' ⟨rfl, rfl⟩)
              go_ret
              exact ⟨ret_bool (digits_bad hp HX.out hx2).symm, below_iter _ _ _⟩
          · have hnx : ∀ ty, (Instr.next (.pointer (some ⟨w.heap.size, 0, none⟩)) true ty).run Tryz.prog (w.iter s pos) = _ := fun ty => run_next_end w s pos ty hp
            go_wp2_with fail
            go_ret
            exact ⟨ret_bool (num_yes h0 h3 HF.out fun k h => HR.out k h (by omega)).symm, below_iter _ _ _⟩
end Go.Proofs.YtapnodhgjfbjjaaGreat
