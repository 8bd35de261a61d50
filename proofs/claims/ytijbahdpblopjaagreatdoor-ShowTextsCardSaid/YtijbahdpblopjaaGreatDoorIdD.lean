/- What a name is, of the program's and of the document's text. Conditions: none. -/
import Derived.Test.YtijbahdpblopjaaGreatDoorIdC
import Derived.Laws.RangeAny
namespace Go.Proofs.YtijbahdpblopjaaGreatDoor
open Go.RowKit
set_option linter.unusedVariables false

section
variable {P : Int → Bool} {s : ByteArray}

theorem at_list (s : ByteArray) (k : Nat) (h : k < s.size) : s.data.toList[k]'(by rw [← Lib.size_eq]; exact h) = s[k]'h := rfl

theorem name_len (h : s.size < 1 ∨ 12 < s.size) : nameB P s.data.toList = false := by
  have : ¬ (1 ≤ s.data.toList.length ∧ s.data.toList.length ≤ 12) := by rw [← Lib.size_eq]; omega
  simp only [nameB, decide_eq_false this, Bool.false_and]

theorem at_opt (s : ByteArray) (k : Nat) (h : k < s.size) : s.data.toList[k]? = some (s[k]'h) := by
  rw [← at_list s k h, List.getElem?_eq_getElem]

theorem head_at (h : 0 < s.size) : ∃ F, s.data.toList = s[0]'h :: F := by
  have hl := at_opt s 0 h
  generalize s[0]'h = c at hl ⊢
  cases e : s.data.toList with
  | nil => rw [e] at hl; simp at hl
  | cons d F => rw [e] at hl; simp at hl; exact ⟨F, by rw [hl]⟩

theorem name_first (h : 0 < s.size) (hp : P ((s[0]'h).toNat : Int) = false) : nameB P s.data.toList = false := by
  obtain ⟨F, e⟩ := head_at h
  rw [e]
  simp only [nameB, hp, Bool.and_false, Bool.false_and]

theorem name_at {k : Nat} (h : k < s.size) (hp : nameC ((s[k]'h).toNat : Int) = false) : nameB P s.data.toList = false := by
  have hm : s[k]'h ∈ s.data.toList := by rw [← at_list s k h]; exact List.getElem_mem _
  cases hn : nameB P s.data.toList with
  | false => rfl
  | true => rw [nameB_all hn _ hm] at hp; cases hp

theorem name_yes (h1 : 0 < s.size) (h2 : s.size ≤ 12) (hp : P ((s[0]'h1).toNat : Int) = true) (ha : ∀ k (h : k < s.size), nameC ((s[k]'h).toNat : Int) = true) : nameB P s.data.toList = true := by
  have hz := Lib.size_eq s
  have hall : s.data.toList.all (fun c => nameC (c.toNat : Int)) = true := by
    rw [List.all_eq_true]
    intro c hc
    obtain ⟨k, hk, e⟩ := List.getElem_of_mem hc
    rw [← e, at_list s k (by omega)]
    exact ha k (by omega)
  have hlen : decide (1 ≤ s.data.toList.length ∧ s.data.toList.length ≤ 12) = true := decide_eq_true (by omega)
  obtain ⟨F, e⟩ := head_at h1
  unfold nameB
  rw [hall, hlen, e]
  simp only [hp, Bool.and_true]
end

theorem nameC_high {x : Int} (h : 128 ≤ x) : nameC x = false := by
  cases hn : nameC x with
  | false => rfl
  | true => have := nameC_bd hn; omega

/-- What a range over a text tells at a place. -/
theorem next_at {P : Program} (w : World) (s : ByteArray) (pos : Nat) (h : pos < s.size) :
    ∃ (x : Int) (q : Nat), (∀ ty, (Instr.next (.pointer (some ⟨w.heap.size, 0, none⟩)) true ty).run P (w.iter s pos) = .ok (.tuple #[.bool true, .int .i64 pos, .int .i32 x]) (w.iter s q)) ∧
      ((x = ((s[pos]'h).toNat : Int) ∧ q = pos + 1) ∨ (128 ≤ x ∧ 128 ≤ (s[pos]'h).toNat ∧ pos < q)) := by
  by_cases ha : (s[pos]'h).toNat < 128
  · exact ⟨_, _, fun ty => run_next_ascii (P := P) w s pos ty h ha, .inl ⟨rfl, rfl⟩⟩
  · have := decode_high s pos h (by omega)
    exact ⟨_, _, fun ty => run_next_any (P := P) w s pos ty h, .inr ⟨by omega, by omega, by omega⟩⟩

theorem below_iter (w : World) (s : ByteArray) (q : Nat) : Below w.heap.size w (w.iter s q) := (Below.refl _ _).alloc (Nat.le_refl _) _

/-- All that stands ahead of a place may stand in a name, and what stands first is as asked. -/
def NameTo (P : Int → Bool) (s : ByteArray) (pos : Nat) : Prop :=
  (∀ k (h : k < s.size), k < pos → nameC ((s[k]'h).toNat : Int) = true) ∧ (0 < pos → ∀ h : 0 < s.size, P ((s[0]'h).toNat : Int) = true)

section
variable {P : Int → Bool} {s : ByteArray} {pos q : Nat} {x : Int}

theorem nameTo_zero : NameTo P s 0 := ⟨fun k h hk => absurd hk (by omega), fun h => absurd h (by omega)⟩

theorem nameTo_lt (hp : pos < s.size) (hx : (x = ((s[pos]'hp).toNat : Int) ∧ q = pos + 1) ∨ (128 ≤ x ∧ 128 ≤ (s[pos]'hp).toNat ∧ pos < q)) : pos < q := by
  rcases hx with ⟨_, h⟩ | ⟨_, _, h⟩ <;> omega

theorem nameTo_step (H : NameTo P s pos) (hp : pos < s.size) (hx : (x = ((s[pos]'hp).toNat : Int) ∧ q = pos + 1) ∨ (128 ≤ x ∧ 128 ≤ (s[pos]'hp).toNat ∧ pos < q))
    (h1 : pos = 0 → P x = true) (h2 : nameC x = true) : q ≤ s.size ∧ NameTo P s q := by
  rcases hx with ⟨rfl, rfl⟩ | ⟨h, _, _⟩
  · refine ⟨by omega, fun k hk hlt => ?_, fun _ h0 => ?_⟩
    · rcases Nat.lt_or_ge k pos with h | h
      · exact H.1 k hk h
      · obtain rfl : k = pos := by omega
        exact h2
    · rcases Nat.eq_zero_or_pos pos with h | h
      · subst h
        exact h1 rfl
      · exact H.2 h h0
  · rw [nameC_high h] at h2
    cases h2

theorem nameTo_bad (hp : pos < s.size) (hx : (x = ((s[pos]'hp).toNat : Int) ∧ q = pos + 1) ∨ (128 ≤ x ∧ 128 ≤ (s[pos]'hp).toNat ∧ pos < q)) (h2 : nameC x = false) : nameB P s.data.toList = false := by
  rcases hx with ⟨rfl, rfl⟩ | ⟨_, h, _⟩
  · exact name_at hp h2
  · exact name_at hp (nameC_high (by omega))

theorem nameTo_first (hz : pos = 0) (hp : pos < s.size) (hx : (x = ((s[pos]'hp).toNat : Int) ∧ q = pos + 1) ∨ (128 ≤ x ∧ 128 ≤ (s[pos]'hp).toNat ∧ pos < q)) (h2 : P x = false) : nameB P s.data.toList = false := by
  subst hz
  rcases hx with ⟨rfl, rfl⟩ | ⟨_, h, _⟩
  · exact name_first hp h2
  · exact name_at hp (nameC_high (by omega))

theorem nameTo_end (H : NameTo P s pos) (h0 : 0 < s.size) (h12 : s.size ≤ 12) (he : s.size ≤ pos) : nameB P s.data.toList = true :=
  name_yes h0 h12 (H.2 (by omega) h0) fun k h => H.1 k h (by omega)
end

set_option maxRecDepth 100000 in
set_option maxHeartbeats 2000000 in
theorem idName (K : FuncId) (P : Int → Bool) (hK : (K = 71 ∧ P = smallB) ∨ (K = 73 ∧ P = greatB)) (s : ByteArray) (w : World) (hs : s.size ≤ 9223372036854775807) :
    Calls Tryz.prog 70 #[.string s, .func (.func K) #[] #[]] w fun e w' => e = .returned (.bool (nameB P s.data.toList)) ∧ Below w.heap.size w w' := by
  by_cases h1 : s.size < 1
  · go_enter Tryz.func70, Tryz.ntmps70
    go_wp2
    go_ret
    exact ⟨ret_bool (name_len (.inl h1)).symm, Below.refl _ _⟩
  · by_cases h2 : 12 < s.size
    · go_enter Tryz.func70, Tryz.ntmps70
      go_wp2
      go_ret
      exact ⟨ret_bool (name_len (.inr h2)).symm, Below.refl _ _⟩
    · have hd1 : decide ((s.size : Int) < 1) = false := decide_eq_false (by omega)
      have hd2 : decide ((12 : Int) < (s.size : Int)) = false := decide_eq_false (by omega)
      have h0 : 0 < s.size := by omega
      have h12 : s.size ≤ 12 := by omega
      clear h1 h2
      rcases hK with ⟨rfl, rfl⟩ | ⟨rfl, rfl⟩
      · go_enter Tryz.func70, Tryz.ntmps70
        go_wp2_with fail
        clear hd1 hd2
        go_loopw [5] (fun _ wr => ∃ pos : Nat, pos ≤ s.size ∧ wr = w.iter s pos ∧ NameTo smallB s pos) (fun _ wr => s.size - wr.iterPos w.heap.size)
        case atStart => exact ⟨0, by omega, rfl, nameTo_zero⟩
        case round =>
          obtain ⟨pos, hle, rfl, hrel⟩ := hrel
          have HR := Lib.hid hrel
          clear hrel
          by_cases hp : pos < s.size
          · obtain ⟨x, q, hnx, hx⟩ := next_at (P := Tryz.prog) w s pos hp
            have HX := Lib.hid hx
            clear hx
            have hpi : ((pos : Int) == 0) = decide (pos = 0) := by rw [Bool.eq_iff_iff]; simp
            generalize (pos : Int) = pi at hnx hpi
            by_cases hz : pos = 0
            · have hpi : (pi == 0) = true := by rw [hpi]; exact decide_eq_true hz
              have HZ := Lib.hid hz
              clear hz
              by_cases hx1 : smallB x = true
              · by_cases hx2 : nameC x = true
                · go_wp2_with (first | (go_at_call 71; refine (idSmall x _).mono ?_; rintro e w' ⟨rfl, rfl⟩) | (go_at_call 91; refine (idInName x _).mono ?_; rintro e w' ⟨rfl, rfl⟩))
                  go_roundw
                  case rel => exact ⟨q, (nameTo_step HR.out hp HX.out (fun _ => hx1) hx2).1, rfl, (nameTo_step HR.out hp HX.out (fun _ => hx1) hx2).2⟩
                  case measure => simp; have := nameTo_lt hp HX.out; omega
                · have hx2 : nameC x = false := by simpa using hx2
                  go_wp2_with (first | (go_at_call 71; refine (idSmall x _).mono ?_; rintro e w' ⟨rfl, rfl⟩) | (go_at_call 91; refine (idInName x _).mono ?_; rintro e w' ⟨rfl, rfl⟩))
                  go_ret
                  exact ⟨ret_bool (nameTo_bad hp HX.out hx2).symm, below_iter _ _ _⟩
              · have hx1 : smallB x = false := by simpa using hx1
                go_wp2_with (first | (go_at_call 71; refine (idSmall x _).mono ?_; rintro e w' ⟨rfl, rfl⟩) | (go_at_call 91; refine (idInName x _).mono ?_; rintro e w' ⟨rfl, rfl⟩))
                go_ret
                exact ⟨ret_bool (nameTo_first HZ.out hp HX.out hx1).symm, below_iter _ _ _⟩
            · have hpi : (pi == 0) = false := by rw [hpi]; exact decide_eq_false hz
              have HZ := Lib.hid hz
              clear hz
              by_cases hx2 : nameC x = true
              · go_wp2_with (first | (go_at_call 71; refine (idSmall x _).mono ?_; rintro e w' ⟨rfl, rfl⟩) | (go_at_call 91; refine (idInName x _).mono ?_; rintro e w' ⟨rfl, rfl⟩))
                go_roundw
                case rel => exact ⟨q, (nameTo_step HR.out hp HX.out (fun h => absurd h HZ.out) hx2).1, rfl, (nameTo_step HR.out hp HX.out (fun h => absurd h HZ.out) hx2).2⟩
                case measure => simp; have := nameTo_lt hp HX.out; omega
              · have hx2 : nameC x = false := by simpa using hx2
                go_wp2_with (first | (go_at_call 71; refine (idSmall x _).mono ?_; rintro e w' ⟨rfl, rfl⟩) | (go_at_call 91; refine (idInName x _).mono ?_; rintro e w' ⟨rfl, rfl⟩))
                go_ret
                exact ⟨ret_bool (nameTo_bad hp HX.out hx2).symm, below_iter _ _ _⟩
          · have hnx : ∀ ty, (Instr.next (.pointer (some ⟨w.heap.size, 0, none⟩)) true ty).run Tryz.prog (w.iter s pos) = _ := fun ty => run_next_end w s pos ty hp
            go_wp2_with fail
            go_ret
            exact ⟨ret_bool (nameTo_end HR.out h0 h12 (by omega)).symm, below_iter _ _ _⟩
      · go_enter Tryz.func70, Tryz.ntmps70
        go_wp2_with fail
        clear hd1 hd2
        go_loopw [5] (fun _ wr => ∃ pos : Nat, pos ≤ s.size ∧ wr = w.iter s pos ∧ NameTo greatB s pos) (fun _ wr => s.size - wr.iterPos w.heap.size)
        case atStart => exact ⟨0, by omega, rfl, nameTo_zero⟩
        case round =>
          obtain ⟨pos, hle, rfl, hrel⟩ := hrel
          have HR := Lib.hid hrel
          clear hrel
          by_cases hp : pos < s.size
          · obtain ⟨x, q, hnx, hx⟩ := next_at (P := Tryz.prog) w s pos hp
            have HX := Lib.hid hx
            clear hx
            have hpi : ((pos : Int) == 0) = decide (pos = 0) := by rw [Bool.eq_iff_iff]; simp
            generalize (pos : Int) = pi at hnx hpi
            by_cases hz : pos = 0
            · have hpi : (pi == 0) = true := by rw [hpi]; exact decide_eq_true hz
              have HZ := Lib.hid hz
              clear hz
              by_cases hx1 : greatB x = true
              · by_cases hx2 : nameC x = true
                · go_wp2_with (first | (go_at_call 73; refine (idGreat x _).mono ?_; rintro e w' ⟨rfl, rfl⟩) | (go_at_call 91; refine (idInName x _).mono ?_; rintro e w' ⟨rfl, rfl⟩))
                  go_roundw
                  case rel => exact ⟨q, (nameTo_step HR.out hp HX.out (fun _ => hx1) hx2).1, rfl, (nameTo_step HR.out hp HX.out (fun _ => hx1) hx2).2⟩
                  case measure => simp; have := nameTo_lt hp HX.out; omega
                · have hx2 : nameC x = false := by simpa using hx2
                  go_wp2_with (first | (go_at_call 73; refine (idGreat x _).mono ?_; rintro e w' ⟨rfl, rfl⟩) | (go_at_call 91; refine (idInName x _).mono ?_; rintro e w' ⟨rfl, rfl⟩))
                  go_ret
                  exact ⟨ret_bool (nameTo_bad hp HX.out hx2).symm, below_iter _ _ _⟩
              · have hx1 : greatB x = false := by simpa using hx1
                go_wp2_with (first | (go_at_call 73; refine (idGreat x _).mono ?_; rintro e w' ⟨rfl, rfl⟩) | (go_at_call 91; refine (idInName x _).mono ?_; rintro e w' ⟨rfl, rfl⟩))
                go_ret
                exact ⟨ret_bool (nameTo_first HZ.out hp HX.out hx1).symm, below_iter _ _ _⟩
            · have hpi : (pi == 0) = false := by rw [hpi]; exact decide_eq_false hz
              have HZ := Lib.hid hz
              clear hz
              by_cases hx2 : nameC x = true
              · go_wp2_with (first | (go_at_call 73; refine (idGreat x _).mono ?_; rintro e w' ⟨rfl, rfl⟩) | (go_at_call 91; refine (idInName x _).mono ?_; rintro e w' ⟨rfl, rfl⟩))
                go_roundw
                case rel => exact ⟨q, (nameTo_step HR.out hp HX.out (fun h => absurd h HZ.out) hx2).1, rfl, (nameTo_step HR.out hp HX.out (fun h => absurd h HZ.out) hx2).2⟩
                case measure => simp; have := nameTo_lt hp HX.out; omega
              · have hx2 : nameC x = false := by simpa using hx2
                go_wp2_with (first | (go_at_call 73; refine (idGreat x _).mono ?_; rintro e w' ⟨rfl, rfl⟩) | (go_at_call 91; refine (idInName x _).mono ?_; rintro e w' ⟨rfl, rfl⟩))
                go_ret
                exact ⟨ret_bool (nameTo_bad hp HX.out hx2).symm, below_iter _ _ _⟩
          · have hnx : ∀ ty, (Instr.next (.pointer (some ⟨w.heap.size, 0, none⟩)) true ty).run Tryz.prog (w.iter s pos) = _ := fun ty => run_next_end w s pos ty hp
            go_wp2_with fail
            go_ret
            exact ⟨ret_bool (nameTo_end HR.out h0 h12 (by omega)).symm, below_iter _ _ _⟩
end Go.Proofs.YtijbahdpblopjaaGreatDoor
