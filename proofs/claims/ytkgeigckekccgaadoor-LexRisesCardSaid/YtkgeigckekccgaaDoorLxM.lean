/- Which tokens a text has, as plain functions of lists of bytes; what follows. Conditions: none. -/
import Derived.Test.YtkgeigckekccgaaDoorIdM
import Derived.Lib.ParseIntB
namespace Go.Proofs.YtkgeigckekccgaaDoor
set_option linter.unusedVariables false
set_option linter.unusedSimpArgs false

def letB (n : Int) : Bool := smallB n || greatB n
def spaceB (c : UInt8) : Bool := c == 9 || c == 10 || c == 13 || c == 32
/-- What stands ahead of the next line feed. -/
def lineL (l : List UInt8) : List UInt8 := l.takeWhile fun c => c != 10
/-- How many bytes the blank has that stands first: none, if 0. -/
def blankN (l : List UInt8) : Nat :=
  if [45, 45].isPrefixOf l = true then (lineL l).length else match l with
    | [] => 0
    | c :: _ => if spaceB c = true then 1 else 0

def nameL (l : List UInt8) : List UInt8 := l.takeWhile fun c => nameC (c.toNat : Int)
def digL (l : List UInt8) : List UInt8 := l.takeWhile fun c => digitB (c.toNat : Int)
def quotL (l : List UInt8) : List UInt8 := l.takeWhile fun c => c != 39
/-- The number that digits are. -/
def decV (l : List UInt8) : Nat := l.foldl (fun a c => a * 10 + (c.toNat - 48)) 0

def marksL : List (List UInt8) := [[58, 61], [45, 62], [60, 61], [62, 61], [60, 62], [40], [41], [123], [125], [91], [93], [44], [59], [58], [61], [60], [62], [43], [45], [42], [47]]
def markL (l : List UInt8) : Option (List UInt8) := marksL.find? fun m => m.isPrefixOf l

/-- A token. -/
structure Tk where
  k : Int
  s : List UInt8
  n : Int
  a : Nat
instance : Inhabited Tk := ⟨⟨0, [], 0, 0⟩⟩

def nameT (l : List UInt8) : Option (Tk × Nat) :=
  if (lowB (nameL l) || wordB (nameL l)) = true then some (⟨1, nameL l, 0, 0⟩, (nameL l).length)
  else if highB (nameL l) = true then some (⟨2, nameL l, 0, 0⟩, (nameL l).length) else none
def numT (l : List UInt8) : Option (Tk × Nat) :=
  if (1 < (digL l).length ∧ l.head? = some 48) ∨ 9223372036854775807 < decV (digL l) then none
  else some (⟨3, digL l, decV (digL l), 0⟩, (digL l).length)
/-- l: what stands behind the first quote. -/
def pathT (l : List UInt8) : Option (Tk × Nat) :=
  if (quotL l).length < l.length ∧ pathB (quotL l) = true then some (⟨4, quotL l, 0, 0⟩, (quotL l).length + 2) else none
def markT (l : List UInt8) : Option (Tk × Nat) := (markL l).map fun m => (⟨5, m, 0, 0⟩, m.length)

/-- The token that begins with a text, and how many bytes it has. -/
def tokL : List UInt8 → Option (Tk × Nat)
  | [] => none
  | c :: l => if letB (c.toNat : Int) = true then nameT (c :: l) else if digitB (c.toNat : Int) = true then numT (c :: l) else if c = 39 then pathT l else markT (c :: l)

theorem tok_cons (c : UInt8) (l : List UInt8) : tokL (c :: l) = if letB (c.toNat : Int) = true then nameT (c :: l) else if digitB (c.toNat : Int) = true then numT (c :: l) else if c = 39 then pathT l else markT (c :: l) := rfl

/-! ### Beginnings of texts -/

theorem tw_le {p : UInt8 → Bool} (l : List UInt8) : (l.takeWhile p).length ≤ l.length := (List.takeWhile_prefix p).length_le
theorem tw_take {p : UInt8 → Bool} (l : List UInt8) : l.takeWhile p = l.take (l.takeWhile p).length := by
  have h := List.takeWhile_prefix (l := l) p
  exact (List.prefix_iff_eq_take.1 h)
theorem tw_pos {p : UInt8 → Bool} {c : UInt8} {l : List UInt8} (h : p c = true) : 0 < ((c :: l).takeWhile p).length := by
  simp [List.takeWhile_cons, h]
theorem tw_join {p : UInt8 → Bool} (h : p 10 = false) (m : List UInt8) : ∀ l : List UInt8, (l ++ 10 :: m).takeWhile p = l.takeWhile p
  | [] => by simp [List.takeWhile_cons, h]
  | c :: l => by
    simp only [List.cons_append, List.takeWhile_cons]
    rw [tw_join h m l]
theorem tw_in {p : UInt8 → Bool} (m : List UInt8) : ∀ l : List UInt8, (l.takeWhile p).length < l.length → (l ++ m).takeWhile p = l.takeWhile p
  | [], h => by simp at h
  | c :: l, h => by
    simp only [List.cons_append, List.takeWhile_cons] at h ⊢
    cases hc : p c with
    | false => simp [hc]
    | true =>
      simp only [hc, if_true, List.length_cons] at h
      simp [hc, tw_in (p := p) m l (by omega)]
/-- What is told of a beginning tells it. -/
theorem tw_eq {p : UInt8 → Bool} : ∀ {a l : List UInt8}, (∀ c ∈ a, p c = true) → (l = a ∨ ∃ c b, l = a ++ c :: b ∧ p c = false) → l.takeWhile p = a
  | [], l, _, h => by
    rcases h with rfl | ⟨c, b, rfl, hc⟩
    · rfl
    · simp [List.takeWhile_cons, hc]
  | x :: a, l, ha, h => by
    have hx := ha x (by simp)
    have ih := fun l h => tw_eq (a := a) (l := l) (fun c hc => ha c (by simp [hc])) h
    rcases h with rfl | ⟨c, b, rfl, hc⟩
    · simp [List.takeWhile_cons, hx, ih a (.inl rfl)]
    · simp [List.takeWhile_cons, hx, ih _ (.inr ⟨c, b, rfl, hc⟩)]
theorem tw_all {p : UInt8 → Bool} : ∀ (l : List UInt8), ∀ c ∈ l.takeWhile p, p c = true
  | [], c, h => by simp at h
  | x :: l, c, h => by
    cases hx : p x with
    | false => simp [List.takeWhile_cons, hx] at h
    | true =>
      simp only [List.takeWhile_cons, hx, if_true, List.mem_cons] at h
      rcases h with rfl | h
      · exact hx
      · exact tw_all l c h

theorem pre_join {m : List UInt8} (r : List UInt8) : ∀ {l : List UInt8}, (10 : UInt8) ∉ m → m.isPrefixOf (l ++ 10 :: r) = m.isPrefixOf l := by
  induction m with
  | nil => intro l _; rw [List.isPrefixOf_nil_left, List.isPrefixOf_nil_left]
  | cons x m ih =>
    intro l h
    have hx : ¬ x = 10 := fun e => h (by simp [e])
    have hm : (10 : UInt8) ∉ m := fun e => h (by simp [e])
    cases l with
    | nil => simp [List.isPrefixOf_cons_cons, hx]
    | cons y l => simp [List.isPrefixOf_cons_cons, ih hm]

theorem find_join (r l : List UInt8) : ∀ L : List (List UInt8), (∀ m ∈ L, (10 : UInt8) ∉ m) → L.find? (fun m => m.isPrefixOf (l ++ 10 :: r)) = L.find? (fun m => m.isPrefixOf l)
  | [], _ => rfl
  | m :: L, h => by
    simp only [List.find?_cons]
    rw [pre_join r (h m (by simp)), find_join r l L (fun m hm => h m (by simp [hm]))]

theorem mark_join (r l : List UInt8) : markL (l ++ 10 :: r) = markL l := find_join r l marksL (by decide)

theorem mark_mem {l m : List UInt8} (h : markL l = some m) : m ∈ marksL ∧ m.isPrefixOf l = true := by
  unfold markL at h
  have h2 := List.find?_some h
  exact ⟨List.mem_of_find?_eq_some h, h2⟩
theorem mark_pos {l m : List UInt8} (h : markL l = some m) : 0 < m.length ∧ m.length ≤ l.length ∧ m = l.take m.length := by
  obtain ⟨h1, h2⟩ := mark_mem h
  have h3 : ∀ m ∈ marksL, 0 < m.length := by decide
  rw [List.isPrefixOf_iff_prefix] at h2
  exact ⟨h3 m h1, h2.length_le, List.prefix_iff_eq_take.1 h2⟩

/-! ### What a token is -/

/-- How many bytes a token has. -/
def Tk.w (t : Tk) : Nat := t.s.length + (if t.k = 4 then 2 else 0)

theorem tok_ok {l : List UInt8} {t : Tk} {z : Nat} (h : tokL l = some (t, z)) :
    0 < z ∧ z ≤ l.length ∧ t.w = z ∧ t.k ≠ 6 ∧ t.a = 0 ∧ (t.k ≠ 4 → t.s = l.take z) := by
  cases l with
  | nil => cases h
  | cons c l =>
    rw [tok_cons] at h
    by_cases h1 : letB (c.toNat : Int) = true
    · rw [if_pos h1] at h
      have hn : nameC (c.toNat : Int) = true := by
        simp only [letB, Bool.or_eq_true] at h1
        rcases h1 with h1 | h1 <;> simp [nameC, h1]
      have hp : 0 < (nameL (c :: l)).length := tw_pos (p := fun c => nameC (c.toNat : Int)) hn
      have hle : (nameL (c :: l)).length ≤ (c :: l).length := tw_le _
      have ht : nameL (c :: l) = (c :: l).take (nameL (c :: l)).length := tw_take _
      unfold nameT at h
      split at h
      · cases h; exact ⟨hp, hle, by simp [Tk.w], by simp, rfl, fun _ => ht⟩
      · split at h
        · cases h; exact ⟨hp, hle, by simp [Tk.w], by simp, rfl, fun _ => ht⟩
        · cases h
    · rw [if_neg h1] at h
      by_cases h2 : digitB (c.toNat : Int) = true
      · rw [if_pos h2] at h
        have hp : 0 < (digL (c :: l)).length := tw_pos (p := fun c => digitB (c.toNat : Int)) h2
        have hle : (digL (c :: l)).length ≤ (c :: l).length := tw_le _
        have ht : digL (c :: l) = (c :: l).take (digL (c :: l)).length := tw_take _
        unfold numT at h
        split at h
        · cases h
        · cases h; exact ⟨hp, hle, by simp [Tk.w], by simp, rfl, fun _ => ht⟩
      · rw [if_neg h2] at h
        by_cases h3 : c = 39
        · rw [if_pos h3] at h
          unfold pathT at h
          split at h
          · rename_i hh
            cases h
            exact ⟨by omega, by simp; omega, by simp [Tk.w], by simp, rfl, fun h => absurd rfl h⟩
          · cases h
        · rw [if_neg h3] at h
          unfold markT at h
          cases hm : markL (c :: l) with
          | none => rw [hm] at h; cases h
          | some m =>
            rw [hm] at h
            obtain ⟨p1, p2, p3⟩ := mark_pos hm
            cases h
            exact ⟨p1, p2, by simp [Tk.w], by simp, rfl, fun _ => p3⟩

theorem blank_le (l : List UInt8) : blankN l ≤ l.length := by
  unfold blankN
  split
  · exact tw_le _
  · split
    · exact Nat.zero_le _
    · split <;> simp

/-! ### With a line feed behind -/

theorem blank_join {l : List UInt8} (r : List UInt8) (h : l ≠ []) : blankN (l ++ 10 :: r) = blankN l := by
  unfold blankN
  rw [pre_join r (m := [45, 45]) (by decide)]
  split
  · unfold lineL
    rw [tw_join (by decide)]
  · cases l with
    | nil => exact absurd rfl h
    | cons c l => rfl

theorem name_join (r l : List UInt8) : nameT (l ++ 10 :: r) = nameT l := by
  have e : nameL (l ++ 10 :: r) = nameL l := tw_join (by decide) r l
  unfold nameT
  rw [e]
theorem num_join (r : List UInt8) {l : List UInt8} (h : l ≠ []) : numT (l ++ 10 :: r) = numT l := by
  have e : digL (l ++ 10 :: r) = digL l := tw_join (by decide) r l
  have e2 : (l ++ 10 :: r).head? = l.head? := by
    cases l with
    | nil => exact absurd rfl h
    | cons c l => rfl
  unfold numT
  rw [e, e2]
theorem path_join (r : List UInt8) {l : List UInt8} {x : Tk × Nat} (h : pathT l = some x) : pathT (l ++ r) = some x := by
  unfold pathT at h ⊢
  split at h
  · rename_i hh
    have e : quotL (l ++ r) = quotL l := tw_in r l hh.1
    rw [e, if_pos ⟨by simp; omega, hh.2⟩]
    exact h
  · cases h

theorem tok_join (r : List UInt8) {l : List UInt8} {x : Tk × Nat} (h : tokL l = some x) : tokL (l ++ 10 :: r) = some x := by
  cases l with
  | nil => cases h
  | cons c l =>
    rw [← h]
    rw [tok_cons] at h
    show tokL (c :: (l ++ 10 :: r)) = _
    rw [tok_cons, tok_cons]
    by_cases h1 : letB (c.toNat : Int) = true
    · rw [if_pos h1, if_pos h1]
      exact name_join r (c :: l)
    · rw [if_neg h1, if_neg h1]
      rw [if_neg h1] at h
      by_cases h2 : digitB (c.toNat : Int) = true
      · rw [if_pos h2, if_pos h2]
        exact num_join r (l := c :: l) (by simp)
      · rw [if_neg h2, if_neg h2]
        rw [if_neg h2] at h
        by_cases h3 : c = 39
        · rw [if_pos h3, if_pos h3]
          rw [if_pos h3] at h
          rw [h, path_join (10 :: r) h]
        · rw [if_neg h3, if_neg h3]
          unfold markT
          rw [← List.cons_append, mark_join]

/-! ### All tokens -/

/-- The tokens of a text that begins at a place, and where none begins, if so. -/
def lexL (a : Nat) (l : List UInt8) : List Tk × Option Nat :=
  if h : l = [] then ([], none)
  else if hb : 0 < blankN l then lexL (a + blankN l) (l.drop (blankN l))
  else match tokL l with
    | none => ([], some a)
    | some (t, z) => if hz : 0 < z then ({ t with a := a } :: (lexL (a + z) (l.drop z)).1, (lexL (a + z) (l.drop z)).2) else ([], some a)
termination_by l.length
decreasing_by
  all_goals
    have := List.length_pos_iff.2 h
    simp only [List.length_drop]
    omega

theorem lex_nil (a : Nat) : lexL a [] = ([], none) := by unfold lexL; simp
theorem lex_blank {a : Nat} {l : List UInt8} (hb : 0 < blankN l) : lexL a l = lexL (a + blankN l) (l.drop (blankN l)) := by
  have h : l ≠ [] := fun e => by subst e; revert hb; decide
  rw [lexL]
  simp [h, hb]
theorem lex_bad {a : Nat} {l : List UInt8} (h : l ≠ []) (hb : blankN l = 0) (ht : tokL l = none) : lexL a l = ([], some a) := by
  rw [lexL]
  simp [h, hb, ht]
theorem lex_tok {a z : Nat} {l : List UInt8} {t : Tk} (hb : blankN l = 0) (ht : tokL l = some (t, z)) :
    lexL a l = ({ t with a := a } :: (lexL (a + z) (l.drop z)).1, (lexL (a + z) (l.drop z)).2) := by
  have h : l ≠ [] := fun e => by subst e; cases ht
  rw [lexL]
  simp [h, hb, ht, (tok_ok ht).1]

/-- What is so of the end, of blanks and of tokens is so of all texts. -/
theorem lex_ind {P : Nat → List UInt8 → Prop} (hn : ∀ a, P a []) (hb : ∀ a l, l ≠ [] → 0 < blankN l → P (a + blankN l) (l.drop (blankN l)) → P a l)
    (hx : ∀ a l, l ≠ [] → blankN l = 0 → tokL l = none → P a l) (ht : ∀ a l t z, l ≠ [] → blankN l = 0 → tokL l = some (t, z) → P (a + z) (l.drop z) → P a l) :
    ∀ n a l, l.length ≤ n → P a l
  | 0, a, l, h => by
    obtain rfl : l = [] := List.eq_nil_of_length_eq_zero (by omega)
    exact hn a
  | n + 1, a, l, h => by
    by_cases h0 : l = []
    · subst h0; exact hn a
    · have hl := List.length_pos_iff.2 h0
      rcases Nat.eq_zero_or_pos (blankN l) with h1 | h1
      · cases h2 : tokL l with
        | none => exact hx a l h0 h1 h2
        | some x =>
          obtain ⟨t, z⟩ := x
          refine ht a l t z h0 h1 h2 (lex_ind hn hb hx ht n _ _ ?_)
          have := (tok_ok h2).1
          simp only [List.length_drop]; omega
      · refine hb a l h0 h1 (lex_ind hn hb hx ht n _ _ ?_)
        simp only [List.length_drop]; omega

def Tk.up (d : Nat) (t : Tk) : Tk := { t with a := t.a + d }

theorem lex_shift (d : Nat) (a : Nat) (l : List UInt8) : lexL (a + d) l = ((lexL a l).1.map (Tk.up d), (lexL a l).2.map (· + d)) := by
  refine lex_ind (P := fun a l => lexL (a + d) l = ((lexL a l).1.map (Tk.up d), (lexL a l).2.map (· + d))) ?_ ?_ ?_ ?_ l.length a l (Nat.le_refl _)
  · intro a; simp [lex_nil]
  · intro a l h hb ih
    rw [lex_blank hb, lex_blank (a := a) hb, show a + d + blankN l = a + blankN l + d by omega]
    exact ih
  · intro a l h hb ht
    simp [lex_bad h hb ht]
  · intro a l t z h hb ht ih
    rw [lex_tok hb ht, lex_tok (a := a) hb ht, show a + d + z = a + z + d by omega, ih]
    simp [Tk.up]

theorem drop_app {l r : List UInt8} {n : Nat} (h : n ≤ l.length) : (l ++ r).drop n = l.drop n ++ r := by
  rw [List.drop_append, Nat.sub_eq_zero_of_le h, List.drop_zero]

theorem lex_feed (a : Nat) (m : List UInt8) : lexL a (10 :: m) = lexL (a + 1) m := by
  have h : blankN (10 :: m) = 1 := rfl
  rw [lex_blank (by rw [h]; decide), h]
  rfl

theorem lex_join (m : List UInt8) (a : Nat) (l : List UInt8) : (lexL a l).2 = none →
    lexL a (l ++ 10 :: m) = ((lexL a l).1 ++ (lexL (a + l.length + 1) m).1, (lexL (a + l.length + 1) m).2) := by
  refine lex_ind (P := fun a l => (lexL a l).2 = none → lexL a (l ++ 10 :: m) = ((lexL a l).1 ++ (lexL (a + l.length + 1) m).1, (lexL (a + l.length + 1) m).2)) ?_ ?_ ?_ ?_ l.length a l (Nat.le_refl _)
  · intro a _
    simp [lex_nil, lex_feed]
  · intro a l h hb ih he
    have h1 := blank_join m h
    have hle := blank_le l
    rw [lex_blank hb] at he
    have ih := ih he
    rw [lex_blank (l := l ++ 10 :: m) (by rw [h1]; exact hb), h1, drop_app hle, ih, lex_blank (a := a) hb]
    have e : a + blankN l + (l.drop (blankN l)).length + 1 = a + l.length + 1 := by simp only [List.length_drop]; omega
    rw [e]
  · intro a l h hb ht he
    rw [lex_bad h hb ht] at he
    cases he
  · intro a l t z h hb ht ih he
    have h1 := blank_join m h
    have hz := (tok_ok ht).2.1
    rw [lex_tok hb ht] at he
    have ih := ih he
    rw [lex_tok (l := l ++ 10 :: m) (by rw [h1]; exact hb) (tok_join m ht), drop_app hz, ih, lex_tok (a := a) hb ht]
    have e : a + z + (l.drop z).length + 1 = a + l.length + 1 := by simp only [List.length_drop]; omega
    rw [e]
    rfl

/-- A place at which none begins stands in the text. -/
theorem lex_place (a : Nat) (l : List UInt8) : ∀ p, (lexL a l).2 = some p → a ≤ p ∧ p < a + l.length := by
  refine lex_ind (P := fun a l => ∀ p, (lexL a l).2 = some p → a ≤ p ∧ p < a + l.length) ?_ ?_ ?_ ?_ l.length a l (Nat.le_refl _)
  · intro a p h
    rw [lex_nil] at h; cases h
  · intro a l h hb ih p hp
    have hle := blank_le l
    rw [lex_blank hb] at hp
    have := ih p hp
    simp only [List.length_drop] at this
    omega
  · intro a l h hb ht p hp
    rw [lex_bad h hb ht] at hp
    have := List.length_pos_iff.2 h
    cases hp
    omega
  · intro a l t z h hb ht ih p hp
    have hz := (tok_ok ht).2.1
    rw [lex_tok hb ht] at hp
    have := ih p hp
    simp only [List.length_drop] at this
    omega

/-- Tokens stand one behind the other, each at its place. -/
def Runs (s : List UInt8) : Nat → List Tk → Prop
  | at_, [] => at_ ≤ s.length
  | at_, t :: ts => at_ ≤ t.a ∧ t.a + t.w ≤ s.length ∧ t.k ≠ 6 ∧ (t.k ≠ 4 → t.s = (s.drop t.a).take t.w) ∧ Runs s (t.a + t.w) ts

theorem Runs.less {s : List UInt8} : ∀ {ts : List Tk} {a b : Nat}, Runs s b ts → a ≤ b → Runs s a ts
  | [], a, b, h, hab => Nat.le_trans hab h
  | t :: ts, a, b, h, hab => ⟨Nat.le_trans hab h.1, h.2⟩

theorem lex_runs (s : List UInt8) (a : Nat) (l : List UInt8) : s.drop a = l → a ≤ s.length → Runs s a (lexL a l).1 := by
  refine lex_ind (P := fun a l => s.drop a = l → a ≤ s.length → Runs s a (lexL a l).1) ?_ ?_ ?_ ?_ l.length a l (Nat.le_refl _)
  · intro a _ ha
    rw [lex_nil]; exact ha
  · intro a l h hb ih hd ha
    have hle := blank_le l
    rw [lex_blank hb]
    have e : l.length = s.length - a := by rw [← hd, List.length_drop]
    exact (ih (by rw [← hd, List.drop_drop]) (by omega)).less (by omega)
  · intro a l h hb ht _ ha
    rw [lex_bad h hb ht]; exact ha
  · intro a l t z h hb ht ih hd ha
    obtain ⟨h1, h2, h3, h4, h5, h6⟩ := tok_ok ht
    have e : l.length = s.length - a := by rw [← hd, List.length_drop]
    rw [lex_tok hb ht]
    have hw : Tk.w { t with a := a } = z := h3
    refine ⟨Nat.le_refl _, ?_, h4, fun hk => ?_, ?_⟩
    · rw [hw]; show a + z ≤ s.length; omega
    · rw [hw]
      show t.s = (s.drop a).take z
      rw [hd]; exact h6 hk
    · rw [hw]
      exact ih (by rw [← hd, List.drop_drop]) (by omega)

/-- Where the token ahead of place i ends. -/
def endAt (ts : List Tk) : Nat → Nat
  | 0 => 0
  | i + 1 => (ts[i]?.getD default).a + (ts[i]?.getD default).w

theorem Runs.at_ {s : List UInt8} : ∀ {ts : List Tk} {b : Nat}, Runs s b ts → ∀ i, i < ts.length →
    (if i = 0 then b else endAt ts i) ≤ (ts[i]?.getD default).a ∧ (ts[i]?.getD default).a + (ts[i]?.getD default).w ≤ s.length ∧ (ts[i]?.getD default).k ≠ 6 ∧
      ((ts[i]?.getD default).k ≠ 4 → (ts[i]?.getD default).s = (s.drop (ts[i]?.getD default).a).take (ts[i]?.getD default).w)
  | [], b, h, i, hi => by simp at hi
  | t :: ts, b, h, 0, hi => ⟨h.1, h.2.1, h.2.2.1, h.2.2.2.1⟩
  | t :: ts, b, h, i + 1, hi => by
    have ih := Runs.at_ h.2.2.2.2 i (by simpa using hi)
    simp only [List.getElem?_cons_succ]
    refine ⟨?_, ih.2⟩
    have h1 := ih.1
    cases i with
    | zero => simpa [endAt] using h1
    | succ j => simpa [endAt] using h1

theorem Runs.end_ {s : List UInt8} {ts : List Tk} {b : Nat} (h : Runs s b ts) : endAt ts ts.length ≤ s.length := by
  cases e : ts.length with
  | zero => exact Nat.zero_le _
  | succ n => exact (h.at_ n (by omega)).2.1

/-! ### Numbers -/

theorem decV_snoc (l : List UInt8) (c : UInt8) : decV (l ++ [c]) = decV l * 10 + (c.toNat - 48) := by simp [decV]
theorem dec_up (l : List UInt8) : ∀ a b : Nat, a ≤ b → l.foldl (fun a c => a * 10 + (c.toNat - 48)) a ≤ l.foldl (fun a c => a * 10 + (c.toNat - 48)) b ∧ a ≤ l.foldl (fun a c => a * 10 + (c.toNat - 48)) b := by
  induction l with
  | nil => intro a b h; exact ⟨h, h⟩
  | cons c l ih =>
    intro a b h
    simp only [List.foldl_cons]
    refine ⟨(ih _ _ (by omega)).1, Nat.le_trans ?_ (ih _ _ (Nat.le_refl _)).2⟩
    omega
theorem decV_app (l m : List UInt8) : decV l ≤ decV (l ++ m) := by
  unfold decV
  rw [List.foldl_append]
  exact (dec_up m _ _ (Nat.le_refl _)).2

theorem digit_nat {c : UInt8} (h : digitB (c.toNat : Int) = true) : 48 ≤ c.toNat ∧ c.toNat ≤ 57 := by
  simp [digitB] at h
  omega

theorem parseM (l : List UInt8) : ∀ acc : Nat, (∀ c ∈ l, digitB (c.toNat : Int) = true) →
    Lib.parseUintM (2 ^ 64 - 1) acc l = .ok (l.foldl (fun a c => a * 10 + (c.toNat - 48)) acc) ∨
    (Lib.parseUintM (2 ^ 64 - 1) acc l = .range ∧ 18446744073709551616 ≤ l.foldl (fun a c => a * 10 + (c.toNat - 48)) acc) := by
  induction l with
  | nil => intro acc _; exact .inl rfl
  | cons c l ih =>
    intro acc hd
    have hc := digit_nat (hd c (by simp))
    simp only [List.foldl_cons]
    unfold Lib.parseUintM
    rw [if_pos hc]
    have hu := (dec_up l (acc * 10 + (c.toNat - 48)) _ (Nat.le_refl _)).2
    by_cases h1 : 1844674407370955162 ≤ acc
    · rw [if_pos h1]
      exact .inr ⟨rfl, by omega⟩
    · rw [if_neg h1]
      by_cases h2 : 2 ^ 64 - 1 < acc * 10 + (c.toNat - 48)
      · rw [if_pos h2]
        exact .inr ⟨rfl, by omega⟩
      · rw [if_neg h2]
        exact ih _ fun c hc => hd c (by simp [hc])

theorem parse_digits {l : List UInt8} (h0 : l ≠ []) (hd : ∀ c ∈ l, digitB (c.toNat : Int) = true) :
    Lib.parseIntB 64 l = if 9223372036854775807 < decV l then .range else .ok (decV l : Int) := by
  cases l with
  | nil => exact absurd rfl h0
  | cons c l =>
    have hc := digit_nat (hd c (by simp))
    have h43 : ¬ (c.toNat = 43 ∨ c.toNat = 45) := by omega
    have h45 : ¬ c.toNat = 45 := by omega
    unfold Lib.parseIntB
    simp only [if_neg h43]
    unfold Lib.parseUintB
    rw [if_neg (by simp)]
    have e : decV (c :: l) = (c :: l).foldl (fun a c => a * 10 + (c.toNat - 48)) 0 := rfl
    rcases parseM (c :: l) 0 hd with h | ⟨h, h2⟩
    · rw [h, ← e]
      by_cases hb : 9223372036854775807 < decV (c :: l)
      · have : (2 : Nat) ^ (64 - 1) ≤ decV (c :: l) := by omega
        simp [h45, hb, this]
      · have : ¬ (2 : Nat) ^ (64 - 1) ≤ decV (c :: l) := by omega
        simp [h45, hb, this]
    · rw [h]
      rw [← e] at h2
      have : 9223372036854775807 < decV (c :: l) := by omega
      simp [this]
end Go.Proofs.YtkgeigckekccgaaDoor
