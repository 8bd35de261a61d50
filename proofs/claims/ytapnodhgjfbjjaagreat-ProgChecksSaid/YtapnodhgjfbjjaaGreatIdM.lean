/- Which texts are names, and paths: as plain functions of lists of bytes. Conditions: none. -/
import Derived.Lib.Bytealg
namespace Go.Proofs.YtapnodhgjfbjjaaGreat
set_option linter.unusedVariables false
set_option linter.unusedSimpArgs false

def smallB (n : Int) : Bool := decide (97 ≤ n ∧ n ≤ 122)
def greatB (n : Int) : Bool := decide (65 ≤ n ∧ n ≤ 90)
def digitB (n : Int) : Bool := decide (48 ≤ n ∧ n ≤ 57)
def nameC (n : Int) : Bool := smallB n || greatB n || digitB n || decide (n = 95)

/-- A name whose first byte is as 'first' asks. -/
def nameB (first : Int → Bool) (l : List UInt8) : Bool :=
  decide (1 ≤ l.length ∧ l.length ≤ 12) && (match l with | [] => false | c :: _ => first (c.toNat : Int)) && l.all fun c => nameC (c.toNat : Int)

def wordsL : List (List UInt8) := [[110, 111, 100, 101], [114, 101, 116, 117, 114, 110, 115], [118, 97, 114], [108, 101, 116], [116, 101, 108], [101, 110, 117, 109], [105, 102], [116, 104, 101, 110], [101, 108, 115, 101], [102, 98, 121], [112, 114, 101], [119, 104, 101, 110], [109, 101, 114, 103, 101], [101, 118, 101, 114, 121], [110, 111, 116], [97, 110, 100], [111, 114], [120, 111, 114], [109, 111, 100], [116, 114, 117, 101], [102, 97, 108, 115, 101], [105, 110, 116], [98, 111, 111, 108], [119, 105, 116, 104]]
def wordB (l : List UInt8) : Bool := decide (l ∈ wordsL)

def lowB (l : List UInt8) : Bool := nameB smallB l && !wordB l
def highB (l : List UInt8) : Bool := nameB greatB l

/-- The parts of a text between a byte. -/
def cutL (c : UInt8) : List UInt8 → List (List UInt8)
  | [] => [[]]
  | b :: l => if b = c then [] :: cutL c l else match cutL c l with | [] => [[b]] | p :: ps => (b :: p) :: ps

def numB (l : List UInt8) : Bool :=
  decide (1 ≤ l.length ∧ l.length ≤ 3) && (match l with | [] => false | c :: _ => !decide (c = 48)) && l.all fun c => digitB (c.toNat : Int)

def partL : List (List UInt8) → Bool
  | [a] => lowB a
  | [a, n] => lowB a && numB n
  | _ => false
def partB (l : List UInt8) : Bool := partL (cutL 46 l)
def pathB (l : List UInt8) : Bool := (cutL 47 l).all partB

theorem cutL_ne (c : UInt8) (l : List UInt8) : cutL c l ≠ [] := by
  cases l with
  | nil => simp [cutL]
  | cons b l =>
    unfold cutL
    split
    · simp
    · split <;> simp

theorem cutL_none {c : UInt8} : ∀ {l : List UInt8}, c ∉ l → cutL c l = [l]
  | [], _ => rfl
  | b :: l, h => by
    have h1 : b ≠ c := fun e => h (by simp [e])
    have h2 := cutL_none (l := l) (fun m => h (List.mem_cons_of_mem _ m))
    simp [cutL, h1, h2]

theorem cutL_app {c : UInt8} : ∀ (p r : List UInt8), cutL c (p ++ c :: r) = cutL c p ++ cutL c r
  | [], r => by simp [cutL]
  | b :: p, r => by
    have ih := cutL_app (c := c) p r
    by_cases hb : b = c
    · simp [cutL, hb, ih]
    · have hn := cutL_ne c p
      cases hp : cutL c p with
      | nil => exact absurd hp hn
      | cons q qs => simp [cutL, hb, ih, hp]

theorem cutL_at {c : UInt8} {p r : List UInt8} (h : c ∉ p) : cutL c (p ++ c :: r) = p :: cutL c r := by
  rw [cutL_app, cutL_none h]; rfl

theorem nameC_bd {n : Int} (h : nameC n = true) : 48 ≤ n ∧ n ≤ 122 := by
  simp [nameC, smallB, greatB, digitB] at h
  omega

theorem nameB_all {first : Int → Bool} {l : List UInt8} (h : nameB first l = true) : ∀ c ∈ l, nameC (c.toNat : Int) = true := by
  simp [nameB] at h
  exact h.2

theorem lowB_all {l : List UInt8} (h : lowB l = true) : ∀ c ∈ l, nameC (c.toNat : Int) = true := by
  unfold lowB at h
  exact nameB_all (by simp at h; exact h.1)

theorem not_mem_of_all {l : List UInt8} {c : UInt8} (h : ∀ c ∈ l, nameC (c.toNat : Int) = true) (hc : nameC (c.toNat : Int) = false) : c ∉ l :=
  fun hm => by rw [h c hm] at hc; cases hc

theorem low_path {l : List UInt8} (h : lowB l = true) : pathB l = true := by
  have ha := lowB_all h
  unfold pathB
  rw [cutL_none (not_mem_of_all ha (by decide))]
  simp [partB, cutL_none (not_mem_of_all ha (c := 46) (by decide)), partL, h]

theorem low_high {l : List UInt8} (h : lowB l = true) : highB l = false := by
  cases l with
  | nil => rfl
  | cons c l =>
    simp [lowB, nameB, smallB] at h
    have h2 := h.1.1.2
    have : greatB (c.toNat : Int) = false := by simp [greatB]; omega
    simp [highB, nameB, this]

theorem low_word {l : List UInt8} (h : lowB l = true) : wordB l = false := by
  simp [lowB] at h
  exact h.2

theorem path_app (s t : List UInt8) : pathB (s ++ 47 :: t) = (pathB s && pathB t) := by
  unfold pathB
  rw [cutL_app, List.all_append]

theorem numB_point {l : List UInt8} (h : (46 : UInt8) ∈ l) : numB l = false := by
  cases hn : numB l with
  | false => rfl
  | true =>
    simp [numB] at hn
    have := hn.2 46 h
    revert this
    decide

/-- What the program's part asks is what the document's does. -/
theorem partB_none {l : List UInt8} (h : (46 : UInt8) ∉ l) : partB l = lowB l := by
  unfold partB
  rw [cutL_none h]
  rfl

theorem partB_at {p r : List UInt8} (h : (46 : UInt8) ∉ p) : partB (p ++ 46 :: r) = (lowB p && numB r) := by
  unfold partB
  rw [cutL_at h]
  by_cases hr : (46 : UInt8) ∈ r
  · rw [numB_point hr]
    obtain ⟨a, b, rfl⟩ := List.append_of_mem hr
    rw [cutL_app]
    have h1 := cutL_ne 46 a
    have h2 := cutL_ne 46 b
    cases ha : cutL 46 a with
    | nil => exact absurd ha h1
    | cons x xs =>
      cases hb : cutL 46 b with
      | nil => exact absurd hb h2
      | cons y ys =>
        cases xs with
        | nil => simp [partL]
        | cons z zs => simp [partL]
  · rw [cutL_none hr]
    rfl

/-- What the index of a byte says of a list. -/
theorem index_none {l : List UInt8} {c : UInt8} (h : Lib.indexByte l c < 0) : c ∉ l := by
  induction l with
  | nil => simp
  | cons b l ih =>
    unfold Lib.indexByte at h
    have hg := Lib.indexByte_ge l c
    split at h
    · omega
    · split at h
      · rename_i h1 h2
        have := ih (by simp at h2; omega)
        simp at h1
        simp [this]
        exact fun e => h1 e.symm
      · rename_i h1 h2
        simp at h2
        omega

theorem index_some {l : List UInt8} {c : UInt8} (h : 0 ≤ Lib.indexByte l c) :
    ∃ k : Nat, Lib.indexByte l c = k ∧ k < l.length ∧ c ∉ l.take k ∧ l = l.take k ++ c :: l.drop (k + 1) := by
  induction l with
  | nil => simp [Lib.indexByte] at h
  | cons b l ih =>
    unfold Lib.indexByte at h ⊢
    have hg := Lib.indexByte_ge l c
    by_cases hb : b = c
    · subst hb
      exact ⟨0, by simp, by simp, by simp, by simp⟩
    · have hb' : (b == c) = false := by simpa using hb
      simp only [hb', Bool.false_eq_true, if_false] at h ⊢
      by_cases h1 : Lib.indexByte l c = -1
      · simp [h1] at h
      · have h1' : (Lib.indexByte l c == -1) = false := by simpa using h1
        simp only [h1', Bool.false_eq_true, if_false] at h ⊢
        obtain ⟨k, e1, e2, e3, e4⟩ := ih (by omega)
        refine ⟨k + 1, by omega, by simp; omega, ?_, ?_⟩
        · simp
          exact ⟨fun e => hb e.symm, e3⟩
        · simp
          exact e4

/-- The first piece, and the rest, of a text at a byte. -/
theorem path_none {l : List UInt8} (h : (47 : UInt8) ∉ l) : pathB l = partB l := by
  unfold pathB
  rw [cutL_none h]
  simp

theorem path_at {p r : List UInt8} (h : (47 : UInt8) ∉ p) : pathB (p ++ 47 :: r) = (partB p && pathB r) := by
  rw [path_app, path_none h]

def onceB (ls : List (List UInt8)) : Bool := decide ls.Nodup

end Go.Proofs.YtapnodhgjfbjjaaGreat
