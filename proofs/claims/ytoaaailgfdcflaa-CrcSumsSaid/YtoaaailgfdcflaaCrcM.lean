/- Plain arithmetic of sums of bytes: a register that moves bit by bit; no program is named here. Conditions: none. -/
import Derived.Test.YtoaaailgfdcflaaOctM
namespace Go.Proofs.Ytoaaailgfdcflaa

theorem xmul (a b : Nat) (k : Nat) : (a ^^^ b) * 2 ^ k = a * 2 ^ k ^^^ b * 2 ^ k := by
  rw [← Nat.shiftLeft_eq, ← Nat.shiftLeft_eq, ← Nat.shiftLeft_eq]
  exact Nat.shiftLeft_xor_distrib

/-- One move of the register. -/
def stp (n : Nat) : Nat := n / 2 ^^^ (if n % 2 = 1 then 3988292384 else 0)
def stps : Nat → Nat → Nat
  | 0, n => n
  | k + 1, n => stps k (stp n)

theorem stp_zero : stp 0 = 0 := rfl
theorem stp_even (n : Nat) : stp (n * 2) = n := by
  unfold stp
  rw [if_neg (by omega), Nat.xor_zero]
  omega
theorem stp_xor (a b : Nat) : stp (a ^^^ b) = stp a ^^^ stp b := by
  unfold stp
  have hm := Nat.xor_mod_two_eq_one (a := a) (b := b)
  rw [Nat.xor_div_two]
  have ac : ∀ x y p q : Nat, (x ^^^ p) ^^^ (y ^^^ q) = (x ^^^ y) ^^^ (p ^^^ q) := fun x y p q => by ac_rfl
  rw [ac]
  congr 1
  by_cases ha : a % 2 = 1 <;> by_cases hb : b % 2 = 1 <;> simp [ha, hb, hm]
theorem stps_xor : ∀ (k a b : Nat), stps k (a ^^^ b) = stps k a ^^^ stps k b
  | 0, _, _ => rfl
  | k + 1, a, b => by
    show stps k (stp (a ^^^ b)) = _
    rw [stp_xor, stps_xor k]
    rfl
theorem stps_add : ∀ (j k n : Nat), stps (j + k) n = stps k (stps j n)
  | 0, k, n => by rw [Nat.zero_add]; rfl
  | j + 1, k, n => by
    rw [show j + 1 + k = (j + k) + 1 from by omega]
    exact stps_add j k (stp n)
theorem stps_succ (k n : Nat) : stps (k + 1) n = stp (stps k n) := stps_add k 1 n
theorem stps_mul : ∀ (k n : Nat), stps k (n * 2 ^ k) = n
  | 0, n => by simp [stps]
  | k + 1, n => by
    show stps k (stp (n * 2 ^ (k + 1))) = n
    rw [Nat.pow_succ, ← Nat.mul_assoc, stp_even, stps_mul k]
theorem stp_lt {n : Nat} (h : n < 4294967296) : stp n < 4294967296 := by
  unfold stp
  refine Nat.xor_lt_two_pow (n := 32) (by omega) ?_
  split <;> decide
theorem stps_lt : ∀ (k : Nat) {n : Nat}, n < 4294967296 → stps k n < 4294967296
  | 0, _, h => h
  | k + 1, _, h => stps_lt k (stp_lt h)

theorem bit31 {n : Nat} (h : n < 4294967296) : (stp n).testBit 31 = decide (n % 2 = 1) := by
  unfold stp
  rw [Nat.testBit_xor, Nat.testBit_lt_two_pow (by omega : n / 2 < 2 ^ 31), Bool.false_xor]
  by_cases hn : n % 2 = 1
  · rw [if_pos hn, decide_eq_true hn]; decide
  · rw [if_neg hn, decide_eq_false hn]; decide

theorem stp_ne {n : Nat} (h : n < 4294967296) (h0 : n ≠ 0) : stp n ≠ 0 := by
  intro e
  have hb := bit31 h
  rw [e] at hb
  have hm : ¬ n % 2 = 1 := by
    intro hm
    rw [decide_eq_true hm] at hb
    exact absurd hb (by decide)
  unfold stp at e
  rw [if_neg hm, Nat.xor_zero] at e
  omega
theorem stps_ne : ∀ (k : Nat) {n : Nat}, n < 4294967296 → n ≠ 0 → stps k n ≠ 0
  | 0, _, _, h0 => h0
  | k + 1, _, h, h0 => stps_ne k (stp_lt h) (stp_ne h h0)

/-- The number whose bytes these are, the lowest one first. -/
def num : List Int → Nat
  | [] => 0
  | z :: l => z.toNat ^^^ num l * 2 ^ 8
def regF (r : Nat) (l : List Int) : Nat := l.foldl (fun r z => stps 8 (r ^^^ z.toNat)) r
def reg (l : List Int) : Nat := regF 4294967295 l
def crcN (l : List Int) : Nat := 4294967295 - reg l
def Byt (l : List Int) : Prop := ∀ z ∈ l, 0 ≤ z ∧ z ≤ 255

theorem regF_snoc (r : Nat) (l : List Int) (z : Int) : regF r (l ++ [z]) = stps 8 (regF r l ^^^ z.toNat) := by simp [regF]
theorem regF_append (r : Nat) (l t : List Int) : regF r (l ++ t) = regF (regF r l) t := by simp [regF]
theorem reg_append (l t : List Int) : reg (l ++ t) = regF (reg l) t := regF_append _ _ _

theorem regF_num : ∀ (l : List Int) (r : Nat), regF r l = stps (8 * l.length) (r ^^^ num l)
  | [], r => by simp [regF, num, stps]
  | z :: l, r => by
    show regF (stps 8 (r ^^^ z.toNat)) l = _
    rw [regF_num l, List.length_cons, show 8 * (l.length + 1) = 8 + 8 * l.length from by omega, stps_add, num, ← Nat.xor_assoc, stps_xor 8 (r ^^^ z.toNat), stps_mul 8]

theorem byte_lt {z : Int} (h : 0 ≤ z ∧ z ≤ 255) : z.toNat < 256 := by omega
theorem regF_lt : ∀ {l : List Int} {r : Nat}, Byt l → r < 4294967296 → regF r l < 4294967296
  | [], _, _, h => h
  | z :: l, r, hb, h => by
    show regF (stps 8 (r ^^^ z.toNat)) l < _
    have hz := byte_lt (hb z List.mem_cons_self)
    exact regF_lt (fun x hx => hb x (List.mem_cons_of_mem _ hx)) (stps_lt 8 (Nat.xor_lt_two_pow (n := 32) h (by omega)))
theorem reg_lt {l : List Int} (h : Byt l) : reg l < 4294967296 := regF_lt h (by decide)

theorem not_sub : ∀ {n : Nat}, n < 4294967296 → 4294967295 - n = 4294967295 ^^^ n := by
  intro n h
  have h2 := Nat.testBit_two_pow_sub_succ (x := n) (n := 32) (by omega)
  apply Nat.eq_of_testBit_eq
  intro i
  rw [Nat.testBit_xor, show 4294967295 - n = 2 ^ 32 - (n + 1) from by omega, h2, show (4294967295 : Nat) = 2 ^ 32 - 1 from rfl, Nat.testBit_two_pow_sub_one]
  by_cases hi : i < 32
  · simp [hi]
  · simp [hi, Nat.testBit_lt_two_pow (Nat.lt_of_lt_of_le h (show 4294967296 ≤ 2 ^ i from Nat.pow_le_pow_right (n := 2) (by omega) (by omega : 32 ≤ i)))]

theorem crcN_lt (l : List Int) : crcN l < 4294967296 := by unfold crcN; omega
theorem crcN_snoc {l : List Int} (z : Int) : reg (l ++ [z]) = stps 8 (reg l ^^^ z.toNat) := regF_snoc _ _ _

/-- What one byte does to the register, by the table of all bytes. -/
theorem tab_step (r x : Nat) : stps 8 (r ^^^ x) = r / 256 ^^^ stps 8 (r % 256 ^^^ x) := by
  have e : r = r / 2 ^ 8 * 2 ^ 8 ^^^ r % 2 ^ 8 := by
    have h1 : r / 2 ^ 8 * 2 ^ 8 + r % 2 ^ 8 = r := by omega
    have h2 := Nat.two_pow_add_eq_or_of_lt (i := 8) (b := r % 2 ^ 8) (by omega) (r / 2 ^ 8)
    apply Nat.eq_of_testBit_eq
    intro i
    rw [Nat.testBit_xor, Nat.testBit_mod_two_pow, Nat.mul_comm, Nat.testBit_two_pow_mul, Nat.testBit_div_two_pow]
    by_cases hi : i < 8
    · simp [hi, show ¬ 8 ≤ i from by omega]
    · simp [hi, show 8 ≤ i from by omega]
  have h3 : stps 8 (r ^^^ x) = stps 8 (r / 2 ^ 8 * 2 ^ 8 ^^^ (r % 2 ^ 8 ^^^ x)) := by
    conv => lhs; rw [e]
    rw [Nat.xor_assoc]
  rw [h3, stps_xor, stps_mul 8]

/-- A number of 32 bits, the lowest byte first. -/
def le4 (a : Nat) : List Int := [byteAt a 0, byteAt a 1, byteAt a 2, byteAt a 3]
theorem le4_length (a : Nat) : (le4 a).length = 4 := rfl
theorem le4_byt (a : Nat) : Byt (le4 a) := by
  intro z hz
  simp only [le4, List.mem_cons, List.not_mem_nil, or_false] at hz
  rcases hz with rfl | rfl | rfl | rfl <;> exact byteAt_bd _ _

theorem xor_low {x y : Nat} (h : x < 256) : x ^^^ y * 2 ^ 8 = x + y * 256 := by
  rw [Nat.add_comm, show y * 256 = 2 ^ 8 * y from by omega, Nat.two_pow_add_eq_or_of_lt (i := 8) (by omega) y]
  apply Nat.eq_of_testBit_eq
  intro i
  rw [Nat.testBit_xor, Nat.testBit_or, Nat.testBit_two_pow_mul]
  by_cases hi : 8 ≤ i
  · simp [hi, Nat.testBit_lt_two_pow (Nat.lt_of_lt_of_le h (show 256 ≤ 2 ^ i from Nat.pow_le_pow_right (n := 2) (by omega) (by omega : 8 ≤ i)))]
  · simp [hi]

theorem num_le4 {a : Nat} (h : a < 4294967296) : num (le4 a) = a := by
  have e0 : (byteAt (a : Int) 0).toNat = a % 256 := by unfold byteAt; omega
  have e1 : (byteAt (a : Int) 1).toNat = a / 256 % 256 := by unfold byteAt; omega
  have e2 : (byteAt (a : Int) 2).toNat = a / 65536 % 256 := by unfold byteAt; omega
  have e3 : (byteAt (a : Int) 3).toNat = a / 16777216 % 256 := by unfold byteAt; omega
  simp only [le4, num, e0, e1, e2, e3]
  rw [Nat.zero_mul, Nat.xor_zero, xor_low (by omega), xor_low (by omega), xor_low (by omega)]
  omega

theorem num_inj : ∀ {l t : List Int}, Byt l → Byt t → l.length = t.length → num l = num t → l = t
  | [], [], _, _, _, _ => rfl
  | x :: l, y :: t, hl, ht, hn, e => by
    have hx := hl x List.mem_cons_self
    have hy := ht y List.mem_cons_self
    rw [num, num, xor_low (byte_lt hx), xor_low (byte_lt hy)] at e
    have hx' := byte_lt hx
    have hy' := byte_lt hy
    have e1 : x = y := by omega
    have e2 := num_inj (l := l) (t := t) (fun z hz => hl z (List.mem_cons_of_mem _ hz)) (fun z hz => ht z (List.mem_cons_of_mem _ hz)) (by simpa using hn) (by omega)
    rw [e1, e2]

theorem num_append : ∀ (l t : List Int), num (l ++ t) = num l ^^^ num t * 2 ^ (8 * l.length)
  | [], t => by simp [num]
  | z :: l, t => by
    rw [List.cons_append, num, num_append l t, num, List.length_cons, xmul, Nat.xor_assoc, Nat.mul_assoc, ← Nat.pow_add, show 8 * (l.length + 1) = 8 * l.length + 8 from by omega]

/-- One bit of one byte is turned. -/
theorem num_turn : ∀ (l : List Int) (j k : Nat), j < l.length → num (l.set j ((l[j]?.getD 0).toNat ^^^ 2 ^ k : Nat)) = num l ^^^ 2 ^ (8 * j + k)
  | [], j, k, h => by simp at h
  | z :: l, 0, k, _ => by
    simp only [List.set_cons_zero, List.getElem?_cons_zero, Option.getD_some, num, Int.toNat_natCast]
    rw [Nat.mul_zero, Nat.zero_add]
    ac_rfl
  | z :: l, j + 1, k, h => by
    simp only [List.set_cons_succ, List.getElem?_cons_succ, num]
    rw [num_turn l j k (by simpa using h), xmul, Nat.xor_assoc, ← Nat.pow_add, show 8 * (j + 1) + k = 8 * j + k + 8 from by omega]

def sealL (b : List Int) : List Int := b ++ le4 (crcN b)
def openB (d : List Int) : Bool := decide (4 ≤ d.length ∧ le4 (crcN (d.take (d.length - 4))) = d.drop (d.length - 4))

theorem open_seal (b : List Int) : openB (sealL b) = true := by
  have e : (sealL b).length - 4 = b.length := by simp [sealL, le4_length]
  unfold openB
  rw [e]
  simp [sealL, le4_length]

/-- Behind all bytes of what is opened the register is always the same. -/
theorem reg_open {d : List Int} (hd : Byt d) (h : openB d = true) : reg d = stps 32 4294967295 := by
  obtain ⟨h4, e⟩ := of_decide_eq_true h
  have hx : Byt (d.take (d.length - 4)) := fun z hz => hd z (List.mem_of_mem_take hz)
  have h1 : d = d.take (d.length - 4) ++ le4 (crcN (d.take (d.length - 4))) := by rw [e, List.take_append_drop]
  rw [h1, reg_append, regF_num, le4_length, num_le4 (crcN_lt _), crcN, not_sub (reg_lt hx)]
  have ac : ∀ a b : Nat, a ^^^ (b ^^^ a) = b := fun a b => by
    rw [Nat.xor_comm b, ← Nat.xor_assoc, Nat.xor_self, Nat.zero_xor]
  rw [ac]

theorem torn {b d : List Int} {at_ turn : Nat} (hb : Byt b) (hd : Byt d) (hl : d.length = b.length + 4) (hat : at_ ≤ 8 * b.length) (h0 : turn ≠ 0) (h1 : turn < 4294967296)
    (e : num d = num (sealL b) ^^^ turn * 2 ^ at_) : openB d = false := by
  rcases h : openB d with _ | _
  · rfl
  · exfalso
    have hs : Byt (sealL b) := by
      intro z hz
      rcases List.mem_append.1 hz with hz | hz
      · exact hb z hz
      · exact le4_byt _ z hz
    have r1 := reg_open hd h
    have r2 := reg_open hs (open_seal b)
    have ls : (sealL b).length = b.length + 4 := by simp [sealL, le4_length]
    rw [reg, regF_num, hl, e, ← Nat.xor_assoc, stps_xor] at r1
    rw [reg, regF_num, ls] at r2
    rw [r2] at r1
    have z : stps (8 * (b.length + 4)) (turn * 2 ^ at_) = 0 := by
      have := congrArg (stps 32 4294967295 ^^^ ·) r1
      simp only [← Nat.xor_assoc, Nat.xor_self, Nat.zero_xor] at this
      exact this
    rw [show 8 * (b.length + 4) = at_ + (8 * (b.length + 4) - at_) from by omega, stps_add, stps_mul] at z
    exact stps_ne _ h1 h0 z

/-- Turning the bits of the lower i ones of 'turn', one by one. -/
theorem low_bits (turn i : Nat) : turn % 2 ^ (i + 1) = turn % 2 ^ i ^^^ (if turn / 2 ^ i % 2 = 1 then 2 ^ i else 0) := by
  apply Nat.eq_of_testBit_eq
  intro j
  rw [Nat.testBit_xor, Nat.testBit_mod_two_pow, Nat.testBit_mod_two_pow]
  have hb : turn.testBit i = decide (turn / 2 ^ i % 2 = 1) := by
    rw [Nat.testBit_eq_decide_div_mod_eq]
  by_cases hj : j = i
  · subst hj
    by_cases h : turn / 2 ^ j % 2 = 1
    · simp [h, hb]
    · simp [h, hb]
  · have e : decide (j < i + 1) = decide (j < i) := by
      by_cases h : j < i
      · simp [h, show j < i + 1 from by omega]
      · simp [h, show ¬ j < i + 1 from by omega]
    rw [e]
    by_cases h : turn / 2 ^ i % 2 = 1
    · rw [if_pos h, Nat.testBit_two_pow, decide_eq_false (p := i = j) (fun h => hj h.symm), Bool.xor_false]
    · rw [if_neg h, Nat.zero_testBit, Bool.xor_false]
end Go.Proofs.Ytoaaailgfdcflaa
