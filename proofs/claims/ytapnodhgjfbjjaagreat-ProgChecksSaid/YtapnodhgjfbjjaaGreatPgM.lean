/- Programs, and what is told of them, as plain functions. Conditions: none. -/
import Derived.Test.YtapnodhgjfbjjaaGreatExM
import Derived.Test.YtapnodhgjfbjjaaGreatTyE
namespace Go.Proofs.YtapnodhgjfbjjaaGreat
set_option linter.unusedVariables false
set_option linter.unusedSimpArgs false

/-- A variable: name, type (kind, enum, length), the variable and the arm that it is on. -/
structure Dc where
  nm : ByteArray
  k : Int
  e : Int
  l : Int
  on : ByteArray
  ct : ByteArray
instance : Inhabited Dc := ⟨⟨⟨#[]⟩, 0, 0, 0, ⟨#[]⟩, ⟨#[]⟩⟩⟩
/-- An equation. -/
structure Qn where
  ns : List ByteArray
  x : Ex
instance : Inhabited Qn := ⟨⟨[], default⟩⟩
/-- A node. -/
structure Nd where
  nm : ByteArray
  ins : List Dc
  outs : List Dc
  vars : List Dc
  eqs : List Qn
instance : Inhabited Nd := ⟨⟨ByteArray.empty, [], [], [], []⟩⟩
/-- A program. -/
structure Pg where
  es : List En
  ns : List Nd

def Nd.all (n : Nd) : List Dc := n.ins ++ n.outs ++ n.vars
def namesD (l : List Dc) : List ByteArray := l.map Dc.nm
def strB (s : ByteArray) : List UInt8 := s.data.toList
def trueS : List UInt8 := [116, 114, 117, 101]
def falseS : List UInt8 := [102, 97, 108, 115, 101]
/-- Is a text an arm? -/
def armT (s : ByteArray) : Bool := highB s.data.toList || (s.data.toList == trueS) || (s.data.toList == falseS)
/-- Is a text none? -/
def noB (s : ByteArray) : Bool := s.data.toList == []
def declB (n : Nat) (rt : Nat → Int → Int → Int → Bool) (d : Dc) : Bool :=
  lowB d.nm.data.toList && rt n d.k d.e d.l && ((noB d.on && noB d.ct) || (lowB d.on.data.toList && armT d.ct))
def eqB (rx : Ex → Bool) (q : Qn) : Bool :=
  q.ns.all (fun s => lowB s.data.toList) && decide (0 < q.ns.length) && rx q.x && (decide (q.ns.length = 1) || q.x.k == 13)
def portsB (n : Nd) : Bool := (n.ins ++ n.outs).all fun d => noB d.on
def nodeB (es : Nat) (rt : Nat → Int → Int → Int → Bool) (rx : Ex → Bool) (n : Nd) : Bool :=
  n.all.all (declB es rt) && portsB n && n.eqs.all (eqB rx) && lowB n.nm.data.toList && decide (0 < n.outs.length)
def manyN (n : Nd) : Bool := decide (6 < n.ins.length) || decide (6 < n.outs.length) || decide (12 < n.vars.length) || decide (18 < n.eqs.length)

def eqD (a b : Dc) : Bool := (a.nm.data.toList == b.nm.data.toList) && (a.k == b.k) && (a.e == b.e) && (a.l == b.l) && (a.on.data.toList == b.on.data.toList) && (a.ct.data.toList == b.ct.data.toList)
/-- Two lists, item by item. -/
def sameL {α : Type} (f : α → α → Bool) : List α → List α → Bool
  | [], [] => true
  | a :: l, b :: m => f a b && sameL f l m
  | _, _ => false
theorem sameL_len {α : Type} {f : α → α → Bool} : ∀ {l m : List α}, l.length ≠ m.length → sameL f l m = false
  | [], [], h => absurd rfl h
  | [], b :: m, _ => rfl
  | a :: l, [], _ => rfl
  | a :: l, b :: m, h => by
    simp only [sameL]
    rw [sameL_len (l := l) (m := m) (by simpa using h)]
    simp
theorem sameL_yes {α : Type} [Inhabited α] {f : α → α → Bool} : ∀ {l m : List α}, l.length = m.length → (∀ i, i < l.length → f (l[i]?.getD default) (m[i]?.getD default) = true) → sameL f l m = true
  | [], [], _, _ => rfl
  | [], b :: m, h, _ => by simp at h
  | a :: l, [], h, _ => by simp at h
  | a :: l, b :: m, h, hi => by
    simp only [sameL, Bool.and_eq_true]
    refine ⟨by simpa using hi 0 (by simp), sameL_yes (by simpa using h) fun i hl => ?_⟩
    simpa using hi (i + 1) (by simpa using hl)
theorem sameL_no {α : Type} [Inhabited α] {f : α → α → Bool} : ∀ {l m : List α} {i : Nat}, i < l.length → l.length = m.length → f (l[i]?.getD default) (m[i]?.getD default) = false → sameL f l m = false
  | [], m, i, h, _, _ => by simp at h
  | a :: l, [], i, _, h, _ => by simp at h
  | a :: l, b :: m, i, hi, hl, hf => by
    simp only [sameL, Bool.and_eq_false_iff]
    cases i with
    | zero => left; simpa using hf
    | succ i =>
      right
      exact sameL_no (i := i) (by simpa using hi) (by simpa using hl) (by simpa using hf)
theorem sameL_refl {α : Type} {f : α → α → Bool} : ∀ {l : List α}, (∀ x ∈ l, f x x = true) → sameL f l l = true
  | [], _ => rfl
  | a :: l, h => by
    simp only [sameL, Bool.and_eq_true]
    exact ⟨h a (by simp), sameL_refl fun x hx => h x (by simp [hx])⟩
/-- The first place of one. -/
def findI {α : Type} (f : α → Bool) : List α → Nat → Int
  | [], _ => -1
  | a :: l, i => if f a then (i : Int) else findI f l (i + 1)
def findN (p : Pg) (s : ByteArray) : Int := findI (fun n => n.nm.data.toList == s.data.toList) p.ns 0
def declO (n : Nd) (s : ByteArray) : Option Dc := n.all.find? fun d => d.nm.data.toList == s.data.toList
/-- A clock's row, with fuel. -/
def clockR (n : Nd) : Nat → ByteArray → List Dc → Option (List Dc)
  | 0, _, _ => none
  | k + 1, s, acc => match declO n s with
    | none => none
    | some d => if noB d.on then some acc else clockR n k d.on (d :: acc)
def clockO (n : Nd) (s : ByteArray) : Option (List Dc) := clockR n 13 s []

theorem all_len (n : Nd) : n.all.length = n.ins.length + n.outs.length + n.vars.length := by simp [Nd.all]; omega
end Go.Proofs.YtapnodhgjfbjjaaGreat
