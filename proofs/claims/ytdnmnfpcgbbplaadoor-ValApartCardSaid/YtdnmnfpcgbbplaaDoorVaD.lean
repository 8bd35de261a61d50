/- What tells the cells of a type as texts: of both texts. Conditions: the powers of ten lie as laid. -/
import Derived.Test.YtdnmnfpcgbbplaaDoorVaC
namespace Go.Proofs.YtdnmnfpcgbbplaaDoor
open Go.RowKit
set_option linter.unusedVariables false

set_option maxHeartbeats 1000000 in
theorem tell1 (es : List En) (e z : Int) (h0 : -9223372036854775808 ≤ z) (h1 : z ≤ 9223372036854775807) (w : World) (ht : Tab w) :
    Calls Tryd.prog 32 #[.int .i64 z] w fun r w' => r = .returned (.string (cellT es 1 e z)) ∧ Below w.heap.size w w' := by
  have HI := Lib.hid (libInt z h0 h1 w ht)
  clear ht
  go_enter Tryd.func32, Tryd.ntmps32
  go_wp2_with fail
  refine HI.out.mono ?_
  rintro r w1 ⟨rfl, hb1⟩
  have HB1 := Lib.hid hb1
  clear hb1
  go_wp2_with fail
  go_ret
  exact ⟨rfl, HB1.out⟩

set_option maxHeartbeats 1000000 in
theorem tell2 (es : List En) (e z : Int) (w : World) :
    Calls Tryd.prog 34 #[.int .i64 z] w fun r w' => r = .returned (.string (cellT es 2 e z)) ∧ w = w' := by
  have HL := Lib.hid fun (b : Bool) (W : World) => libBool b W
  have HT := Lib.hid (bool_text (es := es) (e := e) z)
  by_cases hz : z = 1
  · have hzb : (z == 1) = true := by simpa using hz
    rw [hzb] at HT
    subst hz
    go_enter Tryd.func34, Tryd.ntmps34
    go_wp2_with fail
    refine (HL.out _ _).mono ?_
    rintro r w1 ⟨rfl, rfl⟩
    go_wp2_with fail
    go_ret
    exact ⟨ret_str HT.out, rfl⟩
  · have hzb : (z == 1) = false := by simpa using hz
    rw [hzb] at HT
    go_enter Tryd.func34, Tryd.ntmps34
    go_wp2_with fail
    refine (HL.out _ _).mono ?_
    rintro r w1 ⟨rfl, rfl⟩
    go_wp2_with fail
    go_ret
    exact ⟨ret_str HT.out, rfl⟩

theorem rdT_cell {w : World} {A : Option Addr} {n : Nat} {ss : List ByteArray} (h : RdT w A n ss) {j : Nat} (hj : j < n) : ∃ b off, A = some ⟨b, off, none⟩ ∧ b < w.heap.size ∧ w.cell? ⟨b, off + j, none⟩ = some (.string (ss[j]?.getD ByteArray.empty)) := by
  obtain ⟨b, off, e, hb, hc⟩ := h.at_ hj
  exact ⟨b, off, e, hb, hc j hj⟩

set_option maxHeartbeats 1000000 in
theorem tell3 (B : Nat) (A' : Option Addr) (n' c' : Nat) (ss : List ByteArray) (q : Nat) (w : World) (hc : w.cell? ⟨B, 0, none⟩ = some (.slice A' n' c')) (hR : RdT w A' n' ss) (hq : q < n') :
    Calls Tryd.prog 36 #[.int .i64 (q : Int), .pointer (some ⟨B, 0, none⟩)] w fun r w' => r = .returned (.string (ss[q]?.getD ByteArray.empty)) ∧ w = w' := by
  have hmx := hR.max
  obtain ⟨b, off, rfl, hb, hcell⟩ := rdT_cell hR hq
  generalize ss[q]?.getD ByteArray.empty = x at hcell
  go_enter Tryd.func36, Tryd.ntmps36
  go_wp2_with fail
  go_ret
  exact ⟨rfl, rfl⟩

set_option maxRecDepth 100000 in
set_option maxHeartbeats 2000000 in
theorem teller1 (A : Option Addr) (n c : Nat) (e l : Int) (w : World) :
    Calls Tryd.prog 26 #[.slice A n c, tyV 1 e l] w fun r w' => r = .returned (.func (.func 32) #[] #[]) ∧ Below w.heap.size w w' := by
  unfold tyV
  have HB := Lib.hid ((Below.refl w.heap.size w).alloc (Nat.le_refl _) (.cells #[.int .i64 1, .int .i64 e, .int .i64 l] 24))
  go_enter Tryd.func26, Tryd.ntmps26
  go_wp2_with fail
  go_ret
  exact ⟨rfl, HB.out⟩

set_option maxRecDepth 100000 in
set_option maxHeartbeats 2000000 in
theorem teller2 (A : Option Addr) (n c : Nat) (e l : Int) (w : World) :
    Calls Tryd.prog 26 #[.slice A n c, tyV 2 e l] w fun r w' => r = .returned (.func (.func 34) #[] #[]) ∧ Below w.heap.size w w' := by
  unfold tyV
  have HB := Lib.hid ((Below.refl w.heap.size w).alloc (Nat.le_refl _) (.cells #[.int .i64 2, .int .i64 e, .int .i64 l] 24))
  go_enter Tryd.func26, Tryd.ntmps26
  go_wp2_with fail
  go_ret
  exact ⟨rfl, HB.out⟩

/-- What tells an enum's cells: a closure over a new block, in which its constructors lie. -/
def TellPost (es : List En) (m : Nat) (w : World) (r : Ending) (w' : World) : Prop :=
  ∃ B A' n' c', r = .returned (.func (.func 36) #[] #[.pointer (some ⟨B, 0, none⟩)]) ∧ w.heap.size ≤ B ∧ B < w'.heap.size ∧ w'.cell? ⟨B, 0, none⟩ = some (.slice A' n' c') ∧ RdT w' A' n' (csE es m) ∧ Below w.heap.size w w'

theorem tell_made {es : List En} {m : Nat} {w : World} {A' : Option Addr} {n' c' : Nat} (hR : RdT w A' n' (csE es m)) (o : Obj) (T : TypeId) :
    TellPost es m w (.returned (.func (.func 36) #[] #[.pointer (some ⟨w.heap.size + 1, 0, none⟩)])) ((w.alloc o).alloc (.cells #[.slice A' n' c'] T)) :=
  ⟨w.heap.size + 1, A', n', c', rfl, by omega, by simp, by simp [go_sem], (hR.alloc o).alloc _, ((Below.refl _ w).alloc (Nat.le_refl _) o).alloc (by simp) _⟩

set_option maxRecDepth 100000 in
set_option maxHeartbeats 2000000 in
theorem teller3 (A : Option Addr) (n c : Nat) (es : List En) (m : Nat) (l : Int) (w : World) (hE : RdE w A n es) (hm : m < n) :
    Calls Tryd.prog 26 #[.slice A n c, tyV 3 (m : Int) l] w (TellPost es m w) := by
  unfold tyV
  have hmk : ∀ (fn : Fn) (first cap : Array Value) (w : World), (Instr.makeFunc fn first cap).run Tryd.prog w = .ok (.func fn first cap) w := fun _ _ _ _ => rfl
  have HB := Lib.hid ((Below.refl w.heap.size w).alloc (Nat.le_refl _) (.cells #[.int .i64 3, .int .i64 (m : Int), .int .i64 l] 24))
  have HE := Lib.hid hE
  have hmx := hE.max
  obtain ⟨b, off, rfl, hb, hc⟩ := hE.at_ hm
  obtain ⟨_, A', n', c', hs0, hR0⟩ := hc m hm
  have hs1 := (HB.out.cell (p := ⟨b, off + m * 2 + 1, none⟩) hb).trans hs0
  have HR := Lib.hid hR0
  clear hc hR0 hE
  go_enter Tryd.func26, Tryd.ntmps26
  go_wp2_with fail
  go_ret
  exact tell_made HR.out _ _

theorem one_cases {es : List En} {k e l z : Int} (h : oneB es k e l z = true) : (k = 1 ∨ (k = 2 ∧ (z = 0 ∨ z = 1)) ∨ (k = 3 ∧ ∃ m q : Nat, e = m ∧ m < es.length ∧ z = q ∧ q < (csE es m).length)) := by
  have hr := one_right h
  obtain ⟨_, hk⟩ := right_cases hr
  rcases hk with rfl | rfl | ⟨rfl, m, rfl, hm⟩
  · exact .inl rfl
  · rw [one_bool hr] at h
    exact .inr (.inl ⟨rfl, of_decide_eq_true h⟩)
  · rw [one_enum hr] at h
    have := of_decide_eq_true h
    exact .inr (.inr ⟨rfl, m, z.toNat, rfl, hm, by omega, by omega⟩)

set_option maxRecDepth 100000 in
set_option maxHeartbeats 2000000 in
theorem refCell (A : Option Addr) (n c : Nat) (es : List En) (k e l z : Int) (w : World) (hE : RdE w A n es) (hone : oneB es k e l z = true) (h0 : -9223372036854775808 ≤ z) (h1 : z ≤ 9223372036854775807) :
    Calls Tryd.prog 28 #[.slice A n c, tyV k e l, .int .i64 z] w fun r w' => r = .returned (.string (cellT es k e z)) ∧ Below w.heap.size w w' := by
  have HB := Lib.hid ((Below.refl w.heap.size w).alloc (Nat.le_refl _) (.cells #[.int .i64 k, .int .i64 e, .int .i64 l] 24))
  have hmx := hE.max
  have hlen := hE.len
  have HE := Lib.hid hE
  unfold tyV
  clear hE
  rcases one_cases hone with rfl | ⟨rfl, rfl | rfl⟩ | ⟨rfl, m, q, rfl, hm, rfl, hq⟩
  · have HI := Lib.hid fun (W : World) => refDigits z h0 h1 W
    clear hone
    go_enter Tryd.func28, Tryd.ntmps28
    go_wp2_with fail
    refine (HI.out _).mono ?_
    rintro r w1 ⟨rfl, hb1⟩
    have HB1 := Lib.hid (HB.out.trans (hb1.mono HB.out.size))
    clear hb1
    go_wp2_with fail
    go_ret
    exact ⟨rfl, HB1.out⟩
  · clear hone
    go_enter Tryd.func28, Tryd.ntmps28
    go_wp2_with fail
    go_ret
    exact ⟨rfl, HB.out⟩
  · clear hone
    go_enter Tryd.func28, Tryd.ntmps28
    go_wp2_with fail
    go_ret
    exact ⟨rfl, HB.out⟩
  · clear hone
    have hmn : m < n := by omega
    obtain ⟨b, off, rfl, hb, hc⟩ := HE.out.at_ hmn
    obtain ⟨_, A', n', c', hs0, hR0⟩ := hc m hmn
    have hcl := hR0.len
    have hcm := hR0.max
    have hqn : q < n' := by omega
    obtain ⟨b', off', rfl, hb', hc'⟩ := rdT_cell hR0 hqn
    have HX := Lib.hid (cellT_ctor (es := es) (m := m) (q := q))
    rw [show (csE es m)[q]?.getD ByteArray.empty = ctAt es m q from rfl] at hc'
    generalize ctAt es m q = x at hc' HX
    have hs1 := (HB.out.cell (p := ⟨b, off + m * 2 + 1, none⟩) hb).trans hs0
    have hs2 := (HB.out.cell (p := ⟨b', off' + q, none⟩) hb').trans hc'
    clear hc hR0
    go_enter Tryd.func28, Tryd.ntmps28
    go_wp2_with fail
    go_ret
    exact ⟨ret_str HX.out.symm, HB.out⟩
end Go.Proofs.YtdnmnfpcgbbplaaDoor
