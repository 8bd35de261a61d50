/- Where a node is: of the document's text. Conditions: none. -/
import Derived.Test.YtapnodhgjfbjjaaPgF1
namespace Go.Proofs.Ytapnodhgjfbjjaa
open Go.RowKit Go.Sort
set_option linter.unusedVariables false
set_option linter.unusedSimpArgs false

/-- A program's two cells. -/
def pgA (p : Pg) (E : Option Addr) (ec : Nat) (N : Option Addr) (nc : Nat) : Array Value := #[.slice E p.es.length ec, .slice N p.ns.length nc]
def rdP (w : World) (p : Pg) (E N : Option Addr) : Prop := RdE w E p.es.length p.es ∧ RdNs w N p.ns.length p.ns
theorem rdP.below {w w' : World} {p : Pg} {E N : Option Addr} (h : rdP w p E N) (hb : Below w.heap.size w w') : rdP w' p E N := ⟨h.1.below hb, h.2.below hb⟩
theorem pg_facts (w : World) (p : Pg) (E : Option Addr) (ec : Nat) (N : Option Addr) (nc : Nat) (w1 : World) (h : w.alloc (.cells (pgA p E ec N nc) 25) = w1) (hr : rdP w p E N) :
    Below w.heap.size w w1 ∧ w1.heap.size = w.heap.size + 1 ∧ rdP w1 p E N ∧ ∀ w', Below w1.heap.size w1 w' → ∀ j, w'.cell? ⟨w.heap.size, j, none⟩ = (pgA p E ec N nc)[j]? := by
  subst h
  have hb := (Below.refl w.heap.size w).alloc (Nat.le_refl _) (.cells (pgA p E ec N nc) 25)
  refine ⟨hb, by simp, hr.below hb, fun w' hb j => ?_⟩
  rw [hb.cell (p := ⟨w.heap.size, j, none⟩) (by simp), World.cell?_alloc_new]

theorem findI_hit {α : Type} [Inhabited α] {f : α → Bool} : ∀ {l : List α} {k i : Nat}, k < l.length → (∀ j, j < k → f (l[j]?.getD default) = false) → f (l[k]?.getD default) = true → findI f l i = ((i + k : Nat) : Int)
  | [], k, i, h, _, _ => by simp at h
  | a :: l, 0, i, _, _, h => by
    have h : f a = true := by simpa using h
    simp [findI, h]
  | a :: l, k + 1, i, hk, hn, h => by
    have h0 : f a = false := by simpa using hn 0 (by omega)
    rw [findI, h0, if_neg (by simp), findI_hit (k := k) (by simpa using hk) (fun j hj => by simpa using hn (j + 1) (by omega)) (by simpa using h)]
    congr 1
    omega
theorem findI_none {α : Type} [Inhabited α] {f : α → Bool} : ∀ {l : List α} {i : Nat}, (∀ j, j < l.length → f (l[j]?.getD default) = false) → findI f l i = -1
  | [], i, _ => rfl
  | a :: l, i, hn => by
    have h0 : f a = false := by simpa using hn 0 (by simp)
    rw [findI, h0, if_neg (by simp)]
    exact findI_none fun j hj => by simpa using hn (j + 1) (by simpa using hj)
theorem to_next {P : Nat → Prop} {k : Nat} (h : ∀ j, j < k → P j) (hk : P k) : ∀ j, j < k + 1 → P j := fun j hj => by
  rcases Nat.lt_or_ge j k with h1 | h1
  · exact h j h1
  · obtain rfl : j = k := by omega
    exact hk

set_option maxRecDepth 100000 in
set_option maxHeartbeats 4000000 in
theorem refFind (p : Pg) (E : Option Addr) (ec : Nat) (N : Option Addr) (nc : Nat) (s : ByteArray) (w : World) (h : rdP w p E N) :
    Calls Try.prog 9 #[.agg (pgA p E ec N nc), .string s] w fun e w' => e = .returned (.int .i64 (findN p s)) ∧ Below w.heap.size w w' := by
  have HF := Lib.hid fun w1 hw => pg_facts w p E ec N nc w1 hw h
  have hmx := RdS.max h.2
  have HHIT := Lib.hid (fun (k : Nat) hk hn hy => show findN p s = (k : Int) by have := findI_hit (l := p.ns) (f := fun n : Nd => n.nm.data.toList == s.data.toList) (k := k) (i := 0) hk hn hy; rwa [Nat.zero_add] at this)
  have HNO := Lib.hid (fun hn => show findN p s = -1 from findI_none (l := p.ns) (f := fun n : Nd => n.nm.data.toList == s.data.toList) (i := 0) hn)
  unfold pgA
  generalize findN p s = out at *
  go_enter Try.func9, Try.ntmps9
  go_upto_region 1 with (fail)
  generalize hw1 : w.alloc _ = w1
  obtain ⟨hb1, hg, hR1, hcell⟩ := HF.out w1 hw1
  have HB1 := Lib.hid hb1
  have q1 := hcell w1 (Below.refl _ _) 1
  simp only [pgA, List.getElem?_toArray, List.getElem?_cons_zero, List.getElem?_cons_succ] at q1
  have HR := Lib.hid (show RdS 5 NdAt w1 N p.ns.length p.ns from hR1.2)
  clear hw1 hcell hb1 HF h hR1
  generalize p.es.length = ne at *
  generalize hns : p.ns = ns at *
  generalize hnl : ns.length = n at *
  clear hns hnl
  go_wp2_with fail
  go_loop [5] (fun i => ∃ k : Nat, k ≤ n ∧ i = .int .i64 k ∧ ∀ j, j < k → ((ns[j]?.getD default).nm.data.toList == s.data.toList) = false) (fun i => n - (intOf i).toNat)
  case atStart => exact ⟨0, Nat.zero_le _, rfl, fun j hj => absurd hj (by omega)⟩
  case round =>
    obtain ⟨k, hk, rfl, hto⟩ := hrel
    have HT := Lib.hid hto
    clear hto
    by_cases hlt : k < n
    · obtain ⟨b, off, rfl, hb, hc⟩ := RdS.at_ HR.out (by omega)
      obtain ⟨A1, c1, A2, c2, A3, c3, A4, c4, hra, -⟩ := hc k hlt
      obtain ⟨d0, -⟩ := ndL_five hra
      clear hc hra
      have HH := Lib.hid (HHIT.out k hlt HT.out)
      have HS := Lib.hid fun (hf : ((ns[k]?.getD default).nm.data.toList == s.data.toList) = false) => to_next (P := fun j => ((ns[j]?.getD default).nm.data.toList == s.data.toList) = false) HT.out hf
      generalize (ns[k]?.getD default).nm = x at d0 HH HS
      cases h1 : (x.toList == s.toList) with
      | true =>
        have HH2 := Lib.hid (HH.out (by rw [← Lib.toList_data, ← Lib.toList_data]; exact h1))
        go_wp2_with fail
        go_ret
        exact ⟨ret_int HH2.out.symm, HB1.out⟩
      | false =>
        have HS2 := Lib.hid (HS.out (by rw [← Lib.toList_data, ← Lib.toList_data]; exact h1))
        go_wp2_with fail
        go_round
        case rel => exact ⟨k + 1, by omega, by go_num, HS2.out⟩
        case measure => simp [intOf]; omega
    · obtain rfl : k = n := by omega
      have HN := Lib.hid (HNO.out HT.out)
      go_wp2_with fail
      go_ret
      exact ⟨ret_int HN.out.symm, HB1.out⟩
end Go.Proofs.Ytapnodhgjfbjjaa
