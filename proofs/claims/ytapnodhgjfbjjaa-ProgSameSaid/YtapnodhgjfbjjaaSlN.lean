/- slices.IndexFunc at nodes, whatever function is handed in. Conditions: what is handed in computes. -/
import Derived.Test.YtapnodhgjfbjjaaPgG
import Derived.Shelf.Abstract
namespace Go.Proofs.Ytapnodhgjfbjjaa
open Go.RowKit Go.Sort
set_option linter.unusedVariables false
set_option linter.unusedSimpArgs false

/-- What a function value that is handed in tells of each node of a list. -/
def PredNd (g : Nat) (lb : Array Value) (f : Nd → Bool) (l : List Nd) (w : World) : Prop :=
  ∀ x, x ∈ l → ∀ (A1 : Option Addr) (c1 : Nat) (A2 : Option Addr) (c2 : Nat) (A3 : Option Addr) (c3 : Nat) (A4 : Option Addr) (c4 : Nat) (W : World), Below w.heap.size w W → rdN W x A1 A2 A3 A4 →
    Calls Try.prog g (#[.agg (ndA x A1 c1 A2 c2 A3 c3 A4 c4)] ++ lb) W fun e w' => e = .returned (.bool (f x)) ∧ Below W.heap.size W w'
theorem mem_at {α : Type} [Inhabited α] {l : List α} {k : Nat} (h : k < l.length) : l[k]?.getD default ∈ l := by
  rw [List.getElem?_eq_getElem h]
  exact List.getElem_mem _
/-- A node's cells at a place, one by one. -/
theorem nd_five {w : World} {b o : Nat} {x : Nd} (h : NdAt w b o x) : ∃ A1 c1 A2 c2 A3 c3 A4 c4, rdN w x A1 A2 A3 A4 ∧
    w.cell? ⟨b, o, none⟩ = some (.string x.nm) ∧ w.cell? ⟨b, o + 1, none⟩ = some (.slice A1 x.ins.length c1) ∧ w.cell? ⟨b, o + 2, none⟩ = some (.slice A2 x.outs.length c2) ∧ w.cell? ⟨b, o + 3, none⟩ = some (.slice A3 x.vars.length c3) ∧ w.cell? ⟨b, o + 4, none⟩ = some (.slice A4 x.eqs.length c4) := by
  obtain ⟨A1, c1, A2, c2, A3, c3, A4, c4, h1, h2⟩ := h
  obtain ⟨d0, d1, d2, d3, d4⟩ := ndL_five h1
  exact ⟨A1, c1, A2, c2, A3, c3, A4, c4, h2, d0, d1, d2, d3, d4⟩
theorem nd_cells {w w' : World} {b o : Nat} {x : Nd} (h : NdAt w b o x) (hb : b < w.heap.size) (hw : Below w.heap.size w w') : NdAt w' b o x := keeps_nd h hb hw.size fun p hp => hw.cell hp

set_option maxRecDepth 100000 in
set_option maxHeartbeats 2000000 in
theorem slIndexNd (g : Nat) (lb : Array Value) (eg : ∀ args w, (callFunc g args).run Try.prog w = .ok (.enter g args) w) (f : Nd → Bool) (A : Option Addr) (n c : Nat) (l : List Nd) (w : World) (h : RdNs w A n l) (hf : PredNd g lb f l w) :
    Calls Try.prog 19 #[.slice A n c, .func (.func g) #[] lb] w fun e w' => e = .returned (.int .i64 (findI f l 0)) ∧ Below w.heap.size w w' := by
  have HR := Lib.hid h
  have HP := Lib.hid hf
  have hln := RdS.len h
  have hmx := RdS.max h
  have HHIT := Lib.hid (fun (k : Nat) hk hn hy => show findI f l 0 = (k : Int) by have := findI_hit (l := l) (f := f) (k := k) (i := 0) hk hn hy; rwa [Nat.zero_add] at this)
  have HNO := Lib.hid (fun hn => show findI f l 0 = -1 from findI_none (l := l) (f := f) (i := 0) hn)
  generalize findI f l 0 = out at *
  have HLN := Lib.hid hln
  clear h hf hln
  go_enter Try.func19, Try.ntmps19
  go_wp2_with fail
  go_loopw [5, 8] (fun _ i wr => ∃ k : Nat, k ≤ n ∧ i = .int .i64 k ∧ (∀ j, j < k → f (l[j]?.getD default) = false) ∧ Below w.heap.size w wr) (fun _ i _ => n - (intOf i).toNat)
  case atStart => exact ⟨0, Nat.zero_le _, rfl, fun j hj => absurd hj (by omega), Below.refl _ _⟩
  case round =>
    obtain ⟨k, hk, rfl, hto, hnx⟩ := hrel
    have HT := Lib.hid hto
    have HNX := Lib.hid hnx
    clear hto
    by_cases hlt : k < n
    · obtain ⟨b, off, rfl, hb, hc⟩ := RdS.at_ HR.out (by omega)
      obtain ⟨A1, c1, A2, c2, A3, c3, A4, c4, hrd, d0, d1, d2, d3, d4⟩ := nd_five (nd_cells (hc k hlt) hb hnx)
      have HCL := Lib.hid (HP.out _ (mem_at (by rw [HLN.out]; exact hlt)) A1 c1 A2 c2 A3 c3 A4 c4 wr hnx hrd)
      have HH := Lib.hid (HHIT.out k (by rw [HLN.out]; exact hlt) HT.out)
      have HS := Lib.hid fun (hf : f (l[k]?.getD default) = false) => to_next (P := fun j => f (l[j]?.getD default) = false) HT.out hf
      clear hc hrd hnx
      unfold ndA at HCL
      generalize l[k]?.getD default = x at d0 d1 d2 d3 d4 HCL HH HS
      cases hq : f x with
      | true =>
        have HO := Lib.hid (HH.out hq)
        rw [hq] at HCL
        go_wp2_with (go_at_fn g; refine HCL.out.mono ?_; rintro e w3 ⟨rfl, hb3⟩)
        go_ret
        exact ⟨ret_int HO.out.symm, HNX.out.trans (hb3.mono HNX.out.size)⟩
      | false =>
        have HO := Lib.hid (HS.out hq)
        rw [hq] at HCL
        go_wp2_with (go_at_fn g; refine HCL.out.mono ?_; rintro e w3 ⟨rfl, hb3⟩; have HB3 := Lib.hid (HNX.out.trans (hb3.mono HNX.out.size)); clear hb3)
        go_roundw
        case rel => exact ⟨k + 1, by omega, by go_num, HO.out, HB3.out⟩
        case measure => simp [intOf]; omega
    · have hkn : k = n := by omega
      have HN := Lib.hid (HNO.out fun j hj => HT.out j (by rw [HLN.out] at hj; omega))
      go_wp2_with fail
      go_ret
      exact ⟨ret_int HN.out.symm, HNX.out⟩
end Go.Proofs.Ytapnodhgjfbjjaa
