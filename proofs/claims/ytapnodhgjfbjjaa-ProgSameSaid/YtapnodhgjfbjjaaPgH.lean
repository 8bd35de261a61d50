/- A variable of a name: of the document's text. Conditions: at most 1000 variables. -/
import Derived.Test.YtapnodhgjfbjjaaPgG
import Derived.Sort.Grow
import Derived.Laws.ResultCell
import Derived.Laws.Rows
import Derived.Laws.Tables
import Derived.Laws.CopyOwn
namespace Go.Proofs.Ytapnodhgjfbjjaa
open Go.RowKit Go.Sort
set_option linter.unusedVariables false
set_option linter.unusedSimpArgs false

/-- A variable's cells, in block g. -/
def RowD (w : World) (g : Nat) (d : Dc) : Prop := w.heap[g]? = some (Obj.cells (dcA d) 32)
theorem dcinfo : (Try.prog.info? 32).map (·.size) = some 6 := by kernel_rfl
theorem dcinfo' (d : Dc) : (Try.prog.info? 32).map (·.size) = some (dcA d).size := dcinfo
theorem res_dc2 {fn : Func} {p u : Tmp} (h : fn.results = #[.cell p 32, .tmp u]) (tmps : Array Value) (w : World) (g : Nat) {d : Dc}
    (hp : tmps.getD p undef = .pointer (some ⟨g, 0, none⟩)) (hg : RowD w g d) : (results fn tmps).run Try.prog w = .ok (.tuple #[.agg (dcA d), tmps.getD u undef]) w := by
  rw [results_cell_tmp h, hp]
  have hl := run_loadVar_row (P := Try.prog) w g 32 32 _ _ _ hg Try.underlying32 rfl (dcinfo' d)
  simp [asAddr, Result.andThen, hl]
theorem RowD.below {w w' : World} {g : Nat} {d : Dc} (h : RowD w g d) (hb : Below w.heap.size w w') : RowD w' g d := by
  have hl : g < w.heap.size := (Array.getElem?_eq_some_iff.1 h).1
  exact (hb.block g hl).trans h
theorem RowD.set {w : World} {g : Nat} {d : Dc} (h : RowD w g d) (d' : Dc) : RowD (w.setRow g (dcA d')) g d' := setRow_heap _ _ _ _ _ _ h

theorem find_hit {α : Type} [Inhabited α] {f : α → Bool} : ∀ {l : List α} {k : Nat}, k < l.length → (∀ j, j < k → f (l[j]?.getD default) = false) → f (l[k]?.getD default) = true → l.find? f = some (l[k]?.getD default)
  | [], k, h, _, _ => by simp at h
  | a :: l, 0, _, _, h => by
    have h : f a = true := by simpa using h
    simp [List.find?, h]
  | a :: l, k + 1, hk, hn, h => by
    have h0 : f a = false := by simpa using hn 0 (by omega)
    rw [List.find?_cons_of_neg (by simp [h0]), find_hit (k := k) (by simpa using hk) (fun j hj => by simpa using hn (j + 1) (by omega)) (by simpa using h)]
    simp
theorem find_none {α : Type} [Inhabited α] {f : α → Bool} {l : List α} (hn : ∀ j, j < l.length → f (l[j]?.getD default) = false) : l.find? f = none := by
  rw [List.find?_eq_none]
  intro a ha
  obtain ⟨j, hj, rfl⟩ := List.getElem_of_mem ha
  have := hn j hj
  rw [List.getElem?_eq_getElem hj] at this
  simpa using this
/-- What Decl tells. -/
def declV (o : Option Dc) : Value := .tuple #[.agg (dcA (o.getD default)), .bool o.isSome]
def DeclPost (w : World) (o : Option Dc) (e : Ending) (w' : World) : Prop := e = .returned (declV o) ∧ Below w.heap.size w w'

set_option maxRecDepth 100000 in
set_option maxHeartbeats 4000000 in
theorem refDeclN (x : Nd) (A1 : Option Addr) (c1 : Nat) (A2 : Option Addr) (c2 : Nat) (A3 : Option Addr) (c3 : Nat) (A4 : Option Addr) (c4 : Nat) (s : ByteArray) (w : World) (h : rdN w x A1 A2 A3 A4) (hn : x.all.length ≤ 1000) :
    Calls Try.prog 11 #[.agg (ndA x A1 c1 A2 c2 A3 c3 A4 c4), .string s] w (DeclPost w (declO x s)) := by
  have HF := Lib.hid fun w1 hw => nd_facts w x A1 c1 A2 c2 A3 c3 A4 c4 w1 hw h
  have HAL := Lib.hid fun w1 (hw : rdN w1 x A1 A2 A3 A4) => refAllD x A1 c1 A2 c2 A3 c3 A4 c4 w1 hw hn
  have HHIT := Lib.hid (fun (k : Nat) hk hn hy => show declO x s = some (x.all[k]?.getD default) from find_hit (l := x.all) (f := fun d : Dc => d.nm.data.toList == s.data.toList) (k := k) hk hn hy)
  have HNO := Lib.hid (fun hn => show declO x s = none from find_none (l := x.all) (f := fun d : Dc => d.nm.data.toList == s.data.toList) hn)
  unfold ndA at HAL ⊢
  generalize declO x s = out at *
  go_enter Try.func11, Try.ntmps11
  go_upto_region 1 with (fail)
  generalize hw1 : w.alloc _ = w1
  obtain ⟨hb1, hg, hR1, hcell⟩ := HF.out w1 hw1
  have HB1 := Lib.hid hb1
  have HR1 := Lib.hid hR1
  have HCE := Lib.hid hcell
  have HN2 := Lib.hid fun w2 (hw : w1.alloc (.cells (dcA default) 32) = w2) => (show RowD w2 (w.heap.size + 1) default ∧ Below w1.heap.size w1 w2 by
    subst hw
    exact ⟨by rw [← hg]; exact heap_alloc_new _ _, (Below.refl _ _).alloc (Nat.le_refl _) _⟩)
  clear hw1 hcell hb1 HF h hR1
  generalize hw2 : w1.alloc _ = w2
  obtain ⟨hr2, hb2⟩ := HN2.out w2 hw2
  have HW2 := Lib.hid hb2
  have HROW := Lib.hid hr2
  simp only [ndA] at HCE
  have q0 := HCE.out w2 hb2 0
  have q1 := HCE.out w2 hb2 1
  have q2 := HCE.out w2 hb2 2
  have q3 := HCE.out w2 hb2 3
  have q4 := HCE.out w2 hb2 4
  simp only [List.getElem?_toArray, List.getElem?_cons_zero, List.getElem?_cons_succ] at q0 q1 q2 q3 q4
  have HA1 := Lib.hid (HAL.out w2 (HR1.out.below hb2))
  clear hw2 hr2 hb2 HN2 HAL
  generalize hx : x.all = all at *
  generalize hxl : all.length = na at *
  have HXL := Lib.hid hxl
  clear hxl
  go_wp2_with fail
  refine HA1.out.mono ?_
  rintro e w3 ⟨A5, c5, rfl, hR3, hb3⟩
  have HROW3 := Lib.hid (HROW.out.below hb3)
  have HW3 := Lib.hid (HW2.out.trans (hb3.mono HW2.out.size))
  have HR3 := Lib.hid hR3
  have hz3 := hb3.size
  clear hR3 hb3 q0 q1 q2 q3 q4
  go_wp2_with fail
  go_loop [7] (fun i => ∃ k : Nat, k ≤ na ∧ i = .int .i64 k ∧ ∀ j, j < k → ((all[j]?.getD default).nm.data.toList == s.data.toList) = false) (fun i => na - (intOf i).toNat)
  case atStart => exact ⟨0, Nat.zero_le _, rfl, fun j hj => absurd hj (by omega)⟩
  case round =>
    obtain ⟨k, hk, rfl, hto⟩ := hrel
    have HT := Lib.hid hto
    clear hto
    by_cases hlt : k < na
    · obtain ⟨b, off, rfl, hb, hc⟩ := RdS.at_ HR3.out (by omega)
      obtain ⟨d0, d1, d2, d3, d4, d5⟩ := (hc k hlt).six
      clear hc
      have HH := Lib.hid (HHIT.out k hlt HT.out)
      have HS := Lib.hid fun (hf : ((all[k]?.getD default).nm.data.toList == s.data.toList) = false) => to_next (P := fun j => ((all[j]?.getD default).nm.data.toList == s.data.toList) = false) HT.out hf
      generalize all[k]?.getD default = d at d0 d1 d2 d3 d4 d5 HH HS
      cases h1 : (d.nm.toList == s.toList) with
      | true =>
        have HH2 := Lib.hid (HH.out (by rw [← Lib.toList_data, ← Lib.toList_data]; exact h1))
        have HSET := Lib.hid (HROW3.out.set d)
        have HBS := Lib.hid (below_setRow HW3.out (g := w.heap.size + 1) (by omega) (dcA d))
        unfold dcA at HSET HBS
        go_wp2_with (refine wpList_store_row rfl _ _ _ rfl (w.heap.size + 1) _ rfl rfl _ _ HROW3.out dcinfo rfl (by simp [Value.oneCell']) ?_)
        exact bodyPost_ret (res_dc2 (p := 4) (u := 5) rfl _ _ (w.heap.size + 1) rfl HSET.out) rfl ⟨by rw [HH2.out]; rfl, HB1.out.trans (HBS.out.mono (by omega))⟩
      | false =>
        have HS2 := Lib.hid (HS.out (by rw [← Lib.toList_data, ← Lib.toList_data]; exact h1))
        go_wp2_with fail
        go_round
        case rel => exact ⟨k + 1, by omega, by go_num, HS2.out⟩
        case measure => simp [intOf]; omega
    · obtain rfl : k = na := by omega
      have HN := Lib.hid (HNO.out HT.out)
      have HSET := Lib.hid (HROW3.out.set default)
      have HBS := Lib.hid (below_setRow HW3.out (g := w.heap.size + 1) (by omega) (dcA default))
      go_wp2_with (refine wpList_store_row rfl _ _ _ rfl (w.heap.size + 1) _ rfl rfl _ _ HROW3.out dcinfo rfl (by simp [Value.oneCell']) ?_)
      exact bodyPost_ret (res_dc2 (d := default) (p := 4) (u := 5) rfl _ _ (w.heap.size + 1) rfl HSET.out) rfl ⟨by rw [HN.out]; rfl, HB1.out.trans (HBS.out.mono (by omega))⟩
end Go.Proofs.Ytapnodhgjfbjjaa
