/- Where a node of a name is: of the program's text. Conditions: none. -/
import Derived.Test.YtapnodhgjfbjjaaSlN
namespace Go.Proofs.Ytapnodhgjfbjjaa
open Go.RowKit Go.Sort
set_option linter.unusedVariables false
set_option linter.unusedSimpArgs false

set_option maxRecDepth 100000 in
set_option maxHeartbeats 2000000 in
theorem pgFind1 (x : Nd) (A1 : Option Addr) (c1 : Nat) (A2 : Option Addr) (c2 : Nat) (A3 : Option Addr) (c3 : Nat) (A4 : Option Addr) (c4 : Nat) (b : Nat) (s : ByteArray) (w : World) (h : rdN w x A1 A2 A3 A4) (hs : w.cell? ⟨b, 0, none⟩ = some (.string s)) :
    Calls Try.prog 20 #[.agg (ndA x A1 c1 A2 c2 A3 c3 A4 c4), .pointer (some ⟨b, 0, none⟩)] w fun e w' => e = .returned (.bool (x.nm.toList == s.toList)) ∧ Below w.heap.size w w' := by
  have HF := Lib.hid fun w1 hw => nd_facts w x A1 c1 A2 c2 A3 c3 A4 c4 w1 hw h
  have HS := Lib.hid hs
  clear hs h
  unfold ndA
  generalize hq : (x.nm.toList == s.toList) = out
  go_enter Try.func20, Try.ntmps20
  go_upto_region 1 with (fail)
  generalize hw1 : w.alloc _ = w1
  obtain ⟨hb1, hg, hR1, hcell⟩ := HF.out w1 hw1
  have HB1 := Lib.hid hb1
  have q0 := hcell w1 (Below.refl _ _) 0
  simp only [ndA, List.getElem?_toArray, List.getElem?_cons_zero, List.getElem?_cons_succ] at q0
  have q5 := (hb1.cell (p := ⟨b, 0, none⟩) (World.block_lt_of_cell? _ _ HS.out)).trans HS.out
  clear hw1 hcell hb1 HF hR1
  go_wp2_with fail
  go_ret
  exact ⟨rfl, HB1.out⟩

set_option maxRecDepth 100000 in
set_option maxHeartbeats 2000000 in
theorem pgFind (p : Pg) (E : Option Addr) (ec : Nat) (N : Option Addr) (nc : Nat) (s : ByteArray) (w : World) (h : rdP w p E N) :
    Calls Try.prog 8 #[.agg (pgA p E ec N nc), .string s] w fun e w' => e = .returned (.int .i64 (findN p s)) ∧ Below w.heap.size w w' := by
  have HF := Lib.hid fun w1 hw => pg_facts w p E ec N nc w1 hw h
  have hmk : ∀ fn first cap w, (Instr.makeFunc fn first cap).run Try.prog w = .ok (.func fn first cap) w := fun _ _ _ _ => rfl
  unfold pgA
  generalize hout : findN p s = out
  go_enter Try.func8, Try.ntmps8
  go_upto_region 1 with (fail)
  generalize hw1 : w.alloc _ = w1
  obtain ⟨hb1, hg, hR1, hcell⟩ := HF.out w1 hw1
  have HB1 := Lib.hid hb1
  have HCE := Lib.hid hcell
  have HR1 := Lib.hid hR1
  have HN2 := Lib.hid fun w2 (hw : w1.alloc (.cells #[.string s] 9) = w2) => (show w2.cell? ⟨w1.heap.size, 0, none⟩ = some (.string s) ∧ Below w1.heap.size w1 w2 by
    subst hw
    exact ⟨by rw [World.cell?_alloc_new]; rfl, (Below.refl _ _).alloc (Nat.le_refl _) _⟩)
  clear hw1 hcell hb1 HF h hR1
  generalize hw2 : w1.alloc _ = w2
  obtain ⟨hs2, hb2⟩ := HN2.out w2 hw2
  have q1 := HCE.out w2 hb2 1
  simp only [pgA, List.getElem?_toArray, List.getElem?_cons_zero, List.getElem?_cons_succ] at q1
  have HB2 := Lib.hid (HB1.out.trans (hb2.mono HB1.out.size))
  have HC := Lib.hid (slIndexNd 20 #[.pointer (some ⟨w1.heap.size, 0, none⟩)] (fun _ _ => rfl) (fun n => n.nm.toList == s.toList) N p.ns.length nc p.ns w2 (HR1.out.below hb2).2
    fun x _ A1 c1 A2 c2 A3 c3 A4 c4 W hW hr => pgFind1 x A1 c1 A2 c2 A3 c3 A4 c4 w1.heap.size s W hr ((hW.cell (World.block_lt_of_cell? _ _ hs2)).trans hs2))
  have HO := Lib.hid (show findI (fun n : Nd => n.nm.toList == s.toList) p.ns 0 = out by rw [← hout]; unfold findN; congr 1; funext n; rw [Lib.toList_data, Lib.toList_data])
  rw [HO.out] at HC
  clear hw2 hs2 hb2 HN2 HO hout
  rw [hg] at HC
  go_wp2_with fail
  refine HC.out.mono ?_
  rintro e w3 ⟨rfl, hb3⟩
  have HB3 := Lib.hid (HB2.out.trans (hb3.mono HB2.out.size))
  clear hb3
  go_wp2_with fail
  go_ret
  exact ⟨rfl, HB3.out⟩
end Go.Proofs.Ytapnodhgjfbjjaa
