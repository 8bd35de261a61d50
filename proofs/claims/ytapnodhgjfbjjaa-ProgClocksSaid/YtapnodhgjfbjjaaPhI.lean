/- Which programs are the same: of the program's text. Conditions: none (the two on size are not used). -/
import Derived.Test.YtapnodhgjfbjjaaPhH
import Derived.Test.YtapnodhgjfbjjaaPhF
import Derived.Test.YtapnodhgjfbjjaaPgQ
namespace Go.Proofs.Ytapnodhgjfbjjaa
open Go.RowKit Go.Sort
set_option linter.unusedVariables false
set_option linter.unusedSimpArgs false

set_option maxRecDepth 100000 in
set_option maxHeartbeats 2000000 in
theorem pgSame (p : Pg) (E : Option Addr) (ec : Nat) (N : Option Addr) (nc : Nat) (q : Pg) (E' : Option Addr) (ec' : Nat) (N' : Option Addr) (nc' : Nat) (w : World) (h : rdP w p E N) (h' : rdP w q E' N') (ht : TinyP p) (ht' : TinyP q) :
    Calls Try.prog 14 #[.agg (pgA p E ec N nc), .agg (pgA q E' ec' N' nc')] w fun e w' => e = .returned (.bool (eqP p q)) ∧ Below w.heap.size w w' := by
  have HF := Lib.hid fun w1 hw => pg_facts w p E ec N nc w1 hw h
  have HF' := Lib.hid fun w1 w2 hw (hb : Below w.heap.size w w1) => pg_facts w1 q E' ec' N' nc' w2 hw (h'.below hb)
  have HE := Lib.hid (show eqP p q = (sameL eqE p.es q.es && sameL eqN p.ns q.ns) from rfl)
  have HC1 := Lib.hid fun w1 a b => slEqFuncE p.es q.es E E' p.es.length q.es.length ec ec' w1 a b
  have HC2 := Lib.hid fun w1 a b => slEqFuncN p.ns q.ns N N' p.ns.length q.ns.length nc nc' w1 a b
  clear h h' ht ht'
  unfold pgA
  generalize eqP p q = out at *
  generalize sameL eqE p.es q.es = s1 at *
  generalize sameL eqN p.ns q.ns = s2 at *
  go_enter Try.func14, Try.ntmps14
  go_upto_region 1 with (fail)
  generalize hw1 : w.alloc _ = w1
  obtain ⟨hb1, hg, hR1, hcell⟩ := HF.out w1 hw1
  generalize hw2 : w1.alloc _ = w2
  obtain ⟨hb2, hg2, hR2, hcell2⟩ := HF'.out w1 w2 hw2 hb1
  rw [hg] at hg2
  have HB2 := Lib.hid (below_next hb1 hb2)
  have HX := Lib.hid fun w' (hb : Below w2.heap.size w2 w') j => (show w'.cell? ⟨w.heap.size, j, none⟩ = (pgA p E ec N nc)[j]? from hcell w' (hb2.trans (hb.mono hb2.size)) j)
  have HY := Lib.hid fun w' (hb : Below w2.heap.size w2 w') j => (show w'.cell? ⟨w.heap.size + 1, j, none⟩ = (pgA q E' ec' N' nc')[j]? by rw [← hg]; exact hcell2 w' hb j)
  have HRX := Lib.hid (hR1.below hb2)
  have HRY := Lib.hid hR2
  simp only [pgA] at HX HY
  clear hw1 hw2 hcell hcell2 hb1 hb2 HF HF' hR1 hR2
  have p0 := HX.out w2 (Below.refl _ _) 0
  have q0 := HY.out w2 (Below.refl _ _) 0
  simp only [List.getElem?_toArray, List.getElem?_cons_zero, List.getElem?_cons_succ] at p0 q0
  cases s1 with
  | false =>
    go_wp2_with fail
    refine (HC1.out w2 HRX.out.1 HRY.out.1).mono ?_
    rintro e w3 ⟨rfl, hb3⟩
    have HB3 := Lib.hid (HB2.out.trans (hb3.mono HB2.out.size))
    clear hb3 p0 q0
    go_wp2_with fail
    go_ret
    exact ⟨ret_bool (by rw [HE.out]; rfl), HB3.out⟩
  | true =>
    go_wp2_with fail
    refine (HC1.out w2 HRX.out.1 HRY.out.1).mono ?_
    rintro e w3 ⟨rfl, hb3⟩
    have HB3 := Lib.hid (HB2.out.trans (hb3.mono HB2.out.size))
    have HC3 := Lib.hid (HC2.out w3 (RdNs.below HRX.out.2 hb3) (RdNs.below HRY.out.2 hb3))
    have p1 := HX.out w3 hb3 1
    have q1 := HY.out w3 hb3 1
    simp only [List.getElem?_toArray, List.getElem?_cons_zero, List.getElem?_cons_succ] at p1 q1
    clear hb3 p0 q0
    go_wp2_with fail
    refine HC3.out.mono ?_
    rintro e w4 ⟨rfl, hb4⟩
    have HB4 := Lib.hid (HB3.out.trans (hb4.mono HB3.out.size))
    clear hb4 p1 q1
    go_wp2_with fail
    go_ret
    exact ⟨ret_bool (by rw [HE.out]; rfl), HB4.out⟩
end Go.Proofs.Ytapnodhgjfbjjaa
