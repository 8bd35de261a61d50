/- What is wrong with a program: of the program's text. Conditions: not too great. -/
import Derived.Test.YtapnodhgjfbjjaaGreatPiG
import Derived.Test.YtapnodhgjfbjjaaGreatTyU
namespace Go.Proofs.YtapnodhgjfbjjaaGreat
open Go.RowKit Go.Sort
set_option linter.unusedVariables false
set_option linter.unusedSimpArgs false

set_option maxRecDepth 100000 in
theorem pgSome (g : Nat) (lb : Array Value) (eg : ∀ args w, (callFunc g args).run Tryz.prog w = .ok (.enter g args) w) (f : Nd → Bool) (b : Nat) (N : Option Addr) (nc : Nat) (ns : List Nd) (w : World)
    (hc : w.cell? ⟨b, 1, none⟩ = some (.slice N ns.length nc)) (hr : RdNs w N ns.length ns) (hp : PredNd g lb f ns w) :
    Calls Tryz.prog 13 #[.func (.func g) #[] lb, .pointer (some ⟨b, 0, none⟩)] w fun e w' => e = .returned (.bool (ns.any f)) ∧ Below w.heap.size w w' := by
  have HC := Lib.hid (slHasNd g lb eg f N ns.length nc ns w hr hp)
  clear hr hp
  generalize ns.any f = out at *
  go_enter Tryz.func13, Tryz.ntmps13
  go_wp2_with fail
  refine HC.out.mono ?_
  rintro e w2 ⟨rfl, hb2⟩
  have HB2 := Lib.hid hb2
  clear hb2
  go_wp2_with fail
  go_ret
  exact ⟨rfl, HB2.out⟩

theorem tiny_mem {p : Pg} (ht : TinyP p) {x : Nd} (hx : x ∈ p.ns) : TinyN x := by
  obtain ⟨j, hj, rfl⟩ := List.getElem_of_mem hx
  have := ht.2.2 j hj
  rwa [List.getElem?_eq_getElem hj] at this
theorem checkN_eq (p : Pg) : checkN p = if enumsN p.es = 0 then (if p.ns.length = 0 then 5 else if 6 < p.ns.length then 4 else if p.ns.any manyN then 4 else if (p.ns.any fun x => !nodeB p.es.length rightB rightX x) then 1 else if !onceS (p.ns.map Nd.nm) then 6 else if (p.ns.any fun x => !onceS (namesD x.all)) then 6 else 0) else enumsN p.es := by
  unfold checkN rightN onceN
  rw [← List.not_all_eq_any_not, ← List.not_all_eq_any_not]
  generalize p.ns.all (nodeB p.es.length rightB rightX) = a
  generalize (p.ns.all fun n => onceS (namesD n.all)) = b
  generalize onceS (p.ns.map Nd.nm) = c
  cases a <;> cases b <;> cases c <;> rfl

set_option maxRecDepth 100000 in
set_option maxHeartbeats 8000000 in
theorem pgCheck (p : Pg) (E : Option Addr) (ec : Nat) (N : Option Addr) (nc : Nat) (w : World) (h : rdP w p E N) (ht : TinyP p) :
    Calls Tryz.prog 7 #[.agg (pgA p E ec N nc)] w fun e w' => e = .returned (.int .i64 (checkN p)) ∧ Below w.heap.size w w' := by
  have HF := Lib.hid fun w1 hw => pg_facts w p E ec N nc w1 hw h
  have hmk : ∀ fn first cap w, (Instr.makeFunc fn first cap).run Tryz.prog w = .ok (.func fn first cap) w := fun _ _ _ _ => rfl
  have HEC := Lib.hid fun w1 a => tyEnums E p.es.length ec p.es w1 a ht.1.ok ht.1.few
  have hmx := RdS.max h.2
  have hes := ht.1.1
  have hns := ht.2.1
  have HE := Lib.hid (checkN_eq p)
  have HM := Lib.hid fun w1 => pgMalformed E p.es.length ec w1
  have HP1 := Lib.hid fun w1 => (show PredNd 16 #[] manyN p.ns w1 from fun x hx A1 c1 A2 c2 A3 c3 A4 c4 W _ hr => pgCrowded x A1 c1 A2 c2 A3 c3 A4 c4 W hr)
  have HP2 := Lib.hid fun bp bv be w1 (hb : Boxes w1 bp bv be E p.es.length ec) => (show PredNd 39 #[.pointer (some ⟨bp, 0, none⟩), .pointer (some ⟨bv, 0, none⟩)] (fun x => !nodeB p.es.length rightB rightX x) p.ns w1 from
    fun x hx A1 c1 A2 c2 A3 c3 A4 c4 W hW hr => pgNode x A1 c1 A2 c2 A3 c3 A4 c4 bp bv be E p.es.length ec W hr (tiny_mem ht hx).ok (by omega) (hb.below hW))
  have HP3 := Lib.hid fun w1 => (show PredNd 20 #[] (fun x => !onceS (namesD x.all)) p.ns w1 from
    fun x hx A1 c1 A2 c2 A3 c3 A4 c4 W _ hr => pgDoubled x A1 c1 A2 c2 A3 c3 A4 c4 W hr (by have := (tiny_mem ht hx).len; omega) (fun d hd => ((tiny_mem ht hx).ok.2.1 d hd).1))
  have HON := Lib.hid fun w1 (a : RdNs w1 N p.ns.length p.ns) => pgOnceN N p.ns.length nc p.ns w1 a (by omega) (fun s hs => by
    obtain ⟨x, hx, rfl⟩ := List.mem_map.1 hs
    exact (tiny_mem ht hx).ok.1)
  have HS1 := Lib.hid fun b w1 hc a => pgSome 16 #[] (fun _ _ => rfl) manyN b N nc p.ns w1 hc a (HP1.out w1)
  have HS2 := Lib.hid fun b bp bv be w1 hc a (hb : Boxes w1 bp bv be E p.es.length ec) => pgSome 39 #[.pointer (some ⟨bp, 0, none⟩), .pointer (some ⟨bv, 0, none⟩)] (fun _ _ => rfl) (fun x => !nodeB p.es.length rightB rightX x) b N nc p.ns w1 hc a (HP2.out bp bv be w1 hb)
  have HS3 := Lib.hid fun b w1 hc a => pgSome 20 #[] (fun _ _ => rfl) (fun x => !onceS (namesD x.all)) b N nc p.ns w1 hc a (HP3.out w1)
  clear HP1 HP2 HP3 ht
  unfold pgA
  generalize checkN p = out at *
  generalize p.ns.any manyN = b1 at *
  generalize (p.ns.any fun x => !nodeB p.es.length rightB rightX x) = b2 at *
  generalize (p.ns.any fun x => !onceS (namesD x.all)) = b3 at *
  generalize onceS (p.ns.map Nd.nm) = o1 at *
  go_enter Tryz.func7, Tryz.ntmps7
  go_upto_region 1 with (fail)
  generalize hw1 : w.alloc _ = w1
  obtain ⟨hb1, hg, hR1, hcell⟩ := HF.out w1 hw1
  have HB1 := Lib.hid hb1
  have HC := Lib.hid hcell
  have HE1 := Lib.hid (HEC.out w1 hR1.1)
  have HNS := Lib.hid (show RdNs w1 N p.ns.length p.ns from hR1.2)
  simp only [pgA] at HC
  have q0 := HC.out w1 (Below.refl _ _) 0
  simp only [List.getElem?_toArray, List.getElem?_cons_zero, List.getElem?_cons_succ] at q0
  clear hw1 hcell hb1 HF h hR1 HEC
  generalize enumsN p.es = en at *
  generalize p.es.length = ne at *
  have HW1 := Lib.hid (Below.refl w1.heap.size w1)
  generalize hnn : p.ns.length = n at *
  clear hnn
  go_wp2_with fail
  refine HE1.out.mono ?_
  rintro e w2 ⟨rfl, hb2⟩
  have HW2 := Lib.hid hb2
  have HB2 := Lib.hid (HB1.out.trans (hb2.mono HB1.out.size))
  have p0 := HC.out w2 hb2 0
  have p1 := HC.out w2 hb2 1
  simp only [List.getElem?_toArray, List.getElem?_cons_zero, List.getElem?_cons_succ] at p0 p1
  clear hb2 q0
  by_cases he0 : en = 0
  · subst he0
    rw [if_pos rfl] at HE
    rcases Nat.eq_zero_or_pos n with hn0 | hn0
    · subst hn0
      rw [if_pos rfl] at HE
      go_wp2_with fail
      go_ret
      exact ⟨ret_int HE.out.symm, HB2.out⟩
    · rw [if_neg (by omega)] at HE
      have dn0 : ((n : Int) == 0) = false := by rw [beq_eq_false_iff_ne]; omega
      by_cases hn6 : 6 < n
      · rw [if_pos hn6] at HE
        have d6 : decide ((6 : Int) < (n : Int)) = true := decide_eq_true (by omega)
        go_wp2_with fail
        go_ret
        exact ⟨ret_int HE.out.symm, HB2.out⟩
      · rw [if_neg hn6] at HE
        have d6 : decide ((6 : Int) < (n : Int)) = false := decide_eq_false (by omega)
        have HC1 := Lib.hid (HS1.out w.heap.size w2 p1 (RdNs.below HNS.out HW2.out))
        clear hn6 hn0
        cases b1 with
        | true =>
          rw [if_pos rfl] at HE
          go_wp2_with fail
          refine HC1.out.mono ?_
          rintro e w3 ⟨rfl, hb3⟩
          have HB3 := Lib.hid (HB2.out.trans (hb3.mono HB2.out.size))
          clear hb3 p0 p1
          go_wp2_with fail
          go_ret
          exact ⟨ret_int HE.out.symm, HB3.out⟩
        | false =>
          rw [if_neg (by simp)] at HE
          go_wp2_with fail
          refine HC1.out.mono ?_
          rintro e w3 ⟨rfl, hb3⟩
          have HW3 := Lib.hid (HW2.out.trans (hb3.mono HW2.out.size))
          have HB3 := Lib.hid (HB2.out.trans (hb3.mono HB2.out.size))
          clear hb3 p0 p1
          have p0 := HC.out w3 HW3.out 0
          simp only [List.getElem?_toArray, List.getElem?_cons_zero, List.getElem?_cons_succ] at p0
          go_wp2_with fail
          refine (HM.out w3).mono ?_
          rintro e w4 ⟨bp, bv, be, rfl, hbx, hb4⟩
          have HW4 := Lib.hid (HW3.out.trans (hb4.mono HW3.out.size))
          have HB4 := Lib.hid (HB3.out.trans (hb4.mono HB3.out.size))
          clear hb4 p0
          have p1 := HC.out w4 HW4.out 1
          simp only [List.getElem?_toArray, List.getElem?_cons_zero, List.getElem?_cons_succ] at p1
          have HC2 := Lib.hid (HS2.out w.heap.size bp bv be w4 p1 (RdNs.below HNS.out HW4.out) hbx)
          clear hbx p1
          cases b2 with
          | true =>
            rw [if_pos rfl] at HE
            go_wp2_with fail
            refine HC2.out.mono ?_
            rintro e w5 ⟨rfl, hb5⟩
            have HB5 := Lib.hid (HB4.out.trans (hb5.mono HB4.out.size))
            clear hb5
            go_wp2_with fail
            go_ret
            exact ⟨ret_int HE.out.symm, HB5.out⟩
          | false =>
            rw [if_neg (by simp)] at HE
            go_wp2_with fail
            refine HC2.out.mono ?_
            rintro e w5 ⟨rfl, hb5⟩
            have HW5 := Lib.hid (HW4.out.trans (hb5.mono HW4.out.size))
            have HB5 := Lib.hid (HB4.out.trans (hb5.mono HB4.out.size))
            clear hb5
            have p1 := HC.out w5 HW5.out 1
            simp only [List.getElem?_toArray, List.getElem?_cons_zero, List.getElem?_cons_succ] at p1
            have HO5 := Lib.hid (HON.out w5 (RdNs.below HNS.out HW5.out))
            cases o1 with
            | false =>
              rw [if_pos (show (!false) = true from rfl)] at HE
              go_wp2_with fail
              refine HO5.out.mono ?_
              rintro e w6 ⟨rfl, hb6⟩
              have HB6 := Lib.hid (HB5.out.trans (hb6.mono HB5.out.size))
              clear hb6 p1
              go_wp2_with fail
              go_ret
              exact ⟨ret_int HE.out.symm, HB6.out⟩
            | true =>
              rw [if_neg (by simp)] at HE
              go_wp2_with fail
              refine HO5.out.mono ?_
              rintro e w6 ⟨rfl, hb6⟩
              have HW6 := Lib.hid (HW5.out.trans (hb6.mono HW5.out.size))
              have HB6 := Lib.hid (HB5.out.trans (hb6.mono HB5.out.size))
              clear hb6 p1
              have p1 := HC.out w6 HW6.out 1
              simp only [List.getElem?_toArray, List.getElem?_cons_zero, List.getElem?_cons_succ] at p1
              have HC3 := Lib.hid (HS3.out w.heap.size w6 p1 (RdNs.below HNS.out HW6.out))
              clear p1
              cases b3 with
              | true =>
                rw [if_pos rfl] at HE
                go_wp2_with fail
                refine HC3.out.mono ?_
                rintro e w7 ⟨rfl, hb7⟩
                have HB7 := Lib.hid (HB6.out.trans (hb7.mono HB6.out.size))
                clear hb7
                go_wp2_with fail
                go_ret
                exact ⟨ret_int HE.out.symm, HB7.out⟩
              | false =>
                rw [if_neg (by simp)] at HE
                go_wp2_with fail
                refine HC3.out.mono ?_
                rintro e w7 ⟨rfl, hb7⟩
                have HB7 := Lib.hid (HB6.out.trans (hb7.mono HB6.out.size))
                clear hb7
                go_wp2_with fail
                go_ret
                exact ⟨ret_int HE.out.symm, HB7.out⟩
  · rw [if_neg he0] at HE
    have dne : (en != 0) = true := by rw [bne_iff_ne]; exact he0
    clear he0
    go_wp2_with fail
    go_ret
    exact ⟨ret_int HE.out.symm, HB2.out⟩
end Go.Proofs.YtapnodhgjfbjjaaGreat
