/- A variable of a name: of the program's text. Conditions: none. -/
import Derived.Test.YtapnodhgjfbjjaaGreatPgU1
namespace Go.Proofs.YtapnodhgjfbjjaaGreat
open Go.RowKit Go.Sort
set_option linter.unusedVariables false
set_option linter.unusedSimpArgs false

/-- A node's lists of variables, by number. -/
def listK (x : Nd) (k : Nat) : List Dc := match k with | 0 => x.ins | 1 => x.outs | _ => x.vars
/-- What is still to be found, from list k on. -/
def restO (x : Nd) (s : ByteArray) (k : Nat) : Option Dc := match k with
  | 0 => declO x s
  | 1 => (x.outs ++ x.vars).find? fun d => d.nm.data.toList == s.data.toList
  | 2 => x.vars.find? fun d => d.nm.data.toList == s.data.toList
  | _ => none
theorem restO_hit {x : Nd} {s : ByteArray} {k : Nat} {d : Dc} (hk : k < 3) (h : (listK x k).find? (fun d => d.nm.data.toList == s.data.toList) = some d) : restO x s k = some d := by
  match k, hk with
  | 0, _ =>
    have h : x.ins.find? (fun d => d.nm.data.toList == s.data.toList) = some d := h
    show (x.ins ++ x.outs ++ x.vars).find? _ = _
    rw [List.append_assoc, List.find?_append, h]
    rfl
  | 1, _ =>
    have h : x.outs.find? (fun d => d.nm.data.toList == s.data.toList) = some d := h
    show (x.outs ++ x.vars).find? _ = _
    rw [List.find?_append, h]
    rfl
  | 2, _ => exact h
theorem restO_next {x : Nd} {s : ByteArray} {k : Nat} (hk : k < 3) (h : (listK x k).find? (fun d => d.nm.data.toList == s.data.toList) = none) : restO x s k = restO x s (k + 1) := by
  match k, hk with
  | 0, _ =>
    have h : x.ins.find? (fun d => d.nm.data.toList == s.data.toList) = none := h
    show (x.ins ++ x.outs ++ x.vars).find? _ = (x.outs ++ x.vars).find? _
    rw [List.append_assoc, List.find?_append, h]
    rfl
  | 1, _ =>
    have h : x.outs.find? (fun d => d.nm.data.toList == s.data.toList) = none := h
    show (x.outs ++ x.vars).find? _ = x.vars.find? _
    rw [List.find?_append, h]
    rfl
  | 2, _ => exact h
def lists3 (x : Nd) (A1 : Option Addr) (c1 : Nat) (A2 : Option Addr) (c2 : Nat) (A3 : Option Addr) (c3 : Nat) : Array Value := #[.slice A1 x.ins.length c1, .slice A2 x.outs.length c2, .slice A3 x.vars.length c3]
theorem lists_at {x : Nd} {A1 : Option Addr} {c1 : Nat} {A2 : Option Addr} {c2 : Nat} {A3 : Option Addr} {c3 : Nat} {A4 : Option Addr} {w : World} (h : rdN w x A1 A2 A3 A4) {k : Nat} (hk : k < 3) :
    ∃ A c, (lists3 x A1 c1 A2 c2 A3 c3)[k]? = some (.slice A (listK x k).length c) ∧ RdD w A (listK x k).length (listK x k) := by
  match k, hk with
  | 0, _ => exact ⟨A1, c1, rfl, h.1⟩
  | 1, _ => exact ⟨A2, c2, rfl, h.2.1⟩
  | 2, _ => exact ⟨A3, c3, rfl, h.2.2.1⟩
set_option maxRecDepth 100000 in
set_option maxHeartbeats 4000000 in
theorem pgDecl (x : Nd) (A1 : Option Addr) (c1 : Nat) (A2 : Option Addr) (c2 : Nat) (A3 : Option Addr) (c3 : Nat) (A4 : Option Addr) (c4 : Nat) (s : ByteArray) (w : World) (h : rdN w x A1 A2 A3 A4) :
    Calls Tryz.prog 28 #[.agg (ndA x A1 c1 A2 c2 A3 c3 A4 c4), .string s] w (DeclPost w (declO x s)) := by
  have HF := Lib.hid fun w1 hw => nd_facts w x A1 c1 A2 c2 A3 c3 A4 c4 w1 hw h
  have HDC := Lib.hid dc_facts
  have H0 := Lib.hid (show restO x s 0 = declO x s from rfl)
  have HEND := Lib.hid (show restO x s 3 = none from rfl)
  have HHITK := Lib.hid fun (k : Nat) hk d h => restO_hit (x := x) (s := s) (k := k) (d := d) hk h
  have HNEXT := Lib.hid fun (k : Nat) hk h => restO_next (x := x) (s := s) (k := k) hk h
  have HLS := Lib.hid fun (w : World) (h : rdN w x A1 A2 A3 A4) (k : Nat) hk => lists_at (c1 := c1) (c2 := c2) (c3 := c3) h (k := k) hk
  unfold ndA
  unfold lists3 at HLS
  generalize declO x s = out at *
  generalize restO x s = rest at *
  unfold dcA at HDC
  go_enter Tryz.func28, Tryz.ntmps28
  go_upto_region 1 with (fail)
  generalize hw1 : w.alloc _ = w1
  obtain ⟨hb1, hg, hR1, hcell⟩ := HF.out w1 hw1
  have HB1 := Lib.hid hb1
  have HCE := Lib.hid hcell
  have HR1 := Lib.hid hR1
  have HN2 := Lib.hid fun w2 (hw : w1.alloc (.cells (dcA default) 48) = w2) => (show RowD w2 (w.heap.size + 1) default ∧ Below w1.heap.size w1 w2 ∧ w2.heap.size = w.heap.size + 2 by
    subst hw
    exact ⟨by rw [← hg]; exact heap_alloc_new _ _, (Below.refl _ _).alloc (Nat.le_refl _) _, by simp [hg]⟩)
  clear hw1 hcell hb1 HF h hR1
  generalize hw2 : w1.alloc _ = w2
  obtain ⟨hr2, hb2, hg2⟩ := HN2.out w2 hw2
  have HROW := Lib.hid hr2
  simp only [ndA] at HCE
  have q1 := HCE.out w2 hb2 1
  have q2 := HCE.out w2 hb2 2
  have q3 := HCE.out w2 hb2 3
  simp only [List.getElem?_toArray, List.getElem?_cons_zero, List.getElem?_cons_succ] at q1 q2 q3
  have HW2 := Lib.hid (HB1.out.trans (hb2.mono HB1.out.size))
  have HR2 := Lib.hid (HR1.out.below hb2)
  have HN3 := Lib.hid fun w3 (hw : w2.alloc (.cells #[.slice A1 x.ins.length c1, .slice A2 x.outs.length c2, .slice A3 x.vars.length c3] 33) = w3) => (show Below w2.heap.size w2 w3 ∧ w3.heap.size = w.heap.size + 3 ∧ ∀ w', Below w3.heap.size w3 w' → ∀ j, w'.cell? ⟨w.heap.size + 2, j, none⟩ = (#[.slice A1 x.ins.length c1, .slice A2 x.outs.length c2, .slice A3 x.vars.length c3] : Array Value)[j]? by
    subst hw
    refine ⟨(Below.refl _ _).alloc (Nat.le_refl _) _, by simp [hg2], fun w' hb j => ?_⟩
    rw [← hg2, hb.cell (p := ⟨w2.heap.size, j, none⟩) (by simp), World.cell?_alloc_new])
  clear hw2 hr2 hb2 HN2 HCE HR1
  go_upto_region 2 with (fail)
  generalize hw3 : w2.alloc _ = w3
  obtain ⟨hb3, hg3, hcell3⟩ := HN3.out w3 hw3
  have HC3 := Lib.hid hcell3
  have HROW3 := Lib.hid (HROW.out.below hb3)
  have HW3 := Lib.hid (HW2.out.trans (hb3.mono HW2.out.size))
  have HR3 := Lib.hid (HR2.out.below hb3)
  clear hw3 HN3 hb3 hcell3 q1 q2 q3 HROW HW2 HR2
  go_loopw [18] (fun i wr => ∃ k : Nat, k ≤ 3 ∧ i = .int .i64 k ∧ rest k = out ∧ Below w3.heap.size w3 wr) (fun i _ => 3 - (intOf i).toNat)
  case atStart => exact ⟨0, by omega, rfl, H0.out, Below.refl _ _⟩
  case round =>
    obtain ⟨k, hk, rfl, hto, hnx⟩ := hrel
    have HT := Lib.hid hto
    have HNX := Lib.hid hnx
    clear hto
    by_cases hlt : k < 3
    · obtain ⟨A, c, hAk, hrd⟩ := HLS.out wr (HR3.out.below hnx) k hlt
      have e0 := HC3.out wr hnx k
      rw [hAk] at e0
      have HRD := Lib.hid hrd
      have hln := RdS.len hrd
      have hmx := RdS.max hrd
      have HHIT := Lib.hid (fun (j : Nat) hj hn hy => HHITK.out k hlt _ (find_hit (l := listK x k) (f := fun d : Dc => d.nm.data.toList == s.data.toList) (k := j) hj hn hy))
      have HNO := Lib.hid (fun hn => HNEXT.out k hlt (find_none (l := listK x k) (f := fun d : Dc => d.nm.data.toList == s.data.toList) hn))
      clear hAk hrd hnx
      generalize listK x k = l at *
      generalize l.length = n at *
      go_upto_region 5 with (fail)
      generalize wr = wo at *
      go_loopw [24] (fun i wr => ∃ j : Nat, j ≤ n ∧ i = .int .i64 j ∧ (∀ m, m < j → ((l[m]?.getD default).nm.data.toList == s.data.toList) = false) ∧ Below wo.heap.size wo wr) (fun i _ => n - (intOf i).toNat)
      case atStart => exact ⟨0, by omega, rfl, fun j hj => absurd hj (by omega), Below.refl _ _⟩
      case round =>
        obtain ⟨j, hj, rfl, hto, hny⟩ := hrel
        have HT2 := Lib.hid hto
        have HNY := Lib.hid hny
        have HNZ := Lib.hid (HNX.out.trans (hny.mono HNX.out.size))
        clear hto
        by_cases hjt : j < n
        · obtain ⟨b, off, rfl, hb, hc⟩ := RdS.at_ (RdD.below HRD.out hny) (by omega)
          obtain ⟨d0, d1, d2, d3, d4, d5⟩ := (hc j hjt).six
          clear hc
          have HH := Lib.hid (HHIT.out j (by omega) HT2.out)
          have HS := Lib.hid fun (hf : ((l[j]?.getD default).nm.data.toList == s.data.toList) = false) => to_next (P := fun m => ((l[m]?.getD default).nm.data.toList == s.data.toList) = false) HT2.out hf
          generalize l[j]?.getD default = d at d0 d1 d2 d3 d4 d5 HH HS
          have HD4 := Lib.hid fun w4 hw => HDC.out wr d w4 hw
          clear hny
          go_upto_region 7 with (fail)
          generalize hw4 : World.alloc _ _ = w4
          obtain ⟨hb4, hg4, hcell4⟩ := HD4.out _ hw4
          have r0 := hcell4 w4 (Below.refl _ _) 0
          have r1 := hcell4 w4 (Below.refl _ _) 1
          have r2 := hcell4 w4 (Below.refl _ _) 2
          have r3 := hcell4 w4 (Below.refl _ _) 3
          have r4 := hcell4 w4 (Below.refl _ _) 4
          have r5 := hcell4 w4 (Below.refl _ _) 5
          simp only [List.getElem?_toArray, List.getElem?_cons_zero, List.getElem?_cons_succ] at r0 r1 r2 r3 r4 r5
          have HROW4 := Lib.hid (HROW3.out.below (HNZ.out.trans (hb4.mono HNZ.out.size)))
          have HW4 := Lib.hid (HW3.out.trans ((HNZ.out.trans (hb4.mono HNZ.out.size)).mono HW3.out.size))
          have HNY4 := Lib.hid (HNY.out.trans (hb4.mono HNY.out.size))
          clear d0 d1 d2 d3 d4 d5 hb4 hcell4 hw4 HD4
          cases h1 : (d.nm.toList == s.toList) with
          | true =>
            have HH2 := Lib.hid (HH.out (by rw [← Lib.toList_data, ← Lib.toList_data]; exact h1))
            have HSET := Lib.hid (HROW4.out.set d)
            have HBS := Lib.hid (below_setRow HW4.out (g := w.heap.size + 1) (by omega) (dcA d))
            unfold dcA at HSET HBS
            have HO := Lib.hid (show some d = out from HH2.out.symm.trans HT.out)
            go_wp2_with (refine wpList_store_row rfl _ _ _ rfl (w.heap.size + 1) _ rfl rfl _ _ HROW4.out dcinfo rfl (by simp [Value.oneCell']) ?_)
            exact bodyPost_ret (res_dc2 (p := 4) (u := 5) rfl _ _ (w.heap.size + 1) rfl HSET.out) rfl ⟨by rw [← HO.out]; rfl, HBS.out⟩
          | false =>
            have HS2 := Lib.hid (HS.out (by rw [← Lib.toList_data, ← Lib.toList_data]; exact h1))
            go_wp2_with fail
            go_roundw
            case rel => exact ⟨j + 1, by omega, by go_num, HS2.out, HNY4.out⟩
            case measure => simp [intOf]; omega
        · have hjn : j = n := by omega
          have HN := Lib.hid (show rest (k + 1) = out from (HNO.out fun m hm => HT2.out m (by omega)).symm.trans HT.out)
          go_wp2_with fail
          go_roundw
          case rel => exact ⟨k + 1, by omega, by go_num, HN.out, HNZ.out⟩
          case measure => simp [intOf]; omega
    · have hk3 : k = 3 := by omega
      subst hk3
      have HO := Lib.hid (show none = out from HEND.out.symm.trans HT.out)
      have HROW4 := Lib.hid (HROW3.out.below hnx)
      have HW4 := Lib.hid (HW3.out.trans (hnx.mono HW3.out.size))
      have HSET := Lib.hid (HROW4.out.set default)
      have HBS := Lib.hid (below_setRow HW4.out (g := w.heap.size + 1) (by omega) (dcA default))
      go_wp2_with (refine wpList_store_row rfl _ _ _ rfl (w.heap.size + 1) _ rfl rfl _ _ HROW4.out dcinfo rfl (by simp [Value.oneCell']) ?_)
      exact bodyPost_ret (res_dc2 (d := default) (p := 4) (u := 5) rfl _ _ (w.heap.size + 1) rfl HSET.out) rfl ⟨by rw [← HO.out]; rfl, HBS.out⟩
end Go.Proofs.YtapnodhgjfbjjaaGreat
