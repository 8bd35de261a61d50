/- Whether no two of a list have one name: once, doubled. Conditions: at most 100 items, texts that fit memory. -/
import Derived.Test.YtapnodhgjfbjjaaGreatPiF
import Derived.Test.YtapnodhgjfbjjaaGreatPiE
import Derived.Test.YtapnodhgjfbjjaaGreatPhC
import Derived.Test.YtapnodhgjfbjjaaGreatPgP
namespace Go.Proofs.YtapnodhgjfbjjaaGreat
open Go.RowKit Go.Sort
set_option linter.unusedVariables false
set_option linter.unusedSimpArgs false

set_option maxRecDepth 100000 in
theorem pgNodeName (x : Nd) (A1 : Option Addr) (c1 : Nat) (A2 : Option Addr) (c2 : Nat) (A3 : Option Addr) (c3 : Nat) (A4 : Option Addr) (c4 : Nat) (w : World) (h : rdN w x A1 A2 A3 A4) :
    Calls Tryz.prog 19 #[.agg (ndA x A1 c1 A2 c2 A3 c3 A4 c4)] w fun e w' => e = .returned (.string x.nm) ∧ Below w.heap.size w w' := by
  have HF := Lib.hid fun w1 hw => nd_facts w x A1 c1 A2 c2 A3 c3 A4 c4 w1 hw h
  clear h
  unfold ndA at HF ⊢
  go_enter Tryz.func19, Tryz.ntmps19
  go_upto_region 1 with (fail)
  generalize hw1 : w.alloc _ = w1
  obtain ⟨hb1, hg, hR1, hcell⟩ := HF.out w1 hw1
  have HB1 := Lib.hid hb1
  have q0 := hcell w1 (Below.refl _ _) 0
  simp only [List.getElem?_toArray, List.getElem?_cons_zero, List.getElem?_cons_succ] at q0
  clear hw1 hcell hb1 HF hR1
  go_wp2_with fail
  go_ret
  exact ⟨rfl, HB1.out⟩
set_option maxRecDepth 100000 in
theorem pgDeclName (d : Dc) (w : World) :
    Calls Tryz.prog 46 #[.agg (dcA d)] w fun e w' => e = .returned (.string d.nm) ∧ Below w.heap.size w w' := by
  have HF := Lib.hid fun w1 hw => dc_facts w d w1 hw
  unfold dcA at HF ⊢
  go_enter Tryz.func46, Tryz.ntmps46
  go_upto_region 1 with (fail)
  generalize hw1 : w.alloc _ = w1
  obtain ⟨hb1, hg, hcell⟩ := HF.out w1 hw1
  have HB1 := Lib.hid hb1
  have q0 := hcell w1 (Below.refl _ _) 0
  simp only [List.getElem?_toArray, List.getElem?_cons_zero, List.getElem?_cons_succ] at q0
  clear hw1 hcell hb1 HF
  go_wp2_with fail
  go_ret
  exact ⟨rfl, HB1.out⟩

set_option maxRecDepth 100000 in
set_option maxHeartbeats 4000000 in
theorem pgOnceD (A : Option Addr) (n c : Nat) (l : List Dc) (w : World) (h : RdD w A n l) (hn : n ≤ 100) (hz : ∀ s ∈ namesD l, s.size ≤ maxLen) :
    Calls Tryz.prog 44 #[.slice A n c, .func (.func 46) #[] #[]] w fun e w' => e = .returned (.bool (onceS (namesD l))) ∧ Below w.heap.size w w' := by
  have HR := Lib.hid h
  have hln := RdS.len h
  obtain ⟨i0, hi, ji0, ji1, ji2⟩ := info_parts infoString
  have HSU := Lib.hid fun (k : Nat) hk => names_succ (l := l) (k := k) hk
  have HON := Lib.hid fun B cc w1 (a : RdT w1 B n (namesD l)) => idOnce B n cc (namesD l) w1 a hz hn
  have HTK := Lib.hid (show (namesD l).take n = namesD l from List.take_of_length_le (by rw [names_len, hln]; exact Nat.le_refl _))
  have HBX := Lib.hid (fun w d w1 h => dc_facts w d w1 h)
  have HNM := Lib.hid pgDeclName
  have HLN := Lib.hid hln
  clear h hz hln
  unfold dcA at HBX HNM
  generalize namesD l = ss at *
  generalize onceS ss = out at *
  go_enter Tryz.func44, Tryz.ntmps44
  go_wp2_with fail
  go_loopw [5, 10] (fun v i wr => ∃ k : Nat, k ≤ n ∧ i = .int .i64 k ∧ wr.ownsRow w.heap.size 9 1 v k ((ss.take k).map Value.string) ∧ Below w.heap.size w wr) (fun _ i _ => n - (intOf i).toNat)
  case atStart => exact ⟨0, Nat.zero_le _, rfl, ⟨rfl, .inl ⟨rfl, rfl⟩⟩, Below.refl _ _⟩
  case round =>
    obtain ⟨k, hk, rfl, hown, hnx⟩ := hrel
    have HNX := Lib.hid hnx
    have HOW := Lib.hid hown
    clear hown
    by_cases hlt : k < n
    · obtain ⟨b, off, rfl, hb, d0, d1, d2, d3, d4, d5⟩ := dc_at (HR.out.below hnx) hlt
      have HSK := Lib.hid (HSU.out k (by rw [HLN.out]; exact hlt))
      skip
      clear hnx
      generalize l[k]?.getD default = p at *
      have HF3 := Lib.hid fun w3 h => HBX.out wr p  w3 h 
      go_upto_region 5 with (fail)
      generalize hw3 : wr.alloc _ = w3
      obtain ⟨hb3, hg3, hcell3⟩ := HF3.out w3 hw3
      have HB3 := Lib.hid (HNX.out.trans (hb3.mono HNX.out.size))
      have HOW3 := Lib.hid (own_below HOW.out hb3)
      have e0 := hcell3 w3 (Below.refl _ _) 0
      have e1 := hcell3 w3 (Below.refl _ _) 1
      have e2 := hcell3 w3 (Below.refl _ _) 2
      have e3 := hcell3 w3 (Below.refl _ _) 3
      have e4 := hcell3 w3 (Below.refl _ _) 4
      have e5 := hcell3 w3 (Below.refl _ _) 5
      simp only [List.getElem?_toArray, List.getElem?_cons_zero, List.getElem?_cons_succ] at e0 e1 e2 e3 e4 e5
      have HCL := Lib.hid (HNM.out p  w3)
      clear hcell3 hb3 hw3 HF3 d0 d1 d2 d3 d4 d5
      go_wp2_with fail
      refine HCL.out.mono ?_
      rintro e w4 ⟨rfl, hb4⟩
      have HB4 := Lib.hid (HB3.out.trans (hb4.mono HB3.out.size))
      have HOW4 := Lib.hid (own_below HOW3.out hb4)
      clear hb4 e0 e1 e2 e3 e4 e5
      go_wp2_with (at_builtin; refine wpList_append_own_at _ rfl _ _ 38 rfl w.heap.size 9 i0 (.string ByteArray.empty) 1 16 Tryz.underlying38 hi ji0 ji1 ji2 rfl (by decide) _ _ _ rfl (HOW4.out.alloc _) ⟨w4.heap.size, 0, none⟩ 1 1 [.string p.nm] rfl rfl (cell_one_new _ _ _) (string_cells [p.nm]) (by unfold maxLen; omega) (by omega) (by have := HB4.out.size; simp; omega) ?_; intro v' w5 hown' hgrow hnil hloc; have hB5 := (HB4.out.alloc HB4.out.size (.cells #[.string p.nm] 9)).grown hgrow (by have := HB4.out.size; simp; omega) (fun j hj => (HOW4.out.lt j hj).1); have HO5 := Lib.hid hown'; have HB5 := Lib.hid hB5; clear hgrow hown' hnil hloc hB5)
      go_roundw
      case rel =>
        refine ⟨k + 1, by omega, by go_num, ?_, HB5.out⟩
        rw [HSK.out, List.map_append]
        exact HO5.out
      case measure => simp [intOf]; omega
    · obtain rfl : k = n := by omega
      have hO := HOW.out
      rw [HTK.out] at hO
      obtain ⟨B, cc, rfl, hrt, -⟩ := RdT.of_own hO (by omega)
      have HO := Lib.hid (HON.out B cc wr hrt)
      clear hO hrt
      go_wp2_with fail
      refine HO.out.mono ?_
      rintro e w6 ⟨rfl, hb6⟩
      have HB6 := Lib.hid (HNX.out.trans (hb6.mono HNX.out.size))
      clear hb6
      go_wp2_with fail
      go_ret
      exact ⟨rfl, HB6.out⟩

set_option maxRecDepth 100000 in
set_option maxHeartbeats 4000000 in
theorem pgOnceN (A : Option Addr) (n c : Nat) (l : List Nd) (w : World) (h : RdNs w A n l) (hn : n ≤ 100) (hz : ∀ s ∈ l.map Nd.nm, s.size ≤ maxLen) :
    Calls Tryz.prog 18 #[.slice A n c, .func (.func 19) #[] #[]] w fun e w' => e = .returned (.bool (onceS (l.map Nd.nm))) ∧ Below w.heap.size w w' := by
  have HR := Lib.hid h
  have hln := RdS.len h
  obtain ⟨i0, hi, ji0, ji1, ji2⟩ := info_parts infoString
  have HSU := Lib.hid fun (k : Nat) hk => nms_succ (l := l) (k := k) hk
  have HON := Lib.hid fun B cc w1 (a : RdT w1 B n (l.map Nd.nm)) => idOnce B n cc (l.map Nd.nm) w1 a hz hn
  have HTK := Lib.hid (show (l.map Nd.nm).take n = l.map Nd.nm from List.take_of_length_le (by rw [List.length_map, hln]; exact Nat.le_refl _))
  have HBX := Lib.hid nd_facts
  have HNM := Lib.hid pgNodeName
  have HLN := Lib.hid hln
  clear h hz hln
  unfold ndA at HBX HNM
  generalize l.map Nd.nm = ss at *
  generalize onceS ss = out at *
  go_enter Tryz.func18, Tryz.ntmps18
  go_wp2_with fail
  go_loopw [5, 10] (fun v i wr => ∃ k : Nat, k ≤ n ∧ i = .int .i64 k ∧ wr.ownsRow w.heap.size 9 1 v k ((ss.take k).map Value.string) ∧ Below w.heap.size w wr) (fun _ i _ => n - (intOf i).toNat)
  case atStart => exact ⟨0, Nat.zero_le _, rfl, ⟨rfl, .inl ⟨rfl, rfl⟩⟩, Below.refl _ _⟩
  case round =>
    obtain ⟨k, hk, rfl, hown, hnx⟩ := hrel
    have HNX := Lib.hid hnx
    have HOW := Lib.hid hown
    clear hown
    by_cases hlt : k < n
    · obtain ⟨b, off, A1, c1, A2, c2, A3, c3, A4, c4, rfl, hb, hrd, d0, d1, d2, d3, d4⟩ := nd_at (HR.out.below hnx) hlt
      have HSK := Lib.hid (HSU.out k (by rw [HLN.out]; exact hlt))
      have HRDx := Lib.hid hrd
      clear hnx hrd
      generalize l[k]?.getD default = p at *
      have HF3 := Lib.hid fun w3 h => HBX.out wr p A1 c1 A2 c2 A3 c3 A4 c4 w3 h HRDx.out
      go_upto_region 5 with (fail)
      generalize hw3 : wr.alloc _ = w3
      obtain ⟨hb3, hg3, hr3, hcell3⟩ := HF3.out w3 hw3
      have HB3 := Lib.hid (HNX.out.trans (hb3.mono HNX.out.size))
      have HOW3 := Lib.hid (own_below HOW.out hb3)
      have e0 := hcell3 w3 (Below.refl _ _) 0
      have e1 := hcell3 w3 (Below.refl _ _) 1
      have e2 := hcell3 w3 (Below.refl _ _) 2
      have e3 := hcell3 w3 (Below.refl _ _) 3
      have e4 := hcell3 w3 (Below.refl _ _) 4
      simp only [List.getElem?_toArray, List.getElem?_cons_zero, List.getElem?_cons_succ] at e0 e1 e2 e3 e4
      have HCL := Lib.hid (HNM.out p A1 c1 A2 c2 A3 c3 A4 c4 w3 hr3)
      clear hcell3 hb3 hw3 HF3 d0 d1 d2 d3 d4 hr3
      go_wp2_with fail
      refine HCL.out.mono ?_
      rintro e w4 ⟨rfl, hb4⟩
      have HB4 := Lib.hid (HB3.out.trans (hb4.mono HB3.out.size))
      have HOW4 := Lib.hid (own_below HOW3.out hb4)
      clear hb4 e0 e1 e2 e3 e4
      go_wp2_with (at_builtin; refine wpList_append_own_at _ rfl _ _ 38 rfl w.heap.size 9 i0 (.string ByteArray.empty) 1 16 Tryz.underlying38 hi ji0 ji1 ji2 rfl (by decide) _ _ _ rfl (HOW4.out.alloc _) ⟨w4.heap.size, 0, none⟩ 1 1 [.string p.nm] rfl rfl (cell_one_new _ _ _) (string_cells [p.nm]) (by unfold maxLen; omega) (by omega) (by have := HB4.out.size; simp; omega) ?_; intro v' w5 hown' hgrow hnil hloc; have hB5 := (HB4.out.alloc HB4.out.size (.cells #[.string p.nm] 9)).grown hgrow (by have := HB4.out.size; simp; omega) (fun j hj => (HOW4.out.lt j hj).1); have HO5 := Lib.hid hown'; have HB5 := Lib.hid hB5; clear hgrow hown' hnil hloc hB5)
      go_roundw
      case rel =>
        refine ⟨k + 1, by omega, by go_num, ?_, HB5.out⟩
        rw [HSK.out, List.map_append]
        exact HO5.out
      case measure => simp [intOf]; omega
    · obtain rfl : k = n := by omega
      have hO := HOW.out
      rw [HTK.out] at hO
      obtain ⟨B, cc, rfl, hrt, -⟩ := RdT.of_own hO (by omega)
      have HO := Lib.hid (HON.out B cc wr hrt)
      clear hO hrt
      go_wp2_with fail
      refine HO.out.mono ?_
      rintro e w6 ⟨rfl, hb6⟩
      have HB6 := Lib.hid (HNX.out.trans (hb6.mono HNX.out.size))
      clear hb6
      go_wp2_with fail
      go_ret
      exact ⟨rfl, HB6.out⟩

set_option maxRecDepth 100000 in
set_option maxHeartbeats 4000000 in
theorem pgDoubled (x : Nd) (A1 : Option Addr) (c1 : Nat) (A2 : Option Addr) (c2 : Nat) (A3 : Option Addr) (c3 : Nat) (A4 : Option Addr) (c4 : Nat) (w : World) (h : rdN w x A1 A2 A3 A4) (hn : x.all.length ≤ 100) (hz : ∀ d ∈ x.all, d.nm.size ≤ maxLen) :
    Calls Tryz.prog 20 #[.agg (ndA x A1 c1 A2 c2 A3 c3 A4 c4)] w fun e w' => e = .returned (.bool (!onceS (namesD x.all))) ∧ Below w.heap.size w w' := by
  have HF := Lib.hid fun w1 hw => nd_facts w x A1 c1 A2 c2 A3 c3 A4 c4 w1 hw h
  have HCC := Lib.hid fun b w1 (a : rdN w1 x A1 A2 A3 A4) hc hb => slConcatD x A1 c1 A2 c2 A3 c3 A4 b w1 a hc hb (by omega)
  have HON := Lib.hid fun A c w1 (a : RdD w1 A x.all.length x.all) => pgOnceD A x.all.length c x.all w1 a hn (fun s hs => by
    obtain ⟨d, hd, rfl⟩ := List.mem_map.1 hs
    exact hz d hd)
  clear h hn hz
  unfold ndA at HF ⊢
  unfold lists3 at HCC
  generalize x.all = all at *
  generalize onceS (namesD all) = out at *
  go_enter Tryz.func20, Tryz.ntmps20
  go_upto_region 1 with (fail)
  generalize hw1 : w.alloc _ = w1
  obtain ⟨hb1, hg, hR1, hcell⟩ := HF.out w1 hw1
  have HB1 := Lib.hid hb1
  have q1 := hcell w1 (Below.refl _ _) 1
  have q2 := hcell w1 (Below.refl _ _) 2
  have q3 := hcell w1 (Below.refl _ _) 3
  simp only [List.getElem?_toArray, List.getElem?_cons_zero, List.getElem?_cons_succ] at q1 q2 q3
  have hb2 := (Below.refl w1.heap.size w1).alloc (Nat.le_refl _) (.cells #[.slice A1 x.ins.length c1, .slice A2 x.outs.length c2, .slice A3 x.vars.length c3] 33)
  have HB2 := Lib.hid (HB1.out.trans (hb2.mono HB1.out.size))
  have HC2 := Lib.hid (HCC.out w1.heap.size _ (hR1.below hb2) (fun j => by rw [World.cell?_alloc_new]) (by simp))
  rw [hg] at HC2
  clear hw1 hcell hb1 hb2 HF hR1
  go_wp2_with fail
  refine HC2.out.mono ?_
  rintro e w3 ⟨A, c, rfl, hrd, hb3⟩
  have HB3 := Lib.hid (HB2.out.trans (hb3.mono HB2.out.size))
  have HO := Lib.hid (HON.out A c w3 hrd)
  clear hrd hb3
  go_wp2_with fail
  refine HO.out.mono ?_
  rintro e w4 ⟨rfl, hb4⟩
  have HB4 := Lib.hid (HB3.out.trans (hb4.mono HB3.out.size))
  clear hb4
  go_wp2_with fail
  go_ret
  exact ⟨rfl, HB4.out⟩
end Go.Proofs.YtapnodhgjfbjjaaGreat
