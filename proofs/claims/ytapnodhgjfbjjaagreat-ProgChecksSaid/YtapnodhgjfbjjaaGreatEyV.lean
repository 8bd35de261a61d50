/- What expr.Each hands back: an iterator over all parts of an expression. Conditions: none. What expr.Each returns; how many parts an expression has: of the program's text. Conditions: at most 1000000 parts. Which variables an expression names: of the program's text. Conditions: at most 1000000 parts. -/
import Derived.RangeFuncNested
import Derived.RangeFuncBound
import Derived.RangeFuncCalls
import Derived.RangeFuncLeaves
import Derived.Shelf.Abstract
import Derived.Shelf.RegionOpen
import Derived.WalkKit
import Derived.OwnWalkIn
import Derived.TacticsInMore
import Derived.LoopNIn
import Derived.LoopIn
import Derived.Test.YtapnodhgjfbjjaaGreatExV
import Derived.RangeFuncBox
import Derived.Maps.AppendAt
namespace Go.Proofs.YtapnodhgjfbjjaaGreat
open Go.RowKit Go.Shelf
set_option linter.unusedVariables false
set_option linter.unusedSimpArgs false
attribute [local go_sem] Oper.semAt_some

theorem roundAnyDepth {F : Fence} (hd : F.depth = none) {m m' : Nat} {P : Program} {l : Nat} {f : FuncId} {tmps : Array Value} {assign body : Code} {w : World} {R : Ending → World → Prop}
    (h : RoundIn F m P l f tmps assign body w R) : RoundIn F m' P l f tmps assign body w R := ⟨h.1, fun c cs _ => h.2 c cs (fun d h => by rw [hd] at h; cases h)⟩
theorem yieldAnyDepth {F : Fence} (hd : F.depth = none) {m : Nat} (m' : Nat) {P : Program} {l : Nat} {args : Array Value} {W : World} {R : Ending → World → Prop} (h : YieldAt F m P l args W R) : YieldAt F m' P l args W R := by
  obtain ⟨fn, tmps, assign, body, hy, hR⟩ := h
  exact ⟨fn, tmps, assign, body, hy, roundAnyDepth hd hR⟩

theorem grownBy_of_below' {W W' : World} (h : Below W.heap.size W W') : W.grownBy W' none := ⟨h.os, h.tape, h.output, h.size, fun i hi _ => h.block i hi⟩

/-- A part, and where its arms and subs lie. -/
structure Pt where
  x : Ex
  A : Option Addr
  ca : Nat
  B : Option Addr
  cb : Nat
/-- What the iterator hands to a round. -/
def encP (p : Pt) : Array Value := #[.agg (exA p.x p.A p.ca p.B p.cb)]
/-- A part of those that come. -/
abbrev PtIn (w0 : World) (e : Ex) := { p : Pt // rdX w0 p.x p.A p.B ∧ p.x ∈ partsX e }
def exs {w0 : World} {e : Ex} (l : List (PtIn w0 e)) : List Ex := l.map fun p => p.1.x
theorem exs_app {w0 : World} {e : Ex} (a b : List (PtIn w0 e)) : exs (a ++ b) = exs a ++ exs b := by simp [exs]
theorem exs_len {w0 : World} {e : Ex} (a : List (PtIn w0 e)) : (exs a).length = a.length := by simp [exs]

/-- Blocks that hold expressions lie as they lay. -/
def KeepsE (W W' : World) : Prop := ∀ (k : Nat) (cs : Array Value) (h : Nat × Nat), W.heap[k]? = some (Obj.cells cs 41 h) → W'.heap[k]? = some (Obj.cells cs 41 h)
theorem KeepsE.refl (W : World) : KeepsE W W := fun _ _ _ h => h
theorem KeepsE.trans {A B C : World} (h : KeepsE A B) (k : KeepsE B C) : KeepsE A C := fun i cs t e => k i cs t (h i cs t e)
theorem memPartssI : ∀ {l : List Ex} {i : Nat} {q : Ex}, i < l.length → q ∈ partsX (l[i]?.getD default) → q ∈ partssX l
  | [], i, q, h, _ => absurd h (by simp)
  | x :: l, 0, q, _, hq => by
    simp only [List.getElem?_cons_zero, Option.getD_some] at hq
    simp only [partssX]
    exact List.mem_append_left _ hq
  | x :: l, i + 1, q, h, hq => by
    simp only [List.getElem?_cons_succ] at hq
    simp only [partssX]
    exact List.mem_append_right _ (memPartssI (by simpa using h) hq)
theorem KeepsE.of_below {W W' : World} (h : Below W.heap.size W W') : KeepsE W W' := fun k cs t e => (h.block k (Array.getElem?_eq_some_iff.1 e).1).trans e
theorem KeepsE.cell {W W' : World} (h : KeepsE W W') {k : Nat} {cs : Array Value} (e : W.heap[k]? = some (Obj.cells cs 41)) (j : Nat) : W'.cell? ⟨k, j, none⟩ = W.cell? ⟨k, j, none⟩ :=
  World.cell?_of_block (a := ⟨k, j, none⟩) ((h k cs _ e).trans e.symm)
/-- What a round that goes on keeps. -/
def KpE (n : Nat) (W W' : World) : Prop := Below n W W' ∧ KeepsE W W'
theorem KpE.refl (n : Nat) (W : World) : KpE n W W := ⟨Below.refl _ _, KeepsE.refl _⟩
theorem KpE.trans {n : Nat} {A B C : World} (h : KpE n A B) (k : KpE n B C) : KpE n A C := ⟨h.1.trans k.1, h.2.trans k.2⟩
theorem KpE.of_below {n : Nat} {W W' : World} (h : Below W.heap.size W W') (hn : n ≤ W.heap.size) : KpE n W W' := ⟨h.mono hn, KeepsE.of_below h⟩
theorem kpE_b {n₀ : Nat} {w : World} (hn : n₀ ≤ w.heap.size) (W : World) (l : Nat) (o o' : Obj) (hl : w.heap.size ≤ l) (h : W.heap[l]? = some o) (hc : o.isCells = false) (hw : o.isWalk = false) : KpE n₀ W (W.putObj l o') :=
  ⟨belowK_b hn W l o o' hl h hc hw, fun k cs t e => by
    refine (World.putObj_heap_other (fun e' => ?_)).trans e
    subst e'
    rw [h] at e
    injection e with e
    subst e
    cases hc⟩

set_option maxRecDepth 100000 in
set_option maxHeartbeats 2000000 in
theorem each_in (l N D : Nat) (e0 : Ex) (w0 : World) (J Jx : List (PtIn w0 e0) → World → Prop) (hJ : AbidesFrom D J)
    (hY : ∀ m pre (x : PtIn w0 e0) W, J pre W → pre.length < N → YieldAt Fence.wide m Tryz.prog l (encP x.1) W fun e W' =>
      (e = .returned (.bool true) ∧ J (pre ++ [x]) W' ∧ KpE w0.heap.size W W') ∨ (e = .returned (.bool false) ∧ Jx (pre ++ [x]) W')) :
    ∀ (x : Ex) (A : Option Addr) (ca : Nat) (B : Option Addr) (cb n : Nat) (pre : List (PtIn w0 e0)) (W : World), rdX w0 x A B → (∀ q ∈ partsX x, q ∈ partsX e0) → Below w0.heap.size w0 W → J pre W → pre.length + sizeX x ≤ N →
      CallsIn Fence.wide n Tryz.prog 83 #[.agg (exA x A ca B cb), .func (.yield l) #[] #[]] W fun e W' =>
        (e = .returned (.bool true) ∧ ∃ ps : List (PtIn w0 e0), exs ps = partsX x ∧ J (pre ++ ps) W' ∧ KpE w0.heap.size W W') ∨ (e = .returned (.bool false) ∧ ∃ ps : List (PtIn w0 e0), exs ps <+: partsX x ∧ Jx (pre ++ ps) W') := by
  refine size_ind fun x ih A ca B cb n pre W hr hin hb0 hJ0 hN => ?_
  have hJB : ∀ pre W W', Below W.heap.size W W' → J pre W → J pre W' := fun pre W W' h hj => hJ _ _ _ none hj (grownBy_of_below' h) (fun r e => by cases e)
  have hsx := sizeX_eq x
  have hmx := hr.subs.max
  have hpx := partsX_eq x
  have HIH := Lib.hid ih
  have HIN := Lib.hid hin
  have HB0 := Lib.hid hb0
  have HR0 := Lib.hid hr
  have HJB := Lib.hid hJB
  have HPX := Lib.hid hpx
  have hmem : x ∈ partsX e0 := hin x (by rw [hpx]; exact List.mem_cons_self)
  have HSUBS := Lib.hid fun k (hk : k < x.subs.length) (q : Ex) (hq : q ∈ partsX (subX x k)) => hin q (by rw [hpx]; exact List.mem_cons_of_mem _ (memPartssI hk hq))
  have HSN := Lib.hid fun i (hi : i < x.subs.length) => sizes_snoc hi
  have HPN := Lib.hid fun i (hi : i < x.subs.length) => partss_snoc hi
  have HLE := Lib.hid fun i => sizes_take x.subs i
  have HTL := Lib.hid (List.take_length (l := x.subs))
  have HTP := Lib.hid fun k => (show partssX (x.subs.take k) <+: partssX x.subs from ⟨partssX (x.subs.drop k), by rw [← partssX_app, List.take_append_drop]⟩)
  have hbA : Below W.heap.size W (W.alloc (.cells (exA x A ca B cb) 41)) := (Below.refl _ _).alloc (Nat.le_refl _) _
  have hblk : (W.alloc (.cells (exA x A ca B cb) 41)).heap[W.heap.size]? = some (.cells (exA x A ca B cb) 41) := World.alloc_heap_new _ _
  obtain ⟨xp, hxp⟩ : ∃ xp : PtIn w0 e0, xp.1 = ⟨x, A, ca, B, cb⟩ := ⟨⟨_, hr, hmem⟩, rfl⟩
  have hxx : exs [xp] = [x] := by simp [exs, hxp]
  have HXX := Lib.hid hxx
  obtain ⟨fn, tmps, assign, body, hy, hR⟩ := hY (n - 1) pre xp _ (hJB _ _ _ hbA hJ0) (by have := size_pos x; omega)
  obtain ⟨_, _, _, hcell⟩ := box_facts W x A ca B cb _ rfl (hr.below hb0)
  have q0 := hcell _ (Below.refl _ _) 0
  have q1 := hcell _ (Below.refl _ _) 1
  have q2 := hcell _ (Below.refl _ _) 2
  have q3 := hcell _ (Below.refl _ _) 3
  have q4 := hcell _ (Below.refl _ _) 4
  have q5 := hcell _ (Below.refl _ _) 5
  have HBK := Lib.hid hblk
  have HBA := Lib.hid hbA
  have HJ0 := Lib.hid hJ0
  clear hJ0 hr hin hb0 ih hpx hmem hcell hblk hbA hJB hY hxx
  rw [hxp] at hy
  dsimp only [encP] at hy
  unfold exA at hy q0 q1 q2 q3 q4 q5 HBK HBA HIH
  have HR := Lib.hid hR
  clear hR
  unfold exA at HR ⊢
  clear hxp
  generalize hlen : x.subs.length = len at *
  refine callsIn_of_wp Tryz.func83 rfl trivial ?_ rfl
  simp only [Tryz.ntmps83, List.size_toArray, List.length_cons, List.length_nil, Nat.reduceAdd, Nat.reduceSub, Array.replicate_succ, Array.replicate_zero, List.push_toArray, List.append_toArray, List.nil_append, List.cons_append]
  gi_wp2_with fail
  refine ⟨fun h => (by cases h), HR.out.mono ?_⟩
  rintro e W3 (⟨rfl, hJ3, hk3⟩ | ⟨rfl, hJx3⟩)
  · have HJ3 := Lib.hid hJ3
    have HK3 := Lib.hid (show KpE w0.heap.size W W3 from ⟨(HBA.out.mono HB0.out.size).trans hk3.1, (KeepsE.of_below HBA.out).trans hk3.2⟩)
    have r5 := (hk3.2.cell HBK.out 5).trans q5
    clear q0 q1 q2 q3 q4 q5 hJ3 hk3 hy
    gi_wp2_with fail
    gi_loopw [14] (fun i wr => ∃ (k : Nat) (ps : List (PtIn w0 e0)), k ≤ len ∧ i = .int .i64 k ∧ exs ps = x :: partssX (x.subs.take k) ∧ J (pre ++ ps) wr ∧ KpE w0.heap.size W wr) (fun i _ => len - (intOf i).toNat)
    case atStart => exact ⟨0, [xp], Nat.zero_le _, rfl, by rw [HXX.out]; simp [partssX], HJ3.out, HK3.out⟩
    case round =>
      obtain ⟨k, ps, hk, rfl, hps, hJk, hkp⟩ := hrel
      have HPS := Lib.hid hps
      have HJK := Lib.hid hJk
      have HKP := Lib.hid hkp
      have HBW := Lib.hid (HB0.out.trans hkp.1)
      have hpl : ps.length = 1 + sizesX (x.subs.take k) := by rw [← exs_len, hps, List.length_cons, partssX_len]; omega
      have hle := HLE.out k
      clear hps hJk hkp
      by_cases hlt : k < len
      · obtain ⟨b, off, rfl, hb, hat⟩ := HR0.out.sub (i := k) (by omega)
        obtain ⟨A', ca', B', cb', hrg, hrd⟩ := hat k (by omega)
        obtain ⟨c0, c1, c2, c3, c4, c5⟩ := rangeAt_six (rangeAt_keep hrg hb fun p hp => HBW.out.cell hp)
        obtain ⟨hbE, _, _, hcE⟩ := box_facts wr (subX x k) A' ca' B' cb' _ rfl (hrd.below HBW.out)
        have HBE := Lib.hid hbE
        have d0 := hcE _ (Below.refl _ _) 0
        have d1 := hcE _ (Below.refl _ _) 1
        have d2 := hcE _ (Below.refl _ _) 2
        have d3 := hcE _ (Below.refl _ _) 3
        have d4 := hcE _ (Below.refl _ _) 4
        have d5 := hcE _ (Below.refl _ _) 5
        have hsn := HSN.out k (by omega)
        have hle2 := HLE.out (k + 1)
        have HPNK := Lib.hid (HPN.out k (by omega))
        have hBWE := HBW.out.trans (hbE.mono HBW.out.size)
        have HCL := Lib.hid (HIH.out k (by omega) A' ca' B' cb' (n - 1) (pre ++ ps) _ hrd (HSUBS.out k (by omega)) hBWE (HJB.out _ _ _ hbE HJK.out) (by simp; omega))
        clear hat hrg hrd hbE hcE hBWE
        unfold exA at HCL HBE d0 d1 d2 d3 d4 d5
        generalize subX x k = y at *
        gi_wp2_with fail
        refine ⟨trivial, fun h => (by cases h), (HCL.out).mono ?_⟩
        rintro e W4 (⟨rfl, qs, hqs, hJ4, hk4⟩ | ⟨rfl, qs, hqs, hJx4⟩)
        · have HQS := Lib.hid hqs
          have HJ4 := Lib.hid hJ4
          have HK4 := Lib.hid (show KpE w0.heap.size W W4 from HKP.out.trans (((KpE.of_below HBE.out HBW.out.size)).trans hk4))
          clear hqs hJ4 hk4
          gi_wp2_with fail
          go_roundw
          case rel => exact ⟨k + 1, ps ++ qs, by omega, by go_num, by rw [exs_app, HPS.out, HQS.out, HPNK.out]; rfl, by rw [← List.append_assoc]; exact HJ4.out, HK4.out⟩
          case measure => simp [intOf]; omega
        · have HQS := Lib.hid hqs
          have HJ4 := Lib.hid hJx4
          have HTK := Lib.hid (HTP.out (k + 1))
          clear hqs hJx4
          gi_wp2_with fail
          go_ret
          refine .inr ⟨rfl, ps ++ qs, ?_, by rw [← List.append_assoc]; exact HJ4.out⟩
          rw [exs_app, HPS.out, HPX.out, List.cons_append]
          refine (List.prefix_cons_inj _).2 (List.IsPrefix.trans ?_ HTK.out)
          rw [HPNK.out]
          exact (List.prefix_append_right_inj _).2 HQS.out
      · have hkl : k = len := by omega
        subst hkl
        have HE := Lib.hid (hlen ▸ HTL.out : x.subs.take k = x.subs)
        gi_wp2_with fail
        go_ret
        refine .inl ⟨rfl, ps, ?_, HJK.out, HKP.out⟩
        rw [HPS.out, HE.out, HPX.out]
  · have HJ3 := Lib.hid hJx3
    clear hJx3
    gi_wp2_with fail
    go_ret
    refine .inr ⟨rfl, [xp], ?_, HJ3.out⟩
    rw [HXX.out, HPX.out]
    exact ⟨_, rfl⟩

set_option maxRecDepth 100000 in
set_option maxHeartbeats 2000000 in
theorem each_stops (n Bs : Nat) (x : Ex) (A : Option Addr) (ca : Nat) (B : Option Addr) (cb : Nat) (w0 w : World) (hr : rdX w0 x A B) (hb : Below w0.heap.size w0 w) (hbx : w.heap[Bs]? = some (Obj.cells (exA x A ca B cb) 41)) :
    SeqStopsK Fence.wide n Tryz.prog 82 #[.pointer (some ⟨Bs, 0, none⟩)] (fun p : PtIn w0 x => encP p.1) (KpE w0.heap.size) (fun ys => exs ys = partsX x) (fun pre => exs pre <+: partsX x) (sizeX x) w := fun l J Jx W hW hJ _ hY h0 => by
  have hbl := (Array.getElem?_eq_some_iff.1 hbx).1
  have hblk := (hW.block Bs hbl).trans hbx
  have HCL := Lib.hid (each_in l (sizeX x) W.heap.size x w0 J Jx hJ (fun m pre p W1 hj hl => yieldAnyDepth rfl m (hY pre p W1 hj hl)) x A ca B cb (n - 1) [] W hr (fun q hq => hq) (hb.trans (hW.mono hb.size)) h0 (by simp))
  have hcell : ∀ j, W.cell? ⟨Bs, j, none⟩ = (exA x A ca B cb)[j]? := fun j => by simp [World.cell?, hblk]
  have q0 := hcell 0
  have q1 := hcell 1
  have q2 := hcell 2
  have q3 := hcell 3
  have q4 := hcell 4
  have q5 := hcell 5
  clear hcell hbx hblk hY hr hW hJ h0
  unfold exA at HCL q0 q1 q2 q3 q4 q5
  refine callsIn_of_wp Tryz.func82 rfl trivial ?_ rfl
  simp only [Tryz.ntmps82, List.size_toArray, List.length_cons, List.length_nil, Nat.reduceAdd, Nat.reduceSub, Array.replicate_succ, Array.replicate_zero, List.push_toArray, List.append_toArray, List.nil_append, List.cons_append]
  gi_wp2_with fail
  refine ⟨trivial, fun h => (by cases h), (HCL.out).mono ?_⟩
  rintro e W4 (⟨rfl, qs, hqs, hJ4, hk4⟩ | ⟨rfl, qs, hqs, hJx4⟩)
  · have HQS := Lib.hid hqs
    have HJ4 := Lib.hid hJ4
    clear hqs hJ4 hk4
    gi_wp2_with fail
    go_end0
    exact ⟨⟨_, rfl⟩, .inl ⟨qs, HQS.out, HJ4.out⟩⟩
  · have HQS := Lib.hid hqs
    have HJ4 := Lib.hid hJx4
    clear hqs hJx4
    gi_wp2_with fail
    go_end0
    exact ⟨⟨_, rfl⟩, .inr ⟨qs, HQS.out, HJ4.out⟩⟩
end Go.Proofs.YtapnodhgjfbjjaaGreat

namespace Go.Proofs.YtapnodhgjfbjjaaGreat
open Go.RowKit Go.Shelf
set_option linter.unusedVariables false
set_option linter.unusedSimpArgs false
attribute [local go_sem] Oper.semAt_some

set_option maxRecDepth 100000 in
set_option maxHeartbeats 2000000 in
theorem exEach (x : Ex) (A : Option Addr) (ca : Nat) (B : Option Addr) (cb : Nat) (w : World) (hr : rdX w x A B) :
    Calls Tryz.prog 73 #[.agg (exA x A ca B cb)] w fun r w' => r = .returned (.func (.func 82) #[] #[.pointer (some ⟨w.heap.size, 0, none⟩)]) ∧ w' = w.alloc (Obj.cells (exA x A ca B cb) 41) := by
  have hmk : ∀ fn first cap w, (Instr.makeFunc fn first cap).run Tryz.prog w = .ok (.func fn first cap) w := fun _ _ _ _ => rfl
  clear hr
  unfold exA
  go_enter Tryz.func73, Tryz.ntmps73
  go_wp2_with fail
  go_ret
  exact ⟨rfl, rfl⟩

theorem box_facts2 (w : World) (x : Ex) (A : Option Addr) (ca : Nat) (B : Option Addr) (cb : Nat) (w1 : World) (h : w.alloc (.cells (exA x A ca B cb) 41) = w1) : w1.heap[w.heap.size]? = some (Obj.cells (exA x A ca B cb) 41) := by
  subst h
  exact World.alloc_heap_new _ _
theorem KeepsE.setCell {W : World} {B : Nat} {t : TypeId} {v : Value} (h : Boxed W B t v) (ht : t ≠ 41) (u : Value) : KeepsE W (W.setCell ⟨B, 0, none⟩ u) := fun k cs hh e => by
  have hne : some k ≠ some B := by
    intro e'
    injection e' with e'
    subst e'
    rw [show W.heap[k]? = _ from h] at e
    injection e with e
    injection e with _ e
    exact ht e
  have hk := (Array.getElem?_eq_some_iff.1 e).1
  exact ((grownBy_setCell' W B u).block k hk hne).trans e
theorem exs_part {w0 : World} {e : Ex} (pre : List (PtIn w0 e)) : pre.length = (exs pre).length := (exs_len pre).symm

end Go.Proofs.YtapnodhgjfbjjaaGreat

namespace Go.Proofs.YtapnodhgjfbjjaaGreat
open Go.RowKit Go.Shelf
set_option linter.unusedVariables false
set_option linter.unusedSimpArgs false
attribute [local go_sem] Oper.semAt_some

theorem stringCells (l : List ByteArray) : ∀ u ∈ l.map Value.string, u.oneCell' = true := by
  intro u hu
  simp only [List.mem_map] at hu
  obtain ⟨z, _, rfl⟩ := hu
  rfl

/-- Behind an append to a row that a box holds, and the store of it: as Boxed.appended, with another bound for the world. -/
theorem boxedAppended {W w1 : World} {n₀ m₀ B : Nat} {t e : TypeId} {size : Nat} {v v' : Value} {k m : Nat} {xs ys : List Value} {tmp : Obj}
    (hv : Boxed W B t v) (hte : t ≠ e) (hrow : W.ownsRow n₀ e size v k xs) (hn₀ : n₀ ≤ W.heap.size) (hm : m₀ ≤ n₀) (hB : m₀ ≤ B) (he : e ≠ 41) (ht : t ≠ 41)
    (hown' : w1.ownsRow n₀ e size v' m ys) (hgrow : (W.alloc tmp).grownBy w1 v.ownBlock) :
    Boxed w1 B t v ∧ Boxed (w1.setCell ⟨B, 0, none⟩ v') B t v' ∧ (w1.setCell ⟨B, 0, none⟩ v').ownsRow n₀ e size v' m ys ∧ KeepsOthers W (w1.setCell ⟨B, 0, none⟩ v') ∧ Below m₀ W (w1.setCell ⟨B, 0, none⟩ v') ∧ KeepsE W (w1.setCell ⟨B, 0, none⟩ v') := by
  have hv1 : Boxed w1 B t v := (hv.alloc tmp).kept hgrow (hv.not_row hte hrow)
  refine ⟨hv1, hv1.set v', hown'.kept (grownBy_setCell' w1 B v') (.inr (hv1.not_row hte hown').symm), ?_, ?_, ?_⟩
  · refine ((KeepsOthers.alloc W tmp).trans (KeepsOthers.of_grownBy hgrow fun j o ej hj => ?_)).trans (KeepsOthers.setCell _ _ _)
    rcases (hrow.alloc tmp).2 with ⟨rfl, _⟩ | ⟨g, cap, cur, rfl, _, hgb, _⟩
    · simp [Value.ownBlock] at ej
    · obtain rfl : g = j := by simpa [Value.ownBlock] using ej
      rw [hgb] at hj; cases hj; rfl
  · refine (((Below.refl m₀ W).alloc (by omega) tmp).grown hgrow (by simp; omega) fun j ej => ?_).setCell (p := ⟨B, 0, none⟩) hB v'
    have := (hrow.lt j ej).1
    omega
  · refine KeepsE.trans (fun k cs hh e1 => ?_) (KeepsE.setCell hv1 ht _)
    have hk := (Array.getElem?_eq_some_iff.1 e1).1
    have e2 := (Below.heap_alloc W tmp k hk).trans e1
    refine (hgrow.block k (by simp; omega) ?_).trans e2
    intro e3
    rcases hrow.2 with ⟨rfl, _⟩ | ⟨g, cap, cur, rfl, _, hgb, _⟩
    · simp [Value.ownBlock] at e3
    · obtain rfl : k = g := by simpa [Value.ownBlock] using e3
      rw [hgb] at e1
      injection e1 with e1
      injection e1 with _ e4
      exact he e4

/-- A block of cells abides the turn of a block that is no cells. -/
theorem blkOwn {β : Type} (B : Nat) (cs : Array Value) (t : TypeId) : Own (fun (_ : β) W => W.heap[B]? = some (Obj.cells cs t)) := fun s X Y row hs hg hrow =>
  (hg.block B (Array.getElem?_eq_some_iff.1 hs).1 (fun e' => by obtain ⟨o, ho, hc⟩ := hrow B e'.symm; rw [hs] at ho; cases ho; cases hc)).trans hs
theorem KeepsE.alloc (W : World) (o : Obj) : KeepsE W (W.alloc o) := KeepsE.of_below ((Below.refl _ _).alloc (Nat.le_refl _) o)

/-- Cells lie as they lay where a block of calls to come is emptied. -/
theorem cellKeptPut {W : World} {D : Nat} (hK : W.heap[D]? = some (.deferred (some []))) (p : Addr) : (W.putObj D (.deferred none)).cell? p = W.cell? p := by
  by_cases hp : p.block = D
  · have h1 : (W.putObj D (.deferred none)).heap[D]? = some (.deferred none) := World.putObj_heap_same (Array.getElem?_eq_some_iff.1 hK).1
    simp only [World.cell?, hp, h1, hK]
  · exact World.cell?_of_block (World.putObj_heap_other hp)

/-- The variables of the parts that have come. -/
def varsOf {w : World} {x : Ex} (pre : List (PtIn w x)) : List ByteArray := ((exs pre).filter isVar).map Ex.s
theorem varsOf_yes {w : World} {x : Ex} {pre : List (PtIn w x)} {y : PtIn w x} (h : isVar y.1.x = true) : varsOf (pre ++ [y]) = varsOf pre ++ [y.1.x.s] := by
  simp [varsOf, exs, List.filter_append, h]
theorem varsOf_no {w : World} {x : Ex} {pre : List (PtIn w x)} {y : PtIn w x} (h : isVar y.1.x = false) : varsOf (pre ++ [y]) = varsOf pre := by
  simp [varsOf, exs, List.filter_append, h]
theorem varsOf_len {w : World} {x : Ex} (pre : List (PtIn w x)) : (varsOf pre).length ≤ pre.length := by
  simp only [varsOf, List.length_map]
  exact Nat.le_trans (List.length_filter_le _ _) (by simp [exs])

end Go.Proofs.YtapnodhgjfbjjaaGreat
