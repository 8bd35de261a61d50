/- What may be wrong with enums, as plain functions of their lists. Conditions: none. What is wrong with enums: of the document's text. Conditions: at most 100 enums, and 12 constructors of each. Which types are right, how many cells they have, of what: of both texts. Conditions: none. Which enums are small; the page's example holds; the walks of TyEnums and TyTells. Conditions: none. Enums and types that came in, opened. Conditions: none. -/
import Derived.Test.YtapnodhgjfbjjaaIdZ
import Derived.Test.YtapnodhgjfbjjaaTyE
import Derived.Maps.AppendAt
import Derived.Test.YtapnodhgjfbjjaaApp
import Derived.Test.YtapnodhgjfbjjaaRows
import Derived.Deep.Slices
import Derived.Deep.Fields
import Derived.ChangeSame
import Derived.SliceStrings
namespace Go.Proofs.Ytapnodhgjfbjjaa
open Go.RowKit
set_option linter.unusedVariables false

/-- Whether an enum's name is low, and whether it has a constructor. -/
def enB (e : En) : Bool := lowB e.1.data.toList && !e.2.isEmpty
def hiB (s : ByteArray) : Bool := highB s.data.toList
def namedB (es : List En) : Bool := es.all enB && (allE es).all hiB

def namedTo (es : List En) (k : Nat) : Prop := ∀ j, j < k → lowB (nmE es j).data.toList = true ∧ 0 < (csE es j).length

section
variable {es : List En} {k : Nat}
theorem en_at (h : k < es.length) : es[k]'h = (nmE es k, csE es k) := by
  simp [nmE, csE, List.getElem?_eq_getElem h]
theorem enB_at (h : k < es.length) : enB (es[k]'h) = (lowB (nmE es k).data.toList && decide (0 < (csE es k).length)) := by
  rw [en_at h]
  unfold enB
  cases csE es k <;> simp
theorem named_bad (h : k < es.length) (hb : lowB (nmE es k).data.toList = false ∨ (csE es k).length = 0) : namedB es = false := by
  have : es.all enB = false := by
    rw [List.all_eq_false]
    refine ⟨es[k]'h, List.getElem_mem h, ?_⟩
    rw [enB_at h]
    rcases hb with h | h <;> simp [h]
  unfold namedB
  rw [this, Bool.false_and]
theorem namedTo_all (H : namedTo es k) (h : es.length ≤ k) : es.all enB = true := by
  rw [List.all_eq_true]
  intro e he
  obtain ⟨j, hj, rfl⟩ := List.getElem_of_mem he
  have := H j (by omega)
  rw [enB_at hj, this.1, decide_eq_true this.2]
  rfl
theorem namedTo_succ (H : namedTo es k) (h1 : lowB (nmE es k).data.toList = true) (h2 : 0 < (csE es k).length) : namedTo es (k + 1) := fun j hj => by
  rcases Nat.lt_or_ge j k with h | h
  · exact H j h
  · obtain rfl : j = k := by omega
    exact ⟨h1, h2⟩
theorem named_yes (h : es.all enB = true) (hp : ∀ p ∈ flatE es, hiB p.2.2 = true) : namedB es = true := by
  unfold namedB
  rw [h, Bool.true_and, List.all_eq_true]
  intro s hs
  obtain ⟨p, hp', rfl⟩ := List.mem_map.1 hs
  exact hp p hp'
theorem named_no {ini : List Pl} {x : Pl} (hp : ini ++ [x] <+: flatE es) (hx : hiB x.2.2 = false) : namedB es = false := by
  unfold namedB
  have hm : x ∈ flatE es := hp.subset (by simp)
  have : (allE es).all hiB = false := by
    rw [List.all_eq_false]
    exact ⟨x.2.2, List.mem_map.2 ⟨x, hm, rfl⟩, by simp [hx]⟩
  rw [this, Bool.and_false]
theorem EsOk.flat (h : EsOk es) : ∀ p ∈ flatE es, p.2.2.size ≤ maxLen := by
  intro p hp
  have h1 : p.2.2 ∈ namesTo es es.length := List.mem_map.2 ⟨p, hp, rfl⟩
  obtain ⟨j, hj, hm⟩ := namesTo_mem h1
  exact (h j hj).2 _ hm
end
/-- The enums' names. -/
def nmsE (es : List En) : List ByteArray := es.map (·.1)
def apartB (es : List En) : Bool := onceS (nmsE es) && onceS (allE es)
/-- How great enums may be, here. -/
def EsFew (es : List En) : Prop := es.length ≤ 8 ∧ ∀ j, j < es.length → (csE es j).length ≤ 12

section
variable {es : List En}
theorem EsFew.flat (h : EsFew es) : (flatE es).length ≤ 96 := by
  have h1 := namesTo_len (es := es) (i := es.length) h.2
  have h2 : (namesTo es es.length).length = (flatE es).length := by simp [namesTo, flatE]
  have := h.1
  omega
theorem EsOk.nms (h : EsOk es) : ∀ s ∈ nmsE es, s.size ≤ maxLen := by
  intro s hs
  obtain ⟨e, he, rfl⟩ := List.mem_map.1 hs
  obtain ⟨j, hj, rfl⟩ := List.getElem_of_mem he
  have := (h j hj).1
  unfold nmE at this
  rwa [List.getElem?_eq_getElem hj] at this
theorem EsOk.all (h : EsOk es) : ∀ s ∈ allE es, s.size ≤ maxLen := by
  intro s hs
  obtain ⟨p, hp, rfl⟩ := List.mem_map.1 hs
  exact h.flat p hp
theorem nmsE_len : (nmsE es).length = es.length := by simp [nmsE]
theorem nmsE_succ {k : Nat} (h : k < es.length) : (nmsE es).take (k + 1) = (nmsE es).take k ++ [nmE es k] := by
  rw [take_snocT (by rw [nmsE_len]; exact h)]
  unfold nmsE
  rw [nm_map]
end


def manyB (es : List En) : Bool := decide (4 < es.length) || es.any fun e => decide (6 < e.2.length)
def fewTo (es : List En) (k : Nat) : Prop := ∀ j, j < k → (csE es j).length ≤ 6
def enumsN (es : List En) : Int := if manyB es then 4 else if namedB es then (if apartB es then 0 else 6) else 1

section
variable {es : List En} {k : Nat}
theorem many_at (h : k < es.length) (hb : 6 < (csE es k).length) : manyB es = true := by
  unfold manyB
  rw [Bool.or_eq_true, List.any_eq_true]
  refine .inr ⟨es[k]'h, List.getElem_mem h, ?_⟩
  rw [en_at h]
  exact decide_eq_true hb
theorem many_no (h4 : es.length ≤ 4) (H : fewTo es k) (h : es.length ≤ k) : manyB es = false := by
  unfold manyB
  rw [Bool.or_eq_false_iff, List.any_eq_false]
  refine ⟨decide_eq_false (by omega), fun e he => ?_⟩
  obtain ⟨j, hj, rfl⟩ := List.getElem_of_mem he
  have := H j (by omega)
  rw [en_at hj]
  simp only [decide_eq_true_eq]
  omega
theorem few_of (h : manyB es = false) : es.length ≤ 4 ∧ ∀ j, j < es.length → (csE es j).length ≤ 6 := by
  unfold manyB at h
  rw [Bool.or_eq_false_iff, List.any_eq_false] at h
  refine ⟨by have := h.1; simp at this; omega, fun j hj => ?_⟩
  have := h.2 (es[j]'hj) (List.getElem_mem hj)
  rw [en_at hj] at this
  simp at this
  exact this
theorem fewTo_succ (H : fewTo es k) (h : (csE es k).length ≤ 6) : fewTo es (k + 1) := fun j hj => by
  rcases Nat.lt_or_ge j k with h1 | h1
  · exact H j h1
  · obtain rfl : j = k := by omega
    exact h
end
theorem cell3 (w : World) (T : TypeId) (a b c : Value) : (w.alloc (.cells #[a, b, c] T)).cell? ⟨w.heap.size, 0, none⟩ = some a ∧ (w.alloc (.cells #[a, b, c] T)).cell? ⟨w.heap.size, 1, none⟩ = some b ∧ (w.alloc (.cells #[a, b, c] T)).cell? ⟨w.heap.size, 2, none⟩ = some c := by
  refine ⟨?_, ?_, ?_⟩ <;> simp [go_sem]

end Go.Proofs.Ytapnodhgjfbjjaa

namespace Go.Proofs.Ytapnodhgjfbjjaa
open Go.RowKit
set_option linter.unusedVariables false

theorem RdT.news {w : World} {a : Addr} {n : Nat} {l : List ByteArray} (h : RdT w (some a) n l) (j : Nat) (u : Value) (hu : (l.map Value.string)[j]? = some u) : w.cell? (a.add j) = some u := by
  have hj : j < l.length := by
    rcases Nat.lt_or_ge j l.length with h | h
    · exact h
    · rw [List.getElem?_eq_none (by simpa using h)] at hu; cases hu
  obtain ⟨b, off, e, _, hc⟩ := h.at_ (i := j) (by rw [← h.len]; exact hj)
  injection e with e
  subst e
  have := hc j (by rw [← h.len]; exact hj)
  have e2 : (⟨b, off, none⟩ : Addr).add j = ⟨b, off + j, none⟩ := by unfold Addr.add; split <;> simp_all
  rw [e2, this, ← hu]
  simp [List.getElem?_eq_getElem hj]

section
variable {P : Program} {w : World}
/-- append of a list of texts, nil among them, to a row of texts. -/
theorem wpList_append_rdT {ops : Array Oper} {rest : List Oper} {o : Oper} {a : Act} {Q : Exit → Act → World → Prop} (hgd : o.guard = none) (s x : Operand) (t : TypeId)
    (ho : o.op = .call { callee := .builtin .append, args := #[s, x], argTypes := #[t, t] })
    (base : Nat) (e : TypeId) (i : TypeInfo) (z : Value) (bytes : Nat) (ht : P.underlying t = some (.slice e)) (hi : P.info? e = some i) (hz : i.zero = some z)
    (hsize : i.size = 1) (hby : i.bytes = bytes) (hzs : z.cells.size = 1)
    (v : Value) (n : Nat) (xs : List ByteArray) (hs : a.eval s = v) (hown : w.ownsRow base e 1 v n (xs.map Value.string))
    (A : Option Addr) (m c : Nat) (l : List ByteArray) (hx : a.eval x = .slice A m c) (hr : RdT w A m l)
    (h63 : n + m ≤ maxLen) (hbytes : (n + m) * bytes ≤ 140737488355328) (hbase : base ≤ w.heap.size)
    (h : ∀ v' w', w'.ownsRow base e 1 v' (n + m) ((xs ++ l).map Value.string) → w.grownBy w' v.ownBlock → (v'.ownBlock = v.ownBlock ∨ v'.ownBlock = some w.heap.size) → wpList P ops Q rest (a.put o.dst v') w') : wpList P ops Q (o :: rest) a w := by
  rcases A with _ | ad
  · obtain rfl : m = 0 := by
      rcases Nat.eq_zero_or_pos m with h0 | h0
      · exact h0
      · obtain ⟨b, off, e, _⟩ := hr.at_ h0; cases e
    obtain rfl : l = [] := List.eq_nil_of_length_eq_zero hr.len
    refine wpList_plain hgd fun K hK => ?_
    have hrun := run_append_nil (P := P) (w := w) base t o.type e i 1 ht hi v n _ hown c
    unfold Oper.wp
    simp [execOp, ho, resolve, invoke, builtin, hs, hx, hrun, Result.andThen]
    exact hK _ _ (h v w (by simpa using hown) (World.grownBy.refl w _) (.inl rfl))
  · exact wpList_append_own_at w hgd s x t ho base e i z 1 bytes ht hi hz hsize hby hzs (by decide) v n _ hs hown ad m c (l.map Value.string) hx (by simp [hr.len]) hr.news (string_cells _) h63 hbytes hbase fun v' w' h1 h2 _ h4 => h v' w' (by rw [List.map_append]; exact h1) h2 h4
end

/-- Two rows lie apart. -/
def Apt (u v : Value) : Prop := ∀ g, u.ownBlock = some g → v.ownBlock ≠ some g
theorem Apt.kept1 {u v v' : Value} {n : Nat} (h : Apt u v) (hl : v'.ownBlock = v.ownBlock ∨ v'.ownBlock = some n) (hu : ∀ g, u.ownBlock = some g → g < n) : Apt u v' := fun g hg e => by
  rcases hl with h1 | h1
  · exact h g hg (h1 ▸ e)
  · have := hu g hg
    rw [h1] at e
    cases e
    omega
theorem Apt.symm {u v : Value} (h : Apt u v) : Apt v u := fun g hg e => h g e hg
theorem Apt.ne {u v : Value} (h : Apt u v) : u.ownBlock = none ∨ u.ownBlock ≠ v.ownBlock := by
  rcases hub : u.ownBlock with _ | g
  · exact .inl rfl
  · exact .inr fun e => h g hub e.symm

end Go.Proofs.Ytapnodhgjfbjjaa

namespace Go.Proofs.Ytapnodhgjfbjjaa
open Go.RowKit
set_option linter.unusedVariables false

/-- A type: its kind, its enum, its length. -/
def tyV (k e l : Int) : Value := .agg #[.int .i64 k, .int .i64 e, .int .i64 l]
def rightB (n : Nat) (k e l : Int) : Bool :=
  decide (0 ≤ l ∧ l ≤ 8) && (if k = 1 ∨ k = 2 then decide (e = 0) else decide (k = 3 ∧ 0 ≤ e ∧ e < n))
def cellsN (l : Int) : Int := min (max l 1) 8

section
variable {n : Nat} {k e l : Int}
theorem right_len (h : l < 0 ∨ 8 < l) : rightB n k e l = false := by
  simp only [rightB, decide_eq_false (show ¬ (0 ≤ l ∧ l ≤ 8) by omega), Bool.false_and]
theorem right_base (h : 0 ≤ l ∧ l ≤ 8) (hk : k = 1 ∨ k = 2) : rightB n k e l = decide (e = 0) := by
  simp only [rightB, decide_eq_true h, Bool.true_and, if_pos hk]
theorem right_enum (h : 0 ≤ l ∧ l ≤ 8) (hk : k = 3) : rightB n k e l = decide (0 ≤ e ∧ e < n) := by
  subst hk
  simp [rightB, decide_eq_true h]
theorem right_kind (hk : ¬ (k = 1 ∨ k = 2)) (h3 : k ≠ 3) : rightB n k e l = false := by
  simp [rightB, if_neg hk, h3]
end

end Go.Proofs.Ytapnodhgjfbjjaa

namespace Go.Proofs.Ytapnodhgjfbjjaa
open Go.RowKit
set_option linter.unusedVariables false

def tinyTo (es : List En) (k : Nat) : Prop := ∀ j, j < k → (csE es j).length ≤ 12 ∧ (nmE es j).size ≤ 100 ∧ ∀ q, q < (csE es j).length → (ctAt es j q).size ≤ 100
def EsTiny (es : List En) : Prop := es.length ≤ 8 ∧ tinyTo es es.length

theorem EsTiny.few {es : List En} (h : EsTiny es) : EsFew es := ⟨h.1, fun j hj => (h.2 j hj).1⟩
theorem EsTiny.ok {es : List En} (h : EsTiny es) : EsOk es := fun j hj => by
  have h1 := h.2 j hj
  unfold maxLen
  refine ⟨by omega, fun s hs => ?_⟩
  obtain ⟨q, hq, rfl⟩ := List.getElem_of_mem hs
  have := h1.2.2 q hq
  unfold ctAt at this
  rw [List.getElem?_eq_getElem hq, Option.getD_some] at this
  omega
theorem tinyTo_succ {es : List En} {k : Nat} (H : tinyTo es k) (h1 : (csE es k).length ≤ 12) (h2 : (nmE es k).size ≤ 100) (h3 : ∀ q, q < (csE es k).length → (ctAt es k q).size ≤ 100) : tinyTo es (k + 1) := fun j hj => by
  rcases Nat.lt_or_ge j k with h | h
  · exact H j h
  · obtain rfl : j = k := by omega
    exact ⟨h1, h2, h3⟩

/-- What Small tells: if it tells true, they are small. -/
def SmallPost (es : List En) (w : World) (e : Ending) (w' : World) : Prop := ∃ b, e = .returned (.bool b) ∧ (b = true → EsTiny es) ∧ w = w'
theorem small_no (es : List En) (w : World) : SmallPost es w (.returned (.bool false)) w := ⟨false, rfl, fun h => (by cases h), rfl⟩
theorem small_yes {es : List En} (h : EsTiny es) (w : World) : SmallPost es w (.returned (.bool true)) w := ⟨true, rfl, fun _ => h, rfl⟩

set_option maxRecDepth 100000 in
set_option maxHeartbeats 4000000 in
theorem refEnSmall (A : Option Addr) (len cap : Nat) (es : List En) (w : World) (hE : RdE w A len es) :
    Calls Try.prog 16 #[.slice A len cap] w (SmallPost es w) := by
  have hlen := hE.len
  have hmx := hE.max
  by_cases h8 : 8 < len
  · go_enter Try.func16, Try.ntmps16
    go_wp2_with fail
    go_ret
    exact small_no es w
  · have hd8 : decide ((8 : Int) < (len : Int)) = false := decide_eq_false (by omega)
    go_enter Try.func16, Try.ntmps16
    go_wp2_with fail
    go_loop [3] (fun i => ∃ k : Nat, k ≤ len ∧ i = .int .i64 k ∧ tinyTo es k) (fun i => len - (intOf i).toNat)
    case atStart => exact ⟨0, Nat.zero_le _, rfl, fun j hj => absurd hj (by omega)⟩
    case round =>
      obtain ⟨k, hk, rfl, hto⟩ := hrel
      have HT := Lib.hid hto
      clear hto
      by_cases hlt : k < len
      · obtain ⟨b, off, rfl, hb, hc⟩ := hE.at_ hlt
        obtain ⟨hn0, A', n', c', hs0, hR0⟩ := hc k hlt
        have hkl : k < es.length := by omega
        have hcl := hR0.len
        have hcm := hR0.max
        clear hc
        by_cases h12 : 12 < n'
        · go_wp2_with fail
          go_ret
          exact small_no es w
        · have HS := Lib.hid fun h2 h3 => tinyTo_succ HT.out (show (csE es k).length ≤ 12 by omega) h2 h3
          have hd12 : decide ((12 : Int) < (n' : Int)) = false := decide_eq_false (by omega)
          generalize nmE es k = x at hn0 HS
          by_cases h100 : 100 < x.size
          · go_wp2_with fail
            go_ret
            exact small_no es w
          · have HS := Lib.hid fun h3 => HS.out (by omega) h3
            have hd100 : decide ((100 : Int) < (x.size : Int)) = false := decide_eq_false (by omega)
            go_wp2_with fail
            go_loop [4] (fun i => ∃ m : Nat, m ≤ n' ∧ i = .int .i64 m ∧ ∀ q, q < m → (ctAt es k q).size ≤ 100) (fun i => n' - (intOf i).toNat)
            case atStart => exact ⟨0, Nat.zero_le _, rfl, fun j hj => absurd hj (by omega)⟩
            case round =>
              obtain ⟨m, hm, rfl, hto⟩ := hrel
              have HT2 := Lib.hid hto
              clear hto
              by_cases hltm : m < n'
              · obtain ⟨b2, off2, rfl, hb2, hc2⟩ := hR0.at_ hltm
                have hcm2 := hc2 m hltm
                clear hc2
                rw [show (csE es k)[m]?.getD ByteArray.empty = ctAt es k m from rfl] at hcm2
                have HN := Lib.hid (show (ctAt es k m).size ≤ 100 → ∀ q, q < m + 1 → (ctAt es k q).size ≤ 100 from fun h q hq => by
                  rcases Nat.lt_or_ge q m with h1 | h1
                  · exact HT2.out q h1
                  · obtain rfl : q = m := by omega
                    exact h)
                generalize ctAt es k m = y at hcm2 HN
                by_cases hy : 100 < y.size
                · go_wp2_with fail
                  go_ret
                  exact small_no es w
                · have HN := Lib.hid (HN.out (by omega))
                  go_wp2_with fail
                  go_round
                  case rel => exact ⟨m + 1, by omega, by go_num, HN.out⟩
                  case measure => simp [intOf]; omega
              · have HS := Lib.hid (HS.out fun q hq => HT2.out q (by omega))
                go_wp2_with fail
                go_round
                case rel => exact ⟨k + 1, by omega, by go_num, HS.out⟩
                case measure => simp [intOf]; omega
      · have hkl : k = es.length := by omega
        have hno := HT.out
        rw [hkl] at hno
        have HY := Lib.hid (show EsTiny es from ⟨by omega, hno⟩)
        go_wp2_with fail
        go_ret
        exact small_yes HY.out w


end Go.Proofs.Ytapnodhgjfbjjaa

namespace Go.Proofs.Ytapnodhgjfbjjaa
open Go.RowKit Go.ChangeShapes Go.WideShapes Go.Deep
set_option linter.unusedVariables false

theorem cells_en : Try.prog.cellsOf 59 = 2 := by kernel_rfl
theorem cells_ty : Try.prog.cellsOf 30 = 3 := by kernel_rfl
theorem cells_iT : Try.prog.cellsOf 3 = 1 := by kernel_rfl
theorem cells_sT : Try.prog.cellsOf 9 = 1 := by kernel_rfl
theorem cells_ssT : Try.prog.cellsOf 45 = 1 := by kernel_rfl

section
variable {H : Type} {enc : TypeId × Value → H} {w : World} {base : Nat} {spare : Nat → Bool} {held : Bool}

/-- A list of texts. -/
theorem strs_open {fuel : Nat} {v : Value} {x : DataW H × List MemPlace} (h : DataW.trod enc Try.prog w base spare held fuel 45 [v] = some x) : ∃ A n c ss, v = .slice A n c ∧ RdT w A n ss := by
  rcases Go.ChangeShapes.open_strings Try.underlying45 Try.underlying9 (by kernel_rfl) h with ⟨hcs, _⟩ | ⟨x, l, c, ss, hcs, _, hl, hm, hss, _, hcell, hz⟩
  · simp at hcs
    subst hcs
    exact ⟨none, 0, 0, [], rfl, RdT.nil_ _⟩
  · simp at hcs
    subst hcs
    have hle : l ≤ ss.length := by rw [hss]; split <;> omega
    exact ⟨some x, l, c, ss.take l, rfl, rdT_arg hle (by unfold maxLen at hm; omega) hcell⟩

/-- One enum's cells. -/
theorem en_open {fuel : Nat} {cs : List Value} {x : DataW H × List MemPlace} (h : DataW.trod enc Try.prog w base spare held fuel 59 cs = some x) (hl : cs.length = 2) :
    ∃ e : En, ∃ A n c, cs = [.string e.1, .slice A n c] ∧ RdT w A n e.2 := by
  obtain ⟨ys, m, _, _, _, hy, hf⟩ := DataW.trod_struct Try.underlying59 h
  match cs, hl with
  | [v0, v1], _ =>
    match ys, hy with
    | [y0, y1], _ =>
      have t0 := hf 0 _ rfl
      have t1 := hf 1 _ rfl
      simp [cells_sT, cells_ssT] at t0 t1
      obtain ⟨s, e0, _, _⟩ := DataW.trod_string Try.underlying9 t0
      obtain ⟨A, n, c, ss, rfl, hr⟩ := strs_open t1
      injection e0 with e0
      subst e0
      exact ⟨(s, ss), A, n, c, rfl, hr⟩

theorem enums_open {fuel : Nat} {A : Option Addr} {n c : Nat} {x : DataW H × List MemPlace} (h : DataW.trod enc Try.prog w base spare held fuel 22 [.slice A n c] = some x) : ∃ es, RdE w A n es := by
  rcases open_slice Try.underlying22 h with ⟨hcs, _⟩ | ⟨a, len, cap, m, nn, D, Pl, hcs, _, hl, hm, hmm, _, hi⟩
  · simp at hcs
    obtain ⟨rfl, rfl, rfl⟩ := hcs
    exact ⟨[], RdE.nil_ _⟩
  · simp at hcs
    obtain ⟨rfl, rfl, rfl⟩ := hcs
    have hnm : n ≤ m := by rw [hmm]; split <;> omega
    have hone : ∀ i, i < n → ∃ e : En, w.cell? (a.add (i * 2)) = some (.string e.1) ∧ ∃ A' n' c', w.cell? (a.add (i * 2 + 1)) = some (.slice A' n' c') ∧ RdT w A' n' e.2 := by
      intro i him
      obtain ⟨cs', hc, ht⟩ := hi i (by omega)
      rw [cells_en] at hc
      obtain ⟨_, hcl, hat⟩ := World.cells?_some hc
      obtain ⟨e, A', n', c', e1, hp⟩ := en_open ht hcl
      have h0 := hat (i := 0) (by omega)
      have h1 := hat (i := 1) (by omega)
      rw [e1] at h0 h1
      rw [Go.Deep.add_add] at h0 h1
      exact ⟨e, by simpa using h0, A', n', c', by simpa using h1, hp⟩
    obtain ⟨f, hf⟩ := choose_lt (α := En) hone
    have hget : ∀ i, i < n → ((List.range n).map f)[i]?.getD (ByteArray.empty, []) = f i := fun i hi => by simp [List.getElem?_map, List.getElem?_range hi]
    refine ⟨(List.range n).map f, by simp, by unfold maxLen at hm; omega, fun hn => ?_⟩
    obtain ⟨b, off, spot⟩ := a
    have h0 := (hf 0 hn).1
    have hspot : spot = none := by simpa [Addr.add] using World.cell?_spot h0
    subst hspot
    have hadd : ∀ i, (⟨b, off, none⟩ : Addr).add i = ⟨b, off + i, none⟩ := fun i => by unfold Addr.add; split <;> simp_all
    refine ⟨b, off, rfl, World.block_lt_of_cell? w _ ((hadd 0) ▸ h0), fun i hi => ?_⟩
    obtain ⟨hc, A', n', c', h2, h3⟩ := hf i hi
    rw [hadd] at hc h2
    unfold nmE csE
    rw [hget i hi]
    exact ⟨hc, A', n', c', h2, h3⟩

/-- A type's cells. -/
theorem ty_cells {fuel : Nat} {cs : List Value} {x : DataW H × List MemPlace} (h : DataW.trod enc Try.prog w base spare held fuel 30 cs = some x) (hl : cs.length = 3) :
    ∃ k e l : Int, cs = [.int .i64 k, .int .i64 e, .int .i64 l] := by
  obtain ⟨ys, m, _, _, _, hy, hf⟩ := DataW.trod_struct Try.underlying30 h
  match cs, hl with
  | [v0, v1, v2], _ =>
    match ys, hy with
    | [y0, y1, y2], _ =>
      have t0 := hf 0 _ rfl
      have t1 := hf 1 _ rfl
      have t2 := hf 2 _ rfl
      simp [cells_iT] at t0 t1 t2
      obtain ⟨k, e0, _, _⟩ := DataW.trod_int Try.underlying3 t0
      obtain ⟨e, e1, _, _⟩ := DataW.trod_int Try.underlying3 t1
      obtain ⟨l, e2, _, _⟩ := DataW.trod_int Try.underlying3 t2
      injection e0 with e0
      injection e1 with e1
      injection e2 with e2
      subst e0 e1 e2
      exact ⟨k, e, l, rfl⟩

theorem ty_open {v : Value} {d : DataW H} {ps : List MemPlace} {r : Reach} {b0 : Nat} (hv : Value.okWide Try.prog w r b0 30 v) (h : DataW.Trod enc Try.prog w base spare held 30 v d ps) : ∃ k e l : Int, v = tyV k e l := by
  obtain ⟨cs, rfl, hs⟩ := okWide_struct Try.underlying30 hv
  obtain ⟨fuel, hf⟩ := h
  rw [cells_ty] at hs
  obtain ⟨k, e, l, e1⟩ := ty_cells hf (by simpa [Value.cells] using hs)
  refine ⟨k, e, l, ?_⟩
  unfold tyV
  congr 1
  apply Array.toList_inj.1
  simpa [Value.cells] using e1

end
end Go.Proofs.Ytapnodhgjfbjjaa
