/- Expressions in memory: how much room their lists have: no list is longer than its room. Conditions: none. -/
import Derived.Test.YtijbahdpblopjaaDoorExZ
namespace Go.Proofs.YtijbahdpblopjaaDoor
open Go.RowKit Go.ChangeShapes Go.WideShapes Go.Deep
set_option linter.unusedVariables false

mutual
/-- No list of subs within x, whose subs lie at B, is longer than its room. -/
def capX (w : World) : Ex → Option Addr → Prop
  | .mk _ _ _ _ _ subs, B => ∀ b off, B = some ⟨b, off, none⟩ → capXs w subs b off
def capXs (w : World) : List Ex → Nat → Nat → Prop
  | [], _, _ => True
  | x :: l, b, off => (∀ A ca B cb, w.rangeAt b off (exL x A ca B cb) → x.subs.length ≤ cb ∧ capX w x B) ∧ capXs w l b (off + 6)
end
theorem capX_eq {w : World} {x : Ex} {B : Option Addr} : capX w x B ↔ ∀ b off, B = some ⟨b, off, none⟩ → capXs w x.subs b off := by
  cases x
  simp only [capX, Ex.subs]
theorem capXs_at {w : World} : ∀ (l : List Ex) {b off : Nat}, capXs w l b off → ∀ i, i < l.length → ∀ A ca B cb, w.rangeAt b (off + i * 6) (exL (l[i]?.getD default) A ca B cb) → (l[i]?.getD default).subs.length ≤ cb ∧ capX w (l[i]?.getD default) B
  | [], _, _, _, i, hi => absurd hi (by simp)
  | x :: l, b, off, h, i, hi => by
    simp only [capXs] at h
    cases i with
    | zero => simpa using h.1
    | succ i =>
      have := capXs_at l h.2 i (by simpa using hi)
      rw [show off + 6 + i * 6 = off + (i + 1) * 6 by omega] at this
      simpa using this
theorem capXs_of {w : World} : ∀ (l : List Ex) {b off : Nat}, (∀ i, i < l.length → ∀ A ca B cb, w.rangeAt b (off + i * 6) (exL (l[i]?.getD default) A ca B cb) → (l[i]?.getD default).subs.length ≤ cb ∧ capX w (l[i]?.getD default) B) → capXs w l b off
  | [], _, _, _ => by simp only [capXs]
  | x :: l, b, off, h => by
    simp only [capXs]
    refine ⟨by simpa using h 0 (by simp), capXs_of l fun i hi => ?_⟩
    have := h (i + 1) (by simpa using hi)
    rw [show off + (i + 1) * 6 = off + 6 + i * 6 by omega] at this
    simpa using this
theorem rangeAt_back {w w' : World} {cs : List Value} {b o : Nat} (h : w'.rangeAt b o cs) (hb : b < w.heap.size) (hk : ∀ p : Addr, p.block < w.heap.size → w'.cell? p = w.cell? p) : w.rangeAt b o cs := fun j v hv => (hk _ hb).symm.trans (h j v hv)
/-- Two readings of six cells are one. -/
theorem exL_one {w : World} {b o : Nat} {x : Ex} {A A' : Option Addr} {ca ca' : Nat} {B B' : Option Addr} {cb cb' : Nat} (h : w.rangeAt b o (exL x A ca B cb)) (h' : w.rangeAt b o (exL x A' ca' B' cb')) : A = A' ∧ B = B' ∧ cb = cb' := by
  have h1 := (h 4 _ rfl).symm.trans (h' 4 _ rfl)
  have h2 := (h 5 _ rfl).symm.trans (h' 5 _ rfl)
  injection h1 with h1
  injection h1 with h1 _ _
  injection h2 with h2
  injection h2 with h2 _ h3
  exact ⟨h1, h2, h3⟩
mutual
theorem capX_keep {w w' : World} (hk : ∀ p : Addr, p.block < w.heap.size → w'.cell? p = w.cell? p) : ∀ (x : Ex) (A B : Option Addr), rdX w x A B → capX w x B → capX w' x B
  | .mk k n s op arms subs, A, B, hr, h => by
    simp only [rdX] at hr
    simp only [capX] at h ⊢
    intro b off e
    cases subs with
    | nil => simp only [capXs]
    | cons y l =>
      obtain ⟨b', off', e', hb, hrs⟩ := hr.2.2 (by simp)
      rw [e] at e'
      injection e' with e'
      injection e' with e1 e2
      subst e1 e2
      exact capXs_keep hk (y :: l) b off hb hrs (h b off e)
theorem capXs_keep {w w' : World} (hk : ∀ p : Addr, p.block < w.heap.size → w'.cell? p = w.cell? p) : ∀ (l : List Ex) (b off : Nat), b < w.heap.size → rdXs w l b off → capXs w l b off → capXs w' l b off
  | [], _, _, _, _, _ => by simp only [capXs]
  | x :: l, b, off, hb, hr, h => by
    simp only [rdXs] at hr
    simp only [capXs] at h ⊢
    obtain ⟨⟨A0, ca0, B0, cb0, h1, h2⟩, h3⟩ := hr
    refine ⟨fun A ca B cb hg => ?_, capXs_keep hk l b (off + 6) hb h3 h.2⟩
    have hg0 := rangeAt_back hg hb hk
    obtain ⟨q1, q2⟩ := h.1 A ca B cb hg0
    obtain ⟨e1, e2, _⟩ := exL_one hg0 h1
    subst e1 e2
    exact ⟨q1, capX_keep hk x A B h2 q2⟩
end
theorem capX.below {w w' : World} {x : Ex} {A B : Option Addr} (h : capX w x B) (hr : rdX w x A B) (hb : Below w.heap.size w w') : capX w' x B := capX_keep (fun _ hp => hb.cell hp) x A B hr h
/-- The sub at a place, in memory, and its room. -/
theorem rdX.subC {w : World} {x : Ex} {A B : Option Addr} (h : rdX w x A B) (hc : capX w x B) {i : Nat} (hi : i < x.subs.length) :
    ∃ b off, B = some ⟨b, off, none⟩ ∧ b < w.heap.size ∧ ∀ i, i < x.subs.length → ∃ A' ca B' cb, w.rangeAt b (off + i * 6) (exL (subX x i) A' ca B' cb) ∧ rdX w (subX x i) A' B' ∧ (subX x i).subs.length ≤ cb ∧ capX w (subX x i) B' := by
  obtain ⟨b, off, e, hb, hat⟩ := h.sub hi
  refine ⟨b, off, e, hb, fun i hi => ?_⟩
  obtain ⟨A', ca, B', cb, hrg, hrd⟩ := hat i hi
  exact ⟨A', ca, B', cb, hrg, hrd, capXs_at x.subs ((capX_eq.1 hc) b off e) i hi A' ca B' cb hrg⟩

section
variable {H : Type} {enc : TypeId × Value → H} {w : World} {base : Nat} {spare : Nat → Bool} {held : Bool}

set_option maxRecDepth 100000 in
set_option maxHeartbeats 1000000 in
/-- An expression's cells. -/
theorem ex_cellsC : ∀ (fuel : Nat) {cs : List Value} {x : DataW H × List MemPlace}, DataW.trod enc Tryd.prog w base spare held fuel 28 cs = some x → cs.length = 6 →
    ∃ (X : Ex) (A : Option Addr) (ca : Nat) (B : Option Addr) (cb : Nat), cs = exL X A ca B cb ∧ rdX w X A B ∧ OkX X ∧ X.subs.length ≤ cb ∧ capX w X B := by
  intro fuel
  induction fuel using Nat.strongRecOn with
  | _ fuel ih =>
  intro cs x h hl
  obtain ⟨ys, m, hm, _, _, hy, hf⟩ := DataW.trod_struct Tryd.underlying28 h
  match cs, hl with
  | [v0, v1, v2, v3, v4, v5], _ =>
    match ys, hy with
    | [y0, y1, y2, y3, y4, y5], _ =>
      have t0 := hf 0 _ rfl
      have t1 := hf 1 _ rfl
      have t2 := hf 2 _ rfl
      have t3 := hf 3 _ rfl
      have t4 := hf 4 _ rfl
      have t5 := hf 5 _ rfl
      simp [cells_i, cells_l, cells_s, cells_ss, cells_xs] at t0 t1 t2 t3 t4 t5
      obtain ⟨k, e0, _, w0⟩ := DataW.trod_int Tryd.underlying3 t0
      obtain ⟨n, e1, _, w1⟩ := DataW.trod_int Tryd.underlying2 t1
      obtain ⟨s, e2, _, w2⟩ := DataW.trod_string Tryd.underlying9 t2
      obtain ⟨op, e3, _, w3⟩ := DataW.trod_int Tryd.underlying3 t3
      injection e0 with e0
      injection e1 with e1
      injection e2 with e2
      injection e3 with e3
      subst e0 e1 e2 e3
      obtain ⟨A, na, ca, ss, rfl, hr, hz⟩ := strs_openZ t4
      have hna := hr.len
      subst hna
      rcases DataW.trod_slice Tryd.underlying26 t5 with ⟨hcs, _⟩ | ⟨a, len, cap, elems, rest, nn, hnn, hcs, _, _, hlc, hcm, hel, hi, _, _⟩
      · simp at hcs
        subst hcs
        refine ⟨.mk k n s op ss [], A, ca, none, 0, rfl, ?_, ?_, Nat.le_refl _, capX_eq.2 (by intro b off e; cases e)⟩
        · rw [rdX_eq]
          exact ⟨hr, RdX.nil_ _⟩
        · intro p hp
          simp only [partsX, partssX, List.mem_singleton] at hp
          subst hp
          exact ⟨w2, hz, w0, w1, w3⟩
      · simp at hcs
        subst hcs
        have hone : ∀ i, i < len → ∃ X : Ex, (∃ A' ca' B' cb', (∀ j v, (exL X A' ca' B' cb')[j]? = some v → w.cell? (a.add (i * 6 + j)) = some v) ∧ rdX w X A' B' ∧ X.subs.length ≤ cb' ∧ capX w X B') ∧ OkX X := by
          intro i him
          have h1 := hi i him
          rw [List.getElem?_eq_getElem (by omega), cells_ex] at h1
          obtain ⟨cs', hc, ht⟩ := Option.bind_eq_some_iff.1 h1
          obtain ⟨_, hcl, hat⟩ := World.cells?_some hc
          obtain ⟨X, A', ca', B', cb', e, hrX, hok, hcl1, hcx1⟩ := ih nn (by omega) ht hcl
          refine ⟨X, ⟨A', ca', B', cb', fun j v hj => ?_, hrX, hcl1, hcx1⟩, hok⟩
          have hj6 : j < 6 := by
            rcases Nat.lt_or_ge j 6 with h | h
            · exact h
            · rw [List.getElem?_eq_none (by simpa [exL] using h)] at hj; cases hj
          rw [← Go.Deep.add_add, hat j hj6, e, hj]
        obtain ⟨f, hfX⟩ := choose_lt (α := Ex) hone
        have hget : ∀ i, i < len → ((List.range len).map f)[i]?.getD default = f i := fun i hi => by simp [List.getElem?_map, List.getElem?_range hi]
        refine ⟨.mk k n s op ss ((List.range len).map f), A, ca, some a, cap, by simp [exL, Ex.k, Ex.n, Ex.s, Ex.op, Ex.arms, Ex.subs], ?_, ?_, by simp [Ex.subs]; omega, ?_⟩
        · rw [rdX_eq]
          refine ⟨hr, rfl, by simp [Ex.subs]; unfold maxLen at hcm; omega, fun hn => ?_⟩
          simp only [Ex.subs, List.length_map, List.length_range] at hn
          obtain ⟨b, off, spot⟩ := a
          obtain ⟨⟨A0, ca0, B0, cb0, h0, _⟩, _⟩ := hfX 0 hn
          have h00 := h0 0 _ rfl
          have hspot : spot = none := by simpa [Addr.add] using World.cell?_spot h00
          subst hspot
          have hadd : ∀ i, (⟨b, off, none⟩ : Addr).add i = ⟨b, off + i, none⟩ := fun i => by unfold Addr.add; split <;> simp_all
          refine ⟨b, off, rfl, World.block_lt_of_cell? w _ ((hadd 0) ▸ h00), rdXs_of _ fun i hi => ?_⟩
          simp only [Ex.subs, List.length_map, List.length_range] at hi
          simp only [Ex.subs]
          rw [hget i hi]
          obtain ⟨⟨A', ca', B', cb', h1, h2, _⟩, _⟩ := hfX i hi
          refine ⟨A', ca', B', cb', fun j v hv => ?_, h2⟩
          have := h1 j v hv
          rw [hadd] at this
          rw [Nat.add_assoc]
          exact this
        · intro p hp
          simp only [partsX, List.mem_cons] at hp
          rcases hp with rfl | hp
          · exact ⟨w2, hz, w0, w1, w3⟩
          · obtain ⟨i, hi, hp⟩ := partss_mem hp
            simp only [List.length_map, List.length_range] at hi
            rw [hget i hi] at hp
            exact (hfX i hi).2 p hp
        · rw [capX_eq]
          intro b off e
          obtain rfl : a = ⟨b, off, none⟩ := Option.some.inj e
          refine capXs_of _ fun i hi A1 ca1 B1 cb1 hg => ?_
          simp only [Ex.subs, List.length_map, List.length_range] at hi
          simp only [Ex.subs] at hg ⊢
          rw [hget i hi] at hg ⊢
          obtain ⟨⟨A', ca', B', cb', h1, h2, h3, h4⟩, _⟩ := hfX i hi
          have hadd : ∀ i, (⟨b, off, none⟩ : Addr).add i = ⟨b, off + i, none⟩ := fun i => by unfold Addr.add; split <;> simp_all
          have hg' : w.rangeAt b (off + i * 6) (exL (f i) A' ca' B' cb') := fun j v hv => by
            have := h1 j v hv
            rw [hadd] at this
            rw [Nat.add_assoc]
            exact this
          obtain ⟨e1, e2, e3⟩ := exL_one hg hg'
          subst e1 e2 e3
          exact ⟨h3, h4⟩

set_option maxRecDepth 100000 in
/-- An expression that came in. -/
theorem ex_openC {v : Value} {d : DataW H} {ps : List MemPlace} {r : Reach} {b0 : Nat} (hv : Value.okWide Tryd.prog w r b0 28 v) (h : DataW.Trod enc Tryd.prog w base spare held 28 v d ps) :
    ∃ (X : Ex) (A : Option Addr) (ca : Nat) (B : Option Addr) (cb : Nat), v = .agg (exA X A ca B cb) ∧ rdX w X A B ∧ OkX X ∧ X.subs.length ≤ cb ∧ capX w X B := by
  obtain ⟨cs, rfl, hs⟩ := okWide_struct Tryd.underlying28 hv
  obtain ⟨fuel, hf⟩ := h
  rw [cells_ex] at hs
  obtain ⟨X, A, ca, B, cb, e1, hr, hok, hcl1, hcx1⟩ := ex_cellsC fuel hf (by simpa [Value.cells] using hs)
  refine ⟨X, A, ca, B, cb, ?_, hr, hok, hcl1, hcx1⟩
  congr 1
  apply Array.toList_inj.1
  simpa [Value.cells, exA, exL] using e1
end
end Go.Proofs.YtijbahdpblopjaaDoor
