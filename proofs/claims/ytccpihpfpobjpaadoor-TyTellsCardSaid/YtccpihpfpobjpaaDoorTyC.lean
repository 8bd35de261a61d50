/- Where the constructor of a name stands: of the program's text. Conditions: none. -/
import Derived.Test.YtccpihpfpobjpaaDoorTyI
namespace Go.Proofs.YtccpihpfpobjpaaDoor
open Go.RowKit Go.Shelf
set_option linter.unusedVariables false
attribute [local go_sem] Oper.semAt_some

/-- Whether a constructor's place bears that name. -/
def isNm (name : ByteArray) (p : Pl) : Bool := p.2.2.toList == name.toList
def findE (es : List En) (name : ByteArray) : Option Pl := (flatE es).find? (isNm name)
def ctorV (o : Option Pl) : Value := .tuple #[.int .i64 (((o.map (·.1)).getD 0 : Nat) : Int), .int .i64 (((o.map (·.2.1)).getD 0 : Nat) : Int), .bool o.isSome]

theorem findE_none {es : List En} {name : ByteArray} (h : ∀ p ∈ flatE es, isNm name p = false) : findE es name = none := by
  unfold findE
  rw [List.find?_eq_none]
  intro p hp
  rw [h p hp]
  simp

theorem findE_some {es : List En} {name : ByteArray} {ini : List Pl} {last : Pl} (hp : ini ++ [last] <+: flatE es) (h : ∀ p ∈ ini, isNm name p = false) (hl : isNm name last = true) : findE es name = some last := by
  obtain ⟨r, hr⟩ := hp
  unfold findE
  rw [← hr, List.append_assoc, List.find?_append, List.find?_eq_none.2 (fun p hp => by rw [h p hp]; simp)]
  simp [hl]

/-- Three stores into three boxes. -/
theorem three_set {W : World} {s : Nat} {t1 t2 t3 : TypeId} {v1 v2 v3 : Value} (u1 u2 u3 : Value) (c1 : Boxed W (s + 1) t1 v1) (c2 : Boxed W (s + 1 + 1) t2 v2) (c3 : Boxed W (s + 1 + 1 + 1) t3 v3) :
    ∃ W', (((W.setCell ⟨s + 1, 0, none⟩ u1).setCell ⟨s + 1 + 1, 0, none⟩ u2).setCell ⟨s + 1 + 1 + 1, 0, none⟩ u3) = W' ∧ Boxed W' (s + 1) t1 u1 ∧ Boxed W' (s + 1 + 1) t2 u2 ∧ Boxed W' (s + 1 + 1 + 1) t3 u3 ∧ KeepsOthers W W' ∧ Below s W W' :=
  ⟨_, rfl, ((c1.set u1).other (by omega) _).other (by omega) _, ((c2.other (by omega) u1).set u2).other (by omega) _, ((c3.other (by omega) u1).other (by omega) u2).set u3,
    ((KeepsOthers.setCell _ _ _).trans (KeepsOthers.setCell _ _ _)).trans (KeepsOthers.setCell _ _ _),
    (((Below.refl s W).setCell (p := ⟨s + 1, 0, none⟩) (by show s ≤ s + 1; omega) _).setCell (p := ⟨s + 1 + 1, 0, none⟩) (by show s ≤ s + 1 + 1; omega) _).setCell (p := ⟨s + 1 + 1 + 1, 0, none⟩) (by show s ≤ s + 1 + 1 + 1; omega) _⟩

set_option maxRecDepth 100000 in
set_option maxHeartbeats 4000000 in
theorem tyCtor_in (n : Nat) (hn : 6 ≤ n) (A : Option Addr) (len cap : Nat) (es : List En) (name : ByteArray) (w : World) (hE : RdE w A len es) :
    CallsIn Fence.wide n Tryd.prog 12 #[.slice A len cap, .string name] w fun e w' => e = .returned (ctorV (findE es name)) ∧ Below w.heap.size w w' := by
  have h1 : 1 ≤ n := by omega
  refine callsIn_of_wp_marks Tryd.func12 rfl trivial ?_ rfl
  simp only [Tryd.ntmps12, List.size_toArray, List.length_cons, List.length_nil, Nat.reduceAdd, Nat.reduceSub, Array.replicate_succ, Array.replicate_zero, List.push_toArray, List.append_toArray, List.nil_append, List.cons_append]
  gi_wp2_with (refine ⟨trivial, ?_⟩; gi_at_call 30; refine (callsIn_wide.2 (tyCtors _ _ _ _)).mono ?_; rintro e w' ⟨rfl, rfl⟩)
  have bN := ((((Boxed.new w 9 (.string name)).alloc (.cells #[.int .i64 0] 3)).alloc (.cells #[.int .i64 0] 3)).alloc (.cells #[.bool false] 4)).alloc (.cells #[.slice A len cap] 22)
  have b1 := (((Boxed.new (w.alloc (.cells #[.string name] 9)) 3 (.int .i64 0)).alloc (.cells #[.int .i64 0] 3)).alloc (.cells #[.bool false] 4)).alloc (.cells #[.slice A len cap] 22)
  have b2 := ((Boxed.new ((w.alloc (.cells #[.string name] 9)).alloc (.cells #[.int .i64 0] 3)) 3 (.int .i64 0)).alloc (.cells #[.bool false] 4)).alloc (.cells #[.slice A len cap] 22)
  have b3 := (Boxed.new (((w.alloc (.cells #[.string name] 9)).alloc (.cells #[.int .i64 0] 3)).alloc (.cells #[.int .i64 0] 3)) 4 (.bool false)).alloc (.cells #[.slice A len cap] 22)
  have b4 := Boxed.new ((((w.alloc (.cells #[.string name] 9)).alloc (.cells #[.int .i64 0] 3)).alloc (.cells #[.int .i64 0] 3)).alloc (.cells #[.bool false] 4)) 22 (.slice A len cap)
  simp only [World.size_alloc] at b1 b2 b3 b4
  have hB0 : Below w.heap.size w (((((w.alloc (.cells #[.string name] 9)).alloc (.cells #[.int .i64 0] 3)).alloc (.cells #[.int .i64 0] 3)).alloc (.cells #[.bool false] 4)).alloc (.cells #[.slice A len cap] 22)) :=
    (((((Below.refl _ w).alloc (Nat.le_refl _) _).alloc (by simp) _).alloc (by simp; omega) _).alloc (by simp; omega) _).alloc (by simp; omega) _
  have hsz : (((((w.alloc (.cells #[.string name] 9)).alloc (.cells #[.int .i64 0] 3)).alloc (.cells #[.int .i64 0] 3)).alloc (.cells #[.bool false] 4)).alloc (.cells #[.slice A len cap] 22)).heap.size = w.heap.size + 5 := by simp
  obtain ⟨W0, hW0⟩ : ∃ W0, (((((w.alloc (.cells #[.string name] 9)).alloc (.cells #[.int .i64 0] 3)).alloc (.cells #[.int .i64 0] 3)).alloc (.cells #[.bool false] 4)).alloc (.cells #[.slice A len cap] 22)) = W0 := ⟨_, rfl⟩
  rw [hW0] at bN b1 b2 b3 b4 hB0 hsz ⊢
  clear hW0
  refine wpIn_rangeFunc_ownH rfl h1 (gf := 40) (lb := #[.pointer (some ⟨w.heap.size + 1 + 1 + 1 + 1, 0, none⟩)]) rfl trivial (enters_of Tryd.func40 (by kernel_rfl) rfl)
    (tyIter_stops (n - 1) (by omega) (w.heap.size + 1 + 1 + 1 + 1) w A len cap es hE W0 hB0 (by omega) b4.cell) belowK_t (belowK_b (by omega)) (Below.refl _ _) (fun _ => rfl)
    (fun pre W => ((Boxed W w.heap.size 9 (.string name) ∧ Boxed W (w.heap.size + 1) 3 (.int .i64 0) ∧ Boxed W (w.heap.size + 1 + 1) 3 (.int .i64 0) ∧ Boxed W (w.heap.size + 1 + 1 + 1) 4 (.bool false)) ∧ ∀ p ∈ pre, isNm name p = false) ∧ Below w.heap.size w W)
    (fun c pre W => ((c = .ret ∧ ∃ ini last, pre = ini ++ [last] ∧ (∀ p ∈ ini, isNm name p = false) ∧ isNm name last = true ∧ Boxed W (w.heap.size + 1) 3 (.int .i64 (last.1 : Int)) ∧ Boxed W (w.heap.size + 1 + 1) 3 (.int .i64 (last.2.1 : Int)) ∧ Boxed W (w.heap.size + 1 + 1 + 1) 4 (.bool true))) ∧ Below w.heap.size w W)
    (OwnFrom.and (OwnFrom.and (OwnFrom.and (Own.from (boxed_own _ _ (fun _ => _)) _) (OwnFrom.and (Own.from (boxed_own _ _ (fun _ => _)) _) (OwnFrom.and (Own.from (boxed_own _ _ (fun _ => _)) _) (Own.from (boxed_own _ _ (fun _ => _)) _)))) (ownFrom_pure _ _)) (ownFrom_below (Nat.le_refl _) (by omega)))
    (fun c => OwnFrom.and (Own.from (fun s X Y row hs hg hr => by
      obtain ⟨hc, ini, last, e1, e2, e3, e4, e5, e6⟩ := hs
      exact ⟨hc, ini, last, e1, e2, e3, boxed_own _ _ (fun _ => _) s X Y row e4 hg hr, boxed_own _ _ (fun _ => _) s X Y row e5 hg hr, boxed_own _ _ (fun _ => _) s X Y row e6 hg hr⟩) _) (ownFrom_below (Nat.le_refl _) (by omega)))
    ⟨⟨⟨bN, b1, b2, b3⟩, by simp⟩, hB0⟩
    (fun x a' W => ∃ Bx, w.heap.size + 4 ≤ Bx ∧ Box2 W Bx 50 (.int .i64 (x.1 : Int)) (.int .i64 (x.2.1 : Int)) ∧ a' = { tmps := #[.slice A len cap, .string name, undef, .pointer (some ⟨w.heap.size, 0, none⟩), .pointer (some ⟨w.heap.size + 1, 0, none⟩), .pointer (some ⟨w.heap.size + 1 + 1, 0, none⟩), .pointer (some ⟨w.heap.size + 1 + 1 + 1, 0, none⟩), .pointer (some ⟨Bx, 0, none⟩), .string x.2.2, .slice A len cap, .func (.func 40) #[] #[.pointer (some ⟨w.heap.size + 1 + 1 + 1 + 1, 0, none⟩)], .agg #[.int .i64 (x.1 : Int), .int .i64 (x.2.1 : Int)], .string x.2.2, undef, undef, undef, undef, undef, undef, undef], defers := [] })
    (fun x a' => fun s X Y row hs hg hr => by
      obtain ⟨Bx, h1, h2, h3⟩ := hs
      exact ⟨Bx, h1, box2_own _ _ _ _ s X Y row h2 hg (fun r e => (hr r e).2), h3⟩)
    ?assign ?body ?done ?stop
  case assign =>
    rintro l pre x W K ⟨⟨⟨cN, c1, c2, c3⟩, hp⟩, hB⟩ hK
    have e1 := c1.cell
    have e2 := c2.cell
    have e3 := c3.cell
    have f1 := c1.frozen
    have f2 := c2.frozen
    have f3 := c3.frozen
    simp only [encPl]
    gi_wp2
    exact hK _ _ ((KeepsOthers.alloc _ _).from _) ((Below.refl _ W).alloc hB.size _) ⟨⟨⟨cN.alloc _, c1.alloc _, c2.alloc _, c3.alloc _⟩, hp⟩, hB.alloc hB.size _⟩ ⟨W.heap.size, by have := c3.lt; omega, Box2.new W _ _ _, rfl⟩
  case body =>
    rintro l pre x a' W hl hr ⟨⟨⟨cN, c1, c2, c3⟩, hp⟩, hB⟩ ⟨Bx, hBx, bX, rfl⟩ hlt
    have dN := cN.cell
    have d0 := bX.c0
    have d1 := bX.c1
    have e1 := c1.cell
    have e2 := c2.cell
    have e3 := c3.cell
    have f1 := c1.frozen
    have f2 := c2.frozen
    have f3 := c3.frozen
    by_cases hx : (x.2.2.toList == name.toList) = true
    · have hmx : Tryd.prog.follows .mixedOrders = true := by kernel_rfl
      gi_wp2
      gi_region_o
      all_goals gi_wp2
      all_goals
        obtain ⟨W', hW', g1, g2, g3, gk, gb⟩ := three_set (.int .i64 (x.1 : Int)) (.int .i64 (x.2.1 : Int)) (.bool true) c1 c2 c3
        rw [hW']
        exact ⟨(gk.trans (KeepsOthers.drew _)).from _, ⟨rfl, pre, x, rfl, hp, hx, g1, g2, g3⟩, (hB.trans gb).drew⟩
    · have hx : (x.2.2.toList == name.toList) = false := by simpa using hx
      gi_wp2
      exact ⟨KeepsFrom.refl _ _, Below.refl _ _, ⟨⟨cN, c1, c2, c3⟩, fun p hp' => (List.mem_append.1 hp').elim (hp p) (fun e => by simp at e; subst e; exact hx)⟩, hB⟩
  case done =>
    rintro D ys W hD rfl ⟨⟨⟨cN, c1, c2, c3⟩, hp⟩, hB⟩ hK
    have e1 := c1.cell
    have e2 := c2.cell
    have e3 := c3.cell
    have f1 := c1.frozen
    have f2 := c2.frozen
    have f3 := c3.frozen
    gi_wp2
    obtain ⟨W', hW', g1, g2, g3, gk, gb⟩ := three_set (.int .i64 0) (.int .i64 0) (.bool false) c1 c2 c3
    rw [hW']
    have hK' := gk.same D _ hK rfl
    have k1 := (g1.kept (grownBy_putObj' _ D (.deferred none)) (fun e => by cases e; omega)).cell
    have k2 := (g2.kept (grownBy_putObj' _ D (.deferred none)) (fun e => by cases e; omega)).cell
    have k3 := (g3.kept (grownBy_putObj' _ D (.deferred none)) (fun e => by cases e; omega)).cell
    refine ⟨by simp, .inl ⟨_, _, rfl, run_takeDeferred hK', ?_⟩⟩
    refine ⟨ctorV none, ?_, by rw [findE_none hp], (hB.trans gb).trans (belowK_b (w := w) (Nat.le_refl _) _ D _ _ (by omega) hK' rfl rfl)⟩
    simp [results, Tryd.f12, go_sem, k1, k2, k3, ctorV]
  case stop =>
    rintro D c pre W hD hpre ⟨⟨rfl, ini, last, rfl, hi, hl, c1, c2, c3⟩, hB⟩ hK
    have e1 := c1.cell
    have e2 := c2.cell
    have e3 := c3.cell
    have f1 := c1.frozen
    have f2 := c2.frozen
    have f3 := c3.frozen
    gi_wp2
    have k1 := (c1.kept (grownBy_putObj' _ D (.deferred none)) (fun e => by cases e; omega)).cell
    have k2 := (c2.kept (grownBy_putObj' _ D (.deferred none)) (fun e => by cases e; omega)).cell
    have k3 := (c3.kept (grownBy_putObj' _ D (.deferred none)) (fun e => by cases e; omega)).cell
    refine ⟨by simp, .inl ⟨_, _, rfl, run_takeDeferred hK, ?_⟩⟩
    refine ⟨ctorV (some last), ?_, by rw [findE_some hpre hi hl], hB.trans (belowK_b (w := w) (Nat.le_refl _) _ D _ _ (by omega) hK rfl rfl)⟩
    simp [results, Tryd.f12, go_sem, k1, k2, k3, ctorV]

theorem tyCtor (A : Option Addr) (len cap : Nat) (es : List En) (name : ByteArray) (w : World) (hE : RdE w A len es) :
    Calls Tryd.prog 12 #[.slice A len cap, .string name] w fun e w' => e = .returned (ctorV (findE es name)) ∧ Below w.heap.size w w' :=
  callsIn_wide.1 (tyCtor_in 6 (Nat.le_refl _) A len cap es name w hE)
end Go.Proofs.YtccpihpfpobjpaaDoor
