/- The two variables that the program reads, out of a row's list. Conditions: none. -/
import Derived.Test.YtkgeigckekccgaaDoorLxY
namespace Go.Proofs.YtkgeigckekccgaaDoor
open Go.RowKit Go.ChangeShapes Go.WideShapes Go.Deep
set_option linter.unusedVariables false

section
variable {H : Type} {enc : TypeId × Value → H} {P : Program} {w : World} {base : Nat} {spare : Nat → Bool} {held : Bool} {fuel : Nat} {t e : TypeId} {cs : List Value} {p : List MemPlace}
/-- An array of texts that reads so holds them. -/
theorem texts_of_trod {n : Nat} {ms : List (List UInt8)} (ht : P.underlying t = some (.array n e)) (he : P.underlying e = some .string) (hce : P.cellsOf e = 1) (hct : P.cellsOf t = n)
    (h : DataW.trod enc P w base spare held fuel t cs = some (.agg (ms.map fun m => .lit (.string m)), p)) : cs = ms.map fun m => Value.string (ofL m) := by
  obtain ⟨xs, m, _, hx, hl, hn, hel⟩ := DataW.trod_array ht h
  have hxs : xs.map (·.1) = ms.map fun m => (DataW.lit (.string m) : DataW H) := by
    have := congrArg Prod.fst hx
    simpa using this.symm
  have hml : ms.length = n := by
    have := congrArg List.length hxs
    simp at this
    omega
  apply List.ext_getElem?
  intro i
  by_cases hi : i < n
  · have h1 := hel i hi
    rw [hce, Nat.mul_one] at h1
    have h2 : ∃ b, xs[i]? = some b := ⟨xs[i]'(by omega), List.getElem?_eq_getElem (by omega)⟩
    obtain ⟨b, hb⟩ := h2
    rw [hb] at h1
    obtain ⟨s, hc, hx2, _⟩ := DataW.trod_string he h1
    have h3 : cs[i]? = some (.string s) := by
      have := congrArg (·[0]?) hc
      simpa [List.getElem?_take, List.getElem?_drop] using this
    have h4 : (xs.map (·.1))[i]? = some (DataW.lit (.string s.data.toList) : DataW H) := by simp [hb, hx2]
    rw [hxs] at h4
    simp only [List.getElem?_map, Option.map_eq_some_iff, DataW.lit.injEq, Lit.string.injEq] at h4
    obtain ⟨m', hm', rfl⟩ := h4
    rw [h3, List.getElem?_map, hm']
    rfl
  · rw [List.getElem?_eq_none (by omega), List.getElem?_eq_none (by simp; omega)]
end

theorem marks_laid : Rows.lexAllRow.laid.filter (fun x => x.1 == marksN) = [(marksN, .agg (marksL.map fun m => .lit (.string m)))] := by kernel_rfl
theorem range_laid : Rows.lexAllRow.laid.filter (fun x => x.1 == rangeN) = [(rangeN, Rows.laid_strconv_ErrRange)] := by kernel_rfl

/-- The two variables lie as laid, where a row's list is met. -/
theorem vars_of_laid {W : World} (h : laidMetH Tryd.prog Rows.lexAllRow.laid W) : Vars W := by
  constructor
  · have h1 := h.filter (fun x => x.1 == rangeN)
    rw [range_laid] at h1
    have h2 : laidMet Tryd.prog [(rangeN, Rows.laid_strconv_ErrRange)] W := (laidMetH_iff.1 h1).1
    obtain ⟨ps, ⟨g', t', cs, fuel, p, q, hg', ht', hvar, hd, _, _⟩, _⟩ := h2
    obtain rfl := Option.some.inj (range_named.symm.trans hg')
    obtain rfl := Option.some.inj ((show (Tryd.prog.globals[(3 : Nat)]?).map (·.type) = some 56 by kernel_rfl).symm.trans ht')
    obtain ⟨f1, u, v, hcs, _⟩ := iface_of_trod Tryd.underlying56 hd
    refine ⟨u, v, ?_⟩
    rw [hvar]
    congr 1
    apply Array.toList_inj.1
    simpa using hcs
  · have h1 := h.filter (fun x => x.1 == marksN)
    rw [marks_laid] at h1
    have h2 : laidMet Tryd.prog [(marksN, .agg (marksL.map fun m => .lit (.string m)))] W := (laidMetH_iff.1 h1).1
    obtain ⟨ps, ⟨g', t', cs, fuel, p, q, hg', ht', hvar, hd, _, _⟩, _⟩ := h2
    obtain rfl := Option.some.inj (marks_named.symm.trans hg')
    obtain rfl := Option.some.inj ((show (Tryd.prog.globals[(0 : Nat)]?).map (·.type) = some 59 by kernel_rfl).symm.trans ht')
    have hcs := texts_of_trod Tryd.underlying59 Tryd.underlying9 (by kernel_rfl) (by kernel_rfl) hd
    rw [hvar]
    congr 1
    apply Array.toList_inj.1
    rw [hcs]
    rfl
end Go.Proofs.YtkgeigckekccgaaDoor
