/- What some functions of Go's library do at this program: the layings as the kit's commands print them, and contracts over them. Conditions: each theorem's own. A path as it is quoted: of the program's text. Conditions: that the text's length is an int. The program's show: pieces put together, the text of an arm, of an operator ahead of its one side. Conditions: none but bounds on lengths. The program's show: the text of a merge and of a call. Conditions: none but bounds on lengths. The program's show: the text of a call. Conditions: none but bounds on lengths. -/
import Derived.Shelf.Strings.Builder1
import Derived.Shelf.Strings.Builder2
import Derived.Shelf.Strings.OnBuilder
import Derived.Shelf.Small.Wraps
import Derived.Shelf.Strconv.Itoa0
import Derived.Shelf.Strconv.Itoa1
import Derived.Shelf.LaysM
import Derived.Shelf.Strconv.Itoa2
import Derived.Shelf.Strconv.Itoa3
import Derived.Shelf.Strconv.Itoa4
import Derived.Shelf.Strings.Search1
import Derived.Lib.SmallJoins
import Derived.Test.YtijbahdpblopjaaDoorStr
import Derived.Test.YtijbahdpblopjaaDoorRows
import Derived.Lib.AppendIntMem
import Derived.Test.YtijbahdpblopjaaDoorIdF
import Derived.Test.YtijbahdpblopjaaDoorVaC
import Derived.Test.YtijbahdpblopjaaDoorArY
import Derived.Test.YtijbahdpblopjaaDoorShG
import Derived.Test.YtijbahdpblopjaaDoorShC
import Derived.Test.YtijbahdpblopjaaDoorQt
namespace Go.Proofs.YtijbahdpblopjaaDoor
open Go.Shelf
set_option linter.unusedVariables false

def lays156_ren : Go.Shelf.Ren := ⟨fun | 156 => 40 | 165 => 54 | 166 => 55 | 169 => 56 | 240 => 73 | 241 => 74 | 276 => 90 | 277 => 91 | n => n, fun | 31 => 25 | 9 => 9 | 3 => 3 | 4 => 4 | 0 => 0 | 20 => 20 | 72 => 62 | 76 => 66 | 70 => 59 | 37 => 60 | 75 => 65 | 127 => 82 | 164 => 95 | 5 => 5 | 80 => 68 | n => n, fun | n => n⟩
theorem lays156 : Go.Proofs.Lays.n156 Tryd.prog lays156_ren := {
  mixed := by kernel_rfl
  f156 := Tryd.func40.trans (congrArg some (by kernel_rfl))
  f165 := Tryd.func54.trans (congrArg some (by kernel_rfl))
  f166 := Tryd.func55.trans (congrArg some (by kernel_rfl))
  f169 := Tryd.func56.trans (congrArg some (by kernel_rfl))
  f240 := Tryd.func73.trans (congrArg some (by kernel_rfl))
  f241 := Tryd.func74.trans (congrArg some (by kernel_rfl))
  f276 := Tryd.func90.trans (congrArg some (by kernel_rfl))
  f277 := Tryd.func91.trans (congrArg some (by kernel_rfl))
  t0 := Tryd.underlying0
  a0 := Tryd.isAgg0
  z0 := Tryd.sizeOf0
  v0 := Tryd.zeroValue0
  t3 := Tryd.underlying3
  a3 := Tryd.isAgg3
  z3 := Tryd.sizeOf3
  v3 := Tryd.zeroValue3
  t4 := Tryd.underlying4
  a4 := Tryd.isAgg4
  z4 := Tryd.sizeOf4
  v4 := Tryd.zeroValue4
  t9 := Tryd.underlying9
  a9 := Tryd.isAgg9
  z9 := Tryd.sizeOf9
  v9 := Tryd.zeroValue9
  t20 := Tryd.underlying20
  a20 := Tryd.isAgg20
  z20 := Tryd.sizeOf20
  v20 := Tryd.zeroValue20
  t31 := Tryd.underlying25
  a31 := Tryd.isAgg25
  z31 := Tryd.sizeOf25
  v31 := Tryd.zeroValue25
  t37 := Tryd.underlying60
  a37 := Tryd.isAgg60
  z37 := Tryd.sizeOf60
  v37 := Tryd.zeroValue60
  t70 := Tryd.underlying59
  a70 := Tryd.isAgg59
  z70 := Tryd.sizeOf59
  v70 := Tryd.zeroValue59
  t72 := Tryd.underlying62
  a72 := Tryd.isAgg62
  z72 := Tryd.sizeOf62
  v72 := Tryd.zeroValue62
  t75 := Tryd.underlying65
  a75 := Tryd.isAgg65
  z75 := Tryd.sizeOf65
  v75 := Tryd.zeroValue65
  t76 := Tryd.underlying66
  a76 := Tryd.isAgg66
  z76 := Tryd.sizeOf66
  v76 := Tryd.zeroValue66
  t127 := Tryd.underlying82
  a127 := Tryd.isAgg82
  z127 := Tryd.sizeOf82
  v127 := Tryd.zeroValue82
  t164 := Tryd.underlying95
  a164 := Tryd.isAgg95
  z164 := Tryd.sizeOf95
  v164 := Tryd.zeroValue95 }
theorem Builder_Extra_156 : Builder.Extra Tryd.prog lays156_ren := {
  sizeBuilder := by kernel_rfl
  liesBuilder := by kernel_rfl
  t5 := Tryd.underlying5
  a5 := Tryd.isAgg5
  z5 := Tryd.sizeOf5
  v5 := Tryd.zeroValue5
  infoByte := by kernel_rfl
  cellsByte := by kernel_rfl
  sizeByte := by kernel_rfl
  neB5 := by decide }
def lays121_ren : Go.Shelf.Ren := ⟨fun | 121 => 33 | 214 => 52 | n => n, fun | 4 => 4 | 9 => 9 | n => n, fun | n => n⟩
theorem lays121 : Go.Proofs.Lays.n121 Tryd.prog lays121_ren := {
  mixed := by kernel_rfl
  f121 := Tryd.func33.trans (congrArg some (by kernel_rfl))
  f214 := Tryd.func52.trans (congrArg some (by kernel_rfl))
  t4 := Tryd.underlying4
  a4 := Tryd.isAgg4
  z4 := Tryd.sizeOf4
  v4 := Tryd.zeroValue4
  t9 := Tryd.underlying9
  a9 := Tryd.isAgg9
  z9 := Tryd.sizeOf9
  v9 := Tryd.zeroValue9 }
def laysM173_ren : Go.Shelf.Ren := ⟨fun | 173 => 32 | 246 => 51 | 283 => 67 | 284 => 68 | 285 => 69 | 286 => 70 | 129 => 84 | 317 => 83 | 318 => 85 | 319 => 86 | 320 => 87 | 337 => 93 | 338 => 94 | n => n, fun | 2 => 2 | 3 => 3 | 9 => 9 | 4 => 4 | 171 => 74 | 0 => 0 | 53 => 75 | 37 => 60 | 5 => 5 | 173 => 78 | 212 => 89 | 51 => 90 | 20 => 20 | 213 => 91 | 46 => 93 | 232 => 103 | 233 => 104 | n => n, fun | 17 => 0 | 18 => 2 | 19 => 3 | n => n⟩
theorem laysM173 : Go.Proofs.LaysM.n173 Tryd.prog laysM173_ren := {
  mixed := by kernel_rfl
  f129 := Tryd.func84.trans (congrArg some (by kernel_rfl))
  f173 := Tryd.func32.trans (congrArg some (by kernel_rfl))
  f246 := Tryd.func51.trans (congrArg some (by kernel_rfl))
  f283 := Tryd.func67.trans (congrArg some (by kernel_rfl))
  f284 := Tryd.func68.trans (congrArg some (by kernel_rfl))
  f285 := Tryd.func69.trans (congrArg some (by kernel_rfl))
  f286 := Tryd.func70.trans (congrArg some (by kernel_rfl))
  f317 := Tryd.func83.trans (congrArg some (by kernel_rfl))
  f318 := Tryd.func85.trans (congrArg some (by kernel_rfl))
  f319 := Tryd.func86.trans (congrArg some (by kernel_rfl))
  f320 := Tryd.func87.trans (congrArg some (by kernel_rfl))
  f337 := Tryd.func93.trans (congrArg some (by kernel_rfl))
  f338 := Tryd.func94.trans (congrArg some (by kernel_rfl))
  t0 := Tryd.underlying0
  a0 := Tryd.isAgg0
  z0 := Tryd.sizeOf0
  v0 := Tryd.zeroValue0
  t2 := Tryd.underlying2
  a2 := Tryd.isAgg2
  z2 := Tryd.sizeOf2
  v2 := Tryd.zeroValue2
  t3 := Tryd.underlying3
  a3 := Tryd.isAgg3
  z3 := Tryd.sizeOf3
  v3 := Tryd.zeroValue3
  t4 := Tryd.underlying4
  a4 := Tryd.isAgg4
  z4 := Tryd.sizeOf4
  v4 := Tryd.zeroValue4
  t5 := Tryd.underlying5
  a5 := Tryd.isAgg5
  z5 := Tryd.sizeOf5
  v5 := Tryd.zeroValue5
  t9 := Tryd.underlying9
  a9 := Tryd.isAgg9
  z9 := Tryd.sizeOf9
  v9 := Tryd.zeroValue9
  t20 := Tryd.underlying20
  a20 := Tryd.isAgg20
  z20 := Tryd.sizeOf20
  v20 := Tryd.zeroValue20
  t37 := Tryd.underlying60
  a37 := Tryd.isAgg60
  z37 := Tryd.sizeOf60
  v37 := Tryd.zeroValue60
  t46 := Tryd.underlying93
  a46 := Tryd.isAgg93
  z46 := Tryd.sizeOf93
  v46 := Tryd.zeroValue93
  t51 := Tryd.underlying90
  a51 := Tryd.isAgg90
  z51 := Tryd.sizeOf90
  v51 := Tryd.zeroValue90
  t53 := Tryd.underlying75
  a53 := Tryd.isAgg75
  z53 := Tryd.sizeOf75
  v53 := Tryd.zeroValue75
  t171 := Tryd.underlying74
  a171 := Tryd.isAgg74
  z171 := Tryd.sizeOf74
  v171 := Tryd.zeroValue74
  t173 := Tryd.underlying78
  a173 := Tryd.isAgg78
  z173 := Tryd.sizeOf78
  v173 := Tryd.zeroValue78
  t212 := Tryd.underlying89
  a212 := Tryd.isAgg89
  z212 := Tryd.sizeOf89
  v212 := Tryd.zeroValue89
  t213 := Tryd.underlying91
  a213 := Tryd.isAgg91
  z213 := Tryd.sizeOf91
  t232 := Tryd.underlying103
  a232 := Tryd.isAgg103
  z232 := Tryd.sizeOf103
  v232 := Tryd.zeroValue103
  t233 := Tryd.underlying104
  a233 := Tryd.isAgg104
  z233 := Tryd.sizeOf104
  v233 := Tryd.zeroValue104
  g17 := by kernel_rfl
  g18 := by kernel_rfl
  g19 := by kernel_rfl
  i0 := by kernel_rfl
  i2 := by kernel_rfl
  i3 := by kernel_rfl
  i4 := by kernel_rfl
  i5 := by kernel_rfl
  i9 := by kernel_rfl
  i20 := by kernel_rfl
  i37 := by kernel_rfl
  i46 := by kernel_rfl
  i51 := by kernel_rfl
  i53 := by kernel_rfl
  i171 := by kernel_rfl
  i173 := by kernel_rfl
  i212 := by kernel_rfl
  i232 := by kernel_rfl
  i233 := by kernel_rfl
  m17 := by kernel_rfl
  m18 := by kernel_rfl
  m19 := by kernel_rfl }

open Go.RowKit
/-- The powers of ten: the variable's name, as the row lists it. -/
def powN : String := (Rows.showOnRow.named.drop 1).headD ""
/-- The powers of ten lie as they are laid. -/
def Tab (w : World) : Prop := Lib.TabIs Tryd.prog w powN .u64 Lib.pow10Tab
theorem pow_named : Tryd.prog.globalNamed powN = some 0 := by kernel_rfl
theorem Tab.below {w w' : World} (h : Tab w) (hb : Below w.heap.size w w') : Tab w' := Joins.tab_stays pow_named h hb (Nat.le_refl _)

theorem cells_of_texts {w : World} {b off : Nat} {ss : List ByteArray} (h : ∀ i, i < ss.length → w.cell? ⟨b, off + i, none⟩ = some (.string (ss[i]?.getD ByteArray.empty))) :
    ∀ (j : Nat) x, ss[j]? = some x → w.cell? ⟨b, off + j, none⟩ = some (.string x) := fun j x hx => by
  have hj : j < ss.length := by
    rcases Nat.lt_or_ge j ss.length with h1 | h1
    · exact h1
    · rw [List.getElem?_eq_none h1] at hx; cases hx
  rw [h j hj, hx]
  rfl

/-- Texts, with a separator between. -/
theorem libJoin (A : Option Addr) (n c : Nat) (ss : List ByteArray) (sep : ByteArray) (w : World) (hR : RdT w A n ss) (hnc : n ≤ c) (hn : n ≤ 140737488355328)
    (hlen : (Lib.join (ss.map (·.data.toList)) sep.data.toList).length ≤ 140737488355328) :
    Calls Tryd.prog 40 #[.slice A n c, .string sep] w fun e w' => e = .returned (.string ⟨(Lib.join (ss.map (·.data.toList)) sep.data.toList).toArray⟩) ∧ Below w.heap.size w w' := by
  have hl := hR.len
  subst hl
  rcases Nat.eq_zero_or_pos ss.length with h0 | h0
  · obtain rfl : ss = [] := List.eq_nil_of_length_eq_zero h0
    exact (Any.strings_Join_none lays156 Builder_Extra_156 A c sep w).mono fun e w' ⟨he, hw⟩ => ⟨he, hw ▸ Below.refl _ _⟩
  · obtain ⟨b, off, rfl, hb, hc⟩ := hR.2.2 h0
    exact Any.strings_Join lays156 Builder_Extra_156 b off c ss sep w (cells_of_texts hc) hb hn hnc hlen

theorem libBool (b : Bool) (w : World) : Calls Tryd.prog 33 #[.bool b] w fun e w' => e = .returned (.string ⟨(Lib.formatBool b).toArray⟩) ∧ w = w' :=
  (Any.strconv_FormatBool lays121 b w).mono fun e w' ⟨he, hw⟩ => ⟨he, hw.symm⟩

/-- A number of 64 bits, as its decimal digits. -/
theorem libInt (z : Int) (h0 : -9223372036854775808 ≤ z) (h1 : z ≤ 9223372036854775807) (w : World) (ht : Tab w) :
    Calls Tryd.prog 32 #[.int .i64 z, .int .i64 10] w fun e w' => e = .returned (.string ⟨(Lib.itoa z).toArray⟩) ∧ Below w.heap.size w w' :=
  (Any.strconv_FormatInt_10 laysM173 z h0 h1 w ht).mono fun e w' ⟨he, k, os, hw⟩ => ⟨he, hw ▸ Lib.below_grow _ _ (Nat.le_refl _) k os⟩
end Go.Proofs.YtijbahdpblopjaaDoor

namespace Go.Proofs.YtijbahdpblopjaaDoor
open Go.RowKit
set_option linter.unusedVariables false
set_option linter.unusedSimpArgs false

/-- A path as it is quoted. -/
def quoteS (s : ByteArray) : ByteArray := if pathB s.data.toList = true then (⟨#[39]⟩ : ByteArray) ++ s ++ ⟨#[39]⟩ else ⟨#[]⟩

set_option maxHeartbeats 1000000 in
theorem lxQuote (s : ByteArray) (w : World) (hs : s.size ≤ 9223372036854775800) :
    Calls Tryd.prog 34 #[.string s] w fun e w' => e = .returned (.string (quoteS s)) ∧ Below w.heap.size w w' := by
  have HC := Lib.hid (idPath s)
  have HQ : Hid (quoteS s = if pathB s.data.toList = true then (⟨#[39]⟩ : ByteArray) ++ s ++ ⟨#[39]⟩ else ⟨#[]⟩) := Lib.hid rfl
  have z1 : (9223372036854775807 < 1 + s.size) = False := by rw [eq_iff_iff, iff_false]; omega
  have z2 : (9223372036854775807 < s.size + 1) = False := by rw [eq_iff_iff, iff_false]; omega
  have z3 : (9223372036854775807 < 1 + s.size + 1) = False := by rw [eq_iff_iff, iff_false]; omega
  cases hb : pathB s.data.toList with
  | true =>
    rw [hb] at HC HQ
    clear hb
    go_enter Tryd.func34, Tryd.ntmps34
    go_wp2_with fail
    refine (HC.out _ (by omega)).mono ?_
    rintro e w2 ⟨rfl, hb2⟩
    have HB2 := Lib.hid hb2
    clear hb2
    go_wp2_with fail
    go_ret
    exact ⟨ret_str (HQ.out.trans (if_pos trivial)).symm, HB2.out⟩
  | false =>
    rw [hb] at HC HQ
    clear hb
    go_enter Tryd.func34, Tryd.ntmps34
    go_wp2_with fail
    refine (HC.out _ (by omega)).mono ?_
    rintro e w2 ⟨rfl, hb2⟩
    have HB2 := Lib.hid hb2
    clear hb2
    go_wp2_with fail
    go_ret
    exact ⟨ret_str (HQ.out.trans (if_neg (by simp))).symm, HB2.out⟩

end Go.Proofs.YtijbahdpblopjaaDoor

namespace Go.Proofs.YtijbahdpblopjaaDoor
open Go.RowKit Go.Sort
set_option linter.unusedVariables false
set_option linter.unusedSimpArgs false

theorem ofB_sizeP (l : List UInt8) : (ofB l).size = l.length := by
  show l.toArray.size = l.length
  simp
/-- Pieces with a text between. -/
def jnT (ss : List ByteArray) (b : ByteArray) : List UInt8 := Lib.join (ss.map (·.data.toList)) b.data.toList
/-- Pieces, put together from o to s. -/
def winS (o b s : ByteArray) (ss : List ByteArray) : ByteArray := o ++ ofB (jnT ss b) ++ s

theorem jn_join : ∀ l : List (List UInt8), Lib.join l [44, 32] = joinC l
  | [] => rfl
  | [x] => by simp [joinC, Lib.join_one]
  | x :: y :: l => by
    have h := jn_join (y :: l)
    rw [Lib.join_cons] at h ⊢
    simp only [joinC, ← h, Lib.joinTail, List.map_cons, List.flatten_cons]
    simp
theorem jn_cons (x : ByteArray) (l : List ByteArray) (b : ByteArray) : jnT (x :: l) b = x.data.toList ++ Lib.joinTail b.data.toList (l.map (·.data.toList)) := by
  unfold jnT
  rw [List.map_cons, Lib.join_cons]

set_option maxRecDepth 100000 in
set_option maxHeartbeats 2000000 in
theorem shWithin (o b s : ByteArray) (A : Option Addr) (n c : Nat) (ss : List ByteArray) (w : World) (hR : RdT w A n ss) (hnc : n ≤ c) (hn : n ≤ 1000000) (ho : o.size ≤ 10000000) (hs : s.size ≤ 10000000) (hj : (jnT ss b).length ≤ 100000000) :
    Calls Tryd.prog 22 #[.string o, .string b, .string s, .slice A n c] w fun e w' => e = .returned (.string (winS o b s ss)) ∧ Below w.heap.size w w' := by
  have HJ := Lib.hid (libJoin A n c ss b w hR hnc (by omega) (by unfold jnT at hj; omega))
  have HE := Lib.hid (show o ++ ofB (jnT ss b) ++ s = winS o b s ss from rfl)
  have hz : (ofB (jnT ss b)).size ≤ 100000000 := by rw [ofB_sizeP]; exact hj
  change Hid (Calls Tryd.prog 40 #[.slice A n c, .string b] w fun e w' => e = .returned (.string (ofB (jnT ss b))) ∧ Below w.heap.size w w') at HJ
  clear hR hj
  generalize winS o b s ss = wt at *
  generalize ofB (jnT ss b) = j at *
  have z1 : (9223372036854775807 < o.size + j.size) = False := by rw [eq_iff_iff, iff_false]; omega
  have z2 : (9223372036854775807 < o.size + j.size + s.size) = False := by rw [eq_iff_iff, iff_false]; omega
  go_enter Tryd.func22, Tryd.ntmps22
  go_wp2_with fail
  refine HJ.out.mono ?_
  rintro r w2 ⟨rfl, hb⟩
  have HB2 := Lib.hid hb
  clear hb
  go_wp2_with fail
  go_ret
  exact ⟨ret_str HE.out, HB2.out⟩

set_option maxRecDepth 100000 in
set_option maxHeartbeats 2000000 in
theorem shPhrase (A : Option Addr) (n c : Nat) (ss : List ByteArray) (w : World) (hR : RdT w A n ss) (hnc : n ≤ c) (hn : n ≤ 1000000) (hj : (jnT ss ⟨#[32]⟩).length ≤ 100000000) :
    Calls Tryd.prog 36 #[.slice A n c] w fun e w' => e = .returned (.string (winS ⟨#[40]⟩ ⟨#[32]⟩ ⟨#[41]⟩ ss)) ∧ Below w.heap.size w w' := by
  have HJ := Lib.hid (shWithin ⟨#[40]⟩ ⟨#[32]⟩ ⟨#[41]⟩ A n c ss w hR hnc hn (by decide) (by decide) hj)
  clear hR hj
  generalize winS ⟨#[40]⟩ ⟨#[32]⟩ ⟨#[41]⟩ ss = wt at *
  go_enter Tryd.func36, Tryd.ntmps36
  go_wp2_with fail
  refine HJ.out.mono ?_
  rintro r w2 ⟨rfl, hb⟩
  have HB2 := Lib.hid hb
  clear hb
  go_wp2_with fail
  go_ret
  exact ⟨rfl, HB2.out⟩

set_option maxRecDepth 100000 in
set_option maxHeartbeats 2000000 in
theorem shList (o s : ByteArray) (A : Option Addr) (n c : Nat) (ss : List ByteArray) (w : World) (hR : RdT w A n ss) (hnc : n ≤ c) (hn : n ≤ 1000000) (ho : o.size ≤ 10000000) (hs : s.size ≤ 10000000) (hj : (jnT ss ⟨#[44, 32]⟩).length ≤ 100000000) :
    Calls Tryd.prog 12 #[.string o, .string s, .slice A n c] w fun e w' => e = .returned (.string (winS o ⟨#[44, 32]⟩ s ss)) ∧ Below w.heap.size w w' := by
  have HJ := Lib.hid (shWithin o ⟨#[44, 32]⟩ s A n c ss w hR hnc hn ho hs hj)
  clear hR hj
  generalize winS o ⟨#[44, 32]⟩ s ss = wt at *
  go_enter Tryd.func12, Tryd.ntmps12
  go_wp2_with fail
  refine HJ.out.mono ?_
  rintro r w2 ⟨rfl, hb⟩
  have HB2 := Lib.hid hb
  clear hb
  go_wp2_with fail
  go_ret
  exact ⟨rfl, HB2.out⟩

/-- Some texts, just laid. -/
theorem litT (w : World) (T : TypeId) (ss : List ByteArray) (n : Nat) (cs : Array Value) (hn : ss.length = n) (hm : n ≤ 1000) (hcs : cs = (ss.map Value.string).toArray) :
    RdT (w.alloc (.cells cs T)) (some ⟨w.heap.size, 0, none⟩) n ss := RdT.lit w T ss n hn (by omega) cs hcs

set_option maxRecDepth 100000 in
set_option maxHeartbeats 2000000 in
theorem shOn (name arm : ByteArray) (w : World) (h1 : name.size ≤ 1000000) (h2 : arm.size ≤ 1000000) :
    Calls Tryd.prog 6 #[.string name, .string arm] w fun e w' => e = .returned (.string (ofB (onL name.data.toList arm.data.toList))) ∧ Below w.heap.size w w' := by
  have z1 : (9223372036854775807 < 4 + name.size) = False := by rw [eq_iff_iff, iff_false]; omega
  have z2 : (9223372036854775807 < arm.size + 1) = False := by rw [eq_iff_iff, iff_false]; omega
  have ht := Lib.toList_data arm
  cases e1 : (arm.toList == [116, 114, 117, 101]) with
  | true =>
    have HE := Lib.hid (show name = ofB (onL name.data.toList arm.data.toList) by
      rw [ht] at e1
      unfold onL
      rw [if_pos (by simpa [trueL] using e1), ofB_self])
    clear ht
    go_enter Tryd.func6, Tryd.ntmps6
    go_wp2_with fail
    go_ret
    exact ⟨ret_str HE.out, Below.refl _ _⟩
  | false =>
    cases e2 : (arm.toList == [102, 97, 108, 115, 101]) with
    | true =>
      have HE := Lib.hid (show (⟨#[110, 111, 116, 32]⟩ : ByteArray) ++ name = ofB (onL name.data.toList arm.data.toList) by
        rw [ht] at e1 e2
        unfold onL
        rw [if_neg (by simpa [trueL] using e1), if_pos (by simpa [falseL] using e2)]
        exact ba_ext (by rw [ofB_data]; simp [notL]))
      clear ht
      go_enter Tryd.func6, Tryd.ntmps6
      go_wp2_with fail
      go_ret
      exact ⟨ret_str HE.out, Below.refl _ _⟩
    | false =>
      have HE := Lib.hid (show winS (arm ++ (⟨#[40]⟩ : ByteArray)) ⟨#[44, 32]⟩ ⟨#[41]⟩ [name] = ofB (onL name.data.toList arm.data.toList) by
        rw [ht] at e1 e2
        unfold onL
        rw [if_neg (by simpa [trueL] using e1), if_neg (by simpa [falseL] using e2)]
        exact ba_ext (by rw [ofB_data]; simp [winS, jnT, Lib.join_one, ofB_data]))
      have HL := Lib.hid (shList (arm ++ (⟨#[40]⟩ : ByteArray)) ⟨#[41]⟩ (some ⟨w.heap.size, 0, none⟩) 1 1 [name] (w.alloc (.cells #[.string name] 9)) (litT w _ [name] 1 _ rfl (by decide) rfl) (Nat.le_refl _) (by decide) (by simp only [ByteArray.size_append]; show arm.size + 1 ≤ _; omega) (by decide) (by simp [jnT, Lib.join_one]; omega))
      have HA := Lib.hid ((Below.refl w.heap.size w).alloc (Nat.le_refl _) (.cells #[.string name] 9))
      clear ht
      rw [HE.out] at HL
      clear HE
      generalize ofB (onL name.data.toList arm.data.toList) = wt at *
      go_enter Tryd.func6, Tryd.ntmps6
      go_wp2_with fail
      refine HL.out.mono ?_
      rintro r w2 ⟨rfl, hb⟩
      have HB2 := Lib.hid (HA.out.trans (hb.mono HA.out.size))
      clear hb
      go_wp2_with fail
      go_ret
      exact ⟨rfl, HB2.out⟩

/-- The text of an operator ahead of its one side. -/
def unL (op : Int) (t : List UInt8) : List UInt8 := if op = 1 then 40 :: 45 :: (t ++ [41]) else 40 :: (notL ++ 32 :: (t ++ [41]))

set_option maxRecDepth 100000 in
set_option maxHeartbeats 2000000 in
theorem shUnary (op : Int) (t : ByteArray) (w : World) (h : op = 1 ∨ op = 2) (h1 : t.size ≤ 10000000) :
    Calls Tryd.prog 35 #[.int .i64 op, .string t] w fun e w' => e = .returned (.string (ofB (unL op t.data.toList))) ∧ Below w.heap.size w w' := by
  have hts : t.data.toList.length = t.size := by simp
  rcases h with rfl | rfl
  · have HS := Lib.hid (arSign 1 w)
    rw [show signS 1 = ⟨#[45]⟩ from rfl] at HS
    have HE := Lib.hid (show winS ⟨#[40]⟩ ⟨#[]⟩ ⟨#[41]⟩ [⟨#[45]⟩, t] = ofB (unL 1 t.data.toList) from ba_ext (by
      rw [ofB_data]
      simp [winS, jn_cons, Lib.joinTail, ofB_data, unL]))
    have HL := Lib.hid (shWithin ⟨#[40]⟩ ⟨#[]⟩ ⟨#[41]⟩ (some ⟨w.heap.size, 0, none⟩) 2 2 [⟨#[45]⟩, t] (w.alloc (.cells #[.string ⟨#[45]⟩, .string t] 9)) (litT w _ [⟨#[45]⟩, t] 2 _ rfl (by decide) rfl) (Nat.le_refl _) (by decide) (by decide) (by decide) (by simp [jn_cons, Lib.joinTail]; omega))
    have HA := Lib.hid ((Below.refl w.heap.size w).alloc (Nat.le_refl _) (.cells #[.string ⟨#[45]⟩, .string t] 9))
    rw [HE.out] at HL
    clear HE hts
    generalize ofB (unL 1 t.data.toList) = wt at *
    go_enter Tryd.func35, Tryd.ntmps35
    go_wp2_with fail
    refine HS.out.mono ?_
    rintro r w1 ⟨rfl, rfl⟩
    go_wp2_with fail
    refine HL.out.mono ?_
    rintro r w2 ⟨rfl, hb⟩
    have HB2 := Lib.hid (HA.out.trans (hb.mono HA.out.size))
    clear hb
    go_wp2_with fail
    go_ret
    exact ⟨rfl, HB2.out⟩
  · have HS := Lib.hid (arSign 2 w)
    rw [show signS 2 = ⟨#[110, 111, 116]⟩ from rfl] at HS
    have HE := Lib.hid (show winS ⟨#[40]⟩ ⟨#[32]⟩ ⟨#[41]⟩ [⟨#[110, 111, 116]⟩, t] = ofB (unL 2 t.data.toList) from ba_ext (by
      rw [ofB_data]
      simp [winS, jn_cons, Lib.joinTail, ofB_data, unL, notL]))
    have HL := Lib.hid (shPhrase (some ⟨w.heap.size, 0, none⟩) 2 2 [⟨#[110, 111, 116]⟩, t] (w.alloc (.cells #[.string ⟨#[110, 111, 116]⟩, .string t] 9)) (litT w _ [⟨#[110, 111, 116]⟩, t] 2 _ rfl (by decide) rfl) (Nat.le_refl _) (by decide) (by simp [jn_cons, Lib.joinTail]; omega))
    have HA := Lib.hid ((Below.refl w.heap.size w).alloc (Nat.le_refl _) (.cells #[.string ⟨#[110, 111, 116]⟩, .string t] 9))
    rw [HE.out] at HL
    clear HE hts
    generalize ofB (unL 2 t.data.toList) = wt at *
    go_enter Tryd.func35, Tryd.ntmps35
    go_wp2_with fail
    refine HS.out.mono ?_
    rintro r w1 ⟨rfl, rfl⟩
    go_wp2_with fail
    refine HL.out.mono ?_
    rintro r w2 ⟨rfl, hb⟩
    have HB2 := Lib.hid (HA.out.trans (hb.mono HA.out.size))
    clear hb
    go_wp2_with fail
    go_ret
    exact ⟨rfl, HB2.out⟩
end Go.Proofs.YtijbahdpblopjaaDoor

namespace Go.Proofs.YtijbahdpblopjaaDoor
open Go.RowKit Go.Sort
set_option linter.unusedVariables false
set_option linter.unusedSimpArgs false

def dL (l : List ByteArray) : List (List UInt8) := l.map (·.data.toList)
theorem dL_len (l : List ByteArray) : (dL l).length = l.length := by simp [dL]
theorem jt_snoc (sep : List UInt8) (r : List (List UInt8)) (y : List UInt8) : Lib.joinTail sep (r ++ [y]) = Lib.joinTail sep r ++ (sep ++ y) := by
  simp [Lib.joinTail]
/-- An arm of a merge, and its text. -/
def pcS (arms ts : List ByteArray) (i : Nat) : ByteArray := winS ⟨#[40]⟩ ⟨#[32]⟩ ⟨#[41]⟩ [arms[i]?.getD ByteArray.empty, ⟨#[45, 62]⟩, ts[i]?.getD ByteArray.empty]
/-- What is put together when so many arms are. -/
def mgS (name : ByteArray) (arms ts : List ByteArray) (j : Nat) : List ByteArray := ⟨#[109, 101, 114, 103, 101]⟩ :: name :: (List.range j).map (pcS arms ts)
theorem mgS_succ (name : ByteArray) (arms ts : List ByteArray) (j : Nat) : mgS name arms ts (j + 1) = mgS name arms ts j ++ [pcS arms ts j] := by simp [mgS, List.range_succ]
theorem mgS_len (name : ByteArray) (arms ts : List ByteArray) (j : Nat) : (mgS name arms ts j).length = j + 2 := by simp [mgS]
theorem pc_data (a t : ByteArray) : (winS ⟨#[40]⟩ ⟨#[32]⟩ ⟨#[41]⟩ [a, ⟨#[45, 62]⟩, t]).data.toList = 40 :: (a.data.toList ++ 32 :: 45 :: 62 :: 32 :: (t.data.toList ++ [41])) := by
  simp [winS, jn_cons, Lib.joinTail, ofB_data]
theorem dL_at {l : List ByteArray} {j : Nat} (h : j < l.length) : (dL l).take (j + 1) = (dL l).take j ++ [(l[j]?.getD ByteArray.empty).data.toList] := by
  unfold dL
  rw [List.take_succ_eq_append_getElem (by simpa using h)]
  simp [List.getElem?_eq_getElem h]
theorem mg_tail (arms ts : List ByteArray) : ∀ j, j ≤ arms.length → j ≤ ts.length → Lib.joinTail [32] (dL ((List.range j).map (pcS arms ts))) = armsT ((dL arms).take j) ((dL ts).take j)
  | 0, _, _ => by simp [Lib.joinTail, dL, armsT]
  | j + 1, h1, h2 => by
    have ih := mg_tail arms ts j (by omega) (by omega)
    have e : dL ((List.range (j + 1)).map (pcS arms ts)) = dL ((List.range j).map (pcS arms ts)) ++ [(pcS arms ts j).data.toList] := by simp [dL, List.range_succ]
    rw [e, jt_snoc, ih, dL_at (by omega), dL_at (by omega), armsT_snoc _ _ _ _ (by simp [dL_len]; omega), pcS, pc_data]
    simp
theorem mg_jn (name : ByteArray) (arms ts : List ByteArray) (h : arms.length = ts.length) : jnT (mgS name arms ts arms.length) ⟨#[32]⟩ = mergeL ++ 32 :: (name.data.toList ++ armsT (dL arms) (dL ts)) := by
  have h1 := mg_tail arms ts arms.length (Nat.le_refl _) (by omega)
  rw [List.take_of_length_le (by rw [dL_len]; exact Nat.le_refl _), List.take_of_length_le (by rw [dL_len]; omega)] at h1
  rw [mgS, jn_cons, List.map_cons]
  simp only [dL] at h1
  simp only [dL, Lib.joinTail, List.map_cons, List.flatten_cons] at h1 ⊢
  rw [h1]
  simp [mergeL]
theorem mg_text (name : ByteArray) (arms ts : List ByteArray) (h : arms.length = ts.length) : winS ⟨#[40]⟩ ⟨#[32]⟩ ⟨#[41]⟩ (mgS name arms ts arms.length) = ofB (40 :: (mergeL ++ 32 :: (name.data.toList ++ (armsT (dL arms) (dL ts) ++ [41])))) :=
  ba_ext (by rw [ofB_data]; simp [winS, mg_jn name arms ts h, ofB_data])

theorem own_two {w : World} (a b : ByteArray) : (w.alloc (.cells #[.string a, .string b] 9)).ownsRow w.heap.size 9 1 (.slice (some ⟨w.heap.size, 0, none⟩) 2 2) 2 ([a, b].map Value.string) :=
  World.ownsRow_lit (base := w.heap.size) (e := 9) (size := 1) w #[.string a, .string b] 2 (Nat.le_refl _) (by decide) rfl

theorem texts_ownS {w : World} {base : Nat} {e : TypeId} {v : Value} {n : Nat} {ss : List ByteArray} (h : w.ownsRow base e 1 v n (ss.map Value.string)) (hm : n ≤ 9223372036854775807) : ∃ A c, v = .slice A n c ∧ RdT w A n ss ∧ n ≤ c := by
  obtain ⟨A, c, hv, hR, _⟩ := RdT.of_own h hm
  refine ⟨A, c, hv, hR, ?_⟩
  subst hv
  rcases h.2 with ⟨h1, h2⟩ | ⟨g, cap, cur, h1, _, _, h2, _⟩
  · injection h1 with _ h3 h4
    omega
  · injection h1 with _ h3 h4
    omega

set_option maxRecDepth 100000 in
set_option maxHeartbeats 4000000 in
theorem shMerge (name : ByteArray) (A : Option Addr) (k ca : Nat) (arms : List ByteArray) (B : Option Addr) (cb : Nat) (ts : List ByteArray) (w : World) (hA : RdT w A k arms) (hB : RdT w B k ts) (hk : k ≤ 1000)
    (hs : name.size ≤ 1000) (ha : ∀ a ∈ arms, a.size ≤ 12) (ht : ∀ t ∈ ts, t.size ≤ 2000000) (hl : lensT (dL ts) ≤ 10000000) :
    Calls Tryd.prog 38 #[.string name, .slice A k ca, .slice B k cb] w fun e w' => e = .returned (.string (ofB (40 :: (mergeL ++ 32 :: (name.data.toList ++ (armsT (dL arms) (dL ts) ++ [41])))))) ∧ Below w.heap.size w w' := by
  obtain ⟨i0, hi, hz0, hz1, hz2⟩ := info_parts infoString
  have hla := hA.len
  have hlb := hB.len
  have HTX := Lib.hid (mg_text name arms ts (by omega))
  rw [hla] at HTX
  have HJN := Lib.hid (show (jnT (mgS name arms ts k) ⟨#[32]⟩).length ≤ 100000000 by
    rw [← hla, mg_jn name arms ts (by omega)]
    have h1 := armsT_len (dL arms) (dL ts) (fun a h => by
      obtain ⟨m, hm, rfl⟩ := List.mem_map.1 h
      simpa using ha m hm)
    have h2 : name.data.toList.length = name.size := by simp
    rw [dL_len] at h1
    simp only [List.length_append, List.length_cons, mergeL, List.length_nil]
    omega)
  have HPC := Lib.hid fun i (hi : i < k) (w1 : World) => (shPhrase (some ⟨w1.heap.size, 0, none⟩) 3 3 [arms[i]?.getD ByteArray.empty, ⟨#[45, 62]⟩, ts[i]?.getD ByteArray.empty] (w1.alloc (.cells #[.string (arms[i]?.getD ByteArray.empty), .string ⟨#[45, 62]⟩, .string (ts[i]?.getD ByteArray.empty)] 9)) (litT w1 _ _ 3 _ rfl (by decide) rfl) (Nat.le_refl _) (by decide) (by
    have h1 := ha (arms[i]?.getD ByteArray.empty) (by rw [List.getElem?_eq_getElem (by omega)]; exact List.getElem_mem _)
    have h2 := ht (ts[i]?.getD ByteArray.empty) (by rw [List.getElem?_eq_getElem (by omega)]; exact List.getElem_mem _)
    have h3 : (arms[i]?.getD ByteArray.empty).data.toList.length = (arms[i]?.getD ByteArray.empty).size := by simp
    have h4 : (ts[i]?.getD ByteArray.empty).data.toList.length = (ts[i]?.getD ByteArray.empty).size := by simp
    simp [jn_cons, Lib.joinTail]
    omega))
  have HMS := Lib.hid fun j => mgS_succ name arms ts j
  have HML := Lib.hid fun j => mgS_len name arms ts j
  have HPD := Lib.hid fun j => (show winS ⟨#[40]⟩ ⟨#[32]⟩ ⟨#[41]⟩ [arms[j]?.getD ByteArray.empty, ⟨#[45, 62]⟩, ts[j]?.getD ByteArray.empty] = pcS arms ts j from rfl)
  have HAW := Lib.hid hA
  have HBW := Lib.hid hB
  have HO0 := Lib.hid (own_two (w := w) ⟨#[109, 101, 114, 103, 101]⟩ name)
  have HM0 := Lib.hid (show [(⟨#[109, 101, 114, 103, 101]⟩ : ByteArray), name] = mgS name arms ts 0 from rfl)
  have HB0 := Lib.hid ((Below.refl w.heap.size w).alloc (Nat.le_refl _) (.cells #[.string ⟨#[109, 101, 114, 103, 101]⟩, .string name] 9))
  clear hA hB ha ht hl hs hla hlb
  generalize ofB (40 :: (mergeL ++ 32 :: (name.data.toList ++ (armsT (dL arms) (dL ts) ++ [41])))) = tx at *
  go_enter Tryd.func38, Tryd.ntmps38
  go_wp2_with fail
  go_loopw [7, 14] (fun v i wr => ∃ j : Nat, j ≤ k ∧ i = .int .i64 j ∧ wr.ownsRow w.heap.size 9 1 v (j + 2) ((mgS name arms ts j).map Value.string) ∧ Below w.heap.size w wr) (fun _ i _ => k - (intOf i).toNat)
  case atStart => exact ⟨0, Nat.zero_le _, rfl, HO0.out, HB0.out⟩
  case round =>
    obtain ⟨j, hj, rfl, hrow, hbw⟩ := hrel
    have HRW := Lib.hid hrow
    have HBR := Lib.hid hbw
    have hbs := hbw.size
    by_cases hlt : j < k
    · obtain ⟨b1, off1, rfl, hb1l, hat1⟩ := (HAW.out.below hbw).at_ hlt
      obtain ⟨b2, off2, rfl, hb2l, hat2⟩ := (HBW.out.below hbw).at_ hlt
      have m0 := hat1 j hlt
      have t0 := hat2 j hlt
      have HP := Lib.hid (HPC.out j hlt wr)
      have hpd := HPD.out j
      rw [hpd] at HP
      have HMJ := Lib.hid (HMS.out j)
      clear hat1 hat2 hpd hrow hbw HPC HPD HMS
      generalize pcS arms ts j = pj at *
      generalize arms[j]?.getD ByteArray.empty = am at *
      generalize ts[j]?.getD ByteArray.empty = tm at *
      have HA1 := Lib.hid ((Below.refl wr.heap.size wr).alloc (Nat.le_refl _) (.cells #[.string am, .string ⟨#[45, 62]⟩, .string tm] 9))
      go_wp2_with fail
      refine HP.out.mono ?_
      rintro r w3 ⟨rfl, hb3⟩
      have hb4 := HA1.out.trans (hb3.mono HA1.out.size)
      have hrow3 := own_belowX HRW.out hb4
      have HB3 := Lib.hid (HBR.out.trans (hb4.mono hbs))
      have hbs3 := HB3.out.size
      clear hb3 hb4
      go_wp2_with (at_builtin; go_must (refine wpList_append_own_at _ rfl _ _ 25 rfl w.heap.size 9 i0 (.string ByteArray.empty) 1 16 Tryd.underlying25 hi hz0 hz1 hz2 rfl (by decide) _ _ _ rfl (hrow3.alloc _) ⟨w3.heap.size, 0, none⟩ 1 1 [.string pj] rfl rfl (cell_one_new _ _ _) (string_cells [pj]) (by unfold maxLen; omega) (by omega) (by simp; omega) ?_; intro v' w4 hown' hgrow hnil hloc))
      have HB4 := Lib.hid ((HB3.out.alloc hbs3 (.cells #[.string pj] 9)).grown hgrow (by simp; omega) (fun i hi => (hrow3.lt i hi).1))
      have HOW := Lib.hid hown'
      clear hgrow hnil hown' hloc
      go_roundw
      case rel =>
        refine ⟨j + 1, by omega, by go_num, ?_, HB4.out⟩
        rw [HMJ.out, List.map_append]
        exact HOW.out
      case measure => simp [intOf]; omega
    · have hjk : j = k := by omega
      subst hjk
      obtain ⟨A1, c1, rfl, hR1, hcc⟩ := texts_ownS HRW.out (by omega)
      have HP := Lib.hid (shPhrase A1 (j + 2) c1 (mgS name arms ts j) wr hR1 hcc (by omega) HJN.out)
      rw [HTX.out] at HP
      clear hR1 hcc hrow hbw
      go_wp2_with fail
      refine HP.out.mono ?_
      rintro r w3 ⟨rfl, hb3⟩
      have HB3 := Lib.hid (HBR.out.trans (hb3.mono hbs))
      clear hb3
      go_wp2_with fail
      go_ret
      exact ⟨rfl, HB3.out⟩
end Go.Proofs.YtijbahdpblopjaaDoor

namespace Go.Proofs.YtijbahdpblopjaaDoor
open Go.RowKit Go.Sort
set_option linter.unusedVariables false
set_option linter.unusedSimpArgs false

theorem dl_get {l : List ByteArray} {j : Nat} (h : j < l.length) : gT (dL l) j = (l[j]?.getD ByteArray.empty).data.toList := by
  simp [gT, dL, List.getElem?_eq_getElem h]
theorem jn_len (ss : List ByteArray) : (jnT ss ⟨#[44, 32]⟩).length ≤ lensT (dL ss) + 2 * ss.length := by
  have h := joinC_len (dL ss)
  rw [← jn_join, dL_len] at h
  exact h
theorem RdT.takeT {w : World} {A : Option Addr} {n m : Nat} {ss : List ByteArray} (h : RdT w A n ss) (hm : m ≤ n) : RdT w A m (ss.take m) := by
  have hl := h.1
  have hx := h.2.1
  refine ⟨by simp; omega, by omega, fun hp => ?_⟩
  obtain ⟨b, off, e, hb, hc⟩ := h.2.2 (by omega)
  refine ⟨b, off, e, hb, fun i hi => ?_⟩
  rw [List.getElem?_take_of_lt hi]
  exact hc i (by omega)

theorem call0_text (name : ByteArray) (ts : List ByteArray) : winS (name ++ (⟨#[40]⟩ : ByteArray)) ⟨#[44, 32]⟩ ⟨#[41]⟩ ts = ofB (callT 0 name.data.toList (dL ts)) :=
  ba_ext (by
    have h : (jnT ts ⟨#[44, 32]⟩) = joinC (dL ts) := jn_join _
    rw [ofB_data]
    simp [winS, h, ofB_data, callT])

set_option maxRecDepth 100000 in
set_option maxHeartbeats 2000000 in
theorem shCall0 (name : ByteArray) (A : Option Addr) (n c : Nat) (ts : List ByteArray) (w : World) (hA : RdT w A n ts) (hn : n ≤ 1000) (hnc : n ≤ c) (hs : name.size ≤ 1000) (hl : lensT (dL ts) ≤ 10000000) :
    Calls Tryd.prog 39 #[.string name, .bool false, .slice A n c] w fun e w' => e = .returned (.string (ofB (callT 0 name.data.toList (dL ts)))) ∧ Below w.heap.size w w' := by
  have hlen := hA.len
  have hj := jn_len ts
  have HL := Lib.hid (shList (name ++ (⟨#[40]⟩ : ByteArray)) ⟨#[41]⟩ A n c ts w hA hnc (by omega) (by simp only [ByteArray.size_append]; show name.size + 1 ≤ _; omega) (by decide) (by omega))
  rw [call0_text] at HL
  clear hA hl hj hlen
  have z1 : (9223372036854775807 < name.size + 1) = False := by rw [eq_iff_iff, iff_false]; omega
  generalize ofB (callT 0 name.data.toList (dL ts)) = tx at *
  go_enter Tryd.func39, Tryd.ntmps39
  go_wp2_with fail
  refine HL.out.mono ?_
  rintro r w2 ⟨rfl, hb⟩
  have HB2 := Lib.hid hb
  clear hb
  go_wp2_with fail
  go_ret
  exact ⟨rfl, HB2.out⟩

theorem call1_text (name : ByteArray) (ts : List ByteArray) (m : Nat) (h : ts.length = m + 1) :
    winS ⟨#[40]⟩ ⟨#[32]⟩ ⟨#[41]⟩ [ofB (callT 0 name.data.toList (dL (ts.take m))), ⟨#[101, 118, 101, 114, 121]⟩, ts[m]?.getD ByteArray.empty] = ofB (callT 1 name.data.toList (dL ts)) :=
  ba_ext (by
    have h1 := dl_get (l := ts) (j := m) (by omega)
    have h2 : dL (ts.take m) = (dL ts).take m := by simp [dL]
    rw [ofB_data]
    simp [winS, jn_cons, Lib.joinTail, ofB_data, callT, h2, dL_len, h, h1, everyL])

set_option maxRecDepth 100000 in
set_option maxHeartbeats 4000000 in
theorem shCall1 (name : ByteArray) (A : Option Addr) (m c : Nat) (ts : List ByteArray) (w : World) (hA : RdT w A (m + 1) ts) (hn : m + 1 ≤ 1000) (hnc : m + 1 ≤ c) (hs : name.size ≤ 1000) (hl : lensT (dL ts) ≤ 10000000) :
    Calls Tryd.prog 39 #[.string name, .bool true, .slice A (m + 1) c] w fun e w' => e = .returned (.string (ofB (callT 1 name.data.toList (dL ts)))) ∧ Below w.heap.size w w' := by
  have hlen := hA.len
  have hlt := lensT_take (dL ts) m
  have hla := lensT_at (dL ts) m
  have htk : dL (ts.take m) = (dL ts).take m := by simp [dL]
  have HC0 := Lib.hid fun w1 (h : Below w.heap.size w w1) => shCall0 name A m c (ts.take m) w1 ((hA.below h).takeT (by omega)) (by omega) (by omega) hs (by rw [htk]; omega)
  have HPH := Lib.hid fun (w1 : World) => shPhrase (some ⟨w1.heap.size, 0, none⟩) 3 3 [ofB (callT 0 name.data.toList (dL (ts.take m))), ⟨#[101, 118, 101, 114, 121]⟩, ts[m]?.getD ByteArray.empty] (w1.alloc (.cells #[.string (ofB (callT 0 name.data.toList (dL (ts.take m)))), .string ⟨#[101, 118, 101, 114, 121]⟩, .string (ts[m]?.getD ByteArray.empty)] 9)) (litT w1 _ _ 3 _ rfl (by decide) rfl) (Nat.le_refl _) (by decide) (by
    have h1 := dl_get (l := ts) (j := m) (by omega)
    rw [h1] at hla
    have h2 := joinC_len ((dL ts).take m)
    have h3 : name.data.toList.length = name.size := by simp
    have h4 : ((dL ts).take m).length ≤ m := by simp; omega
    have h5 : ((dL (ts.take m))).length ≤ m := by rw [htk]; exact h4
    rw [← htk] at h2 hla hlt
    simp only [jn_cons, Lib.joinTail, List.map_cons, List.map_nil, List.flatten_cons, List.flatten_nil, List.length_append, List.length_cons, List.length_nil, ofB_data, callT]
    simp only [show ¬ ((0 : Int) = 1) by decide, if_false, List.length_append, List.length_cons, List.length_nil]
    omega)
  rw [call1_text name ts m hlen] at HPH
  obtain ⟨b, off, rfl, hbl, hat⟩ := hA.at_ (i := m) (by omega)
  have q0 := hat m (by omega)
  have HBL := Lib.hid hbl
  clear hA hl hat hlt hla htk hlen
  generalize ofB (callT 1 name.data.toList (dL ts)) = tx at *
  generalize ofB (callT 0 name.data.toList (dL (ts.take m))) = ta at *
  generalize ts[m]?.getD ByteArray.empty = tb at *
  have hmi : (0 : Int) ≤ (m : Int) := by omega
  have hml : (m : Int) < ((m + 1 : Nat) : Int) := by omega
  have hml2 : (m : Int) < (m : Int) + 1 := by omega
  have hmc : m ≤ c := by omega
  have hmc2 : (m : Int) ≤ (c : Int) := by omega
  go_enter Tryd.func39, Tryd.ntmps39
  go_upto_region 4 with (fail)
  go_region_held3 (fun W => W.cell? ⟨b, off + m, none⟩ = some (.string tb)) (first | exact q0 | exact a0 | exact (World.cell?_alloc_lt _ _ _ hla).trans a0 | exact d0)
    ((first
      | (go_at_call 39; refine (HC0.out _ (below_drewN (Below.refl _ _) 1)).mono ?_; rintro r Wa ⟨rfl, hba⟩; have HBa := Lib.hid ((below_drewN (Below.refl w.heap.size w) 1).trans (hba.mono (below_drewN (Below.refl w.heap.size w) 1).size)); have a0 := (HBa.out.cell HBL.out).trans q0; have hla : b < Wa.heap.size := Nat.lt_of_lt_of_le HBL.out HBa.out.size; clear hba)
      | (go_at_call 36; refine (HPH.out _).mono ?_; rintro r Wd ⟨rfl, hbd⟩; have HBd := Lib.hid (HBa.out.trans ((((Below.refl Wa.heap.size Wa).alloc (Nat.le_refl _) _).trans (hbd.mono (by simp))).mono HBa.out.size)); have d0 := (HBd.out.cell HBL.out).trans q0; clear hbd)))
  go_wp2_with fail
  go_ret
  exact ⟨rfl, HBd.out⟩
end Go.Proofs.YtijbahdpblopjaaDoor
