/-
  NARROWER THAN 'FOR EVERY INPUT', by the rows' own cells (each row's printed sentence says how): ProgFinds: loops · ProgClocks: loops · ProgSame: loops.
  DERIVED. THE GIVEN ROWS OF THIS SEAT. 3 by the template 'for every input the law returns true; each argument reads behind the call as it read before'; 0 by the template 'total and deterministic' (their statements: YtapnodhgjfbjjaaTotals.lean).
  GIVEN WITH THE SEED: the statements are not yours to turn. If you find one false, say at which input.
  Laid BY PROGRAM, IN A SANDBOX (cutbox-rows.mjs): the forced cells as the released guide's own fill.sh prints them over the translation 7e667094aabd68d8… (all of the seat's roots in one cut). By AI agents, Wed Nov 11 2026. No macro, syntax, notation, axiom, sorry.
-/
import Derived.Test.YtapnodhgjfbjjaaChecked
import GoSem.Claim
import GoSem.ClaimJoined
import GoSem.ClaimMapViews
import Derived.JoinedTies
import Derived.KernelRfl
namespace Go.Proofs.Ytapnodhgjfbjjaa
/- THE CELL 'sum', in the pinned program and in every row, IS THE sha256 OF THE DUMP (.gsa) THAT YtapnodhgjfbjjaaProg.lean LOADS. Nothing in Lean hashes anything: it is a label: what it is worth is what the hold of that sum in a sandbox is worth. -/
noncomputable def Try.pinned : Pinned := { name := "ytapnodhgjfbjjaa", sum := "7e667094aabd68d81030389a1a43337777b2a2ee85d59b5d76f574fbe0e677d8", checked := Try.checked }
namespace Rows
def none {H : Type} : Left H := { results := [], args := [] }

/-- 'norialaw12.ProgFinds': WHATEVER THE INPUT: true; the input reads as it did. -/
def progFindsSpec : ChangeSpec := { name := "progFinds", fn := fun _ => fun
  | [d1, d2] => { results := [.lit (.bool true)], args := [d1, d2] }
  | _ => none }
def progFindsRow : OpenClaim := { program := "ytapnodhgjfbjjaa", sum := "7e667094aabd68d81030389a1a43337777b2a2ee85d59b5d76f574fbe0e677d8", func := "noria/norialaw12.ProgFinds", spec := "progFinds", unfollowed := true, recurses := true, loops := true, apart := false }
def ProgFindsSaid : Prop := progFindsRow.holds Try.pinned (OpenSpec.ofChange progFindsSpec)

/-- ITS FALSE NEIGHBOUR: 'it returns false'. Refute it at one input. -/
def progFindsWrong : ChangeSpec := { name := "progFinds", fn := fun _ => fun
  | [d1, d2] => { results := [.lit (.bool false)], args := [d1, d2] }
  | _ => none }
def ProgFindsWrongFalsely : Prop := progFindsRow.holds Try.pinned (OpenSpec.ofChange progFindsWrong)

/-- 'norialaw12.ProgClocks': WHATEVER THE INPUT: true; the input reads as it did. -/
def progClocksSpec : ChangeSpec := { name := "progClocks", fn := fun _ => fun
  | [d1, d2] => { results := [.lit (.bool true)], args := [d1, d2] }
  | _ => none }
def progClocksRow : OpenClaim := { program := "ytapnodhgjfbjjaa", sum := "7e667094aabd68d81030389a1a43337777b2a2ee85d59b5d76f574fbe0e677d8", func := "noria/norialaw12.ProgClocks", spec := "progClocks", recurses := true, loops := true, apart := false }
def ProgClocksSaid : Prop := progClocksRow.holds Try.pinned (OpenSpec.ofChange progClocksSpec)

/-- ITS FALSE NEIGHBOUR: 'it returns false'. Refute it at one input. -/
def progClocksWrong : ChangeSpec := { name := "progClocks", fn := fun _ => fun
  | [d1, d2] => { results := [.lit (.bool false)], args := [d1, d2] }
  | _ => none }
def ProgClocksWrongFalsely : Prop := progClocksRow.holds Try.pinned (OpenSpec.ofChange progClocksWrong)

/-- 'norialaw12.ProgSame': WHATEVER THE INPUT: true; the input reads as it did. -/
def progSameSpec : ChangeSpec := { name := "progSame", fn := fun _ => fun
  | [d1, d2] => { results := [.lit (.bool true)], args := [d1, d2] }
  | _ => none }
def progSameRow : OpenClaim := { program := "ytapnodhgjfbjjaa", sum := "7e667094aabd68d81030389a1a43337777b2a2ee85d59b5d76f574fbe0e677d8", func := "noria/norialaw12.ProgSame", spec := "progSame", unfollowed := true, recurses := true, loops := true, apart := false }
def ProgSameSaid : Prop := progSameRow.holds Try.pinned (OpenSpec.ofChange progSameSpec)

/-- ITS FALSE NEIGHBOUR: 'it returns false'. Refute it at one input. -/
def progSameWrong : ChangeSpec := { name := "progSame", fn := fun _ => fun
  | [d1, d2] => { results := [.lit (.bool false)], args := [d1, d2] }
  | _ => none }
def ProgSameWrongFalsely : Prop := progSameRow.holds Try.pinned (OpenSpec.ofChange progSameWrong)

/- THE SECOND FORM. 'bulk': how many values and letters a reading holds, each counted each time it is reached (what is shared counts as often as it is met; a slice's spare places count too). A statement '..UptoSaid' is the law's where the arguments, and the package variables that the reading takes, are together of bulk at most 1048576: NARROWER than '..Said'. Prove '..Said' where nothing that the law and all that it calls make is longer than what came in: it says more and counts as full. Else prove '..UptoSaid'. A law counts once. -/
mutual
def uptoBulk {H : Type} : DataW H → Nat
  | .lit (.string bytes) => bytes.length + 1
  | .lit _ => 1
  | .nil => 1
  | .ptr d => uptoBulk d + 1
  | .slice elems spare => uptoBulkAll elems + uptoBulkAll spare + 1
  | .agg parts => uptoBulkAll parts + 1
  | .iface _ d => uptoBulk d + 1
  | .map entries => uptoBulkEntries entries + 1
  | .held _ => 1
def uptoBulkAll {H : Type} : List (DataW H) → Nat
  | [] => 0
  | d :: r => uptoBulk d + uptoBulkAll r
def uptoBulkEntries {H : Type} : List (Lit × DataW H) → Nat
  | [] => 0
  | x :: r => uptoBulkEntry x + uptoBulkEntries r
def uptoBulkEntry {H : Type} : Lit × DataW H → Nat
  | (.string bytes, d) => bytes.length + uptoBulk d + 1
  | (_, d) => uptoBulk d + 1
 end
def uptoSmall : (H : Type) → List (DataW H) → Bool := fun _ ds => decide (uptoBulkAll ds ≤ 1048576)
def OpenSpec.upto (s : _root_.Go.ChangeSpec) : _root_.Go.OpenSpec := { _root_.Go.OpenSpec.ofChange s with cond := some uptoSmall }

/-- 'norialaw12.ProgFinds', WHERE WHAT IT READS IS OF BULK AT MOST 1048576: true; the input reads as it did. -/
def progFindsUptoRow : OpenClaim := { program := "ytapnodhgjfbjjaa", sum := "7e667094aabd68d81030389a1a43337777b2a2ee85d59b5d76f574fbe0e677d8", func := "noria/norialaw12.ProgFinds", spec := "progFinds", unfollowed := true, recurses := true, loops := true, apart := false, narrowed := true }
def ProgFindsUptoSaid : Prop := progFindsUptoRow.holds Try.pinned (OpenSpec.upto progFindsSpec)

/-- 'norialaw12.ProgClocks', WHERE WHAT IT READS IS OF BULK AT MOST 1048576: true; the input reads as it did. -/
def progClocksUptoRow : OpenClaim := { program := "ytapnodhgjfbjjaa", sum := "7e667094aabd68d81030389a1a43337777b2a2ee85d59b5d76f574fbe0e677d8", func := "noria/norialaw12.ProgClocks", spec := "progClocks", recurses := true, loops := true, apart := false, narrowed := true }
def ProgClocksUptoSaid : Prop := progClocksUptoRow.holds Try.pinned (OpenSpec.upto progClocksSpec)

/-- 'norialaw12.ProgSame', WHERE WHAT IT READS IS OF BULK AT MOST 1048576: true; the input reads as it did. -/
def progSameUptoRow : OpenClaim := { program := "ytapnodhgjfbjjaa", sum := "7e667094aabd68d81030389a1a43337777b2a2ee85d59b5d76f574fbe0e677d8", func := "noria/norialaw12.ProgSame", spec := "progSame", unfollowed := true, recurses := true, loops := true, apart := false, narrowed := true }
def ProgSameUptoSaid : Prop := progSameUptoRow.holds Try.pinned (OpenSpec.upto progSameSpec)

end Rows
end Go.Proofs.Ytapnodhgjfbjjaa
