/-
  DERIVED. GIVEN WITH THE SEED: THE CARDS: each row of YtdnmnfpcgbbplaaDoorRows.lean that lists a variable, with what it lists TIED to the program's text (the seventh form; the later family's looks); each row that meets fmt, with fmt's text TOLD by the authors' own Lean function (tested against real Go, not proved from fmt's source: count such statements apart). THE CARD IS WHAT COUNTS. Prove the row's statement (the work); the ties are given (YtdnmnfpcgbbplaaDoorTie.lean); close each card by the builder's one call (the guide's Derived/Test/ToyasCard.lean, 'card_holds'). Laid BY PROGRAM, IN A SANDBOX (cutbox-door.mjs). By AI agents, Wed Nov 11 2026. No macro, syntax, notation, axiom, sorry.
-/
import Derived.Test.YtdnmnfpcgbbplaaDoorRows
import GoSem.ClaimSeven
namespace Go.Proofs.YtdnmnfpcgbbplaaDoor
namespace Rows

/-- THE TIED CARD OF 'norialaw06.ValRight'. -/
def valRightCard : Claim7 := { stood := { row := valRightRow, standIns := [], harness := (true, "2ee6ee98138dc2464312d2139b3cca55657e819a7006ebc9b930fc2ea83b4a99"), looks := false }, kinds := [], alts := [], laidByText := true, laidKinds := [.data, .data, .data], laidTests := true, laidLooks := .later }
def ValRightCardSaid : Prop := Claim7.holds Tryd.pinned (.plain (OpenSpec.ofChange valRightSpec)) valRightCard

/-- THE TIED CARD OF 'norialaw06.ValTexts'. -/
def valTextsCard : Claim7 := { stood := { row := valTextsRow, standIns := [], harness := (true, "2ee6ee98138dc2464312d2139b3cca55657e819a7006ebc9b930fc2ea83b4a99"), looks := false }, kinds := [], alts := [], laidByText := true, laidKinds := [.data, .data, .data], laidTests := true, laidLooks := .later }
def ValTextsCardSaid : Prop := Claim7.holds Tryd.pinned (.plain (OpenSpec.ofChange valTextsSpec)) valTextsCard

/-- THE TIED CARD OF 'norialaw06.ValApart'. -/
def valApartCard : Claim7 := { stood := { row := valApartRow, standIns := [], harness := (true, "2ee6ee98138dc2464312d2139b3cca55657e819a7006ebc9b930fc2ea83b4a99"), looks := false }, kinds := [], alts := [], laidByText := true, laidKinds := [.data, .data, .data], laidTests := true, laidLooks := .later }
def ValApartCardSaid : Prop := Claim7.holds Tryd.pinned (.plain (OpenSpec.ofChange valApartSpec)) valApartCard

/-- THE SECOND FORM's CARD OF 'norialaw06.ValRight'. -/
def valRightUptoCard : Claim7 := { stood := { row := valRightUptoRow, standIns := [], harness := (true, "2ee6ee98138dc2464312d2139b3cca55657e819a7006ebc9b930fc2ea83b4a99"), looks := false }, kinds := [], alts := [], laidByText := true, laidKinds := [.data, .data, .data], laidTests := true, laidLooks := .later }
def ValRightUptoCardSaid : Prop := Claim7.holds Tryd.pinned (.plain (OpenSpec.upto valRightSpec)) valRightUptoCard

/-- THE SECOND FORM's CARD OF 'norialaw06.ValTexts'. -/
def valTextsUptoCard : Claim7 := { stood := { row := valTextsUptoRow, standIns := [], harness := (true, "2ee6ee98138dc2464312d2139b3cca55657e819a7006ebc9b930fc2ea83b4a99"), looks := false }, kinds := [], alts := [], laidByText := true, laidKinds := [.data, .data, .data], laidTests := true, laidLooks := .later }
def ValTextsUptoCardSaid : Prop := Claim7.holds Tryd.pinned (.plain (OpenSpec.upto valTextsSpec)) valTextsUptoCard

/-- THE SECOND FORM's CARD OF 'norialaw06.ValApart'. -/
def valApartUptoCard : Claim7 := { stood := { row := valApartUptoRow, standIns := [], harness := (true, "2ee6ee98138dc2464312d2139b3cca55657e819a7006ebc9b930fc2ea83b4a99"), looks := false }, kinds := [], alts := [], laidByText := true, laidKinds := [.data, .data, .data], laidTests := true, laidLooks := .later }
def ValApartUptoCardSaid : Prop := Claim7.holds Tryd.pinned (.plain (OpenSpec.upto valApartSpec)) valApartUptoCard
end Rows
end Go.Proofs.YtdnmnfpcgbbplaaDoor
