/-
  DERIVED. GIVEN WITH THE SEED: THE CARDS: each row of YtijbahdpblopjaaDoorRows.lean that lists a variable, with what it lists TIED to the program's text (the seventh form; the later family's looks); each row that meets fmt, with fmt's text TOLD by the authors' own Lean function (tested against real Go, not proved from fmt's source: count such statements apart). THE CARD IS WHAT COUNTS. Prove the row's statement (the work); the ties are given (YtijbahdpblopjaaDoorTie.lean); close each card by the builder's one call (the guide's Derived/Test/ToyasCard.lean, 'card_holds'). Laid BY PROGRAM, IN A SANDBOX (cutbox-door.mjs). By AI agents, Wed Nov 11 2026. No macro, syntax, notation, axiom, sorry.
-/
import Derived.Test.YtijbahdpblopjaaDoorRows
import GoSem.ClaimSeven
namespace Go.Proofs.YtijbahdpblopjaaDoor
namespace Rows

/-- THE TIED CARD OF 'norialaw10.ShowOn'. -/
def showOnCard : Claim7 := { stood := { row := showOnRow, standIns := [], harness := (true, "57a73eaf62b125fb9b0553fda2ad17b3327f306ec1837f2516bca3512156683d"), looks := false }, kinds := [], alts := [], laidByText := true, laidKinds := [.data, .data, .data], laidTests := true, laidLooks := .later }
def ShowOnCardSaid : Prop := Claim7.holds Tryd.pinned (.plain (OpenSpec.ofChange showOnSpec)) showOnCard

/-- THE TIED CARD OF 'norialaw10.ShowApart'. -/
def showApartCard : Claim7 := { stood := { row := showApartRow, standIns := [], harness := (true, "57a73eaf62b125fb9b0553fda2ad17b3327f306ec1837f2516bca3512156683d"), looks := false }, kinds := [], alts := [], laidByText := true, laidKinds := [.data, .data, .data], laidTests := true, laidLooks := .later }
def ShowApartCardSaid : Prop := Claim7.holds Tryd.pinned (.plain (OpenSpec.ofChange showApartSpec)) showApartCard

/-- THE SECOND FORM's CARD OF 'norialaw10.ShowOn'. -/
def showOnUptoCard : Claim7 := { stood := { row := showOnUptoRow, standIns := [], harness := (true, "57a73eaf62b125fb9b0553fda2ad17b3327f306ec1837f2516bca3512156683d"), looks := false }, kinds := [], alts := [], laidByText := true, laidKinds := [.data, .data, .data], laidTests := true, laidLooks := .later }
def ShowOnUptoCardSaid : Prop := Claim7.holds Tryd.pinned (.plain (OpenSpec.upto showOnSpec)) showOnUptoCard

/-- THE SECOND FORM's CARD OF 'norialaw10.ShowApart'. -/
def showApartUptoCard : Claim7 := { stood := { row := showApartUptoRow, standIns := [], harness := (true, "57a73eaf62b125fb9b0553fda2ad17b3327f306ec1837f2516bca3512156683d"), looks := false }, kinds := [], alts := [], laidByText := true, laidKinds := [.data, .data, .data], laidTests := true, laidLooks := .later }
def ShowApartUptoCardSaid : Prop := Claim7.holds Tryd.pinned (.plain (OpenSpec.upto showApartSpec)) showApartUptoCard
end Rows
end Go.Proofs.YtijbahdpblopjaaDoor
