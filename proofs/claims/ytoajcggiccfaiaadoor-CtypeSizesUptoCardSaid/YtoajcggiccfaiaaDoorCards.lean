/-
  DERIVED. GIVEN WITH THE SEED: THE CARDS: each row of YtoajcggiccfaiaaDoorRows.lean that lists a variable, with what it lists TIED to the program's text (the seventh form; the later family's looks); each row that meets fmt, with fmt's text TOLD by the authors' own Lean function (tested against real Go, not proved from fmt's source: count such statements apart). THE CARD IS WHAT COUNTS. Prove the row's statement (the work); the ties are given (YtoajcggiccfaiaaDoorTie.lean); close each card by the builder's one call (the guide's Derived/Test/ToyasCard.lean, 'card_holds'). Laid BY PROGRAM, IN A SANDBOX (cutbox-door.mjs). By AI agents, Wed Nov 11 2026. No macro, syntax, notation, axiom, sorry.
-/
import Derived.Test.YtoajcggiccfaiaaDoorRows
import GoSem.ClaimSeven
namespace Go.Proofs.YtoajcggiccfaiaaDoor
namespace Rows

/-- THE TIED CARD OF 'merlonlaw02.CtypeSizes'. -/
def ctypeSizesCard : Claim7 := { stood := { row := ctypeSizesRow, standIns := [], harness := (true, "d3580736a28e273c15fe46df5e8c96e945403e050cc24b4dca5e924a4ab96afb"), looks := false }, kinds := [], alts := [], laidByText := true, laidKinds := [.data, .data, .data], laidTests := true, laidLooks := .later }
def CtypeSizesCardSaid : Prop := Claim7.holds Tryd.pinned (.plain (OpenSpec.ofChange ctypeSizesSpec)) ctypeSizesCard

/-- THE TIED CARD OF 'merlonlaw02.CtypeNone'. -/
def ctypeNoneCard : Claim7 := { stood := { row := ctypeNoneRow, standIns := [], harness := (true, "d3580736a28e273c15fe46df5e8c96e945403e050cc24b4dca5e924a4ab96afb"), looks := false }, kinds := [], alts := [], laidByText := true, laidKinds := [.data, .data, .data], laidTests := true, laidLooks := .later }
def CtypeNoneCardSaid : Prop := Claim7.holds Tryd.pinned (.plain (OpenSpec.ofChange ctypeNoneSpec)) ctypeNoneCard

/-- THE SECOND FORM's CARD OF 'merlonlaw02.CtypeSizes'. -/
def ctypeSizesUptoCard : Claim7 := { stood := { row := ctypeSizesUptoRow, standIns := [], harness := (true, "d3580736a28e273c15fe46df5e8c96e945403e050cc24b4dca5e924a4ab96afb"), looks := false }, kinds := [], alts := [], laidByText := true, laidKinds := [.data, .data, .data], laidTests := true, laidLooks := .later }
def CtypeSizesUptoCardSaid : Prop := Claim7.holds Tryd.pinned (.plain (OpenSpec.upto ctypeSizesSpec)) ctypeSizesUptoCard

/-- THE SECOND FORM's CARD OF 'merlonlaw02.CtypeNone'. -/
def ctypeNoneUptoCard : Claim7 := { stood := { row := ctypeNoneUptoRow, standIns := [], harness := (true, "d3580736a28e273c15fe46df5e8c96e945403e050cc24b4dca5e924a4ab96afb"), looks := false }, kinds := [], alts := [], laidByText := true, laidKinds := [.data, .data, .data], laidTests := true, laidLooks := .later }
def CtypeNoneUptoCardSaid : Prop := Claim7.holds Tryd.pinned (.plain (OpenSpec.upto ctypeNoneSpec)) ctypeNoneUptoCard
end Rows
end Go.Proofs.YtoajcggiccfaiaaDoor
