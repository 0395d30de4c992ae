/-
  DERIVED. GIVEN WITH THE SEED: THE CARDS: each row of YtgieoghechekpaaGreatDoorRows.lean that lists a variable, with what it lists TIED to the program's text (the seventh form; the later family's looks); each row that meets fmt, with fmt's text TOLD by the authors' own Lean function (tested against real Go, not proved from fmt's source: count such statements apart). THE CARD IS WHAT COUNTS. Prove the row's statement (the work); the ties are given (YtgieoghechekpaaGreatDoorTie.lean); close each card by the builder's one call (the guide's Derived/Test/ToyasCard.lean, 'card_holds'). Laid BY PROGRAM, IN A SANDBOX (cutbox-door.mjs). By AI agents, Wed Nov 11 2026. No macro, syntax, notation, axiom, sorry.
-/
import Derived.Test.YtgieoghechekpaaGreatDoorRows
import GoSem.ClaimSeven
namespace Go.Proofs.YtgieoghechekpaaGreatDoor
namespace Rows

/-- THE TIED CARD OF 'seneschallaw10.PolyEvals'. -/
def polyEvalsCard : Claim7 := { stood := { row := polyEvalsRow, standIns := [], harness := (true, "1ffd73f05861e30ef9fc436bcf74510e725053df32abda520b1f426d6de70f5e"), looks := true }, kinds := [], alts := [], laidByText := true, laidKinds := [.data, .data, .data, .handle], laidTests := true, laidLooks := .later }
def PolyEvalsCardSaid : Prop := Claim7.holds Tryz.pinned (.plain (OpenSpec.ofChange polyEvalsSpec)) polyEvalsCard

/-- THE TIED CARD OF 'seneschallaw10.PolyFactors'. -/
def polyFactorsCard : Claim7 := { stood := { row := polyFactorsRow, standIns := [], harness := (true, "1ffd73f05861e30ef9fc436bcf74510e725053df32abda520b1f426d6de70f5e"), looks := true }, kinds := [], alts := [], laidByText := true, laidKinds := [.data, .data, .data, .handle], laidTests := true, laidLooks := .later }
def PolyFactorsCardSaid : Prop := Claim7.holds Tryz.pinned (.plain (OpenSpec.ofChange polyFactorsSpec)) polyFactorsCard

/-- THE TIED CARD OF 'seneschallaw10.PolySums'. -/
def polySumsCard : Claim7 := { stood := { row := polySumsRow, standIns := [], harness := (true, "1ffd73f05861e30ef9fc436bcf74510e725053df32abda520b1f426d6de70f5e"), looks := true }, kinds := [], alts := [], laidByText := true, laidKinds := [.data, .data, .data, .handle], laidTests := true, laidLooks := .later }
def PolySumsCardSaid : Prop := Claim7.holds Tryz.pinned (.plain (OpenSpec.ofChange polySumsSpec)) polySumsCard

/-- THE TIED CARD OF 'seneschallaw10.PolyTurned'. -/
def polyTurnedCard : Claim7 := { stood := { row := polyTurnedRow, standIns := [], harness := (true, "1ffd73f05861e30ef9fc436bcf74510e725053df32abda520b1f426d6de70f5e"), looks := true }, kinds := [], alts := [], laidByText := true, laidKinds := [.data, .data, .data, .handle], laidTests := true, laidLooks := .later }
def PolyTurnedCardSaid : Prop := Claim7.holds Tryz.pinned (.plain (OpenSpec.ofChange polyTurnedSpec)) polyTurnedCard

/-- THE SECOND FORM's CARD OF 'seneschallaw10.PolyEvals'. -/
def polyEvalsUptoCard : Claim7 := { stood := { row := polyEvalsUptoRow, standIns := [], harness := (true, "1ffd73f05861e30ef9fc436bcf74510e725053df32abda520b1f426d6de70f5e"), looks := true }, kinds := [], alts := [], laidByText := true, laidKinds := [.data, .data, .data, .handle], laidTests := true, laidLooks := .later }
def PolyEvalsUptoCardSaid : Prop := Claim7.holds Tryz.pinned (.plain (OpenSpec.upto polyEvalsSpec)) polyEvalsUptoCard

/-- THE SECOND FORM's CARD OF 'seneschallaw10.PolyFactors'. -/
def polyFactorsUptoCard : Claim7 := { stood := { row := polyFactorsUptoRow, standIns := [], harness := (true, "1ffd73f05861e30ef9fc436bcf74510e725053df32abda520b1f426d6de70f5e"), looks := true }, kinds := [], alts := [], laidByText := true, laidKinds := [.data, .data, .data, .handle], laidTests := true, laidLooks := .later }
def PolyFactorsUptoCardSaid : Prop := Claim7.holds Tryz.pinned (.plain (OpenSpec.upto polyFactorsSpec)) polyFactorsUptoCard

/-- THE SECOND FORM's CARD OF 'seneschallaw10.PolySums'. -/
def polySumsUptoCard : Claim7 := { stood := { row := polySumsUptoRow, standIns := [], harness := (true, "1ffd73f05861e30ef9fc436bcf74510e725053df32abda520b1f426d6de70f5e"), looks := true }, kinds := [], alts := [], laidByText := true, laidKinds := [.data, .data, .data, .handle], laidTests := true, laidLooks := .later }
def PolySumsUptoCardSaid : Prop := Claim7.holds Tryz.pinned (.plain (OpenSpec.upto polySumsSpec)) polySumsUptoCard

/-- THE SECOND FORM's CARD OF 'seneschallaw10.PolyTurned'. -/
def polyTurnedUptoCard : Claim7 := { stood := { row := polyTurnedUptoRow, standIns := [], harness := (true, "1ffd73f05861e30ef9fc436bcf74510e725053df32abda520b1f426d6de70f5e"), looks := true }, kinds := [], alts := [], laidByText := true, laidKinds := [.data, .data, .data, .handle], laidTests := true, laidLooks := .later }
def PolyTurnedUptoCardSaid : Prop := Claim7.holds Tryz.pinned (.plain (OpenSpec.upto polyTurnedSpec)) polyTurnedUptoCard
end Rows
end Go.Proofs.YtgieoghechekpaaGreatDoor
