/-
  DERIVED. GIVEN WITH THE SEED: THE CARDS: each row of YtknpepgonhdbgaaGreatDoorRows.lean that lists a variable, with what it lists TIED to the program's text (the seventh form; the later family's looks); each row that meets fmt, with fmt's text TOLD by the authors' own Lean function (tested against real Go, not proved from fmt's source: count such statements apart). THE CARD IS WHAT COUNTS. Prove the row's statement (the work); the ties are given (YtknpepgonhdbgaaGreatDoorTie.lean); close each card by the builder's one call (the guide's Derived/Test/ToyasCard.lean, 'card_holds'). Laid BY PROGRAM, IN A SANDBOX (cutbox-door.mjs). By AI agents, Wed Nov 11 2026. No macro, syntax, notation, axiom, sorry.
-/
import Derived.Test.YtknpepgonhdbgaaGreatDoorRows
import GoSem.ClaimSeven
namespace Go.Proofs.YtknpepgonhdbgaaGreatDoor
namespace Rows

/-- THE TIED CARD OF 'seneschallaw09.GrpTells'. -/
def grpTellsCard : Claim7 := { stood := { row := grpTellsRow, standIns := [], harness := (true, "c23cea0777dd7d4ec82a202e3326ab7f6e52c60381327f7b88e1805c4f269827"), looks := true }, kinds := [], alts := [], laidByText := true, laidKinds := [.data, .data, .data, .data, .data], laidTests := true, laidLooks := .later }
def GrpTellsCardSaid : Prop := Claim7.holds Tryz.pinned (.plain (OpenSpec.ofChange grpTellsSpec)) grpTellsCard

/-- THE TIED CARD OF 'seneschallaw09.GrpMakes'. -/
def grpMakesCard : Claim7 := { stood := { row := grpMakesRow, standIns := [], harness := (true, "c23cea0777dd7d4ec82a202e3326ab7f6e52c60381327f7b88e1805c4f269827"), looks := true }, kinds := [], alts := [], laidByText := true, laidKinds := [.data, .data, .data, .data, .data], laidTests := true, laidLooks := .later }
def GrpMakesCardSaid : Prop := Claim7.holds Tryz.pinned (.plain (OpenSpec.ofChange grpMakesSpec)) grpMakesCard

/-- THE TIED CARD OF 'seneschallaw09.GrpParams'. -/
def grpParamsCard : Claim7 := { stood := { row := grpParamsRow, standIns := [], harness := (true, "c23cea0777dd7d4ec82a202e3326ab7f6e52c60381327f7b88e1805c4f269827"), looks := true }, kinds := [], alts := [], laidByText := true, laidKinds := [.data, .data, .data, .data, .data], laidTests := true, laidLooks := .later }
def GrpParamsCardSaid : Prop := Claim7.holds Tryz.pinned (.plain (OpenSpec.ofChange grpParamsSpec)) grpParamsCard

/-- THE TIED CARD OF 'seneschallaw09.GrpCloses'. -/
def grpClosesCard : Claim7 := { stood := { row := grpClosesRow, standIns := [], harness := (true, "c23cea0777dd7d4ec82a202e3326ab7f6e52c60381327f7b88e1805c4f269827"), looks := true }, kinds := [], alts := [], laidByText := true, laidKinds := [.data, .data, .data, .data, .data], laidTests := true, laidLooks := .later }
def GrpClosesCardSaid : Prop := Claim7.holds Tryz.pinned (.plain (OpenSpec.ofChange grpClosesSpec)) grpClosesCard

/-- THE TIED CARD OF 'seneschallaw09.GrpCommits'. -/
def grpCommitsCard : Claim7 := { stood := { row := grpCommitsRow, standIns := [], harness := (true, "c23cea0777dd7d4ec82a202e3326ab7f6e52c60381327f7b88e1805c4f269827"), looks := true }, kinds := [], alts := [], laidByText := true, laidKinds := [.data, .data, .data, .data, .data], laidTests := true, laidLooks := .later }
def GrpCommitsCardSaid : Prop := Claim7.holds Tryz.pinned (.plain (OpenSpec.ofChange grpCommitsSpec)) grpCommitsCard

/-- THE TIED CARD OF 'seneschallaw09.GrpDigests'. -/
def grpDigestsCard : Claim7 := { stood := { row := grpDigestsRow, standIns := [], harness := (true, "c23cea0777dd7d4ec82a202e3326ab7f6e52c60381327f7b88e1805c4f269827"), looks := true }, kinds := [], alts := [], laidByText := true, laidKinds := [.data, .data, .data, .data, .data], laidTests := true, laidLooks := .later }
def GrpDigestsCardSaid : Prop := Claim7.holds Tryz.pinned (.plain (OpenSpec.ofChange grpDigestsSpec)) grpDigestsCard

/-- THE SECOND FORM's CARD OF 'seneschallaw09.GrpTells'. -/
def grpTellsUptoCard : Claim7 := { stood := { row := grpTellsUptoRow, standIns := [], harness := (true, "c23cea0777dd7d4ec82a202e3326ab7f6e52c60381327f7b88e1805c4f269827"), looks := true }, kinds := [], alts := [], laidByText := true, laidKinds := [.data, .data, .data, .data, .data], laidTests := true, laidLooks := .later }
def GrpTellsUptoCardSaid : Prop := Claim7.holds Tryz.pinned (.plain (OpenSpec.upto grpTellsSpec)) grpTellsUptoCard

/-- THE SECOND FORM's CARD OF 'seneschallaw09.GrpMakes'. -/
def grpMakesUptoCard : Claim7 := { stood := { row := grpMakesUptoRow, standIns := [], harness := (true, "c23cea0777dd7d4ec82a202e3326ab7f6e52c60381327f7b88e1805c4f269827"), looks := true }, kinds := [], alts := [], laidByText := true, laidKinds := [.data, .data, .data, .data, .data], laidTests := true, laidLooks := .later }
def GrpMakesUptoCardSaid : Prop := Claim7.holds Tryz.pinned (.plain (OpenSpec.upto grpMakesSpec)) grpMakesUptoCard

/-- THE SECOND FORM's CARD OF 'seneschallaw09.GrpParams'. -/
def grpParamsUptoCard : Claim7 := { stood := { row := grpParamsUptoRow, standIns := [], harness := (true, "c23cea0777dd7d4ec82a202e3326ab7f6e52c60381327f7b88e1805c4f269827"), looks := true }, kinds := [], alts := [], laidByText := true, laidKinds := [.data, .data, .data, .data, .data], laidTests := true, laidLooks := .later }
def GrpParamsUptoCardSaid : Prop := Claim7.holds Tryz.pinned (.plain (OpenSpec.upto grpParamsSpec)) grpParamsUptoCard

/-- THE SECOND FORM's CARD OF 'seneschallaw09.GrpCloses'. -/
def grpClosesUptoCard : Claim7 := { stood := { row := grpClosesUptoRow, standIns := [], harness := (true, "c23cea0777dd7d4ec82a202e3326ab7f6e52c60381327f7b88e1805c4f269827"), looks := true }, kinds := [], alts := [], laidByText := true, laidKinds := [.data, .data, .data, .data, .data], laidTests := true, laidLooks := .later }
def GrpClosesUptoCardSaid : Prop := Claim7.holds Tryz.pinned (.plain (OpenSpec.upto grpClosesSpec)) grpClosesUptoCard

/-- THE SECOND FORM's CARD OF 'seneschallaw09.GrpCommits'. -/
def grpCommitsUptoCard : Claim7 := { stood := { row := grpCommitsUptoRow, standIns := [], harness := (true, "c23cea0777dd7d4ec82a202e3326ab7f6e52c60381327f7b88e1805c4f269827"), looks := true }, kinds := [], alts := [], laidByText := true, laidKinds := [.data, .data, .data, .data, .data], laidTests := true, laidLooks := .later }
def GrpCommitsUptoCardSaid : Prop := Claim7.holds Tryz.pinned (.plain (OpenSpec.upto grpCommitsSpec)) grpCommitsUptoCard

/-- THE SECOND FORM's CARD OF 'seneschallaw09.GrpDigests'. -/
def grpDigestsUptoCard : Claim7 := { stood := { row := grpDigestsUptoRow, standIns := [], harness := (true, "c23cea0777dd7d4ec82a202e3326ab7f6e52c60381327f7b88e1805c4f269827"), looks := true }, kinds := [], alts := [], laidByText := true, laidKinds := [.data, .data, .data, .data, .data], laidTests := true, laidLooks := .later }
def GrpDigestsUptoCardSaid : Prop := Claim7.holds Tryz.pinned (.plain (OpenSpec.upto grpDigestsSpec)) grpDigestsUptoCard
end Rows
end Go.Proofs.YtknpepgonhdbgaaGreatDoor
