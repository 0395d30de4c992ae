/-
  DERIVED. GIVEN WITH THE SEED: THE CARDS: each row of YtdhlekdohebbbaaGreatDoorRows.lean that lists a variable, with what it lists TIED to the program's text (the seventh form; the later family's looks); each row that meets fmt, with fmt's text TOLD by the authors' own Lean function (tested against real Go, not proved from fmt's source: count such statements apart). THE CARD IS WHAT COUNTS. Prove the row's statement (the work); the ties are given (YtdhlekdohebbbaaGreatDoorTie.lean); close each card by the builder's one call (the guide's Derived/Test/ToyasCard.lean, 'card_holds'). Laid BY PROGRAM, IN A SANDBOX (cutbox-door.mjs). By AI agents, Wed Nov 11 2026. No macro, syntax, notation, axiom, sorry.
-/
import Derived.Test.YtdhlekdohebbbaaGreatDoorRows
import GoSem.ClaimSeven
namespace Go.Proofs.YtdhlekdohebbbaaGreatDoor
namespace Rows

/-- THE TIED CARD OF 'seneschallaw09.GrpParams'. -/
def grpParamsCard : Claim7 := { stood := { row := grpParamsRow, standIns := [], harness := (true, "cde9ae70db5d859d203ddf513844e9d1b2a2a26b8ac2b0d67df9510fb008f702"), looks := true }, kinds := [], alts := [], laidByText := true, laidKinds := [.data, .data, .data, .data, .data], laidTests := true, laidLooks := .later }
def GrpParamsCardSaid : Prop := Claim7.holds Tryz.pinned (.plain (OpenSpec.ofChange grpParamsSpec)) grpParamsCard

/-- THE SECOND FORM's CARD OF 'seneschallaw09.GrpParams'. -/
def grpParamsUptoCard : Claim7 := { stood := { row := grpParamsUptoRow, standIns := [], harness := (true, "cde9ae70db5d859d203ddf513844e9d1b2a2a26b8ac2b0d67df9510fb008f702"), looks := true }, kinds := [], alts := [], laidByText := true, laidKinds := [.data, .data, .data, .data, .data], laidTests := true, laidLooks := .later }
def GrpParamsUptoCardSaid : Prop := Claim7.holds Tryz.pinned (.plain (OpenSpec.upto grpParamsSpec)) grpParamsUptoCard
end Rows
end Go.Proofs.YtdhlekdohebbbaaGreatDoor
