/-
  DERIVED. GIVEN WITH THE SEED: THE CARDS: each row of YtoffgfhilkpdpaaGreatDoorRows.lean that lists a variable, with what it lists TIED to the program's text (the seventh form; the later family's looks); each row that meets fmt, with fmt's text TOLD by the authors' own Lean function (tested against real Go, not proved from fmt's source: count such statements apart). THE CARD IS WHAT COUNTS. Prove the row's statement (the work); the ties are given (YtoffgfhilkpdpaaGreatDoorTie.lean); close each card by the builder's one call (the guide's Derived/Test/ToyasCard.lean, 'card_holds'). Laid BY PROGRAM, IN A SANDBOX (cutbox-door.mjs). By AI agents, Wed Nov 11 2026. No macro, syntax, notation, axiom, sorry.
-/
import Derived.Test.YtoffgfhilkpdpaaGreatDoorRows
import GoSem.ClaimSeven
namespace Go.Proofs.YtoffgfhilkpdpaaGreatDoor
namespace Rows

/-- THE TIED CARD OF 'seneschallaw12.JointSums'. -/
def jointSumsCard : Claim7 := { stood := { row := jointSumsRow, standIns := [], harness := (true, "869f433bb4f3e0484027af3ab4334340d41e851f40a185f8e49ed7dd0ded1e7f"), looks := true }, kinds := [], alts := [], laidByText := true, laidKinds := [.data, .data, .data, .handle], laidTests := true, laidLooks := .later }
def JointSumsCardSaid : Prop := Claim7.holds Tryz.pinned (.plain (OpenSpec.ofChange jointSumsSpec)) jointSumsCard

/-- THE SECOND FORM's CARD OF 'seneschallaw12.JointSums'. -/
def jointSumsUptoCard : Claim7 := { stood := { row := jointSumsUptoRow, standIns := [], harness := (true, "869f433bb4f3e0484027af3ab4334340d41e851f40a185f8e49ed7dd0ded1e7f"), looks := true }, kinds := [], alts := [], laidByText := true, laidKinds := [.data, .data, .data, .handle], laidTests := true, laidLooks := .later }
def JointSumsUptoCardSaid : Prop := Claim7.holds Tryz.pinned (.plain (OpenSpec.upto jointSumsSpec)) jointSumsUptoCard
end Rows
end Go.Proofs.YtoffgfhilkpdpaaGreatDoor
