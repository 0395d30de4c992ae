/-
  DERIVED. GIVEN WITH THE SEED: THE CARDS: each row of YtclafkfelkmigaaGreatDoorRows.lean that lists a variable, with what it lists TIED to the program's text (the seventh form; the later family's looks); each row that meets fmt, with fmt's text TOLD by the authors' own Lean function (tested against real Go, not proved from fmt's source: count such statements apart). THE CARD IS WHAT COUNTS. Prove the row's statement (the work); the ties are given (YtclafkfelkmigaaGreatDoorTie.lean); close each card by the builder's one call (the guide's Derived/Test/ToyasCard.lean, 'card_holds'). Laid BY PROGRAM, IN A SANDBOX (cutbox-door.mjs). By AI agents, Wed Nov 11 2026. No macro, syntax, notation, axiom, sorry.
-/
import Derived.Test.YtclafkfelkmigaaGreatDoorRows
import GoSem.ClaimSeven
namespace Go.Proofs.YtclafkfelkmigaaGreatDoor
namespace Rows

/-- THE TIED CARD OF 'seneschallaw12.JointTogether'. -/
def jointTogetherCard : Claim7 := { stood := { row := jointTogetherRow, standIns := [], harness := (true, "997a54254127eec2580289f186372b373d1842124d9dedc0ae1463122cbd147f"), looks := true }, kinds := [], alts := [], laidByText := true, laidKinds := [.data, .data, .data, .handle], laidTests := true, laidLooks := .later }
def JointTogetherCardSaid : Prop := Claim7.holds Tryz.pinned (.plain (OpenSpec.ofChange jointTogetherSpec)) jointTogetherCard

/-- THE SECOND FORM's CARD OF 'seneschallaw12.JointTogether'. -/
def jointTogetherUptoCard : Claim7 := { stood := { row := jointTogetherUptoRow, standIns := [], harness := (true, "997a54254127eec2580289f186372b373d1842124d9dedc0ae1463122cbd147f"), looks := true }, kinds := [], alts := [], laidByText := true, laidKinds := [.data, .data, .data, .handle], laidTests := true, laidLooks := .later }
def JointTogetherUptoCardSaid : Prop := Claim7.holds Tryz.pinned (.plain (OpenSpec.upto jointTogetherSpec)) jointTogetherUptoCard
end Rows
end Go.Proofs.YtclafkfelkmigaaGreatDoor
