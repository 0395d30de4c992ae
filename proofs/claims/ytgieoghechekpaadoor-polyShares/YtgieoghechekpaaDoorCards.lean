/-
  DERIVED. GIVEN WITH THE SEED: THE CARDS: each row of YtgieoghechekpaaDoorRows.lean that lists a variable, with what it lists TIED to the program's text (the seventh form; the later family's looks); each row that meets fmt, with fmt's text TOLD by the authors' own Lean function (tested against real Go, not proved from fmt's source: count such statements apart). THE CARD IS WHAT COUNTS. Prove the row's statement (the work); the ties are given (YtgieoghechekpaaDoorTie.lean); close each card by the builder's one call (the guide's Derived/Test/ToyasCard.lean, 'card_holds'). Laid BY PROGRAM, IN A SANDBOX (cutbox-door.mjs). By AI agents, Wed Nov 11 2026. No macro, syntax, notation, axiom, sorry.
-/
import Derived.Test.YtgieoghechekpaaDoorRows
import GoSem.ClaimSeven
namespace Go.Proofs.YtgieoghechekpaaDoor
namespace Rows

/-- THE TIED CARD OF 'seneschallaw10.PolyShares'. -/
def polySharesCard : Claim7 := { stood := { row := polySharesRow, standIns := [], harness := (true, "0cacd763819ad9814ec0447a75a994986e19f88698dfcafcea547517bf15c00e"), looks := true }, kinds := [], alts := [], laidByText := true, laidKinds := [.data, .data, .data, .handle], laidTests := true, laidLooks := .later }
def PolySharesCardSaid : Prop := Claim7.holds Tryd.pinned (.plain (OpenSpec.ofChange polySharesSpec)) polySharesCard

/-- THE SECOND FORM's CARD OF 'seneschallaw10.PolyShares'. -/
def polySharesUptoCard : Claim7 := { stood := { row := polySharesUptoRow, standIns := [], harness := (true, "0cacd763819ad9814ec0447a75a994986e19f88698dfcafcea547517bf15c00e"), looks := true }, kinds := [], alts := [], laidByText := true, laidKinds := [.data, .data, .data, .handle], laidTests := true, laidLooks := .later }
def PolySharesUptoCardSaid : Prop := Claim7.holds Tryd.pinned (.plain (OpenSpec.upto polySharesSpec)) polySharesUptoCard
end Rows
end Go.Proofs.YtgieoghechekpaaDoor
