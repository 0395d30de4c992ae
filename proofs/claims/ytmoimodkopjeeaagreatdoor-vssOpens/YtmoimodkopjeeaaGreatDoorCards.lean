/-
  DERIVED. GIVEN WITH THE SEED: THE CARDS: each row of YtmoimodkopjeeaaGreatDoorRows.lean that lists a variable, with what it lists TIED to the program's text (the seventh form; the later family's looks); each row that meets fmt, with fmt's text TOLD by the authors' own Lean function (tested against real Go, not proved from fmt's source: count such statements apart). THE CARD IS WHAT COUNTS. Prove the row's statement (the work); the ties are given (YtmoimodkopjeeaaGreatDoorTie.lean); close each card by the builder's one call (the guide's Derived/Test/ToyasCard.lean, 'card_holds'). Laid BY PROGRAM, IN A SANDBOX (cutbox-door.mjs). By AI agents, Wed Nov 11 2026. No macro, syntax, notation, axiom, sorry.
-/
import Derived.Test.YtmoimodkopjeeaaGreatDoorRows
import GoSem.ClaimSeven
namespace Go.Proofs.YtmoimodkopjeeaaGreatDoor
namespace Rows

/-- THE TIED CARD OF 'seneschallaw11.VssDeals'. -/
def vssDealsCard : Claim7 := { stood := { row := vssDealsRow, standIns := [], harness := (true, "a527f0ef715171f0c2d74474b748d6e9c1a5a93a538c399e1904f8ebbe80f7f8"), looks := true }, kinds := [], alts := [], laidByText := true, laidKinds := [.data, .data, .data, .handle], laidTests := true, laidLooks := .later }
def VssDealsCardSaid : Prop := Claim7.holds Tryz.pinned (.plain (OpenSpec.ofChange vssDealsSpec)) vssDealsCard

/-- THE TIED CARD OF 'seneschallaw11.VssChecks'. -/
def vssChecksCard : Claim7 := { stood := { row := vssChecksRow, standIns := [], harness := (true, "a527f0ef715171f0c2d74474b748d6e9c1a5a93a538c399e1904f8ebbe80f7f8"), looks := true }, kinds := [], alts := [], laidByText := true, laidKinds := [.data, .data, .data, .handle], laidTests := true, laidLooks := .later }
def VssChecksCardSaid : Prop := Claim7.holds Tryz.pinned (.plain (OpenSpec.ofChange vssChecksSpec)) vssChecksCard

/-- THE TIED CARD OF 'seneschallaw11.VssOpens'. -/
def vssOpensCard : Claim7 := { stood := { row := vssOpensRow, standIns := [], harness := (true, "a527f0ef715171f0c2d74474b748d6e9c1a5a93a538c399e1904f8ebbe80f7f8"), looks := true }, kinds := [], alts := [], laidByText := true, laidKinds := [.data, .data, .data, .handle], laidTests := true, laidLooks := .later }
def VssOpensCardSaid : Prop := Claim7.holds Tryz.pinned (.plain (OpenSpec.ofChange vssOpensSpec)) vssOpensCard

/-- THE TIED CARD OF 'seneschallaw11.VssRight'. -/
def vssRightCard : Claim7 := { stood := { row := vssRightRow, standIns := [], harness := (true, "a527f0ef715171f0c2d74474b748d6e9c1a5a93a538c399e1904f8ebbe80f7f8"), looks := true }, kinds := [], alts := [], laidByText := true, laidKinds := [.data, .data, .data, .handle], laidTests := true, laidLooks := .later }
def VssRightCardSaid : Prop := Claim7.holds Tryz.pinned (.plain (OpenSpec.ofChange vssRightSpec)) vssRightCard

/-- THE TIED CARD OF 'seneschallaw11.VssTurned'. -/
def vssTurnedCard : Claim7 := { stood := { row := vssTurnedRow, standIns := [], harness := (true, "a527f0ef715171f0c2d74474b748d6e9c1a5a93a538c399e1904f8ebbe80f7f8"), looks := true }, kinds := [], alts := [], laidByText := true, laidKinds := [.data, .data, .data, .handle], laidTests := true, laidLooks := .later }
def VssTurnedCardSaid : Prop := Claim7.holds Tryz.pinned (.plain (OpenSpec.ofChange vssTurnedSpec)) vssTurnedCard

/-- THE TIED CARD OF 'seneschallaw11.VssSecret'. -/
def vssSecretCard : Claim7 := { stood := { row := vssSecretRow, standIns := [], harness := (true, "a527f0ef715171f0c2d74474b748d6e9c1a5a93a538c399e1904f8ebbe80f7f8"), looks := true }, kinds := [], alts := [], laidByText := true, laidKinds := [.data, .data, .data, .handle], laidTests := true, laidLooks := .later }
def VssSecretCardSaid : Prop := Claim7.holds Tryz.pinned (.plain (OpenSpec.ofChange vssSecretSpec)) vssSecretCard

/-- THE SECOND FORM's CARD OF 'seneschallaw11.VssDeals'. -/
def vssDealsUptoCard : Claim7 := { stood := { row := vssDealsUptoRow, standIns := [], harness := (true, "a527f0ef715171f0c2d74474b748d6e9c1a5a93a538c399e1904f8ebbe80f7f8"), looks := true }, kinds := [], alts := [], laidByText := true, laidKinds := [.data, .data, .data, .handle], laidTests := true, laidLooks := .later }
def VssDealsUptoCardSaid : Prop := Claim7.holds Tryz.pinned (.plain (OpenSpec.upto vssDealsSpec)) vssDealsUptoCard

/-- THE SECOND FORM's CARD OF 'seneschallaw11.VssChecks'. -/
def vssChecksUptoCard : Claim7 := { stood := { row := vssChecksUptoRow, standIns := [], harness := (true, "a527f0ef715171f0c2d74474b748d6e9c1a5a93a538c399e1904f8ebbe80f7f8"), looks := true }, kinds := [], alts := [], laidByText := true, laidKinds := [.data, .data, .data, .handle], laidTests := true, laidLooks := .later }
def VssChecksUptoCardSaid : Prop := Claim7.holds Tryz.pinned (.plain (OpenSpec.upto vssChecksSpec)) vssChecksUptoCard

/-- THE SECOND FORM's CARD OF 'seneschallaw11.VssOpens'. -/
def vssOpensUptoCard : Claim7 := { stood := { row := vssOpensUptoRow, standIns := [], harness := (true, "a527f0ef715171f0c2d74474b748d6e9c1a5a93a538c399e1904f8ebbe80f7f8"), looks := true }, kinds := [], alts := [], laidByText := true, laidKinds := [.data, .data, .data, .handle], laidTests := true, laidLooks := .later }
def VssOpensUptoCardSaid : Prop := Claim7.holds Tryz.pinned (.plain (OpenSpec.upto vssOpensSpec)) vssOpensUptoCard

/-- THE SECOND FORM's CARD OF 'seneschallaw11.VssRight'. -/
def vssRightUptoCard : Claim7 := { stood := { row := vssRightUptoRow, standIns := [], harness := (true, "a527f0ef715171f0c2d74474b748d6e9c1a5a93a538c399e1904f8ebbe80f7f8"), looks := true }, kinds := [], alts := [], laidByText := true, laidKinds := [.data, .data, .data, .handle], laidTests := true, laidLooks := .later }
def VssRightUptoCardSaid : Prop := Claim7.holds Tryz.pinned (.plain (OpenSpec.upto vssRightSpec)) vssRightUptoCard

/-- THE SECOND FORM's CARD OF 'seneschallaw11.VssTurned'. -/
def vssTurnedUptoCard : Claim7 := { stood := { row := vssTurnedUptoRow, standIns := [], harness := (true, "a527f0ef715171f0c2d74474b748d6e9c1a5a93a538c399e1904f8ebbe80f7f8"), looks := true }, kinds := [], alts := [], laidByText := true, laidKinds := [.data, .data, .data, .handle], laidTests := true, laidLooks := .later }
def VssTurnedUptoCardSaid : Prop := Claim7.holds Tryz.pinned (.plain (OpenSpec.upto vssTurnedSpec)) vssTurnedUptoCard

/-- THE SECOND FORM's CARD OF 'seneschallaw11.VssSecret'. -/
def vssSecretUptoCard : Claim7 := { stood := { row := vssSecretUptoRow, standIns := [], harness := (true, "a527f0ef715171f0c2d74474b748d6e9c1a5a93a538c399e1904f8ebbe80f7f8"), looks := true }, kinds := [], alts := [], laidByText := true, laidKinds := [.data, .data, .data, .handle], laidTests := true, laidLooks := .later }
def VssSecretUptoCardSaid : Prop := Claim7.holds Tryz.pinned (.plain (OpenSpec.upto vssSecretSpec)) vssSecretUptoCard
end Rows
end Go.Proofs.YtmoimodkopjeeaaGreatDoor
