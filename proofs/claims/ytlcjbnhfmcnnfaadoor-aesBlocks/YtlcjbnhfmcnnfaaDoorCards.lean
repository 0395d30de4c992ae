/-
  DERIVED. GIVEN WITH THE SEED: THE CARDS: each row of YtlcjbnhfmcnnfaaDoorRows.lean that lists a variable, with what it lists TIED to the program's text (the seventh form; the later family's looks); each row that meets fmt, with fmt's text TOLD by the authors' own Lean function (tested against real Go, not proved from fmt's source: count such statements apart). THE CARD IS WHAT COUNTS. Prove the row's statement (the work); the ties are given (YtlcjbnhfmcnnfaaDoorTie.lean); close each card by the builder's one call (the guide's Derived/Test/ToyasCard.lean, 'card_holds'). Laid BY PROGRAM, IN A SANDBOX (cutbox-door.mjs). By AI agents, Wed Nov 11 2026. No macro, syntax, notation, axiom, sorry.
-/
import Derived.Test.YtlcjbnhfmcnnfaaDoorRows
import GoSem.ClaimSeven
namespace Go.Proofs.YtlcjbnhfmcnnfaaDoor
namespace Rows

/-- THE TIED CARD OF 'seneschallaw06.AesField'. -/
def aesFieldCard : Claim7 := { stood := { row := aesFieldRow, standIns := [], harness := (true, "70f357c2797a71804e5218690596569050dbdf31e64adc5a6e4940eac8e02bb2"), looks := false }, kinds := [], alts := [], laidByText := true, laidKinds := [.data, .data], laidTests := true, laidLooks := .later }
def AesFieldCardSaid : Prop := Claim7.holds Tryd.pinned (.plain (OpenSpec.ofChange aesFieldSpec)) aesFieldCard

/-- THE TIED CARD OF 'seneschallaw06.AesBlocks'. -/
def aesBlocksCard : Claim7 := { stood := { row := aesBlocksRow, standIns := [], harness := (true, "70f357c2797a71804e5218690596569050dbdf31e64adc5a6e4940eac8e02bb2"), looks := false }, kinds := [], alts := [], laidByText := true, laidKinds := [.data, .data], laidTests := true, laidLooks := .later }
def AesBlocksCardSaid : Prop := Claim7.holds Tryd.pinned (.plain (OpenSpec.ofChange aesBlocksSpec)) aesBlocksCard

/-- THE TIED CARD OF 'seneschallaw06.AesBack'. -/
def aesBackCard : Claim7 := { stood := { row := aesBackRow, standIns := [], harness := (true, "70f357c2797a71804e5218690596569050dbdf31e64adc5a6e4940eac8e02bb2"), looks := false }, kinds := [], alts := [], laidByText := true, laidKinds := [.data, .data], laidTests := true, laidLooks := .later }
def AesBackCardSaid : Prop := Claim7.holds Tryd.pinned (.plain (OpenSpec.ofChange aesBackSpec)) aesBackCard

/-- THE TIED CARD OF 'seneschallaw06.AesApart'. -/
def aesApartCard : Claim7 := { stood := { row := aesApartRow, standIns := [], harness := (true, "70f357c2797a71804e5218690596569050dbdf31e64adc5a6e4940eac8e02bb2"), looks := false }, kinds := [], alts := [], laidByText := true, laidKinds := [.data, .data], laidTests := true, laidLooks := .later }
def AesApartCardSaid : Prop := Claim7.holds Tryd.pinned (.plain (OpenSpec.ofChange aesApartSpec)) aesApartCard

/-- THE TIED CARD OF 'seneschallaw06.AesTimes'. -/
def aesTimesCard : Claim7 := { stood := { row := aesTimesRow, standIns := [], harness := (true, "70f357c2797a71804e5218690596569050dbdf31e64adc5a6e4940eac8e02bb2"), looks := false }, kinds := [], alts := [], laidByText := true, laidKinds := [.data, .data], laidTests := true, laidLooks := .later }
def AesTimesCardSaid : Prop := Claim7.holds Tryd.pinned (.plain (OpenSpec.ofChange aesTimesSpec)) aesTimesCard

/-- THE SECOND FORM's CARD OF 'seneschallaw06.AesField'. -/
def aesFieldUptoCard : Claim7 := { stood := { row := aesFieldUptoRow, standIns := [], harness := (true, "70f357c2797a71804e5218690596569050dbdf31e64adc5a6e4940eac8e02bb2"), looks := false }, kinds := [], alts := [], laidByText := true, laidKinds := [.data, .data], laidTests := true, laidLooks := .later }
def AesFieldUptoCardSaid : Prop := Claim7.holds Tryd.pinned (.plain (OpenSpec.upto aesFieldSpec)) aesFieldUptoCard

/-- THE SECOND FORM's CARD OF 'seneschallaw06.AesBlocks'. -/
def aesBlocksUptoCard : Claim7 := { stood := { row := aesBlocksUptoRow, standIns := [], harness := (true, "70f357c2797a71804e5218690596569050dbdf31e64adc5a6e4940eac8e02bb2"), looks := false }, kinds := [], alts := [], laidByText := true, laidKinds := [.data, .data], laidTests := true, laidLooks := .later }
def AesBlocksUptoCardSaid : Prop := Claim7.holds Tryd.pinned (.plain (OpenSpec.upto aesBlocksSpec)) aesBlocksUptoCard

/-- THE SECOND FORM's CARD OF 'seneschallaw06.AesBack'. -/
def aesBackUptoCard : Claim7 := { stood := { row := aesBackUptoRow, standIns := [], harness := (true, "70f357c2797a71804e5218690596569050dbdf31e64adc5a6e4940eac8e02bb2"), looks := false }, kinds := [], alts := [], laidByText := true, laidKinds := [.data, .data], laidTests := true, laidLooks := .later }
def AesBackUptoCardSaid : Prop := Claim7.holds Tryd.pinned (.plain (OpenSpec.upto aesBackSpec)) aesBackUptoCard

/-- THE SECOND FORM's CARD OF 'seneschallaw06.AesApart'. -/
def aesApartUptoCard : Claim7 := { stood := { row := aesApartUptoRow, standIns := [], harness := (true, "70f357c2797a71804e5218690596569050dbdf31e64adc5a6e4940eac8e02bb2"), looks := false }, kinds := [], alts := [], laidByText := true, laidKinds := [.data, .data], laidTests := true, laidLooks := .later }
def AesApartUptoCardSaid : Prop := Claim7.holds Tryd.pinned (.plain (OpenSpec.upto aesApartSpec)) aesApartUptoCard

/-- THE SECOND FORM's CARD OF 'seneschallaw06.AesTimes'. -/
def aesTimesUptoCard : Claim7 := { stood := { row := aesTimesUptoRow, standIns := [], harness := (true, "70f357c2797a71804e5218690596569050dbdf31e64adc5a6e4940eac8e02bb2"), looks := false }, kinds := [], alts := [], laidByText := true, laidKinds := [.data, .data], laidTests := true, laidLooks := .later }
def AesTimesUptoCardSaid : Prop := Claim7.holds Tryd.pinned (.plain (OpenSpec.upto aesTimesSpec)) aesTimesUptoCard
end Rows
end Go.Proofs.YtlcjbnhfmcnnfaaDoor
