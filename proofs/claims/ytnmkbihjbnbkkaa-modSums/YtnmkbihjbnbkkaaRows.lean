/-
  No cell of these rows narrows 'for every input' (looked for: loops, veiled, ifaces, maps, wideKeys, modest, calm, conditions, laid).
  DERIVED. THE GIVEN ROWS OF THIS SEAT. 9 by the template 'for every input the law returns true; each argument reads behind the call as it read before'; 0 by the template 'total and deterministic' (their statements: YtnmkbihjbnbkkaaTotals.lean).
  GIVEN WITH THE SEED: the statements are not yours to turn. If you find one false, say at which input.
  Laid BY PROGRAM, IN A SANDBOX (cutbox-rows.mjs): the forced cells as the released guide's own fill.sh prints them over the translation f134729aef1605b5… (all of the seat's roots in one cut). By AI agents, Wed Nov 11 2026. No macro, syntax, notation, axiom, sorry.
-/
import Derived.Test.YtnmkbihjbnbkkaaChecked
import GoSem.Claim
import GoSem.ClaimJoined
import GoSem.ClaimMapViews
import Derived.JoinedTies
import Derived.KernelRfl
namespace Go.Proofs.Ytnmkbihjbnbkkaa
/- THE CELL 'sum', in the pinned program and in every row, IS THE sha256 OF THE DUMP (.gsa) THAT YtnmkbihjbnbkkaaProg.lean LOADS. Nothing in Lean hashes anything: it is a label: what it is worth is what the hold of that sum in a sandbox is worth. -/
noncomputable def Try.pinned : Pinned := { name := "ytnmkbihjbnbkkaa", sum := "f134729aef1605b5d3f3e0dd3aaa907017b3228a6ae284f9fe75eec3166046d6", checked := Try.checked }
namespace Rows
def none {H : Type} : Left H := { results := [], args := [] }

/-- 'seneschallaw01.LimbReads': WHATEVER THE INPUT: true; the input reads as it did. -/
def limbReadsSpec : ChangeSpec := { name := "limbReads", fn := fun _ => fun
  | [d1, d2] => { results := [.lit (.bool true)], args := [d1, d2] }
  | _ => none }
def limbReadsRow : OpenClaim := { program := "ytnmkbihjbnbkkaa", sum := "f134729aef1605b5d3f3e0dd3aaa907017b3228a6ae284f9fe75eec3166046d6", func := "seneschal/seneschallaw01.LimbReads", spec := "limbReads", inPlace := ["internal/bytealg.IndexByteString", "math/bits.Sub64"], apart := false }
def LimbReadsSaid : Prop := limbReadsRow.holds Try.pinned (OpenSpec.ofChange limbReadsSpec)

/-- ITS FALSE NEIGHBOUR: 'it returns false'. Refute it at one input. -/
def limbReadsWrong : ChangeSpec := { name := "limbReads", fn := fun _ => fun
  | [d1, d2] => { results := [.lit (.bool false)], args := [d1, d2] }
  | _ => none }
def LimbReadsWrongFalsely : Prop := limbReadsRow.holds Try.pinned (OpenSpec.ofChange limbReadsWrong)

/-- 'seneschallaw01.LimbTexts': WHATEVER THE INPUT: true; the input reads as it did. -/
def limbTextsSpec : ChangeSpec := { name := "limbTexts", fn := fun _ => fun
  | [d1, d2] => { results := [.lit (.bool true)], args := [d1, d2] }
  | _ => none }
def limbTextsRow : OpenClaim := { program := "ytnmkbihjbnbkkaa", sum := "f134729aef1605b5d3f3e0dd3aaa907017b3228a6ae284f9fe75eec3166046d6", func := "seneschal/seneschallaw01.LimbTexts", spec := "limbTexts", inPlace := ["math/bits.Sub64", "internal/bytealg.IndexByteString"], apart := false }
def LimbTextsSaid : Prop := limbTextsRow.holds Try.pinned (OpenSpec.ofChange limbTextsSpec)

/-- ITS FALSE NEIGHBOUR: 'it returns false'. Refute it at one input. -/
def limbTextsWrong : ChangeSpec := { name := "limbTexts", fn := fun _ => fun
  | [d1, d2] => { results := [.lit (.bool false)], args := [d1, d2] }
  | _ => none }
def LimbTextsWrongFalsely : Prop := limbTextsRow.holds Try.pinned (OpenSpec.ofChange limbTextsWrong)

/-- 'seneschallaw02.ModSums': WHATEVER THE INPUT: true; the input reads as it did. -/
def modSumsSpec : ChangeSpec := { name := "modSums", fn := fun _ => fun
  | [d1, d2, d3, d4] => { results := [.lit (.bool true)], args := [d1, d2, d3, d4] }
  | _ => none }
def modSumsRow : OpenClaim := { program := "ytnmkbihjbnbkkaa", sum := "f134729aef1605b5d3f3e0dd3aaa907017b3228a6ae284f9fe75eec3166046d6", func := "seneschal/seneschallaw02.ModSums", spec := "modSums", inPlace := ["math/bits.Add64", "math/bits.Sub64"], unfollowed := true, recurses := true, named := ["math/bits.divideError", "math/bits.overflowError"], apart := false }
def ModSumsSaid : Prop := modSumsRow.holds Try.pinned (OpenSpec.ofChange modSumsSpec)

/-- ITS FALSE NEIGHBOUR: 'it returns false'. Refute it at one input. -/
def modSumsWrong : ChangeSpec := { name := "modSums", fn := fun _ => fun
  | [d1, d2, d3, d4] => { results := [.lit (.bool false)], args := [d1, d2, d3, d4] }
  | _ => none }
def ModSumsWrongFalsely : Prop := modSumsRow.holds Try.pinned (OpenSpec.ofChange modSumsWrong)

/-- 'seneschallaw02.ModPowers': WHATEVER THE INPUT: true; the input reads as it did. -/
def modPowersSpec : ChangeSpec := { name := "modPowers", fn := fun _ => fun
  | [d1, d2, d3] => { results := [.lit (.bool true)], args := [d1, d2, d3] }
  | _ => none }
def modPowersRow : OpenClaim := { program := "ytnmkbihjbnbkkaa", sum := "f134729aef1605b5d3f3e0dd3aaa907017b3228a6ae284f9fe75eec3166046d6", func := "seneschal/seneschallaw02.ModPowers", spec := "modPowers", inPlace := ["math/bits.Sub64", "math/bits.Add64"], unfollowed := true, recurses := true, named := ["math/bits.divideError", "math/bits.overflowError"], apart := false }
def ModPowersSaid : Prop := modPowersRow.holds Try.pinned (OpenSpec.ofChange modPowersSpec)

/-- ITS FALSE NEIGHBOUR: 'it returns false'. Refute it at one input. -/
def modPowersWrong : ChangeSpec := { name := "modPowers", fn := fun _ => fun
  | [d1, d2, d3] => { results := [.lit (.bool false)], args := [d1, d2, d3] }
  | _ => none }
def ModPowersWrongFalsely : Prop := modPowersRow.holds Try.pinned (OpenSpec.ofChange modPowersWrong)

/-- 'seneschallaw02.ModInverts': WHATEVER THE INPUT: true; the input reads as it did. -/
def modInvertsSpec : ChangeSpec := { name := "modInverts", fn := fun _ => fun
  | [d1, d2] => { results := [.lit (.bool true)], args := [d1, d2] }
  | _ => none }
def modInvertsRow : OpenClaim := { program := "ytnmkbihjbnbkkaa", sum := "f134729aef1605b5d3f3e0dd3aaa907017b3228a6ae284f9fe75eec3166046d6", func := "seneschal/seneschallaw02.ModInverts", spec := "modInverts", inPlace := ["math/bits.Add64", "math/bits.Sub64"], unfollowed := true, recurses := true, named := ["math/bits.divideError", "math/bits.overflowError"], apart := false }
def ModInvertsSaid : Prop := modInvertsRow.holds Try.pinned (OpenSpec.ofChange modInvertsSpec)

/-- ITS FALSE NEIGHBOUR: 'it returns false'. Refute it at one input. -/
def modInvertsWrong : ChangeSpec := { name := "modInverts", fn := fun _ => fun
  | [d1, d2] => { results := [.lit (.bool false)], args := [d1, d2] }
  | _ => none }
def ModInvertsWrongFalsely : Prop := modInvertsRow.holds Try.pinned (OpenSpec.ofChange modInvertsWrong)

/-- 'seneschallaw02.ModMany': WHATEVER THE INPUT: true; the input reads as it did. -/
def modManySpec : ChangeSpec := { name := "modMany", fn := fun _ => fun
  | [d1, d2, d3] => { results := [.lit (.bool true)], args := [d1, d2, d3] }
  | _ => none }
def modManyRow : OpenClaim := { program := "ytnmkbihjbnbkkaa", sum := "f134729aef1605b5d3f3e0dd3aaa907017b3228a6ae284f9fe75eec3166046d6", func := "seneschal/seneschallaw02.ModMany", spec := "modMany", inPlace := ["math/bits.Add64", "math/bits.Sub64"], unfollowed := true, recurses := true, named := ["math/bits.divideError", "math/bits.overflowError"], apart := false }
def ModManySaid : Prop := modManyRow.holds Try.pinned (OpenSpec.ofChange modManySpec)

/-- ITS FALSE NEIGHBOUR: 'it returns false'. Refute it at one input. -/
def modManyWrong : ChangeSpec := { name := "modMany", fn := fun _ => fun
  | [d1, d2, d3] => { results := [.lit (.bool false)], args := [d1, d2, d3] }
  | _ => none }
def ModManyWrongFalsely : Prop := modManyRow.holds Try.pinned (OpenSpec.ofChange modManyWrong)

/-- 'seneschallaw02.ModBack': WHATEVER THE INPUT: true; the input reads as it did. -/
def modBackSpec : ChangeSpec := { name := "modBack", fn := fun _ => fun
  | [d1, d2, d3] => { results := [.lit (.bool true)], args := [d1, d2, d3] }
  | _ => none }
def modBackRow : OpenClaim := { program := "ytnmkbihjbnbkkaa", sum := "f134729aef1605b5d3f3e0dd3aaa907017b3228a6ae284f9fe75eec3166046d6", func := "seneschal/seneschallaw02.ModBack", spec := "modBack", inPlace := ["math/bits.Sub64", "math/bits.Add64"], unfollowed := true, recurses := true, named := ["math/bits.divideError", "math/bits.overflowError"], apart := false }
def ModBackSaid : Prop := modBackRow.holds Try.pinned (OpenSpec.ofChange modBackSpec)

/-- ITS FALSE NEIGHBOUR: 'it returns false'. Refute it at one input. -/
def modBackWrong : ChangeSpec := { name := "modBack", fn := fun _ => fun
  | [d1, d2, d3] => { results := [.lit (.bool false)], args := [d1, d2, d3] }
  | _ => none }
def ModBackWrongFalsely : Prop := modBackRow.holds Try.pinned (OpenSpec.ofChange modBackWrong)

/-- 'seneschallaw02.ModExponents': WHATEVER THE INPUT: true; the input reads as it did. -/
def modExponentsSpec : ChangeSpec := { name := "modExponents", fn := fun _ => fun
  | [d1, d2, d3, d4, d5] => { results := [.lit (.bool true)], args := [d1, d2, d3, d4, d5] }
  | _ => none }
def modExponentsRow : OpenClaim := { program := "ytnmkbihjbnbkkaa", sum := "f134729aef1605b5d3f3e0dd3aaa907017b3228a6ae284f9fe75eec3166046d6", func := "seneschal/seneschallaw02.ModExponents", spec := "modExponents", inPlace := ["math/bits.Sub64", "math/bits.Add64"], unfollowed := true, recurses := true, named := ["math/bits.divideError", "math/bits.overflowError"], apart := false }
def ModExponentsSaid : Prop := modExponentsRow.holds Try.pinned (OpenSpec.ofChange modExponentsSpec)

/-- ITS FALSE NEIGHBOUR: 'it returns false'. Refute it at one input. -/
def modExponentsWrong : ChangeSpec := { name := "modExponents", fn := fun _ => fun
  | [d1, d2, d3, d4, d5] => { results := [.lit (.bool false)], args := [d1, d2, d3, d4, d5] }
  | _ => none }
def ModExponentsWrongFalsely : Prop := modExponentsRow.holds Try.pinned (OpenSpec.ofChange modExponentsWrong)

/-- 'seneschallaw02.ModDivides': WHATEVER THE INPUT: true; the input reads as it did. -/
def modDividesSpec : ChangeSpec := { name := "modDivides", fn := fun _ => fun
  | [d1, d2] => { results := [.lit (.bool true)], args := [d1, d2] }
  | _ => none }
def modDividesRow : OpenClaim := { program := "ytnmkbihjbnbkkaa", sum := "f134729aef1605b5d3f3e0dd3aaa907017b3228a6ae284f9fe75eec3166046d6", func := "seneschal/seneschallaw02.ModDivides", spec := "modDivides", inPlace := ["math/bits.Sub64", "math/bits.Add64"], unfollowed := true, recurses := true, named := ["math/bits.divideError", "math/bits.overflowError"], apart := false }
def ModDividesSaid : Prop := modDividesRow.holds Try.pinned (OpenSpec.ofChange modDividesSpec)

/-- ITS FALSE NEIGHBOUR: 'it returns false'. Refute it at one input. -/
def modDividesWrong : ChangeSpec := { name := "modDivides", fn := fun _ => fun
  | [d1, d2] => { results := [.lit (.bool false)], args := [d1, d2] }
  | _ => none }
def ModDividesWrongFalsely : Prop := modDividesRow.holds Try.pinned (OpenSpec.ofChange modDividesWrong)

/- THE SECOND FORM. 'bulk': how many values and letters a reading holds, each counted each time it is reached (what is shared counts as often as it is met; a slice's spare places count too). A statement '..UptoSaid' is the law's where the arguments, and the package variables that the reading takes, are together of bulk at most 1048576: NARROWER than '..Said'. Prove '..Said' where nothing that the law and all that it calls make is longer than what came in: it says more and counts as full. Else prove '..UptoSaid'. A law counts once. -/
mutual
def uptoBulk {H : Type} : DataW H → Nat
  | .lit (.string bytes) => bytes.length + 1
  | .lit _ => 1
  | .nil => 1
  | .ptr d => uptoBulk d + 1
  | .slice elems spare => uptoBulkAll elems + uptoBulkAll spare + 1
  | .agg parts => uptoBulkAll parts + 1
  | .iface _ d => uptoBulk d + 1
  | .map entries => uptoBulkEntries entries + 1
  | .held _ => 1
def uptoBulkAll {H : Type} : List (DataW H) → Nat
  | [] => 0
  | d :: r => uptoBulk d + uptoBulkAll r
def uptoBulkEntries {H : Type} : List (Lit × DataW H) → Nat
  | [] => 0
  | x :: r => uptoBulkEntry x + uptoBulkEntries r
def uptoBulkEntry {H : Type} : Lit × DataW H → Nat
  | (.string bytes, d) => bytes.length + uptoBulk d + 1
  | (_, d) => uptoBulk d + 1
 end
def uptoSmall : (H : Type) → List (DataW H) → Bool := fun _ ds => decide (uptoBulkAll ds ≤ 1048576)
def OpenSpec.upto (s : _root_.Go.ChangeSpec) : _root_.Go.OpenSpec := { _root_.Go.OpenSpec.ofChange s with cond := some uptoSmall }

/-- 'seneschallaw01.LimbReads', WHERE WHAT IT READS IS OF BULK AT MOST 1048576: true; the input reads as it did. -/
def limbReadsUptoRow : OpenClaim := { program := "ytnmkbihjbnbkkaa", sum := "f134729aef1605b5d3f3e0dd3aaa907017b3228a6ae284f9fe75eec3166046d6", func := "seneschal/seneschallaw01.LimbReads", spec := "limbReads", inPlace := ["internal/bytealg.IndexByteString", "math/bits.Sub64"], apart := false, narrowed := true }
def LimbReadsUptoSaid : Prop := limbReadsUptoRow.holds Try.pinned (OpenSpec.upto limbReadsSpec)

/-- 'seneschallaw01.LimbTexts', WHERE WHAT IT READS IS OF BULK AT MOST 1048576: true; the input reads as it did. -/
def limbTextsUptoRow : OpenClaim := { program := "ytnmkbihjbnbkkaa", sum := "f134729aef1605b5d3f3e0dd3aaa907017b3228a6ae284f9fe75eec3166046d6", func := "seneschal/seneschallaw01.LimbTexts", spec := "limbTexts", inPlace := ["math/bits.Sub64", "internal/bytealg.IndexByteString"], apart := false, narrowed := true }
def LimbTextsUptoSaid : Prop := limbTextsUptoRow.holds Try.pinned (OpenSpec.upto limbTextsSpec)

/-- 'seneschallaw02.ModSums', WHERE WHAT IT READS IS OF BULK AT MOST 1048576: true; the input reads as it did. -/
def modSumsUptoRow : OpenClaim := { program := "ytnmkbihjbnbkkaa", sum := "f134729aef1605b5d3f3e0dd3aaa907017b3228a6ae284f9fe75eec3166046d6", func := "seneschal/seneschallaw02.ModSums", spec := "modSums", inPlace := ["math/bits.Add64", "math/bits.Sub64"], unfollowed := true, recurses := true, named := ["math/bits.divideError", "math/bits.overflowError"], apart := false, narrowed := true }
def ModSumsUptoSaid : Prop := modSumsUptoRow.holds Try.pinned (OpenSpec.upto modSumsSpec)

/-- 'seneschallaw02.ModPowers', WHERE WHAT IT READS IS OF BULK AT MOST 1048576: true; the input reads as it did. -/
def modPowersUptoRow : OpenClaim := { program := "ytnmkbihjbnbkkaa", sum := "f134729aef1605b5d3f3e0dd3aaa907017b3228a6ae284f9fe75eec3166046d6", func := "seneschal/seneschallaw02.ModPowers", spec := "modPowers", inPlace := ["math/bits.Sub64", "math/bits.Add64"], unfollowed := true, recurses := true, named := ["math/bits.divideError", "math/bits.overflowError"], apart := false, narrowed := true }
def ModPowersUptoSaid : Prop := modPowersUptoRow.holds Try.pinned (OpenSpec.upto modPowersSpec)

/-- 'seneschallaw02.ModInverts', WHERE WHAT IT READS IS OF BULK AT MOST 1048576: true; the input reads as it did. -/
def modInvertsUptoRow : OpenClaim := { program := "ytnmkbihjbnbkkaa", sum := "f134729aef1605b5d3f3e0dd3aaa907017b3228a6ae284f9fe75eec3166046d6", func := "seneschal/seneschallaw02.ModInverts", spec := "modInverts", inPlace := ["math/bits.Add64", "math/bits.Sub64"], unfollowed := true, recurses := true, named := ["math/bits.divideError", "math/bits.overflowError"], apart := false, narrowed := true }
def ModInvertsUptoSaid : Prop := modInvertsUptoRow.holds Try.pinned (OpenSpec.upto modInvertsSpec)

/-- 'seneschallaw02.ModMany', WHERE WHAT IT READS IS OF BULK AT MOST 1048576: true; the input reads as it did. -/
def modManyUptoRow : OpenClaim := { program := "ytnmkbihjbnbkkaa", sum := "f134729aef1605b5d3f3e0dd3aaa907017b3228a6ae284f9fe75eec3166046d6", func := "seneschal/seneschallaw02.ModMany", spec := "modMany", inPlace := ["math/bits.Add64", "math/bits.Sub64"], unfollowed := true, recurses := true, named := ["math/bits.divideError", "math/bits.overflowError"], apart := false, narrowed := true }
def ModManyUptoSaid : Prop := modManyUptoRow.holds Try.pinned (OpenSpec.upto modManySpec)

/-- 'seneschallaw02.ModBack', WHERE WHAT IT READS IS OF BULK AT MOST 1048576: true; the input reads as it did. -/
def modBackUptoRow : OpenClaim := { program := "ytnmkbihjbnbkkaa", sum := "f134729aef1605b5d3f3e0dd3aaa907017b3228a6ae284f9fe75eec3166046d6", func := "seneschal/seneschallaw02.ModBack", spec := "modBack", inPlace := ["math/bits.Sub64", "math/bits.Add64"], unfollowed := true, recurses := true, named := ["math/bits.divideError", "math/bits.overflowError"], apart := false, narrowed := true }
def ModBackUptoSaid : Prop := modBackUptoRow.holds Try.pinned (OpenSpec.upto modBackSpec)

/-- 'seneschallaw02.ModExponents', WHERE WHAT IT READS IS OF BULK AT MOST 1048576: true; the input reads as it did. -/
def modExponentsUptoRow : OpenClaim := { program := "ytnmkbihjbnbkkaa", sum := "f134729aef1605b5d3f3e0dd3aaa907017b3228a6ae284f9fe75eec3166046d6", func := "seneschal/seneschallaw02.ModExponents", spec := "modExponents", inPlace := ["math/bits.Sub64", "math/bits.Add64"], unfollowed := true, recurses := true, named := ["math/bits.divideError", "math/bits.overflowError"], apart := false, narrowed := true }
def ModExponentsUptoSaid : Prop := modExponentsUptoRow.holds Try.pinned (OpenSpec.upto modExponentsSpec)

/-- 'seneschallaw02.ModDivides', WHERE WHAT IT READS IS OF BULK AT MOST 1048576: true; the input reads as it did. -/
def modDividesUptoRow : OpenClaim := { program := "ytnmkbihjbnbkkaa", sum := "f134729aef1605b5d3f3e0dd3aaa907017b3228a6ae284f9fe75eec3166046d6", func := "seneschal/seneschallaw02.ModDivides", spec := "modDivides", inPlace := ["math/bits.Sub64", "math/bits.Add64"], unfollowed := true, recurses := true, named := ["math/bits.divideError", "math/bits.overflowError"], apart := false, narrowed := true }
def ModDividesUptoSaid : Prop := modDividesUptoRow.holds Try.pinned (OpenSpec.upto modDividesSpec)

end Rows
end Go.Proofs.Ytnmkbihjbnbkkaa
