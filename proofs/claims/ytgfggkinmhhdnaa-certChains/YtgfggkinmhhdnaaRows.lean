/-
  No cell of these rows narrows 'for every input' (looked for: loops, veiled, ifaces, maps, wideKeys, modest, calm, conditions, laid).
  DERIVED. THE GIVEN ROWS OF THIS SEAT. 6 by the template 'for every input the law returns true; each argument reads behind the call as it read before'; 0 by the template 'total and deterministic' (their statements: YtgfggkinmhhdnaaTotals.lean).
  GIVEN WITH THE SEED: the statements are not yours to turn. If you find one false, say at which input.
  Laid BY PROGRAM, IN A SANDBOX (cutbox-rows.mjs): the forced cells as the released guide's own fill.sh prints them over the translation 02fda156bb759764… (all of the seat's roots in one cut). By AI agents, Wed Nov 11 2026. No macro, syntax, notation, axiom, sorry.
-/
import Derived.Test.YtgfggkinmhhdnaaChecked
import GoSem.Claim
import GoSem.ClaimJoined
import GoSem.ClaimMapViews
import Derived.JoinedTies
import Derived.KernelRfl
namespace Go.Proofs.Ytgfggkinmhhdnaa
/- THE CELL 'sum', in the pinned program and in every row, IS THE sha256 OF THE DUMP (.gsa) THAT YtgfggkinmhhdnaaProg.lean LOADS. Nothing in Lean hashes anything: it is a label: what it is worth is what the hold of that sum in a sandbox is worth. -/
noncomputable def Try.pinned : Pinned := { name := "ytgfggkinmhhdnaa", sum := "02fda156bb759764f65b6ba1b556d15d60bd1e98cd477ab83190cf54e55b69fd", checked := Try.checked }
namespace Rows
def none {H : Type} : Left H := { results := [], args := [] }

/-- 'seneschallaw03.CertTells': WHATEVER THE INPUT: true; the input reads as it did. -/
def certTellsSpec : ChangeSpec := { name := "certTells", fn := fun _ => fun
  | [d1, d2] => { results := [.lit (.bool true)], args := [d1, d2] }
  | _ => none }
def certTellsRow : OpenClaim := { program := "ytgfggkinmhhdnaa", sum := "02fda156bb759764f65b6ba1b556d15d60bd1e98cd477ab83190cf54e55b69fd", func := "seneschal/seneschallaw03.CertTells", spec := "certTells", inPlace := ["math/bits.Sub64", "math/bits.Add64", "internal/bytealg.IndexByteString"], unfollowed := true, recurses := true, named := ["math/bits.divideError", "math/bits.overflowError"], apart := false }
def CertTellsSaid : Prop := certTellsRow.holds Try.pinned (OpenSpec.ofChange certTellsSpec)

/-- ITS FALSE NEIGHBOUR: 'it returns false'. Refute it at one input. -/
def certTellsWrong : ChangeSpec := { name := "certTells", fn := fun _ => fun
  | [d1, d2] => { results := [.lit (.bool false)], args := [d1, d2] }
  | _ => none }
def CertTellsWrongFalsely : Prop := certTellsRow.holds Try.pinned (OpenSpec.ofChange certTellsWrong)

/-- 'seneschallaw03.CertChecks': WHATEVER THE INPUT: true; the input reads as it did. -/
def certChecksSpec : ChangeSpec := { name := "certChecks", fn := fun _ => fun
  | [d1, d2] => { results := [.lit (.bool true)], args := [d1, d2] }
  | _ => none }
def certChecksRow : OpenClaim := { program := "ytgfggkinmhhdnaa", sum := "02fda156bb759764f65b6ba1b556d15d60bd1e98cd477ab83190cf54e55b69fd", func := "seneschal/seneschallaw03.CertChecks", spec := "certChecks", inPlace := ["math/bits.Sub64", "math/bits.Add64", "internal/bytealg.IndexByteString"], unfollowed := true, recurses := true, named := ["math/bits.divideError", "math/bits.overflowError"], apart := false }
def CertChecksSaid : Prop := certChecksRow.holds Try.pinned (OpenSpec.ofChange certChecksSpec)

/-- ITS FALSE NEIGHBOUR: 'it returns false'. Refute it at one input. -/
def certChecksWrong : ChangeSpec := { name := "certChecks", fn := fun _ => fun
  | [d1, d2] => { results := [.lit (.bool false)], args := [d1, d2] }
  | _ => none }
def CertChecksWrongFalsely : Prop := certChecksRow.holds Try.pinned (OpenSpec.ofChange certChecksWrong)

/-- 'seneschallaw03.CertWhole': WHATEVER THE INPUT: true; the input reads as it did. -/
def certWholeSpec : ChangeSpec := { name := "certWhole", fn := fun _ => fun
  | [d1, d2] => { results := [.lit (.bool true)], args := [d1, d2] }
  | _ => none }
def certWholeRow : OpenClaim := { program := "ytgfggkinmhhdnaa", sum := "02fda156bb759764f65b6ba1b556d15d60bd1e98cd477ab83190cf54e55b69fd", func := "seneschal/seneschallaw03.CertWhole", spec := "certWhole", inPlace := ["internal/bytealg.IndexByteString", "math/bits.Sub64", "math/bits.Add64"], unfollowed := true, recurses := true, named := ["math/bits.divideError", "math/bits.overflowError"], apart := false }
def CertWholeSaid : Prop := certWholeRow.holds Try.pinned (OpenSpec.ofChange certWholeSpec)

/-- ITS FALSE NEIGHBOUR: 'it returns false'. Refute it at one input. -/
def certWholeWrong : ChangeSpec := { name := "certWhole", fn := fun _ => fun
  | [d1, d2] => { results := [.lit (.bool false)], args := [d1, d2] }
  | _ => none }
def CertWholeWrongFalsely : Prop := certWholeRow.holds Try.pinned (OpenSpec.ofChange certWholeWrong)

/-- 'seneschallaw03.CertTurned': WHATEVER THE INPUT: true; the input reads as it did. -/
def certTurnedSpec : ChangeSpec := { name := "certTurned", fn := fun _ => fun
  | [d1, d2] => { results := [.lit (.bool true)], args := [d1, d2] }
  | _ => none }
def certTurnedRow : OpenClaim := { program := "ytgfggkinmhhdnaa", sum := "02fda156bb759764f65b6ba1b556d15d60bd1e98cd477ab83190cf54e55b69fd", func := "seneschal/seneschallaw03.CertTurned", spec := "certTurned", inPlace := ["internal/bytealg.IndexByteString", "math/bits.Sub64", "math/bits.Add64"], unfollowed := true, recurses := true, named := ["math/bits.divideError", "math/bits.overflowError"], apart := false }
def CertTurnedSaid : Prop := certTurnedRow.holds Try.pinned (OpenSpec.ofChange certTurnedSpec)

/-- ITS FALSE NEIGHBOUR: 'it returns false'. Refute it at one input. -/
def certTurnedWrong : ChangeSpec := { name := "certTurned", fn := fun _ => fun
  | [d1, d2] => { results := [.lit (.bool false)], args := [d1, d2] }
  | _ => none }
def CertTurnedWrongFalsely : Prop := certTurnedRow.holds Try.pinned (OpenSpec.ofChange certTurnedWrong)

/-- 'seneschallaw03.CertChains': WHATEVER THE INPUT: true; the input reads as it did. -/
def certChainsSpec : ChangeSpec := { name := "certChains", fn := fun _ => fun
  | [d] => { results := [.lit (.bool true)], args := [d] }
  | _ => none }
def certChainsRow : OpenClaim := { program := "ytgfggkinmhhdnaa", sum := "02fda156bb759764f65b6ba1b556d15d60bd1e98cd477ab83190cf54e55b69fd", func := "seneschal/seneschallaw03.CertChains", spec := "certChains", inPlace := ["internal/bytealg.IndexByteString", "math/bits.Sub64", "math/bits.Add64"], unfollowed := true, recurses := true, named := ["math/bits.divideError", "math/bits.overflowError"], apart := false }
def CertChainsSaid : Prop := certChainsRow.holds Try.pinned (OpenSpec.ofChange certChainsSpec)

/-- ITS FALSE NEIGHBOUR: 'it returns false'. Refute it at one input. -/
def certChainsWrong : ChangeSpec := { name := "certChains", fn := fun _ => fun
  | [d] => { results := [.lit (.bool false)], args := [d] }
  | _ => none }
def CertChainsWrongFalsely : Prop := certChainsRow.holds Try.pinned (OpenSpec.ofChange certChainsWrong)

/-- 'seneschallaw03.CertGroups': WHATEVER THE INPUT: true; the input reads as it did. -/
def certGroupsSpec : ChangeSpec := { name := "certGroups", fn := fun _ => fun
  | [d1, d2] => { results := [.lit (.bool true)], args := [d1, d2] }
  | _ => none }
def certGroupsRow : OpenClaim := { program := "ytgfggkinmhhdnaa", sum := "02fda156bb759764f65b6ba1b556d15d60bd1e98cd477ab83190cf54e55b69fd", func := "seneschal/seneschallaw03.CertGroups", spec := "certGroups", inPlace := ["internal/bytealg.IndexByteString", "math/bits.Sub64", "math/bits.Add64"], unfollowed := true, recurses := true, named := ["math/bits.divideError", "math/bits.overflowError"], apart := false }
def CertGroupsSaid : Prop := certGroupsRow.holds Try.pinned (OpenSpec.ofChange certGroupsSpec)

/-- ITS FALSE NEIGHBOUR: 'it returns false'. Refute it at one input. -/
def certGroupsWrong : ChangeSpec := { name := "certGroups", fn := fun _ => fun
  | [d1, d2] => { results := [.lit (.bool false)], args := [d1, d2] }
  | _ => none }
def CertGroupsWrongFalsely : Prop := certGroupsRow.holds Try.pinned (OpenSpec.ofChange certGroupsWrong)

/- THE SECOND FORM. 'bulk': how many values and letters a reading holds, each counted each time it is reached (what is shared counts as often as it is met; a slice's spare places count too). A statement '..UptoSaid' is the law's where the arguments, and the package variables that the reading takes, are together of bulk at most 1048576: NARROWER than '..Said'. Prove '..Said' where nothing that the law and all that it calls make is longer than what came in: it says more and counts as full. Else prove '..UptoSaid'. A law counts once. -/
mutual
def uptoBulk {H : Type} : DataW H → Nat
  | .lit (.string bytes) => bytes.length + 1
  | .lit _ => 1
  | .nil => 1
  | .ptr d => uptoBulk d + 1
  | .slice elems spare => uptoBulkAll elems + uptoBulkAll spare + 1
  | .agg parts => uptoBulkAll parts + 1
  | .iface _ d => uptoBulk d + 1
  | .map entries => uptoBulkEntries entries + 1
  | .held _ => 1
def uptoBulkAll {H : Type} : List (DataW H) → Nat
  | [] => 0
  | d :: r => uptoBulk d + uptoBulkAll r
def uptoBulkEntries {H : Type} : List (Lit × DataW H) → Nat
  | [] => 0
  | x :: r => uptoBulkEntry x + uptoBulkEntries r
def uptoBulkEntry {H : Type} : Lit × DataW H → Nat
  | (.string bytes, d) => bytes.length + uptoBulk d + 1
  | (_, d) => uptoBulk d + 1
 end
def uptoSmall : (H : Type) → List (DataW H) → Bool := fun _ ds => decide (uptoBulkAll ds ≤ 1048576)
def OpenSpec.upto (s : _root_.Go.ChangeSpec) : _root_.Go.OpenSpec := { _root_.Go.OpenSpec.ofChange s with cond := some uptoSmall }

/-- 'seneschallaw03.CertTells', WHERE WHAT IT READS IS OF BULK AT MOST 1048576: true; the input reads as it did. -/
def certTellsUptoRow : OpenClaim := { program := "ytgfggkinmhhdnaa", sum := "02fda156bb759764f65b6ba1b556d15d60bd1e98cd477ab83190cf54e55b69fd", func := "seneschal/seneschallaw03.CertTells", spec := "certTells", inPlace := ["math/bits.Sub64", "math/bits.Add64", "internal/bytealg.IndexByteString"], unfollowed := true, recurses := true, named := ["math/bits.divideError", "math/bits.overflowError"], apart := false, narrowed := true }
def CertTellsUptoSaid : Prop := certTellsUptoRow.holds Try.pinned (OpenSpec.upto certTellsSpec)

/-- 'seneschallaw03.CertChecks', WHERE WHAT IT READS IS OF BULK AT MOST 1048576: true; the input reads as it did. -/
def certChecksUptoRow : OpenClaim := { program := "ytgfggkinmhhdnaa", sum := "02fda156bb759764f65b6ba1b556d15d60bd1e98cd477ab83190cf54e55b69fd", func := "seneschal/seneschallaw03.CertChecks", spec := "certChecks", inPlace := ["math/bits.Sub64", "math/bits.Add64", "internal/bytealg.IndexByteString"], unfollowed := true, recurses := true, named := ["math/bits.divideError", "math/bits.overflowError"], apart := false, narrowed := true }
def CertChecksUptoSaid : Prop := certChecksUptoRow.holds Try.pinned (OpenSpec.upto certChecksSpec)

/-- 'seneschallaw03.CertWhole', WHERE WHAT IT READS IS OF BULK AT MOST 1048576: true; the input reads as it did. -/
def certWholeUptoRow : OpenClaim := { program := "ytgfggkinmhhdnaa", sum := "02fda156bb759764f65b6ba1b556d15d60bd1e98cd477ab83190cf54e55b69fd", func := "seneschal/seneschallaw03.CertWhole", spec := "certWhole", inPlace := ["internal/bytealg.IndexByteString", "math/bits.Sub64", "math/bits.Add64"], unfollowed := true, recurses := true, named := ["math/bits.divideError", "math/bits.overflowError"], apart := false, narrowed := true }
def CertWholeUptoSaid : Prop := certWholeUptoRow.holds Try.pinned (OpenSpec.upto certWholeSpec)

/-- 'seneschallaw03.CertTurned', WHERE WHAT IT READS IS OF BULK AT MOST 1048576: true; the input reads as it did. -/
def certTurnedUptoRow : OpenClaim := { program := "ytgfggkinmhhdnaa", sum := "02fda156bb759764f65b6ba1b556d15d60bd1e98cd477ab83190cf54e55b69fd", func := "seneschal/seneschallaw03.CertTurned", spec := "certTurned", inPlace := ["internal/bytealg.IndexByteString", "math/bits.Sub64", "math/bits.Add64"], unfollowed := true, recurses := true, named := ["math/bits.divideError", "math/bits.overflowError"], apart := false, narrowed := true }
def CertTurnedUptoSaid : Prop := certTurnedUptoRow.holds Try.pinned (OpenSpec.upto certTurnedSpec)

/-- 'seneschallaw03.CertChains', WHERE WHAT IT READS IS OF BULK AT MOST 1048576: true; the input reads as it did. -/
def certChainsUptoRow : OpenClaim := { program := "ytgfggkinmhhdnaa", sum := "02fda156bb759764f65b6ba1b556d15d60bd1e98cd477ab83190cf54e55b69fd", func := "seneschal/seneschallaw03.CertChains", spec := "certChains", inPlace := ["internal/bytealg.IndexByteString", "math/bits.Sub64", "math/bits.Add64"], unfollowed := true, recurses := true, named := ["math/bits.divideError", "math/bits.overflowError"], apart := false, narrowed := true }
def CertChainsUptoSaid : Prop := certChainsUptoRow.holds Try.pinned (OpenSpec.upto certChainsSpec)

/-- 'seneschallaw03.CertGroups', WHERE WHAT IT READS IS OF BULK AT MOST 1048576: true; the input reads as it did. -/
def certGroupsUptoRow : OpenClaim := { program := "ytgfggkinmhhdnaa", sum := "02fda156bb759764f65b6ba1b556d15d60bd1e98cd477ab83190cf54e55b69fd", func := "seneschal/seneschallaw03.CertGroups", spec := "certGroups", inPlace := ["internal/bytealg.IndexByteString", "math/bits.Sub64", "math/bits.Add64"], unfollowed := true, recurses := true, named := ["math/bits.divideError", "math/bits.overflowError"], apart := false, narrowed := true }
def CertGroupsUptoSaid : Prop := certGroupsUptoRow.holds Try.pinned (OpenSpec.upto certGroupsSpec)

end Rows
end Go.Proofs.Ytgfggkinmhhdnaa
