import Derived.Test.YtgfggkinmhhdnaaRows
import Derived.Test.YtgfggkinmhhdnaaMem
import Derived.Test.YtgfggkinmhhdnaaEqs
import Derived.ProofKit
import Derived.OpenShut
import Derived.ShutString
import Derived.ChangeOld
import Derived.Below
import Derived.Laws.IdiomArrays
import Derived.Lib.SmallJoins
import Derived.Test.YtgfggkinmhhdnaaN1
import Derived.Test.YtgfggkinmhhdnaaL0
import Derived.Carry
/- How a number of four words that came in is opened and shut. -/
namespace Go.Proofs.Ytgfggkinmhhdnaa
open Go.ChangeShapes Go.WideShapes Go.ChangeAt Go.RowKit
set_option linter.unusedSimpArgs false
set_option linter.unusedVariables false
theorem Try.own : ownKnob Try.prog.godebug = none := by kernel_rfl
theorem Try.laidOut : laidOutB Try.prog = true := by kernel_rfl
theorem Try.cells24 : Try.prog.cellsOf 24 = 4 := by kernel_rfl
theorem Try.cells22 : Try.prog.cellsOf 22 = 1 := by kernel_rfl
theorem word_of_wf {x : Int} (h : (Lit.int .u64 x).wf = true) : W64 x := by
  simp [Lit.wf, IntKind.min, IntKind.max, IntKind.signed, IntKind.bits] at h
  exact ⟨by omega, by omega⟩
abbrev N4 {H : Type} (a b c d : Int) : DataW H := .agg [.lit (.int .u64 a), .lit (.int .u64 b), .lit (.int .u64 c), .lit (.int .u64 d)]
end Go.Proofs.Ytgfggkinmhhdnaa
/- How a number of eight words that came in is opened and shut. -/
namespace Go.Proofs.Ytgfggkinmhhdnaa
open Go.ChangeShapes Go.WideShapes Go.ChangeAt Go.RowKit
set_option linter.unusedSimpArgs false
set_option linter.unusedVariables false
end Go.Proofs.Ytgfggkinmhhdnaa
/- Five parameters; words; wide numbers, in the words of numbers. -/
namespace Go.Proofs.Ytgfggkinmhhdnaa
open Go.ChangeShapes Go.WideShapes Go.ChangeAt Go.RowKit
set_option linter.unusedVariables false
section
variable {H : Type} {enc : TypeId × Value → H} {P : Program} {w : World} {base : Nat} {spare : Nat → Bool} {held : Bool}
end
end Go.Proofs.Ytgfggkinmhhdnaa
