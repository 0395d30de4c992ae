/- Expand. -/
import Derived.Test.YtbgdcgboomdimaaDoorME1
import Derived.Lib.ConvBytes
namespace Go.Proofs.YtbgdcgboomdimaaDoor
open Go.RowKit
set_option linter.unusedVariables false
set_option linter.unusedSimpArgs false
/-- Bytes that lie somewhere below. -/
def PIN (xs : List Nat) (u : World) (y : Value) : Prop := IN u u.heap.size y xs
theorem PIN.stab {xs : List Nat} {u v : World} {x : Value} (hB : Below u.heap.size u v) (h : PIN xs u x) : PIN xs v x := (IN.below h hB).mono hB.size
end Go.Proofs.YtbgdcgboomdimaaDoor
