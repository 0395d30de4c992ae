/- HMAC: masks, and bytes that are the same. -/
import Derived.Test.YtlcjbnhfmcnnfaaDoorMC0
import Derived.Test.YtlcjbnhfmcnnfaaDoorLS3
namespace Go.Proofs.YtlcjbnhfmcnnfaaDoor
open Go.RowKit
set_option linter.unusedVariables false
set_option linter.unusedSimpArgs false
theorem eql_it (p q : Operand) (x y : Int) (b : Bool) (w : World) (h : decide (x = y) = b) : (do eqGuard .eql 3 p q (.int .i64 x) (.int .i64 y); binOp .eql 3 (.int .i64 x) (.int .i64 y) : Sem Value).run Tryd.prog w = .ok (.bool b) w := by
  subst h; go_simp
  first | done | (by_cases e : x = y <;> simp [e])
end Go.Proofs.YtlcjbnhfmcnnfaaDoor
