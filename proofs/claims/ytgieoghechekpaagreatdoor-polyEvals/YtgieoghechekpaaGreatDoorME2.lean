import Derived.Test.YtgieoghechekpaaGreatDoorME1
import Derived.Lib.ConvBytes
namespace Go.Proofs.YtgieoghechekpaaGreatDoor
set_option linter.unusedVariables false
set_option linter.unusedSimpArgs false
set_option maxRecDepth 100000
set_option maxHeartbeats 4000000
open Go.RowKit
def PIN(xs:List Nat)(u:World)(y:Value):Prop:=IN u u.heap.size y xs
theorem PIN.stab{xs:List Nat}{u v:World}{x:Value}(hB:Bw u v)(h:PIN xs u x):PIN xs v x:=(IN.below h hB).mono hB.size
section
section
variable {R:Rg} {P:Program} {ops:Array Oper} {Q:Exit->Act->World->Prop} {f:Nat->Bool} {t:Nat->Value} {u:World} {a:Act} {i:Nat} {o:Oper}
end
theorem eql_i(T:TypeId)(p q:Operand)(x y:Int)(b:Bool)(w:World)(h:(x==y)=b):(do eqGuard .eql T p q (.int .i64 x) (.int .i64 y);binOp .eql T (.int .i64 x) (.int .i64 y):Sem Value).run Tryz.prog w= .ok (.bool b) w:=by
 subst h;go_simp
end
end Go.Proofs.YtgieoghechekpaaGreatDoor
