import Derived.Test.YtgieoghechekpaaDoorW1
import Derived.Test.YtgieoghechekpaaDoorGR
namespace Go.Proofs.YtgieoghechekpaaDoor
set_option linter.unusedVariables false
set_option linter.unusedSimpArgs false
set_option maxRecDepth 100000
set_option maxHeartbeats 4000000
open Go.RowKit
def U(k:Nat)(a b c d:Int):Int:=match k with
 | 0=>0
 | 1=>a
 | 2=>a+b*18446744073709551616
 | 3=>a+b*18446744073709551616+c*340282366920938463463374607431768211456
 | _=>V a b c d
def PB(k:Nat):Int:=match k with
 | 0=>1
 | 1=>18446744073709551616
 | 2=>340282366920938463463374607431768211456
 | 3=>6277101735386680763835789423207666416102355444464034512896
 | _=>115792089237316195423570985008687907853269984665640564039457584007913129639936
end Go.Proofs.YtgieoghechekpaaDoor
