import Derived.Test.YtclafkfelkmigaaGreatDoorProg
import Derived.Handy
namespace Go.Proofs.YtclafkfelkmigaaGreatDoor
set_option linter.unusedVariables false
set_option linter.unusedSimpArgs false
set_option maxRecDepth 100000
set_option maxHeartbeats 4000000
open Go.RowKit
abbrev Bw(w u:World):Prop:=Below w.heap.size w u
abbrev CC(f:FuncId)(vs:Array Value)(w:World)(r:Value):Prop:=Calls Tryz.prog f vs w fun e u=>e= .returned r/\Below w.heap.size w u
abbrev iU(n:Int):Value:= .int .u64 n
abbrev iI(n:Int):Value:= .int .i64 n
abbrev EnT(f:FuncId):Prop:= ∀(vs:Array Value) (w:World),(callFunc f vs).run Tryz.prog w= .ok (.enter f vs) w
end Go.Proofs.YtclafkfelkmigaaGreatDoor
