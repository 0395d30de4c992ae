import Derived.Test.YtoffgfhilkpdpaaGreatDoorProg
import Derived.Handy
namespace Go.Proofs.YtoffgfhilkpdpaaGreatDoor
set_option linter.unusedVariables false
set_option linter.unusedSimpArgs false
set_option maxRecDepth 100000
set_option maxHeartbeats 4000000
open Go.RowKit
abbrev Bw(w u:World):Prop:=Below w.heap.size w u
abbrev CC(f:FuncId)(vs:Array Value)(w:World)(r:Value):Prop:=Calls Tryz.prog f vs w fun e u=>e= .returned r/\Below w.heap.size w u
abbrev iU(n:Int):Value:= .int .u64 n
abbrev iI(n:Int):Value:= .int .i64 n
theorem Z1{p:Prop}(h:p:=by omega):p:=h
theorem Z2{p:Prop}(h:p:=by decide):p:=h
theorem Z3{α:Sort _}(a:α): ∃x,a=x:=⟨_,rfl⟩
theorem Zr{α:Sort _}(a:α): ∃x,x=a:=⟨_,rfl⟩
abbrev EnT(f:FuncId):Prop:= ∀(vs:Array Value) (w:World),(callFunc f vs).run Tryz.prog w= .ok (.enter f vs) w
end Go.Proofs.YtoffgfhilkpdpaaGreatDoor
