import Derived.Test.YtmoimodkopjeeaaGreatDoorSN
namespace Go.Proofs.YtmoimodkopjeeaaGreatDoor
set_option linter.unusedVariables false
set_option linter.unusedSimpArgs false
set_option maxRecDepth 100000
set_option maxHeartbeats 4000000
open Go.RowKit
theorem mkE{o:Oper}{ev:Operand->Value}{x y:Operand}{n lo:Nat}(hn:n<=1000000)(u:World)(h:lo<=u.heap.size)(ho:o.op= .makeSlice 118 x y)(hx:ev x=iI 0)(hy:ev y=iI (n:Int)): ∃v u',(execOp ev o).run Tryz.prog u= .ok (.value v) u'/\Bw u u'/\PM lo n u' v:=by
 obtain⟨v,u',hr,h1,h2⟩:=mkRoom (lo:=lo) n hn u h
 refine⟨v,u',?_,h1,h2⟩
 unfold execOp;rw[ho];simp only[hx,hy,Sem.run_bind,hr,Result.andThen_ok,Sem.run_pure]
end Go.Proofs.YtmoimodkopjeeaaGreatDoor
