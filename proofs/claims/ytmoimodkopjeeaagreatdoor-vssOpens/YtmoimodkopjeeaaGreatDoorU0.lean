import Derived.Test.YtmoimodkopjeeaaGreatDoorW2
namespace Go.Proofs.YtmoimodkopjeeaaGreatDoor
set_option linter.unusedVariables false
set_option linter.unusedSimpArgs false
set_option maxRecDepth 100000
set_option maxHeartbeats 4000000
section
def Bytes8(xs:List Int):Prop:= ∀x∈xs,0<=x/\x<256
def dv(xs:List Int)(p:Nat):Int:=xs.getD (xs.length -1 -p) 0
end
section
open Go.RowKit
def ixv(c:Int):Int:=if 48<=c/\c<=57 then c -48 else if 97<=c/\c<=102 then c -87 else -1
theorem str_ix(cs:List Int)(hb:Bytes8 cs)(j:Nat)(hj:j<cs.length)(W:World):(Instr.index 9 (.string (strOfNums cs)) (iI j)).run Tryz.prog W= .ok (.int .u8 (cs.getD j 0)) W:=by
 have hx:=hb (cs[j]) (List.getElem_mem hj)
 have hs:(strOfNums cs).size=cs.length:=strOfNums_size cs
 have hd:(strOfNums cs).data.toList=cs.map fun n=>UInt8.ofNat n.toNat:=strOfNums_data cs
 have hg: ∀h,((strOfNums cs)[j]'h).toNat=(cs[j]).toNat:=fun h=>by
  show (((strOfNums cs).data[j]'_).toNat)=_
  simp only[<-Array.getElem_toList,hd,List.getElem_map]
  simp;omega
 simp[Instr.index,go_sem,Tryz.underlying9,hs,hj]
 rw[hg];simp[List.getElem?_eq_getElem hj];omega
end
end Go.Proofs.YtmoimodkopjeeaaGreatDoor
