import Derived.Test.YtgieoghechekpaaDoorXX
import Derived.Test.YtgieoghechekpaaDoorNN
namespace Go.Proofs.YtgieoghechekpaaDoor
set_option linter.unusedVariables false
set_option linter.unusedSimpArgs false
set_option maxRecDepth 100000
set_option maxHeartbeats 4000000
open Go.RowKit
section
structure RD(w wr:World)(N0 N1 N2 N3 N4 N5:Nat)(wl ml:List Int)(r0 r1 r2 r3:Int)(ql:List Int):Prop where
 bel:Bw w wr
 sz:N5<wr.heap.size
 kw:CL wr N0 wl
 km:CL wr N1 ml
 k2:CL wr N2 [0,0,0,0,0,0,0,0]
 k3:CL wr N3 [0,0,0,0]
 kq:CL wr N4 ql
 kr:CL wr N5 [r0,r1,r2,r3]
 w0:W64 r0
 w1:W64 r1
 w2:W64 r2
 w3:W64 r3
 ll:ql.length=8
 lw: ∀x∈ql,W64 x
structure RN(w:World)(N0 N1 N2 N3 N4 N5:Nat):Prop where
 a:w.heap.size<=N0
 b:N0<N1
 c:N1<N2
 d:N2<N3
 e:N3<N4
 f:N4<N5
section
variable {w wr v:World} {N0 N1 N2 N3 N4 N5:Nat} {wl ml:List Int} {r0 r1 r2 r3:Int} {ql:List Int}
theorem RD.call(h:RD w wr N0 N1 N2 N3 N4 N5 wl ml r0 r1 r2 r3 ql)(n:RN w N0 N1 N2 N3 N4 N5)(hB:Bw wr v):RD w v N0 N1 N2 N3 N4 N5 wl ml r0 r1 r2 r3 ql:=by
 have hs:=hB.size
 have hz:=h.sz
 obtain⟨n1,n2,n3,n4,n5,n6⟩:=n
 exact{h with bel:=Z4 h.bel hB,sz:=by omega,kw:=h.kw.below hB (by omega),km:=h.km.below hB (by omega),k2:=h.k2.below hB (by omega),k3:=h.k3.below hB (by omega),kq:=h.kq.below hB (by omega),kr:=h.kr.below hB (by omega)}
theorem RD.alloc(h:RD w wr N0 N1 N2 N3 N4 N5 wl ml r0 r1 r2 r3 ql)(n:RN w N0 N1 N2 N3 N4 N5)(o:Obj):RD w (wr.alloc o) N0 N1 N2 N3 N4 N5 wl ml r0 r1 r2 r3 ql:=h.call n (Z0 (Z2 wr) o)
theorem RD.drew(h:RD w wr N0 N1 N2 N3 N4 N5 wl ml r0 r1 r2 r3 ql):RD w wr.drew N0 N1 N2 N3 N4 N5 wl ml r0 r1 r2 r3 ql:=
 {h with bel:=h.bel.drew,sz:=h.sz,kw:=h.kw,km:=h.km,k2:=h.k2,k3:=h.k3,kq:=h.kq,kr:=h.kr}
theorem RD.far(h:RD w wr N0 N1 N2 N3 N4 N5 wl ml r0 r1 r2 r3 ql)(n:RN w N0 N1 N2 N3 N4 N5)(a:Addr)(ha:N5<a.block)(x:Value):RD w (wr.setCell a x) N0 N1 N2 N3 N4 N5 wl ml r0 r1 r2 r3 ql:=by
 obtain⟨n1,n2,n3,n4,n5,n6⟩:=n
 exact{h with bel:=h.bel.setCell (by omega) _,sz:=by simpa using h.sz,kw:=h.kw.other _ (by omega) _,km:=h.km.other _ (by omega) _,k2:=h.k2.other _ (by omega) _,k3:=h.k3.other _ (by omega) _,kq:=h.kq.other _ (by omega) _,kr:=h.kr.other _ (by omega) _}
end
end
end Go.Proofs.YtgieoghechekpaaDoor
