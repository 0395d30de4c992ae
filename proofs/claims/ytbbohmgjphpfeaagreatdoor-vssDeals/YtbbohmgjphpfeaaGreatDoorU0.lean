import Derived.Test.YtbbohmgjphpfeaaGreatDoorS0
import Derived.Test.YtbbohmgjphpfeaaGreatDoorW2
namespace Go.Proofs.YtbbohmgjphpfeaaGreatDoor
set_option linter.unusedVariables false
set_option linter.unusedSimpArgs false
set_option maxRecDepth 100000
set_option maxHeartbeats 4000000
section
def Bytes8(xs:List Int):Prop:= ∀x∈xs,0<=x/\x<256
def dv(xs:List Int)(p:Nat):Int:=xs.getD (xs.length -1 -p) 0
def Uk(xs:List Int)(q:Nat):Nat->Int
 | 0=>0
 | k+1=>Uk xs q k+if k/16=q then dv xs k*2^(k%16*4) else 0
def Digs(xs:List Int):Prop:= ∀x∈xs,0<=x/\x<16
theorem dv_bd(xs:List Int)(h:Digs xs)(p:Nat):0<=dv xs p/\dv xs p<16:=by
 unfold dv
 by_cases hl:xs.length -1 -p<xs.length
 ·rw[List.getD_eq_getElem?_getD,List.getElem?_eq_getElem hl,Option.getD_some];exact h _ (List.getElem_mem hl)
 ·rw[List.getD_eq_getElem?_getD,List.getElem?_eq_none (by omega)];simp
theorem Uk_lo(xs:List Int)(q:Nat): ∀k,k<=16*q->Uk xs q k=0
 | 0,_=>rfl
 | k+1,h=>by
  unfold Uk
  rw[Uk_lo xs q k (by omega),if_neg (by omega)];omega
theorem Uk_mid(xs:List Int)(h:Digs xs)(q:Nat): ∀k,16*q<=k->k<=16*q+16->0<=Uk xs q k/\Uk xs q k<2^((k -16*q)*4)
 | 0,h1,h2=>by
  have:q=0:=by omega
  subst this;unfold Uk;simp
 | k+1,h1,h2=>by
  by_cases e:16*q<=k
  ·obtain⟨i1,i2⟩:=Uk_mid xs h q k e (by omega)
   have b:=dv_bd xs h k
   unfold Uk
   rw[if_pos (by omega),show (k+1 -16*q)*4=(k -16*q)*4+4 by omega,Int.pow_add,show k%16*4=(k -16*q)*4 by omega]
   have p:=Zw ((k -16*q)*4)
   generalize (2:Int)^((k -16*q)*4)=s at *
   have m1:0<=dv xs k*s:=Int.mul_nonneg b.1 (by omega)
   have m2:dv xs k*s<=15*s:=Int.mul_le_mul_of_nonneg_right (by omega) (by omega)
   have m3:s*2^4=16*s:=by rw[Int.mul_comm];rfl
   omega
  ·have e2:16*q=k+1:=by omega
   rw[Uk_lo xs q (k+1) (by omega),show k+1 -16*q=0 by omega];simp
theorem Uk_hi(xs:List Int)(q:Nat): ∀k,16*q+16<=k->Uk xs q k=Uk xs q (16*q+16)
 | 0,h=>by omega
 | k+1,h=>by
  by_cases e:16*q+16=k+1
  ·rw[e]
  ·have:=Uk_hi xs q k (by omega)
   show Uk xs q k+_=_
   rw[if_neg (by omega),this];omega
theorem Uk_W(xs:List Int)(h:Digs xs)(q k:Nat):W64 (Uk xs q k):=by
 by_cases h1:k<=16*q
 ·rw[Uk_lo xs q k h1];exact⟨by omega,by omega⟩
 ·by_cases h2:k<=16*q+16
  ·obtain⟨i1,i2⟩:=Uk_mid xs h q k (by omega) h2
   refine⟨i1,?_⟩
   have e:(18446744073709551616:Int)=2^((k -16*q)*4)*2^(64 -(k -16*q)*4):=by
    rw[<-Int.pow_add,show (k -16*q)*4+(64 -(k -16*q)*4)=64 by omega];rfl
   have p:=Zw (64 -(k -16*q)*4)
   have m:=Int.mul_le_mul_of_nonneg_left (show (1:Int)<=2^(64 -(k -16*q)*4) by omega) (Int.le_of_lt (Zw ((k -16*q)*4)))
   rw[e];omega
  ·rw[Uk_hi xs q k (by omega)]
   obtain⟨i1,i2⟩:=Uk_mid xs h q (16*q+16) (by omega) (by omega)
   refine⟨i1,?_⟩
   rw[show (16*q+16 -16*q)*4=64 by omega] at i2
   exact i2
theorem Zq(xs:List Int)(k q:Nat)(hq:k/16≠q):Uk xs q (k+1)=Uk xs q k:=by
 show Uk xs q k+_=_
 rw[if_neg hq];omega
theorem Uk_mono(xs:List Int)(h:Digs xs)(q:Nat): ∀k n,k<=n->Uk xs q k<=Uk xs q n
 | k,0,hk=>by
  have:k=0:=by omega
  subst this;exact Int.le_refl _
 | k,n+1,hk=>by
  by_cases e:k=n+1
  ·subst e;exact Int.le_refl _
  ·have i:=Uk_mono xs h q k n (by omega)
   have b:=dv_bd xs h n
   have m:0<=dv xs n*2^(n%16*4):=Int.mul_nonneg b.1 (Int.le_of_lt (Zw _))
   show Uk xs q k<=Uk xs q n+_
   split<;>omega
theorem Te(xs:List Int)(h:Digs xs)(k n q:Nat)(hk:k<n)(hq:k/16=q):IntKind.u64.wrap (Uk xs q n -Uk xs q (k+1)+dv xs k*2^(k%16*4))=Uk xs q n -Uk xs q k:=by
 have e:Uk xs q (k+1)=Uk xs q k+dv xs k*2^(k%16*4):=by
  show Uk xs q k+_=_
  rw[if_pos hq]
 have m:=Uk_mono xs h q k n (by omega)
 have z:=Uk_mono xs h q 0 k (by omega)
 have wn:=Uk_W xs h q n
 have z0:Uk xs q 0=0:=rfl
 rw[IntKind.wrap_u64,e,show Uk xs q n -(Uk xs q k+dv xs k*2^(k%16*4))+dv xs k*2^(k%16*4)=Uk xs q n -Uk xs q k by omega]
 exact Int.emod_eq_of_lt (by omega) (by have:=wn.2;omega)
end
section
open Go.RowKit
def ixv(c:Int):Int:=if 48<=c/\c<=57 then c -48 else if 97<=c/\c<=102 then c -87 else -1
theorem ixv_bd(c:Int): -1<=ixv c/\ixv c<16:=by unfold ixv;split<;>(try split)<;>omega
theorem str_ix(cs:List Int)(hb:Bytes8 cs)(j:Nat)(hj:j<cs.length)(W:World):(Instr.index 9 (.string (strOfNums cs)) (.int .i64 j)).run Tryz.prog W= .ok (.int .u8 (cs.getD j 0)) W:=by
 have hx:=hb (cs[j]) (List.getElem_mem hj)
 have hs:(strOfNums cs).size=cs.length:=strOfNums_size cs
 have hd:(strOfNums cs).data.toList=cs.map fun n=>UInt8.ofNat n.toNat:=strOfNums_data cs
 have hg: ∀h,((strOfNums cs)[j]'h).toNat=(cs[j]).toNat:=fun h=>by
  show (((strOfNums cs).data[j]'_).toNat)=_
  simp only[<-Array.getElem_toList,hd,List.getElem_map]
  simp;omega
 simp[Instr.index,go_sem,Tryz.underlying9,hs,hj]
 rw[hg];simp[List.getElem?_eq_getElem hj];omega
def isT(cs:List Int):Bool:=!(cs.length==0)&&!(cs.getD 0 0==48&&decide (1<cs.length))&&cs.all fun c=>decide (0<=ixv c)
theorem isT_all{cs:List Int}{k:Nat}(h: ∀j,j<k->0<=ixv (cs.getD j 0))(hk:cs.length=k):(cs.all fun c=>decide (0<=ixv c))=true:=by
 rw[List.all_eq_true];intro x hx
 obtain⟨j,hj,rfl⟩:=List.mem_iff_getElem.1 hx
 have:=h j (by omega)
 simpa [List.getElem?_eq_getElem hj] using this
theorem isT_not{cs:List Int}{k:Nat}(hk:k<cs.length)(h:ixv (cs.getD k 0)<0):isT cs=false:=by
 have:(cs.all fun c=>decide (0<=ixv c))=false:=by
  rw[List.all_eq_false]
  refine⟨cs[k],List.getElem_mem hk,?_⟩
  simp[List.getElem?_eq_getElem hk] at h
  simp;omega
 unfold isT;rw[this];simp
theorem isT_digs{cs:List Int}(h:isT cs=true):Digs (cs.map ixv):=fun x hx=>by
 obtain⟨c,hc,rfl⟩:=List.mem_map.1 hx
 unfold isT at h
 simp only[Bool.and_eq_true,List.all_eq_true,decide_eq_true_eq] at h
 exact⟨h.2 c hc,(ixv_bd c).2⟩
end
end Go.Proofs.YtbbohmgjphpfeaaGreatDoor
