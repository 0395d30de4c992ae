import Derived.Test.YtofcppgfaelloaaGreatDoorAN7
namespace Go.Proofs.YtofcppgfaelloaaGreatDoor
set_option linter.unusedVariables false
set_option linter.unusedSimpArgs false
set_option maxRecDepth 100000
set_option maxHeartbeats 4000000
section
def bv (xs:List Int) (p:Nat):Int:=xs.getD (xs.length -1 -p) 0
def Tk (xs:List Int) (q:Nat):Nat->Int
 | 0=>0
 | k+1=>Tk xs q k+if k/8=q then bv xs k*2^(k%8*8) else 0
def Vj (xs:List Int):Prop:= ∀x∈xs,0<=x/\x<256
theorem bv_bd (xs:List Int) (h:Vj xs) (p:Nat):0<=bv xs p/\bv xs p<256:=by
 unfold bv
 by_cases hl:xs.length -1 -p<xs.length
 ·rw[List.getD_eq_getElem?_getD,List.getElem?_eq_getElem hl,Option.getD_some];exact h _ (List.getElem_mem hl)
 ·rw[List.getD_eq_getElem?_getD,List.getElem?_eq_none (by omega)];simp
theorem Tk_lo (xs:List Int) (q:Nat): ∀k,k<=8*q->Tk xs q k=0
 | 0,_=>rfl
 | k+1,h=>by
  unfold Tk
  rw[Tk_lo xs q k (by omega),if_neg (by omega)];omega
theorem Tk_mid (xs:List Int) (h:Vj xs) (q:Nat): ∀k,8*q<=k->k<=8*q+8->0<=Tk xs q k/\Tk xs q k<2^((k -8*q)*8)
 | 0,h1,h2=>by
  have:q=0:=by omega
  subst this;unfold Tk;simp
 | k+1,h1,h2=>by
  by_cases e:8*q<=k
  ·obtain⟨i1,i2⟩:=Tk_mid xs h q k e (by omega)
   have b:=bv_bd xs h k
   unfold Tk
   rw[if_pos (by omega),show (k+1 -8*q)*8=(k -8*q)*8+8 by omega,Int.pow_add,show k%8*8=(k -8*q)*8 by omega]
   have p:=pow_pos2 ((k -8*q)*8)
   generalize (2:Int)^((k -8*q)*8)=s at *
   have m1:0<=bv xs k*s:=Int.mul_nonneg b.1 (by omega)
   have m2:bv xs k*s<=255*s:=Int.mul_le_mul_of_nonneg_right (by omega) (by omega)
   have m3:s*2^8=256*s:=by rw[Int.mul_comm];rfl
   omega
  ·have e2:8*q=k+1:=by omega
   rw[Tk_lo xs q (k+1) (by omega),show k+1 -8*q=0 by omega];simp
theorem Tk_hi (xs:List Int) (q:Nat): ∀k,8*q+8<=k->Tk xs q k=Tk xs q (8*q+8)
 | 0,h=>by omega
 | k+1,h=>by
  by_cases e:8*q+8=k+1
  ·rw[e]
  ·have:=Tk_hi xs q k (by omega)
   show Tk xs q k+_=_
   rw[if_neg (by omega),this];omega
theorem Tk_W (xs:List Int) (h:Vj xs) (q k:Nat):W64 (Tk xs q k):=by
 by_cases h1:k<=8*q
 ·rw[Tk_lo xs q k h1];exact⟨by omega,by omega⟩
 ·by_cases h2:k<=8*q+8
  ·obtain⟨i1,i2⟩:=Tk_mid xs h q k (by omega) h2
   refine⟨i1,?_⟩
   have e:(18446744073709551616:Int)=2^((k -8*q)*8)*2^(64 -(k -8*q)*8):=by
    rw[<-Int.pow_add,show (k -8*q)*8+(64 -(k -8*q)*8)=64 by omega];rfl
   have p:=pow_pos2 (64 -(k -8*q)*8)
   have m:=Int.mul_le_mul_of_nonneg_left (show (1:Int)<=2^(64 -(k -8*q)*8) by omega) (Int.le_of_lt (pow_pos2 ((k -8*q)*8)))
   rw[e];omega
  ·rw[Tk_hi xs q k (by omega)]
   obtain⟨i1,i2⟩:=Tk_mid xs h q (8*q+8) (by omega) (by omega)
   refine⟨i1,?_⟩
   rw[show (8*q+8 -8*q)*8=64 by omega] at i2
   exact i2
theorem Tk_or (xs:List Int) (h:Vj xs) (k q:Nat) (hq:k/8=q):bits .or .u64 (Tk xs q k) (IntKind.u64.wrap (bv xs k*2^(k%8*8)))=Tk xs q (k+1):=by
 obtain⟨i1,i2⟩:=Tk_mid xs h q k (by omega) (by omega)
 rw[show (k -8*q)*8=k%8*8 by omega] at i2
 have b:=bv_bd xs h k
 have wn:=Tk_W xs h q (k+1)
 have e:Tk xs q (k+1)=Tk xs q k+bv xs k*2^(k%8*8):=by
  show Tk xs q k+_=_
  rw[if_pos hq]
 have m1:0<=bv xs k*2^(k%8*8):=Int.mul_nonneg b.1 (Int.le_of_lt (pow_pos2 _))
 rw[e] at wn⊢
 rw[IntKind.wrap_u64,Int.emod_eq_of_lt m1 (by have:=wn.2;omega)]
 exact or_int _ _ (k%8*8) ⟨i1,i2⟩ b.1 wn.2
theorem Xn (xs:List Int) (k q:Nat) (hq:k/8≠q):Tk xs q (k+1)=Tk xs q k:=by
 show Tk xs q k+_=_
 rw[if_neg hq];omega
def dv (xs:List Int) (p:Nat):Int:=xs.getD (xs.length -1 -p) 0
end
section
open Go.RowKit
def ixv (c:Int):Int:=if 48<=c/\c<=57 then c -48 else if 97<=c/\c<=102 then c -87 else -1
theorem str_ix (cs:List Int) (hb:Vj cs) (j:Nat) (hj:j<cs.length) (W:World):(Instr.index 9 (.string (strOfNums cs)) (iI j)).run Tryz.prog W= .ok (.int .u8 (cs.getD j 0)) W:=by
 have hx:=hb (cs[j]) (List.getElem_mem hj)
 have hs:(strOfNums cs).size=cs.length:=strOfNums_size cs
 have hd:(strOfNums cs).data.toList=cs.map fun n=>UInt8.ofNat n.toNat:=strOfNums_data cs
 have hg: ∀h,((strOfNums cs)[j]'h).toNat=(cs[j]).toNat:=fun h=>by
  show (((strOfNums cs).data[j]'_).toNat)=_
  simp only[<-Array.getElem_toList,hd,List.getElem_map]
  simp;omega
 simp[Instr.index,go_sem,Tryz.underlying9,hs,hj]
 rw[hg];simp[List.getElem?_eq_getElem hj];omega
end
end Go.Proofs.YtofcppgfaelloaaGreatDoor
