import Derived.Test.YtdhlekdohebbbaaGreatDoorSD0
namespace Go.Proofs.YtdhlekdohebbbaaGreatDoor
set_option linter.unusedVariables false
set_option linter.unusedSimpArgs false
set_option maxRecDepth 100000
set_option maxHeartbeats 4000000
section
def bv(xs:List Int)(p:Nat):Int:=xs.getD (xs.length -1 -p) 0
def Tk(xs:List Int)(q:Nat):Nat->Int
 | 0=>0
 | k+1=>Tk xs q k+if k/8=q then bv xs k*2^(k%8*8) else 0
def Yf(xs:List Int):Prop:= ∀x∈xs,0<=x/\x<256
theorem bv_bd(xs:List Int)(h:Yf xs)(p:Nat):0<=bv xs p/\bv xs p<256:=by
 unfold bv
 by_cases hl:xs.length -1 -p<xs.length
 ·rw[List.getD_eq_getElem?_getD,List.getElem?_eq_getElem hl,Option.getD_some];exact h _ (List.getElem_mem hl)
 ·rw[List.getD_eq_getElem?_getD,List.getElem?_eq_none (by omega)];simp
theorem Tk_lo(xs:List Int)(q:Nat): ∀k,k<=8*q->Tk xs q k=0
 | 0,_=>rfl
 | k+1,h=>by
  unfold Tk
  rw[Tk_lo xs q k (by omega),if_neg (by omega)];omega
theorem Tk_mid(xs:List Int)(h:Yf xs)(q:Nat): ∀k,8*q<=k->k<=8*q+8->0<=Tk xs q k/\Tk xs q k<2^((k -8*q)*8)
 | 0,h1,h2=>by
  have:q=0:=by omega
  subst this;unfold Tk;simp
 | k+1,h1,h2=>by
  by_cases e:8*q<=k
  ·obtain⟨i1,i2⟩:=Tk_mid xs h q k e (by omega)
   have b:=bv_bd xs h k
   unfold Tk
   rw[if_pos (by omega),show (k+1 -8*q)*8=(k -8*q)*8+8 by omega,Int.pow_add,show k%8*8=(k -8*q)*8 by omega]
   have p:=Yt ((k -8*q)*8)
   generalize (2:Int)^((k -8*q)*8)=s at *
   have m1:0<=bv xs k*s:=Int.mul_nonneg b.1 (by omega)
   have m2:bv xs k*s<=255*s:=Int.mul_le_mul_of_nonneg_right (by omega) (by omega)
   have m3:s*2^8=256*s:=by rw[Int.mul_comm];rfl
   omega
  ·have e2:8*q=k+1:=by omega
   rw[Tk_lo xs q (k+1) (by omega),show k+1 -8*q=0 by omega];simp
theorem Tk_hi(xs:List Int)(q:Nat): ∀k,8*q+8<=k->Tk xs q k=Tk xs q (8*q+8)
 | 0,h=>by omega
 | k+1,h=>by
  by_cases e:8*q+8=k+1
  ·rw[e]
  ·have:=Tk_hi xs q k (by omega)
   show Tk xs q k+_=_
   rw[if_neg (by omega),this];omega
theorem Tk_W(xs:List Int)(h:Yf xs)(q k:Nat):W64 (Tk xs q k):=by
 by_cases h1:k<=8*q
 ·rw[Tk_lo xs q k h1];exact⟨by omega,by omega⟩
 ·by_cases h2:k<=8*q+8
  ·obtain⟨i1,i2⟩:=Tk_mid xs h q k (by omega) h2
   refine⟨i1,?_⟩
   have e:(18446744073709551616:Int)=2^((k -8*q)*8)*2^(64 -(k -8*q)*8):=by
    rw[<-Int.pow_add,show (k -8*q)*8+(64 -(k -8*q)*8)=64 by omega];rfl
   have p:=Yt (64 -(k -8*q)*8)
   have m:=Int.mul_le_mul_of_nonneg_left (show (1:Int)<=2^(64 -(k -8*q)*8) by omega) (Int.le_of_lt (Yt ((k -8*q)*8)))
   rw[e];omega
  ·rw[Tk_hi xs q k (by omega)]
   obtain⟨i1,i2⟩:=Tk_mid xs h q (8*q+8) (by omega) (by omega)
   refine⟨i1,?_⟩
   rw[show (8*q+8 -8*q)*8=64 by omega] at i2
   exact i2
theorem Tk_or(xs:List Int)(h:Yf xs)(k q:Nat)(hq:k/8=q):bits .or .u64 (Tk xs q k) (IntKind.u64.wrap (bv xs k*2^(k%8*8)))=Tk xs q (k+1):=by
 obtain⟨i1,i2⟩:=Tk_mid xs h q k (by omega) (by omega)
 rw[show (k -8*q)*8=k%8*8 by omega] at i2
 have b:=bv_bd xs h k
 have wn:=Tk_W xs h q (k+1)
 have e:Tk xs q (k+1)=Tk xs q k+bv xs k*2^(k%8*8):=by
  show Tk xs q k+_=_
  rw[if_pos hq]
 have m1:0<=bv xs k*2^(k%8*8):=Int.mul_nonneg b.1 (Int.le_of_lt (Yt _))
 rw[e] at wn⊢
 rw[IntKind.wrap_u64,Int.emod_eq_of_lt m1 (by have:=wn.2;omega)]
 exact or_int _ _ (k%8*8) ⟨i1,i2⟩ b.1 wn.2
theorem Xp(xs:List Int)(k q:Nat)(hq:k/8≠q):Tk xs q (k+1)=Tk xs q k:=by
 show Tk xs q k+_=_
 rw[if_neg hq];omega
def dv(xs:List Int)(p:Nat):Int:=xs.getD (xs.length -1 -p) 0
def Uk(xs:List Int)(q:Nat):Nat->Int
 | 0=>0
 | k+1=>Uk xs q k+if k/16=q then dv xs k*2^(k%16*4) else 0
def Digs(xs:List Int):Prop:= ∀x∈xs,0<=x/\x<16
theorem dv_bd(xs:List Int)(h:Digs xs)(p:Nat):0<=dv xs p/\dv xs p<16:=by
 unfold dv
 by_cases hl:xs.length -1 -p<xs.length
 ·rw[List.getD_eq_getElem?_getD,List.getElem?_eq_getElem hl,Option.getD_some];exact h _ (List.getElem_mem hl)
 ·rw[List.getD_eq_getElem?_getD,List.getElem?_eq_none (by omega)];simp
theorem Uk_lo(xs:List Int)(q:Nat): ∀k,k<=16*q->Uk xs q k=0
 | 0,_=>rfl
 | k+1,h=>by
  unfold Uk
  rw[Uk_lo xs q k (by omega),if_neg (by omega)];omega
theorem Uk_mid(xs:List Int)(h:Digs xs)(q:Nat): ∀k,16*q<=k->k<=16*q+16->0<=Uk xs q k/\Uk xs q k<2^((k -16*q)*4)
 | 0,h1,h2=>by
  have:q=0:=by omega
  subst this;unfold Uk;simp
 | k+1,h1,h2=>by
  by_cases e:16*q<=k
  ·obtain⟨i1,i2⟩:=Uk_mid xs h q k e (by omega)
   have b:=dv_bd xs h k
   unfold Uk
   rw[if_pos (by omega),show (k+1 -16*q)*4=(k -16*q)*4+4 by omega,Int.pow_add,show k%16*4=(k -16*q)*4 by omega]
   have p:=Yt ((k -16*q)*4)
   generalize (2:Int)^((k -16*q)*4)=s at *
   have m1:0<=dv xs k*s:=Int.mul_nonneg b.1 (by omega)
   have m2:dv xs k*s<=15*s:=Int.mul_le_mul_of_nonneg_right (by omega) (by omega)
   have m3:s*2^4=16*s:=by rw[Int.mul_comm];rfl
   omega
  ·have e2:16*q=k+1:=by omega
   rw[Uk_lo xs q (k+1) (by omega),show k+1 -16*q=0 by omega];simp
theorem Uk_hi(xs:List Int)(q:Nat): ∀k,16*q+16<=k->Uk xs q k=Uk xs q (16*q+16)
 | 0,h=>by omega
 | k+1,h=>by
  by_cases e:16*q+16=k+1
  ·rw[e]
  ·have:=Uk_hi xs q k (by omega)
   show Uk xs q k+_=_
   rw[if_neg (by omega),this];omega
theorem Uk_W(xs:List Int)(h:Digs xs)(q k:Nat):W64 (Uk xs q k):=by
 by_cases h1:k<=16*q
 ·rw[Uk_lo xs q k h1];exact⟨by omega,by omega⟩
 ·by_cases h2:k<=16*q+16
  ·obtain⟨i1,i2⟩:=Uk_mid xs h q k (by omega) h2
   refine⟨i1,?_⟩
   have e:(18446744073709551616:Int)=2^((k -16*q)*4)*2^(64 -(k -16*q)*4):=by
    rw[<-Int.pow_add,show (k -16*q)*4+(64 -(k -16*q)*4)=64 by omega];rfl
   have p:=Yt (64 -(k -16*q)*4)
   have m:=Int.mul_le_mul_of_nonneg_left (show (1:Int)<=2^(64 -(k -16*q)*4) by omega) (Int.le_of_lt (Yt ((k -16*q)*4)))
   rw[e];omega
  ·rw[Uk_hi xs q k (by omega)]
   obtain⟨i1,i2⟩:=Uk_mid xs h q (16*q+16) (by omega) (by omega)
   refine⟨i1,?_⟩
   rw[show (16*q+16 -16*q)*4=64 by omega] at i2
   exact i2
theorem Uk_or(xs:List Int)(h:Digs xs)(k q:Nat)(hq:k/16=q):bits .or .u64 (Uk xs q k) (IntKind.u64.wrap (dv xs k*2^(k%16*4)))=Uk xs q (k+1):=by
 obtain⟨i1,i2⟩:=Uk_mid xs h q k (by omega) (by omega)
 rw[show (k -16*q)*4=k%16*4 by omega] at i2
 have b:=dv_bd xs h k
 have wn:=Uk_W xs h q (k+1)
 have e:Uk xs q (k+1)=Uk xs q k+dv xs k*2^(k%16*4):=by
  show Uk xs q k+_=_
  rw[if_pos hq]
 have m1:0<=dv xs k*2^(k%16*4):=Int.mul_nonneg b.1 (Int.le_of_lt (Yt _))
 rw[e] at wn⊢
 rw[IntKind.wrap_u64,Int.emod_eq_of_lt m1 (by have:=wn.2;omega)]
 exact or_int _ _ (k%16*4) ⟨i1,i2⟩ b.1 wn.2
theorem Zj(xs:List Int)(k q:Nat)(hq:k/16≠q):Uk xs q (k+1)=Uk xs q k:=by
 show Uk xs q k+_=_
 rw[if_neg hq];omega
theorem Uk_mono(xs:List Int)(h:Digs xs)(q:Nat): ∀k n,k<=n->Uk xs q k<=Uk xs q n
 | k,0,hk=>by
  have:k=0:=by omega
  subst this;exact Int.le_refl _
 | k,n+1,hk=>by
  by_cases e:k=n+1
  ·subst e;exact Int.le_refl _
  ·have i:=Uk_mono xs h q k n (by omega)
   have b:=dv_bd xs h n
   have m:0<=dv xs n*2^(n%16*4):=Int.mul_nonneg b.1 (Int.le_of_lt (Yt _))
   show Uk xs q k<=Uk xs q n+_
   split<;>omega
theorem Tj(xs:List Int)(h:Digs xs)(k n q:Nat)(hk:k<n)(hq:k/16=q):IntKind.u64.wrap (Uk xs q n -Uk xs q (k+1)+dv xs k*2^(k%16*4))=Uk xs q n -Uk xs q k:=by
 have e:Uk xs q (k+1)=Uk xs q k+dv xs k*2^(k%16*4):=by
  show Uk xs q k+_=_
  rw[if_pos hq]
 have m:=Uk_mono xs h q k n (by omega)
 have z:=Uk_mono xs h q 0 k (by omega)
 have wn:=Uk_W xs h q n
 have z0:Uk xs q 0=0:=rfl
 rw[IntKind.wrap_u64,e,show Uk xs q n -(Uk xs q k+dv xs k*2^(k%16*4))+dv xs k*2^(k%16*4)=Uk xs q n -Uk xs q k by omega]
 exact Int.emod_eq_of_lt (by omega) (by have:=wn.2;omega)
end
section
open Go.RowKit
def ixv(c:Int):Int:=if 48<=c/\c<=57 then c -48 else if 97<=c/\c<=102 then c -87 else -1
theorem ixv_bd(c:Int): -1<=ixv c/\ixv c<16:=by unfold ixv;split<;>(try split)<;>omega
theorem find_ix: ∀n:Nat,n<256->(match (List.range (ByteArray.mk #[48,49,50,51,52,53,54,55,56,57,97,98,99,100,101,102]).size).find? fun i=>(ByteArray.mk #[48,49,50,51,52,53,54,55,56,57,97,98,99,100,101,102])[i]! ==n.toUInt8 with | some i=>(i:Int) | none=>(-1:Int))=ixv (n:Int):=by decide+kernel
theorem ext_ix(c:Int)(h0:0<=c)(h1:c<256)(w:World):(callFunc 127 #[.string (ByteArray.mk #[48,49,50,51,52,53,54,55,56,57,97,98,99,100,101,102]),.int .u8 c]).run Tryz.prog w= .ok (.value (iI (ixv c))) w:=by
 rw[run_callFunc_indexByte (f:=127) (fn:=Tryz.f127) (by kernel_rfl) (by kernel_rfl) (by kernel_rfl) (by kernel_rfl) (by kernel_rfl)]
 have k:=find_ix c.toNat (by omega)
 rw[show ((c.toNat:Nat):Int)=c by omega] at k
 show (Sem.run Tryz.prog (match (List.range (ByteArray.mk #[48,49,50,51,52,53,54,55,56,57,97,98,99,100,101,102]).size).find? fun i=>(ByteArray.mk #[48,49,50,51,52,53,54,55,56,57,97,98,99,100,101,102])[i]! ==c.toNat.toUInt8 with | some i=>pure (goInt i) | none=>pure (goInt (-1))) w).andThen _=_
 revert k
 generalize List.find? _ _=r
 intro k
 cases r with
 | none=>rw[<-k];rfl
 | some i=>rw[<-k];rfl
theorem liteIx(c:Int)(h0:0<=c)(h1:c<256)(w:World):Calls Tryz.prog 117 #[.string (ByteArray.mk #[48,49,50,51,52,53,54,55,56,57,97,98,99,100,101,102]),.int .u8 c] w fun e w'=>e= .returned (iI (ixv c))/\w'=w:=by
 have k:=fun W=>ext_ix c h0 h1 W
 generalize ixv c=v at *
 go_enter Tryz.func117,Tryz.ntmps117
 go_wp2
 go_ret
 exact⟨rfl,rfl⟩
theorem V3(c:Int)(h0:0<=c)(h1:c<256)(w:World):Calls Tryz.prog 95 #[.string (ByteArray.mk #[48,49,50,51,52,53,54,55,56,57,97,98,99,100,101,102]),.int .u8 c] w fun e w'=>e= .returned (iI (ixv c))/\w'=w:=by
 go_enter Tryz.func95,Tryz.ntmps95
 go_wp2_with fail
 refine(liteIx c h0 h1 _).mono ?_
 rintro e w' ⟨rfl,rfl⟩
 go_wp2
 go_ret
 exact⟨rfl,rfl⟩
theorem str_ix(cs:List Int)(hb:Yf cs)(j:Nat)(hj:j<cs.length)(W:World):(Instr.index 9 (.string (strOfNums cs)) (iI j)).run Tryz.prog W= .ok (.int .u8 (cs.getD j 0)) W:=by
 have hx:=hb (cs[j]) (List.getElem_mem hj)
 have hs:(strOfNums cs).size=cs.length:=strOfNums_size cs
 have hd:(strOfNums cs).data.toList=cs.map fun n=>UInt8.ofNat n.toNat:=strOfNums_data cs
 have hg: ∀h,((strOfNums cs)[j]'h).toNat=(cs[j]).toNat:=fun h=>by
  show (((strOfNums cs).data[j]'_).toNat)=_
  simp only[<-Array.getElem_toList,hd,List.getElem_map]
  simp;omega
 simp[Instr.index,go_sem,Tryz.underlying9,hs,hj]
 rw[hg];simp[List.getElem?_eq_getElem hj];omega
def isT(cs:List Int):Bool:=!(cs.length==0)&&!(cs.getD 0 0==48&&decide (1<cs.length))&&cs.all fun c=>decide (0<=ixv c)
theorem isT_all{cs:List Int}{k:Nat}(h: ∀j,j<k->0<=ixv (cs.getD j 0))(hk:cs.length=k):(cs.all fun c=>decide (0<=ixv c))=true:=by
 rw[List.all_eq_true];intro x hx
 obtain⟨j,hj,rfl⟩:=List.mem_iff_getElem.1 hx
 have:=h j (by omega)
 simpa [List.getElem?_eq_getElem hj] using this
theorem isT_not{cs:List Int}{k:Nat}(hk:k<cs.length)(h:ixv (cs.getD k 0)<0):isT cs=false:=by
 have:(cs.all fun c=>decide (0<=ixv c))=false:=by
  rw[List.all_eq_false]
  refine⟨cs[k],List.getElem_mem hk,?_⟩
  simp[List.getElem?_eq_getElem hk] at h
  simp;omega
 unfold isT;rw[this];simp
theorem Uw(cs:List Int)(hb:Yf cs)(hn:cs.length<=200)(w:World):Calls Tryz.prog 94 #[.string (strOfNums cs)] w fun e w'=>e= .returned (.bool (isT cs))/\w'=w:=by
 by_cases h0:cs.length=0
 ·have e:cs=[]:=List.eq_nil_of_length_eq_zero h0
  subst e
  go_enter Tryz.func94,Tryz.ntmps94
  have e0:strOfNums []=ByteArray.mk #[]:=rfl
  rw[e0]
  go_wp2
  go_ret
  exact⟨rfl,rfl⟩
 ·have k0: ∀W,(Instr.index 9 (.string (strOfNums cs)) (iI 0)).run Tryz.prog W= .ok (.int .u8 (cs.getD 0 0)) W:=fun W=>str_ix cs hb 0 (by omega) W
  have hS:(strOfNums cs).size=cs.length:=strOfNums_size cs
  have hix: ∀j,j<cs.length-> ∀W,(Instr.index 9 (.string (strOfNums cs)) (iI j)).run Tryz.prog W= .ok (.int .u8 (cs.getD j 0)) W:=fun j hj W=>str_ix cs hb j hj W
  have hbd: ∀j,0<=cs.getD j 0/\cs.getD j 0<256:=fun j=>by
   by_cases hj:j<cs.length
   ·have:=hb cs[j] (List.getElem_mem hj);simpa [List.getElem?_eq_getElem hj] using this
   ·simp[List.getElem?_eq_none (show cs.length<=j by omega)]
  have hne:(strOfNums cs).toList.isEmpty=false:=by
   rw[<-decide_eq_emptyBytes,decide_eq_false_iff_not]
   intro e
   have:=congrArg ByteArray.size e;rw[hS] at this;exact h0 this
  obtain⟨n,en⟩: ∃n,cs.length=n:=⟨_,rfl⟩
  obtain⟨S,eS⟩: ∃S,strOfNums cs=S:=⟨_,rfl⟩
  obtain⟨c0,e0⟩: ∃c,cs.getD 0 0=c:=⟨_,rfl⟩
  rw[eS,e0] at k0
  rw[eS] at hne hS⊢
  rw[en] at hS hix
  simp only[eS] at hix
  have EN:Hid _:=en
  have E0:Hid _:=e0
  have HIX:Hid _:=hix
  have HBD:Hid _:=hbd
  rw[en] at h0 hn
  clear en e0 eS hix hbd
  by_cases h1:c0=48
  ·subst h1
   by_cases h2:1<n
   ·have h2':(1:Int)<n:=by omega
    go_enter Tryz.func94,Tryz.ntmps94
    go_wp2
    go_ret
    refine⟨?_,rfl⟩
    have:isT cs=false:=by unfold isT;rw[E0.out,EN.out];simp[h2]
    rw[this];rfl
   ·have h2': ¬(1:Int)<n:=by omega
    go_enter Tryz.func94,Tryz.ntmps94
    go_wp2
    go_loop [18] (fun vi=> ∃k:Nat,k<=n/\vi=iI k/\Hid (∀j,j<k->0<=ixv (cs.getD j 0))) (fun vi=>n -(intOf vi).toNat)
    case atStart=>exact⟨0,by omega,rfl,fun j hj=>by omega⟩
    case round=>
     obtain⟨k,hk,rfl,HK⟩:=hrel
     by_cases hlt:k<n
     ·have hlt':(k:Int)<n:=by omega
      have k1:=HIX.out k hlt
      have kb:=HBD.out k
      have HC:Hid _:=fun(h:ixv (cs.getD k 0)<0)=>isT_not (show k<cs.length by rw[EN.out];exact hlt) h
      have HS:Hid _:=fun(h:0<=ixv (cs.getD k 0))=>(fun j (hj:j<k+1)=>(by
       by_cases e:j=k
       ·subst e;exact h
       ·exact HK.out j (by omega)): ∀j,j<k+1->0<=ixv (cs.getD j 0))
      generalize cs.getD k 0=c at *
      have kx:=fun W=>V3 c kb.1 kb.2 W
      generalize ixv c=v at *
      go_wp2_with fail
      refine(kx _).mono ?_
      rintro e w' ⟨rfl,rfl⟩
      by_cases hv:v<0
      ·go_wp2
       go_ret
       refine⟨?_,rfl⟩
       rw[HC.out hv];rfl
      ·go_wp2
       exact⟨⟨k+1,by omega,by go_num,HS.out (by omega)⟩,by simp[intOf];omega⟩
     ·have hkn:k=n:=by omega
      subst hkn
      go_wp2
      go_ret
      refine⟨?_,rfl⟩
      have ha:=isT_all HK.out EN.out
      have:isT cs=true:=by unfold isT;rw[ha,E0.out,EN.out];simp[h0,h2]
      rw[this];rfl
  ·go_enter Tryz.func94,Tryz.ntmps94
   go_wp2
   go_loop [18] (fun vi=> ∃k:Nat,k<=n/\vi=iI k/\Hid (∀j,j<k->0<=ixv (cs.getD j 0))) (fun vi=>n -(intOf vi).toNat)
   case atStart=>exact⟨0,by omega,rfl,fun j hj=>by omega⟩
   case round=>
    obtain⟨k,hk,rfl,HK⟩:=hrel
    by_cases hlt:k<n
    ·have hlt':(k:Int)<n:=by omega
     have k1:=HIX.out k hlt
     have kb:=HBD.out k
     have HC:Hid _:=fun(h:ixv (cs.getD k 0)<0)=>isT_not (show k<cs.length by rw[EN.out];exact hlt) h
     have HS:Hid _:=fun(h:0<=ixv (cs.getD k 0))=>(fun j (hj:j<k+1)=>(by
      by_cases e:j=k
      ·subst e;exact h
      ·exact HK.out j (by omega)): ∀j,j<k+1->0<=ixv (cs.getD j 0))
     generalize cs.getD k 0=c at *
     have kx:=fun W=>V3 c kb.1 kb.2 W
     generalize ixv c=v at *
     go_wp2_with fail
     refine(kx _).mono ?_
     rintro e w' ⟨rfl,rfl⟩
     by_cases hv:v<0
     ·go_wp2
      go_ret
      refine⟨?_,rfl⟩
      rw[HC.out hv];rfl
     ·go_wp2
      exact⟨⟨k+1,by omega,by go_num,HS.out (by omega)⟩,by simp[intOf];omega⟩
    ·have hkn:k=n:=by omega
     subst hkn
     go_wp2
     go_ret
     refine⟨?_,rfl⟩
     have ha:=isT_all HK.out EN.out
     have:isT cs=true:=by unfold isT;rw[ha,E0.out,EN.out];simp[h0,h1]
     rw[this];rfl
theorem isT_digs{cs:List Int}(h:isT cs=true):Digs (cs.map ixv):=fun x hx=>by
 obtain⟨c,hc,rfl⟩:=List.mem_map.1 hx
 unfold isT at h
 simp only[Bool.and_eq_true,List.all_eq_true,decide_eq_true_eq] at h
 exact⟨h.2 c hc,(ixv_bd c).2⟩
theorem Parse_bad(cs:List Int)(hb:Yf cs)(hn:cs.length<=200)(h:isT cs=false)(w:World):
 CC 66 #[.string (strOfNums cs)] w (.tuple #[A4 0 0 0 0,iI 2]):=by
 have kt:=fun W=>Uw cs hb hn W
 rw[h] at kt
 generalize strOfNums cs=S at *
 go_enter Tryz.func66,Tryz.ntmps66
 go_wp2_with fail
 refine(kt _).mono ?_
 rintro e w' ⟨rfl,rfl⟩
 go_wp2
 refine bodyPost_ret (v:= .tuple #[A4 0 0 0 0,iI 2]) (by simp[results,Tryz.results66,go_sem]) rfl ⟨rfl,?_⟩
 iterate 6 all_goals (go_grown<;>try with_reducible refine below_drewN ?_ _)
theorem Parse_long(cs:List Int)(hb:Yf cs)(hn:cs.length<=200)(h:isT cs=true)(hl:64<cs.length)(w:World):
 CC 66 #[.string (strOfNums cs)] w (.tuple #[A4 0 0 0 0,iI 3]):=by
 have kt:=fun W=>Uw cs hb hn W
 rw[h] at kt
 have hS:(strOfNums cs).size=cs.length:=strOfNums_size cs
 generalize strOfNums cs=S at *
 have hl':(64:Int)<cs.length:=by omega
 generalize cs.length=n at *
 go_enter Tryz.func66,Tryz.ntmps66
 go_wp2_with fail
 refine(kt _).mono ?_
 rintro e w' ⟨rfl,rfl⟩
 go_wp2
 refine bodyPost_ret (v:= .tuple #[A4 0 0 0 0,iI 3]) (by simp[results,Tryz.results66,go_sem]) rfl ⟨rfl,?_⟩
 iterate 6 all_goals (go_grown<;>try with_reducible refine below_drewN ?_ _)
theorem Parse_any(cs ds:List Int)(hds:ds=cs.map ixv)(hb:Yf cs)(h:isT cs=true)(hn:cs.length<=64)(w:World):
 CC 66 #[.string (strOfNums cs)] w (.tuple #[A4 (Uk ds 0 cs.length) (Uk ds 1 cs.length) (Uk ds 2 cs.length) (Uk ds 3 cs.length),iI 0]):=by
 have kt:=fun W=>Uw cs hb (by omega) W
 rw[h] at kt
 have hS:(strOfNums cs).size=cs.length:=strOfNums_size cs
 have hD:Digs ds:=by rw[hds];exact isT_digs h
 have hstep: ∀k,k<cs.length-> ∃c,0<=c/\c<256/\ixv c=dv ds k/\0<=dv ds k/\dv ds k<16/\ ∀W,(Instr.index 9 (.string (strOfNums cs)) (iI ((cs.length:Int) -1 -k))).run Tryz.prog W= .ok (.int .u8 c) W:=fun k hk=>by
  have hj:cs.length -1 -k<cs.length:=by omega
  have hx:=hb cs[cs.length -1 -k] (List.getElem_mem hj)
  refine⟨cs[cs.length -1 -k],hx.1,hx.2,?_,(dv_bd ds hD k).1,(dv_bd ds hD k).2,fun W=>?_⟩
  ·unfold dv;rw[hds];simp[List.getElem?_eq_getElem hj]
  ·have:=str_ix cs hb (cs.length -1 -k) hj W
   rw[show ((cs.length -1 -k:Nat):Int)=(cs.length:Int) -1 -k by omega] at this
   rw[this];simp[List.getElem?_eq_getElem hj]
 have hd2:=hds
 clear hds hb h
 generalize strOfNums cs=S at *
 obtain⟨n,en⟩: ∃n,cs.length=n:=⟨_,rfl⟩
 rw[en] at hS hn hstep⊢
 have HST:Hid _:=hstep
 have HD:Hid _:=hD
 clear en hstep hd2 hD
 have hn': ¬(64:Int)<(n:Int):=by omega
 have hn2:(n:Int)<=64:=by omega
 go_enter Tryz.func66,Tryz.ntmps66
 go_wp2_with fail
 refine(kt _).mono ?_
 rintro e w' ⟨rfl,rfl⟩
 clear kt
 go_wp2
 go_loopw [17] (fun i wr=> ∃k:Nat,k<=n/\i=iI k/\Bw w wr/\w.heap.size+1<wr.heap.size/\C4 wr w.heap.size 0 0 0 0/\C4 wr (w.heap.size+1) (Uk ds 0 k) (Uk ds 1 k) (Uk ds 2 k) (Uk ds 3 k)) (fun i _=>n -(intOf i).toNat)
 case atStart=>
  refine⟨0,by omega,rfl,?_,by simp,by unfold C4;simp[go_sem],by unfold C4;simp[go_sem,Uk]⟩
  iterate 6 all_goals (go_grown<;>try with_reducible refine below_drewN ?_ _)
 case round=>
  obtain⟨k,hk,rfl,hB,hs,hR,hA⟩:=hrel
  by_cases hlt:k<n
  ·have hlt':(k:Int)<(n:Int):=by omega
   have hA':=hA
   obtain⟨⟨ac0,ac1,ac2,ac3⟩,af0,af1,af2,af3⟩:=hA'
   obtain⟨c,c0,c1,ec,d0,d1,hc⟩:=HST.out k hlt
   have kx:=fun W=>V3 c c0 c1 W
   rw[ec] at kx
   have T0:Hid _:=fun hq=>Uk_or ds HD.out k 0 hq
   have T1:Hid _:=fun hq=>Uk_or ds HD.out k 1 hq
   have T2:Hid _:=fun hq=>Uk_or ds HD.out k 2 hq
   have T3:Hid _:=fun hq=>Uk_or ds HD.out k 3 hq
   obtain⟨x,ex⟩: ∃x,dv ds k=x:=⟨_,rfl⟩
   rw[ex] at d0 d1
   simp only[ex] at kx
   have EX:Hid _:=ex
   have kw:IntKind.u64.wrap x=x:=by rw[IntKind.wrap_u64];omega
   clear ec ex
   have hq:k/16=0\/k/16=1\/k/16=2\/k/16=3:=by omega
   rcases hq with hq | hq | hq | hq
   ·have hq':(k:Int)/16=0:=by omega
    have HQ:Hid _:=hq
    clear hq
    generalize wr=u at *
    go_wp2_with fail
    refine(kx _).mono ?_
    rintro en w' ⟨rfl,rfl⟩
    go_wp2
    go_region
    go_wp2
    refine⟨⟨k+1,by omega,by go_num,?_,by simpa using hs,hR.other _ (by simp<;>omega) _,?_⟩,by simp[intOf];omega⟩
    ·iterate 6 all_goals (go_grown<;>try with_reducible refine below_drewN ?_ _)
    ·have ht:=T0.out HQ.out
     rw[EX.out] at ht
     have hf:=HQ.out
     rw[<-ht,Zj ds k 1 (by omega),Zj ds k 2 (by omega),Zj ds k 3 (by omega)]
     exact(hA.set0 _)
   ·have hq':(k:Int)/16=1:=by omega
    have HQ:Hid _:=hq
    clear hq
    generalize wr=u at *
    go_wp2_with fail
    refine(kx _).mono ?_
    rintro en w' ⟨rfl,rfl⟩
    go_wp2
    go_region
    go_wp2
    refine⟨⟨k+1,by omega,by go_num,?_,by simpa using hs,hR.other _ (by simp<;>omega) _,?_⟩,by simp[intOf];omega⟩
    ·iterate 6 all_goals (go_grown<;>try with_reducible refine below_drewN ?_ _)
    ·have ht:=T1.out HQ.out
     rw[EX.out] at ht
     have hf:=HQ.out
     rw[<-ht,Zj ds k 0 (by omega),Zj ds k 2 (by omega),Zj ds k 3 (by omega)]
     exact(hA.set1 _)
   ·have hq':(k:Int)/16=2:=by omega
    have HQ:Hid _:=hq
    clear hq
    generalize wr=u at *
    go_wp2_with fail
    refine(kx _).mono ?_
    rintro en w' ⟨rfl,rfl⟩
    go_wp2
    go_region
    go_wp2
    refine⟨⟨k+1,by omega,by go_num,?_,by simpa using hs,hR.other _ (by simp<;>omega) _,?_⟩,by simp[intOf];omega⟩
    ·iterate 6 all_goals (go_grown<;>try with_reducible refine below_drewN ?_ _)
    ·have ht:=T2.out HQ.out
     rw[EX.out] at ht
     have hf:=HQ.out
     rw[<-ht,Zj ds k 0 (by omega),Zj ds k 1 (by omega),Zj ds k 3 (by omega)]
     exact(hA.set2 _)
   ·have hq':(k:Int)/16=3:=by omega
    have HQ:Hid _:=hq
    clear hq
    generalize wr=u at *
    go_wp2_with fail
    refine(kx _).mono ?_
    rintro en w' ⟨rfl,rfl⟩
    go_wp2
    go_region
    go_wp2
    refine⟨⟨k+1,by omega,by go_num,?_,by simpa using hs,hR.other _ (by simp<;>omega) _,?_⟩,by simp[intOf];omega⟩
    ·iterate 6 all_goals (go_grown<;>try with_reducible refine below_drewN ?_ _)
    ·have ht:=T3.out HQ.out
     rw[EX.out] at ht
     have hf:=HQ.out
     rw[<-ht,Zj ds k 0 (by omega),Zj ds k 1 (by omega),Zj ds k 2 (by omega)]
     exact(hA.set3 _)
  ·have hkn:k=n:=by omega
   subst hkn
   obtain⟨⟨ac0,ac1,ac2,ac3⟩,_⟩:=hA
   obtain⟨⟨rc0,rc1,rc2,rc3⟩,rf0,rf1,rf2,rf3⟩:=hR
   have y0:w.heap.size<wr.heap.size:=by omega
   go_wp2
   refine bodyPost_ret (v:= .tuple #[A4 (Uk ds 0 k) (Uk ds 1 k) (Uk ds 2 k) (Uk ds 3 k),iI 0]) (by simp[results,Tryz.results66,go_sem, *]) rfl ⟨rfl,?_⟩
   iterate 6 all_goals (go_grown<;>try with_reducible refine below_drewN ?_ _)
end
end Go.Proofs.YtdhlekdohebbbaaGreatDoor
