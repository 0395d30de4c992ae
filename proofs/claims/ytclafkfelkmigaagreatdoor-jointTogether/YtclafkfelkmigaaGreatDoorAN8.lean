import Derived.Test.YtclafkfelkmigaaGreatDoorAN6
namespace Go.Proofs.YtclafkfelkmigaaGreatDoor
set_option linter.unusedVariables false
set_option linter.unusedSimpArgs false
set_option maxRecDepth 100000
set_option maxHeartbeats 4000000
section
theorem sq_Mb{p q x:Int}(hp:Pr p.toNat)(hg:gOk p q)(h:x%p≠0):Mb p q (x*x%p):=by
 have h7:=hg.2
 have h2:=hg.1
 refine Mb.of hg ?_
 have ha0:=Int.emod_nonneg x (show p≠0 by omega)
 have ha1:=Int.emod_lt_of_pos x (show 0<p by omega)
 have e0:(x*x)^q.toNat%p=(x%p)^(p.toNat -1)%p:=by
  rw[show p.toNat -1=2*q.toNat by omega,Int.pow_mul,<-Wh (x*x),<-Wh ((x%p)^2),Int.pow_succ,Int.pow_succ,Int.pow_zero,Int.one_mul,<-Int.mul_emod]
 rw[e0]
 obtain⟨a,ea⟩: ∃a:Nat,x%p=(a:Int):=⟨(x%p).toNat,by omega⟩
 rw[ea] at h ha1⊢
 have hb: ¬p.toNat∣a:=fun hd=>by have:=Nat.le_of_dvd (by omega) hd;omega
 have hf:=hp.fermat hb
 have hf2:((a^(p.toNat -1)%p.toNat:Nat):Int)=1:=by rw[hf];rfl
 rw[Int.natCast_emod,Int.natCast_pow,Int.toNat_of_nonneg (by omega)] at hf2
 exact hf2
theorem one_Mb{p q:Int}(hg:gOk p q):Mb p q 1:=by
 have h7:=hg.2
 exact⟨by omega,by omega,by rw[Int.one_pow];exact one_mod (by omega)⟩
theorem meF_is{f:Nat->Int}: ∀(k s:Nat),meF f s k=1\/ ∃i,meF f s k=f i/\1<f i
 | 0,s=>.inl rfl
 | k+1,s=>by
  rw[meF]
  by_cases h:1<f s
  ·rw[if_pos h];exact .inr ⟨s,rfl,h⟩
  ·rw[if_neg h];exact meF_is k (s+1)
theorem meN_Mb{p q:Int}(hp:Pr p.toNat)(hg:gOk p q)(bs:List Nat):Mb p q (meN p bs):=by
 unfold meN
 rcases meF_is (f:=sqM p bs) 64 0 with h | ⟨i,h,h1⟩
 ·rw[h];exact one_Mb hg
 ·rw[h]
  unfold sqM at h1⊢
  refine sq_Mb hp hg fun e=>?_
  rw[Int.mul_emod,e,Int.mul_zero,Int.zero_emod] at h1
  omega
abbrev P0:Int:=1162079267
abbrev Q0:Int:=581039633
theorem Ww:gOk P0 Q0:=⟨by decide,by decide⟩
theorem is_4(hp:Pr P0.toNat):Mb P0 Q0 4:=sq_Mb (x:=2) hp Ww (by decide)
def Bytes8(xs:List Int):Prop:= ∀x∈xs,0<=x/\x<256
def dv(xs:List Int)(p:Nat):Int:=xs.getD (xs.length -1 -p) 0
end
section
open Go.RowKit
def ixv(c:Int):Int:=if 48<=c/\c<=57 then c -48 else if 97<=c/\c<=102 then c -87 else -1
theorem str_ix(cs:List Int)(hb:Bytes8 cs)(j:Nat)(hj:j<cs.length)(W:World):(Instr.index 9 (.string (strOfNums cs)) (iI j)).run Tryz.prog W= .ok (.int .u8 (cs.getD j 0)) W:=by
 have hx:=hb (cs[j]) (List.getElem_mem hj)
 have hs:(strOfNums cs).size=cs.length:=strOfNums_size cs
 have hd:(strOfNums cs).data.toList=cs.map fun n=>UInt8.ofNat n.toNat:=strOfNums_data cs
 have hg: ∀h,((strOfNums cs)[j]'h).toNat=(cs[j]).toNat:=fun h=>by
  show (((strOfNums cs).data[j]'_).toNat)=_
  simp only[<-Array.getElem_toList,hd,List.getElem_map]
  simp;omega
 simp[Instr.index,go_sem,Tryz.underlying9,hs,hj]
 rw[hg];simp[List.getElem?_eq_getElem hj];omega
end
end Go.Proofs.YtclafkfelkmigaaGreatDoor
