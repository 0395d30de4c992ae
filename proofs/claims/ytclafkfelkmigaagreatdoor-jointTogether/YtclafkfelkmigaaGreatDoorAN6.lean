import Derived.Test.YtclafkfelkmigaaGreatDoorAKP
namespace Go.Proofs.YtclafkfelkmigaaGreatDoor
set_option linter.unusedVariables false
set_option linter.unusedSimpArgs false
set_option maxRecDepth 100000
set_option maxHeartbeats 4000000
open Go.RowKit
def tMem:ByteArray:=⟨#[109,101,109,98,101,114]⟩
def dgM(p:Int)(bs:List Nat)(i:Nat):Int:=dgN ([0,0,0,0,0,0,0,i]++bs) tMem p
def sqM(p:Int)(bs:List Nat)(i:Nat):Int:=dgM p bs i*dgM p bs i%p
def meF(f:Nat->Int)(i:Nat):Nat->Int
 | 0=>1
 | k+1=>if 1<f i then f i else meF f (i+1) k
def meN(p:Int)(bs:List Nat):Int:=meF (sqM p bs) 0 64
theorem meF_hit{f:Nat->Int}: ∀(k s i:Nat),i<k->(∀j,j<i->f (s+j)<=1)->1<f (s+i)->meF f s k=f (s+i)
 | 0,s,i,h,_,_=>absurd h (by omega)
 | k+1,s,0,_,_,h2=>by rw[Nat.add_zero] at h2;rw[meF,if_pos h2];rfl
 | k+1,s,i+1,h,h1,h2=>by
  have h0:=h1 0 (by omega)
  rw[Nat.add_zero] at h0
  rw[meF,if_neg (by omega),meF_hit k (s+1) i (by omega) (fun j hj=>by have:=h1 (j+1) (by omega);rwa [show s+1+j=s+(j+1) by omega]) (by rwa [show s+1+i=s+(i+1) by omega])]
  rw[show s+1+i=s+(i+1) by omega]
theorem meF_none{f:Nat->Int}: ∀(k s:Nat),(∀j,j<k->f (s+j)<=1)->meF f s k=1
 | 0,s,_=>rfl
 | k+1,s,h1=>by
  have h0:=h1 0 (by omega)
  rw[Nat.add_zero] at h0
  rw[meF,if_neg (by omega)]
  exact meF_none k (s+1) (fun j hj=>by have:=h1 (j+1) (by omega);rwa [show s+1+j=s+(j+1) by omega])
theorem xMemberK(p q g h:Int)(bs:List Nat)(v:Value)(w:World)(hp:In p)(hq:In q)(hin:IN w w.heap.size v bs)(hb: ∀x∈bs,x<256)(hl:bs.length<=900)(hg:gOk p q):
 CC 44 #[GX p q g h,v] w (.tuple #[NV (meN p bs),iI 0]):=by
 have hw:0<w.heap.size:=by obtain⟨_,_,gb,_,_,_,_,h4,_⟩:=hin;omega
 have hC:=fun u=>Uj p q g h u hp hq hg
 have h7:=hg.2
 have hp0:p≠0:=by omega
 refine xMember_core p q g h (meN p bs) bs v (dgM p bs) (sqM p bs) (fun k=>cmpI (sqM p bs k) 1) w hin (by omega) hC (fun k u y hk hB hy=>?_) (fun k u hk=>xMul _ _ p u (Zg hp hp0) (Zg hp hp0) hp hp0) (fun k u hk=>nrCompare _ 1 u (Zg hp hp0) In_1) (fun k hk=>?_) (fun k hk hn hy=>?_) (fun hn=>?_)
 ·exact xDigest _ y _ p u hp hp0 hy (fun x hx=>by
   rcases List.mem_append.1 hx with h | h
   ·simp at h;omega
   ·exact hb x h) (by rw[List.length_append];simp;omega) (by decide)
 ·unfold cmpI;(repeat' split)<;>omega
 ·have:=meF_hit (f:=sqM p bs) 64 0 k hk (fun j hj=>by rw[Nat.zero_add];exact hn j hj) (by rw[Nat.zero_add];exact hy)
  rw[Nat.zero_add] at this;exact this.symm
 ·exact meF_none (f:=sqM p bs) 64 0 (fun j hj=>by rw[Nat.zero_add];exact hn j hj)
end Go.Proofs.YtclafkfelkmigaaGreatDoor
