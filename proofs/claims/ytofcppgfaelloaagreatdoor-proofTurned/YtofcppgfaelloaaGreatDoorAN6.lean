import Derived.Test.YtofcppgfaelloaaGreatDoorAN2
namespace Go.Proofs.YtofcppgfaelloaaGreatDoor
set_option linter.unusedVariables false
set_option linter.unusedSimpArgs false
set_option maxRecDepth 100000
set_option maxHeartbeats 4000000
open Go.RowKit
def tMem:ByteArray:=⟨#[109,101,109,98,101,114]⟩
def tSca:ByteArray:=⟨#[115,99,97,108,97,114]⟩
def dgM (p:Int) (bs:List Nat) (i:Nat):Int:=dgN ([0,0,0,0,0,0,0,i]++bs) tMem p
def sqM (p:Int) (bs:List Nat) (i:Nat):Int:=dgM p bs i*dgM p bs i%p
def meF (f:Nat->Int) (i:Nat):Nat->Int
 | 0=>1
 | k+1=>if 1<f i then f i else meF f (i+1) k
def meN (p:Int) (bs:List Nat):Int:=meF (sqM p bs) 0 64
def meX (p q:Int) (bs:List Nat):Int:=if gOk p q then meN p bs else 0
def scX (p q:Int) (bs:List Nat):Int:=if gOk p q then dgN bs tSca q else 0
theorem meF_hit {f:Nat->Int}: ∀(k s i:Nat),i<k->(∀j,j<i->f (s+j)<=1)->1<f (s+i)->meF f s k=f (s+i)
 | 0,s,i,h,_,_=>absurd h (by omega)
 | k+1,s,0,_,_,h2=>by rw[Nat.add_zero] at h2;rw[meF,if_pos h2];rfl
 | k+1,s,i+1,h,h1,h2=>by
  have h0:=h1 0 (by omega)
  rw[Nat.add_zero] at h0
  rw[meF,if_neg (by omega),meF_hit k (s+1) i (by omega) (fun j hj=>by have:=h1 (j+1) (by omega);rwa [show s+1+j=s+(j+1) by omega]) (by rwa [show s+1+i=s+(i+1) by omega])]
  rw[show s+1+i=s+(i+1) by omega]
theorem meF_none {f:Nat->Int}: ∀(k s:Nat),(∀j,j<k->f (s+j)<=1)->meF f s k=1
 | 0,s,_=>rfl
 | k+1,s,h1=>by
  have h0:=h1 0 (by omega)
  rw[Nat.add_zero] at h0
  rw[meF,if_neg (by omega)]
  exact meF_none k (s+1) (fun j hj=>by have:=h1 (j+1) (by omega);rwa [show s+1+j=s+(j+1) by omega])
theorem xMember_bad (p q g h:Int) (vb:Value) (w:World) (hvb: ∃sl n c,vb= .slice sl n c) (hC:Hid (∀u,CC 41 #[GX p q g h] u (iI 90))):
 CC 18 #[GX p q g h,vb] w (.tuple #[A4 0 0 0 0,iI 90]):=by
 obtain⟨sl,nn,cc,rfl⟩:=hvb
 obtain⟨w0,ew0⟩: ∃x,(w.alloc (.cells (GE p q g h).toArray 26)).alloc (.cells Z4.toArray 24)=x:=⟨_,rfl⟩
 have hB0:Bw w w0:=by rw[<-ew0];exact Z2 (Z2 (Zm w) _) _
 have hs0:w0.heap.size=w.heap.size+2:=by rw[<-ew0];simp
 have hG0:CV w0 w.heap.size (GE p q g h):=by
  rw[<-ew0];exact(CV.new w (GE p q g h) 26).below (Z2 (Zm _) _) (by simp)
 have hZ0:CV w0 (w.heap.size+1) Z4:=by
  rw[<-ew0]
  have:=CV.new (w.alloc (.cells (GE p q g h).toArray 26)) Z4 24
  simpa using this
 have hCw:=hC.out w0
 have g0:=(hG0 0 _ rfl).1
 have g1:=(hG0 1 _ rfl).1
 have g2:=(hG0 2 _ rfl).1
 have g3:=(hG0 3 _ rfl).1
 have g4:=(hG0 4 _ rfl).1
 have g5:=(hG0 5 _ rfl).1
 have g6:=(hG0 6 _ rfl).1
 have g7:=(hG0 7 _ rfl).1
 have g8:=(hG0 8 _ rfl).1
 have g9:=(hG0 9 _ rfl).1
 have g10:=(hG0 10 _ rfl).1
 have g11:=(hG0 11 _ rfl).1
 have g12:=(hG0 12 _ rfl).1
 have g13:=(hG0 13 _ rfl).1
 have g14:=(hG0 14 _ rfl).1
 have g15:=(hG0 15 _ rfl).1
 replace hG0:Hid (CV w0 w.heap.size (GE p q g h)):=hG0
 replace hZ0:Hid (CV w0 (w.heap.size+1) Z4):=hZ0
 go_enter Tryz.func18,Tryz.ntmps18
 go_wp2_with (first | (go_at_call 41;refine hCw.mono ?_;clear hCw;rintro e ua ⟨rfl,hBa⟩;have hk:=hZ0.out.below hBa (by omega);obtain⟨k0,f0⟩:=hk 0 _ rfl;obtain⟨k1,f1⟩:=hk 1 _ rfl;obtain⟨k2,f2⟩:=hk 2 _ rfl;obtain⟨k3,f3⟩:=hk 3 _ rfl;replace hk:Hid _:=hk) | fail)
 have hBwa:Bw w ua:=Yu hB0 hBa
 exact bodyPost_ret (v:= .tuple #[A4 0 0 0 0,iI 90]) (by simp[results,Tryz.results18,go_sem,k0,k1,k2,k3]) rfl ⟨rfl,((((hBwa.setCell (p:=⟨w.heap.size+1,0,none⟩) (Nat.le_succ _) _).setCell (p:=⟨w.heap.size+1,1,none⟩) (Nat.le_succ _) _).setCell (p:=⟨w.heap.size+1,2,none⟩) (Nat.le_succ _) _).setCell (p:=⟨w.heap.size+1,3,none⟩) (Nat.le_succ _) _)⟩
theorem xMemberG (p q g h:Int) (bs:List Nat) (v:Value) (w:World) (hp:In p) (hq:In q) (hin:IN w w.heap.size v bs) (hb: ∀x∈bs,x<256) (hl:bs.length<=900):
 CC 18 #[GX p q g h,v] w (.tuple #[NV (meX p q bs),iI (chE p q)]):=by
 have hw:0<w.heap.size:=by obtain⟨_,_,gb,_,_,_,_,h4,_⟩:=hin;omega
 have hvb: ∃sl n c,v= .slice sl n c:=by obtain⟨sl,c,_,_,e,_⟩:=hin;exact⟨_,_,_,e⟩
 have hC:=fun u=>xCheckG p q g h u hp hq
 by_cases hg:gOk p q
 ·have h7:=hg.2
  have hp0:p≠0:=by omega
  rw[show chE p q=0 from if_pos hg] at hC⊢
  rw[show meX p q bs=meN p bs from if_pos hg]
  refine xMember_core p q g h (meN p bs) bs v (dgM p bs) (sqM p bs) (fun k=>cmpI (sqM p bs k) 1) w hin (by omega) hC (fun k u y hk hB hy=>?_) (fun k u hk=>xMul _ _ p u (Zx hp hp0) (Zx hp hp0) hp hp0) (fun k u hk=>Xi _ 1 u (Zx hp hp0) In_1) (fun k hk=>?_) (fun k hk hn hy=>?_) (fun hn=>?_)
  ·exact xDigest _ y _ p u hp hp0 hy (fun x hx=>by
    rcases List.mem_append.1 hx with h | h
    ·simp at h;omega
    ·exact hb x h) (by rw[List.length_append];simp;omega) (by decide)
  ·unfold cmpI;(repeat' split)<;>omega
  ·have:=meF_hit (f:=sqM p bs) 64 0 k hk (fun j hj=>by rw[Nat.zero_add];exact hn j hj) (by rw[Nat.zero_add];exact hy)
   rw[Nat.zero_add] at this;exact this.symm
  ·exact meF_none (f:=sqM p bs) 64 0 (fun j hj=>by rw[Nat.zero_add];exact hn j hj)
 ·have e90:chE p q=90:=if_neg hg
  have e0:meX p q bs=0:=if_neg hg
  rw[e90] at hC
  rw[e90,e0,NV_0]
  exact xMember_bad p q g h v w hvb hC
end Go.Proofs.YtofcppgfaelloaaGreatDoor
