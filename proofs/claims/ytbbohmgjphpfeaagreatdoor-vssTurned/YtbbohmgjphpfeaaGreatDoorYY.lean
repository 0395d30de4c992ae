import Derived.Test.YtbbohmgjphpfeaaGreatDoorXX
import Derived.Test.YtbbohmgjphpfeaaGreatDoorNN
namespace Go.Proofs.YtbbohmgjphpfeaaGreatDoor
set_option linter.unusedVariables false
set_option linter.unusedSimpArgs false
set_option maxRecDepth 100000
set_option maxHeartbeats 4000000
open Go.RowKit
section
theorem and_pow2 (x:Int) (s:Nat) (hs:s<=63) (hx:W64 x):bits .and .u64 x (2^s)=x/2^s%2*2^s:=by
 obtain⟨h1,h2⟩:=hx
 obtain⟨x,rfl⟩:=Int.eq_ofNat_of_zero_le h1
 have hp:(2:Nat)^s<18446744073709551616:=Nat.lt_of_le_of_lt (Nat.pow_le_pow_right (by omega) hs) (by omega)
 have e:=bits_and_u64_nat x (2^s) (by omega) (by omega)
 have f:x&&&2^s=x/2^s%2*2^s:=by
  have tb:x.testBit s=decide (x/2^s%2=1):=Nat.testBit_eq_decide_div_mod_eq
  have:x/2^s%2=0\/x/2^s%2=1:=by omega
  rcases this with h | h
  ·rw[h,Nat.zero_mul]
   rw[h] at tb
   refine Nat.eq_of_testBit_eq fun i=>?_
   rw[Nat.testBit_and,Nat.testBit_two_pow,Nat.zero_testBit]
   by_cases hi:s=i
   ·subst hi;rw[tb];simp
   ·simp[hi]
  ·rw[h,Nat.one_mul]
   rw[h] at tb
   refine Nat.eq_of_testBit_eq fun i=>?_
   rw[Nat.testBit_and,Nat.testBit_two_pow]
   by_cases hi:s=i
   ·subst hi;rw[tb];simp
   ·simp[hi]
 rw[f] at e
 push_cast at e
 exact e
theorem bit_step (x R0 qk M r:Int) (j:Nat) (hj:j<64) (h:R0*2^j+x/2^(64 -j)=qk*M+r):
 R0*2^(j+1)+x/2^(64 -(j+1))=2*qk*M+(2*r+x/2^(63 -j)%2):=by
 have e1:64 -(j+1)=63 -j:=by omega
 have e2:64 -j=63 -j+1:=by omega
 rw[e1]
 rw[e2,Int.pow_succ,<-Int.ediv_ediv_of_nonneg (Int.le_of_lt (Int.pow_pos (by omega)))] at h
 rw[Int.pow_succ]
 generalize x/2^(63 -j)=P at *
 have e3:P=2*(P/2)+P%2:=by omega
 generalize P/2=Q at *
 generalize P%2=b at *
 generalize (2:Int)^j=T at *
 grind
theorem even_words (t b:Int) (h0:0<=t) (hb:b=0\/b=1):D0 (2*t+b)=D0 (t+t)+b/\D1 (2*t+b)=D1 (t+t)/\D2 (2*t+b)=D2 (t+t)/\D3 (2*t+b)=D3 (t+t)/\D4 (2*t+b)=D4 (t+t)/\D0 (t+t)+b<18446744073709551616/\0<=D0 (t+t):=by
 unfold D0 D1 D2 D3 D4
 rcases hb with rfl | rfl<;>refine⟨?_,?_,?_,?_,?_,?_,?_⟩<;>omega
structure RD (w wr:World) (N0 N1 N2 N3 N4 N5:Nat) (wl ml:List Int) (r0 r1 r2 r3:Int) (ql:List Int):Prop where
 bel:Bw w wr
 sz:N5<wr.heap.size
 kw:CL wr N0 wl
 km:CL wr N1 ml
 k2:CL wr N2 [0,0,0,0,0,0,0,0]
 k3:CL wr N3 [0,0,0,0]
 kq:CL wr N4 ql
 kr:CL wr N5 [r0,r1,r2,r3]
 w0:W64 r0
 w1:W64 r1
 w2:W64 r2
 w3:W64 r3
 ll:ql.length=8
 lw: ∀x∈ql,W64 x
structure RN (w:World) (N0 N1 N2 N3 N4 N5:Nat):Prop where
 a:w.heap.size<=N0
 b:N0<N1
 c:N1<N2
 d:N2<N3
 e:N3<N4
 f:N4<N5
section
variable {w wr v:World} {N0 N1 N2 N3 N4 N5:Nat} {wl ml:List Int} {r0 r1 r2 r3:Int} {ql:List Int}
theorem RD.call (h:RD w wr N0 N1 N2 N3 N4 N5 wl ml r0 r1 r2 r3 ql) (n:RN w N0 N1 N2 N3 N4 N5) (hB:Bw wr v):RD w v N0 N1 N2 N3 N4 N5 wl ml r0 r1 r2 r3 ql:=by
 have hs:=hB.size
 have hz:=h.sz
 obtain⟨n1,n2,n3,n4,n5,n6⟩:=n
 exact{h with bel:=Z7 h.bel hB,sz:=by omega,kw:=h.kw.below hB (by omega),km:=h.km.below hB (by omega),k2:=h.k2.below hB (by omega),k3:=h.k3.below hB (by omega),kq:=h.kq.below hB (by omega),kr:=h.kr.below hB (by omega)}
theorem RD.alloc (h:RD w wr N0 N1 N2 N3 N4 N5 wl ml r0 r1 r2 r3 ql) (n:RN w N0 N1 N2 N3 N4 N5) (o:Obj):RD w (wr.alloc o) N0 N1 N2 N3 N4 N5 wl ml r0 r1 r2 r3 ql:=h.call n (Z3 (Zp wr) o)
theorem RD.drew (h:RD w wr N0 N1 N2 N3 N4 N5 wl ml r0 r1 r2 r3 ql):RD w wr.drew N0 N1 N2 N3 N4 N5 wl ml r0 r1 r2 r3 ql:=
 {h with bel:=h.bel.drew,sz:=h.sz,kw:=h.kw,km:=h.km,k2:=h.k2,k3:=h.k3,kq:=h.kq,kr:=h.kr}
theorem RD.far (h:RD w wr N0 N1 N2 N3 N4 N5 wl ml r0 r1 r2 r3 ql) (n:RN w N0 N1 N2 N3 N4 N5) (a:Addr) (ha:N5<a.block) (x:Value):RD w (wr.setCell a x) N0 N1 N2 N3 N4 N5 wl ml r0 r1 r2 r3 ql:=by
 obtain⟨n1,n2,n3,n4,n5,n6⟩:=n
 exact{h with bel:=h.bel.setCell (by omega) _,sz:=by simpa using h.sz,kw:=h.kw.other _ (by omega) _,km:=h.km.other _ (by omega) _,k2:=h.k2.other _ (by omega) _,k3:=h.k3.other _ (by omega) _,kq:=h.kq.other _ (by omega) _,kr:=h.kr.other _ (by omega) _}
theorem RD.setq (h:RD w wr N0 N1 N2 N3 N4 N5 wl ml r0 r1 r2 r3 ql) (n:RN w N0 N1 N2 N3 N4 N5) (p:Nat) (hp:p<8) (x:Int) (hx:W64 x):RD w (wr.setCell ⟨N4,p,none⟩ (.int .u64 x)) N0 N1 N2 N3 N4 N5 wl ml r0 r1 r2 r3 (ql.set p x):=by
 obtain⟨n1,n2,n3,n4,n5,n6⟩:=n
 exact{h with bel:=h.bel.setCell (by show w.heap.size<=N4;omega) _,sz:=by simpa using h.sz,kw:=h.kw.other _ (by show N0≠N4;omega) _,km:=h.km.other _ (by show N1≠N4;omega) _,k2:=h.k2.other _ (by show N2≠N4;omega) _,k3:=h.k3.other _ (by show N3≠N4;omega) _,kq:=h.kq.set p (by rw[h.ll];exact hp) x,kr:=h.kr.other _ (by show N5≠N4;omega) _,ll:=by rw[List.length_set];exact h.ll,lw:=fun y hy=>(List.mem_or_eq_of_mem_set hy).elim (h.lw y) (fun e=>by rw[e];exact hx)}
theorem RD.setr (h:RD w wr N0 N1 N2 N3 N4 N5 wl ml r0 r1 r2 r3 ql) (n:RN w N0 N1 N2 N3 N4 N5) (x0 x1 x2 x3:Int) (h0:W64 x0) (h1:W64 x1) (h2:W64 x2) (h3:W64 x3):
 RD w ((((wr.setCell ⟨N5,0,none⟩ (.int .u64 x0)).setCell ⟨N5,1,none⟩ (.int .u64 x1)).setCell ⟨N5,2,none⟩ (.int .u64 x2)).setCell ⟨N5,3,none⟩ (.int .u64 x3)) N0 N1 N2 N3 N4 N5 wl ml x0 x1 x2 x3 ql:=by
 obtain⟨n1,n2,n3,n4,n5,n6⟩:=n
 have o: ∀{b:Nat} {l:List Int},CL wr b l->b≠N5->CL ((((wr.setCell ⟨N5,0,none⟩ (.int .u64 x0)).setCell ⟨N5,1,none⟩ (.int .u64 x1)).setCell ⟨N5,2,none⟩ (.int .u64 x2)).setCell ⟨N5,3,none⟩ (.int .u64 x3)) b l:=fun k hb=>(((k.other _ hb _).other _ hb _).other _ hb _).other _ hb _
 have hw:w.heap.size<=N5:=by omega
 exact{h with bel:=(((h.bel.setCell hw _).setCell hw _).setCell hw _).setCell hw _,sz:=by simpa using h.sz,kw:=o h.kw (by omega),km:=o h.km (by omega),k2:=o h.k2 (by omega),k3:=o h.k3 (by omega),kq:=o h.kq (by omega),kr:=(((h.kr.set 0 (by simp) x0).set 1 (by simp) x1).set 2 (by simp) x2).set 3 (by simp) x3,w0:=h0,w1:=h1,w2:=h2,w3:=h3}
end
end
theorem HR_word (wl ql:List Int) (xn qv D r s:Int) (p:Nat) (hx:wl[p]?=some xn) (hq:ql[p]?=some qv)
 (h:HR (wl.drop (p+1)) 0=HR (ql.drop (p+1)) 0*D+r) (h':r*18446744073709551616+xn=qv*D+s):HR (wl.drop p) 0=HR (ql.drop p) 0*D+s:=by
 obtain⟨hc,hc'⟩:=List.getElem?_eq_some_iff.1 hx
 obtain⟨hd,hd'⟩:=List.getElem?_eq_some_iff.1 hq
 rw[List.drop_eq_getElem_cons hc,List.drop_eq_getElem_cons hd,hc',hd',HR,HR]
 exact div_step _ _ D r xn qv s h h'
theorem iter_words (r0 r1 r2 r3 m0 m1 m2 m3 xb:Int) (w0:W64 r0) (w1:W64 r1) (w2:W64 r2) (w3:W64 r3) (h0:W64 m0) (h1:W64 m1) (h2:W64 m2) (h3:W64 m3) (hlt:V r0 r1 r2 r3<V m0 m1 m2 m3) (hxb:xb=0\/xb=1):
 ∃(s0 s1 s2 s3 y0 z0 z1 z2 z3 cv:Int) (ov f:Bool),y0=s0+xb/\W64 s0/\W64 s1/\W64 s2/\W64 s3/\W64 y0/\W64 z0/\W64 z1/\W64 z2/\W64 z3/\
  (∀u,CC 58 #[A4 r0 r1 r2 r3,A4 r0 r1 r2 r3] u (.tuple #[A4 s0 s1 s2 s3,.bool ov]))/\
  (∀u,CC 65 #[A4 y0 s1 s2 s3,A4 m0 m1 m2 m3] u (.int .i64 cv))/\
  (∀u,CC 113 #[A4 y0 s1 s2 s3,A4 m0 m1 m2 m3] u (.tuple #[A4 z0 z1 z2 z3,.bool f]))/\
  (ov=true\/0<=cv->V z0 z1 z2 z3=2*V r0 r1 r2 r3+xb -V m0 m1 m2 m3/\V z0 z1 z2 z3<V m0 m1 m2 m3)/\
  (ov=false->cv<0->V y0 s1 s2 s3=2*V r0 r1 r2 r3+xb/\V y0 s1 s2 s3<V m0 m1 m2 m3):=by
 have kr:=V_bd r0 r1 r2 r3 w0 w1 w2 w3
 have km:=V_bd m0 m1 m2 m3 h0 h1 h2 h3
 obtain⟨e0,e1,e2,e3,e4,e5,e6⟩:=even_words (V r0 r1 r2 r3) xb kr.1 hxb
 have ad:=fun u=>rAdd_any r0 r1 r2 r3 r0 r1 r2 r3 u w0 w1 w2 w3 w0 w1 w2 w3
 have vy:V (D0 (V r0 r1 r2 r3+V r0 r1 r2 r3)+xb) (D1 (V r0 r1 r2 r3+V r0 r1 r2 r3)) (D2 (V r0 r1 r2 r3+V r0 r1 r2 r3)) (D3 (V r0 r1 r2 r3+V r0 r1 r2 r3))=(2*V r0 r1 r2 r3+xb)%0x10000000000000000000000000000000000000000000000000000000000000000:=by
  rw[<-e0,<-e1,<-e2,<-e3];exact V_D _
 have wy:W64 (D0 (V r0 r1 r2 r3+V r0 r1 r2 r3)+xb):=⟨by rcases hxb with rfl | rfl<;>omega,e5⟩
 have cm:=fun u=>Wx _ _ _ _ m0 m1 m2 m3 u wy (W_D1 (V r0 r1 r2 r3+V r0 r1 r2 r3)) (W_D2 (V r0 r1 r2 r3+V r0 r1 r2 r3)) (W_D3 (V r0 r1 r2 r3+V r0 r1 r2 r3)) h0 h1 h2 h3
 have sb:=fun u=>rSub_any _ _ _ _ m0 m1 m2 m3 u wy (W_D1 (V r0 r1 r2 r3+V r0 r1 r2 r3)) (W_D2 (V r0 r1 r2 r3+V r0 r1 r2 r3)) (W_D3 (V r0 r1 r2 r3+V r0 r1 r2 r3)) h0 h1 h2 h3
 refine⟨_,_,_,_,_,_,_,_,_,_,_,_,rfl,W_D0 _,W_D1 _,W_D2 _,W_D3 _,wy,W_D0 _,W_D1 _,W_D2 _,W_D3 _,ad,cm,sb,?_,?_⟩
 ·intro ht
  rw[V_D,vy]
  have hge:0x10000000000000000000000000000000000000000000000000000000000000000<=2*V r0 r1 r2 r3+xb\/V m0 m1 m2 m3<=2*V r0 r1 r2 r3+xb:=by
   rcases ht with ht | ht
   ·left
    have:D4 (V r0 r1 r2 r3+V r0 r1 r2 r3)=1:=by simpa using ht
    unfold D4 at this;rcases hxb with rfl | rfl<;>omega
   ·rw[vy] at ht
    unfold cmpI at ht
    rcases hxb with rfl | rfl<;>(split at ht<;>omega)
  rcases hxb with rfl | rfl<;>omega
 ·intro ho hc
  have:D4 (V r0 r1 r2 r3+V r0 r1 r2 r3)≠1:=by simpa using ho
  have h4:D4 (V r0 r1 r2 r3+V r0 r1 r2 r3)=0:=by unfold D4 at this⊢;omega
  have hl:2*V r0 r1 r2 r3+xb<0x10000000000000000000000000000000000000000000000000000000000000000:=by unfold D4 at h4;rcases hxb with rfl | rfl<;>omega
  rw[vy] at hc⊢
  unfold cmpI at hc
  split at hc
  ·rcases hxb with rfl | rfl<;>omega
  ·split at hc<;>omega
theorem qk_step (qk:Int) (j:Nat) (hj:j<64) (h0:0<=qk) (h1:qk<2^j):
 qk*2^(64 -j)=2*qk*2^(64 -(j+1))/\qk*2^(64 -j)+2^(63 -j)=(2*qk+1)*2^(64 -(j+1))/\W64 ((2*qk+1)*2^(64 -(j+1)))/\2*qk+1<2^(j+1):=by
 have e1:64 -(j+1)=63 -j:=by omega
 have e2:64 -j=63 -j+1:=by omega
 have hp:(0:Int)<2^(63 -j):=Int.pow_pos (by omega)
 have e3:(2:Int)^(j+1)*2^(63 -j)=18446744073709551616:=by
  rw[<-Int.pow_add,show j+1+(63 -j)=64 by omega];rfl
 have h2:2*qk+1<2^(j+1):=by rw[Int.pow_succ];omega
 rw[e1,e2,Int.pow_succ]
 refine⟨by grind,by grind,⟨Int.mul_nonneg (by omega) (by omega),?_⟩,h2⟩
 rw[<-e3]
 exact Int.mul_lt_mul_of_pos_right h2 hp
set_option maxHeartbeats 3000000 in
theorem rDivide_1 (a b c d e f g h m0 m1 m2 m3:Int) (w:World) (ha:W64 a) (hb:W64 b) (hc:W64 c) (hd:W64 d) (he:W64 e) (hf:W64 f) (hg:W64 g) (hh:W64 h) (hm0:W64 m0) (hm1:W64 m1) (hm2:W64 m2) (hm3:W64 m3) (hM:(V m0 m1 m2 m3)≠0):
 CC 85 #[A8 a b c d e f g h,A4 m0 m1 m2 m3] w (.tuple #[WV ((V a b c d+V e f g h*0x10000000000000000000000000000000000000000000000000000000000000000)/(V m0 m1 m2 m3)),NV ((V a b c d+V e f g h*0x10000000000000000000000000000000000000000000000000000000000000000)%(V m0 m1 m2 m3)),.int .i64 0]):=by
 have he0:eq4 m0 m1 m2 m3 0 0 0 0=false:=by
  rw[Bool.eq_false_iff];intro hq
  rw[eq4_iff] at hq
  obtain⟨rfl,rfl,rfl,rfl⟩:=hq
  exact hM rfl
 have hMb:=V_bd m0 m1 m2 m3 hm0 hm1 hm2 hm3
 have hN:RN w (w.heap.size) (w.heap.size+1) (w.heap.size+1+1) (w.heap.size+1+1+1) (w.heap.size+1+1+1+1) (w.heap.size+1+1+1+1+1):=⟨by omega,by omega,by omega,by omega,by omega,by omega⟩
 have hWW: ∀x∈[a,b,c,d,e,f,g,h],W64 x:=by
  intro x hx
  simp only[List.mem_cons,List.not_mem_nil,or_false] at hx
  rcases hx with rfl | rfl | rfl | rfl | rfl | rfl | rfl | rfl<;>assumption
 go_enter Tryz.func85,Tryz.ntmps85
 go_wp2_with fail
 have hD0:RD w ((((((w.alloc (.cells #[.int .u64 a,.int .u64 b,.int .u64 c,.int .u64 d,.int .u64 e,.int .u64 f,.int .u64 g,.int .u64 h] 86)).alloc (.cells #[.int .u64 m0,.int .u64 m1,.int .u64 m2,.int .u64 m3] 24)).alloc (.cells #[.int .u64 0,.int .u64 0,.int .u64 0,.int .u64 0,.int .u64 0,.int .u64 0,.int .u64 0,.int .u64 0] 86)).alloc (.cells #[.int .u64 0,.int .u64 0,.int .u64 0,.int .u64 0] 24)).alloc (.cells #[.int .u64 0,.int .u64 0,.int .u64 0,.int .u64 0,.int .u64 0,.int .u64 0,.int .u64 0,.int .u64 0] 86)).alloc (.cells #[.int .u64 0,.int .u64 0,.int .u64 0,.int .u64 0] 24)) (w.heap.size) (w.heap.size+1) (w.heap.size+1+1) (w.heap.size+1+1+1) (w.heap.size+1+1+1+1) (w.heap.size+1+1+1+1+1) [a,b,c,d,e,f,g,h] [m0,m1,m2,m3] 0 0 0 0 [0,0,0,0,0,0,0,0]:=
  {bel:=Z3 (Z3 (Z3 (Z3 (Z3 (Z3 (Zp w) _) _) _) _) _) _,sz:=by simp,
   kw:=(((((CL.new w [a,b,c,d,e,f,g,h] 86).alloc (by simp) _).alloc (by simp<;>omega) _).alloc (by simp<;>omega) _).alloc (by simp<;>omega) _).alloc (by simp<;>omega) _,
   km:=((((CL.newAt (w.alloc _) [m0,m1,m2,m3] 24 _ (by simp)).alloc (by simp) _).alloc (by simp<;>omega) _).alloc (by simp<;>omega) _).alloc (by simp<;>omega) _,
   k2:=(((CL.newAt ((w.alloc _).alloc _) [0,0,0,0,0,0,0,0] 86 _ (by simp)).alloc (by simp) _).alloc (by simp<;>omega) _).alloc (by simp<;>omega) _,
   k3:=((CL.newAt (((w.alloc _).alloc _).alloc _) [0,0,0,0] 24 _ (by simp)).alloc (by simp) _).alloc (by simp<;>omega) _,
   kq:=(CL.newAt ((((w.alloc _).alloc _).alloc _).alloc _) [0,0,0,0,0,0,0,0] 86 _ (by simp)).alloc (by simp) _,
   kr:=CL.newAt (((((w.alloc _).alloc _).alloc _).alloc _).alloc _) [0,0,0,0] 24 _ (by simp),
   w0:=W_0,w1:=W_0,w2:=W_0,w3:=W_0,ll:=rfl,lw:=by intro x hx;simp at hx;subst hx;exact W_0}
 go_loopw [9,10] (fun t9 t10 wr=> ∃(n:Nat) (bg:Bool) (r0 r1 r2 r3:Int) (ql:List Int),n<=8/\t9= .bool bg/\t10= .int .i64 (7 -(n:Int))/\RD w wr (w.heap.size) (w.heap.size+1) (w.heap.size+1+1) (w.heap.size+1+1+1) (w.heap.size+1+1+1+1) (w.heap.size+1+1+1+1+1) [a,b,c,d,e,f,g,h] [m0,m1,m2,m3] r0 r1 r2 r3 ql/\V r0 r1 r2 r3<(V m0 m1 m2 m3)/\(bg=false->V r0 r1 r2 r3=0)/\(∀j,j<8 -n->ql[j]?=some 0)/\HR ([a,b,c,d,e,f,g,h].drop (8 -n)) 0=HR (ql.drop (8 -n)) 0*(V m0 m1 m2 m3)+V r0 r1 r2 r3) (fun _ t _=>(intOf t+1).toNat)
 case atStart=>
  refine⟨0,false,0,0,0,0,[0,0,0,0,0,0,0,0],by omega,rfl,rfl,hD0,by have:V 0 0 0 0=0:=rfl;omega,fun _=>rfl,fun j hj=>?_,by simp[HR,V]⟩
  have:j=0\/j=1\/j=2\/j=3\/j=4\/j=5\/j=6\/j=7:=by omega
  rcases this with rfl | rfl | rfl | rfl | rfl | rfl | rfl | rfl<;>rfl
 case round=>
  obtain⟨n,bg,r0,r1,r2,r3,ql,hn,rfl,rfl,hD,hlt,hbg,hql,hE⟩:=hrel
  clear hD0
  by_cases h8:n=8
  ·subst h8
   obtain⟨q0,q1,q2,q3,q4,q5,q6,q7,rfl⟩:=list8L ql hD.ll
   have hq:=hD.kq
   have hr:=hD.kr
   have hz8:=hD.k2
   have hz4:=hD.k3
   have qa0:=(hq 0 _ rfl).1
   have qa1:=(hq 1 _ rfl).1
   have qa2:=(hq 2 _ rfl).1
   have qa3:=(hq 3 _ rfl).1
   have qa4:=(hq 4 _ rfl).1
   have qa5:=(hq 5 _ rfl).1
   have qa6:=(hq 6 _ rfl).1
   have qa7:=(hq 7 _ rfl).1
   have ra0:=(hr 0 _ rfl).1
   have ra1:=(hr 1 _ rfl).1
   have ra2:=(hr 2 _ rfl).1
   have ra3:=(hr 3 _ rfl).1
   have za0:=(hz8 0 _ rfl).1
   have zaf0:=(hz8 0 _ rfl).2
   have za1:=(hz8 1 _ rfl).1
   have zaf1:=(hz8 1 _ rfl).2
   have za2:=(hz8 2 _ rfl).1
   have zaf2:=(hz8 2 _ rfl).2
   have za3:=(hz8 3 _ rfl).1
   have zaf3:=(hz8 3 _ rfl).2
   have za4:=(hz8 4 _ rfl).1
   have zaf4:=(hz8 4 _ rfl).2
   have za5:=(hz8 5 _ rfl).1
   have zaf5:=(hz8 5 _ rfl).2
   have za6:=(hz8 6 _ rfl).1
   have zaf6:=(hz8 6 _ rfl).2
   have za7:=(hz8 7 _ rfl).1
   have zaf7:=(hz8 7 _ rfl).2
   have zb0:=(hz4 0 _ rfl).1
   have zbf0:=(hz4 0 _ rfl).2
   have zb1:=(hz4 1 _ rfl).1
   have zbf1:=(hz4 1 _ rfl).2
   have zb2:=(hz4 2 _ rfl).1
   have zbf2:=(hz4 2 _ rfl).2
   have zb3:=(hz4 3 _ rfl).1
   have zbf3:=(hz4 3 _ rfl).2
   have hbel:=hD.bel
   have hl:=hD.sz
   have wr0:=hD.w0
   have hbd:=V_bd r0 r1 r2 r3 hD.w0 hD.w1 hD.w2 hD.w3
   have l:=hD.lw
   obtain⟨f1,f2⟩:=div_fin (V a b c d+V e f g h*0x10000000000000000000000000000000000000000000000000000000000000000) (V m0 m1 m2 m3) 1 (V m0 m1 m2 m3) (V r0 r1 r2 r3) (V a b c d+V e f g h*0x10000000000000000000000000000000000000000000000000000000000000000) q0 q1 q2 q3 q4 q5 q6 q7 (l _ (by simp)) (l _ (by simp)) (l _ (by simp)) (l _ (by simp)) (l _ (by simp)) (l _ (by simp)) (l _ (by simp)) (l _ (by simp)) (by omega) (by omega) (by omega) (by omega) (by
    have e:HR [a,b,c,d,e,f,g,h] 0=(V a b c d+V e f g h*0x10000000000000000000000000000000000000000000000000000000000000000):=by simp only[HR,V];omega
    rw[<-e];exact hE) hbd.1 hlt
   have f3:NV ((V a b c d+V e f g h*0x10000000000000000000000000000000000000000000000000000000000000000)%(V m0 m1 m2 m3))=A4 r0 r1 r2 r3:=by
    rw[<-f2,Int.ediv_one];exact NV_of _ r0 r1 r2 r3 0 hD.w0 hD.w1 hD.w2 hD.w3 (by omega)
   have FF:Hid (_/\_):=And.intro f1 f3
   clear f1 f2 f3 hD hE l hq hr hz8 hz4 hql hbg hWW hN
   go_wp2_with fail
   go_region
   go_wp2
   refine bodyPost_ret (v:= .tuple #[A8 q0 q1 q2 q3 q4 q5 q6 q7,A4 r0 r1 r2 r3,.int .i64 0]) (by simp[results,Tryz.results85,go_sem, *]) rfl ⟨?_,?_⟩
   ·have fin:=FF
    unfold Hid at fin
    rw[fin.1,fin.2]
   ·iterate 6 all_goals (go_grown<;>try with_reducible refine below_drewN ?_ _)
  ·have hn7:n<=7:=by omega
   obtain⟨p,hp⟩: ∃p:Nat,p=7 -n:=⟨_,rfl⟩
   have hpk:(7 -(n:Int))=(p:Int):=by omega
   rw[hpk]
   have hp7:p<=7:=by omega
   have hp8:(p:Int)<8:=by omega
   obtain⟨xn,hxn⟩: ∃xn,[a,b,c,d,e,f,g,h][p]?=some xn:=⟨_,List.getElem?_eq_getElem (show p<8 by omega)⟩
   have wxn:=hWW xn (List.mem_of_getElem? hxn)
   have hqp:ql[p]?=some 0:=hql p (by omega)
   have e8:8 -n=p+1:=by omega
   rw[e8] at hE
   have e9:8 -(n+1)=p:=by omega
   have hq': ∀i,i<p->ql[i]?=some 0:=fun i hi=>hql i (by omega)
   have HP:Hid (p=7 -n):=hp
   have HK:Hid ((7 -(n:Int))=(p:Int)):=hpk
   clear hp hpk hql
   have vx:V xn 0 0 0=xn:=by unfold V;omega
   obtain⟨cv,ecv⟩: ∃cv,cmpI xn (V m0 m1 m2 m3)=cv:=⟨_,rfl⟩
   have call14: ∀u,CC 65 #[A4 xn 0 0 0,A4 m0 m1 m2 m3] u (.int .i64 cv):=fun u=>by
    have:=Wx xn 0 0 0 m0 m1 m2 m3 u wxn W_0 W_0 W_0 hm0 hm1 hm2 hm3
    rw[vx,ecv] at this
    exact this
   have hcv:cv<0↔xn<(V m0 m1 m2 m3):=by
    rw[<-ecv];unfold cmpI
    split
    ·omega
    ·split<;>omega
   clear ecv
   have cw:=(hD.kw p _ hxn).1
   have mc0:=(hD.km 0 _ rfl).1
   have mc1:=(hD.km 1 _ rfl).1
   have mc2:=(hD.km 2 _ rfl).1
   have mc3:=(hD.km 3 _ rfl).1
   go_upto_region 9 with fail
   go_cut [35] (fun t35 wx=>t35= .bool (!bg&&decide (xn<(V m0 m1 m2 m3)))/\RD w wx (w.heap.size) (w.heap.size+1) (w.heap.size+1+1) (w.heap.size+1+1+1) (w.heap.size+1+1+1+1) (w.heap.size+1+1+1+1+1) [a,b,c,d,e,f,g,h] [m0,m1,m2,m3] r0 r1 r2 r3 ql)
   case first=>
    cases bg
    ·by_cases hx:xn<(V m0 m1 m2 m3)
     ·have hneg:cv<0:=hcv.2 hx
      go_region_with (go_at_call 65;refine(call14 _).mono ?_;rintro en v1 ⟨rfl,hB⟩)
      all_goals
       have nD:=hD.drew.call hN hB
       go_wp2
       go_meet
      all_goals exact⟨by simp[hx],nD⟩
     ·have hneg: ¬cv<0:=fun hc=>hx (hcv.1 hc)
      go_region_with (go_at_call 65;refine(call14 _).mono ?_;rintro en v1 ⟨rfl,hB⟩)
      all_goals
       have nD:=hD.drew.call hN hB
       go_wp2
       go_meet
      all_goals exact⟨by simp[hx],nD⟩
    ·go_region
     go_wp2
     go_meet
     exact⟨by simp,hD.drew⟩
   case rest=>
    obtain⟨rfl,hD'⟩:=hcut
    clear hD call14 hcv cw mc0 mc1 mc2 mc3
    by_cases hdec:bg=false/\xn<(V m0 m1 m2 m3)
    ·obtain⟨rfl,hx⟩:=hdec
     have h00:=hbg rfl
     have cw:=(hD'.kw p _ hxn).1
     have rc0:=(hD'.kr 0 _ rfl).1
     have rcf0:=(hD'.kr 0 _ rfl).2
     have rc1:=(hD'.kr 1 _ rfl).1
     have rcf1:=(hD'.kr 1 _ rfl).2
     have rc2:=(hD'.kr 2 _ rfl).1
     have rcf2:=(hD'.kr 2 _ rfl).2
     have rc3:=(hD'.kr 3 _ rfl).1
     have rcf3:=(hD'.kr 3 _ rfl).2
     have nD:=hD'.setr hN xn 0 0 0 wxn W_0 W_0 W_0
     have nE:HR ([a,b,c,d,e,f,g,h].drop p) 0=HR (ql.drop p) 0*(V m0 m1 m2 m3)+xn:=HR_word [a,b,c,d,e,f,g,h] ql xn 0 _ _ xn p hxn hqp hE (by rw[h00];omega)
     have hx':decide (xn<(V m0 m1 m2 m3))=true:=by simp[hx]
     rw[hx']
     clear hD' hE hWW
     go_wp2
     refine⟨⟨n+1,decide (0<xn),xn,0,0,0,ql,by omega,rfl,?_,nD,by rw[vx];exact hx,?_,?_,?_⟩,?_⟩
     ·have h:(7 -(n:Int))=(p:Int):=HK
      simp<;>omega
     ·intro hb
      rw[vx]
      have:=wxn.1
      simp at hb;omega
     ·intro i hi;exact hq' i (by omega)
     ·rw[e9,vx];exact nE
     ·simp[intOf]<;>omega
    ·have hdd:(!bg&&decide (xn<(V m0 m1 m2 m3)))=false:=by
      cases bg
      ·simp at hdec⊢;omega
      ·rfl
     rw[hdd]
     clear hdec hdd
     go_wp2_with fail
     obtain⟨R0,hR0⟩: ∃R0,R0=V r0 r1 r2 r3:=⟨_,rfl⟩
     go_loopw [11] (fun t11 wq=> ∃(j:Nat) (s0 s1 s2 s3 qk tp:Int),j<=64/\t11= .int .u64 tp/\(j<64->tp=2^(63 -j))/\(j=64->tp=0)/\RD w wq (w.heap.size) (w.heap.size+1) (w.heap.size+1+1) (w.heap.size+1+1+1) (w.heap.size+1+1+1+1) (w.heap.size+1+1+1+1+1) [a,b,c,d,e,f,g,h] [m0,m1,m2,m3] s0 s1 s2 s3 (ql.set p (qk*2^(64 -j)))/\V s0 s1 s2 s3<(V m0 m1 m2 m3)/\0<=qk/\qk<2^j/\R0*2^j+xn/2^(64 -j)=qk*(V m0 m1 m2 m3)+V s0 s1 s2 s3) (fun t _=>(intOf t).toNat)
     case atStart=>
      refine⟨0,r0,r1,r2,r3,0,9223372036854775808,by omega,rfl,fun _=>rfl,fun h=>by omega,?_,hlt,by omega,by simp,?_⟩
      ·have e:ql.set p (0*2^(64 -0))=ql:=by
        rw[Int.zero_mul]
        obtain⟨hl,hv⟩:=List.getElem?_eq_some_iff.1 hqp
        rw[<-hv];exact List.set_getElem_self hl
       rw[e];exact hD'
      ·have e:xn/2^(64 -0)=0:=by
        have:=wxn.1;have:=wxn.2
        exact Int.ediv_eq_zero_of_lt (by omega) (by simpa using wxn.2)
       rw[e,hR0];omega
     case round=>
      obtain⟨j,s0,s1,s2,s3,qk,tp,hj,rfl,htpf,htp0,hI,hsl,hq0,hq1,hEI⟩:=hrel
      clear hD'
      by_cases h64:j=64
      ·subst h64
       obtain rfl:=htp0 rfl
       have e64:xn/2^(64 -64)=xn:=by rw[show 64 -64=0 from rfl,Int.pow_zero,Int.ediv_one]
       rw[e64] at hEI
       have hW:W64 (qk*2^(64 -64)):=by
        rw[show 64 -64=0 from rfl,Int.pow_zero,Int.mul_one];exact⟨hq0,by simpa using hq1⟩
       have hqs:(ql.set p (qk*2^(64 -64)))[p]?=some qk:=by
        rw[show 64 -64=0 from rfl,Int.pow_zero,Int.mul_one,List.getElem?_set_self (List.getElem?_eq_some_iff.1 hqp).1]
       have hds:(ql.set p (qk*2^(64 -64))).drop (p+1)=ql.drop (p+1):=List.drop_set_of_lt (by omega)
       have nE:=HR_word [a,b,c,d,e,f,g,h] (ql.set p (qk*2^(64 -64))) xn qk (V m0 m1 m2 m3) R0 (V s0 s1 s2 s3) p hxn hqs (by rw[hds,hR0];exact hE) (by have e:(2:Int)^64=18446744073709551616:=rfl;rw[<-e];exact hEI)
       clear hE hEI hWW hR0 hds hqs
       go_wp2
       refine⟨⟨n+1,true,s0,s1,s2,s3,_,by omega,rfl,?_,hI,hsl,(fun h=>by cases h),?_,?_⟩,?_⟩
       ·have h:(7 -(n:Int))=(p:Int):=HK
        simp<;>omega
       ·intro i hi
        rw[List.getElem?_set_ne (by omega)];exact hq' i (by omega)
       ·rw[e9];exact nE
       ·simp[intOf]<;>omega
      ·have hj64:j<64:=by omega
       have htp:=htpf hj64
       clear htpf
       have hstep:=bit_step xn R0 qk (V m0 m1 m2 m3) (V s0 s1 s2 s3) j hj64 hEI
       obtain⟨g1,g2,g3,g4⟩:=qk_step qk j hj64 hq0 hq1
       have hand:=and_pow2 xn (63 -j) (by omega) wxn
       obtain⟨xb,hxb⟩: ∃xb,xn/2^(63 -j)%2=xb:=⟨_,rfl⟩
       rw[hxb] at hand hstep
       rw[<-htp] at hand g2
       have tpos:0<tp:=by rw[htp];exact Int.pow_pos (by omega)
       have tlt:tp<18446744073709551616:=by
        have h1:(2:Nat)^(63 -j)<=2^63:=Nat.pow_le_pow_right (by omega) (by omega)
        have h2:((2:Nat)^(63 -j):Int)<=((2^63:Nat):Int):=by exact_mod_cast h1
        rw[htp]
        have h3:((2^63:Nat):Int)=9223372036854775808:=rfl
        rw[h3] at h2;push_cast at h2;omega
       have htd:IntKind.u64.wrap (tp.tdiv 2)=tp/2:=by
        rw[Int.tdiv_eq_ediv_of_nonneg (by omega),IntKind.wrap_u64];omega
       have ht2:(j+1<64->tp/2=2^(63 -(j+1)))/\(j+1=64->tp/2=0):=by
        refine⟨fun h=>?_,fun h=>?_⟩
        ·rw[htp,show 63 -j=63 -(j+1)+1 by omega,Int.pow_succ];omega
        ·rw[htp,show 63 -j=0 by omega];rfl
       have hxb2:xb=0\/xb=1:=by omega
       obtain⟨y0,y1,y2,y3,x0,z0,z1,z2,z3,cv,ov,fl,ex0,wy0,wy1,wy2,wy3,wx0,wz0,wz1,wz2,wz3,addR,cmpR,subR,hT,hF⟩:=iter_words s0 s1 s2 s3 m0 m1 m2 m3 xb hI.w0 hI.w1 hI.w2 hI.w3 hm0 hm1 hm2 hm3 hsl hxb2
       have hold:(ql.set p (qk*2^(64 -j)))[p]?=some (qk*2^(64 -j)):=List.getElem?_set_self (List.getElem?_eq_some_iff.1 hqp).1
       obtain⟨qo,hqo⟩: ∃qo,qk*2^(64 -j)=qo:=⟨_,rfl⟩
       obtain⟨qn,hqn⟩: ∃qn,(2*qk+1)*2^(64 -(j+1))=qn:=⟨_,rfl⟩
       rw[hqo] at hold g1 g2 hI
       rw[hqn] at g2 g3
       have hwq:IntKind.u64.wrap (qo+tp)=qn:=by rw[IntKind.wrap_u64,g2];exact Int.emod_eq_of_lt g3.1 g3.2
       have H1:Hid _:=hstep
       have H2:Hid _:=ht2
       have H3:Hid _:=g1
       have H4:Hid _:=g4
       have H5:Hid _:=hqn
       have H6:Hid _:=hq0
       have H7:Hid _:=hT
       have H8:Hid _:=hF
       clear hT hF hstep ht2 g1 g2 g4 hqn hqo hEI hE hWW hq0 hq1 htp htp0 hxb
       have rc0:=(hI.kr 0 _ rfl).1
       have rf0:=(hI.kr 0 _ rfl).2
       have mc0:=(hI.km 0 _ rfl).1
       have rc1:=(hI.kr 1 _ rfl).1
       have rf1:=(hI.kr 1 _ rfl).2
       have mc1:=(hI.km 1 _ rfl).1
       have rc2:=(hI.kr 2 _ rfl).1
       have rf2:=(hI.kr 2 _ rfl).2
       have mc2:=(hI.km 2 _ rfl).1
       have rc3:=(hI.kr 3 _ rfl).1
       have rf3:=(hI.kr 3 _ rfl).2
       have mc3:=(hI.km 3 _ rfl).1
       have wc:=(hI.kw p _ hxn).1
       have qc:=(hI.kq p _ hold).1
       have qf:=(hI.kq p _ hold).2
       go_wp2_with fail
       refine(addR _).mono ?_
       rintro en v1 ⟨rfl,hB1⟩
       have D1':=hI.call hN hB1
       clear hB1 addR hI
       clear rc0 rf0 mc0 rc1 rf1 mc1 rc2 rf2 mc2 rc3 rf3 mc3 wc qc qf
       have arc0:=(D1'.kr 0 _ rfl).1
       have arf0:=(D1'.kr 0 _ rfl).2
       have amc0:=(D1'.km 0 _ rfl).1
       have arc1:=(D1'.kr 1 _ rfl).1
       have arf1:=(D1'.kr 1 _ rfl).2
       have amc1:=(D1'.km 1 _ rfl).1
       have arc2:=(D1'.kr 2 _ rfl).1
       have arf2:=(D1'.kr 2 _ rfl).2
       have amc2:=(D1'.km 2 _ rfl).1
       have arc3:=(D1'.kr 3 _ rfl).1
       have arf3:=(D1'.kr 3 _ rfl).2
       have amc3:=(D1'.km 3 _ rfl).1
       have awc:=(D1'.kw p _ hxn).1
       have aqc:=(D1'.kq p _ hold).1
       have aqf:=(D1'.kq p _ hold).2
       have sz1:=D1'.sz
       have l0:w.heap.size<v1.heap.size:=by omega
       have l1:w.heap.size+1<v1.heap.size:=by omega
       have l2:w.heap.size+1+1<v1.heap.size:=by omega
       have l3:w.heap.size+1+1+1<v1.heap.size:=by omega
       have l4:w.heap.size+1+1+1+1<v1.heap.size:=by omega
       rcases hxb2 with rfl | rfl
       ·rw[Int.zero_mul] at hand
        rw[Int.add_zero] at ex0
        obtain rfl:=ex0
        cases ov
        ·go_wp2_with fail
         refine(cmpR _).mono ?_
         rintro en v2 ⟨rfl,hB2⟩
         have D2':=((D1'.setr hN x0 y1 y2 y3 wx0 wy1 wy2 wy3).alloc hN _).call hN hB2
         clear hB2 cmpR D1' arc0 arf0 amc0 arc1 arf1 amc1 arc2 arf2 amc2 arc3 arf3 amc3 awc aqc aqf
         have brc0:=(D2'.kr 0 _ rfl).1
         have brf0:=(D2'.kr 0 _ rfl).2
         have bmc0:=(D2'.km 0 _ rfl).1
         have brc1:=(D2'.kr 1 _ rfl).1
         have brf1:=(D2'.kr 1 _ rfl).2
         have bmc1:=(D2'.km 1 _ rfl).1
         have brc2:=(D2'.kr 2 _ rfl).1
         have brf2:=(D2'.kr 2 _ rfl).2
         have bmc2:=(D2'.km 2 _ rfl).1
         have brc3:=(D2'.kr 3 _ rfl).1
         have brf3:=(D2'.kr 3 _ rfl).2
         have bmc3:=(D2'.km 3 _ rfl).1
         have bwc:=(D2'.kw p _ hxn).1
         have bqc:=(D2'.kq p _ hold).1
         have bqf:=(D2'.kq p _ hold).2
         have sz2:=D2'.sz
         by_cases hcv:0<=cv
         ·go_wp2_with fail
          refine(subR _).mono ?_
          rintro en v3 ⟨rfl,hB3⟩
          have D3':=D2'.call hN hB3
          clear hB3 subR D2' brc0 brf0 bmc0 brc1 brf1 bmc1 brc2 brf2 bmc2 brc3 brf3 bmc3 bwc bqc bqf
          have crc0:=(D3'.kr 0 _ rfl).1
          have crf0:=(D3'.kr 0 _ rfl).2
          have cmc0:=(D3'.km 0 _ rfl).1
          have crc1:=(D3'.kr 1 _ rfl).1
          have crf1:=(D3'.kr 1 _ rfl).2
          have cmc1:=(D3'.km 1 _ rfl).1
          have crc2:=(D3'.kr 2 _ rfl).1
          have crf2:=(D3'.kr 2 _ rfl).2
          have cmc2:=(D3'.km 2 _ rfl).1
          have crc3:=(D3'.kr 3 _ rfl).1
          have crf3:=(D3'.kr 3 _ rfl).2
          have cmc3:=(D3'.km 3 _ rfl).1
          have cwc:=(D3'.kw p _ hxn).1
          have cqc:=(D3'.kq p _ hold).1
          have cqf:=(D3'.kq p _ hold).2
          have D4':=(D3'.setr hN z0 z1 z2 z3 wz0 wz1 wz2 wz3).setq hN p (by omega) qn g3
          clear D3'
          go_wp2
          have hstep:=H1
          have ht2:=H2
          have g4:=H4
          have hqn:=H5
          have hq0:=H6
          have hT:=H7
          unfold Hid at hstep ht2 g4 hqn hq0 hT
          have hT2:=hT (Or.inr (by omega))
          refine⟨⟨j+1,z0,z1,z2,z3,2*qk+1,tp/2,by omega,rfl,ht2.1,ht2.2,?_,hT2.2,by omega,g4,?_⟩,?_⟩
          ·rw[hqn];have:=D4';rw[List.set_set] at this;exact this
          ·rw[hstep,hT2.1,Int.add_mul];omega
          ·simp[intOf]<;>omega
         ·have hcn:cv<0:=by omega
          go_wp2
          have hstep:=H1
          have ht2:=H2
          have g1:=H3
          have g4:=H4
          have hq0:=H6
          have hF:=H8
          unfold Hid at hstep ht2 g1 g4 hq0 hF
          have hF2:=hF (by simp) (by omega)
          refine⟨⟨j+1,_,_,_,_,2*qk,tp/2,by omega,rfl,ht2.1,ht2.2,?_,hF2.2,by omega,by omega,?_⟩,?_⟩
          ·rw[<-g1];exact D2'
          ·rw[hstep,hF2.1]
          ·simp[intOf]<;>omega
        ·go_wp2_with fail
         refine(subR _).mono ?_
         rintro en v3 ⟨rfl,hB3⟩
         have D3':=((D1'.setr hN x0 y1 y2 y3 wx0 wy1 wy2 wy3).alloc hN _).call hN hB3
         clear hB3 subR D1' arc0 arf0 amc0 arc1 arf1 amc1 arc2 arf2 amc2 arc3 arf3 amc3 awc aqc aqf
         have crc0:=(D3'.kr 0 _ rfl).1
         have crf0:=(D3'.kr 0 _ rfl).2
         have cmc0:=(D3'.km 0 _ rfl).1
         have crc1:=(D3'.kr 1 _ rfl).1
         have crf1:=(D3'.kr 1 _ rfl).2
         have cmc1:=(D3'.km 1 _ rfl).1
         have crc2:=(D3'.kr 2 _ rfl).1
         have crf2:=(D3'.kr 2 _ rfl).2
         have cmc2:=(D3'.km 2 _ rfl).1
         have crc3:=(D3'.kr 3 _ rfl).1
         have crf3:=(D3'.kr 3 _ rfl).2
         have cmc3:=(D3'.km 3 _ rfl).1
         have cwc:=(D3'.kw p _ hxn).1
         have cqc:=(D3'.kq p _ hold).1
         have cqf:=(D3'.kq p _ hold).2
         have D4':=(D3'.setr hN z0 z1 z2 z3 wz0 wz1 wz2 wz3).setq hN p (by omega) qn g3
         clear D3'
         go_wp2
         have hstep:=H1
         have ht2:=H2
         have g4:=H4
         have hqn:=H5
         have hq0:=H6
         have hT:=H7
         unfold Hid at hstep ht2 g4 hqn hq0 hT
         have hT2:=hT (Or.inl (by simp))
         refine⟨⟨j+1,z0,z1,z2,z3,2*qk+1,tp/2,by omega,rfl,ht2.1,ht2.2,?_,hT2.2,by omega,g4,?_⟩,?_⟩
         ·rw[hqn];have:=D4';rw[List.set_set] at this;exact this
         ·rw[hstep,hT2.1,Int.add_mul];omega
         ·simp[intOf]<;>omega
       ·rw[Int.one_mul] at hand
        have hinc:IntKind.u64.wrap (y0+1)=x0:=by rw[IntKind.wrap_u64,<-ex0];exact Int.emod_eq_of_lt wx0.1 wx0.2
        clear ex0
        have tne:tp≠0:=by omega
        cases ov
        ·go_wp2_with fail
         refine(cmpR _).mono ?_
         rintro en v2 ⟨rfl,hB2⟩
         have D2':=((D1'.setr hN x0 y1 y2 y3 wx0 wy1 wy2 wy3).alloc hN _).call hN hB2
         clear hB2 cmpR D1' arc0 arf0 amc0 arc1 arf1 amc1 arc2 arf2 amc2 arc3 arf3 amc3 awc aqc aqf
         have brc0:=(D2'.kr 0 _ rfl).1
         have brf0:=(D2'.kr 0 _ rfl).2
         have bmc0:=(D2'.km 0 _ rfl).1
         have brc1:=(D2'.kr 1 _ rfl).1
         have brf1:=(D2'.kr 1 _ rfl).2
         have bmc1:=(D2'.km 1 _ rfl).1
         have brc2:=(D2'.kr 2 _ rfl).1
         have brf2:=(D2'.kr 2 _ rfl).2
         have bmc2:=(D2'.km 2 _ rfl).1
         have brc3:=(D2'.kr 3 _ rfl).1
         have brf3:=(D2'.kr 3 _ rfl).2
         have bmc3:=(D2'.km 3 _ rfl).1
         have bwc:=(D2'.kw p _ hxn).1
         have bqc:=(D2'.kq p _ hold).1
         have bqf:=(D2'.kq p _ hold).2
         have sz2:=D2'.sz
         by_cases hcv:0<=cv
         ·go_wp2_with fail
          refine(subR _).mono ?_
          rintro en v3 ⟨rfl,hB3⟩
          have D3':=D2'.call hN hB3
          clear hB3 subR D2' brc0 brf0 bmc0 brc1 brf1 bmc1 brc2 brf2 bmc2 brc3 brf3 bmc3 bwc bqc bqf
          have crc0:=(D3'.kr 0 _ rfl).1
          have crf0:=(D3'.kr 0 _ rfl).2
          have cmc0:=(D3'.km 0 _ rfl).1
          have crc1:=(D3'.kr 1 _ rfl).1
          have crf1:=(D3'.kr 1 _ rfl).2
          have cmc1:=(D3'.km 1 _ rfl).1
          have crc2:=(D3'.kr 2 _ rfl).1
          have crf2:=(D3'.kr 2 _ rfl).2
          have cmc2:=(D3'.km 2 _ rfl).1
          have crc3:=(D3'.kr 3 _ rfl).1
          have crf3:=(D3'.kr 3 _ rfl).2
          have cmc3:=(D3'.km 3 _ rfl).1
          have cwc:=(D3'.kw p _ hxn).1
          have cqc:=(D3'.kq p _ hold).1
          have cqf:=(D3'.kq p _ hold).2
          have D4':=(D3'.setr hN z0 z1 z2 z3 wz0 wz1 wz2 wz3).setq hN p (by omega) qn g3
          clear D3'
          go_wp2
          have hstep:=H1
          have ht2:=H2
          have g4:=H4
          have hqn:=H5
          have hq0:=H6
          have hT:=H7
          unfold Hid at hstep ht2 g4 hqn hq0 hT
          have hT2:=hT (Or.inr (by omega))
          refine⟨⟨j+1,z0,z1,z2,z3,2*qk+1,tp/2,by omega,rfl,ht2.1,ht2.2,?_,hT2.2,by omega,g4,?_⟩,?_⟩
          ·rw[hqn];have:=D4';rw[List.set_set] at this;exact this
          ·rw[hstep,hT2.1,Int.add_mul];omega
          ·simp[intOf]<;>omega
         ·have hcn:cv<0:=by omega
          go_wp2
          have hstep:=H1
          have ht2:=H2
          have g1:=H3
          have g4:=H4
          have hq0:=H6
          have hF:=H8
          unfold Hid at hstep ht2 g1 g4 hq0 hF
          have hF2:=hF (by simp) (by omega)
          refine⟨⟨j+1,_,_,_,_,2*qk,tp/2,by omega,rfl,ht2.1,ht2.2,?_,hF2.2,by omega,by omega,?_⟩,?_⟩
          ·rw[<-g1];exact D2'
          ·rw[hstep,hF2.1]
          ·simp[intOf]<;>omega
        ·go_wp2_with fail
         refine(subR _).mono ?_
         rintro en v3 ⟨rfl,hB3⟩
         have D3':=((D1'.setr hN x0 y1 y2 y3 wx0 wy1 wy2 wy3).alloc hN _).call hN hB3
         clear hB3 subR D1' arc0 arf0 amc0 arc1 arf1 amc1 arc2 arf2 amc2 arc3 arf3 amc3 awc aqc aqf
         have crc0:=(D3'.kr 0 _ rfl).1
         have crf0:=(D3'.kr 0 _ rfl).2
         have cmc0:=(D3'.km 0 _ rfl).1
         have crc1:=(D3'.kr 1 _ rfl).1
         have crf1:=(D3'.kr 1 _ rfl).2
         have cmc1:=(D3'.km 1 _ rfl).1
         have crc2:=(D3'.kr 2 _ rfl).1
         have crf2:=(D3'.kr 2 _ rfl).2
         have cmc2:=(D3'.km 2 _ rfl).1
         have crc3:=(D3'.kr 3 _ rfl).1
         have crf3:=(D3'.kr 3 _ rfl).2
         have cmc3:=(D3'.km 3 _ rfl).1
         have cwc:=(D3'.kw p _ hxn).1
         have cqc:=(D3'.kq p _ hold).1
         have cqf:=(D3'.kq p _ hold).2
         have D4':=(D3'.setr hN z0 z1 z2 z3 wz0 wz1 wz2 wz3).setq hN p (by omega) qn g3
         clear D3'
         go_wp2
         have hstep:=H1
         have ht2:=H2
         have g4:=H4
         have hqn:=H5
         have hq0:=H6
         have hT:=H7
         unfold Hid at hstep ht2 g4 hqn hq0 hT
         have hT2:=hT (Or.inl (by simp))
         refine⟨⟨j+1,z0,z1,z2,z3,2*qk+1,tp/2,by omega,rfl,ht2.1,ht2.2,?_,hT2.2,by omega,g4,?_⟩,?_⟩
         ·rw[hqn];have:=D4';rw[List.set_set] at this;exact this
         ·rw[hstep,hT2.1,Int.add_mul];omega
         ·simp[intOf]<;>omega
end Go.Proofs.YtbbohmgjphpfeaaGreatDoor
