import Derived.Test.YtbbohmgjphpfeaaGreatDoorM3
namespace Go.Proofs.YtbbohmgjphpfeaaGreatDoor
set_option linter.unusedVariables false
set_option linter.unusedSimpArgs false
set_option maxRecDepth 100000
set_option maxHeartbeats 4000000
section
theorem div_words(a b c d e f g h m0 m1 m2 m3 up:Int)(ha:W64 a)(hb:W64 b)(hc:W64 c)(hd:W64 d)(he:W64 e)(hf:W64 f)(hg:W64 g)(hh:W64 h)(hm0:W64 m0)(hm1:W64 m1)(hm2:W64 m2)(hm3:W64 m3)(hM:(V m0 m1 m2 m3)≠0)(u3:0x8000000000000000000000000000000000000000000000000000000000000000<=(V m0 m1 m2 m3)*2^up.toNat)(u4:(V m0 m1 m2 m3)*2^up.toNat<0x10000000000000000000000000000000000000000000000000000000000000000):
 ∃x0 x1 x2 x3 x4 x5 x6 x7 x8 x9 x10 x11 d0 d1 d2 d3 e4 e5 e6 e7 e8 e9 e10 e11:Int,[D0 ((V a b c d+V e f g h*0x10000000000000000000000000000000000000000000000000000000000000000)*2^up.toNat),D1 ((V a b c d+V e f g h*0x10000000000000000000000000000000000000000000000000000000000000000)*2^up.toNat),D2 ((V a b c d+V e f g h*0x10000000000000000000000000000000000000000000000000000000000000000)*2^up.toNat),D3 ((V a b c d+V e f g h*0x10000000000000000000000000000000000000000000000000000000000000000)*2^up.toNat),D0 (D4 ((V a b c d+V e f g h*0x10000000000000000000000000000000000000000000000000000000000000000)*2^up.toNat)),D1 (D4 ((V a b c d+V e f g h*0x10000000000000000000000000000000000000000000000000000000000000000)*2^up.toNat)),D2 (D4 ((V a b c d+V e f g h*0x10000000000000000000000000000000000000000000000000000000000000000)*2^up.toNat)),D3 (D4 ((V a b c d+V e f g h*0x10000000000000000000000000000000000000000000000000000000000000000)*2^up.toNat)),D0 (D4 (D4 ((V a b c d+V e f g h*0x10000000000000000000000000000000000000000000000000000000000000000)*2^up.toNat))),D1 (D4 (D4 ((V a b c d+V e f g h*0x10000000000000000000000000000000000000000000000000000000000000000)*2^up.toNat))),D2 (D4 (D4 ((V a b c d+V e f g h*0x10000000000000000000000000000000000000000000000000000000000000000)*2^up.toNat))),D3 (D4 (D4 ((V a b c d+V e f g h*0x10000000000000000000000000000000000000000000000000000000000000000)*2^up.toNat)))]=[x0,x1,x2,x3,x4,x5,x6,x7,x8,x9,x10,x11]/\[D0 (((V m0 m1 m2 m3)+V 0 0 0 0*0x10000000000000000000000000000000000000000000000000000000000000000)*2^up.toNat),D1 (((V m0 m1 m2 m3)+V 0 0 0 0*0x10000000000000000000000000000000000000000000000000000000000000000)*2^up.toNat),D2 (((V m0 m1 m2 m3)+V 0 0 0 0*0x10000000000000000000000000000000000000000000000000000000000000000)*2^up.toNat),D3 (((V m0 m1 m2 m3)+V 0 0 0 0*0x10000000000000000000000000000000000000000000000000000000000000000)*2^up.toNat),D0 (D4 (((V m0 m1 m2 m3)+V 0 0 0 0*0x10000000000000000000000000000000000000000000000000000000000000000)*2^up.toNat)),D1 (D4 (((V m0 m1 m2 m3)+V 0 0 0 0*0x10000000000000000000000000000000000000000000000000000000000000000)*2^up.toNat)),D2 (D4 (((V m0 m1 m2 m3)+V 0 0 0 0*0x10000000000000000000000000000000000000000000000000000000000000000)*2^up.toNat)),D3 (D4 (((V m0 m1 m2 m3)+V 0 0 0 0*0x10000000000000000000000000000000000000000000000000000000000000000)*2^up.toNat)),D0 (D4 (D4 (((V m0 m1 m2 m3)+V 0 0 0 0*0x10000000000000000000000000000000000000000000000000000000000000000)*2^up.toNat))),D1 (D4 (D4 (((V m0 m1 m2 m3)+V 0 0 0 0*0x10000000000000000000000000000000000000000000000000000000000000000)*2^up.toNat))),D2 (D4 (D4 (((V m0 m1 m2 m3)+V 0 0 0 0*0x10000000000000000000000000000000000000000000000000000000000000000)*2^up.toNat))),D3 (D4 (D4 (((V m0 m1 m2 m3)+V 0 0 0 0*0x10000000000000000000000000000000000000000000000000000000000000000)*2^up.toNat)))]=[d0,d1,d2,d3,e4,e5,e6,e7,e8,e9,e10,e11]/\(W64 x0/\W64 x1/\W64 x2/\W64 x3/\W64 x4/\W64 x5/\W64 x6/\W64 x7/\W64 x8/\W64 x9/\W64 x10/\W64 x11/\W64 d0/\W64 d1/\W64 d2/\W64 d3)/\V d0 d1 d2 d3=(V m0 m1 m2 m3)*2^up.toNat/\9223372036854775808<=d3/\
  (x0+18446744073709551616*(x1+18446744073709551616*(x2+18446744073709551616*(x3+18446744073709551616*(x4+18446744073709551616*(x5+18446744073709551616*(x6+18446744073709551616*(x7+18446744073709551616*V x8 x9 x10 x11))))))))=(V a b c d+V e f g h*0x10000000000000000000000000000000000000000000000000000000000000000)*2^up.toNat/\V x8 x9 x10 x11<V d0 d1 d2 d3:=by
 have hp:(0:Int)<2^up.toNat:=Int.pow_pos (by omega)
 have hb1:=V_bd a b c d ha hb hc hd
 have hb2:=V_bd e f g h he hf hg hh
 have hb3:=V_bd m0 m1 m2 m3 hm0 hm1 hm2 hm3
 have eD:(((V m0 m1 m2 m3)+V 0 0 0 0*0x10000000000000000000000000000000000000000000000000000000000000000)*2^up.toNat)=(V m0 m1 m2 m3)*2^up.toNat:=by
  have:V 0 0 0 0=0:=rfl
  rw[this];simp
 have hle:(2:Int)^up.toNat<=(V m0 m1 m2 m3)*2^up.toNat:=by
  have:=Int.mul_le_mul_of_nonneg_right (a:=1) (b:=(V m0 m1 m2 m3)) (c:=2^up.toNat) (by omega) (by omega)
  omega
 have hx1:((V a b c d+V e f g h*0x10000000000000000000000000000000000000000000000000000000000000000)*2^up.toNat)<=(0x10000000000000000000000000000000000000000000000000000000000000000*0x10000000000000000000000000000000000000000000000000000000000000000 -1)*2^up.toNat:=Int.mul_le_mul_of_nonneg_right (by omega) (by omega)
 have hx0:0<=((V a b c d+V e f g h*0x10000000000000000000000000000000000000000000000000000000000000000)*2^up.toNat):=Int.mul_nonneg (by omega) (by omega)
 rw[eD]
 generalize ((V a b c d+V e f g h*0x10000000000000000000000000000000000000000000000000000000000000000)*2^up.toNat)=n at *
 generalize (V m0 m1 m2 m3)*2^up.toNat=m at *
 generalize (2:Int)^up.toNat=p at *
 refine⟨_,_,_,_,_,_,_,_,_,_,_,_,_,_,_,_,_,_,_,_,_,_,_,_,rfl,rfl,⟨W_D0 _,W_D1 _,W_D2 _,W_D3 _,W_D0 _,W_D1 _,W_D2 _,W_D3 _,W_D0 _,W_D1 _,W_D2 _,W_D3 _,W_D0 _,W_D1 _,W_D2 _,W_D3 _⟩,?_,?_,?_,?_⟩
 ·rw[V_D];omega
 ·unfold D3;omega
 ·unfold V D0 D1 D2 D3 D4;omega
 ·rw[V_D,V_D];unfold D4;omega
theorem div_q(r x d q r':Int)(h0:0<=r)(h1:r<d)(hx:W64 x)(eq:(r*18446744073709551616+x)/d=q)(er:(r*18446744073709551616+x)%d=r'):r*18446744073709551616+x=q*d+r'/\W64 q/\0<=r'/\r'<d:=by
 obtain⟨x1,x2⟩:=hx
 have hd:=Int.mul_ediv_add_emod (r*18446744073709551616+x) d
 have e0:=Int.emod_nonneg (r*18446744073709551616+x) (b:=d) (by omega)
 have e1:=Int.emod_lt_of_pos (r*18446744073709551616+x) (b:=d) (by omega)
 rw[eq,er] at hd;rw[er] at e0 e1
 refine⟨by rw[Int.mul_comm q d];omega,⟨?_,?_⟩,e0,e1⟩
 ·rw[<-eq];exact Int.ediv_nonneg (by omega) (by omega)
 ·rw[<-eq];exact Int.ediv_lt_of_lt_mul (by omega) (by omega)
theorem div_step(P Q d r x q r':Int)(h:P=Q*d+r)(h':r*18446744073709551616+x=q*d+r'):(x+18446744073709551616*P)=(q+18446744073709551616*Q)*d+r':=by
 rw[h,Int.add_mul,Int.mul_assoc];omega
theorem div_end(n m p Q R:Int)(hp:0<p)(hm:0<m)(h:n*p=Q*(m*p)+R)(h0:0<=R)(h1:R<m*p):Q=n/m/\R/p=n%m:=by
 have e:n*p -R=Q*m*p:=by rw[h,Int.mul_assoc];omega
 have hR:R=(n -Q*m)*p:=by rw[Int.sub_mul];omega
 have k0:0<=n -Q*m:=by
  rcases Int.lt_or_le (n -Q*m) 0 with hl | hl
  ·exfalso
   have:=Int.mul_neg_of_neg_of_pos hl hp
   omega
  ·exact hl
 have k1:n -Q*m<m:=by
  rcases Int.lt_or_le (n -Q*m) m with hl | hl
  ·exact hl
  ·exfalso
   have:=Int.mul_le_mul_of_nonneg_right hl (Int.le_of_lt hp)
   omega
 have q:n/m=Q:=by
  have:n=(n -Q*m)+Q*m:=by omega
  rw[this,Int.add_mul_ediv_right _ _ (by omega),Int.ediv_eq_zero_of_lt k0 k1];omega
 refine⟨q.symm,?_⟩
 rw[hR,Int.mul_ediv_cancel _ (by omega),Int.emod_def,q,Int.mul_comm]
end
section
open Go.RowKit
section
def HR:List Int->Int->Int
 | [],t=>t
 | x::r,t=>x+18446744073709551616*HR r t
structure DR(w wr:World)(nq n5 b8 N2 N3:Nat)(cx:List Int)(d0 d1 d2 d3 top:Int)(k:Nat)(r0 r1 r2 r3:Int)(ql:List Int):Prop where
 hk:k<=8
 bel:Bw w wr
 sz:nq<wr.heap.size
 kx:CL wr b8 cx
 kd:CL wr n5 [d0,d1,d2,d3]
 kr:CL wr (n5+1) [r0,r1,r2,r3]
 kq:CL wr nq ql
 k2:CL wr N2 [0,0,0,0,0,0,0,0]
 k3:CL wr N3 [0,0,0,0]
 w0:W64 r0
 w1:W64 r1
 w2:W64 r2
 w3:W64 r3
 lt:V r0 r1 r2 r3<V d0 d1 d2 d3
 ll:ql.length=8
 lw: ∀x∈ql,W64 x
 eq:HR ((cx.take 8).drop (8 -k)) top=HR (ql.drop (8 -k)) 0*V d0 d1 d2 d3+V r0 r1 r2 r3
theorem HR_step(cx ql:List Int)(top xn q D r s:Int)(k p:Nat)(hk:k<=7)(hp:p=7 -k)(hx:cx[p]?=some xn)(hl:ql.length=8)
 (h:HR ((cx.take 8).drop (8 -k)) top=HR (ql.drop (8 -k)) 0*D+r)(h':r*18446744073709551616+xn=q*D+s):
 HR ((cx.take 8).drop (8 -(k+1))) top=HR ((ql.set p q).drop (8 -(k+1))) 0*D+s:=by
 have e1:8 -(k+1)=p:=by omega
 have e2:8 -k=p+1:=by omega
 obtain⟨hc,hc'⟩:=List.getElem?_eq_some_iff.1 hx
 have l1:p<(cx.take 8).length:=by rw[List.length_take];omega
 have l2:p<(ql.set p q).length:=by rw[List.length_set];omega
 rw[e1,List.drop_eq_getElem_cons l1,List.drop_eq_getElem_cons l2,List.getElem_set_self,List.getElem_take,hc',List.drop_set_of_lt (by omega),HR,HR]
 rw[e2] at h
 exact div_step _ _ D r xn q s h h'
structure F13(w:World)(nq n5 b8 N2 N3 p:Nat)(cx ql:List Int)(d0 d1 d2 d3 r0 r1 r2 r3 xn q s0 s1 s2 s3:Int)(f0 f1 f2 f3 f4 f5 f6 f7 f8 f9 f10 f11 f12:Bool)(t41 t42 t43 t44 t45 t46 t47 t48 t49 t50 t51:Value)(u:World):Prop where
 bel:Bw w u
 sz:nq<u.heap.size
 kx:CL u b8 cx
 kd:CL u n5 [d0,d1,d2,d3]
 kr:CL u (n5+1) (if f12 then [s0,s1,s2,s3] else [r0,r1,r2,r3])
 kq:CL u nq (if f11 then ql.set p q else ql)
 k2:CL u N2 [0,0,0,0,0,0,0,0]
 k3:CL u N3 [0,0,0,0]
 o12:f12=true->f1=true
 c0:f0=true->t42= .int .i64 p
 c1:f1=true->t43=A4 r0 r1 r2 r3
 c2:f2=true->t44= .int .i64 p
 c3:f3=true->t45= .pointer (some ⟨b8,p,none⟩)
 c4:f4=true->t46= .int .u64 xn
 c5:f5=true->t47=A4 d0 d1 d2 d3
 c6:f6=true->t48= .tuple #[.int .u64 q,A4 s0 s1 s2 s3]
 c7:f7=true->t41= .tuple #[.int .u64 q,A4 s0 s1 s2 s3]
 c8:f8=true->t49= .int .u64 q
 c9:f9=true->t50=A4 s0 s1 s2 s3
 c10:f10=true->t51= .pointer (some ⟨nq,p,none⟩)
section
variable {w u v:World} {nq n5 b8 N2 N3 p:Nat} {cx ql:List Int} {d0 d1 d2 d3 r0 r1 r2 r3 xn q s0 s1 s2 s3:Int} {f0 f1 f2 f3 f4 f5 f6 f7 f8 f9 f10 f11 f12:Bool} {t41 t42 t43 t44 t45 t46 t47 t48 t49 t50 t51:Value}
theorem F13.call(h:F13 w nq n5 b8 N2 N3 p cx ql d0 d1 d2 d3 r0 r1 r2 r3 xn q s0 s1 s2 s3 f0 f1 f2 f3 f4 f5 f6 f7 f8 f9 f10 f11 f12 t41 t42 t43 t44 t45 t46 t47 t48 t49 t50 t51 u)(l0:b8<=nq)(l1:n5<nq)(l2:N2<=nq)(l3:N3<=nq)(hB:Bw u v):
 F13 w nq n5 b8 N2 N3 p cx ql d0 d1 d2 d3 r0 r1 r2 r3 xn q s0 s1 s2 s3 f0 f1 f2 f3 f4 f5 f6 f7 f8 f9 f10 f11 f12 t41 t42 t43 t44 t45 t46 t47 t48 t49 t50 t51 v:=by
 have hs:=hB.size
 have hz:=h.sz
 exact{h with bel:=Z6 h.bel hB,sz:=by omega,kx:=h.kx.below hB (by omega),kd:=h.kd.below hB (by omega),kr:=h.kr.below hB (by omega),kq:=h.kq.below hB (by omega),k2:=h.k2.below hB (by omega),k3:=h.k3.below hB (by omega)}
theorem F13.putq(h:F13 w nq n5 b8 N2 N3 p cx ql d0 d1 d2 d3 r0 r1 r2 r3 xn q s0 s1 s2 s3 f0 f1 f2 f3 f4 f5 f6 f7 f8 f9 f10 f11 f12 t41 t42 t43 t44 t45 t46 t47 t48 t49 t50 t51 u)(h11:f11=false)(l0:b8<nq)(l1:n5+1<nq)(l2:N2<nq)(l3:N3<nq)(hw:w.heap.size<=nq)(hp:p<ql.length):
 F13 w nq n5 b8 N2 N3 p cx ql d0 d1 d2 d3 r0 r1 r2 r3 xn q s0 s1 s2 s3 f0 f1 f2 f3 f4 f5 f6 f7 f8 f9 f10 true f12 t41 t42 t43 t44 t45 t46 t47 t48 t49 t50 t51 (u.setCell ⟨nq,p,none⟩ (.int .u64 q)):=by
 have kq:=h.kq
 rw[h11] at kq
 refine{h with bel:=h.bel.setCell (by exact hw) _,sz:=by simpa using h.sz,kx:=h.kx.other _ (by simp;omega) _,kd:=h.kd.other _ (by simp;omega) _,kr:=h.kr.other _ (by simp;omega) _,kq:=?_,k2:=h.k2.other _ (by simp;omega) _,k3:=h.k3.other _ (by simp;omega) _}
 simpa using CL.set kq p (by simpa using hp) q
theorem F13.putr(h:F13 w nq n5 b8 N2 N3 p cx ql d0 d1 d2 d3 r0 r1 r2 r3 xn q s0 s1 s2 s3 f0 f1 f2 f3 f4 f5 f6 f7 f8 f9 f10 f11 f12 t41 t42 t43 t44 t45 t46 t47 t48 t49 t50 t51 u)(l0:b8<n5)(l1:n5+1<nq)(l2:N2<n5)(l3:N3<n5)(hw:w.heap.size<=n5)(h1:f1=true):
 F13 w nq n5 b8 N2 N3 p cx ql d0 d1 d2 d3 r0 r1 r2 r3 xn q s0 s1 s2 s3 f0 f1 f2 f3 f4 f5 f6 f7 f8 f9 f10 f11 true t41 t42 t43 t44 t45 t46 t47 t48 t49 t50 t51 (u.setCells (n5+1) 0 [.int .u64 s0,.int .u64 s1,.int .u64 s2,.int .u64 s3]):=by
 refine{h with bel:=Za (by omega) _ _ _ h.bel,sz:=by rw[Z2];exact h.sz,kx:=h.kx.cells (by omega) _ _,kd:=h.kd.cells (by omega) _ _,kr:=?_,kq:=h.kq.cells (by omega) _ _,k2:=h.k2.cells (by omega) _ _,k3:=h.k3.cells (by omega) _ _,o12:=fun _=>h1}
 refine CL.cells_same ?_ rfl
 have:=h.kr.there
 cases f12<;>exact this
end
structure F15(w:World)(nq n5 N2 N3:Nat)(q0 q1 q2 q3 q4 q5 q6 q7 r0 r1 r2 r3 up s0 s1 s2 s3:Int)(f0 f1 f2 f3 f4 f5 f6:Bool)(t53 t54 t55 t56:Value)(u:World):Prop where
 bel:Bw w u
 sz:nq<u.heap.size
 kr:CL u (n5+1) [r0,r1,r2,r3]
 kq:CL u nq [q0,q1,q2,q3,q4,q5,q6,q7]
 k2:CL u N2 (if f4 then [q0,q1,q2,q3,q4,q5,q6,q7] else [0,0,0,0,0,0,0,0])
 k3:CL u N3 (if f5 then [s0,s1,s2,s3] else [0,0,0,0])
 c0:f0=true->t53=A8 q0 q1 q2 q3 q4 q5 q6 q7
 c1:f1=true->t54=A4 r0 r1 r2 r3
 c2:f2=true->t55= .int .i64 up
 c3:f3=true->t56=A4 s0 s1 s2 s3
section
variable {w u v:World} {nq n5 N2 N3:Nat} {q0 q1 q2 q3 q4 q5 q6 q7 r0 r1 r2 r3 up s0 s1 s2 s3:Int} {f0 f1 f2 f3 f4 f5 f6:Bool} {t53 t54 t55 t56:Value}
theorem F15.call(h:F15 w nq n5 N2 N3 q0 q1 q2 q3 q4 q5 q6 q7 r0 r1 r2 r3 up s0 s1 s2 s3 f0 f1 f2 f3 f4 f5 f6 t53 t54 t55 t56 u)(l1:n5<nq)(l2:N2<=nq)(l3:N3<=nq)(hB:Bw u v):
 F15 w nq n5 N2 N3 q0 q1 q2 q3 q4 q5 q6 q7 r0 r1 r2 r3 up s0 s1 s2 s3 f0 f1 f2 f3 f4 f5 f6 t53 t54 t55 t56 v:=by
 have hs:=hB.size
 have hz:=h.sz
 exact{h with bel:=Z6 h.bel hB,sz:=by omega,kr:=h.kr.below hB (by omega),kq:=h.kq.below hB (by omega),k2:=h.k2.below hB (by omega),k3:=h.k3.below hB (by omega)}
theorem F15.put2(h:F15 w nq n5 N2 N3 q0 q1 q2 q3 q4 q5 q6 q7 r0 r1 r2 r3 up s0 s1 s2 s3 f0 f1 f2 f3 f4 f5 f6 t53 t54 t55 t56 u)(l1:N2<n5)(l2:n5<nq)(l3:N2<N3)(hw:w.heap.size<=N2):
 F15 w nq n5 N2 N3 q0 q1 q2 q3 q4 q5 q6 q7 r0 r1 r2 r3 up s0 s1 s2 s3 f0 f1 f2 f3 true f5 f6 t53 t54 t55 t56 (u.setCells N2 0 [.int .u64 q0,.int .u64 q1,.int .u64 q2,.int .u64 q3,.int .u64 q4,.int .u64 q5,.int .u64 q6,.int .u64 q7]):=by
 refine{h with bel:=Za (by omega) _ _ _ h.bel,sz:=by rw[Z2];exact h.sz,kr:=h.kr.cells (by omega) _ _,kq:=h.kq.cells (by omega) _ _,k2:=?_,k3:=h.k3.cells (by omega) _ _}
 refine CL.cells_same ?_ rfl
 have:=h.k2.there
 cases f4<;>exact this
theorem F15.put3(h:F15 w nq n5 N2 N3 q0 q1 q2 q3 q4 q5 q6 q7 r0 r1 r2 r3 up s0 s1 s2 s3 f0 f1 f2 f3 f4 f5 f6 t53 t54 t55 t56 u)(l1:N3<n5)(l2:n5<nq)(l3:N2<N3)(hw:w.heap.size<=N3):
 F15 w nq n5 N2 N3 q0 q1 q2 q3 q4 q5 q6 q7 r0 r1 r2 r3 up s0 s1 s2 s3 f0 f1 f2 f3 f4 true f6 t53 t54 t55 t56 (u.setCells N3 0 [.int .u64 s0,.int .u64 s1,.int .u64 s2,.int .u64 s3]):=by
 refine{h with bel:=Za (by omega) _ _ _ h.bel,sz:=by rw[Z2];exact h.sz,kr:=h.kr.cells (by omega) _ _,kq:=h.kq.cells (by omega) _ _,k2:=h.k2.cells (by omega) _ _,k3:=?_}
 refine CL.cells_same ?_ rfl
 have:=h.k3.there
 cases f5<;>exact this
end
theorem list8L(l:List Int)(h:l.length=8): ∃q0 q1 q2 q3 q4 q5 q6 q7,l=[q0,q1,q2,q3,q4,q5,q6,q7]:=by
 match l,h with
 | [a,b,c,d,e,f,g,i],_=>exact⟨a,b,c,d,e,f,g,i,rfl⟩
theorem div_fin(n m P d r X q0 q1 q2 q3 q4 q5 q6 q7:Int)(h0:W64 q0)(h1:W64 q1)(h2:W64 q2)(h3:W64 q3)(h4:W64 q4)(h5:W64 q5)(h6:W64 q6)(h7:W64 q7)(hp:0<P)(hm:0<m)(hX:X=n*P)(hd:d=m*P)(h:X=(q0+18446744073709551616*(q1+18446744073709551616*(q2+18446744073709551616*(q3+18446744073709551616*(q4+18446744073709551616*(q5+18446744073709551616*(q6+18446744073709551616*(q7+18446744073709551616*0))))))))*d+r)(k0:0<=r)(k1:r<d):WV (n/m)=A8 q0 q1 q2 q3 q4 q5 q6 q7/\r/P=n%m:=by
 subst hd
 rw[hX] at h
 obtain⟨e1,e2⟩:=div_end n m P (q0+18446744073709551616*(q1+18446744073709551616*(q2+18446744073709551616*(q3+18446744073709551616*(q4+18446744073709551616*(q5+18446744073709551616*(q6+18446744073709551616*(q7+18446744073709551616*0)))))))) r hp hm h k0 k1
 refine⟨?_,e2⟩
 rw[<-e1]
 obtain⟨a0,a1,a2,a3,a4⟩:=D_of (q0+18446744073709551616*(q1+18446744073709551616*(q2+18446744073709551616*(q3+18446744073709551616*(q4+18446744073709551616*(q5+18446744073709551616*(q6+18446744073709551616*(q7+18446744073709551616*0)))))))) q0 q1 q2 q3 (V q4 q5 q6 q7) h0 h1 h2 h3 (by unfold V;omega)
 obtain⟨b0,b1,b2,b3,b4⟩:=D_of (V q4 q5 q6 q7) q4 q5 q6 q7 0 h4 h5 h6 h7 (by omega)
 rw[WV,a0,a1,a2,a3,a4,b0,b1,b2,b3]
end
end
end Go.Proofs.YtbbohmgjphpfeaaGreatDoor
