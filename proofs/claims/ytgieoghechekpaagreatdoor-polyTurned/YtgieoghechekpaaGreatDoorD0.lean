import Derived.Test.YtgieoghechekpaaGreatDoorCL
import Derived.Test.YtgieoghechekpaaGreatDoorW1
namespace Go.Proofs.YtgieoghechekpaaGreatDoor
set_option linter.unusedVariables false
set_option linter.unusedSimpArgs false
set_option maxRecDepth 100000
set_option maxHeartbeats 4000000
section
open Go.RowKit
section
theorem CL.cells{w:World}{n b:Nat}{l:List Int}(h:CL w n l)(hn:n≠b)(o:Nat)(vs:List Value):CL (w.setCells b o vs) n l:=fun j x hj=>by
 rw[World.frozen?_setCells,World.cell?_setCells_out b vs o w _ (fun e=>absurd e hn)]
 exact h j x hj
theorem CL.cells_same{w:World}{b:Nat}{vs:List Value}{l:List Int}(h:w.there b 0 vs.length)(hv:vs=l.map (Value.int .u64)):CL (w.setCells b 0 vs) b l:=fun j x hj=>by
 subst hv
 have hl:j<l.length:=(List.getElem?_eq_some_iff.1 hj).1
 have hl':j<(l.map (Value.int .u64)).length:=by simpa using hl
 rw[World.frozen?_setCells]
 have h1:=World.cell?_setCells_in b (l.map (Value.int .u64)) 0 w (fun i hi=>(h i hi).1) j hl'
 have h2:=(h j hl').2
 simp only[Nat.zero_add] at h1 h2
 refine⟨?_,h2⟩
 rw[h1]
 obtain⟨_,rfl⟩:=List.getElem?_eq_some_iff.1 hj
 simp
theorem there_below{w w':World}{m n k:Nat}(h:w.there n 0 k)(hb:Below m w w')(hn:n<m):w'.there n 0 k:=fun j hj=>by
 rw[hb.cell (p:=⟨n,0+j,none⟩) hn,hb.frozen (p:=⟨n,0+j,none⟩) hn];exact h j hj
theorem there_alloc(u:World)(cs:Array Value)(t:TypeId)(n:Nat)(hn:n=cs.size):(u.alloc (.cells cs t)).there u.heap.size 0 n:=fun j hj=>by
 have hf:(u.alloc (.cells cs t)).frozen? ⟨u.heap.size,0+j,none⟩=false:=by simp[go_sem]
 refine⟨?_,hf⟩
 rw[cell_of_row _ u.heap.size (0+j) _ t (0,0) (heap_alloc_new _ _)]
 simp;omega
theorem Yq(l:List Int): ∀v∈l.map (Value.int .u64),v.oneCell'=true:=fun v hv=>by
 obtain⟨x,_,rfl⟩:=List.mem_map.1 hv;rfl
theorem copy_words{P:Program}(W:World)(t e:TypeId)(bs os cs bd n cd:Nat)(ls ld lr:List Int)(hS:CL W bs ls)(hD:CL W bd ld)(hn:ld.length=n)(hl:lr.length=n)(hr: ∀j,j<n->ls[os+j]?=lr[j]?)(hu:P.underlying t=some (.slice e))(hz:(P.info? e).map (·.size)=some 1):
 (Builtin.copy_ #[t,t] 3 #[.slice (some ⟨bd,0,none⟩) n cd,.slice (some ⟨bs,os,none⟩) n cs]).run P W= .ok (goInt n) (W.setCells bd 0 (lr.map (Value.int .u64))):=by
 have h:=run_copy_cells (P:=P) W t t 3 e bd 0 n cd ⟨bs,os,none⟩ n cs (lr.map (Value.int .u64)) hu hz (by rw[List.length_map,hl];exact(Nat.min_self n).symm) (fun j v hj=>?_) (fun j hj=>?_) (fun j hj=>?_) (Yq lr)
 ·rw[h,List.length_map,hl]
 ·rw[List.getElem?_map] at hj
  obtain⟨x,hx,rfl⟩:=Option.map_eq_some_iff.1 hj
  have hjn:j<n:=by rw[<-hl];exact(List.getElem?_eq_some_iff.1 hx).1
  have hc:=(hS (os+j) x (by rw[hr j hjn];exact hx)).1
  by_cases h0:j=0
  ·subst h0;simpa [Addr.add] using hc
  ·simpa [Addr.add,h0] using hc
 ·have hjn:j<ld.length:=by rw[hn,<-hl];simpa using hj
  rw[Nat.zero_add,(hD j _ (List.getElem?_eq_getElem hjn)).1];rfl
 ·have hjn:j<ld.length:=by rw[hn,<-hl];simpa using hj
  rw[Nat.zero_add];exact(hD j _ (List.getElem?_eq_getElem hjn)).2
theorem CL.there{w:World}{b:Nat}{l:List Int}(h:CL w b l):w.there b 0 l.length:=fun j hj=>by
 have:=h j _ (List.getElem?_eq_getElem hj)
 rw[Nat.zero_add,this.1];exact⟨rfl,this.2⟩
structure F4(N0 N1 N2 N3:Nat)(w:World)(X M cx cw cd:List Int)(up:Int)(f0 f1 f2 f3 f4 f5 f6 f7 f8 f9 f10:Bool)(t8 t9 t23 t24 t25 t26 t27 t28 t29:Value)(u:World):Prop where
 bel:Bw w u
 kx:CL u N0 X
 km:CL u N1 M
 kq:CL u N2 [0,0,0,0,0,0,0,0]
 kr:CL u N3 [0,0,0,0]
 sz:N3<u.heap.size
 c0:f0=true->t23= .agg (X.map (Value.int .u64)).toArray
 c1:f1=true->t24= .int .i64 up
 c2:f2=true->t25= .agg (cx.map (Value.int .u64)).toArray
 c3:f3=true->t26= .agg (M.map (Value.int .u64)).toArray
 c4:f4=true->t27= .agg (cw.map (Value.int .u64)).toArray
 c5:f5=true->t28= .int .i64 up
 c6:f6=true->t29= .agg (cd.map (Value.int .u64)).toArray
 a8:f7=true-> ∃b,t8= .pointer (some ⟨b,0,none⟩)/\N3<b/\b<u.heap.size/\u.there b 0 12/\(f9=true->CL u b cx)
 a9:f8=true-> ∃b,t9= .pointer (some ⟨b,0,none⟩)/\N3<b/\b<u.heap.size/\u.there b 0 12/\(f10=true->CL u b cd)
 ne:f7=true->f8=true->t8≠t9
 o9:f9=true->f7=true
 o10:f10=true->f8=true
variable {N0 N1 N2 N3:Nat} {w u v:World} {X M cx cw cd:List Int} {up:Int} {f0 f1 f2 f3 f4 f5 f6 f7 f8 f9 f10:Bool} {t8 t9 t23 t24 t25 t26 t27 t28 t29:Value}
theorem F4.call(h:F4 N0 N1 N2 N3 w X M cx cw cd up f0 f1 f2 f3 f4 f5 f6 f7 f8 f9 f10 t8 t9 t23 t24 t25 t26 t27 t28 t29 u)(l0:N0<=N3)(l1:N1<=N3)(l2:N2<=N3)(hB:Bw u v):
 F4 N0 N1 N2 N3 w X M cx cw cd up f0 f1 f2 f3 f4 f5 f6 f7 f8 f9 f10 t8 t9 t23 t24 t25 t26 t27 t28 t29 v:=by
 have hs:=hB.size
 have hz:=h.sz
 refine{h with bel:=Z3 h.bel hB,kx:=h.kx.below hB (by omega),km:=h.km.below hB (by omega),kq:=h.kq.below hB (by omega),kr:=h.kr.below hB (by omega),sz:=by omega,a8:=fun hf=>?_,a9:=fun hf=>?_}
 ·obtain⟨b,e,h1,h2,h3,h4⟩:=h.a8 hf
  exact⟨b,e,h1,by omega,there_below h3 hB h2,fun hg=>(h4 hg).below hB h2⟩
 ·obtain⟨b,e,h1,h2,h3,h4⟩:=h.a9 hf
  exact⟨b,e,h1,by omega,there_below h3 hB h2,fun hg=>(h4 hg).below hB h2⟩
theorem F4.new8(h:F4 N0 N1 N2 N3 w X M cx cw cd up f0 f1 f2 f3 f4 f5 f6 f7 f8 f9 f10 t8 t9 t23 t24 t25 t26 t27 t28 t29 u)(h7:f7=false)(l0:N0<=N3)(l1:N1<=N3)(l2:N2<=N3)(cs:Array Value)(hc:cs.size=12)(t:TypeId):
 F4 N0 N1 N2 N3 w X M cx cw cd up f0 f1 f2 f3 f4 f5 f6 true f8 f9 f10 (.pointer (some ⟨u.heap.size,0,none⟩)) t9 t23 t24 t25 t26 t27 t28 t29 (u.alloc (.cells cs t)):=by
 have k:=h.call l0 l1 l2 (Z0 (Z2 u) (.cells cs t))
 refine{k with a8:=fun _=>⟨_,rfl,h.sz,by simp,there_alloc u cs t 12 hc.symm,fun e=>absurd (h.o9 e) (by rw[h7];simp)⟩,ne:=fun _ hf e=>?_,o9:=fun _=>rfl}
 obtain⟨b,e9,_,h2,_⟩:=h.a9 hf
 rw[e9] at e;injection e with e;injection e with e;injection e with e;omega
theorem F4.new9(h:F4 N0 N1 N2 N3 w X M cx cw cd up f0 f1 f2 f3 f4 f5 f6 f7 f8 f9 f10 t8 t9 t23 t24 t25 t26 t27 t28 t29 u)(h8:f8=false)(l0:N0<=N3)(l1:N1<=N3)(l2:N2<=N3)(cs:Array Value)(hc:cs.size=12)(t:TypeId):
 F4 N0 N1 N2 N3 w X M cx cw cd up f0 f1 f2 f3 f4 f5 f6 f7 true f9 f10 t8 (.pointer (some ⟨u.heap.size,0,none⟩)) t23 t24 t25 t26 t27 t28 t29 (u.alloc (.cells cs t)):=by
 have k:=h.call l0 l1 l2 (Z0 (Z2 u) (.cells cs t))
 refine{k with a9:=fun _=>⟨_,rfl,h.sz,by simp,there_alloc u cs t 12 hc.symm,fun e=>absurd (h.o10 e) (by rw[h8];simp)⟩,ne:=fun hf _ e=>?_,o10:=fun _=>rfl}
 obtain⟨b,e8,_,h2,_⟩:=h.a8 hf
 rw[e8] at e;injection e with e;injection e with e;injection e with e;omega
theorem F4.put8{b:Nat}(h:F4 N0 N1 N2 N3 w X M cx cw cd up f0 f1 f2 f3 f4 f5 f6 true f8 f9 f10 (.pointer (some ⟨b,0,none⟩)) t9 t23 t24 t25 t26 t27 t28 t29 u)(l0:N0<=N3)(l1:N1<=N3)(l2:N2<=N3)(hl:cx.length=12)(hs:w.heap.size<=N3)(h8:f8=true):
 F4 N0 N1 N2 N3 w X M cx cw cd up f0 f1 f2 f3 f4 f5 f6 true f8 true f10 (.pointer (some ⟨b,0,none⟩)) t9 t23 t24 t25 t26 t27 t28 t29 (u.setCells b 0 (cx.map (Value.int .u64))):=by
 obtain⟨b',e,h1,h2,h3,h4⟩:=h.a8 rfl
 injection e with e;injection e with e;injection e with e;subst e
 obtain⟨b9,e9,g1,g2,g3,g4⟩:=h.a9 h8
 have hne:b9≠b:=fun e=>h.ne rfl h8 (by rw[e9,e])
 refine{h with bel:=Z4 (by omega) _ _ _ h.bel,kx:=h.kx.cells (by omega) _ _,km:=h.km.cells (by omega) _ _,kq:=h.kq.cells (by omega) _ _,kr:=h.kr.cells (by omega) _ _,sz:=by rw[Z1];exact h.sz,a8:=fun _=>⟨b,rfl,h1,by rw[Z1];exact h2,World.there_setCells h3 _ _ _,fun _=>CL.cells_same (by rw[List.length_map,hl];exact h3) rfl⟩,o9:=fun _=>rfl,a9:=fun _=>⟨b9,e9,g1,by rw[Z1];exact g2,World.there_setCells g3 _ _ _,fun hg=>(g4 hg).cells hne _ _⟩}
theorem F4.put9{b:Nat}(h:F4 N0 N1 N2 N3 w X M cx cw cd up f0 f1 f2 f3 f4 f5 f6 f7 true f9 f10 t8 (.pointer (some ⟨b,0,none⟩)) t23 t24 t25 t26 t27 t28 t29 u)(l0:N0<=N3)(l1:N1<=N3)(l2:N2<=N3)(hl:cd.length=12)(hs:w.heap.size<=N3)(h7:f7=true):
 F4 N0 N1 N2 N3 w X M cx cw cd up f0 f1 f2 f3 f4 f5 f6 f7 true f9 true t8 (.pointer (some ⟨b,0,none⟩)) t23 t24 t25 t26 t27 t28 t29 (u.setCells b 0 (cd.map (Value.int .u64))):=by
 obtain⟨b',e,h1,h2,h3,h4⟩:=h.a9 rfl
 injection e with e;injection e with e;injection e with e;subst e
 obtain⟨b8,e8,g1,g2,g3,g4⟩:=h.a8 h7
 have hne:b8≠b:=fun e=>h.ne h7 rfl (by rw[e8,e])
 refine{h with bel:=Z4 (by omega) _ _ _ h.bel,kx:=h.kx.cells (by omega) _ _,km:=h.km.cells (by omega) _ _,kq:=h.kq.cells (by omega) _ _,kr:=h.kr.cells (by omega) _ _,sz:=by rw[Z1];exact h.sz,a9:=fun _=>⟨b,rfl,h1,by rw[Z1];exact h2,World.there_setCells h3 _ _ _,fun _=>CL.cells_same (by rw[List.length_map,hl];exact h3) rfl⟩,o10:=fun _=>rfl,a8:=fun _=>⟨b8,e8,g1,by rw[Z1];exact g2,World.there_setCells g3 _ _ _,fun hg=>(g4 hg).cells hne _ _⟩}
end
end
section
theorem div_words(a b c d e f g h m0 m1 m2 m3 up:Int)(ha:W64 a)(hb:W64 b)(hc:W64 c)(hd:W64 d)(he:W64 e)(hf:W64 f)(hg:W64 g)(hh:W64 h)(hm0:W64 m0)(hm1:W64 m1)(hm2:W64 m2)(hm3:W64 m3)(hM:(V m0 m1 m2 m3)≠0)(u3:57896044618658097711785492504343953926634992332820282019728792003956564819968<=(V m0 m1 m2 m3)*2^up.toNat)(u4:(V m0 m1 m2 m3)*2^up.toNat<115792089237316195423570985008687907853269984665640564039457584007913129639936):
 ∃x0 x1 x2 x3 x4 x5 x6 x7 x8 x9 x10 x11 d0 d1 d2 d3 e4 e5 e6 e7 e8 e9 e10 e11:Int,[D0 ((V a b c d+V e f g h*115792089237316195423570985008687907853269984665640564039457584007913129639936)*2^up.toNat),D1 ((V a b c d+V e f g h*115792089237316195423570985008687907853269984665640564039457584007913129639936)*2^up.toNat),D2 ((V a b c d+V e f g h*115792089237316195423570985008687907853269984665640564039457584007913129639936)*2^up.toNat),D3 ((V a b c d+V e f g h*115792089237316195423570985008687907853269984665640564039457584007913129639936)*2^up.toNat),D0 (D4 ((V a b c d+V e f g h*115792089237316195423570985008687907853269984665640564039457584007913129639936)*2^up.toNat)),D1 (D4 ((V a b c d+V e f g h*115792089237316195423570985008687907853269984665640564039457584007913129639936)*2^up.toNat)),D2 (D4 ((V a b c d+V e f g h*115792089237316195423570985008687907853269984665640564039457584007913129639936)*2^up.toNat)),D3 (D4 ((V a b c d+V e f g h*115792089237316195423570985008687907853269984665640564039457584007913129639936)*2^up.toNat)),D0 (D4 (D4 ((V a b c d+V e f g h*115792089237316195423570985008687907853269984665640564039457584007913129639936)*2^up.toNat))),D1 (D4 (D4 ((V a b c d+V e f g h*115792089237316195423570985008687907853269984665640564039457584007913129639936)*2^up.toNat))),D2 (D4 (D4 ((V a b c d+V e f g h*115792089237316195423570985008687907853269984665640564039457584007913129639936)*2^up.toNat))),D3 (D4 (D4 ((V a b c d+V e f g h*115792089237316195423570985008687907853269984665640564039457584007913129639936)*2^up.toNat)))]=[x0,x1,x2,x3,x4,x5,x6,x7,x8,x9,x10,x11]/\[D0 (((V m0 m1 m2 m3)+V 0 0 0 0*115792089237316195423570985008687907853269984665640564039457584007913129639936)*2^up.toNat),D1 (((V m0 m1 m2 m3)+V 0 0 0 0*115792089237316195423570985008687907853269984665640564039457584007913129639936)*2^up.toNat),D2 (((V m0 m1 m2 m3)+V 0 0 0 0*115792089237316195423570985008687907853269984665640564039457584007913129639936)*2^up.toNat),D3 (((V m0 m1 m2 m3)+V 0 0 0 0*115792089237316195423570985008687907853269984665640564039457584007913129639936)*2^up.toNat),D0 (D4 (((V m0 m1 m2 m3)+V 0 0 0 0*115792089237316195423570985008687907853269984665640564039457584007913129639936)*2^up.toNat)),D1 (D4 (((V m0 m1 m2 m3)+V 0 0 0 0*115792089237316195423570985008687907853269984665640564039457584007913129639936)*2^up.toNat)),D2 (D4 (((V m0 m1 m2 m3)+V 0 0 0 0*115792089237316195423570985008687907853269984665640564039457584007913129639936)*2^up.toNat)),D3 (D4 (((V m0 m1 m2 m3)+V 0 0 0 0*115792089237316195423570985008687907853269984665640564039457584007913129639936)*2^up.toNat)),D0 (D4 (D4 (((V m0 m1 m2 m3)+V 0 0 0 0*115792089237316195423570985008687907853269984665640564039457584007913129639936)*2^up.toNat))),D1 (D4 (D4 (((V m0 m1 m2 m3)+V 0 0 0 0*115792089237316195423570985008687907853269984665640564039457584007913129639936)*2^up.toNat))),D2 (D4 (D4 (((V m0 m1 m2 m3)+V 0 0 0 0*115792089237316195423570985008687907853269984665640564039457584007913129639936)*2^up.toNat))),D3 (D4 (D4 (((V m0 m1 m2 m3)+V 0 0 0 0*115792089237316195423570985008687907853269984665640564039457584007913129639936)*2^up.toNat)))]=[d0,d1,d2,d3,e4,e5,e6,e7,e8,e9,e10,e11]/\(W64 x0/\W64 x1/\W64 x2/\W64 x3/\W64 x4/\W64 x5/\W64 x6/\W64 x7/\W64 x8/\W64 x9/\W64 x10/\W64 x11/\W64 d0/\W64 d1/\W64 d2/\W64 d3)/\V d0 d1 d2 d3=(V m0 m1 m2 m3)*2^up.toNat/\9223372036854775808<=d3/\
  (x0+18446744073709551616*(x1+18446744073709551616*(x2+18446744073709551616*(x3+18446744073709551616*(x4+18446744073709551616*(x5+18446744073709551616*(x6+18446744073709551616*(x7+18446744073709551616*V x8 x9 x10 x11))))))))=(V a b c d+V e f g h*115792089237316195423570985008687907853269984665640564039457584007913129639936)*2^up.toNat/\V x8 x9 x10 x11<V d0 d1 d2 d3:=by
 have hp:(0:Int)<2^up.toNat:=Int.pow_pos (by omega)
 have hb1:=V_bd a b c d ha hb hc hd
 have hb2:=V_bd e f g h he hf hg hh
 have hb3:=V_bd m0 m1 m2 m3 hm0 hm1 hm2 hm3
 have eD:(((V m0 m1 m2 m3)+V 0 0 0 0*115792089237316195423570985008687907853269984665640564039457584007913129639936)*2^up.toNat)=(V m0 m1 m2 m3)*2^up.toNat:=by
  have:V 0 0 0 0=0:=rfl
  rw[this];simp
 have hle:(2:Int)^up.toNat<=(V m0 m1 m2 m3)*2^up.toNat:=by
  have:=Int.mul_le_mul_of_nonneg_right (a:=1) (b:=(V m0 m1 m2 m3)) (c:=2^up.toNat) (by omega) (by omega)
  omega
 have hx1:((V a b c d+V e f g h*115792089237316195423570985008687907853269984665640564039457584007913129639936)*2^up.toNat)<=(115792089237316195423570985008687907853269984665640564039457584007913129639936*115792089237316195423570985008687907853269984665640564039457584007913129639936 -1)*2^up.toNat:=Int.mul_le_mul_of_nonneg_right (by omega) (by omega)
 have hx0:0<=((V a b c d+V e f g h*115792089237316195423570985008687907853269984665640564039457584007913129639936)*2^up.toNat):=Int.mul_nonneg (by omega) (by omega)
 rw[eD]
 generalize ((V a b c d+V e f g h*115792089237316195423570985008687907853269984665640564039457584007913129639936)*2^up.toNat)=n at *
 generalize (V m0 m1 m2 m3)*2^up.toNat=m at *
 generalize (2:Int)^up.toNat=p at *
 refine⟨_,_,_,_,_,_,_,_,_,_,_,_,_,_,_,_,_,_,_,_,_,_,_,_,rfl,rfl,⟨W_D0 _,W_D1 _,W_D2 _,W_D3 _,W_D0 _,W_D1 _,W_D2 _,W_D3 _,W_D0 _,W_D1 _,W_D2 _,W_D3 _,W_D0 _,W_D1 _,W_D2 _,W_D3 _⟩,?_,?_,?_,?_⟩
 ·rw[V_D];omega
 ·unfold D3;omega
 ·unfold V D0 D1 D2 D3 D4;omega
 ·rw[V_D,V_D];unfold D4;omega
theorem div_q(r x d q r':Int)(h0:0<=r)(h1:r<d)(hx:W64 x)(eq:(r*18446744073709551616+x)/d=q)(er:(r*18446744073709551616+x)%d=r'):r*18446744073709551616+x=q*d+r'/\W64 q/\0<=r'/\r'<d:=by
 obtain⟨x1,x2⟩:=hx
 have hd:=Int.mul_ediv_add_emod (r*18446744073709551616+x) d
 have e0:=Int.emod_nonneg (r*18446744073709551616+x) (b:=d) (by omega)
 have e1:=Int.emod_lt_of_pos (r*18446744073709551616+x) (b:=d) (by omega)
 rw[eq,er] at hd;rw[er] at e0 e1
 refine⟨by rw[Int.mul_comm q d];omega,⟨?_,?_⟩,e0,e1⟩
 ·rw[<-eq];exact Int.ediv_nonneg (by omega) (by omega)
 ·rw[<-eq];exact Int.ediv_lt_of_lt_mul (by omega) (by omega)
theorem div_step(P Q d r x q r':Int)(h:P=Q*d+r)(h':r*18446744073709551616+x=q*d+r'):(x+18446744073709551616*P)=(q+18446744073709551616*Q)*d+r':=by
 rw[h,Int.add_mul,Int.mul_assoc];omega
theorem div_end(n m p Q R:Int)(hp:0<p)(hm:0<m)(h:n*p=Q*(m*p)+R)(h0:0<=R)(h1:R<m*p):Q=n/m/\R/p=n%m:=by
 have e:n*p -R=Q*m*p:=by rw[h,Int.mul_assoc];omega
 have hR:R=(n -Q*m)*p:=by rw[Int.sub_mul];omega
 have k0:0<=n -Q*m:=by
  rcases Int.lt_or_le (n -Q*m) 0 with hl | hl
  ·exfalso
   have:=Int.mul_neg_of_neg_of_pos hl hp
   omega
  ·exact hl
 have k1:n -Q*m<m:=by
  rcases Int.lt_or_le (n -Q*m) m with hl | hl
  ·exact hl
  ·exfalso
   have:=Int.mul_le_mul_of_nonneg_right hl (Int.le_of_lt hp)
   omega
 have q:n/m=Q:=by
  have:n=(n -Q*m)+Q*m:=by omega
  rw[this,Int.add_mul_ediv_right _ _ (by omega),Int.ediv_eq_zero_of_lt k0 k1];omega
 refine⟨q.symm,?_⟩
 rw[hR,Int.mul_ediv_cancel _ (by omega),Int.emod_def,q,Int.mul_comm]
end
end Go.Proofs.YtgieoghechekpaaGreatDoor
