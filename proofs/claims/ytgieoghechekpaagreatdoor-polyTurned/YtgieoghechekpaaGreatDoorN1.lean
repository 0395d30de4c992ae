import Derived.Test.YtgieoghechekpaaGreatDoorM4
import Derived.Test.YtgieoghechekpaaGreatDoorD1
namespace Go.Proofs.YtgieoghechekpaaGreatDoor
set_option linter.unusedVariables false
set_option linter.unusedSimpArgs false
set_option maxRecDepth 100000
set_option maxHeartbeats 4000000
section
open Go.RowKit
def In(n:Int):Prop:=0<=n/\n<115792089237316195423570985008687907853269984665640564039457584007913129639936
def InW(n:Int):Prop:=0<=n/\n<115792089237316195423570985008687907853269984665640564039457584007913129639936*115792089237316195423570985008687907853269984665640564039457584007913129639936
def ovB(a b:Int):Bool:=decide (115792089237316195423570985008687907853269984665640564039457584007913129639936<=a+b)
def ltB(a b:Int):Bool:=decide (a<b)
theorem V_In{n:Int}(h:In n):V (D0 n) (D1 n) (D2 n) (D3 n)=n:=by rw[V_D];unfold In at h;omega
theorem V_InW{n:Int}(h:InW n):V (D0 n) (D1 n) (D2 n) (D3 n)+V (D0 (D4 n)) (D1 (D4 n)) (D2 (D4 n)) (D3 (D4 n))*115792089237316195423570985008687907853269984665640564039457584007913129639936=n:=by
 unfold InW at h;rw[V_D,V_D];unfold D4;omega
theorem In_V{a b c d:Int}(ha:W64 a)(hb:W64 b)(hc:W64 c)(hd:W64 d):In (V a b c d):=V_bd a b c d ha hb hc hd
theorem NV_V{a b c d:Int}(ha:W64 a)(hb:W64 b)(hc:W64 c)(hd:W64 d):NV (V a b c d)=A4 a b c d:=by
 obtain⟨h0,h1,h2,h3,_⟩:=D_of (V a b c d) a b c d 0 ha hb hc hd (by omega)
 rw[NV,h0,h1,h2,h3]
theorem In.wide{n:Int}(h:In n):InW n:=by unfold In at h;unfold InW;omega
theorem In_mul{a b:Int}(ha:In a)(hb:In b):InW (a*b):=by
 refine⟨Int.mul_nonneg ha.1 hb.1,?_⟩
 have k1:=Int.mul_le_mul_of_nonneg_right (a:=a) (b:=115792089237316195423570985008687907853269984665640564039457584007913129639936 -1) (by have:=ha.2;omega) hb.1
 have:=hb.2;omega
theorem Zd{n m:Int}(hm:In m)(h:m≠0):In (n%m):=by
 have h0:=hm.1
 exact⟨Int.emod_nonneg _ h,by have:=Int.emod_lt_of_pos n (show 0<m by omega);have:=hm.2;omega⟩
theorem WV_In{n:Int}(h:In n):WV n=A8 (D0 n) (D1 n) (D2 n) (D3 n) 0 0 0 0:=by
 have e:D4 n=0:=by unfold D4;unfold In at h;omega
 rw[WV,e];rfl
theorem nAdd(a b:Int)(w:World)(ha:In a)(hb:In b):CC 58 #[NV a,NV b] w (.tuple #[NV (a+b),.bool (ovB a b)]):=by
 have k:=Add_any _ _ _ _ _ _ _ _ w (W_D0 a) (W_D1 a) (W_D2 a) (W_D3 a) (W_D0 b) (W_D1 b) (W_D2 b) (W_D3 b)
 simp only[V_In ha,V_In hb] at k
 have e:(D4 (a+b)==1)=ovB a b:=by
  unfold In at ha hb;unfold ovB D4;rw[Bool.eq_iff_iff];simp;omega
 rw[e] at k
 exact k
theorem nSub(a b:Int)(w:World)(ha:In a)(hb:In b):CC 92 #[NV a,NV b] w (.tuple #[NV (a -b),.bool (ltB a b)]):=by
 have k:=Sub_any _ _ _ _ _ _ _ _ w (W_D0 a) (W_D1 a) (W_D2 a) (W_D3 a) (W_D0 b) (W_D1 b) (W_D2 b) (W_D3 b)
 simp only[V_In ha,V_In hb] at k
 have e:(-D4 (a -b)==1)=ltB a b:=by
  unfold In at ha hb;unfold ltB D4;rw[Bool.eq_iff_iff];simp;omega
 rw[e] at k
 exact k
theorem nMul(a b:Int)(w:World)(ha:In a)(hb:In b):CC 72 #[NV a,NV b] w (WV (a*b)):=by
 have k:=Mul_any _ _ _ _ _ _ _ _ w (W_D0 a) (W_D1 a) (W_D2 a) (W_D3 a) (W_D0 b) (W_D1 b) (W_D2 b) (W_D3 b)
 simp only[V_In ha,V_In hb] at k
 exact k
theorem nDivide(n m:Int)(w:World)(hn:InW n)(hm:In m)(h:m≠0):CC 75 #[WV n,NV m] w (.tuple #[WV (n/m),NV (n%m),.int .i64 0]):=by
 have k:=Divide_1 _ _ _ _ _ _ _ _ _ _ _ _ w (W_D0 n) (W_D1 n) (W_D2 n) (W_D3 n) (W_D0 (D4 n)) (W_D1 (D4 n)) (W_D2 (D4 n)) (W_D3 (D4 n)) (W_D0 m) (W_D1 m) (W_D2 m) (W_D3 m) (by rw[V_In hm];exact h)
 simp only[V_In hm,V_InW hn] at k
 exact k
theorem X0(n:Int)(w:World)(hn:In n):CC 59 #[NV n] w (WV n):=by
 rw[WV_In hn];exact Widen_any _ _ _ _ w
theorem X9{k:Int}(h0:0<=k)(h1:k<18446744073709551616):NV k=A4 k 0 0 0:=by
 have e0:D0 k=k:=by unfold D0;omega
 have e1:D1 k=0:=by unfold D1;omega
 have e2:D2 k=0:=by unfold D2;omega
 have e3:D3 k=0:=by unfold D3;omega
 rw[NV,e0,e1,e2,e3]
theorem nOf(k:Int)(w:World)(h0:0<=k)(h1:k<18446744073709551616):CC 35 #[.int .u64 k] w (NV k):=by
 rw[X9 h0 h1];exact of_any k w
section
section
variable {R:Rg} {P:Program} {ops:Array Oper} {Q:Exit->Act->World->Prop} {f:Nat->Bool} {t:Nat->Value} {u:World} {a:Act} {i:Nat} {o:Oper}
theorem g_op{v:Value}(h: ∀(ev:Operand->Value) (u:World),(∀x y,evR R i o x=some y->ev x=y)->(execOp ev o).run P u= .ok (.value v) u)(hv:some v=Zl i R.G:=by rfl)(hc:R.chk ops i o=true:=by rfl):OG R P ops Q i o:=
 Zm hv hc fun f t u a X K hK=>Zp (h a.eval u (fun x y hxy=>X.ev hxy)) hK
end
def rotr(x n:Nat):Nat:=(x<<<(32 -n))%4294967296 ||| x>>>n
def chN(e f g:Nat):Nat:=(e&&&f)^^^((4294967295^^^e)&&&g)
def maN(a b c:Nat):Nat:=(a&&&b)^^^(a&&&c)^^^(b&&&c)
def ls0(x:Nat):Nat:=rotr x 7^^^rotr x 18^^^x>>>3
def ls1(x:Nat):Nat:=rotr x 17^^^rotr x 19^^^x>>>10
def gs0(x:Nat):Nat:=rotr x 2^^^rotr x 13^^^rotr x 22
def gs1(x:Nat):Nat:=rotr x 6^^^rotr x 11^^^rotr x 25
abbrev M32:Nat:=4294967296
end
section
section
variable {R:Rg} {P:Program} {ops:Array Oper} {Q:Exit->Act->World->Prop} {f:Nat->Bool} {t:Nat->Value} {u:World} {a:Act} {i:Nat} {o:Oper}
end
def U8(l:List Nat):List Value:=l.map fun(x:Nat)=>.int .u8 (x:Int)
theorem U8_len(l:List Nat):(U8 l).length=l.length:=List.length_map ..
theorem U8_get(l:List Nat)(j:Nat)(h:j<l.length):(U8 l)[j]?=some (.int .u8 ((l.getD j 0:Nat):Int)):=by simp[U8,List.getElem?_eq_getElem h]
theorem l8{b c:Nat}{v:Int}(w:World)(h:w.cell? ⟨b,c,none⟩=some (.int .u8 v)):(Instr.loadAt 5 (.pointer (some ⟨b,c,none⟩))).run Tryz.prog w= .ok (.int .u8 v) w:=by go_simp
theorem s8{b c:Nat}{v x:Int}(w:World)(h:w.cell? ⟨b,c,none⟩=some (.int .u8 v))(hf:w.frozen? ⟨b,c,none⟩=false):(Instr.storeAt 5 (.pointer (some ⟨b,c,none⟩)) (.int .u8 x)).run Tryz.prog w= .ok () (w.setCell ⟨b,c,none⟩ (.int .u8 x)):=by go_simp
end
def z64:List Nat:=List.replicate 64 0
def z32:List Nat:=List.replicate 32 0
theorem Zv(p q:Operand)(x y:Int)(b:Bool)(w:World)(h:decide (x<y)=b):(do eqGuard .lss 3 p q (.int .i64 x) (.int .i64 y);binOp .lss 3 (.int .i64 x) (.int .i64 y):Sem Value).run Tryz.prog w= .ok (.bool b) w:=by
 subst h;go_simp
theorem Xh(p q:Operand)(x y z:Int)(w:World)(h:x+y=z)(h1: -9223372036854775808<=z)(h2:z<9223372036854775808):(do eqGuard .add 3 p q (.int .i64 x) (.int .i64 y);binOp .add 3 (.int .i64 x) (.int .i64 y):Sem Value).run Tryz.prog w= .ok (.int .i64 z) w:=by
 have e:IntKind.i64.wrap z=z:=by rw[IntKind.wrap_i64];omega
 subst h;go_simp
theorem sub_i(p q:Operand)(x y z:Int)(w:World)(h:x -y=z)(h1: -9223372036854775808<=z)(h2:z<9223372036854775808):(do eqGuard .sub 3 p q (.int .i64 x) (.int .i64 y);binOp .sub 3 (.int .i64 x) (.int .i64 y):Sem Value).run Tryz.prog w= .ok (.int .i64 z) w:=by
 have e:IntKind.i64.wrap z=z:=by rw[IntKind.wrap_i64];omega
 subst h;go_simp
def spA(bs:List Nat):Nat->List Nat
 | 0=>z64
 | k+1=>(spA bs k).set (k/4) (((spA bs k).getD (k/4) 0<<<8)%4294967296 ||| bs.getD k 0)
def spS(l:List Nat)(t:Nat):Nat:=(((ls1 (l.getD (t -2) 0)+l.getD (t -7) 0)%4294967296+ls0 (l.getD (t -15) 0))%4294967296+l.getD (t -16) 0)%4294967296
def spB(ws:List Nat):Nat->List Nat
 | 0=>ws
 | k+1=>(spB ws k).set (k+16) (spS (spB ws k) (k+16))
def spread(bs:List Nat):List Nat:=spB (spA bs 64) 48
structure WW(n:Nat)(l:List Nat):Prop where
 len:l.length=n
 lt: ∀j,l.getD j 0<M32
theorem getD_set(l:List Nat)(i j x:Nat):(l.set i x).getD j 0=if i=j/\j<l.length then x else l.getD j 0:=by
 by_cases h:i=j
 ·subst h
  by_cases h2:i<l.length
  ·rw[if_pos ⟨rfl,h2⟩];simp[h2]
  ·rw[if_neg (fun h=>h2 h.2)];simp[List.getElem?_eq_none (show l.length<=i by omega),List.getElem?_set,h2]
 ·rw[if_neg (fun h'=>h h'.1)];simp[List.getElem?_set,h]
theorem WW.set{n:Nat}{l:List Nat}(h:WW n l)(i x:Nat)(hx:x<M32):WW n (l.set i x) where
 len:=by rw[List.length_set];exact h.len
 lt:=fun j=>by
  rw[getD_set];split
  ·exact hx
  ·exact h.lt j
def kcs:List Nat:=[1116352408,1899447441,3049323471,3921009573,961987163,1508970993,2453635748,2870763221,3624381080,310598401,607225278,1426881987,1925078388,2162078206,2614888103,3248222580,3835390401,4022224774,264347078,604807628,770255983,1249150122,1555081692,1996064986,2554220882,2821834349,2952996808,3210313671,3336571891,3584528711,113926993,338241895,666307205,773529912,1294757372,1396182291,1695183700,1986661051,2177026350,2456956037,2730485921,2820302411,3259730800,3345764771,3516065817,3600352804,4094571909,275423344,430227734,506948616,659060556,883997877,958139571,1322822218,1537002063,1747873779,1955562222,2024104815,2227730452,2361852424,2428436474,2756734187,3204031479,3329325298]
def fst8:List Nat:=[1779033703,3144134277,1013904242,2773480762,1359893119,2600822924,528734635,1541459225]
def tw1(s:List Nat)(k w:Nat):Nat:=((((s.getD 7 0+gs1 (s.getD 4 0))%4294967296+chN (s.getD 4 0) (s.getD 5 0) (s.getD 6 0))%4294967296+k)%4294967296+w)%4294967296
def tw2(s:List Nat):Nat:=(gs0 (s.getD 0 0)+maN (s.getD 0 0) (s.getD 1 0) (s.getD 2 0))%4294967296
def st8(s:List Nat)(k w:Nat):List Nat:=[(tw1 s k w+tw2 s)%4294967296,s.getD 0 0,s.getD 1 0,s.getD 2 0,(s.getD 3 0+tw1 s k w)%4294967296,s.getD 4 0,s.getD 5 0,s.getD 6 0]
def rds(ss ws:List Nat):Nat->List Nat
 | 0=>ss
 | i+1=>st8 (rds ss ws i) (kcs.getD i 0) (ws.getD i 0)
def sms(ss vs:List Nat):Nat->List Nat
 | 0=>ss
 | i+1=>(sms ss vs i).set i (((sms ss vs i).getD i 0+vs.getD i 0)%4294967296)
def blk(ss bs:List Nat):List Nat:=sms ss (rds ss (spread bs) 64) 8
theorem sms_W{ss:List Nat}(h:WW 8 ss)(vs:List Nat): ∀i,WW 8 (sms ss vs i)
 | 0=>h
 | i+1=>(sms_W h vs i).set _ _ (Nat.mod_lt _ (by decide))
theorem blk_W{ss:List Nat}(h:WW 8 ss)(bs:List Nat):WW 8 (blk ss bs):=sms_W h _ 8
def tld(ss:List Nat):Nat->List Nat
 | 0=>z32
 | i+1=>(tld ss i).set i ((ss.getD (i/4) 0>>>(8*(3 -i%4)))%256)
def told(ss:List Nat):List Nat:=tld ss 32
structure BB(n:Nat)(l:List Nat):Prop where
 len:l.length=n
 lt: ∀j,l.getD j 0<256
theorem BB.set{n:Nat}{l:List Nat}(h:BB n l)(i x:Nat)(hx:x<256):BB n (l.set i x) where
 len:=by rw[List.length_set];exact h.len
 lt:=fun j=>by
  rw[getD_set];split
  ·exact hx
  ·exact h.lt j
section
section
variable {R:Rg} {P:Program} {ops:Array Oper} {Q:Exit->Act->World->Prop} {f:Nat->Bool} {t:Nat->Value} {u:World} {a:Act} {i:Nat} {o:Oper}
end
theorem Bk.moreT{lo:Nat}{u0 u:World}{k0 ks:List Blk}{b:Nat}{l:List Value}(K0:Bk lo u0 k0)(K:Bk lo u ks)(hlo:lo<=u0.heap.size)(hb:u0.heap.size<=b)(hlt:b<u.heap.size)(hc:CV u b l)(e: ∀x∈ks.map (·.2.1),x∈k0.map (·.2.1)):Bk lo u (aK ks [(true,b,l)]):=by
 rw[aK_eq]
 refine⟨KA.app K.a (KA.o hlt (Nat.le_trans hlo hb) hc trivial),?_⟩
 rw[List.map_append,List.nodup_append]
 refine⟨K.n,by simp,fun x hx y hy h=>?_⟩
 have:=K0.a.mem x (e x hx)
 simp at hy
 omega
def PF(lo n:Nat)(xs:List Value)(u:World)(v:Value):Prop:= ∃b,v= .slice (some ⟨b,0,none⟩) n n/\lo<=b/\b<u.heap.size/\CV u b xs
theorem PF.stab{lo n:Nat}{xs:List Value}{u v:World}{x:Value}(hB:Bw u v)(h:PF lo n xs u x):PF lo n xs v x:=by
 obtain⟨b,e,h1,h2,h5⟩:=h
 exact⟨b,e,h1,Nat.lt_of_lt_of_le h2 hB.size,h5.below hB h2⟩
theorem PF.mono{lo lo' n:Nat}{xs:List Value}{u:World}{x:Value}(h:PF lo n xs u x)(hl:lo'<=lo):PF lo' n xs u x:=by
 obtain⟨b,e,h1,h⟩:=h
 exact⟨b,e,Nat.le_trans hl h1,h⟩
theorem PF.new(n:Nat)(xs:List Value)(t:TypeId){lo:Nat}(u:World)(h:lo<=u.heap.size):PF lo n xs (u.alloc (.cells xs.toArray t)) (.slice (some ⟨u.heap.size,0,none⟩) n n):=⟨_,rfl,h,by simp,CV.new u _ t⟩
def nou(n:Nat):Nat:=(18446744073709551616 -(n+9))%64
def enL(n:Nat):Nat->List Nat
 | 0=>(List.replicate (nou n+9) 0).set 0 128
 | i+1=>(enL n i).set (nou n+9 -1 -i) ((n*8)>>>(8*i)%256)
def ending(n:Nat):List Nat:=enL n 8
end
end
section
def tkB(c:Nat)(bs xs:List Nat):Nat->List Nat
 | 0=>bs
 | j+1=>(tkB c bs xs j).set ((c+j)%64) (xs.getD j 0)
def tkS(c:Nat)(ss bs xs:List Nat):Nat->List Nat
 | 0=>ss
 | j+1=>if (c+j+1)%64=0 then blk (tkS c ss bs xs j) (tkB c bs xs (j+1)) else tkS c ss bs xs j
theorem tkB_B{c:Nat}{bs xs:List Nat}(hb:BB 64 bs)(hx: ∀j,xs.getD j 0<256): ∀j,BB 64 (tkB c bs xs j)
 | 0=>hb
 | j+1=>(tkB_B hb hx j).set _ _ (hx j)
theorem tkS_W{c:Nat}{ss bs xs:List Nat}(hs:WW 8 ss): ∀j,WW 8 (tkS c ss bs xs j)
 | 0=>hs
 | j+1=>by
  unfold tkS;split
  ·exact blk_W (tkS_W hs j) _
  ·exact tkS_W hs j
end
section
open Go.RowKit
section
section
variable {R:Rg} {P:Program} {ops:Array Oper} {Q:Exit->Act->World->Prop} {f:Nat->Bool} {t:Nat->Value} {u:World} {a:Act} {i:Nat} {o:Oper}
end
theorem gtr_i(p q:Operand)(x y:Int)(b:Bool)(w:World)(h:decide (y<x)=b):(do eqGuard .gtr 3 p q (.int .i64 x) (.int .i64 y);binOp .gtr 3 (.int .i64 x) (.int .i64 y):Sem Value).run Tryz.prog w= .ok (.bool b) w:=by
 subst h;go_simp
def SB(w:World)(g o:Nat)(xs:List Nat):Prop:= ∀j,j<xs.length->w.cell? ⟨g,o+j,none⟩=some (.int .u8 ((xs.getD j 0:Nat):Int))
theorem SB.cells{w:World}{g o:Nat}{xs:List Nat}(h:SB w g o xs)(k n:Nat): ∀j v,(U8 ((xs.drop k).take n))[j]?=some v->w.cell? ((⟨g,o+k,none⟩:Addr).add j)=some v:=fun j v hj=>by
 have hl:j<((xs.drop k).take n).length:=by have:=(List.getElem?_eq_some_iff.1 hj).1;rwa [U8_len] at this
 rw[U8_get _ j hl] at hj
 have hl2:k+j<xs.length:=by rw[List.length_take,List.length_drop] at hl;omega
 have e:(⟨g,o+k,none⟩:Addr).add j=⟨g,o+(k+j),none⟩:=by unfold Addr.add;split<;>simp_all<;>omega
 rw[e,h (k+j) hl2,<-hj]
 have hn:j<n:=by rw[List.length_take] at hl;omega
 simp[List.getElem?_take,hn,List.getElem?_drop]
end
end
end Go.Proofs.YtgieoghechekpaaGreatDoor
