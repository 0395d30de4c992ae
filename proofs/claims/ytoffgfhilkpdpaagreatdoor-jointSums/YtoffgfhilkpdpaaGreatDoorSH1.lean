import Derived.Test.YtoffgfhilkpdpaaGreatDoorGR
import Derived.Deep.Upon
import Derived.Lib.SlBytesConst
import Derived.Lib.ConvBytes
namespace Go.Proofs.YtoffgfhilkpdpaaGreatDoor
set_option linter.unusedVariables false
set_option linter.unusedSimpArgs false
set_option maxRecDepth 100000
set_option maxHeartbeats 4000000
section
open Go.RowKit
section
section
variable {R:Rg} {P:Program} {ops:Array Oper} {Q:Exit->Act->World->Prop} {f:Nat->Bool} {t:Nat->Value} {u:World} {a:Act} {i:Nat} {o:Oper}
theorem g_op{v:Value}(h: ∀(ev:Operand->Value) (u:World),(∀x y,evR R i o x=some y->ev x=y)->(execOp ev o).run P u= .ok (.value v) u)(hv:some v=Y3 i R.G:=by rfl)(hc:R.chk ops i o=true:=by rfl):OG R P ops Q i o:=
 Ya hv hc fun f t u a X K hK=>Yg (h a.eval u (fun x y hxy=>X.ev hxy)) hK
end
def rotr(x n:Nat):Nat:=(x<<<(32 -n))%4294967296 ||| x>>>n
def chN(e f g:Nat):Nat:=(e&&&f)^^^((4294967295^^^e)&&&g)
def maN(a b c:Nat):Nat:=(a&&&b)^^^(a&&&c)^^^(b&&&c)
def ls0(x:Nat):Nat:=rotr x 7^^^rotr x 18^^^x>>>3
def ls1(x:Nat):Nat:=rotr x 17^^^rotr x 19^^^x>>>10
def gs0(x:Nat):Nat:=rotr x 2^^^rotr x 13^^^rotr x 22
def gs1(x:Nat):Nat:=rotr x 6^^^rotr x 11^^^rotr x 25
abbrev M32:Nat:=4294967296
theorem wraps_u32(n:Int)(h0:0<=n)(h1:n<2^32):IntKind.u32.wrap n=n:=by simp[IntKind.wrap,IntKind.signed,IntKind.bits];omega
theorem Wq{a b:Nat}(h:b<M32):a&&&b<M32:=Nat.and_lt_two_pow a (n:=32) h
theorem or_lt{a b:Nat}(ha:a<M32)(hb:b<M32):a ||| b<M32:=Nat.or_lt_two_pow (n:=32) ha hb
theorem Xh{a b:Nat}(ha:a<M32)(hb:b<M32):a^^^b<M32:=Nat.xor_lt_two_pow (n:=32) ha hb
theorem shr_lt{a n:Nat}(ha:a<M32):a>>>n<M32:=by rw[Nat.shiftRight_eq_div_pow];exact Nat.lt_of_le_of_lt (Nat.div_le_self _ _) ha
theorem Zv{x n:Nat}(h:x<M32):rotr x n<M32:=or_lt (Nat.mod_lt _ Z2) (shr_lt h)
theorem ch_lt{e f g:Nat}(hf:f<M32)(hg:g<M32):chN e f g<M32:=Xh (Wq hf) (Wq hg)
theorem ma_lt{a b c:Nat}(hb:b<M32)(hc:c<M32):maN a b c<M32:=Xh (Xh (Wq hb) (Wq hc)) (Wq hc)
theorem ls0_lt{x:Nat}(h:x<M32):ls0 x<M32:=Xh (Xh (Zv h) (Zv h)) (shr_lt h)
theorem ls1_lt{x:Nat}(h:x<M32):ls1 x<M32:=Xh (Xh (Zv h) (Zv h)) (shr_lt h)
theorem gs0_lt{x:Nat}(h:x<M32):gs0 x<M32:=Xh (Xh (Zv h) (Zv h)) (Zv h)
theorem gs1_lt{x:Nat}(h:x<M32):gs1 x<M32:=Xh (Xh (Zv h) (Zv h)) (Zv h)
end
section
section
variable {R:Rg} {P:Program} {ops:Array Oper} {Q:Exit->Act->World->Prop} {f:Nat->Bool} {t:Nat->Value} {u:World} {a:Act} {i:Nat} {o:Oper}
theorem g_lw(k c:Nat){T:TypeId}{x:Operand}{b:Nat}{v:Value}{l:List Value}(hr: ∀w,w.cell? ⟨b,c,none⟩=some v->(Instr.loadAt T (.pointer (some ⟨b,c,none⟩))).run P w= .ok v w)(hl:l[c]?=some v)(hop:o.op= .load T x:=by rfl)(hk:R.cur i k=some (b,l):=by rfl)(hx:evR R i o x=some (.pointer (some ⟨b,c,none⟩)):=by rfl)(hv:some v=Y3 i R.G:=by rfl)(hc:R.chk ops i o=true:=by rfl):OG R P ops Q i o:=
 Ya hv hc fun f t u a X K hK=>wp_load hop (X.ev hx) (hr u ((X.cur hk).1 c _ hl).1) hK
theorem g_lg(b c:Nat){T:TypeId}{x:Operand}{v:Value}(hr: ∀w,w.cell? ⟨b,c,none⟩=some v->(Instr.loadAt T (.pointer (some ⟨b,c,none⟩))).run P w= .ok v w)(hl:R.w.cell? ⟨b,c,none⟩=some v)(hb:b<R.lo)(hop:o.op= .load T x:=by rfl)(hx:evR R i o x=some (.pointer (some ⟨b,c,none⟩)):=by rfl)(hv:some v=Y3 i R.G:=by rfl)(hc:R.chk ops i o=true:=by rfl):OG R P ops Q i o:=
 Ya hv hc fun f t u a X K hK=>wp_load hop (X.ev hx) (hr u ((X.I.1.bel.cell (p:=⟨b,c,none⟩) hb).trans hl)) hK
theorem g_sw(k c:Nat){T:TypeId}{x y:Operand}{b:Nat}{l post:List Value}{v0 v:Value}(hr: ∀w,w.cell? ⟨b,c,none⟩=some v0->w.frozen? ⟨b,c,none⟩=false->(Instr.storeAt T (.pointer (some ⟨b,c,none⟩)) v).run P w= .ok () (w.setCell ⟨b,c,none⟩ v))(h0:l[c]?=some v0)(hp:post=l.set c v)
 (hop:o.op= .store T x y:=by rfl)(hn:R.es[k]?=some (true,b,l,.all i post):=by rfl)(hx:evR R i o x=some (.pointer (some ⟨b,c,none⟩)):=by rfl)(hy:evR R i o y=some v:=by rfl)
 (hf:(((R.es.eraseIdx k).all fun q=>q.2.2.2.free i)&&(R.nw.all (nwf0 i)))=true:=by rfl)(hc:R.chkS ops i o=true:=by rfl):OG R P ops Q i o:=fun f t u a X=>by
 simp only[Bool.and_eq_true] at hf
 obtain⟨q1,q2,q3⟩:=X.I.2.1.get hn
 have q3:CV u b (bif f i then post else l):=q3
 rw[X.fi] at q3
 have q3:CV u b l:=q3
 have cc:=Chg.cell u b c v
 have hlt:c<l.length:=(List.getElem?_eq_some_iff.1 h0).1
 refine X.go (Yu hc).2.2.2 fun K hK=>wp_store hop (X.ev hx) (X.ev hy) (hr u (q3 c _ h0).1 (q3 c _ h0).2) (hK _ _ (X.put0 hc ?_ ?_))
 ·rw[Xc hf.2]
  exact X.I.1.wr (X.I.1.bel.setCell (q2 rfl) _) cc q1
 ·refine KC.put cc X.I.2.1 hn X.nd hf.1 ?_
  simp only[Wr.val,Yl,cond_true]
  rw[hp]
  exact q3.setC c hlt v
end
theorem Xq{P:Program}{fn:Func}{tmps:Array Value}{s:Nat}{T:TypeId}{b:Nat}{cs:List Value}{d:TypeDesc}{w:World}(h:fn.results=#[.cell s T])(hs:tmps[s]?.getD undef= .pointer (some ⟨b,0,none⟩))(hc:CV w b cs)(hu:P.underlying T=some d)(hd:d.isRow=true)(hi:(P.info? T).map (·.size)=some cs.length):(results fn tmps).run P w= .ok (.agg cs.toArray) w:=by
 have hl:=run_loadVar_mid (P:=P) w b 0 T cs d hc.range hu hd hi
 unfold results
 rw[h]
 simp[hs,asAddr,hl]
def U32(l:List Nat):List Value:=l.map fun(x:Nat)=>.int .u32 (x:Int)
def U8(l:List Nat):List Value:=l.map fun(x:Nat)=>.int .u8 (x:Int)
theorem Ye(l:List Nat):(U32 l).length=l.length:=List.length_map ..
theorem Zk(l:List Nat):(U8 l).length=l.length:=List.length_map ..
theorem U32_get(l:List Nat)(j:Nat)(h:j<l.length):(U32 l)[j]?=some (.int .u32 ((l.getD j 0:Nat):Int)):=by simp[U32,List.getElem?_eq_getElem h]
theorem Yv(l:List Nat)(j:Nat)(h:j<l.length):(U8 l)[j]?=some (.int .u8 ((l.getD j 0:Nat):Int)):=by simp[U8,List.getElem?_eq_getElem h]
theorem U32_set(l:List Nat)(j x:Nat):U32 (l.set j x)=(U32 l).set j (.int .u32 (x:Int)):=by simp[U32,List.map_set]
theorem Uj(l:List Nat)(j x:Nat):U8 (l.set j x)=(U8 l).set j (.int .u8 (x:Int)):=by simp[U8,List.map_set]
theorem T6: ∀l:List Nat,Ws (U32 l)=true
 | []=>rfl
 | x::r=>by show (Value.oneCell' (.int .u32 (x:Int))&&Ws (U32 r))=true;rw[T6 r];rfl
theorem Uk: ∀l:List Nat,Ws (U8 l)=true
 | []=>rfl
 | x::r=>by show (Value.oneCell' (.int .u8 (x:Int))&&Ws (U8 r))=true;rw[Uk r];rfl
theorem l32{b c:Nat}{v:Int}(w:World)(h:w.cell? ⟨b,c,none⟩=some (.int .u32 v)):(Instr.loadAt 196 (.pointer (some ⟨b,c,none⟩))).run Tryz.prog w= .ok (.int .u32 v) w:=by go_simp
theorem l8{b c:Nat}{v:Int}(w:World)(h:w.cell? ⟨b,c,none⟩=some (.int .u8 v)):(Instr.loadAt 5 (.pointer (some ⟨b,c,none⟩))).run Tryz.prog w= .ok (.int .u8 v) w:=by go_simp
theorem s32{b c:Nat}{v x:Int}(w:World)(h:w.cell? ⟨b,c,none⟩=some (.int .u32 v))(hf:w.frozen? ⟨b,c,none⟩=false):(Instr.storeAt 196 (.pointer (some ⟨b,c,none⟩)) (.int .u32 x)).run Tryz.prog w= .ok () (w.setCell ⟨b,c,none⟩ (.int .u32 x)):=by go_simp
theorem s8{b c:Nat}{v x:Int}(w:World)(h:w.cell? ⟨b,c,none⟩=some (.int .u8 v))(hf:w.frozen? ⟨b,c,none⟩=false):(Instr.storeAt 5 (.pointer (some ⟨b,c,none⟩)) (.int .u8 x)).run Tryz.prog w= .ok () (w.setCell ⟨b,c,none⟩ (.int .u8 x)):=by go_simp
theorem x8(b k:Nat)(w:World)(h:k<8):(Instr.indexAt 235 (.pointer (some ⟨b,0,none⟩)) (iI k)).run Tryz.prog w= .ok (.pointer (some ⟨b,k,none⟩)) w:=by
 have h2:(k:Int)<8:=Z1
 go_simp
theorem x32(b k:Nat)(w:World)(h:k<32):(Instr.indexAt 215 (.pointer (some ⟨b,0,none⟩)) (iI k)).run Tryz.prog w= .ok (.pointer (some ⟨b,k,none⟩)) w:=by
 have h2:(k:Int)<32:=Z1
 go_simp
end
def z64:List Nat:=List.replicate 64 0
def z8:List Nat:=List.replicate 8 0
def z32:List Nat:=List.replicate 32 0
abbrev Z8w:List Value:=[.int .u32 0,.int .u32 0,.int .u32 0,.int .u32 0,.int .u32 0,.int .u32 0,.int .u32 0,.int .u32 0]
abbrev Z32b:List Value:=[.int .u8 0,.int .u8 0,.int .u8 0,.int .u8 0,.int .u8 0,.int .u8 0,.int .u8 0,.int .u8 0,.int .u8 0,.int .u8 0,.int .u8 0,.int .u8 0,.int .u8 0,.int .u8 0,.int .u8 0,.int .u8 0,.int .u8 0,.int .u8 0,.int .u8 0,.int .u8 0,.int .u8 0,.int .u8 0,.int .u8 0,.int .u8 0,.int .u8 0,.int .u8 0,.int .u8 0,.int .u8 0,.int .u8 0,.int .u8 0,.int .u8 0,.int .u8 0]
theorem Th(w:World):(Instr.alloc 235 true (.tuple #[])).run Tryz.prog w= .ok (.pointer (some ⟨w.heap.size,0,none⟩)) (w.alloc (.cells (U32 z8).toArray 235)):=by kernel_rfl
theorem Zy:(Tryz.prog.info? 235).map (·.size)=some 8:=by kernel_rfl
theorem Ve(w:World):(Instr.alloc 215 true (.tuple #[])).run Tryz.prog w= .ok (.pointer (some ⟨w.heap.size,0,none⟩)) (w.alloc (.cells (U8 z32).toArray 215)):=by kernel_rfl
theorem Zo:(Tryz.prog.info? 215).map (·.size)=some 32:=by kernel_rfl
theorem Vr:(Tryz.prog.info? 225).map (·.size)=some 64:=by kernel_rfl
theorem Za(p q:Operand)(x y:Int)(b:Bool)(w:World)(h:decide (x<y)=b):(do eqGuard .lss 3 p q (iI x) (iI y);binOp .lss 3 (iI x) (iI y):Sem Value).run Tryz.prog w= .ok (.bool b) w:=by
 subst h;go_simp
theorem Zu(p q:Operand)(x y z:Int)(w:World)(h:x+y=z)(h1: -9223372036854775808<=z)(h2:z<9223372036854775808):(do eqGuard .add 3 p q (iI x) (iI y);binOp .add 3 (iI x) (iI y):Sem Value).run Tryz.prog w= .ok (iI z) w:=by
 have e:IntKind.i64.wrap z=z:=by rw[IntKind.wrap_i64];omega
 subst h;go_simp
theorem Xi(p q:Operand)(x y z:Int)(w:World)(h:x -y=z)(h1: -9223372036854775808<=z)(h2:z<9223372036854775808):(do eqGuard .sub 3 p q (iI x) (iI y);binOp .sub 3 (iI x) (iI y):Sem Value).run Tryz.prog w= .ok (iI z) w:=by
 have e:IntKind.i64.wrap z=z:=by rw[IntKind.wrap_i64];omega
 subst h;go_simp
theorem quo_n(p q:Operand)(x y:Nat)(w:World)(h1:x<1000000)(h2:0<y):(do eqGuard .quo 3 p q (iI x) (iI y);binOp .quo 3 (iI x) (iI y):Sem Value).run Tryz.prog w= .ok (iI ((x/y:Nat):Int)) w:=by
 have e0:((x:Int)).tdiv y=((x/y:Nat):Int):=by rw[Int.tdiv_eq_ediv_of_nonneg (Int.natCast_nonneg _)];simp
 have hle:x/y<=x:=Nat.div_le_self _ _
 obtain⟨z,hz⟩:=Z3 (x/y)
 rw[hz] at e0 hle⊢
 have e:IntKind.i64.wrap (z:Int)=(z:Int):=by rw[IntKind.wrap_i64];omega
 have hy:(y:Int)≠0:=Z1
 have hy2: ¬y=0:=Z1
 go_simp
def spA(bs:List Nat):Nat->List Nat
 | 0=>z64
 | k+1=>(spA bs k).set (k/4) (((spA bs k).getD (k/4) 0<<<8)%4294967296 ||| bs.getD k 0)
def spS(l:List Nat)(t:Nat):Nat:=(((ls1 (l.getD (t -2) 0)+l.getD (t -7) 0)%4294967296+ls0 (l.getD (t -15) 0))%4294967296+l.getD (t -16) 0)%4294967296
def spB(ws:List Nat):Nat->List Nat
 | 0=>ws
 | k+1=>(spB ws k).set (k+16) (spS (spB ws k) (k+16))
def Vo(bs:List Nat):List Nat:=spB (spA bs 64) 48
structure WW(n:Nat)(l:List Nat):Prop where
 len:l.length=n
 lt: ∀j,l.getD j 0<M32
theorem Yq(l:List Nat)(i j x:Nat):(l.set i x).getD j 0=if i=j/\j<l.length then x else l.getD j 0:=by
 by_cases h:i=j
 ·subst h
  by_cases h2:i<l.length
  ·rw[if_pos ⟨rfl,h2⟩];simp[h2]
  ·rw[if_neg (fun h=>h2 h.2)];simp[List.getElem?_eq_none (show l.length<=i by omega),List.getElem?_set,h2]
 ·rw[if_neg (fun h'=>h h'.1)];simp[List.getElem?_set,h]
theorem WW.set{n:Nat}{l:List Nat}(h:WW n l)(i x:Nat)(hx:x<M32):WW n (l.set i x) where
 len:=by rw[List.length_set];exact h.len
 lt:=fun j=>by
  rw[Yq];split
  ·exact hx
  ·exact h.lt j
theorem WW_z64:WW 64 z64:=⟨rfl,fun j=>by
 unfold z64;simp only[List.getD_eq_getElem?_getD,List.getElem?_replicate];split<;>decide⟩
theorem spA_W(bs:List Nat)(hb: ∀j,bs.getD j 0<256): ∀k,WW 64 (spA bs k)
 | 0=>WW_z64
 | k+1=>(spA_W bs hb k).set _ _ (or_lt (Nat.mod_lt _ Z2) (Nat.lt_of_lt_of_le (hb k) Z2))
theorem spS_lt(l:List Nat)(t:Nat):spS l t<M32:=Nat.mod_lt _ Z2
theorem spB_W{ws:List Nat}(h:WW 64 ws): ∀k,WW 64 (spB ws k)
 | 0=>h
 | k+1=>(spB_W h k).set _ _ (spS_lt _ _)
def kcs:List Nat:=[1116352408,1899447441,3049323471,3921009573,961987163,1508970993,2453635748,2870763221,3624381080,310598401,607225278,1426881987,1925078388,2162078206,2614888103,3248222580,3835390401,4022224774,264347078,604807628,770255983,1249150122,1555081692,1996064986,2554220882,2821834349,2952996808,3210313671,3336571891,3584528711,113926993,338241895,666307205,773529912,1294757372,1396182291,1695183700,1986661051,2177026350,2456956037,2730485921,2820302411,3259730800,3345764771,3516065817,3600352804,4094571909,275423344,430227734,506948616,659060556,883997877,958139571,1322822218,1537002063,1747873779,1955562222,2024104815,2227730452,2361852424,2428436474,2756734187,3204031479,3329325298]
def fst8:List Nat:=[1779033703,3144134277,1013904242,2773480762,1359893119,2600822924,528734635,1541459225]
theorem kcs_lt: ∀t,t<64->kcs.getD t 0<M32:=Z2
def tw1(s:List Nat)(k w:Nat):Nat:=((((s.getD 7 0+gs1 (s.getD 4 0))%4294967296+chN (s.getD 4 0) (s.getD 5 0) (s.getD 6 0))%4294967296+k)%4294967296+w)%4294967296
def tw2(s:List Nat):Nat:=(gs0 (s.getD 0 0)+maN (s.getD 0 0) (s.getD 1 0) (s.getD 2 0))%4294967296
def st8(s:List Nat)(k w:Nat):List Nat:=[(tw1 s k w+tw2 s)%4294967296,s.getD 0 0,s.getD 1 0,s.getD 2 0,(s.getD 3 0+tw1 s k w)%4294967296,s.getD 4 0,s.getD 5 0,s.getD 6 0]
def rds(ss ws:List Nat):Nat->List Nat
 | 0=>ss
 | i+1=>st8 (rds ss ws i) (kcs.getD i 0) (ws.getD i 0)
def sms(ss vs:List Nat):Nat->List Nat
 | 0=>ss
 | i+1=>(sms ss vs i).set i (((sms ss vs i).getD i 0+vs.getD i 0)%4294967296)
def blk(ss bs:List Nat):List Nat:=sms ss (rds ss (Vo bs) 64) 8
theorem st8_W{s:List Nat}(h:WW 8 s)(k w:Nat):WW 8 (st8 s k w) where
 len:=rfl
 lt:=fun j=>by
  rcases (by omega:j=0\/j=1\/j=2\/j=3\/j=4\/j=5\/j=6\/j=7\/8<=j) with rfl | rfl | rfl | rfl | rfl | rfl | rfl | rfl | h8
  ·exact Nat.mod_lt _ Z2
  ·exact h.lt 0
  ·exact h.lt 1
  ·exact h.lt 2
  ·exact Nat.mod_lt _ Z2
  ·exact h.lt 4
  ·exact h.lt 5
  ·exact h.lt 6
  ·rw[List.getD_eq_getElem?_getD,List.getElem?_eq_none (by show 8<=j;exact h8)];decide
theorem rds_W{ss:List Nat}(h:WW 8 ss)(ws:List Nat): ∀i,WW 8 (rds ss ws i)
 | 0=>h
 | i+1=>st8_W (rds_W h ws i) _ _
theorem sms_W{ss:List Nat}(h:WW 8 ss)(vs:List Nat): ∀i,WW 8 (sms ss vs i)
 | 0=>h
 | i+1=>(sms_W h vs i).set _ _ (Nat.mod_lt _ Z2)
theorem spread_W(bs:List Nat)(hb: ∀j,bs.getD j 0<256):WW 64 (Vo bs):=spB_W (spA_W bs hb 64) 48
theorem blk_W{ss:List Nat}(h:WW 8 ss)(bs:List Nat):WW 8 (blk ss bs):=sms_W h _ 8
theorem rem_n(p q:Operand)(x y:Nat)(w:World)(h1:x<1000000)(h2:0<y):(do eqGuard .rem 3 p q (iI x) (iI y);binOp .rem 3 (iI x) (iI y):Sem Value).run Tryz.prog w= .ok (iI ((x%y:Nat):Int)) w:=by
 have e0:((x:Int)).tmod y=((x%y:Nat):Int):=by rw[Int.tmod_eq_emod_of_nonneg (Int.natCast_nonneg _)];simp
 have hle:x%y<=x:=Nat.mod_le _ _
 obtain⟨z,hz⟩:=Z3 (x%y)
 rw[hz] at e0 hle⊢
 have e:IntKind.i64.wrap (z:Int)=(z:Int):=by rw[IntKind.wrap_i64];omega
 have hy:(y:Int)≠0:=Z1
 have hy2: ¬y=0:=Z1
 go_simp
theorem mul_i(p q:Operand)(x y z:Int)(w:World)(h:x*y=z)(h0: -9223372036854775808<=z)(h1:z<9223372036854775808):(do eqGuard .mul 3 p q (iI x) (iI y);binOp .mul 3 (iI x) (iI y):Sem Value).run Tryz.prog w= .ok (iI z) w:=by
 have e:IntKind.i64.wrap z=z:=by rw[IntKind.wrap_i64];omega
 subst h;go_simp
theorem cv328{o:Oper}{ev:Operand->Value}{x:Operand}{n:Nat}(u:World)(ho:o.op= .convert 196 5 x)(hx:ev x= .int .u32 (n:Int)):(execOp ev o).run Tryz.prog u= .ok (.value (.int .u8 ((n%256:Nat):Int))) u:=by
 have e1:IntKind.u8.wrap (n:Int)=((n%256:Nat):Int):=by simp[IntKind.wrap,IntKind.signed,IntKind.bits]
 unfold execOp;rw[ho];simp only[hx];go_simp
def tld(ss:List Nat):Nat->List Nat
 | 0=>z32
 | i+1=>(tld ss i).set i ((ss.getD (i/4) 0>>>(8*(3 -i%4)))%256)
def told(ss:List Nat):List Nat:=tld ss 32
structure BB(n:Nat)(l:List Nat):Prop where
 len:l.length=n
 lt: ∀j,l.getD j 0<256
theorem BB.set{n:Nat}{l:List Nat}(h:BB n l)(i x:Nat)(hx:x<256):BB n (l.set i x) where
 len:=by rw[List.length_set];exact h.len
 lt:=fun j=>by
  rw[Yq];split
  ·exact hx
  ·exact h.lt j
theorem BB_z32:BB 32 z32:=⟨rfl,fun j=>by
 unfold z32;simp only[List.getD_eq_getElem?_getD,List.getElem?_replicate];split<;>decide⟩
theorem tld_B(ss:List Nat): ∀i,BB 32 (tld ss i)
 | 0=>BB_z32
 | i+1=>(tld_B ss i).set _ _ (Nat.mod_lt _ Z2)
section
section
variable {R:Rg} {P:Program} {ops:Array Oper} {Q:Exit->Act->World->Prop} {f:Nat->Bool} {t:Nat->Value} {u:World} {a:Act} {i:Nat} {o:Oper}
theorem wp_ms{K:Act->World->Prop}{T:TypeId}{x y:Operand}{vx vy v:Value}{w':World}(ho:o.op= .makeSlice T x y)(hx:a.eval x=vx)(hy:a.eval y=vy)(hr:(Instr.makeSlice T vx vy).run P u= .ok v w')(hk:K (a.put o.dst v) w'):o.wp P a u K Q:=
 Yg (by
  unfold execOp;rw[ho]
  show Sem.run P (do pure (Next.value (<-Instr.makeSlice T (a.eval x) (a.eval y)))) u=_
  rw[hx,hy,Sem.run_bind,hr,Result.andThen_ok,Sem.run_pure]) hk
theorem g_ms(n:Nat)(p:World->Value->Prop){T e:TypeId}{x y:Operand}{vx vy:Value}{m:Nat}{cs:List Value}(hr: ∀w,(Instr.makeSlice T vx vy).run P w= .ok (.slice (some ⟨w.heap.size,0,none⟩) m m) (w.alloc (.cells cs.toArray e)))(hp: ∀u:World,R.base<=u.heap.size->p (u.alloc (.cells cs.toArray e)) (.slice (some ⟨u.heap.size,0,none⟩) m m))(hop:o.op= .makeSlice T x y:=by rfl)(hx:evR R i o x=some vx:=by rfl)(hy:evR R i o y=some vy:=by rfl)(hn:(R.E[n]?).map (·.p)=some p:=by rfl)(hc:R.chkE ops n i o=true:=by rfl):OG R P ops Q i o:=fun f t u a X=>by
 obtain⟨d,q,hd,hq,_,_,_,_,_,_,_,_,hw⟩:=Zm hc
 exact X.go hw fun K hK=>wp_ms hop (X.ev hx) (X.ev hy) (hr u) (hK _ _ (X.putE hc (fun q hq=>by rw[hq] at hn;cases hn;exact hp u X.I.1.sz) (Z5 (Zf u) _)))
end
theorem Bk.moreT{lo:Nat}{u0 u:World}{k0 ks:List Blk}{b:Nat}{l:List Value}(K0:Bk lo u0 k0)(K:Bk lo u ks)(hlo:lo<=u0.heap.size)(hb:u0.heap.size<=b)(hlt:b<u.heap.size)(hc:CV u b l)(e: ∀x∈ks.map (·.2.1),x∈k0.map (·.2.1)):Bk lo u (aK ks [(true,b,l)]):=by
 rw[aK_eq]
 refine⟨KA.app K.a (KA.o hlt (Nat.le_trans hlo hb) hc trivial),?_⟩
 rw[List.map_append,List.nodup_append]
 refine⟨K.n,by simp,fun x hx y hy h=>?_⟩
 have:=K0.a.mem x (e x hx)
 simp at hy
 omega
def PF(lo n:Nat)(xs:List Value)(u:World)(v:Value):Prop:= ∃b,v= .slice (some ⟨b,0,none⟩) n n/\lo<=b/\b<u.heap.size/\CV u b xs
theorem PF.stab{lo n:Nat}{xs:List Value}{u v:World}{x:Value}(hB:Bw u v)(h:PF lo n xs u x):PF lo n xs v x:=by
 obtain⟨b,e,h1,h2,h5⟩:=h
 exact⟨b,e,h1,Nat.lt_of_lt_of_le h2 hB.size,h5.below hB h2⟩
theorem PF.mono{lo lo' n:Nat}{xs:List Value}{u:World}{x:Value}(h:PF lo n xs u x)(hl:lo'<=lo):PF lo' n xs u x:=by
 obtain⟨b,e,h1,h⟩:=h
 exact⟨b,e,Nat.le_trans hl h1,h⟩
theorem PF.new(n:Nat)(xs:List Value)(t:TypeId){lo:Nat}(u:World)(h:lo<=u.heap.size):PF lo n xs (u.alloc (.cells xs.toArray t)) (.slice (some ⟨u.heap.size,0,none⟩) n n):=⟨_,rfl,h,by simp,CV.new u _ t⟩
theorem infoB:(Tryz.prog.info? 5).map (fun i=>(i.zero,i.size,i.bytes))=some (some (.int .u8 0),1,1):=by kernel_rfl
theorem mkB(k:IntKind)(m:Nat)(hm:m<=1000000)(w:World):(Instr.makeSlice 133 (.int k m) (.int k m)).run Tryz.prog w= .ok (.slice (some ⟨w.heap.size,0,none⟩) m m) (w.alloc (.cells (U8 (List.replicate m 0)).toArray 5)):=by
 obtain⟨i,hi,hi2⟩:=Option.map_eq_some_iff.1 infoB
 simp only[Prod.mk.injEq] at hi2
 obtain⟨hz,hs,hb⟩:=hi2
 have:=run_makeSlice (P:=Tryz.prog) w 133 5 i (.int .u8 0) Tryz.underlying133 hi hz k k m m Z1 Z1 (by rw[hs];omega) (by rw[hb];omega) Z1
 rw[this,hs]
 simp only[Int.toNat_natCast,Nat.mul_one]
 congr 4
 apply Array.ext'
 simp[madeCells,U8,Value.cells]
 apply List.ext_getElem
 ·simp
 ·intro j h1 h2;simp[Nat.mod_one]
theorem U6(p q:Operand)(a b c:Nat)(w:World)(h:a+b=c)(hc:c<18446744073709551616):(do eqGuard .add 22 p q (iU a) (iU b);binOp .add 22 (iU a) (iU b):Sem Value).run Tryz.prog w= .ok (iU (c:Int)) w:=by
 have e:IntKind.u64.wrap ((a:Int)+b)=(c:Int):=by simp[IntKind.wrap,IntKind.signed,IntKind.bits];omega
 go_simp
theorem mul64(p q:Operand)(a b c:Nat)(w:World)(h:a*b=c)(hc:c<18446744073709551616):(do eqGuard .mul 22 p q (iU a) (iU b);binOp .mul 22 (iU a) (iU b):Sem Value).run Tryz.prog w= .ok (iU (c:Int)) w:=by
 have h':(a:Int)*b=(c:Int):=by exact_mod_cast h
 have e:IntKind.u64.wrap (c:Int)=(c:Int):=by simp[IntKind.wrap,IntKind.signed,IntKind.bits];omega
 go_simp
theorem rem64(p q:Operand)(x y:Nat)(w:World)(h1:x<18446744073709551616)(h2:0<y):(do eqGuard .rem 22 p q (iU x) (iU y);binOp .rem 22 (iU x) (iU y):Sem Value).run Tryz.prog w= .ok (iU ((x%y:Nat):Int)) w:=by
 have e0:((x:Int)).tmod y=((x%y:Nat):Int):=by rw[Int.tmod_eq_emod_of_nonneg (Int.natCast_nonneg _)];simp
 have hle:x%y<=x:=Nat.mod_le _ _
 obtain⟨z,hz⟩:=Z3 (x%y)
 rw[hz] at e0 hle⊢
 have e:IntKind.u64.wrap (z:Int)=(z:Int):=by simp[IntKind.wrap,IntKind.signed,IntKind.bits];omega
 have hy:(y:Int)≠0:=Z1
 have hy2: ¬y=0:=Z1
 go_simp
theorem shr64i(p q:Operand)(a n:Nat)(w:World)(hn:n<=64):(do eqGuard .shr 22 p q (iU a) (iI n);binOp .shr 22 (iU a) (iI n):Sem Value).run Tryz.prog w= .ok (iU ((a>>>n:Nat):Int)) w:=by
 have e:((a:Int)/2^n)=(a:Int)>>>n:=by rw[Int.shiftRight_eq_div_pow];simp
 have e2:min n 64=n:=Z1
 go_simp
 first | done | exact e
theorem cv648{o:Oper}{ev:Operand->Value}{x:Operand}{n:Nat}(u:World)(ho:o.op= .convert 22 5 x)(hx:ev x=iU (n:Int)):(execOp ev o).run Tryz.prog u= .ok (.value (.int .u8 ((n%256:Nat):Int))) u:=by
 have e1:IntKind.u8.wrap (n:Int)=((n%256:Nat):Int):=by simp[IntKind.wrap,IntKind.signed,IntKind.bits]
 unfold execOp;rw[ho];simp only[hx];go_simp
theorem ixB(g o n cap j:Nat)(h:j<n)(w:World):(Instr.indexAt 133 (.slice (some ⟨g,o,none⟩) n cap) (iI j)).run Tryz.prog w= .ok (.pointer (some ⟨g,o+j,none⟩)) w:=by
 have h2:(j:Int)<n:=Z1
 go_simp
def nou(n:Nat):Nat:=(18446744073709551616 -(n+9))%64
def enL(n:Nat):Nat->List Nat
 | 0=>(List.replicate (nou n+9) 0).set 0 128
 | i+1=>(enL n i).set (nou n+9 -1 -i) ((n*8)>>>(8*i)%256)
def ending(n:Nat):List Nat:=enL n 8
theorem BB_rep(m:Nat):BB m (List.replicate m 0):=⟨by simp,fun j=>by
 simp only[List.getD_eq_getElem?_getD,List.getElem?_replicate];split<;>decide⟩
theorem enL_B(n:Nat): ∀i,BB (nou n+9) (enL n i)
 | 0=>(BB_rep _).set _ _ Z2
 | i+1=>(enL_B n i).set _ _ (Nat.mod_lt _ Z2)
end
end
section
def tkB(c:Nat)(bs xs:List Nat):Nat->List Nat
 | 0=>bs
 | j+1=>(tkB c bs xs j).set ((c+j)%64) (xs.getD j 0)
def tkS(c:Nat)(ss bs xs:List Nat):Nat->List Nat
 | 0=>ss
 | j+1=>if (c+j+1)%64=0 then blk (tkS c ss bs xs j) (tkB c bs xs (j+1)) else tkS c ss bs xs j
theorem tkB_B{c:Nat}{bs xs:List Nat}(hb:BB 64 bs)(hx: ∀j,xs.getD j 0<256): ∀j,BB 64 (tkB c bs xs j)
 | 0=>hb
 | j+1=>(tkB_B hb hx j).set _ _ (hx j)
theorem tkS_W{c:Nat}{ss bs xs:List Nat}(hs:WW 8 ss): ∀j,WW 8 (tkS c ss bs xs j)
 | 0=>hs
 | j+1=>by
  unfold tkS;split
  ·exact blk_W (tkS_W hs j) _
  ·exact tkS_W hs j
theorem set_app(l:List Nat)(k n x:Nat)(m:List Nat)(hm:m.length=n)(h:k+n<l.length):(l.take k++m++l.drop (k+n)).set (k+n) x=l.take k++(m++[x])++l.drop (k+n+1):=by
 have hk:(l.take k).length=k:=by rw[List.length_take];omega
 have hd:l.drop (k+n)=l[k+n]::l.drop (k+n+1):=List.drop_eq_getElem_cons h
 rw[hd,List.set_append_right _ _ (by rw[List.length_append,hk,hm];omega),List.length_append,hk,hm,Nat.sub_self,List.set_cons_zero]
 simp
theorem tkB_many(c:Nat)(bs xs:List Nat)(hb:bs.length=64)(j k:Nat)(hk:(c+j)%64=k): ∀n,k+n<=64->j+n<=xs.length->tkB c bs xs (j+n)=(tkB c bs xs j).take k++(xs.drop j).take n++(tkB c bs xs j).drop (k+n)
 | 0,_,_=>by simp
 | n+1,h1,h2=>by
  have ih:=tkB_many c bs xs hb j k hk n Z1 Z1
  have hl:(tkB c bs xs j).length=64:=by
   have: ∀j,(tkB c bs xs j).length=64:=fun j=>by
    induction j with
    | zero=>exact hb
    | succ j ih=>unfold tkB;rw[List.length_set];exact ih
   exact this j
  have hm:(c+(j+n))%64=k+n:=Z1
  have hg:xs.getD (j+n) 0=xs[j+n]:=by simp[List.getElem?_eq_getElem (show j+n<xs.length by omega)]
  show (tkB c bs xs (j+n)).set ((c+(j+n))%64) (xs.getD (j+n) 0)=_
  rw[hm,ih,set_app _ _ _ _ _ (by rw[List.length_take,List.length_drop];omega) Z1,hg]
  have:(xs.drop j).take (n+1)=(xs.drop j).take n++[xs[j+n]]:=by
   rw[List.take_succ_eq_append_getElem (by rw[List.length_drop];omega)];simp
  rw[this,Nat.add_assoc]
theorem tkS_many(c:Nat)(ss bs xs:List Nat)(j k:Nat)(hk:(c+j)%64=k): ∀n,k+(n+1)<=64->tkS c ss bs xs (j+(n+1))=if (c+j+(n+1))%64=0 then blk (tkS c ss bs xs j) (tkB c bs xs (j+(n+1))) else tkS c ss bs xs j
 | 0,_=>rfl
 | n+1,h=>by
  have ih:=tkS_many c ss bs xs j k hk n Z1
  rw[if_neg Z1] at ih
  show tkS c ss bs xs (j+(n+1)+1)=_
  rw[show tkS c ss bs xs (j+(n+1)+1)=if (c+(j+(n+1))+1)%64=0 then blk (tkS c ss bs xs (j+(n+1))) (tkB c bs xs (j+(n+1)+1)) else tkS c ss bs xs (j+(n+1)) from rfl,ih]
  rw[show c+(j+(n+1))+1=c+j+(n+1+1) by omega,show j+(n+1)+1=j+(n+1+1) by omega]
end
section
open Go.RowKit
section
section
variable {R:Rg} {P:Program} {ops:Array Oper} {Q:Exit->Act->World->Prop} {f:Nat->Bool} {t:Nat->Value} {u:World} {a:Act} {i:Nat} {o:Oper}
theorem wp_cp{K:Act->World->Prop}{s x:Operand}{T T2:TypeId}{vs vx v:Value}{w':World}(ho:o.op= .call {callee:= .builtin .copy,args:=[s,x].toArray,argTypes:=[T,T2].toArray})(hs:a.eval s=vs)(hx:a.eval x=vx)(hr:(Builtin.copy_ #[T,T2] o.type #[vs,vx]).run P u= .ok v w')(hk:K (a.put o.dst v) w'):o.wp P a u K Q:=by
 unfold Oper.wp execOp
 simp only[ho,resolve,invoke,builtin,Sem.run_bind,Sem.run_pure,Result.andThen_ok,List.map_toArray,List.map_cons,List.map_nil,hs,hx,hr]
 exact hk
theorem g_cp(k:Nat){T T2 e:TypeId}{x y:Operand}{b c dl dc sl sc:Nat}{ad:Addr}(xs ys zs cs:List Value)(ht:P.underlying T=some (.slice e))(hi:(P.info? e).map (·.size)=some 1)(hn:cs.length=Nat.min sl dl)(hsrc: ∀f u,KC f u R.lo R.base R.es->Below R.lo R.w u-> ∀j v,cs[j]?=some v->u.cell? (ad.add j)=some v)(h1: ∀v∈cs,v.oneCell'=true)(hxc:xs.length=c)(hl:ys.length=cs.length)
 (hop:o.op= .call {callee:= .builtin .copy,args:=[x,y].toArray,argTypes:=[T,T2].toArray}:=by rfl)(hes:R.es[k]?=some (true,b,xs++ys++zs,.all i (xs++cs++zs)):=by rfl)(hx:evR R i o x=some (.slice (some ⟨b,c,none⟩) dl dc):=by rfl)(hy:evR R i o y=some (.slice (some ad) sl sc):=by rfl)(hv:some (goInt cs.length)=Y3 i R.G:=by rfl)
 (hw:R.nw=[]:=by rfl)(hE:R.E=[]:=by rfl)(hc:((match o.dst with | some d=>ownsA i d R.G&&Ui i d R.Ns&&R.S.contains d | none=>false)&&R.okO i o&&((R.es.eraseIdx k).all fun q=>q.2.2.2.free i)&&(Wt R ops o==some true))=true:=by rfl):OG R P ops Q i o:=fun f t u a X=>by
 cases hdd:o.dst with
 | none=>rw[hdd] at hc;simp at hc
 | some d'=>
  rw[hdd] at hc
  simp only[Bool.and_eq_true,List.contains_iff_mem,beq_iff_eq] at hc
  obtain⟨q1,q2,q3⟩:=X.I.2.1.get hes
  have q3:CV u b (bif f i then xs++cs++zs else xs++ys++zs):=q3
  rw[X.fi] at q3
  have q3:CV u b (xs++ys++zs):=q3
  have hr:=run_copy_cells (P:=P) u T T2 o.type e b c dl dc ad sl sc cs ht hi hn (hsrc f u X.I.2.1 X.I.1.bel) (fun j hj=>by
   rw[(q3 (c+j) _ (List.getElem?_eq_getElem (by simp only[List.length_append];omega))).1];rfl) (fun j hj=>(q3 (c+j) _ (List.getElem?_eq_getElem (by simp only[List.length_append];omega))).2) h1
  have cc:=Chg.cellsAt u b c cs
  refine X.go hc.2 fun K hK=>wp_cp hop (X.ev hx) (X.ev hy) hr (hK _ _ ⟨updT t d' _,by rw[hdd];exact X.F.put X.parts.1 hc.1.1.1.2 _,?_,?_,Gs.stepA X.I.2.2.1 hc.1.1.1.1.1 hv.symm,Yj hc.1.1.2 X.I.2.2.2.1 X.dep,Ns.step X.I.2.2.2.2.1 hc.1.1.1.1.2,by rw[hE];trivial⟩)
  ·have hM:=X.I.1
   rw[hw] at hM⊢
   exact{bel:=Zz (q2 rfl) _ _ _ hM.bel,lo:=hM.lo,sz:=by rw[Zq];exact hM.sz,ks:=trivial,ex:=trivial,nw:=trivial,nd:=trivial}
  ·exact KC.put cc X.I.2.1 hes X.nd hc.1.2 (by simp only[Wr.val,Yl,cond_true];exact q3.mid hxc hl)
end
theorem U8_app(a b:List Nat):U8 (a++b)=U8 a++U8 b:=by simp[U8]
theorem l64{b c:Nat}{v:Int}(w:World)(h:w.cell? ⟨b,c,none⟩=some (iU v)):(Instr.loadAt 22 (.pointer (some ⟨b,c,none⟩))).run Tryz.prog w= .ok (iU v) w:=by go_simp
theorem s64{b c:Nat}{v x:Int}(w:World)(h:w.cell? ⟨b,c,none⟩=some (iU v))(hf:w.frozen? ⟨b,c,none⟩=false):(Instr.storeAt 22 (.pointer (some ⟨b,c,none⟩)) (iU x)).run Tryz.prog w= .ok () (w.setCell ⟨b,c,none⟩ (iU x)):=by go_simp
theorem U8_mem{l:List Nat}: ∀v∈U8 l,v.oneCell'=true:=fun v hv=>by
 obtain⟨x,_,rfl⟩:=List.mem_map.1 hv;rfl
theorem V8(p q:Operand)(x y:Int)(b:Bool)(w:World)(h:decide (y<x)=b):(do eqGuard .gtr 3 p q (iI x) (iI y);binOp .gtr 3 (iI x) (iI y):Sem Value).run Tryz.prog w= .ok (.bool b) w:=by
 subst h;go_simp
theorem eql_u(T:TypeId)(p q:Operand)(x y:Int)(b:Bool)(w:World)(h:(x==y)=b):(do eqGuard .eql T p q (iU x) (iU y);binOp .eql T (iU x) (iU y):Sem Value).run Tryz.prog w= .ok (.bool b) w:=by
 subst h;go_simp
theorem cvi64{o:Oper}{ev:Operand->Value}{x:Operand}{n:Nat}(u:World)(hn:n<1000000)(ho:o.op= .convert 3 22 x)(hx:ev x=iI (n:Int)):(execOp ev o).run Tryz.prog u= .ok (.value (iU (n:Int))) u:=by
 have e1:IntKind.u64.wrap (n:Int)=(n:Int):=by simp[IntKind.wrap,IntKind.signed,IntKind.bits];omega
 unfold execOp;rw[ho];simp only[hx];go_simp
def SB(w:World)(g o:Nat)(xs:List Nat):Prop:= ∀j,j<xs.length->w.cell? ⟨g,o+j,none⟩=some (.int .u8 ((xs.getD j 0:Nat):Int))
theorem SB.cells{w:World}{g o:Nat}{xs:List Nat}(h:SB w g o xs)(k n:Nat): ∀j v,(U8 ((xs.drop k).take n))[j]?=some v->w.cell? ((⟨g,o+k,none⟩:Addr).add j)=some v:=fun j v hj=>by
 have hl:j<((xs.drop k).take n).length:=by have:=(List.getElem?_eq_some_iff.1 hj).1;rwa [Zk] at this
 rw[Yv _ j hl] at hj
 have hl2:k+j<xs.length:=by rw[List.length_take,List.length_drop] at hl;omega
 have e:(⟨g,o+k,none⟩:Addr).add j=⟨g,o+(k+j),none⟩:=by unfold Addr.add;split<;>simp_all<;>omega
 rw[e,h (k+j) hl2,<-hj]
 have hn:j<n:=by rw[List.length_take] at hl;omega
 simp[List.getElem?_take,hn,List.getElem?_drop]
end
theorem SB.below{w w':World}{m g o:Nat}{xs:List Nat}(h:SB w g o xs)(hb:Below m w w')(hg:g<m):SB w' g o xs:=fun j hj=>(hb.cell (p:=⟨g,o+j,none⟩) hg).trans (h j hj)
theorem CV.sb{w:World}{b:Nat}{xs:List Nat}(h:CV w b (U8 xs)):SB w b 0 xs:=fun j hj=>by rw[Nat.zero_add];exact(h j _ (Yv xs j hj)).1
section
def tk1(q:List Nat×List Nat×Nat)(x:Nat):List Nat×List Nat×Nat:=
 (if (q.2.2+1)%64=0 then blk q.1 (q.2.1.set (q.2.2%64) x) else q.1,q.2.1.set (q.2.2%64) x,q.2.2+1)
def tkA(q:List Nat×List Nat×Nat)(xs:List Nat):List Nat×List Nat×Nat:=xs.foldl tk1 q
theorem tkA_app(q:List Nat×List Nat×Nat)(xs ys:List Nat):tkA q (xs++ys)=tkA (tkA q xs) ys:=List.foldl_append
theorem tkA_is(q:List Nat×List Nat×Nat)(xs:List Nat): ∀j,j<=xs.length->tkA q (xs.take j)=(tkS q.2.2 q.1 q.2.1 xs j,tkB q.2.2 q.2.1 xs j,q.2.2+j)
 | 0,_=>by simp[tkA,tkS,tkB]
 | j+1,h=>by
  have hg:xs.getD j 0=xs[j]:=by simp[List.getElem?_eq_getElem (show j<xs.length by omega)]
  rw[List.take_succ_eq_append_getElem Z1,tkA_app,tkA_is q xs j Z1]
  show tk1 _ _=_
  unfold tk1
  simp only[tkS,tkB,hg,Nat.add_assoc]
theorem tkA_all(q:List Nat×List Nat×Nat)(xs:List Nat):tkA q xs=(tkS q.2.2 q.1 q.2.1 xs xs.length,tkB q.2.2 q.2.1 xs xs.length,q.2.2+xs.length):=by
 have:=tkA_is q xs xs.length (Nat.le_refl _)
 rwa [List.take_length] at this
structure QW(q:List Nat×List Nat×Nat):Prop where
 s:WW 8 q.1
 b:BB 64 q.2.1
theorem QW.go{q:List Nat×List Nat×Nat}(h:QW q)(xs:List Nat)(hx: ∀j,xs.getD j 0<256):QW (tkA q xs):=by
 rw[tkA_all];exact⟨tkS_W h.s _,tkB_B h.b hx _⟩
theorem BB.all{n:Nat}{l:List Nat}(h:BB n l): ∀j,l.getD j 0<256:=h.lt
def q00:List Nat×List Nat×Nat:=(fst8,z64,0)
theorem q00_W:QW q00:=⟨⟨rfl,fun j=>by
 by_cases h:j<8
 ·exact(by decide: ∀j,j<8->fst8.getD j 0<M32) j h
 ·rw[List.getD_eq_getElem?_getD,List.getElem?_eq_none (by show 8<=j;omega)];decide⟩,BB_rep 64⟩
def dig(xs:List Nat):List Nat:=told (tkA q00 (xs++ending xs.length)).1
section
variable {R:Rg} {P:Program} {ops:Array Oper} {Q:Exit->Act->World->Prop} {f:Nat->Bool} {t:Nat->Value} {u:World} {a:Act} {i:Nat} {o:Oper}
end
end
def IN(w:World)(m:Nat)(v:Value)(xs:List Nat):Prop:= ∃(sl:Option Addr) (cap gb go:Nat),v= .slice sl xs.length cap/\xs.length<=cap/\(xs.length=0\/sl=some ⟨gb,go,none⟩)/\gb<m/\SB w gb go xs
theorem IN.below{w u:World}{m:Nat}{v:Value}{xs:List Nat}(h:IN w m v xs)(hB:Below m w u):IN u m v xs:=by
 obtain⟨sl,cap,gb,go,e,h1,h2,h3,h4⟩:=h
 exact⟨sl,cap,gb,go,e,h1,h2,h3,h4.below hB h3⟩
theorem IN.mono{w:World}{m m':Nat}{v:Value}{xs:List Nat}(h:IN w m v xs)(hm:m<=m'):IN w m' v xs:=by
 obtain⟨sl,cap,gb,go,e,h1,h2,h3,h4⟩:=h
 exact⟨sl,cap,gb,go,e,h1,h2,Nat.lt_of_lt_of_le h3 hm,h4⟩
def PL(w:World)(gl go:Nat)(ps:List (List Nat)):Prop:= ∀i p,ps[i]?=some p-> ∃v,w.cell? ⟨gl,go+i,none⟩=some v/\IN w w.heap.size v p
theorem by_getD{l:List Nat}(h: ∀x∈l,x<256)(j:Nat):l.getD j 0<256:=by
 rw[List.getD_eq_getElem?_getD]
 cases e:l[j]? with
 | none=>decide
 | some x=>exact h x (List.mem_of_getElem? e)
theorem BB.mem{n:Nat}{l:List Nat}(h:BB n l): ∀x∈l,x<256:=fun x hx=>by
 obtain⟨j,hj⟩:=List.mem_iff_getElem?.1 hx
 have:=h.lt j
 rwa [List.getD_eq_getElem?_getD,hj] at this
theorem ending_B(n:Nat):BB (nou n+9) (ending n):=enL_B n 8
theorem nou_lt(n:Nat):nou n<64:=Nat.mod_lt _ Z2
theorem told_B(ss:List Nat):BB 32 (told ss):=tld_B ss 32
theorem dig_B(xs:List Nat):BB 32 (dig xs):=told_B _
section
theorem Addr.add0(b j:Nat):(⟨b,0,none⟩:Addr).add j=⟨b,j,none⟩:=by unfold Addr.add;split<;>simp_all
theorem Addr.addo(b o j:Nat):(⟨b,o,none⟩:Addr).add j=⟨b,o+j,none⟩:=by unfold Addr.add;split<;>simp_all
def NW(m:Nat)(news:List Value)(u:World)(y:Value):Prop:= ∃sl c,y= .slice sl m c/\(m=0\/ ∃ad,sl=some ad/\ ∀j v,news[j]?=some v->u.cell? (ad.add j)=some v)
def PH(base b0 s n:Nat)(xs:List Value)(u:World)(v:Value):Prop:= ∃b cap zs,v= .slice (some ⟨b,0,none⟩) n cap/\(b=b0\/base<=b)/\b<u.heap.size/\n<=cap/\zs.length=(cap -n)*s/\CV u b (xs++zs)
theorem PH.stab{base b0 s n:Nat}{xs:List Value}{u v:World}{x:Value}(hB:Bw u v)(h:PH base b0 s n xs u x):PH base b0 s n xs v x:=by
 obtain⟨b,cap,zs,e,h1,h2,h3,h4,h5⟩:=h
 exact⟨b,cap,zs,e,h1,Nat.lt_of_lt_of_le h2 hB.size,h3,h4,h5.below hB h2⟩
theorem grown_setCells(u:World)(b o:Nat)(vs:List Value):u.grownBy (u.setCells b o vs) (some b):=by
 have h:Below (min b u.heap.size) u (u.setCells b o vs):=Zz (Nat.min_le_left _ _) _ _ _ (Below.refl _ _)
 refine⟨h.os,h.tape,h.output,by rw[Zq];exact Nat.le_refl _,fun k hk hne=>?_⟩
 exact World.heap_setCells_other u b o vs hk (fun e=>hne (by rw[e]))
section
variable {P:Program}
theorem V2(w:World){T ty e:TypeId}{ti:TypeInfo}{z:Value}(ht:P.underlying T=some (.slice e))(hi:P.info? e=some ti)(hz:ti.zero=some z)(hzs:z.cells.size=ti.size){base b n cap m:Nat}{xs zs news:List Value}{y:Value}(hcv:CV w b (xs++zs))(hlt:b<w.heap.size)(hx:xs.length=n*ti.size)(hzl:zs.length=(cap -n)*ti.size)(hnc:n<=cap)(hbase:base<=w.heap.size)(hy:NW m news w y)(hl:news.length=m*ti.size)(h1: ∀v∈news,v.oneCell'=true)(hb:(n+m)*ti.bytes<=140737488355328)(h63:n+m<=9223372036854775807):
 ∃v' w',(Builtin.append_ #[T,T] ty #[.slice (some ⟨b,0,none⟩) n cap,y]).run P w= .ok v' w'/\w.grownBy w' (some b)/\PH base b ti.size (n+m) (xs++news) w' v':=by
 obtain⟨sl,c,rfl,hy⟩:=hy
 by_cases hm:m=0
 ·subst hm
  have hn0:news=[]:=List.eq_nil_of_length_eq_zero Z1
  subst hn0
  refine⟨.slice (some ⟨b,0,none⟩) n cap,w,?_,World.grownBy.refl _ _,b,cap,zs,rfl,.inl rfl,hlt,hnc,hzl,by simpa using hcv⟩
  have hf:(Builtin.firstCells ti.size 0 (.slice sl 0 c)).run P w= .ok #[] w:=by
   cases sl with
   | none=>exact run_firstCells_none (P:=P) w ti.size 0 0 c
   | some ad=>exact run_firstCells_some (P:=P) w ti.size 0 ad 0 c [] (by simp) (fun j v h=>by simp at h)
  simp[Builtin.append_,run_underlying ht,sizeOf,typeInfo,hi,Builtin.lenOf,hnc,hf,storeCells]
 ·obtain⟨ad,rfl,hnews⟩:=hy.resolve_left hm
  have hmul:(n+m)*ti.size=n*ti.size+m*ti.size:=Nat.add_mul _ _ _
  by_cases hr:n+m<=cap
  ·have hk:(cap -n)*ti.size=m*ti.size+(cap -(n+m))*ti.size:=by rw[<-Nat.add_mul];congr 1;omega
   have h:=Ua (P:=P) w (ty:=ty) ht hi hcv (m:=m) (c:=c) hl hnews h1 hr (by rw[List.length_append];omega)
   refine⟨_,_,h,grown_setCells _ _ _ _,b,cap,zs.drop news.length,rfl,.inl rfl,by rw[Zq];exact hlt,hr,by rw[List.length_drop];omega,?_⟩
   have hcv2:CV w b (xs++zs.take news.length++zs.drop news.length):=by rw[List.append_assoc,List.take_append_drop];exact hcv
   exact hcv2.mid hx (by rw[List.length_take];omega)
  ·have h:=run_append_grow (P:=P) w T ty e ti z ht hi hz ⟨b,0,none⟩ n cap xs hx (fun j v hj=>by rw[Addr.add0];exact(hcv.pre2 j v hj).1) ad m c news hl hnews Z1 Z1 (growslice_fits Z1 hb)
   have hB:Bw w (w.drew.alloc (.cells (xs.toArray++news.toArray++Builtin.zeroCells z.cells (grownCap w (n+m) cap e -(n+m))) e)):=Z5 (Zf w).drew _
   refine⟨_,_,h,(U5 hB).but _,w.heap.size,_,(Builtin.zeroCells z.cells (grownCap w (n+m) cap e -(n+m))).toList,rfl,.inr hbase,by simp,grownCap_ge w (n+m) cap e,by rw[Array.length_toList,size_zeroCells,hzs],?_⟩
   have e1:xs.toArray++news.toArray++Builtin.zeroCells z.cells (grownCap w (n+m) cap e -(n+m))=(xs++news++(Builtin.zeroCells z.cells (grownCap w (n+m) cap e -(n+m))).toList).toArray:=by apply Array.ext';simp
   rw[e1];exact CV.new w.drew _ e
end
theorem KC.putG{f:Nat->Bool}{u v:World}{lo base i b:Nat}(hg:u.grownBy v (some b))(hs:base<=u.heap.size): ∀{es:List Ent} {k:Nat} {o:Bool} {l:List Value},KC f u lo base es->es[k]?=some (o,b,l,.all i [])->(es.map (·.2.1)).Nodup->((es.eraseIdx k).all fun q=>q.2.2.2.free i)=true->KC (updF f i) v lo base es:=by
 have oth: ∀{n:Nat} {l:List Value},n<base->n≠b->CV u n l->CV v n l:=fun{n l} hn hne h j x hj=>by
  have hk:v.heap[n]?=u.heap[n]?:=hg.block _ Z1 (fun e=>hne (by cases e;rfl))
  rw[World.cell?_of_block (a:=⟨n,j,none⟩) hk,World.frozen?_of_block (a:=⟨n,j,none⟩) hk]
  exact h j x hj
 have hr: ∀{es:List Ent},b∉es.map (·.2.1)->(es.all fun q=>q.2.2.2.free i)=true->KC f u lo base es->KC (updF f i) v lo base es:=by
  intro es
  induction es with
  | nil=>intros;trivial
  | cons y ys ih=>
   intro hb ha h
   simp only[List.map_cons,List.mem_cons,not_or] at hb
   simp only[List.all_cons,Bool.and_eq_true] at ha
   have hfr:=KC.free (i:=i) (es:=[y]) (by simp[ha.1]) (show KC f u lo base [y] from ⟨h.1,trivial⟩)
   exact⟨⟨h.1.1,h.1.2.1,oth h.1.1 (fun e=>hb.1 e.symm) hfr.1.2.2⟩,ih hb.2 ha.2 h.2⟩
 intro es
 induction es with
 | nil=>intro k o l _ e;simp at e
 | cons q r ih=>
  intro k o l h e n hx
  simp only[List.map_cons,List.nodup_cons] at n
  cases k with
  | zero=>
   simp at e;subst e
   simp only[List.eraseIdx_cons_zero] at hx
   refine⟨⟨h.1.1,h.1.2.1,?_⟩,hr n.1 hx h.2⟩
   intro j x hj
   simp[Wr.val,updF] at hj
  | succ k=>
   simp only[List.getElem?_cons_succ] at e
   simp only[List.eraseIdx_cons_succ,List.all_cons,Bool.and_eq_true] at hx
   have hm:b∈r.map (·.2.1):=by
    have:=List.mem_of_getElem? e
    exact List.mem_map.2 ⟨_,this,rfl⟩
   have hfr:=KC.free (i:=i) (es:=[q]) (by simp[hx.1]) (show KC f u lo base [q] from ⟨h.1,trivial⟩)
   exact⟨⟨h.1.1,h.1.2.1,oth h.1.1 (fun e=>n.1 (e▸hm)) hfr.1.2.2⟩,ih h.2 e n.2 hx.2⟩
def Rg.chkG(R:Rg)(ops:Array Oper)(n k i:Nat)(o:Oper):Bool:=
 (match o.dst,R.E[n]? with | some d,some q=>q.i==i&&q.d==d&&owns i d R.G&&Ui i d R.Ns&&R.S.contains d | _,_=>false)
 &&R.okO i o&&((R.es.eraseIdx k).all fun q=>q.2.2.2.free i)&&((R.E.eraseIdx n).all (eGone R.O i o))&&(Wt R ops o==some true)
section
variable {R:Rg} {P:Program} {ops:Array Oper} {Q:Exit->Act->World->Prop} {f:Nat->Bool} {t:Nat->Value} {u:World} {a:Act} {i:Nat} {o:Oper}
theorem Ux{n k:Nat}(h:R.chkG ops n k i o=true): ∃d q,o.dst=some d/\R.E[n]?=some q/\(q.i=i/\q.d=d)/\owns i d R.G=true/\Ui i d R.Ns=true/\d∈R.S/\R.okO i o=true/\((R.es.eraseIdx k).all fun q=>q.2.2.2.free i)=true/\((R.E.eraseIdx n).all (eGone R.O i o))=true/\Wt R ops o=some true:=by
 unfold Rg.chkG at h
 cases hd:o.dst with
 | none=>rw[hd] at h;simp at h
 | some d=>
  cases hq:R.E[n]? with
  | none=>rw[hd,hq] at h;simp at h
  | some q=>
   rw[hd,hq] at h
   rw[Bool.and_eq_true,Bool.and_eq_true,Bool.and_eq_true,Bool.and_eq_true,Bool.and_eq_true,Bool.and_eq_true,Bool.and_eq_true,Bool.and_eq_true,List.contains_iff_mem,beq_iff_eq,beq_iff_eq,beq_iff_eq] at h
   obtain⟨⟨⟨⟨⟨⟨⟨⟨a1,a2⟩,a3⟩,a4⟩,a5⟩,a6⟩,a7⟩,a8⟩,a9⟩:=h
   exact⟨d,q,rfl,rfl,⟨a1,a2⟩,a3,a4,a5,a6,a7,a8,a9⟩
theorem Xs.putG{n k b:Nat}{l:List Value}{p:World->Value->Prop}{v:Value}{u':World}(X:Xs R ops f t u a i o)(hg:u.grownBy u' (some b))(hn:R.es[k]?=some (true,b,l,.all i []))(hw0:R.nw=[])(hc:R.chkG ops n k i o=true)(hn0:(R.E[n]?).map (·.p)=some p)(hp:p u' v): ∃t',Fr R.fr R.S (a.put o.dst v) t'/\Inv R (updF f i) t' u':=by
 obtain⟨d',q',hd',hq',⟨e1,e2⟩,k1,k2,k3,k6,k7,k8,hw⟩:=Ux hc
 obtain⟨_,q2,_⟩:=X.I.2.1.get hn
 refine⟨updT t d' v,by rw[hd'];exact X.F.put X.parts.1 k3 v,?_,KC.putG hg X.I.1.sz X.I.2.1 hn X.nd k7,Gs.other k1 X.I.2.2.1,Yj k6 X.I.2.2.2.1 X.dep,Ns.step X.I.2.2.2.2.1 k2,?_⟩
 ·have hM:=X.I.1
  rw[hw0] at hM⊢
  exact{bel:=hM.bel.grown hg (Nat.le_trans hM.lo hM.sz) (fun k e=>by cases e;exact q2 rfl),lo:=hM.lo,sz:=Nat.le_trans hM.sz hg.size,ks:=trivial,ex:=trivial,nw:=trivial,nd:=trivial}
 ·exact Es.last (O:=R.O) (fun j hj=>X.later (by unfold Rg.later;rw[hj];simp)) X.dep (by rw[hq',<-e1,<-e2]) k8 (by rw[hq'] at hn0;cases hn0;exact hp)
theorem g_pE(k m n':Nat)(p:World->Value->Prop){T e:TypeId}{ti:TypeInfo}{z:Value}{x:Operand}{j d b n q cap:Nat}{l:List Value}(xs zs news:List Value)(ht:P.underlying T=some (.slice e))(hi:P.info? e=some ti)(hz:ti.zero=some z)(hzs:z.cells.size=ti.size)(hl:l=xs++zs)(hp: ∀u y,p u y->NW q news u y)(h1: ∀v∈news,v.oneCell'=true)(hnl:news.length=q*ti.size)(hxl:xs.length=n*ti.size)(hzl:zs.length=(cap -n)*ti.size)(hnc:n<=cap)(hb:(n+q)*ti.bytes<=140737488355328)(h63:n+q<=9223372036854775807)
 (hop:o.op= .call {callee:= .builtin .append,args:=[x,.tmp d].toArray,argTypes:=[T,T].toArray}:=by rfl)(hn:R.es[k]?=some (true,b,l,.all i []):=by rfl)(hx:evR R i o x=some (.slice (some ⟨b,0,none⟩) n cap):=by rfl)(hm:R.E[m]?=some ⟨j,d,some i,p⟩:=by rfl)(hd:(Zs o j&&R.S.contains d)=true:=by rfl)(hn0:(R.E[n']?).map (·.p)=some (PH R.base b ti.size (n+q) (xs++news)):=by rfl)
 (hw:R.nw=[]:=by rfl)(hc:R.chkG ops n' k i o=true:=by rfl):OG R P ops Q i o:=fun f t u a X=>by
 rw[Bool.and_eq_true,List.contains_iff_mem] at hd
 obtain⟨h2,h4⟩:=hd
 obtain⟨d',q',hd',hq',_,_,_,_,_,_,_,hwt⟩:=Ux hc
 obtain⟨q1,q2,q3⟩:=X.I.2.1.get hn
 have q3:CV u b (bif f i then [] else l):=q3
 rw[X.fi] at q3
 have q3:CV u b l:=q3
 rw[hl] at q3
 have hy:p u (t d):=X.val hm h2 rfl
 obtain⟨v',w',hr,hg,hph⟩:=V2 (P:=P) u (ty:=o.type) ht hi hz hzs (base:=R.base) q3 (Nat.lt_of_lt_of_le q1 X.I.1.sz) hxl hzl hnc X.I.1.sz (hp u (t d) hy) hnl h1 hb h63
 exact X.go hwt fun K hK=>Vn hop (X.ev hx) (X.inS h4) hr (hK _ _ (X.putG hg hn hw hc hn0 hph))
theorem g_pV(k n':Nat){T e:TypeId}{ti:TypeInfo}{z vy:Value}{x y:Operand}{b n q cap:Nat}{l:List Value}(xs zs news:List Value)(ht:P.underlying T=some (.slice e))(hi:P.info? e=some ti)(hz:ti.zero=some z)(hzs:z.cells.size=ti.size)(hl:l=xs++zs)(hp: ∀f u,KC f u R.lo R.base R.es->Below R.lo R.w u->NW q news u vy)(h1: ∀v∈news,v.oneCell'=true)(hnl:news.length=q*ti.size)(hxl:xs.length=n*ti.size)(hzl:zs.length=(cap -n)*ti.size)(hnc:n<=cap)(hb:(n+q)*ti.bytes<=140737488355328)(h63:n+q<=9223372036854775807)
 (hop:o.op= .call {callee:= .builtin .append,args:=[x,y].toArray,argTypes:=[T,T].toArray}:=by rfl)(hn:R.es[k]?=some (true,b,l,.all i []):=by rfl)(hx:evR R i o x=some (.slice (some ⟨b,0,none⟩) n cap):=by rfl)(hy:evR R i o y=some vy:=by rfl)(hn0:(R.E[n']?).map (·.p)=some (PH R.base b ti.size (n+q) (xs++news)):=by rfl)
 (hw:R.nw=[]:=by rfl)(hc:R.chkG ops n' k i o=true:=by rfl):OG R P ops Q i o:=fun f t u a X=>by
 obtain⟨d',q',hd',hq',_,_,_,_,_,_,_,hwt⟩:=Ux hc
 obtain⟨q1,q2,q3⟩:=X.I.2.1.get hn
 have q3:CV u b (bif f i then [] else l):=q3
 rw[X.fi] at q3
 have q3:CV u b l:=q3
 rw[hl] at q3
 obtain⟨v',w',hr,hg,hph⟩:=V2 (P:=P) u (ty:=o.type) ht hi hz hzs (base:=R.base) q3 (Nat.lt_of_lt_of_le q1 X.I.1.sz) hxl hzl hnc X.I.1.sz (hp f u X.I.2.1 X.I.1.bel) hnl h1 hb h63
 exact X.go hwt fun K hK=>Vn hop (X.ev hx) (X.ev hy) hr (hK _ _ (X.putG hg hn hw hc hn0 hph))
theorem KC.grown{u u':World}{lo base b:Nat}(hg:u.grownBy u' (some b))(hb:base<=b)(hsz:base<=u.heap.size): ∀{es:List Ent},KC f u lo base es->KC f u' lo base es
 | [],_=>trivial
 | y::ys,h=>⟨⟨h.1.1,h.1.2.1,fun j x hj=>by
  have hk:u'.heap[y.2.1]?=u.heap[y.2.1]?:=hg.block _ (Nat.lt_of_lt_of_le h.1.1 hsz) (fun e=>by cases e;have:=h.1.1;omega)
  rw[World.cell?_of_block (a:=⟨y.2.1,j,none⟩) hk,World.frozen?_of_block (a:=⟨y.2.1,j,none⟩) hk]
  exact h.1.2.2 j x hj⟩,KC.grown hg hb hsz h.2⟩
def ev1(R:Rg)(i:Nat)(o:Oper)(d:Nat)(y:Value)(x:Operand):Option Value:=
 match x with
 | .tmp k=>bif Nat.beq k d then some y else evR R i o (.tmp k)
 | x=>evR R i o x
theorem ev1_spec(X:Xs R ops f t u a i o){d:Nat}(h4:d∈R.S){x:Operand}{v:Value}(h:ev1 R i o d (t d) x=some v):a.eval x=v:=by
 unfold ev1 at h
 split at h
 ·rename_i k
  cases e:Nat.beq k d with
  | true=>
   rw[e] at h
   have e:=Nat.eq_of_beq_eq_true e
   subst e
   cases h
   exact X.inS h4
  | false=>rw[e] at h;exact X.ev h
 ·exact X.ev h
theorem evs1(X:Xs R ops f t u a i o){d:Nat}(h4:d∈R.S): ∀{xs:List Operand} {vs:List Value},xs.mapM (ev1 R i o d (t d))=some vs->xs.map a.eval=vs
 | [],vs,h=>by simp at h;subst h;rfl
 | x::xs,vs,h=>by
  simp only[List.mapM_cons,Option.bind_eq_bind,Option.bind_eq_some_iff,Option.pure_def,Option.some.injEq] at h
  obtain⟨v,hv,vs',hvs,rfl⟩:=h
  rw[List.map_cons,ev1_spec X h4 hv,evs1 X h4 hvs]
theorem g_cK{N:FuncId}{args:List Operand}{tys:Array TypeId}{vs:List Value}{v:Value}(hr: ∀(vs:Array Value) (w:World),(callFunc N vs).run P w= .ok (.enter N vs) w)
 (hcall: ∀f w,KC f w R.lo R.base R.es->R.base<=w.heap.size->Below R.lo R.w w->Calls P N vs.toArray w fun e w'=>e= .returned v/\Bw w w')(hop:o.op= .call {callee:= .value (.func N),args:=args.toArray,argTypes:=tys}:=by rfl)(hx:args.mapM (evR R i o)=some vs:=by rfl)(hv:some v=Y3 i R.G:=by rfl)(hc:R.chk ops i o=true:=by rfl):OG R P ops Q i o:=fun f t u a X=>
 X.go (Yi hc).choose_spec.2.2.2.2.2.2.2 fun K hK=>Wg hop (X.evs hx) hr (hcall f u X.I.2.1 X.I.1.sz X.I.1.bel) fun w' hB=>hK _ _ (X.put hv hc (X.I.1.call hB) (X.I.2.1.below hB X.I.1.sz) hB)
end
end
section
theorem Vh{P:Program}(w:World){T ty e:TypeId}{ti:TypeInfo}{z:Value}(ht:P.underlying T=some (.slice e))(hi:P.info? e=some ti)(hz:ti.zero=some z)(hzs:z.cells.size=ti.size){lo b n m:Nat}{xs news:List Value}{y:Value}(hcv:CV w b xs)(hlo:lo<=b)(hlo2:lo<=w.heap.size)(hlt:b<w.heap.size)(hx:xs.length=n*ti.size)(hy:NW m news w y)(hl:news.length=m*ti.size)(hb:(n+m)*ti.bytes<=140737488355328)(h63:n+m<=9223372036854775807):
 ∃v' w',(Builtin.append_ #[T,T] ty #[.slice (some ⟨b,0,none⟩) n n,y]).run P w= .ok v' w'/\Bw w w'/\PG lo ti.size (n+m) (xs++news) w' v':=by
 obtain⟨sl,c,rfl,hy⟩:=hy
 by_cases hm:m=0
 ·subst hm
  have hn0:news=[]:=List.eq_nil_of_length_eq_zero Z1
  subst hn0
  refine⟨.slice (some ⟨b,0,none⟩) n n,w,?_,Below.refl _ _,b,n,[],rfl,hlo,hlt,Nat.le_refl _,by simp,by simpa using hcv⟩
  have hf:(Builtin.firstCells ti.size 0 (.slice sl 0 c)).run P w= .ok #[] w:=by
   cases sl with
   | none=>exact run_firstCells_none (P:=P) w ti.size 0 0 c
   | some ad=>exact run_firstCells_some (P:=P) w ti.size 0 ad 0 c [] (by simp) (fun j v h=>by simp at h)
  simp[Builtin.append_,run_underlying ht,sizeOf,typeInfo,hi,Builtin.lenOf,hf,storeCells]
 ·obtain⟨ad,rfl,hnews⟩:=hy.resolve_left hm
  have h:=run_append_grow (P:=P) w T ty e ti z ht hi hz ⟨b,0,none⟩ n n xs hx (fun j v hj=>by rw[Addr.add0];exact(hcv j v hj).1) ad m c news hl hnews Z1 Z1 (growslice_fits Z1 hb)
  refine⟨_,_,h,Z5 (Zf w).drew _,w.heap.size,_,(Builtin.zeroCells z.cells (grownCap w (n+m) n e -(n+m))).toList,rfl,hlo2,by simp,grownCap_ge w (n+m) n e,by rw[Array.length_toList,size_zeroCells,hzs],?_⟩
  have e1:xs.toArray++news.toArray++Builtin.zeroCells z.cells (grownCap w (n+m) n e -(n+m))=(xs++news++(Builtin.zeroCells z.cells (grownCap w (n+m) n e -(n+m))).toList).toArray:=by apply Array.ext';simp
  rw[e1];exact CV.new w.drew _ e
section
variable {R:Rg} {P:Program} {ops:Array Oper} {Q:Exit->Act->World->Prop} {f:Nat->Bool} {t:Nat->Value} {u:World} {a:Act} {i:Nat} {o:Oper}
end
end
theorem getD_app1{a b:List Nat}{j:Nat}(h:j<a.length):(a++b).getD j 0=a.getD j 0:=by
 rw[List.getD_eq_getElem?_getD,List.getD_eq_getElem?_getD,List.getElem?_append_left h]
theorem getD_app2{a b:List Nat}{j:Nat}(h:a.length<=j):(a++b).getD j 0=b.getD (j -a.length) 0:=by
 rw[List.getD_eq_getElem?_getD,List.getD_eq_getElem?_getD,List.getElem?_append_right h]
def msk(x:Nat)(l:List Nat):List Nat:=l.map (· ^^^x)
def mkL(x:Nat)(l:List Nat):Nat->List Nat
 | 0=>l
 | i+1=>(mkL x l i).set i ((mkL x l i).getD i 0^^^x)
theorem mkL_is(x:Nat)(l:List Nat): ∀i,i<=l.length->mkL x l i=(l.take i).map (· ^^^x)++l.drop i
 | 0,_=>by simp[mkL]
 | i+1,h=>by
  have hi:i<l.length:=Z1
  have e1:((l.take i).map (· ^^^x)).length=i:=by rw[List.length_map,List.length_take];omega
  rw[mkL,mkL_is x l i Z1]
  have e2:l.drop i=l[i]::l.drop (i+1):=List.drop_eq_getElem_cons hi
  rw[e2,List.take_succ_eq_append_getElem hi,List.map_append,List.append_assoc]
  rw[getD_app2 Z1,List.set_append_right _ _ Z1,e1,Nat.sub_self]
  rfl
theorem mkL_all(x:Nat)(l:List Nat):mkL x l l.length=msk x l:=by
 rw[mkL_is x l _ (Nat.le_refl _)];simp[msk]
theorem xor_lt8{a b:Nat}(ha:a<256)(hb:b<256):a^^^b<256:=Nat.xor_lt_two_pow (n:=8) ha hb
theorem mkL_B{x n:Nat}{l:List Nat}(h:BB n l)(hx:x<256): ∀i,BB n (mkL x l i)
 | 0=>h
 | i+1=>(mkL_B h hx i).set _ _ (xor_lt8 ((mkL_B h hx i).lt i) hx)
theorem msk_B{x n:Nat}{l:List Nat}(h:BB n l)(hx:x<256):BB n (msk x l):=by
 rw[<-mkL_all];exact mkL_B h hx _
def whk(ks:List Nat):List Nat:=if 64<ks.length then dig ks else ks
def whl(ks:List Nat):List Nat:=whk ks++List.replicate (64 -(whk ks).length) 0
theorem whk_len(ks:List Nat):(whk ks).length<=64:=by
 unfold whk;split
 ·rw[(dig_B ks).len];decide
 ·omega
theorem app_B{n m:Nat}{a b:List Nat}(ha:BB n a)(hb:BB m b):BB (n+m) (a++b):=⟨by rw[List.length_append,ha.len,hb.len],fun j=>by
 by_cases h:j<a.length
 ·rw[getD_app1 h];exact ha.lt j
 ·rw[getD_app2 Z1];exact hb.lt _⟩
theorem BB_of{l:List Nat}(h: ∀x∈l,x<256):BB l.length l:=⟨rfl,by_getD h⟩
theorem whk_m{ks:List Nat}(h: ∀x∈ks,x<256): ∀x∈whk ks,x<256:=by
 unfold whk;split
 ·exact(dig_B ks).mem
 ·exact h
theorem whl_B{ks:List Nat}(h: ∀x∈ks,x<256):BB 64 (whl ks):=by
 have:=app_B (BB_of (whk_m h)) (BB_rep (64 -(whk ks).length))
 rwa [show (whk ks).length+(64 -(whk ks).length)=64 by have:=whk_len ks;omega] at this
def hm(k xs:List Nat):List Nat:=dig (msk 92 k++dig (msk 54 k++xs))
theorem hm_B(k xs:List Nat):BB 32 (hm k xs):=dig_B _
theorem or_zero{a b:Nat}:a ||| b=0↔a=0/\b=0:=by
 constructor
 ·intro h
  constructor
  ·exact Nat.eq_of_testBit_eq fun i=>by
    have:=congrArg (fun n=>n.testBit i) h
    simp at this
    simp[this.1]
  ·exact Nat.eq_of_testBit_eq fun i=>by
    have:=congrArg (fun n=>n.testBit i) h
    simp at this
    simp[this.2]
 ·rintro⟨rfl,rfl⟩;rfl
theorem wraps_u8(n:Int)(h0:0<=n)(h1:n<2^8):IntKind.u8.wrap n=n:=by simp[IntKind.wrap,IntKind.signed,IntKind.bits];omega
theorem bit_xor8(a b:Nat)(ha:a<256)(hb:b<256):bits .xor .u8 a b=((a^^^b:Nat):Int):=by
 have ha':a%2^8=a:=Nat.mod_eq_of_lt ha
 have hb':b%2^8=b:=Nat.mod_eq_of_lt hb
 have h:(BitVec.ofNat 8 a^^^BitVec.ofNat 8 b).toNat=a^^^b:=by rw[BitVec.toNat_xor,BitVec.toNat_ofNat,BitVec.toNat_ofNat,ha',hb']
 show IntKind.u8.wrap ((BitVec.ofInt 8 (a:Int)^^^BitVec.ofInt 8 (b:Int)).toNat:Int)=_
 rw[BitVec.ofInt_natCast,BitVec.ofInt_natCast,h]
 exact wraps_u8 _ (Int.natCast_nonneg _) (by exact_mod_cast xor_lt8 ha hb)
theorem xor8(p q:Operand)(a b:Nat)(w:World)(ha:a<256)(hb:b<256):(do eqGuard .xor 5 p q (.int .u8 a) (.int .u8 b);binOp .xor 5 (.int .u8 a) (.int .u8 b):Sem Value).run Tryz.prog w= .ok (.int .u8 ((a^^^b:Nat):Int)) w:=by
 rw[<-bit_xor8 a b ha hb];go_simp
def PQ(lo:Nat)(ps:List (List Nat))(u:World)(y:Value):Prop:= ∃b cap,y= .slice (some ⟨b,0,none⟩) ps.length cap/\lo<=b/\b<u.heap.size/\PL u b 0 ps
theorem PL.below{u v:World}{b o:Nat}{ps:List (List Nat)}(h:PL u b o ps)(hb:b<u.heap.size)(hB:Bw u v):PL v b o ps:=fun i p hp=>by
 obtain⟨x,h1,h2⟩:=h i p hp
 exact⟨x,(hB.cell (p:=⟨b,o+i,none⟩) hb).trans h1,(h2.below hB).mono hB.size⟩
theorem PQ.stab{lo:Nat}{ps:List (List Nat)}{u v:World}{x:Value}(hB:Bw u v)(h:PQ lo ps u x):PQ lo ps v x:=by
 obtain⟨b,cap,e,h1,h2,h3⟩:=h
 exact⟨b,cap,e,h1,Nat.lt_of_lt_of_le h2 hB.size,h3.below h2 hB⟩
section
abbrev M64:Nat:=18446744073709551616
theorem Xk(n:Int)(h0:0<=n)(h1:n<2^64):IntKind.u64.wrap n=n:=by simp[IntKind.wrap,IntKind.signed,IntKind.bits];omega
theorem bit_or64(a b:Nat)(ha:a<M64)(hb:b<M64):bits .or .u64 a b=((a ||| b:Nat):Int):=(bits_nat .u64 64 Z2 Xk a b ha hb).2
theorem or64(p q:Operand)(a b:Nat)(w:World)(ha:a<M64)(hb:b<M64):(do eqGuard .or 22 p q (iU a) (iU b);binOp .or 22 (iU a) (iU b):Sem Value).run Tryz.prog w= .ok (iU ((a ||| b:Nat):Int)) w:=by
 rw[<-bit_or64 a b ha hb];go_simp
theorem cv864{o:Oper}{ev:Operand->Value}{x:Operand}{n:Nat}(u:World)(h1:n<256)(ho:o.op= .convert 5 22 x)(hx:ev x= .int .u8 (n:Int)):(execOp ev o).run Tryz.prog u= .ok (.value (iU (n:Int))) u:=by
 have e1:IntKind.u64.wrap (n:Int)=(n:Int):=Xk _ Z1 Z1
 unfold execOp;rw[ho];simp only[hx];go_simp
section
variable {R:Rg} {P:Program} {ops:Array Oper} {Q:Exit->Act->World->Prop} {f:Nat->Bool} {t:Nat->Value} {u:World} {a:Act} {i:Nat} {o:Oper}
theorem g_mx{x y:Operand}{tys:Array TypeId}{m n r:Int}(hr:max m n=r)(hop:o.op= .call {callee:= .builtin .max,args:=[x,y].toArray,argTypes:=tys}:=by rfl)(hx:evR R i o x=some (iI m):=by rfl)(hy:evR R i o y=some (iI n):=by rfl)(hv:some (iI r)=Y3 i R.G:=by rfl)(hc:R.chk ops i o=true:=by rfl):OG R P ops Q i o:=
 Ya hv hc fun f t u a X K hK=>by
  have h1:=X.ev hx
  have h2:=X.ev hy
  refine Yg (v:=iI r) (w':=u) ?_ hK
  unfold execOp
  simp only[hop,resolve,invoke,builtin,Sem.run_bind,Sem.run_pure,Result.andThen_ok,List.map_toArray,List.map_cons,List.map_nil,h1,h2]
  subst hr
  simp[go_sem]
  all_goals (rw[Int.max_def];split<;>split<;>omega)
end
end
theorem Xe(w:World):(Op.unary .not (.bool true)).run Tryz.prog w= .ok (.bool false) w:=by go_simp
theorem slHB(sl:Option Addr)(n cap k:Nat)(h:k<=n)(hc:n<=cap)(hn:sl=none->cap=0)(w:World):(Instr.sliceAt 133 (.slice sl n cap) none (some (iI k)) none).run Tryz.prog w= .ok (.slice sl k cap) w:=by
 cases sl with
 | none=>
  have e0:=hn rfl
  have e1:n=0:=Z1
  have e2:k=0:=Z1
  subst e0 e1 e2
  show (Instr.sliceAt 133 (.slice none 0 0) none (some (iI 0)) none).run Tryz.prog w=_
  kernel_rfl
 | some a=>
  have h3:k<=cap:=Z1
  simp[Instr.sliceAt,Instr.slice,go_sem,Tryz.underlying133,h3]
theorem IN_nil(u:World)(h:0<u.heap.size):IN u u.heap.size (.slice none 0 0) []:=⟨none,0,0,0,rfl,Nat.le_refl _,.inl rfl,h,fun j hj=>by simp at hj⟩
theorem sc32(ds:List Nat)(hd:ds.length=32)(u:World):(storeCells ⟨u.heap.size,0,none⟩ (U8 ds)).run Tryz.prog (u.alloc (.cells #[.int .u8 0,.int .u8 0,.int .u8 0,.int .u8 0,.int .u8 0,.int .u8 0,.int .u8 0,.int .u8 0,.int .u8 0,.int .u8 0,.int .u8 0,.int .u8 0,.int .u8 0,.int .u8 0,.int .u8 0,.int .u8 0,.int .u8 0,.int .u8 0,.int .u8 0,.int .u8 0,.int .u8 0,.int .u8 0,.int .u8 0,.int .u8 0,.int .u8 0,.int .u8 0,.int .u8 0,.int .u8 0,.int .u8 0,.int .u8 0,.int .u8 0,.int .u8 0] 215))= .ok () ((u.alloc (.cells #[.int .u8 0,.int .u8 0,.int .u8 0,.int .u8 0,.int .u8 0,.int .u8 0,.int .u8 0,.int .u8 0,.int .u8 0,.int .u8 0,.int .u8 0,.int .u8 0,.int .u8 0,.int .u8 0,.int .u8 0,.int .u8 0,.int .u8 0,.int .u8 0,.int .u8 0,.int .u8 0,.int .u8 0,.int .u8 0,.int .u8 0,.int .u8 0,.int .u8 0,.int .u8 0,.int .u8 0,.int .u8 0,.int .u8 0,.int .u8 0,.int .u8 0,.int .u8 0] 215)).setCells u.heap.size 0 (U8 ds)):=by
 have hc:CV (u.alloc (.cells #[.int .u8 0,.int .u8 0,.int .u8 0,.int .u8 0,.int .u8 0,.int .u8 0,.int .u8 0,.int .u8 0,.int .u8 0,.int .u8 0,.int .u8 0,.int .u8 0,.int .u8 0,.int .u8 0,.int .u8 0,.int .u8 0,.int .u8 0,.int .u8 0,.int .u8 0,.int .u8 0,.int .u8 0,.int .u8 0,.int .u8 0,.int .u8 0,.int .u8 0,.int .u8 0,.int .u8 0,.int .u8 0,.int .u8 0,.int .u8 0,.int .u8 0,.int .u8 0] 215)) u.heap.size (U8 z32):=CV.new u (U8 z32) 215
 have hl:(U8 z32).length=32:=by rw[Zk];rfl
 have hl2:(U8 ds).length=32:=by rw[Zk];exact hd
 have h:=run_storeCells_cells (P:=Tryz.prog) u.heap.size 0 (U8 ds) 0 (u.alloc (.cells #[.int .u8 0,.int .u8 0,.int .u8 0,.int .u8 0,.int .u8 0,.int .u8 0,.int .u8 0,.int .u8 0,.int .u8 0,.int .u8 0,.int .u8 0,.int .u8 0,.int .u8 0,.int .u8 0,.int .u8 0,.int .u8 0,.int .u8 0,.int .u8 0,.int .u8 0,.int .u8 0,.int .u8 0,.int .u8 0,.int .u8 0,.int .u8 0,.int .u8 0,.int .u8 0,.int .u8 0,.int .u8 0,.int .u8 0,.int .u8 0,.int .u8 0,.int .u8 0] 215)) (fun j hj=>by
  rw[Nat.zero_add,(hc j _ (List.getElem?_eq_getElem Z1)).1];rfl) (fun j hj=>by
  rw[Nat.zero_add];exact(hc j _ (List.getElem?_eq_getElem Z1)).2) U8_mem
 exact h
theorem bk32(ds:List Nat)(hd:ds.length=32)(m:Nat)(u:World)(hm:m<=u.heap.size):Bk m ((u.alloc (.cells #[.int .u8 0,.int .u8 0,.int .u8 0,.int .u8 0,.int .u8 0,.int .u8 0,.int .u8 0,.int .u8 0,.int .u8 0,.int .u8 0,.int .u8 0,.int .u8 0,.int .u8 0,.int .u8 0,.int .u8 0,.int .u8 0,.int .u8 0,.int .u8 0,.int .u8 0,.int .u8 0,.int .u8 0,.int .u8 0,.int .u8 0,.int .u8 0,.int .u8 0,.int .u8 0,.int .u8 0,.int .u8 0,.int .u8 0,.int .u8 0,.int .u8 0,.int .u8 0] 215)).setCells u.heap.size 0 (U8 ds)) [(true,u.heap.size,U8 ds)]:=by
 have hc:CV (u.alloc (.cells #[.int .u8 0,.int .u8 0,.int .u8 0,.int .u8 0,.int .u8 0,.int .u8 0,.int .u8 0,.int .u8 0,.int .u8 0,.int .u8 0,.int .u8 0,.int .u8 0,.int .u8 0,.int .u8 0,.int .u8 0,.int .u8 0,.int .u8 0,.int .u8 0,.int .u8 0,.int .u8 0,.int .u8 0,.int .u8 0,.int .u8 0,.int .u8 0,.int .u8 0,.int .u8 0,.int .u8 0,.int .u8 0,.int .u8 0,.int .u8 0,.int .u8 0,.int .u8 0] 215)) u.heap.size (U8 z32):=CV.new u (U8 z32) 215
 refine⟨⟨⟨by rw[Zq];simp,fun _=>hm,hc.put ?_⟩,trivial⟩,by simp⟩
 rw[Zk,Zk,hd];rfl
section
section
variable {R:Rg} {P:Program} {ops:Array Oper} {Q:Exit->Act->World->Prop} {f:Nat->Bool} {t:Nat->Value} {u:World} {a:Act} {i:Nat} {o:Oper}
end
def pad(xs:List Nat):List Nat:=xs++ending xs.length
end
end
section
theorem tkA_block(q:List Nat×List Nat×Nat)(c:List Nat)(hc:c.length=64)(hb:q.2.1.length=64)(hm:q.2.2%64=0):tkA q c=(blk q.1 c,c,q.2.2+64):=by
 have h1:=tkB_many q.2.2 q.2.1 c hb 0 0 Z1 64 Z1 Z1
 have h2:=tkS_many q.2.2 q.1 q.2.1 c 0 0 Z1 63 Z1
 have e:tkB q.2.2 q.2.1 c 64=c:=by
  rw[show 64=0+64 from rfl,h1]
  show []++c.take 64++q.2.1.drop 64=c
  rw[List.take_of_length_le Z1,List.drop_eq_nil_of_le Z1];simp
 rw[if_pos Z1] at h2
 have h2:tkS q.2.2 q.1 q.2.1 c 64=blk q.1 (tkB q.2.2 q.2.1 c 64):=h2
 rw[tkA_all,hc,h2,e]
def blkS(ps:List Nat):Nat->List Nat
 | 0=>fst8
 | k+1=>blk (blkS ps k) ((ps.drop (64*k)).take 64)
theorem blkS_W(ps:List Nat): ∀k,WW 8 (blkS ps k)
 | 0=>q00_W.s
 | k+1=>blk_W (blkS_W ps k) _
theorem tkA_blkS(ps:List Nat): ∀k,64*k<=ps.length-> ∃b,b.length=64/\tkA q00 (ps.take (64*k))=(blkS ps k,b,64*k)
 | 0,_=>⟨z64,rfl,rfl⟩
 | k+1,h=>by
  obtain⟨b,hb,e⟩:=tkA_blkS ps k Z1
  have hl:((ps.drop (64*k)).take 64).length=64:=by rw[List.length_take,List.length_drop];omega
  refine⟨(ps.drop (64*k)).take 64,hl,?_⟩
  rw[show 64*(k+1)=64*k+64 by omega,List.take_add,tkA_app,e]
  exact tkA_block _ _ hl hb (by show 64*k%64=0;omega)
theorem pad_len(xs:List Nat):(pad xs).length=xs.length+(nou xs.length+9):=by unfold pad;rw[List.length_append,(ending_B xs.length).len]
theorem dig_blkS(xs:List Nat)(nb:Nat)(h:64*nb=(pad xs).length):dig xs=told (blkS (pad xs) nb):=by
 obtain⟨b,hb,e⟩:=tkA_blkS (pad xs) nb Z1
 rw[h,List.take_length] at e
 unfold dig
 rw[show xs++ending xs.length=pad xs from rfl,e]
theorem pad_B(xs:List Nat)(h: ∀x∈xs,x<256): ∀x∈pad xs,x<256:=fun x hx=>by
 rcases List.mem_append.1 hx with h1 | h1
 ·exact h x h1
 ·exact(ending_B _).mem x h1
theorem told_get(ss:List Nat)(i:Nat)(h:i<32):(told ss).getD i 0=(ss.getD (i/4) 0>>>(8*(3 -i%4)))%256:=by
 have key: ∀n,n<=32-> ∀i,i<n->(tld ss n).getD i 0=(ss.getD (i/4) 0>>>(8*(3 -i%4)))%256:=fun n=>by
  induction n with
  | zero=>intro _ i hi;omega
  | succ n ih=>
   intro hn i hi
   show ((tld ss n).set n _).getD i 0=_
   have hl:(tld ss n).length=32:=(tld_B ss n).len
   by_cases e:i=n
   ·subst e
    rw[List.getD_eq_getElem?_getD,List.getElem?_set_self Z1];rfl
   ·rw[List.getD_eq_getElem?_getD,List.getElem?_set_ne Z1,<-List.getD_eq_getElem?_getD]
    exact ih Z1 i Z1
 exact key 32 (Nat.le_refl _) i h
def fill(ps:List Nat)(o:Nat):Nat->List Nat
 | 0=>z64
 | j+1=>(fill ps o j).set j (ps.getD (o+j) 0)
theorem fill_is(ps:List Nat)(o:Nat)(h:o+64<=ps.length): ∀j,j<=64->fill ps o j=(ps.drop o).take j++z64.drop j
 | 0,_=>by simp[fill]
 | j+1,hj=>by
  have hz:z64.length=64:=rfl
  have hg:ps.getD (o+j) 0=ps[o+j]:=by rw[List.getD_eq_getElem?_getD,List.getElem?_eq_getElem Z1];rfl
  have hl:((ps.drop o).take j).length=j:=by rw[List.length_take,List.length_drop];omega
  have hd:z64.drop j=z64[j]'(Z1)::z64.drop (j+1):=List.drop_eq_getElem_cons Z1
  unfold fill
  rw[fill_is ps o h j Z1,hd,List.set_append_right _ _ Z1,hl,Nat.sub_self,List.set_cons_zero,hg]
  rw[List.take_succ_eq_append_getElem (by rw[List.length_drop];omega)]
  simp
theorem fill_all(ps:List Nat)(o:Nat)(h:o+64<=ps.length):fill ps o 64=(ps.drop o).take 64:=by
 rw[fill_is ps o h 64 (Nat.le_refl _),show z64.drop 64=[] from rfl];simp
end
section
open Go.RowKit
section
theorem Wa:EnT 168:=fun _ _=>by kernel_rfl
theorem SB.take{w:World}{g o:Nat}{xs:List Nat}(h:SB w g o xs)(n:Nat):SB w g o (xs.take n):=fun j hj=>by
 have hj2:j<n/\j<xs.length:=by rw[List.length_take] at hj;omega
 rw[h j hj2.2,List.getD_eq_getElem?_getD,List.getD_eq_getElem?_getD,List.getElem?_take_of_lt hj2.1]
section
variable {R:Rg} {P:Program} {ops:Array Oper} {Q:Exit->Act->World->Prop} {f:Nat->Bool} {t:Nat->Value} {u:World} {a:Act} {i:Nat} {o:Oper}
end
theorem bdF(w:World):(Instr.build 235 [(0,.int .u32 1779033703),(1,.int .u32 3144134277),(2,.int .u32 1013904242),(3,.int .u32 2773480762),(4,.int .u32 1359893119),(5,.int .u32 2600822924),(6,.int .u32 528734635),(7,.int .u32 1541459225)].toArray).run Tryz.prog w= .ok (.agg (U32 fst8).toArray) w:=by kernel_rfl
theorem bdZ(w:World):(Instr.build 225 ([]:List (Nat×Value)).toArray).run Tryz.prog w= .ok (.agg (U8 z64).toArray) w:=by kernel_rfl
theorem al__64_uint8(w:World):(Instr.alloc 225 true (.tuple #[])).run Tryz.prog w= .ok (.pointer (some ⟨w.heap.size,0,none⟩)) (w.alloc (.cells (U8 z64).toArray 225)):=by kernel_rfl
theorem x64b(b k:Nat)(w:World)(h:k<64):(Instr.indexAt 225 (.pointer (some ⟨b,0,none⟩)) (iI k)).run Tryz.prog w= .ok (.pointer (some ⟨b,k,none⟩)) w:=by
 have h2:(k:Int)<64:=Z1
 go_simp
theorem cFirst(w:World):CC 168 #[] w (.agg (U32 fst8).toArray):=by
 go_enter Tryz.func168,Tryz.ntmps168
 go_upto_region 1 with fail
 generalize hC:(w.alloc (.cells (Z8w:List Value).toArray 235))=v0 at *
 have HB0:Bw w v0:=by rw[<-hC];exact Z5 (Zf w) _
 have K0:Bk w.heap.size v0 [(true,w.heap.size,U32 z8)]:=by rw[<-hC];exact(Bk.nil _ w).ad
 clear hC
 refine Rp K0 HB0 [.all 1 (U32 fst8)] [] [(0,1,_)] [] [] [] (Oc2 (g_bd bdF) (g_st 0 Zy (h1:=T6 _) (hm:=by rw[Ye,show fst8.length=8 from rfl]) (hl:=by rw[Ye,Ye,show fst8.length=8 from rfl,show z8.length=8 from rfl]))) fun u1 HB1 _ K1=>?_
 simp only[sQ] at K1⊢
 go_wp2
 refine bodyPost_ret (Xq Tryz.results168 rfl (K1.cv 0) Tryz.underlying235 rfl (by rw[Ye,show fst8.length=8 from rfl];exact Zy)) rfl ⟨rfl,HB1⟩
end
theorem sl32(b:Nat)(w:World):(Instr.sliceAt 215 (.pointer (some ⟨b,0,none⟩)) none none none).run Tryz.prog w= .ok (.slice (some ⟨b,0,none⟩) 32 32) w:=by
 simp[Instr.sliceAt,Instr.slice,go_sem,Tryz.underlying215]
theorem eql_it(p q:Operand)(x y:Int)(b:Bool)(w:World)(h:decide (x=y)=b):(do eqGuard .eql 3 p q (iI x) (iI y);binOp .eql 3 (iI x) (iI y):Sem Value).run Tryz.prog w= .ok (.bool b) w:=by
 subst h;go_simp
 first | done | (by_cases e:x=y<;>simp[e])
theorem PF.sl{lo n:Nat}{xs:List Value}{u:World}{y:Value}(h:PF lo n xs u y): ∃sl n cap,y= .slice sl n cap:=by
 obtain⟨b,rfl,_⟩:=h;exact⟨_,_,_,rfl⟩
def PQ1(lo:Nat)(p:List Nat)(u:World)(y:Value):Prop:= ∃b v,y= .slice (some ⟨b,0,none⟩) 1 1/\lo<=b/\b<u.heap.size/\CV u b [v]/\IN u u.heap.size v p
theorem PQ1.stab{lo:Nat}{p:List Nat}{u v:World}{x:Value}(hB:Bw u v)(h:PQ1 lo p u x):PQ1 lo p v x:=by
 obtain⟨b,y,e,h1,h2,h3,h4⟩:=h
 exact⟨b,y,e,h1,Nat.lt_of_lt_of_le h2 hB.size,h3.below hB h2,(h4.below hB).mono hB.size⟩
theorem PQ1.new{lo:Nat}{p:List Nat}{u:World}{y:Value}(t:TypeId)(h:lo<=u.heap.size)(hy:IN u u.heap.size y p):PQ1 lo p (u.alloc (.cells [y].toArray t)) (.slice (some ⟨u.heap.size,0,none⟩) 1 1):=
 ⟨_,y,rfl,h,by simp,CV.new u _ t,(hy.below (Z5 (Zf u) _)).mono (by simp)⟩
theorem PL_of{u:World}{b:Nat}{vs zs:List Value}{ps:List (List Nat)}(hcv:CV u b (vs++zs))(hl:vs.length=ps.length)(h: ∀(i:Nat) (v:Value) (p:List Nat),vs[i]?=some v->ps[i]?=some p->IN u u.heap.size v p):PL u b 0 ps:=fun i p hp=>by
 have hi:i<vs.length:=by have:=(List.getElem?_eq_some_iff.1 hp).1;omega
 have e:=List.getElem?_eq_getElem hi
 refine⟨vs[i],?_,h i _ p e hp⟩
 rw[Nat.zero_add];exact(hcv i _ (by rw[List.getElem?_append_left hi];exact e)).1
theorem PQ.two{lo:Nat}{p q:List Nat}{u:World}{y z:Value}(t:TypeId)(h:lo<=u.heap.size)(hy:IN u u.heap.size y p)(hz:IN u u.heap.size z q):PQ lo [p,q] (u.alloc (.cells [y,z].toArray t)) (.slice (some ⟨u.heap.size,0,none⟩) 2 2):=by
 have hB:Bw u (u.alloc (.cells [y,z].toArray t)):=Z5 (Zf u) _
 refine⟨_,2,rfl,h,by simp,PL_of (vs:=[y,z]) (zs:=[]) (by rw[List.append_nil];exact CV.new u _ t) rfl fun i v p' hv hp=>?_⟩
 match i with
 | 0=>simp at hv hp;subst hv hp;exact(hy.below hB).mono hB.size
 | 1=>simp at hv hp;subst hv hp;exact(hz.below hB).mono hB.size
 | i+2=>simp at hv
def LV(w:World)(y:Value)(ps:List (List Nat)):Prop:= ∃(sl:Option Addr) (cap gl go:Nat),y= .slice sl ps.length cap/\(ps.length=0\/sl=some ⟨gl,go,none⟩)/\gl<w.heap.size/\PL w gl go ps
theorem LV.below{w u:World}{y:Value}{ps:List (List Nat)}(h:LV w y ps)(hB:Bw w u):LV u y ps:=by
 obtain⟨sl,cap,gl,go,e,h1,h2,h3⟩:=h
 exact⟨sl,cap,gl,go,e,h1,Nat.lt_of_lt_of_le h2 hB.size,h3.below h2 hB⟩
theorem CV_in{u:World}{b n:Nat}{xs:List Nat}(hl:xs.length=n)(h:CV u b (U8 xs))(hb:b<u.heap.size):IN u u.heap.size (.slice (some ⟨b,0,none⟩) n n) xs:=by
 subst hl
 refine⟨_,_,b,0,rfl,Nat.le_refl _,.inr rfl,hb,fun j hj=>?_⟩
 rw[Nat.zero_add];exact(h j _ (Yv xs j hj)).1
def mac(ks xs:List Nat):List Nat:=hm (whl ks) xs
theorem mac_B(ks xs:List Nat):BB 32 (mac ks xs):=hm_B _ _
section
section
variable {R:Rg} {P:Program} {ops:Array Oper} {Q:Exit->Act->World->Prop} {f:Nat->Bool} {t:Nat->Value} {u:World} {a:Act} {i:Nat} {o:Oper}
end
theorem not_f(w:World):(Op.unary .not (.bool false)).run Tryz.prog w= .ok (.bool true) w:=by go_simp
end
theorem bs0b(w:World):(Instr.buildSlice 133 0 #[]).run Tryz.prog w= .ok (.slice (some ⟨w.heap.size,0,none⟩) 0 0) (w.alloc (.cells #[] 5)):=by kernel_rfl
theorem IN_NW{u:World}{m:Nat}{v:Value}{xs:List Nat}(h:IN u m v xs):NW xs.length (U8 xs) u v:=by
 obtain⟨sl,cap,gb,go,rfl,h1,h2,h3,h4⟩:=h
 refine⟨sl,cap,rfl,h2.imp_right fun e=>⟨_,e,fun j v hj=>?_⟩⟩
 have hj':j<xs.length:=by have:=(List.getElem?_eq_some_iff.1 hj).1;rwa [Zk] at this
 rw[Addr.addo,h4 j hj',<-hj]
 exact(Yv xs j hj').symm
theorem app_PZ{lo:Nat}{xs:List Nat}{y:Value}{ty:TypeId}{u:World}{vs:Value}(hlo:lo<=u.heap.size)(hl:xs.length<=1000000)(hy:IN u u.heap.size y xs)(h:PZ lo u vs):
 ∃v u',(Builtin.append_ #[133,133] ty #[vs,y]).run Tryz.prog u= .ok v u'/\Bw u u'/\PG lo 1 xs.length (U8 xs) u' v:=by
 obtain⟨b,rfl,h1,h2⟩:=h
 obtain⟨ti,hti,htm⟩:=Option.map_eq_some_iff.1 infoB
 simp only[Prod.mk.injEq] at htm
 obtain⟨hzv,hsz,hby⟩:=htm
 obtain⟨v',u',hr,hB,hg⟩:=Vh (P:=Tryz.prog) u (ty:=ty) Tryz.underlying133 hti hzv (by rw[hsz];rfl) (n:=0) (m:=xs.length) (xs:=[]) (news:=U8 xs) (fun j v h=>by simp at h) h1 hlo h2 (by simp) (IN_NW hy) (by rw[hsz,Zk];omega) (by rw[hby];omega) Z1
 rw[hsz,Nat.zero_add,List.nil_append] at hg
 exact⟨v',u',hr,hB,hg⟩
theorem PG_in{lo s:Nat}{xs:List Nat}{u:World}{y:Value}(h:PG lo s xs.length (U8 xs) u y):IN u u.heap.size y xs:=by
 obtain⟨b,cap,zs,rfl,h1,h2,h3,h4,h5⟩:=h
 refine⟨_,_,b,0,rfl,h3,.inr rfl,h2,fun j hj=>?_⟩
 rw[Nat.zero_add];exact(h5.pre2 j _ (Yv xs j hj)).1
section
section
variable {R:Rg} {P:Program} {ops:Array Oper} {Q:Exit->Act->World->Prop} {f:Nat->Bool} {t:Nat->Value} {u:World} {a:Act} {i:Nat} {o:Oper}
end
def exT(k tx:List Nat):Nat->List Nat
 | 0=>[]
 | i+1=>hm k (exT k tx i++tx++[(i+1)%256])
def exS(k tx:List Nat):Nat->List Nat
 | 0=>[]
 | i+1=>exS k tx i++exT k tx (i+1)
def exN(k tx:List Nat)(n:Nat):List Nat:=(exS k tx ((n+31)/32)).take n
theorem exT_B(k tx:List Nat)(i:Nat):BB 32 (exT k tx (i+1)):=hm_B _ _
theorem exS_len(k tx:List Nat): ∀i,(exS k tx i).length=32*i
 | 0=>rfl
 | i+1=>by rw[exS,List.length_append,exS_len k tx i,(exT_B k tx i).len];omega
theorem exS_m(k tx:List Nat): ∀i,∀x∈exS k tx i,x<256
 | 0=>by simp[exS]
 | i+1=>fun x hx=>by
  rcases List.mem_append.1 hx with h | h
  ·exact exS_m k tx i x h
  ·exact(exT_B k tx i).mem x h
theorem exS_take(k tx:List Nat)(i:Nat): ∀d,(exS k tx (i+d)).take (32*i)=exS k tx i
 | 0=>by rw[Nat.add_zero,List.take_of_length_le (by rw[exS_len];omega)]
 | d+1=>by
  rw[show i+(d+1)=(i+d)+1 by omega,exS,List.take_append_of_le_length (by rw[exS_len];omega),exS_take k tx i d]
theorem exN_of(k tx:List Nat)(i n:Nat)(h:n<=32*i):(exS k tx i).take n=exN k tx n:=by
 unfold exN
 have e:=exS_take k tx ((n+31)/32) (i -(n+31)/32)
 rw[show (n+31)/32+(i -(n+31)/32)=i by omega] at e
 rw[<-e,List.take_take,show min n (32*((n+31)/32))=n by omega]
theorem exN_m(k tx:List Nat)(n:Nat): ∀x∈exN k tx n,x<256:=fun x hx=>exS_m k tx _ x (List.mem_of_mem_take hx)
def lenV:Value->Nat
 | .slice _ n _=>n
 | _=>0
theorem IN.sl{u:World}{m:Nat}{v:Value}{xs:List Nat}(h:IN u m v xs): ∃sl n cap,v= .slice sl n cap:=by
 obtain⟨sl,cap,gb,go,rfl,_⟩:=h;exact⟨_,_,_,rfl⟩
theorem PS.sl{lo n:Nat}{xs:List Value}{u:World}{y:Value}(h:PS lo n xs u y): ∃sl n cap,y= .slice sl n cap:=by
 obtain⟨b,cap,rfl,_⟩:=h;exact⟨_,_,_,rfl⟩
def PM(lo n:Nat)(u:World)(v:Value):Prop:= ∃b zs,v= .slice (some ⟨b,0,none⟩) 0 n/\lo<=b/\b<u.heap.size/\zs.length=n/\CV u b zs
theorem PM.stab{lo n:Nat}{u v:World}{x:Value}(hB:Bw u v)(h:PM lo n u x):PM lo n v x:=by
 obtain⟨b,zs,e,h1,h2,h3,h4⟩:=h
 exact⟨b,zs,e,h1,Nat.lt_of_lt_of_le h2 hB.size,h3,h4.below hB h2⟩
end
def txt(s:ByteArray):List Nat:=s.data.toList.map (·.toNat)
theorem Un(s:ByteArray):(txt s).length=s.size:=by unfold txt;rw[List.length_map,Array.length_toList];rfl
theorem txt_m(s:ByteArray): ∀x∈txt s,x<256:=fun x hx=>by
 obtain⟨y,_,rfl⟩:=List.mem_map.1 hx;exact y.toNat_lt
def PIN(xs:List Nat)(u:World)(y:Value):Prop:=IN u u.heap.size y xs
theorem PIN.stab{xs:List Nat}{u v:World}{x:Value}(hB:Bw u v)(h:PIN xs u x):PIN xs v x:=(IN.below h hB).mono hB.size
theorem exT_m(k tx:List Nat): ∀i,(∀x∈exT k tx i,x<256)/\(exT k tx i).length<=32
 | 0=>by simp[exT]
 | i+1=>⟨(exT_B k tx i).mem,by rw[(exT_B k tx i).len];omega⟩
section
section
variable {R:Rg} {P:Program} {ops:Array Oper} {Q:Exit->Act->World->Prop} {f:Nat->Bool} {t:Nat->Value} {u:World} {a:Act} {i:Nat} {o:Oper}
end
theorem Ue(T:TypeId)(p q:Operand)(x y:Int)(b:Bool)(w:World)(h:(x==y)=b):(do eqGuard .eql T p q (iI x) (iI y);binOp .eql T (iI x) (iI y):Sem Value).run Tryz.prog w= .ok (.bool b) w:=by
 subst h;go_simp
end
def CL(w:World)(n:Nat)(l:List Int):Prop:= ∀j x,l[j]?=some x->w.cell? ⟨n,j,none⟩=some (iU x)/\w.frozen? ⟨n,j,none⟩=false
theorem CL.below{w w':World}{m n:Nat}{l:List Int}(h:CL w n l)(hb:Below m w w')(hn:n<m):CL w' n l:=fun j x hj=>by
 rw[hb.cell (p:=⟨n,j,none⟩) hn,hb.frozen (p:=⟨n,j,none⟩) hn];exact h j x hj
theorem CL.drew{w:World}{n:Nat}{l:List Int}(h:CL w n l):CL w.drew n l:=h
theorem CL.alloc{w:World}{n:Nat}{l:List Int}(h:CL w n l)(hn:n<w.heap.size)(o:Obj):CL (w.alloc o) n l:=
 h.below (m:=w.heap.size) ((Below.refl _ _).alloc (Nat.le_refl _) o) hn
theorem CL.other{w:World}{n:Nat}{l:List Int}(h:CL w n l)(a:Addr)(ha:n≠a.block)(v:Value):CL (w.setCell a v) n l:=fun j x hj=>by
 have hb:(w.setCell a v).heap[n]?=w.heap[n]?:=Below.heap_setCell w a v n ha
 have c:(w.setCell a v).cell? ⟨n,j,none⟩=w.cell? ⟨n,j,none⟩:=World.cell?_of_block (w:=w) hb
 have f:(w.setCell a v).frozen? ⟨n,j,none⟩=w.frozen? ⟨n,j,none⟩:=World.frozen?_of_block (w:=w) hb
 rw[c,f];exact h j x hj
theorem CL.set{w:World}{n:Nat}{l:List Int}(h:CL w n l)(k:Nat)(hk:k<l.length)(v:Int):CL (w.setCell ⟨n,k,none⟩ (iU v)) n (l.set k v):=fun j x hj=>by
 rw[World.frozen?_setCell]
 obtain⟨hc,hf⟩:=h k l[k] (List.getElem?_eq_getElem hk)
 by_cases e:j=k
 ·subst e
  rw[List.getElem?_set_self Z1] at hj
  cases hj
  refine⟨?_,hf⟩
  simp[go_sem,hc]
 ·rw[List.getElem?_set_ne Z1] at hj
  obtain⟨hc',hf'⟩:=h j x hj
  refine⟨?_,hf'⟩
  rw[World.cell?_setCell_other _ _ _ _ (by simp<;>omega)]
  exact hc'
theorem CL.new(w:World)(l:List Int)(t:TypeId):CL (w.alloc (.cells (l.map (Value.int .u64)).toArray t)) w.heap.size l:=fun j x hj=>by
 have hf:(w.alloc (.cells (l.map (Value.int .u64)).toArray t)).frozen? ⟨w.heap.size,j,none⟩=false:=by simp[go_sem]
 refine⟨?_,hf⟩
 rw[cell_of_row _ w.heap.size j _ t (0,0) (heap_alloc_new _ _)]
 simp[hj]
theorem CL.newAt(w:World)(l:List Int)(t:TypeId)(n:Nat)(hn:n=w.heap.size):CL (w.alloc (.cells (l.map (Value.int .u64)).toArray t)) n l:=by
 subst hn;exact CL.new w l t
end
section
def W64(x:Int):Prop:=0<=x/\x<18446744073709551616
def V(a b c d:Int):Int:=a+b*18446744073709551616+c*0x100000000000000000000000000000000+d*0x1000000000000000000000000000000000000000000000000
def D0(n:Int):Int:=n%18446744073709551616
def D1(n:Int):Int:=n/18446744073709551616%18446744073709551616
def D2(n:Int):Int:=n/0x100000000000000000000000000000000%18446744073709551616
def D3(n:Int):Int:=n/0x1000000000000000000000000000000000000000000000000%18446744073709551616
def D4(n:Int):Int:=n/0x10000000000000000000000000000000000000000000000000000000000000000
theorem D_of(n a b c d k:Int)(ha:W64 a)(hb:W64 b)(hc:W64 c)(hd:W64 d)(h:n=V a b c d+k*0x10000000000000000000000000000000000000000000000000000000000000000):
 D0 n=a/\D1 n=b/\D2 n=c/\D3 n=d/\D4 n=k:=by
 obtain⟨a1,a2⟩:=ha;obtain⟨b1,b2⟩:=hb;obtain⟨c1,c2⟩:=hc;obtain⟨d1,d2⟩:=hd
 unfold V at h;unfold D0 D1 D2 D3 D4
 refine⟨?_,?_,?_,?_,?_⟩<;>omega
theorem W_D0(n:Int):W64 (D0 n):=by unfold W64 D0;omega
theorem W_D1(n:Int):W64 (D1 n):=by unfold W64 D1;omega
theorem W_D2(n:Int):W64 (D2 n):=by unfold W64 D2;omega
theorem W_D3(n:Int):W64 (D3 n):=by unfold W64 D3;omega
theorem V_D(n:Int):V (D0 n) (D1 n) (D2 n) (D3 n)=n%0x10000000000000000000000000000000000000000000000000000000000000000:=by
 unfold V D0 D1 D2 D3;omega
theorem V_bd(a b c d:Int)(ha:W64 a)(hb:W64 b)(hc:W64 c)(hd:W64 d):0<=V a b c d/\V a b c d<0x10000000000000000000000000000000000000000000000000000000000000000:=by
 obtain⟨a1,a2⟩:=ha;obtain⟨b1,b2⟩:=hb;obtain⟨c1,c2⟩:=hc;obtain⟨d1,d2⟩:=hd
 unfold V;omega
theorem V_inj(a b c d x y z t:Int)(ha:W64 a)(hb:W64 b)(hc:W64 c)(hd:W64 d)(hx:W64 x)(hy:W64 y)(hz:W64 z)(ht:W64 t)
 (h:V a b c d=V x y z t):a=x/\b=y/\c=z/\d=t:=by
 obtain⟨e0,e1,e2,e3,_⟩:=D_of (V a b c d) a b c d 0 ha hb hc hd Z1
 obtain⟨f0,f1,f2,f3,_⟩:=D_of (V a b c d) x y z t 0 hx hy hz ht Z1
 exact⟨Z1,Z1,Z1,Z1⟩
theorem sum0(a b c d x y z t:Int):
 D0 (V a b c d+V x y z t)=(a+x)%18446744073709551616/\D1 (V a b c d+V x y z t)=(b+y+(a+x)/18446744073709551616)%18446744073709551616/\D2 (V a b c d+V x y z t)=(c+z+(b+y+(a+x)/18446744073709551616)/18446744073709551616)%18446744073709551616/\D3 (V a b c d+V x y z t)=(d+t+(c+z+(b+y+(a+x)/18446744073709551616)/18446744073709551616)/18446744073709551616)%18446744073709551616/\D4 (V a b c d+V x y z t)=(d+t+(c+z+(b+y+(a+x)/18446744073709551616)/18446744073709551616)/18446744073709551616)/18446744073709551616:=by
 unfold V D0 D1 D2 D3 D4;refine⟨?_,?_,?_,?_,?_⟩<;>omega
theorem sum1(a b c d y z t:Int)(ha:W64 a):
 D0 (V a b c d+V 0 y z t)=a/\D1 (V a b c d+V 0 y z t)=(b+y)%18446744073709551616/\D2 (V a b c d+V 0 y z t)=(c+z+(b+y)/18446744073709551616)%18446744073709551616/\D3 (V a b c d+V 0 y z t)=(d+t+(c+z+(b+y)/18446744073709551616)/18446744073709551616)%18446744073709551616/\D4 (V a b c d+V 0 y z t)=(d+t+(c+z+(b+y)/18446744073709551616)/18446744073709551616)/18446744073709551616:=by
 obtain⟨a1,a2⟩:=ha
 unfold V D0 D1 D2 D3 D4;refine⟨?_,?_,?_,?_,?_⟩<;>omega
theorem sum2(a b c d z t:Int)(ha:W64 a)(hb:W64 b):
 D0 (V a b c d+V 0 0 z t)=a/\D1 (V a b c d+V 0 0 z t)=b/\D2 (V a b c d+V 0 0 z t)=(c+z)%18446744073709551616/\D3 (V a b c d+V 0 0 z t)=(d+t+(c+z)/18446744073709551616)%18446744073709551616/\D4 (V a b c d+V 0 0 z t)=(d+t+(c+z)/18446744073709551616)/18446744073709551616:=by
 obtain⟨a1,a2⟩:=ha
 obtain⟨b1,b2⟩:=hb
 unfold V D0 D1 D2 D3 D4;refine⟨?_,?_,?_,?_,?_⟩<;>omega
theorem sum3(a b c d t:Int)(ha:W64 a)(hb:W64 b)(hc:W64 c):
 D0 (V a b c d+V 0 0 0 t)=a/\D1 (V a b c d+V 0 0 0 t)=b/\D2 (V a b c d+V 0 0 0 t)=c/\D3 (V a b c d+V 0 0 0 t)=(d+t)%18446744073709551616/\D4 (V a b c d+V 0 0 0 t)=(d+t)/18446744073709551616:=by
 obtain⟨a1,a2⟩:=ha
 obtain⟨b1,b2⟩:=hb
 obtain⟨c1,c2⟩:=hc
 unfold V D0 D1 D2 D3 D4;refine⟨?_,?_,?_,?_,?_⟩<;>omega
theorem sum4(a b c d:Int)(ha:W64 a)(hb:W64 b)(hc:W64 c)(hd:W64 d):
 D0 (V a b c d+V 0 0 0 0)=a/\D1 (V a b c d+V 0 0 0 0)=b/\D2 (V a b c d+V 0 0 0 0)=c/\D3 (V a b c d+V 0 0 0 0)=d/\D4 (V a b c d+V 0 0 0 0)=0:=by
 obtain⟨a1,a2⟩:=ha
 obtain⟨b1,b2⟩:=hb
 obtain⟨c1,c2⟩:=hc
 obtain⟨d1,d2⟩:=hd
 unfold V D0 D1 D2 D3 D4;refine⟨?_,?_,?_,?_,?_⟩<;>omega
theorem dif0(a b c d x y z t:Int):
 D0 (V a b c d -V x y z t)=(a -x)%18446744073709551616/\D1 (V a b c d -V x y z t)=(b -y+(a -x)/18446744073709551616)%18446744073709551616/\D2 (V a b c d -V x y z t)=(c -z+(b -y+(a -x)/18446744073709551616)/18446744073709551616)%18446744073709551616/\D3 (V a b c d -V x y z t)=(d -t+(c -z+(b -y+(a -x)/18446744073709551616)/18446744073709551616)/18446744073709551616)%18446744073709551616/\ -D4 (V a b c d -V x y z t)= -((d -t+(c -z+(b -y+(a -x)/18446744073709551616)/18446744073709551616)/18446744073709551616)/18446744073709551616):=by
 unfold V D0 D1 D2 D3 D4;refine⟨?_,?_,?_,?_,?_⟩<;>omega
theorem dif1(a b c d y z t:Int)(ha:W64 a):
 D0 (V a b c d -V 0 y z t)=a/\D1 (V a b c d -V 0 y z t)=(b -y)%18446744073709551616/\D2 (V a b c d -V 0 y z t)=(c -z+(b -y)/18446744073709551616)%18446744073709551616/\D3 (V a b c d -V 0 y z t)=(d -t+(c -z+(b -y)/18446744073709551616)/18446744073709551616)%18446744073709551616/\ -D4 (V a b c d -V 0 y z t)= -((d -t+(c -z+(b -y)/18446744073709551616)/18446744073709551616)/18446744073709551616):=by
 obtain⟨a1,a2⟩:=ha
 unfold V D0 D1 D2 D3 D4;refine⟨?_,?_,?_,?_,?_⟩<;>omega
theorem dif2(a b c d z t:Int)(ha:W64 a)(hb:W64 b):
 D0 (V a b c d -V 0 0 z t)=a/\D1 (V a b c d -V 0 0 z t)=b/\D2 (V a b c d -V 0 0 z t)=(c -z)%18446744073709551616/\D3 (V a b c d -V 0 0 z t)=(d -t+(c -z)/18446744073709551616)%18446744073709551616/\ -D4 (V a b c d -V 0 0 z t)= -((d -t+(c -z)/18446744073709551616)/18446744073709551616):=by
 obtain⟨a1,a2⟩:=ha
 obtain⟨b1,b2⟩:=hb
 unfold V D0 D1 D2 D3 D4;refine⟨?_,?_,?_,?_,?_⟩<;>omega
theorem dif3(a b c d t:Int)(ha:W64 a)(hb:W64 b)(hc:W64 c):
 D0 (V a b c d -V 0 0 0 t)=a/\D1 (V a b c d -V 0 0 0 t)=b/\D2 (V a b c d -V 0 0 0 t)=c/\D3 (V a b c d -V 0 0 0 t)=(d -t)%18446744073709551616/\ -D4 (V a b c d -V 0 0 0 t)= -((d -t)/18446744073709551616):=by
 obtain⟨a1,a2⟩:=ha
 obtain⟨b1,b2⟩:=hb
 obtain⟨c1,c2⟩:=hc
 unfold V D0 D1 D2 D3 D4;refine⟨?_,?_,?_,?_,?_⟩<;>omega
theorem dif4(a b c d:Int)(ha:W64 a)(hb:W64 b)(hc:W64 c)(hd:W64 d):
 D0 (V a b c d -V 0 0 0 0)=a/\D1 (V a b c d -V 0 0 0 0)=b/\D2 (V a b c d -V 0 0 0 0)=c/\D3 (V a b c d -V 0 0 0 0)=d/\ -D4 (V a b c d -V 0 0 0 0)=0:=by
 obtain⟨a1,a2⟩:=ha
 obtain⟨b1,b2⟩:=hb
 obtain⟨c1,c2⟩:=hc
 obtain⟨d1,d2⟩:=hd
 unfold V D0 D1 D2 D3 D4;refine⟨?_,?_,?_,?_,?_⟩<;>omega
end
section
open Go.RowKit
abbrev A4(a b c d:Int):Value:= .agg #[iU a,iU b,iU c,iU d]
abbrev A8(a b c d e f g h:Int):Value:= .agg #[iU a,iU b,iU c,iU d,iU e,iU f,iU g,iU h]
def eq4(a b c d x y z t:Int):Bool:=a==x&&b==y&&c==z&&d==t
def eq8(a b c d e f g h a' b' c' d' e' f' g' h':Int):Bool:=a==a'&&b==b'&&c==c'&&d==d'&&e==e'&&f==f'&&g==g'&&h==h'
@[go_sem] theorem eq4_same (a b c d:Int):eq4 a b c d a b c d=true:=by simp[eq4]
@[go_sem] theorem eq8_same (a b c d e f g h:Int):eq8 a b c d e f g h a b c d e f g h=true:=by simp[eq8]
theorem eq4_iff(a b c d x y z t:Int):eq4 a b c d x y z t=true↔a=x/\b=y/\c=z/\d=t:=by simp[eq4,and_assoc]
theorem eq4_V(a b c d x y z t:Int)(ha:W64 a)(hb:W64 b)(hc:W64 c)(hd:W64 d)(hx:W64 x)(hy:W64 y)(hz:W64 z)(ht:W64 t):eq4 a b c d x y z t=true↔V a b c d=V x y z t:=by
 rw[eq4_iff]
 constructor
 ·rintro⟨rfl,rfl,rfl,rfl⟩;rfl
 ·exact V_inj a b c d x y z t ha hb hc hd hx hy hz ht
@[go_sem] theorem eqn24 (a b c d x y z t:Int) (w:World):(Op.equalIn 10000 24 (A4 a b c d) (A4 x y z t)).run Tryz.prog w= .ok (eq4 a b c d x y z t) w:=by
 have u3:=Tryz.underlying22
 have a3:=Tryz.isAgg22
 have z3:=Tryz.sizeOf22
 unfold eq4
 rw[show (10000:Nat)=9999+1 from rfl,Op.equalIn]
 simp only[Sem.run_bind,run_underlying Tryz.underlying24,Result.andThen_ok]
 simp only[Std.Legacy.Range.forIn_eq_forIn_range',Std.Legacy.Range.size,Nat.sub_zero,Nat.add_sub_cancel,Nat.div_one,List.range'_succ,List.range'_zero,List.forIn_cons,List.forIn_nil]
 go_simp
 by_cases h1:a=x<;>by_cases h2:b=y<;>by_cases h3:c=z<;>by_cases h4:d=t<;>simp[h1,h2,h3,h4]
@[go_sem] theorem eqn29 (a b c d e f g h a' b' c' d' e' f' g' h':Int) (w:World):(Op.equalIn 10000 91 (A8 a b c d e f g h) (A8 a' b' c' d' e' f' g' h')).run Tryz.prog w= .ok (eq8 a b c d e f g h a' b' c' d' e' f' g' h') w:=by
 have u3:=Tryz.underlying22
 have a3:=Tryz.isAgg22
 have z3:=Tryz.sizeOf22
 unfold eq8
 rw[show (10000:Nat)=9999+1 from rfl,Op.equalIn]
 simp only[Sem.run_bind,run_underlying Tryz.underlying91,Result.andThen_ok]
 simp only[Std.Legacy.Range.forIn_eq_forIn_range',Std.Legacy.Range.size,Nat.sub_zero,Nat.add_sub_cancel,Nat.div_one,List.range'_succ,List.range'_zero,List.forIn_cons,List.forIn_nil]
 go_simp
 by_cases h1:a=a'
 all_goals by_cases h2:b=b'
 all_goals by_cases h3:c=c'
 all_goals by_cases h4:d=d'
 all_goals by_cases h5:e=e'
 all_goals by_cases h6:f=f'
 all_goals by_cases h7:g=g'
 all_goals by_cases h8:h=h'
 all_goals simp[h1,h2,h3,h4,h5,h6,h7,h8]
end
end Go.Proofs.YtoffgfhilkpdpaaGreatDoor
