import Derived.Test.YtmoimodkopjeeaaGreatDoorGR
namespace Go.Proofs.YtmoimodkopjeeaaGreatDoor
set_option linter.unusedVariables false
set_option linter.unusedSimpArgs false
set_option maxRecDepth 100000
set_option maxHeartbeats 4000000
section
open Go.RowKit
section
section
variable {R:Rg} {P:Program} {ops:Array Oper} {Q:Exit->Act->World->Prop} {f:Nat->Bool} {t:Nat->Value} {u:World} {a:Act} {i:Nat} {o:Oper}
theorem g_op{v:Value}(h: ∀(ev:Operand->Value) (u:World),(∀x y,evR R i o x=some y->ev x=y)->(execOp ev o).run P u= .ok (.value v) u)(hv:some v=Zv i R.G:=by rfl)(hc:R.chk ops i o=true:=by rfl):OG R P ops Q i o:=
 Y1 hv hc fun f t u a X K hK=>Yb (h a.eval u (fun x y hxy=>X.ev hxy)) hK
end
def rotr(x n:Nat):Nat:=(x<<<(32 -n))%4294967296 ||| x>>>n
def chN(e f g:Nat):Nat:=(e&&&f)^^^((4294967295^^^e)&&&g)
def maN(a b c:Nat):Nat:=(a&&&b)^^^(a&&&c)^^^(b&&&c)
def ls0(x:Nat):Nat:=rotr x 7^^^rotr x 18^^^x>>>3
def ls1(x:Nat):Nat:=rotr x 17^^^rotr x 19^^^x>>>10
def gs0(x:Nat):Nat:=rotr x 2^^^rotr x 13^^^rotr x 22
def gs1(x:Nat):Nat:=rotr x 6^^^rotr x 11^^^rotr x 25
abbrev M32:Nat:=4294967296
theorem wraps_u32(n:Int)(h0:0<=n)(h1:n<2^32):IntKind.u32.wrap n=n:=by simp[IntKind.wrap,IntKind.signed,IntKind.bits];omega
theorem Wk{a b:Nat}(h:b<M32):a&&&b<M32:=Nat.and_lt_two_pow a (n:=32) h
theorem or_lt{a b:Nat}(ha:a<M32)(hb:b<M32):a ||| b<M32:=Nat.or_lt_two_pow (n:=32) ha hb
theorem Xa{a b:Nat}(ha:a<M32)(hb:b<M32):a^^^b<M32:=Nat.xor_lt_two_pow (n:=32) ha hb
theorem shr_lt{a n:Nat}(ha:a<M32):a>>>n<M32:=by rw[Nat.shiftRight_eq_div_pow];exact Nat.lt_of_le_of_lt (Nat.div_le_self _ _) ha
theorem Zl{x n:Nat}(h:x<M32):rotr x n<M32:=or_lt (Nat.mod_lt _ (by decide)) (shr_lt h)
theorem ch_lt{e f g:Nat}(hf:f<M32)(hg:g<M32):chN e f g<M32:=Xa (Wk hf) (Wk hg)
theorem ma_lt{a b c:Nat}(hb:b<M32)(hc:c<M32):maN a b c<M32:=Xa (Xa (Wk hb) (Wk hc)) (Wk hc)
theorem ls0_lt{x:Nat}(h:x<M32):ls0 x<M32:=Xa (Xa (Zl h) (Zl h)) (shr_lt h)
theorem ls1_lt{x:Nat}(h:x<M32):ls1 x<M32:=Xa (Xa (Zl h) (Zl h)) (shr_lt h)
theorem gs0_lt{x:Nat}(h:x<M32):gs0 x<M32:=Xa (Xa (Zl h) (Zl h)) (Zl h)
theorem gs1_lt{x:Nat}(h:x<M32):gs1 x<M32:=Xa (Xa (Zl h) (Zl h)) (Zl h)
end
section
section
variable {R:Rg} {P:Program} {ops:Array Oper} {Q:Exit->Act->World->Prop} {f:Nat->Bool} {t:Nat->Value} {u:World} {a:Act} {i:Nat} {o:Oper}
theorem g_lw(k c:Nat){T:TypeId}{x:Operand}{b:Nat}{v:Value}{l:List Value}(hr: ∀w,w.cell? ⟨b,c,none⟩=some v->(Instr.loadAt T (.pointer (some ⟨b,c,none⟩))).run P w= .ok v w)(hl:l[c]?=some v)(hop:o.op= .load T x:=by rfl)(hk:R.cur i k=some (b,l):=by rfl)(hx:evR R i o x=some (.pointer (some ⟨b,c,none⟩)):=by rfl)(hv:some v=Zv i R.G:=by rfl)(hc:R.chk ops i o=true:=by rfl):OG R P ops Q i o:=
 Y1 hv hc fun f t u a X K hK=>wp_load hop (X.ev hx) (hr u ((X.cur hk).1 c _ hl).1) hK
theorem g_lg(b c:Nat){T:TypeId}{x:Operand}{v:Value}(hr: ∀w,w.cell? ⟨b,c,none⟩=some v->(Instr.loadAt T (.pointer (some ⟨b,c,none⟩))).run P w= .ok v w)(hl:R.w.cell? ⟨b,c,none⟩=some v)(hb:b<R.lo)(hop:o.op= .load T x:=by rfl)(hx:evR R i o x=some (.pointer (some ⟨b,c,none⟩)):=by rfl)(hv:some v=Zv i R.G:=by rfl)(hc:R.chk ops i o=true:=by rfl):OG R P ops Q i o:=
 Y1 hv hc fun f t u a X K hK=>wp_load hop (X.ev hx) (hr u ((X.I.1.bel.cell (p:=⟨b,c,none⟩) hb).trans hl)) hK
theorem g_sw(k c:Nat){T:TypeId}{x y:Operand}{b:Nat}{l post:List Value}{v0 v:Value}(hr: ∀w,w.cell? ⟨b,c,none⟩=some v0->w.frozen? ⟨b,c,none⟩=false->(Instr.storeAt T (.pointer (some ⟨b,c,none⟩)) v).run P w= .ok () (w.setCell ⟨b,c,none⟩ v))(h0:l[c]?=some v0)(hp:post=l.set c v)
 (hop:o.op= .store T x y:=by rfl)(hn:R.es[k]?=some (true,b,l,.all i post):=by rfl)(hx:evR R i o x=some (.pointer (some ⟨b,c,none⟩)):=by rfl)(hy:evR R i o y=some v:=by rfl)
 (hf:(((R.es.eraseIdx k).all fun q=>q.2.2.2.free i)&&(R.nw.all (nwf0 i)))=true:=by rfl)(hc:R.chkS ops i o=true:=by rfl):OG R P ops Q i o:=fun f t u a X=>by
 simp only[Bool.and_eq_true] at hf
 obtain⟨q1,q2,q3⟩:=X.I.2.1.get hn
 have q3:CV u b (bif f i then post else l):=q3
 rw[X.fi] at q3
 have q3:CV u b l:=q3
 have cc:=Chg.cell u b c v
 have hlt:c<l.length:=(List.getElem?_eq_some_iff.1 h0).1
 refine X.go (Xe hc).2.2.2 fun K hK=>wp_store hop (X.ev hx) (X.ev hy) (hr u (q3 c _ h0).1 (q3 c _ h0).2) (hK _ _ (X.put0 hc ?_ ?_))
 ·rw[Xh hf.2]
  exact X.I.1.wr (X.I.1.bel.setCell (q2 rfl) _) cc q1
 ·refine KC.put cc X.I.2.1 hn X.nd hf.1 ?_
  simp only[Wr.val,Yt,cond_true]
  rw[hp]
  exact q3.setC c hlt v
end
theorem Xk{P:Program}{fn:Func}{tmps:Array Value}{s:Nat}{T:TypeId}{b:Nat}{cs:List Value}{d:TypeDesc}{w:World}(h:fn.results=#[.cell s T])(hs:tmps[s]?.getD undef= .pointer (some ⟨b,0,none⟩))(hc:CV w b cs)(hu:P.underlying T=some d)(hd:d.isRow=true)(hi:(P.info? T).map (·.size)=some cs.length):(results fn tmps).run P w= .ok (.agg cs.toArray) w:=by
 have hl:=run_loadVar_mid (P:=P) w b 0 T cs d hc.range hu hd hi
 unfold results
 rw[h]
 simp[hs,asAddr,hl]
def U32(l:List Nat):List Value:=l.map fun(x:Nat)=>.int .u32 (x:Int)
def U8(l:List Nat):List Value:=l.map fun(x:Nat)=>.int .u8 (x:Int)
theorem Y7(l:List Nat):(U32 l).length=l.length:=List.length_map ..
theorem Ze(l:List Nat):(U8 l).length=l.length:=List.length_map ..
theorem U32_get(l:List Nat)(j:Nat)(h:j<l.length):(U32 l)[j]?=some (.int .u32 ((l.getD j 0:Nat):Int)):=by simp[U32,List.getElem?_eq_getElem h]
theorem Yn(l:List Nat)(j:Nat)(h:j<l.length):(U8 l)[j]?=some (.int .u8 ((l.getD j 0:Nat):Int)):=by simp[U8,List.getElem?_eq_getElem h]
theorem U32_set(l:List Nat)(j x:Nat):U32 (l.set j x)=(U32 l).set j (.int .u32 (x:Int)):=by simp[U32,List.map_set]
theorem U5(l:List Nat)(j x:Nat):U8 (l.set j x)=(U8 l).set j (.int .u8 (x:Int)):=by simp[U8,List.map_set]
theorem Uq: ∀l:List Nat,Wl (U32 l)=true
 | []=>rfl
 | x::r=>by show (Value.oneCell' (.int .u32 (x:Int))&&Wl (U32 r))=true;rw[Uq r];rfl
theorem U6: ∀l:List Nat,Wl (U8 l)=true
 | []=>rfl
 | x::r=>by show (Value.oneCell' (.int .u8 (x:Int))&&Wl (U8 r))=true;rw[U6 r];rfl
theorem l32{b c:Nat}{v:Int}(w:World)(h:w.cell? ⟨b,c,none⟩=some (.int .u32 v)):(Instr.loadAt 227 (.pointer (some ⟨b,c,none⟩))).run Tryz.prog w= .ok (.int .u32 v) w:=by go_simp
theorem l8{b c:Nat}{v:Int}(w:World)(h:w.cell? ⟨b,c,none⟩=some (.int .u8 v)):(Instr.loadAt 5 (.pointer (some ⟨b,c,none⟩))).run Tryz.prog w= .ok (.int .u8 v) w:=by go_simp
theorem s32{b c:Nat}{v x:Int}(w:World)(h:w.cell? ⟨b,c,none⟩=some (.int .u32 v))(hf:w.frozen? ⟨b,c,none⟩=false):(Instr.storeAt 227 (.pointer (some ⟨b,c,none⟩)) (.int .u32 x)).run Tryz.prog w= .ok () (w.setCell ⟨b,c,none⟩ (.int .u32 x)):=by go_simp
theorem s8{b c:Nat}{v x:Int}(w:World)(h:w.cell? ⟨b,c,none⟩=some (.int .u8 v))(hf:w.frozen? ⟨b,c,none⟩=false):(Instr.storeAt 5 (.pointer (some ⟨b,c,none⟩)) (.int .u8 x)).run Tryz.prog w= .ok () (w.setCell ⟨b,c,none⟩ (.int .u8 x)):=by go_simp
theorem x8(b k:Nat)(w:World)(h:k<8):(Instr.indexAt 233 (.pointer (some ⟨b,0,none⟩)) (iI k)).run Tryz.prog w= .ok (.pointer (some ⟨b,k,none⟩)) w:=by
 have h2:(k:Int)<8:=by omega
 go_simp
theorem x32(b k:Nat)(w:World)(h:k<32):(Instr.indexAt 210 (.pointer (some ⟨b,0,none⟩)) (iI k)).run Tryz.prog w= .ok (.pointer (some ⟨b,k,none⟩)) w:=by
 have h2:(k:Int)<32:=by omega
 go_simp
end
def z64:List Nat:=List.replicate 64 0
def z8:List Nat:=List.replicate 8 0
def z32:List Nat:=List.replicate 32 0
abbrev Z8w:List Value:=[.int .u32 0,.int .u32 0,.int .u32 0,.int .u32 0,.int .u32 0,.int .u32 0,.int .u32 0,.int .u32 0]
abbrev Z32b:List Value:=[.int .u8 0,.int .u8 0,.int .u8 0,.int .u8 0,.int .u8 0,.int .u8 0,.int .u8 0,.int .u8 0,.int .u8 0,.int .u8 0,.int .u8 0,.int .u8 0,.int .u8 0,.int .u8 0,.int .u8 0,.int .u8 0,.int .u8 0,.int .u8 0,.int .u8 0,.int .u8 0,.int .u8 0,.int .u8 0,.int .u8 0,.int .u8 0,.int .u8 0,.int .u8 0,.int .u8 0,.int .u8 0,.int .u8 0,.int .u8 0,.int .u8 0,.int .u8 0]
theorem T3(w:World):(Instr.alloc 233 true (.tuple #[])).run Tryz.prog w= .ok (.pointer (some ⟨w.heap.size,0,none⟩)) (w.alloc (.cells (U32 z8).toArray 233)):=by kernel_rfl
theorem Zq:(Tryz.prog.info? 233).map (·.size)=some 8:=by kernel_rfl
theorem V2(w:World):(Instr.alloc 210 true (.tuple #[])).run Tryz.prog w= .ok (.pointer (some ⟨w.heap.size,0,none⟩)) (w.alloc (.cells (U8 z32).toArray 210)):=by kernel_rfl
theorem Zf:(Tryz.prog.info? 210).map (·.size)=some 32:=by kernel_rfl
theorem Vb:(Tryz.prog.info? 236).map (·.size)=some 64:=by kernel_rfl
theorem Z6(p q:Operand)(x y:Int)(b:Bool)(w:World)(h:decide (x<y)=b):(do eqGuard .lss 3 p q (iI x) (iI y);binOp .lss 3 (iI x) (iI y):Sem Value).run Tryz.prog w= .ok (.bool b) w:=by
 subst h;go_simp
theorem Zm(p q:Operand)(x y z:Int)(w:World)(h:x+y=z)(h1: -9223372036854775808<=z)(h2:z<9223372036854775808):(do eqGuard .add 3 p q (iI x) (iI y);binOp .add 3 (iI x) (iI y):Sem Value).run Tryz.prog w= .ok (iI z) w:=by
 have e:IntKind.i64.wrap z=z:=by rw[IntKind.wrap_i64];omega
 subst h;go_simp
theorem X8(p q:Operand)(x y z:Int)(w:World)(h:x -y=z)(h1: -9223372036854775808<=z)(h2:z<9223372036854775808):(do eqGuard .sub 3 p q (iI x) (iI y);binOp .sub 3 (iI x) (iI y):Sem Value).run Tryz.prog w= .ok (iI z) w:=by
 have e:IntKind.i64.wrap z=z:=by rw[IntKind.wrap_i64];omega
 subst h;go_simp
theorem quo_n(p q:Operand)(x y:Nat)(w:World)(h1:x<1000000)(h2:0<y):(do eqGuard .quo 3 p q (iI x) (iI y);binOp .quo 3 (iI x) (iI y):Sem Value).run Tryz.prog w= .ok (iI ((x/y:Nat):Int)) w:=by
 have e0:((x:Int)).tdiv y=((x/y:Nat):Int):=by rw[Int.tdiv_eq_ediv_of_nonneg (Int.natCast_nonneg _)];simp
 have hle:x/y<=x:=Nat.div_le_self _ _
 obtain⟨z,hz⟩: ∃z,x/y=z:=⟨_,rfl⟩
 rw[hz] at e0 hle⊢
 have e:IntKind.i64.wrap (z:Int)=(z:Int):=by rw[IntKind.wrap_i64];omega
 have hy:(y:Int)≠0:=by omega
 have hy2: ¬y=0:=by omega
 go_simp
def spA(bs:List Nat):Nat->List Nat
 | 0=>z64
 | k+1=>(spA bs k).set (k/4) (((spA bs k).getD (k/4) 0<<<8)%4294967296 ||| bs.getD k 0)
def spS(l:List Nat)(t:Nat):Nat:=(((ls1 (l.getD (t -2) 0)+l.getD (t -7) 0)%4294967296+ls0 (l.getD (t -15) 0))%4294967296+l.getD (t -16) 0)%4294967296
def spB(ws:List Nat):Nat->List Nat
 | 0=>ws
 | k+1=>(spB ws k).set (k+16) (spS (spB ws k) (k+16))
def V9(bs:List Nat):List Nat:=spB (spA bs 64) 48
structure WW(n:Nat)(l:List Nat):Prop where
 len:l.length=n
 lt: ∀j,l.getD j 0<M32
theorem Yi(l:List Nat)(i j x:Nat):(l.set i x).getD j 0=if i=j/\j<l.length then x else l.getD j 0:=by
 by_cases h:i=j
 ·subst h
  by_cases h2:i<l.length
  ·rw[if_pos ⟨rfl,h2⟩];simp[h2]
  ·rw[if_neg (fun h=>h2 h.2)];simp[List.getElem?_eq_none (show l.length<=i by omega),List.getElem?_set,h2]
 ·rw[if_neg (fun h'=>h h'.1)];simp[List.getElem?_set,h]
theorem WW.set{n:Nat}{l:List Nat}(h:WW n l)(i x:Nat)(hx:x<M32):WW n (l.set i x) where
 len:=by rw[List.length_set];exact h.len
 lt:=fun j=>by
  rw[Yi];split
  ·exact hx
  ·exact h.lt j
theorem WW_z64:WW 64 z64:=⟨rfl,fun j=>by
 unfold z64;simp only[List.getD_eq_getElem?_getD,List.getElem?_replicate];split<;>decide⟩
theorem spA_W(bs:List Nat)(hb: ∀j,bs.getD j 0<256): ∀k,WW 64 (spA bs k)
 | 0=>WW_z64
 | k+1=>(spA_W bs hb k).set _ _ (or_lt (Nat.mod_lt _ (by decide)) (Nat.lt_of_lt_of_le (hb k) (by decide)))
theorem spS_lt(l:List Nat)(t:Nat):spS l t<M32:=Nat.mod_lt _ (by decide)
theorem spB_W{ws:List Nat}(h:WW 64 ws): ∀k,WW 64 (spB ws k)
 | 0=>h
 | k+1=>(spB_W h k).set _ _ (spS_lt _ _)
def kcs:List Nat:=[1116352408,1899447441,3049323471,3921009573,961987163,1508970993,2453635748,2870763221,3624381080,310598401,607225278,1426881987,1925078388,2162078206,2614888103,3248222580,3835390401,4022224774,264347078,604807628,770255983,1249150122,1555081692,1996064986,2554220882,2821834349,2952996808,3210313671,3336571891,3584528711,113926993,338241895,666307205,773529912,1294757372,1396182291,1695183700,1986661051,2177026350,2456956037,2730485921,2820302411,3259730800,3345764771,3516065817,3600352804,4094571909,275423344,430227734,506948616,659060556,883997877,958139571,1322822218,1537002063,1747873779,1955562222,2024104815,2227730452,2361852424,2428436474,2756734187,3204031479,3329325298]
def fst8:List Nat:=[1779033703,3144134277,1013904242,2773480762,1359893119,2600822924,528734635,1541459225]
theorem kcs_lt: ∀t,t<64->kcs.getD t 0<M32:=by decide
def tw1(s:List Nat)(k w:Nat):Nat:=((((s.getD 7 0+gs1 (s.getD 4 0))%4294967296+chN (s.getD 4 0) (s.getD 5 0) (s.getD 6 0))%4294967296+k)%4294967296+w)%4294967296
def tw2(s:List Nat):Nat:=(gs0 (s.getD 0 0)+maN (s.getD 0 0) (s.getD 1 0) (s.getD 2 0))%4294967296
def st8(s:List Nat)(k w:Nat):List Nat:=[(tw1 s k w+tw2 s)%4294967296,s.getD 0 0,s.getD 1 0,s.getD 2 0,(s.getD 3 0+tw1 s k w)%4294967296,s.getD 4 0,s.getD 5 0,s.getD 6 0]
def rds(ss ws:List Nat):Nat->List Nat
 | 0=>ss
 | i+1=>st8 (rds ss ws i) (kcs.getD i 0) (ws.getD i 0)
def sms(ss vs:List Nat):Nat->List Nat
 | 0=>ss
 | i+1=>(sms ss vs i).set i (((sms ss vs i).getD i 0+vs.getD i 0)%4294967296)
def blk(ss bs:List Nat):List Nat:=sms ss (rds ss (V9 bs) 64) 8
theorem st8_W{s:List Nat}(h:WW 8 s)(k w:Nat):WW 8 (st8 s k w) where
 len:=rfl
 lt:=fun j=>by
  rcases (by omega:j=0\/j=1\/j=2\/j=3\/j=4\/j=5\/j=6\/j=7\/8<=j) with rfl | rfl | rfl | rfl | rfl | rfl | rfl | rfl | h8
  ·exact Nat.mod_lt _ (by decide)
  ·exact h.lt 0
  ·exact h.lt 1
  ·exact h.lt 2
  ·exact Nat.mod_lt _ (by decide)
  ·exact h.lt 4
  ·exact h.lt 5
  ·exact h.lt 6
  ·rw[List.getD_eq_getElem?_getD,List.getElem?_eq_none (by show 8<=j;exact h8)];decide
theorem rds_W{ss:List Nat}(h:WW 8 ss)(ws:List Nat): ∀i,WW 8 (rds ss ws i)
 | 0=>h
 | i+1=>st8_W (rds_W h ws i) _ _
theorem sms_W{ss:List Nat}(h:WW 8 ss)(vs:List Nat): ∀i,WW 8 (sms ss vs i)
 | 0=>h
 | i+1=>(sms_W h vs i).set _ _ (Nat.mod_lt _ (by decide))
theorem spread_W(bs:List Nat)(hb: ∀j,bs.getD j 0<256):WW 64 (V9 bs):=spB_W (spA_W bs hb 64) 48
theorem blk_W{ss:List Nat}(h:WW 8 ss)(bs:List Nat):WW 8 (blk ss bs):=sms_W h _ 8
theorem rem_n(p q:Operand)(x y:Nat)(w:World)(h1:x<1000000)(h2:0<y):(do eqGuard .rem 3 p q (iI x) (iI y);binOp .rem 3 (iI x) (iI y):Sem Value).run Tryz.prog w= .ok (iI ((x%y:Nat):Int)) w:=by
 have e0:((x:Int)).tmod y=((x%y:Nat):Int):=by rw[Int.tmod_eq_emod_of_nonneg (Int.natCast_nonneg _)];simp
 have hle:x%y<=x:=Nat.mod_le _ _
 obtain⟨z,hz⟩: ∃z,x%y=z:=⟨_,rfl⟩
 rw[hz] at e0 hle⊢
 have e:IntKind.i64.wrap (z:Int)=(z:Int):=by rw[IntKind.wrap_i64];omega
 have hy:(y:Int)≠0:=by omega
 have hy2: ¬y=0:=by omega
 go_simp
theorem mul_i(p q:Operand)(x y z:Int)(w:World)(h:x*y=z)(h0: -9223372036854775808<=z)(h1:z<9223372036854775808):(do eqGuard .mul 3 p q (iI x) (iI y);binOp .mul 3 (iI x) (iI y):Sem Value).run Tryz.prog w= .ok (iI z) w:=by
 have e:IntKind.i64.wrap z=z:=by rw[IntKind.wrap_i64];omega
 subst h;go_simp
theorem cv328{o:Oper}{ev:Operand->Value}{x:Operand}{n:Nat}(u:World)(ho:o.op= .convert 227 5 x)(hx:ev x= .int .u32 (n:Int)):(execOp ev o).run Tryz.prog u= .ok (.value (.int .u8 ((n%256:Nat):Int))) u:=by
 have e1:IntKind.u8.wrap (n:Int)=((n%256:Nat):Int):=by simp[IntKind.wrap,IntKind.signed,IntKind.bits]
 unfold execOp;rw[ho];simp only[hx];go_simp
def tld(ss:List Nat):Nat->List Nat
 | 0=>z32
 | i+1=>(tld ss i).set i ((ss.getD (i/4) 0>>>(8*(3 -i%4)))%256)
def told(ss:List Nat):List Nat:=tld ss 32
structure BB(n:Nat)(l:List Nat):Prop where
 len:l.length=n
 lt: ∀j,l.getD j 0<256
theorem BB.set{n:Nat}{l:List Nat}(h:BB n l)(i x:Nat)(hx:x<256):BB n (l.set i x) where
 len:=by rw[List.length_set];exact h.len
 lt:=fun j=>by
  rw[Yi];split
  ·exact hx
  ·exact h.lt j
theorem BB_z32:BB 32 z32:=⟨rfl,fun j=>by
 unfold z32;simp only[List.getD_eq_getElem?_getD,List.getElem?_replicate];split<;>decide⟩
theorem tld_B(ss:List Nat): ∀i,BB 32 (tld ss i)
 | 0=>BB_z32
 | i+1=>(tld_B ss i).set _ _ (Nat.mod_lt _ (by decide))
section
section
variable {R:Rg} {P:Program} {ops:Array Oper} {Q:Exit->Act->World->Prop} {f:Nat->Bool} {t:Nat->Value} {u:World} {a:Act} {i:Nat} {o:Oper}
theorem wp_ms{K:Act->World->Prop}{T:TypeId}{x y:Operand}{vx vy v:Value}{w':World}(ho:o.op= .makeSlice T x y)(hx:a.eval x=vx)(hy:a.eval y=vy)(hr:(Instr.makeSlice T vx vy).run P u= .ok v w')(hk:K (a.put o.dst v) w'):o.wp P a u K Q:=
 Yb (by
  unfold execOp;rw[ho]
  show Sem.run P (do pure (Next.value (<-Instr.makeSlice T (a.eval x) (a.eval y)))) u=_
  rw[hx,hy,Sem.run_bind,hr,Result.andThen_ok,Sem.run_pure]) hk
theorem g_ms(n:Nat)(p:World->Value->Prop){T e:TypeId}{x y:Operand}{vx vy:Value}{m:Nat}{cs:List Value}(hr: ∀w,(Instr.makeSlice T vx vy).run P w= .ok (.slice (some ⟨w.heap.size,0,none⟩) m m) (w.alloc (.cells cs.toArray e)))(hp: ∀u:World,R.base<=u.heap.size->p (u.alloc (.cells cs.toArray e)) (.slice (some ⟨u.heap.size,0,none⟩) m m))(hop:o.op= .makeSlice T x y:=by rfl)(hx:evR R i o x=some vx:=by rfl)(hy:evR R i o y=some vy:=by rfl)(hn:(R.E[n]?).map (·.p)=some p:=by rfl)(hc:R.chkE ops n i o=true:=by rfl):OG R P ops Q i o:=fun f t u a X=>by
 obtain⟨d,q,hd,hq,_,_,_,_,_,_,_,_,hw⟩:=Zo hc
 exact X.go hw fun K hK=>wp_ms hop (X.ev hx) (X.ev hy) (hr u) (hK _ _ (X.putE hc (fun q hq=>by rw[hq] at hn;cases hn;exact hp u X.I.1.sz) (Z1 (Z5 u) _)))
end
def PF(lo n:Nat)(xs:List Value)(u:World)(v:Value):Prop:= ∃b,v= .slice (some ⟨b,0,none⟩) n n/\lo<=b/\b<u.heap.size/\CV u b xs
theorem PF.stab{lo n:Nat}{xs:List Value}{u v:World}{x:Value}(hB:Bw u v)(h:PF lo n xs u x):PF lo n xs v x:=by
 obtain⟨b,e,h1,h2,h5⟩:=h
 exact⟨b,e,h1,Nat.lt_of_lt_of_le h2 hB.size,h5.below hB h2⟩
theorem PF.mono{lo lo' n:Nat}{xs:List Value}{u:World}{x:Value}(h:PF lo n xs u x)(hl:lo'<=lo):PF lo' n xs u x:=by
 obtain⟨b,e,h1,h⟩:=h
 exact⟨b,e,Nat.le_trans hl h1,h⟩
theorem PF.new(n:Nat)(xs:List Value)(t:TypeId){lo:Nat}(u:World)(h:lo<=u.heap.size):PF lo n xs (u.alloc (.cells xs.toArray t)) (.slice (some ⟨u.heap.size,0,none⟩) n n):=⟨_,rfl,h,by simp,CV.new u _ t⟩
theorem infoB:(Tryz.prog.info? 5).map (fun i=>(i.zero,i.size,i.bytes))=some (some (.int .u8 0),1,1):=by kernel_rfl
theorem mkB(k:IntKind)(m:Nat)(hm:m<=1000000)(w:World):(Instr.makeSlice 118 (.int k m) (.int k m)).run Tryz.prog w= .ok (.slice (some ⟨w.heap.size,0,none⟩) m m) (w.alloc (.cells (U8 (List.replicate m 0)).toArray 5)):=by
 obtain⟨i,hi,hi2⟩:=Option.map_eq_some_iff.1 infoB
 simp only[Prod.mk.injEq] at hi2
 obtain⟨hz,hs,hb⟩:=hi2
 have:=run_makeSlice (P:=Tryz.prog) w 118 5 i (.int .u8 0) Tryz.underlying118 hi hz k k m m (by omega) (by omega) (by rw[hs];omega) (by rw[hb];omega) (by omega)
 rw[this,hs]
 simp only[Int.toNat_natCast,Nat.mul_one]
 congr 4
 apply Array.ext'
 simp[madeCells,U8,Value.cells]
 apply List.ext_getElem
 ·simp
 ·intro j h1 h2;simp[Nat.mod_one]
theorem Vt(p q:Operand)(a b c:Nat)(w:World)(h:a+b=c)(hc:c<18446744073709551616):(do eqGuard .add 22 p q (iU a) (iU b);binOp .add 22 (iU a) (iU b):Sem Value).run Tryz.prog w= .ok (iU (c:Int)) w:=by
 have e:IntKind.u64.wrap ((a:Int)+b)=(c:Int):=by simp[IntKind.wrap,IntKind.signed,IntKind.bits];omega
 go_simp
theorem mul64(p q:Operand)(a b c:Nat)(w:World)(h:a*b=c)(hc:c<18446744073709551616):(do eqGuard .mul 22 p q (iU a) (iU b);binOp .mul 22 (iU a) (iU b):Sem Value).run Tryz.prog w= .ok (iU (c:Int)) w:=by
 have h':(a:Int)*b=(c:Int):=by exact_mod_cast h
 have e:IntKind.u64.wrap (c:Int)=(c:Int):=by simp[IntKind.wrap,IntKind.signed,IntKind.bits];omega
 go_simp
theorem rem64(p q:Operand)(x y:Nat)(w:World)(h1:x<18446744073709551616)(h2:0<y):(do eqGuard .rem 22 p q (iU x) (iU y);binOp .rem 22 (iU x) (iU y):Sem Value).run Tryz.prog w= .ok (iU ((x%y:Nat):Int)) w:=by
 have e0:((x:Int)).tmod y=((x%y:Nat):Int):=by rw[Int.tmod_eq_emod_of_nonneg (Int.natCast_nonneg _)];simp
 have hle:x%y<=x:=Nat.mod_le _ _
 obtain⟨z,hz⟩: ∃z,x%y=z:=⟨_,rfl⟩
 rw[hz] at e0 hle⊢
 have e:IntKind.u64.wrap (z:Int)=(z:Int):=by simp[IntKind.wrap,IntKind.signed,IntKind.bits];omega
 have hy:(y:Int)≠0:=by omega
 have hy2: ¬y=0:=by omega
 go_simp
theorem shr64i(p q:Operand)(a n:Nat)(w:World)(hn:n<=64):(do eqGuard .shr 22 p q (iU a) (iI n);binOp .shr 22 (iU a) (iI n):Sem Value).run Tryz.prog w= .ok (iU ((a>>>n:Nat):Int)) w:=by
 have e:((a:Int)/2^n)=(a:Int)>>>n:=by rw[Int.shiftRight_eq_div_pow];simp
 have e2:min n 64=n:=by omega
 go_simp
 first | done | exact e
theorem cv648{o:Oper}{ev:Operand->Value}{x:Operand}{n:Nat}(u:World)(ho:o.op= .convert 22 5 x)(hx:ev x=iU (n:Int)):(execOp ev o).run Tryz.prog u= .ok (.value (.int .u8 ((n%256:Nat):Int))) u:=by
 have e1:IntKind.u8.wrap (n:Int)=((n%256:Nat):Int):=by simp[IntKind.wrap,IntKind.signed,IntKind.bits]
 unfold execOp;rw[ho];simp only[hx];go_simp
theorem ixB(g o n cap j:Nat)(h:j<n)(w:World):(Instr.indexAt 118 (.slice (some ⟨g,o,none⟩) n cap) (iI j)).run Tryz.prog w= .ok (.pointer (some ⟨g,o+j,none⟩)) w:=by
 have h2:(j:Int)<n:=by omega
 go_simp
def nou(n:Nat):Nat:=(18446744073709551616 -(n+9))%64
def enL(n:Nat):Nat->List Nat
 | 0=>(List.replicate (nou n+9) 0).set 0 128
 | i+1=>(enL n i).set (nou n+9 -1 -i) ((n*8)>>>(8*i)%256)
def ending(n:Nat):List Nat:=enL n 8
theorem BB_rep(m:Nat):BB m (List.replicate m 0):=⟨by simp,fun j=>by
 simp only[List.getD_eq_getElem?_getD,List.getElem?_replicate];split<;>decide⟩
theorem enL_B(n:Nat): ∀i,BB (nou n+9) (enL n i)
 | 0=>(BB_rep _).set _ _ (by decide)
 | i+1=>(enL_B n i).set _ _ (Nat.mod_lt _ (by decide))
end
end
section
def tkB(c:Nat)(bs xs:List Nat):Nat->List Nat
 | 0=>bs
 | j+1=>(tkB c bs xs j).set ((c+j)%64) (xs.getD j 0)
def tkS(c:Nat)(ss bs xs:List Nat):Nat->List Nat
 | 0=>ss
 | j+1=>if (c+j+1)%64=0 then blk (tkS c ss bs xs j) (tkB c bs xs (j+1)) else tkS c ss bs xs j
theorem tkB_B{c:Nat}{bs xs:List Nat}(hb:BB 64 bs)(hx: ∀j,xs.getD j 0<256): ∀j,BB 64 (tkB c bs xs j)
 | 0=>hb
 | j+1=>(tkB_B hb hx j).set _ _ (hx j)
theorem tkS_W{c:Nat}{ss bs xs:List Nat}(hs:WW 8 ss): ∀j,WW 8 (tkS c ss bs xs j)
 | 0=>hs
 | j+1=>by
  unfold tkS;split
  ·exact blk_W (tkS_W hs j) _
  ·exact tkS_W hs j
theorem set_app(l:List Nat)(k n x:Nat)(m:List Nat)(hm:m.length=n)(h:k+n<l.length):(l.take k++m++l.drop (k+n)).set (k+n) x=l.take k++(m++[x])++l.drop (k+n+1):=by
 have hk:(l.take k).length=k:=by rw[List.length_take];omega
 have hd:l.drop (k+n)=l[k+n]::l.drop (k+n+1):=List.drop_eq_getElem_cons h
 rw[hd,List.set_append_right _ _ (by rw[List.length_append,hk,hm];omega),List.length_append,hk,hm,Nat.sub_self,List.set_cons_zero]
 simp
theorem tkB_many(c:Nat)(bs xs:List Nat)(hb:bs.length=64)(j k:Nat)(hk:(c+j)%64=k): ∀n,k+n<=64->j+n<=xs.length->tkB c bs xs (j+n)=(tkB c bs xs j).take k++(xs.drop j).take n++(tkB c bs xs j).drop (k+n)
 | 0,_,_=>by simp
 | n+1,h1,h2=>by
  have ih:=tkB_many c bs xs hb j k hk n (by omega) (by omega)
  have hl:(tkB c bs xs j).length=64:=by
   have: ∀j,(tkB c bs xs j).length=64:=fun j=>by
    induction j with
    | zero=>exact hb
    | succ j ih=>unfold tkB;rw[List.length_set];exact ih
   exact this j
  have hm:(c+(j+n))%64=k+n:=by omega
  have hg:xs.getD (j+n) 0=xs[j+n]:=by simp[List.getElem?_eq_getElem (show j+n<xs.length by omega)]
  show (tkB c bs xs (j+n)).set ((c+(j+n))%64) (xs.getD (j+n) 0)=_
  rw[hm,ih,set_app _ _ _ _ _ (by rw[List.length_take,List.length_drop];omega) (by omega),hg]
  have:(xs.drop j).take (n+1)=(xs.drop j).take n++[xs[j+n]]:=by
   rw[List.take_succ_eq_append_getElem (by rw[List.length_drop];omega)];simp
  rw[this,Nat.add_assoc]
theorem tkS_many(c:Nat)(ss bs xs:List Nat)(j k:Nat)(hk:(c+j)%64=k): ∀n,k+(n+1)<=64->tkS c ss bs xs (j+(n+1))=if (c+j+(n+1))%64=0 then blk (tkS c ss bs xs j) (tkB c bs xs (j+(n+1))) else tkS c ss bs xs j
 | 0,_=>rfl
 | n+1,h=>by
  have ih:=tkS_many c ss bs xs j k hk n (by omega)
  rw[if_neg (by omega)] at ih
  show tkS c ss bs xs (j+(n+1)+1)=_
  rw[show tkS c ss bs xs (j+(n+1)+1)=if (c+(j+(n+1))+1)%64=0 then blk (tkS c ss bs xs (j+(n+1))) (tkB c bs xs (j+(n+1)+1)) else tkS c ss bs xs (j+(n+1)) from rfl,ih]
  rw[show c+(j+(n+1))+1=c+j+(n+1+1) by omega,show j+(n+1)+1=j+(n+1+1) by omega]
end
section
open Go.RowKit
section
section
variable {R:Rg} {P:Program} {ops:Array Oper} {Q:Exit->Act->World->Prop} {f:Nat->Bool} {t:Nat->Value} {u:World} {a:Act} {i:Nat} {o:Oper}
theorem wp_cp{K:Act->World->Prop}{s x:Operand}{T T2:TypeId}{vs vx v:Value}{w':World}(ho:o.op= .call {callee:= .builtin .copy,args:=[s,x].toArray,argTypes:=[T,T2].toArray})(hs:a.eval s=vs)(hx:a.eval x=vx)(hr:(Builtin.copy_ #[T,T2] o.type #[vs,vx]).run P u= .ok v w')(hk:K (a.put o.dst v) w'):o.wp P a u K Q:=by
 unfold Oper.wp execOp
 simp only[ho,resolve,invoke,builtin,Sem.run_bind,Sem.run_pure,Result.andThen_ok,List.map_toArray,List.map_cons,List.map_nil,hs,hx,hr]
 exact hk
theorem g_cp(k:Nat){T T2 e:TypeId}{x y:Operand}{b c dl dc sl sc:Nat}{ad:Addr}(xs ys zs cs:List Value)(ht:P.underlying T=some (.slice e))(hi:(P.info? e).map (·.size)=some 1)(hn:cs.length=Nat.min sl dl)(hsrc: ∀f u,KC f u R.lo R.base R.es->Below R.lo R.w u-> ∀j v,cs[j]?=some v->u.cell? (ad.add j)=some v)(h1: ∀v∈cs,v.oneCell'=true)(hxc:xs.length=c)(hl:ys.length=cs.length)
 (hop:o.op= .call {callee:= .builtin .copy,args:=[x,y].toArray,argTypes:=[T,T2].toArray}:=by rfl)(hes:R.es[k]?=some (true,b,xs++ys++zs,.all i (xs++cs++zs)):=by rfl)(hx:evR R i o x=some (.slice (some ⟨b,c,none⟩) dl dc):=by rfl)(hy:evR R i o y=some (.slice (some ad) sl sc):=by rfl)(hv:some (goInt cs.length)=Zv i R.G:=by rfl)
 (hw:R.nw=[]:=by rfl)(hE:R.E=[]:=by rfl)(hc:((match o.dst with | some d=>ownsA i d R.G&&U4 i d R.Ns&&R.S.contains d | none=>false)&&R.okO i o&&((R.es.eraseIdx k).all fun q=>q.2.2.2.free i)&&(V5 R ops o==some true))=true:=by rfl):OG R P ops Q i o:=fun f t u a X=>by
 cases hdd:o.dst with
 | none=>rw[hdd] at hc;simp at hc
 | some d'=>
  rw[hdd] at hc
  simp only[Bool.and_eq_true,List.contains_iff_mem,beq_iff_eq] at hc
  obtain⟨q1,q2,q3⟩:=X.I.2.1.get hes
  have q3:CV u b (bif f i then xs++cs++zs else xs++ys++zs):=q3
  rw[X.fi] at q3
  have q3:CV u b (xs++ys++zs):=q3
  have hr:=run_copy_cells (P:=P) u T T2 o.type e b c dl dc ad sl sc cs ht hi hn (hsrc f u X.I.2.1 X.I.1.bel) (fun j hj=>by
   rw[(q3 (c+j) _ (List.getElem?_eq_getElem (by simp only[List.length_append];omega))).1];rfl) (fun j hj=>(q3 (c+j) _ (List.getElem?_eq_getElem (by simp only[List.length_append];omega))).2) h1
  have cc:=Chg.cellsAt u b c cs
  refine X.go hc.2 fun K hK=>wp_cp hop (X.ev hx) (X.ev hy) hr (hK _ _ ⟨updT t d' _,by rw[hdd];exact X.F.put X.parts.1 hc.1.1.1.2 _,?_,?_,Gs.stepA X.I.2.2.1 hc.1.1.1.1.1 hv.symm,Yv hc.1.1.2 X.I.2.2.2.1 X.dep,Ns.step X.I.2.2.2.2.1 hc.1.1.1.1.2,by rw[hE];trivial⟩)
  ·have hM:=X.I.1
   rw[hw] at hM⊢
   exact{bel:=Zr (q2 rfl) _ _ _ hM.bel,lo:=hM.lo,sz:=by rw[Zh];exact hM.sz,ks:=trivial,ex:=trivial,nw:=trivial,nd:=trivial}
  ·exact KC.put cc X.I.2.1 hes X.nd hc.1.2 (by simp only[Wr.val,Yt,cond_true];exact q3.mid hxc hl)
end
theorem U8_app(a b:List Nat):U8 (a++b)=U8 a++U8 b:=by simp[U8]
theorem l64{b c:Nat}{v:Int}(w:World)(h:w.cell? ⟨b,c,none⟩=some (iU v)):(Instr.loadAt 22 (.pointer (some ⟨b,c,none⟩))).run Tryz.prog w= .ok (iU v) w:=by go_simp
theorem s64{b c:Nat}{v x:Int}(w:World)(h:w.cell? ⟨b,c,none⟩=some (iU v))(hf:w.frozen? ⟨b,c,none⟩=false):(Instr.storeAt 22 (.pointer (some ⟨b,c,none⟩)) (iU x)).run Tryz.prog w= .ok () (w.setCell ⟨b,c,none⟩ (iU x)):=by go_simp
theorem U8_mem{l:List Nat}: ∀v∈U8 l,v.oneCell'=true:=fun v hv=>by
 obtain⟨x,_,rfl⟩:=List.mem_map.1 hv;rfl
theorem gtr_i(p q:Operand)(x y:Int)(b:Bool)(w:World)(h:decide (y<x)=b):(do eqGuard .gtr 3 p q (iI x) (iI y);binOp .gtr 3 (iI x) (iI y):Sem Value).run Tryz.prog w= .ok (.bool b) w:=by
 subst h;go_simp
theorem eql_u(T:TypeId)(p q:Operand)(x y:Int)(b:Bool)(w:World)(h:(x==y)=b):(do eqGuard .eql T p q (iU x) (iU y);binOp .eql T (iU x) (iU y):Sem Value).run Tryz.prog w= .ok (.bool b) w:=by
 subst h;go_simp
theorem cvi64{o:Oper}{ev:Operand->Value}{x:Operand}{n:Nat}(u:World)(hn:n<1000000)(ho:o.op= .convert 3 22 x)(hx:ev x=iI (n:Int)):(execOp ev o).run Tryz.prog u= .ok (.value (iU (n:Int))) u:=by
 have e1:IntKind.u64.wrap (n:Int)=(n:Int):=by simp[IntKind.wrap,IntKind.signed,IntKind.bits];omega
 unfold execOp;rw[ho];simp only[hx];go_simp
def SB(w:World)(g o:Nat)(xs:List Nat):Prop:= ∀j,j<xs.length->w.cell? ⟨g,o+j,none⟩=some (.int .u8 ((xs.getD j 0:Nat):Int))
theorem SB.cells{w:World}{g o:Nat}{xs:List Nat}(h:SB w g o xs)(k n:Nat): ∀j v,(U8 ((xs.drop k).take n))[j]?=some v->w.cell? ((⟨g,o+k,none⟩:Addr).add j)=some v:=fun j v hj=>by
 have hl:j<((xs.drop k).take n).length:=by have:=(List.getElem?_eq_some_iff.1 hj).1;rwa [Ze] at this
 rw[Yn _ j hl] at hj
 have hl2:k+j<xs.length:=by rw[List.length_take,List.length_drop] at hl;omega
 have e:(⟨g,o+k,none⟩:Addr).add j=⟨g,o+(k+j),none⟩:=by unfold Addr.add;split<;>simp_all<;>omega
 rw[e,h (k+j) hl2,<-hj]
 have hn:j<n:=by rw[List.length_take] at hl;omega
 simp[List.getElem?_take,hn,List.getElem?_drop]
end
end
end Go.Proofs.YtmoimodkopjeeaaGreatDoor
