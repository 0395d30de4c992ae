import Derived.Test.YtofcppgfaelloaaGreatDoorC1
import Derived.Test.YtofcppgfaelloaaGreatDoorIT
import Derived.Deep.OwnRows
import Derived.Lib.ItoaLen
namespace Go.Proofs.YtofcppgfaelloaaGreatDoor
set_option linter.unusedVariables false
set_option linter.unusedSimpArgs false
set_option maxRecDepth 100000
set_option maxHeartbeats 4000000
open Go.RowKit
def byl (a b c d:Int):List Int:=(List.range 32).map fun j=>byp a b c d (31 -j)
theorem CB.get {w:World} {g:Nat} {a b c d:Int} (h:CB w g 32 a b c d): ∀i,i<32->w.cell? ⟨g,0+i,none⟩=some (.int .u8 ((byl a b c d).getD i 0)):=fun i hi=>by
 have:=(h i hi).1
 rw[if_pos (by omega)] at this
 rw[Nat.zero_add,this]
 unfold byl
 simp[List.getD,hi]
theorem Tryz.info5:(Tryz.prog.info? 5).map (fun i=>(i.zero,i.size,i.bytes))=some (some (.int .u8 0),1,1):=by kernel_rfl
def hexc (v:Int):Int:=if v<10 then 48+v else 87+v
def nib (a b c d:Int) (p:Nat):Int:=(if p/16=0 then a else if p/16=1 then b else if p/16=2 then c else d)/2^(p%16*4)%16
theorem hex_at (v:Int) (h0:0<=v) (h1:v<16) (hh:v.toNat<(ByteArray.mk #[48,49,50,51,52,53,54,55,56,57,97,98,99,100,101,102]).size):((((ByteArray.mk #[48,49,50,51,52,53,54,55,56,57,97,98,99,100,101,102])[v.toNat]'hh).toNat:Nat):Int)=hexc v:=by
 obtain⟨n,rfl⟩:=Int.eq_ofNat_of_zero_le h0
 have hn:n<16:=by omega
 have key: ∀m:Fin 16,((((ByteArray.mk #[48,49,50,51,52,53,54,55,56,57,97,98,99,100,101,102])[m.val]'(by have:=m.isLt;show m.val<16;omega)).toNat:Nat):Int)=hexc (m.val:Int):=by decide
 exact key ⟨n,hn⟩
theorem and15 (x:Int) (h:W64 x):bits .and .u64 x 15=x%16:=by
 obtain⟨h1,h2⟩:=h
 obtain⟨x,rfl⟩:=Int.eq_ofNat_of_zero_le h1
 have e:=bits_and_u64_nat x 15 (by omega) (by omega)
 have f:x&&&15=x%16:=Nat.and_two_pow_sub_one_eq_mod x 4
 rw[f] at e
 exact e.trans (by omega)
def CT (w:World) (n N k:Nat) (a b c d:Int):Prop:= ∀j,j<N->w.cell? ⟨n,j,none⟩=some (.int .u8 (if N<=j+k then hexc (nib a b c d (N -1 -j)) else 0))/\w.frozen? ⟨n,j,none⟩=false
theorem CT.set {w:World} {n N k o:Nat} {a b c d:Int} (h:CT w n N k a b c d) (hk:k<N) (ho:o=N -1 -k) (v:Int) (hv:v=hexc (nib a b c d k)):CT (w.setCell ⟨n,o,none⟩ (.int .u8 v)) n N (k+1) a b c d:=fun j hj=>by
 subst ho
 rw[World.frozen?_setCell]
 obtain⟨hc,hf⟩:=h (N -1 -k) (by omega)
 by_cases e:j=N -1 -k
 ·subst e
  refine⟨?_,hf⟩
  rw[if_pos (by omega),show N -1 -(N -1 -k)=k by omega,hv]
  simp[go_sem,hc]
 ·obtain⟨hc',hf'⟩:=h j hj
  refine⟨?_,hf'⟩
  rw[World.cell?_setCell_other _ _ _ _ (by simp<;>omega),hc']
  by_cases g:N<=j+k
  ·rw[if_pos g,if_pos (by omega)]
  ·rw[if_neg g,if_neg (by omega)]
theorem CT.new (w:World) (N:Nat) (a b c d:Int):CT (w.alloc (.cells (madeCells #[.int .u8 0] N) 5)) w.heap.size N 0 a b c d:=fun j hj=>by
 have hf:(w.alloc (.cells (madeCells #[.int .u8 0] N) 5)).frozen? ⟨w.heap.size,j,none⟩=false:=by simp[go_sem]
 refine⟨?_,hf⟩
 rw[cell_of_row _ w.heap.size j _ 5 (0,0) (heap_alloc_new _ _),if_neg (by omega)]
 simp[madeCells,hj,Nat.mod_one]
def txl (a b c d:Int) (N:Nat):List Int:=(List.range N).map fun j=>hexc (nib a b c d (N -1 -j))
theorem CT.get {w:World} {g N:Nat} {a b c d:Int} (h:CT w g N N a b c d): ∀i,i<N->w.cell? ⟨g,0+i,none⟩=some (.int .u8 ((txl a b c d N).getD i 0)):=fun i hi=>by
 have:=(h i hi).1
 rw[if_pos (by omega)] at this
 rw[Nat.zero_add,this]
 unfold txl
 simp[List.getD,hi]
def nd (a b c d:Int):Nat:=if blen a b c d=0 then 1 else ((blen a b c d+3)/4).toNat
theorem blen_bd (a b c d:Int) (ha:W64 a) (hb:W64 b) (hc:W64 c) (hd:W64 d):0<=blen a b c d/\blen a b c d<=256:=by
 have h1:=Vr a ha;have h2:=Vr b hb;have h3:=Vr c hc;have h4:=Vr d hd
 unfold blen;split
 ·omega
 ·split
  ·omega
  ·split
   ·omega
   ·split<;>omega
theorem Text_any (a b c d:Int) (w:World) (ha:W64 a) (hb:W64 b) (hc:W64 c) (hd:W64 d):
 CC 78 #[A4 a b c d] w (.string (strOfNums (txl a b c d (nd a b c d)))):=by
 have hbb:=blen_bd a b c d ha hb hc hd
 obtain⟨N,eN⟩: ∃N,nd a b c d=N:=⟨_,rfl⟩
 rw[eN]
 have hmax:(max 1 ((blen a b c d+3)/4):Int)=(N:Int):=by
  rw[<-eN];unfold nd;split<;>omega
 have hN1:1<=N:=by omega
 have hN2:N<=64:=by omega
 obtain⟨L,eL⟩: ∃L,blen a b c d=L:=⟨_,rfl⟩
 have hlen:=T4 a b c d
 simp only[eL] at hlen hbb hmax
 have HLEN:Hid _:=hlen
 clear hlen eL eN
 have hmk:=fun w=>run_make_row' (P:=Tryz.prog) 43 5 (.int .u8 0) 1 Tryz.underlying43 Tryz.info5 rfl .i64 .i64 N (by omega) (by omega) w
 go_enter Tryz.func78,Tryz.ntmps78
 go_wp2_with fail
 refine(HLEN.out _ ha hb hc hd).mono ?_
 rintro en w1 ⟨rfl,hB⟩
 have hA1:C4 w1 w.heap.size a b c d:=C4.below (by unfold C4;simp[go_sem]) hB (by simp)
 have hq1:Bw w w1:=Yu (Z2 (Zm w) _) hB
 have hs1:=hB.size
 simp only[World.size_alloc] at hs1
 clear hB
 have HM:Hid _:=hmax
 go_wp2
 go_loopw [14] (fun i wr=> ∃k:Nat,k<=N/\i=iI k/\Bw w wr/\w1.heap.size<wr.heap.size/\C4 wr w.heap.size a b c d/\CT wr w1.heap.size N k a b c d) (fun i _=>N -(intOf i).toNat)
 case atStart=>
  exact⟨0,by omega,rfl,Z2 hq1 _,by simp,hA1.alloc (by omega) _,CT.new w1 N a b c d⟩
 case round=>
  clear hA1 hq1 hmk hmax
  obtain⟨k,hk,rfl,hB,hs,hA,hO⟩:=hrel
  by_cases hlt:k<N
  ·have hlt':(k:Int)<(N:Int):=by omega
   have hA':=hA
   obtain⟨⟨ac0,ac1,ac2,ac3⟩,_⟩:=hA'
   obtain⟨oc,of⟩:=hO (N -1 -k) (by omega)
   have hz:(if N<=N -1 -k+k then hexc (nib a b c d (N -1 -(N -1 -k))) else 0)=0:=if_neg (by omega)
   rw[hz] at oc
   clear hz
   have hq:k/16=0\/k/16=1\/k/16=2\/k/16=3:=by omega
   rcases hq with hq | hq | hq | hq
   ·have hq':(k:Int)/16=0:=by omega
    have hnd:=and15 _ (W_shr a (k%16*4) ha)
    have hv0:0<=a/2^(k%16*4)%16:=by omega
    have hv1:a/2^(k%16*4)%16<16:=by omega
    go_wp2
    refine⟨⟨k+1,by omega,by go_num,?_,by simpa using hs,hA.other _ (by dsimp only;omega) _,hO.set hlt (by omega) _ ?_⟩,by simp[intOf];omega⟩
    ·exact hB.setCell (by show _<=_;dsimp only;omega) _
    ·rw[hex_at _ hv0 hv1];unfold nib;simp[hq]
   ·have hq':(k:Int)/16=1:=by omega
    have hnd:=and15 _ (W_shr b (k%16*4) hb)
    have hv0:0<=b/2^(k%16*4)%16:=by omega
    have hv1:b/2^(k%16*4)%16<16:=by omega
    go_wp2
    refine⟨⟨k+1,by omega,by go_num,?_,by simpa using hs,hA.other _ (by dsimp only;omega) _,hO.set hlt (by omega) _ ?_⟩,by simp[intOf];omega⟩
    ·exact hB.setCell (by show _<=_;dsimp only;omega) _
    ·rw[hex_at _ hv0 hv1];unfold nib;simp[hq]
   ·have hq':(k:Int)/16=2:=by omega
    have hnd:=and15 _ (W_shr c (k%16*4) hc)
    have hv0:0<=c/2^(k%16*4)%16:=by omega
    have hv1:c/2^(k%16*4)%16<16:=by omega
    go_wp2
    refine⟨⟨k+1,by omega,by go_num,?_,by simpa using hs,hA.other _ (by dsimp only;omega) _,hO.set hlt (by omega) _ ?_⟩,by simp[intOf];omega⟩
    ·exact hB.setCell (by show _<=_;dsimp only;omega) _
    ·rw[hex_at _ hv0 hv1];unfold nib;simp[hq]
   ·have hq':(k:Int)/16=3:=by omega
    have hnd:=and15 _ (W_shr d (k%16*4) hd)
    have hv0:0<=d/2^(k%16*4)%16:=by omega
    have hv1:d/2^(k%16*4)%16<16:=by omega
    go_wp2
    refine⟨⟨k+1,by omega,by go_num,?_,by simpa using hs,hA.other _ (by dsimp only;omega) _,hO.set hlt (by omega) _ ?_⟩,by simp[intOf];omega⟩
    ·exact hB.setCell (by show _<=_;dsimp only;omega) _
    ·rw[hex_at _ hv0 hv1];unfold nib;simp[hq]
  ·have hkN:k=N:=by omega
   subst hkN
   have hcv:=run_convert_bytes_arg (P:=Tryz.prog) wr 43 5 Tryz.underlying43 Tryz.underlying5 w1.heap.size 0 k k (txl a b c d k) (by simp[txl]) hO.get 9 Tryz.underlying9
   go_wp2
   go_ret
   exact⟨rfl,hB⟩
section
def txG (n:Int):ByteArray:=strOfNums (txl (D0 n) (D1 n) (D2 n) (D3 n) (nd (D0 n) (D1 n) (D2 n) (D3 n)))
theorem nTextG (n:Int) (w:World):CC 78 #[NV n] w (.string (txG n)):=Text_any _ _ _ _ w (W_D0 n) (W_D1 n) (W_D2 n) (W_D3 n)
theorem tx_szG (n:Int):(txG n).size<=64:=by
 unfold txG
 rw[strOfNums_size]
 unfold txl
 rw[List.length_map,List.length_range]
 have:=blen_bd _ _ _ _ (W_D0 n) (W_D1 n) (W_D2 n) (W_D3 n)
 unfold nd
 split<;>omega
structure GT (w:World):Prop where
 sz:2<w.heap.size
 tab:Lib.TabIs Tryz.prog w "internal/strconv.uint64pow10" .u64 Lib.pow10Tab
theorem gPowG:Tryz.prog.globalNamed "internal/strconv.uint64pow10" =some 2:=by kernel_rfl
theorem GT.below {w u:World} (h:GT w) (hB:Bw w u):GT u where
 sz:=Nat.lt_of_lt_of_le h.sz hB.size
 tab:=Go.Joins.tab_stays gPowG h.tab hB (Nat.le_refl _)
theorem below_growG (w:World) (k:Nat) (os:Array Obj):Bw w (Go.Sort.grow (w.drewN k) os):=by
 have h1:(w.drewN k).heap=w.heap:=rfl
 exact⟨rfl,rfl,rfl,by simp[Go.Sort.grow,h1],fun i hi=>by simp[Go.Sort.grow,h1,Array.getElem?_append_left hi]⟩
def iaG (n:Int):ByteArray:=⟨(Lib.itoa n).toArray⟩
theorem ia_szG (n:Int) (h0: -9223372036854775808<=n) (h1:n<=9223372036854775807):(iaG n).size<=21:=by
 have:=Lib.itoa_length_le n h0 h1
 simpa [iaG,ByteArray.size] using this
theorem cItoaG (n:Int) (w:World) (h0: -9223372036854775808<=n) (h1:n<=9223372036854775807) (hG:GT w):CC 90 #[iI n] w (.string (iaG n)):=by
 refine(Tryz.strconv_Itoa n h0 h1 w hG.tab).mono ?_
 rintro e u ⟨rfl,k,os,rfl⟩
 exact⟨rfl,below_growG w k os⟩
section
variable {R:Rg} {P:Program} {Q:Exit->Act->World->Prop} {ops:Array Oper} {i:Nat} {o:Oper}
theorem Ug {T:TypeId} {x:Operand} {vx v:Value} (hr: ∀w,(Instr.makeInterface T vx).run P w= .ok v w) (hop:o.op= .makeInterface T x:=by rfl) (hx:evR R i o x=some vx:=by rfl) (hv:some v=Zw i R.G:=by rfl) (hc:R.chk ops i o=true:=by rfl):OG R P ops Q i o:=
 g_op (fun ev u he=>by
  unfold execOp;rw[hop];simp only[he _ _ hx]
  rw[Sem.run_bind,hr,Result.andThen_ok,Sem.run_pure]) hv hc
end
theorem miEG (n:Int) (w:World):(Instr.makeInterface 31 (iI n)).run Tryz.prog w= .ok (.iface 31 (iI n)) w:=by kernel_rfl
theorem miFG (s:ByteArray) (T:TypeId) (x:Value) (w:World):(Instr.makeInterface 106 (.agg #[.string s,.iface T x])).run Tryz.prog w= .ok (.iface 106 (.agg #[.string s,.iface T x])) w:=by kernel_rfl
theorem bdFlG (s:ByteArray) (T:TypeId) (x:Value) (w:World):(Instr.build 106 [(0,.string s),(1,.iface T x)].toArray).run Tryz.prog w= .ok (.agg #[.string s,.iface T x]) w:=by kernel_rfl
theorem add_stG (p q:Operand) (s t:ByteArray) (w:World) (h:s.size+t.size<=1000):(do eqGuard .add 9 p q (.string s) (.string t);binOp .add 9 (.string s) (.string t):Sem Value).run Tryz.prog w= .ok (.string (s++t)) w:=by
 have h2: ¬9223372036854775807<s.size+t.size:=by omega
 go_simp
theorem Uy (p:Operand) (c:Value) (w:World):(do eqGuard .neq 81 p (.const c) .nilIface .nilIface;binOp .neq 81 .nilIface .nilIface:Sem Value).run Tryz.prog w= .ok (.bool false) w:=by go_simp
theorem Uz (p q:Operand) (T:TypeId) (x:Value) (w:World):(do eqGuard .neq 81 p q (.iface T x) .nilIface;binOp .neq 81 (.iface T x) .nilIface:Sem Value).run Tryz.prog w= .ok (.bool true) w:=by go_simp
theorem lss_z (p q:Operand) (x y:Int) (b:Bool) (w:World) (h:decide (x<y)=b):(do eqGuard .lss 3 p q (iI x) (iI y);binOp .lss 3 (iI x) (iI y):Sem Value).run Tryz.prog w= .ok (.bool b) w:=by
 subst h;go_simp
theorem geq_y (p q:Operand) (x y:Int) (b:Bool) (w:World) (h:decide (y<=x)=b):(do eqGuard .geq 3 p q (iI x) (iI y);binOp .geq 3 (iI x) (iI y):Sem Value).run Tryz.prog w= .ok (.bool b) w:=by
 subst h;go_simp
theorem neq_w8 (p q:Operand) (a b c d e f g h a' b' c' d' e' f' g' h':Int) (w:World):(do eqGuard .neq 73 p q (A8 a b c d e f g h) (A8 a' b' c' d' e' f' g' h');binOp .neq 73 (A8 a b c d e f g h) (A8 a' b' c' d' e' f' g' h'):Sem Value).run Tryz.prog w= .ok (.bool (!eq8 a b c d e f g h a' b' c' d' e' f' g' h')) w:=by
 go_simp
theorem neq_ww (p q:Operand) {n m:Int} (hn:In n) (hm:In m) (b:Bool) (hb:decide (n=m)=!b) (w:World):(do eqGuard .neq 73 p q (WV n) (WV m);binOp .neq 73 (WV n) (WV m):Sem Value).run Tryz.prog w= .ok (.bool b) w:=by
 have e1:D4 n=0:=by unfold D4;exact Int.ediv_eq_zero_of_lt hn.1 hn.2
 have e2:D4 m=0:=by unfold D4;exact Int.ediv_eq_zero_of_lt hm.1 hm.2
 have e3:eq8 (D0 n) (D1 n) (D2 n) (D3 n) (D0 0) (D1 0) (D2 0) (D3 0) (D0 m) (D1 m) (D2 m) (D3 m) (D0 0) (D1 0) (D2 0) (D3 0)=!b:=by
  rw[<-hb,<-eq4_N hn hm];simp[eq8,eq4]
 rw[neq_w8,e1,e2,e3,Bool.not_not]
theorem Xh:EnT 78:=fun _ _=>by kernel_rfl
theorem T5:EnT 90:=fun _ _=>by kernel_rfl
theorem Xp:EnT 55:=fun _ _=>by kernel_rfl
theorem Vy:EnT 89:=fun _ _=>by kernel_rfl
theorem Y8:EnT 70:=fun _ _=>by kernel_rfl
theorem W7:EnT 56:=fun _ _=>by kernel_rfl
def sP1:ByteArray:=⟨#[80,32,105,115,32,111,110,108,121,32]⟩
def sX1:ByteArray:=⟨#[32,105,115,32,110,111,116,32,102,114,111,109,32,49,32,116,111,32,80,32,45,32,49]⟩
def sX2:ByteArray:=⟨#[32,116,111,32,116,104,101,32,81,32,105,115,32,110,111,116,32,49]⟩
def sM2:ByteArray:=⟨#[110,117,109,98,101,114,32]⟩
def grV (p q:Int):Value:=if p<7 then .iface 106 (.agg #[.string (sP1++txG p),(.iface 31 (iI 90))]) else if p%2=0 then .iface 106 (.agg #[.string ⟨#[80,32,105,115,32,101,118,101,110]⟩,(.iface 31 (iI 90))]) else if p/2=q then .nilIface else .iface 106 (.agg #[.string ⟨#[80,32,105,115,32,110,111,116,32,50,32,81,32,97,110,100,32,49]⟩,(.iface 31 (iI 90))])
def mbV (p q x:Int):Value:=if x=0\/p<=x then .iface 106 (.agg #[.string (txG x++sX1),(.iface 31 (iI 90))]) else if x^q.toNat%p=1 then .nilIface else .iface 106 (.agg #[.string (txG x++sX2),(.iface 31 (iI 90))])
theorem group_0 (p q g h c:Int) (re:Value) (w:World) (hp:In p) (hq:In q) (i2:In 2) (iq:In (p/2)) (hC:Hid (∀u,CC 77 #[NV p,NV 7] u (iI c))) (im:In (p%2)) (hR:Hid (re=if decide (c<0) then .iface 106 (.agg #[.string (sP1++txG p),(.iface 31 (iI 90))]) else if decide (p%2=0) then .iface 106 (.agg #[.string ⟨#[80,32,105,115,32,101,118,101,110]⟩,(.iface 31 (iI 90))]) else if decide (p/2=q) then .nilIface else .iface 106 (.agg #[.string ⟨#[80,32,105,115,32,110,111,116,32,50,32,81,32,97,110,100,32,49]⟩,(.iface 31 (iI 90))]))):CC 55 #[GX p q g h] w (re):=by
 go_enter Tryz.func55,Tryz.ntmps55
 go_upto_region 1 with fail
 obtain⟨v0,hC,HB0,K0⟩:=bx1 w (GE (p) (q) (g) (h)) 26
 rw[hC]
 clear hC
 go_upto_region 1 with fail
 refine Rp K0 HB0 [] [(9,3,L0w,some (11,LW (p/2))),(10,4,L0s,some (12,LN (p%2)))] (cG 0 7 [_,_,_,_,_] [(5,6,_),(6,12,_),(7,13,_),(8,14,_),(13,5,_)]) [(11,9),(12,10)] [] [] (oc (g_fd (fdG0 _))<|oc (g_lo 0 0 uN iN)<|oc (g_cl Zg (fun uZ=>Wf p uZ hp))<|oc (g_cl Zk (fun uZ=>nOf 2 uZ (by decide) (by decide)))<|oc (g_cl Vd (fun uZ=>nDivide p 2 uZ hp.wide i2 (by decide)))<|oc g_mv<|oc g_ex<|oc g_ex<|oc g_ex<|oc (g_al 0 aW)<|oc (g_al 1 aN)<|oc (g_sn 0 iW)<|oc (g_sn 1 iN)<|oc g_as on) fun u1 b1_9 b1_10 HB1 _ K1=>?_
 simp only[sQ] at K1⊢
 cases hc:decide (c<0)
 ·skip
  go_upto_region 2 with fail
  refine Rm K1 HB1 (cG 0 16 [_,_,_,_,_] [(5,15,_)]) (oc (g_fd (fdG0 _))<|oc (g_lo 0 0 uN iN)<|oc (g_cl Zk (fun uZ=>nOf 7 uZ (by decide) (by decide)))<|oc (g_cl Yc hC.out)<|oc (g_bn (fun uZ=>lss_z _ _ _ _ _ uZ hc))<|oc g_as on) fun u2 HB2 sz2 K2=>?_
  simp only[sQ] at K2⊢
  cases h2:decide (p%2=0)
  ·skip
   go_upto_region 4 with fail
   refine Rp K2 HB2 [] [] (cG 0 29 [_,_,_] [(3,28,_)]) [] [] [true,true,false] (oc (g_ld 2 uN iN)<|oc (g_bd zN)<|oc (g_bn (eql_0 _ _ im _ h2))<|oc g_as on) fun u3 HB3 sz3 K3=>?_
   simp only[sQ] at K3⊢
   cases h3:decide (p/2=q)
   ·skip
    go_upto_region 6 with fail
    refine Rd K3 HB3 [] [] (cG 0 36 [_,_,_,_,_] [(5,35,_)]) [] [] [false,false] (oc (g_ld 1 uW iW)<|oc (g_fd (fdG1 _))<|oc (g_lo 0 4 uN iN)<|oc (g_cl Zg (fun uZ=>Wf q uZ hq))<|oc (g_bn (neq_ww _ _ iq hq true h3))<|oc g_as on) fun u4 HB4 sz4 K4=>?_
    simp only[sQ] at K4⊢
    go_upto_region 7 with fail
    refine Rn K4 HB4 (cG 0 41 [_,_,_] [(3,2,_)]) (oc (Ug (miEG 90))<|oc (g_bd (bdFlG ⟨#[80,32,105,115,32,110,111,116,32,50,32,81,32,97,110,100,32,49]⟩ _ _))<|oc (Ug (miFG ⟨#[80,32,105,115,32,110,111,116,32,50,32,81,32,97,110,100,32,49]⟩ _ _))<|oc g_as on) fun u5 HB5 sz5 K5=>?_
    simp only[sQ] at K5⊢
    go_wp2
    refine bodyPost_ret (v:= .iface 106 (.agg #[.string ⟨#[80,32,105,115,32,110,111,116,32,50,32,81,32,97,110,100,32,49]⟩,(.iface 31 (iI 90))])) (by simp[results,Tryz.results55,go_sem,]) rfl ⟨by rw[hR.out,hc,h2,h3];rfl,HB5⟩
   ·skip
    go_upto_region 6 with fail
    refine Rd K3 HB3 [] [] (cG 0 36 [_,_,_,_,_] [(5,35,_)]) [] [] [false,false] (oc (g_ld 1 uW iW)<|oc (g_fd (fdG1 _))<|oc (g_lo 0 4 uN iN)<|oc (g_cl Zg (fun uZ=>Wf q uZ hq))<|oc (g_bn (neq_ww _ _ iq hq false h3))<|oc g_as on) fun u4 HB4 sz4 K4=>?_
    simp only[sQ] at K4⊢
    go_upto_region 8 with fail
    refine Rn K4 HB4 [(0,2,_)] (oc g_as on) fun u5 HB5 sz5 K5=>?_
    simp only[sQ] at K5⊢
    go_wp2
    refine bodyPost_ret (v:= .nilIface) (by simp[results,Tryz.results55,go_sem,]) rfl ⟨by rw[hR.out,hc,h2,h3];rfl,HB5⟩
  ·skip
   go_upto_region 4 with fail
   refine Rp K2 HB2 [] [] (cG 0 29 [_,_,_] [(3,28,_)]) [] [] [false,false,false] (oc (g_ld 2 uN iN)<|oc (g_bd zN)<|oc (g_bn (eql_0 _ _ im _ h2))<|oc g_as on) fun u3 HB3 sz3 K3=>?_
   simp only[sQ] at K3⊢
   go_upto_region 5 with fail
   refine Rn K3 HB3 (cG 0 32 [_,_,_] [(3,2,_)]) (oc (Ug (miEG 90))<|oc (g_bd (bdFlG ⟨#[80,32,105,115,32,101,118,101,110]⟩ _ _))<|oc (Ug (miFG ⟨#[80,32,105,115,32,101,118,101,110]⟩ _ _))<|oc g_as on) fun u4 HB4 sz4 K4=>?_
   simp only[sQ] at K4⊢
   go_wp2
   refine bodyPost_ret (v:= .iface 106 (.agg #[.string ⟨#[80,32,105,115,32,101,118,101,110]⟩,(.iface 31 (iI 90))])) (by simp[results,Tryz.results55,go_sem,]) rfl ⟨by rw[hR.out,hc,h2];rfl,HB4⟩
 ·skip
  go_upto_region 2 with fail
  refine Rd K1 HB1 [] [] (cG 0 16 [_,_,_,_,_] [(5,15,_)]) [] [] [true,false,false] (oc (g_fd (fdG0 _))<|oc (g_lo 0 0 uN iN)<|oc (g_cl Zk (fun uZ=>nOf 7 uZ (by decide) (by decide)))<|oc (g_cl Yc hC.out)<|oc (g_bn (fun uZ=>lss_z _ _ _ _ _ uZ hc))<|oc g_as on) fun u2 HB2 sz2 K2=>?_
  simp only[sQ] at K2⊢
  go_upto_region 3 with fail
  refine Rp K2 HB2 [] [] (cG 0 21 [_,_,_,_,_,_,_] [(7,2,_)]) [] [] [false] (oc (g_fd (fdG0 _))<|oc (g_lo 0 0 uN iN)<|oc (g_cl Xh (nTextG p))<|oc (g_bn (fun uZ=>add_stG _ _ sP1 (txG p) uZ (by have:=tx_szG p;have:sP1.size=10:=rfl;omega)))<|oc (Ug (miEG 90))<|oc (g_bd (bdFlG (sP1++txG p) _ _))<|oc (Ug (miFG (sP1++txG p) _ _))<|oc g_as on) fun u3 HB3 sz3 K3=>?_
  simp only[sQ] at K3⊢
  go_wp2
  refine bodyPost_ret (v:= .iface 106 (.agg #[.string (sP1++txG p),(.iface 31 (iI 90))])) (by simp[results,Tryz.results55,go_sem,]) rfl ⟨by rw[hR.out,hc];rfl,HB3⟩
theorem gGroup (p q g h:Int) (w:World) (hp:In p) (hq:In q):CC 55 #[GX p q g h] w (grV p q):=by
 have i2:In 2:=⟨by decide,by decide⟩
 have i7:In 7:=⟨by decide,by decide⟩
 have iq:In (p/2):=by have:=hp.1;have:=hp.2;exact⟨by omega,by omega⟩
 have im:In (p%2):=Zx i2 (by decide)
 have hC:Hid (∀u,CC 77 #[NV p,NV 7] u (iI (cmpI p 7))):=fun u=>nCompare p 7 u hp i7
 refine group_0 p q g h _ _ w hp hq i2 iq hC im ?_
 show grV p q=_
 have hc:decide (cmpI p 7<0)=decide (p<7):=by
  unfold cmpI
  by_cases h1:p<7
  ·rw[if_pos h1,decide_eq_true h1];rfl
  ·rw[if_neg h1,decide_eq_false h1];split<;>rfl
 rw[hc];simp only[grV,decide_eq_true_eq]
theorem grV_is (p q:Int):(gOk p q/\grV p q= .nilIface)\/(¬gOk p q/\EW 90 (grV p q)):=by
 unfold grV gOk
 by_cases h1:p<7
 ·rw[if_pos h1];exact .inr ⟨by omega,.wrap _ _ .leaf⟩
 ·rw[if_neg h1]
  by_cases h2:p%2=0
  ·rw[if_pos h2];exact .inr ⟨by omega,.wrap _ _ .leaf⟩
  ·rw[if_neg h2]
   by_cases h3:p/2=q
   ·rw[if_pos h3];exact .inl ⟨by omega,rfl⟩
   ·rw[if_neg h3];exact .inr ⟨by omega,.wrap _ _ .leaf⟩
end
theorem member_1 (p q g h x c v:Int) (w:World) (hp:In p) (hq:In q) (hx:In x) (h0:decide (x=0)=true):CC 89 #[GX p q g h,NV x] w (.iface 106 (.agg #[.string (txG x++sX1),(.iface 31 (iI 90))])):=by
 go_enter Tryz.func89,Tryz.ntmps89
 go_upto_region 1 with fail
 obtain⟨v0,hC,HB0,K0⟩:=bx2 w (GE (p) (q) (g) (h)) 26 (LN x) 24
 rw[hC]
 clear hC
 refine Rp K0 HB0 [] [] (cG 0 7 [_,_,_,_,undef,undef,undef,undef,undef,_] []) [] [] [false] (oc (g_ld 1 uN iN)<|oc (g_bd zN)<|oc (g_bn (eql_0 _ _ hx _ h0))<|oc g_mv<|oc g_sk<|oc g_sk<|oc g_sk<|oc g_sk<|oc g_sk<|oc g_pk on) fun u1 HB1 _ K1=>?_
 simp only[sQ] at K1⊢
 go_upto_region 2 with fail
 refine Rp K1 HB1 [] [] (cG 0 17 [_,_,_,_,_,_] [(6,4,_)]) [] [] [false] (oc (g_ld 0 uN iN)<|oc (g_cl Xh (nTextG x))<|oc (g_bn (fun uZ=>add_stG _ _ (txG x) sX1 uZ (by have:=tx_szG x;have:sX1.size=23:=rfl;omega)))<|oc (Ug (miEG 90))<|oc (g_bd (bdFlG (txG x++sX1) _ _))<|oc (Ug (miFG (txG x++sX1) _ _))<|oc g_as on) fun u2 HB2 _ K2=>?_
 simp only[sQ] at K2⊢
 go_wp2
 refine bodyPost_ret (v:= .iface 106 (.agg #[.string (txG x++sX1),(.iface 31 (iI 90))])) (by simp[results,Tryz.results89,go_sem,]) rfl ⟨rfl,HB2⟩
theorem member_2 (p q g h x c v:Int) (w:World) (hp:In p) (hq:In q) (hx:In x) (h0:decide (x=0)=false) (hC:Hid (∀u,CC 77 #[NV x,NV p] u (iI c))) (hc:decide (0<=c)=true):CC 89 #[GX p q g h,NV x] w (.iface 106 (.agg #[.string (txG x++sX1),(.iface 31 (iI 90))])):=by
 go_enter Tryz.func89,Tryz.ntmps89
 go_upto_region 1 with fail
 obtain⟨v0,hC,HB0,K0⟩:=bx2 w (GE (p) (q) (g) (h)) 26 (LN x) 24
 rw[hC]
 clear hC
 refine Rp K0 HB0 [] [] (cG 0 7 [_,_,_,_,_,_,_,_,_,_] []) [] [] [false] (oc (g_ld 1 uN iN)<|oc (g_bd zN)<|oc (g_bn (eql_0 _ _ hx _ h0))<|oc g_mv<|oc (g_ld 1 uN iN)<|oc (g_fd (fdG0 _))<|oc (g_lo 0 0 uN iN)<|oc (g_cl Yc hC.out)<|oc (g_bn (fun uZ=>geq_y _ _ _ _ _ uZ hc))<|oc g_pk on) fun u1 HB1 _ K1=>?_
 simp only[sQ] at K1⊢
 go_upto_region 2 with fail
 refine Rp K1 HB1 [] [] (cG 0 17 [_,_,_,_,_,_] [(6,4,_)]) [] [] [false] (oc (g_ld 0 uN iN)<|oc (g_cl Xh (nTextG x))<|oc (g_bn (fun uZ=>add_stG _ _ (txG x) sX1 uZ (by have:=tx_szG x;have:sX1.size=23:=rfl;omega)))<|oc (Ug (miEG 90))<|oc (g_bd (bdFlG (txG x++sX1) _ _))<|oc (Ug (miFG (txG x++sX1) _ _))<|oc g_as on) fun u2 HB2 _ K2=>?_
 simp only[sQ] at K2⊢
 go_wp2
 refine bodyPost_ret (v:= .iface 106 (.agg #[.string (txG x++sX1),(.iface 31 (iI 90))])) (by simp[results,Tryz.results89,go_sem,]) rfl ⟨rfl,HB2⟩
theorem member_3 (p q g h x c v:Int) (w:World) (hp:In p) (hq:In q) (hx:In x) (h0:decide (x=0)=false) (hC:Hid (∀u,CC 77 #[NV x,NV p] u (iI c))) (hc:decide (0<=c)=false) (hE:Hid (∀u,CC 91 #[NV x,NV q,NV p] u (.tuple #[NV v,iI 0]))) (hv:In v) (i1:In 1) (h1:decide (v=1)=!true):CC 89 #[GX p q g h,NV x] w (.iface 106 (.agg #[.string (txG x++sX2),(.iface 31 (iI 90))])):=by
 go_enter Tryz.func89,Tryz.ntmps89
 go_upto_region 1 with fail
 obtain⟨v0,hC,HB0,K0⟩:=bx2 w (GE (p) (q) (g) (h)) 26 (LN x) 24
 rw[hC]
 clear hC
 refine Rn K0 HB0 (cG 0 7 [_,_,_,_,_,_,_,_,_,_] []) (oc (g_ld 1 uN iN)<|oc (g_bd zN)<|oc (g_bn (eql_0 _ _ hx _ h0))<|oc g_mv<|oc (g_ld 1 uN iN)<|oc (g_fd (fdG0 _))<|oc (g_lo 0 0 uN iN)<|oc (g_cl Yc hC.out)<|oc (g_bn (fun uZ=>geq_y _ _ _ _ _ uZ hc))<|oc g_pk on) fun u1 HB1 _ K1=>?_
 simp only[sQ] at K1⊢
 go_upto_region 3 with fail
 refine Rp K1 HB1 [] [(9,5,L0s,some (10,LN v))] (cG 0 24 [_,_,_,_,_,_] [(6,23,_),(7,30,_),(8,31,_),(11,6,_)]) [(10,9)] [] [false] (oc (g_ld 1 uN iN)<|oc (g_fd (fdG1 _))<|oc (g_lo 0 4 uN iN)<|oc (g_fd (fdG0 _))<|oc (g_lo 0 0 uN iN)<|oc (g_cl U4 hE.out)<|oc g_mv<|oc g_ex<|oc g_ex<|oc (g_al 0 aN)<|oc (g_sn 0 iN)<|oc g_as on) fun u2 b2_9 HB2 _ K2=>?_
 simp only[sQ] at K2⊢
 go_upto_region 4 with fail
 refine Rd K2 HB2 [] [] (cG 0 32 [_,_,_] []) [] [] [true,false] (oc (g_ld 1 uN iN)<|oc (g_cl Zk (fun uZ=>nOf 1 uZ (by decide) (by decide)))<|oc (g_bn (neq_n _ _ hv i1 _ h1)) on) fun u3 HB3 _ K3=>?_
 simp only[sQ] at K3⊢
 go_upto_region 5 with fail
 refine Rp K3 HB3 [] [] (cG 0 35 [_,_,_,_,_,_] [(6,4,_)]) [] [] [false] (oc (g_ld 0 uN iN)<|oc (g_cl Xh (nTextG x))<|oc (g_bn (fun uZ=>add_stG _ _ (txG x) sX2 uZ (by have:=tx_szG x;have:sX2.size=18:=rfl;omega)))<|oc (Ug (miEG 90))<|oc (g_bd (bdFlG (txG x++sX2) _ _))<|oc (Ug (miFG (txG x++sX2) _ _))<|oc g_as on) fun u4 HB4 _ K4=>?_
 simp only[sQ] at K4⊢
 go_wp2
 refine bodyPost_ret (v:= .iface 106 (.agg #[.string (txG x++sX2),(.iface 31 (iI 90))])) (by simp[results,Tryz.results89,go_sem,]) rfl ⟨rfl,HB4⟩
theorem member_4 (p q g h x c v:Int) (w:World) (hp:In p) (hq:In q) (hx:In x) (h0:decide (x=0)=false) (hC:Hid (∀u,CC 77 #[NV x,NV p] u (iI c))) (hc:decide (0<=c)=false) (hE:Hid (∀u,CC 91 #[NV x,NV q,NV p] u (.tuple #[NV v,iI 0]))) (hv:In v) (i1:In 1) (h1:decide (v=1)=!false):CC 89 #[GX p q g h,NV x] w (.nilIface):=by
 go_enter Tryz.func89,Tryz.ntmps89
 go_upto_region 1 with fail
 obtain⟨v0,hC,HB0,K0⟩:=bx2 w (GE (p) (q) (g) (h)) 26 (LN x) 24
 rw[hC]
 clear hC
 refine Rn K0 HB0 (cG 0 7 [_,_,_,_,_,_,_,_,_,_] []) (oc (g_ld 1 uN iN)<|oc (g_bd zN)<|oc (g_bn (eql_0 _ _ hx _ h0))<|oc g_mv<|oc (g_ld 1 uN iN)<|oc (g_fd (fdG0 _))<|oc (g_lo 0 0 uN iN)<|oc (g_cl Yc hC.out)<|oc (g_bn (fun uZ=>geq_y _ _ _ _ _ uZ hc))<|oc g_pk on) fun u1 HB1 _ K1=>?_
 simp only[sQ] at K1⊢
 go_upto_region 3 with fail
 refine Rp K1 HB1 [] [(9,5,L0s,some (10,LN v))] (cG 0 24 [_,_,_,_,_,_] [(6,23,_),(7,30,_),(8,31,_),(11,6,_)]) [(10,9)] [] [false,false] (oc (g_ld 1 uN iN)<|oc (g_fd (fdG1 _))<|oc (g_lo 0 4 uN iN)<|oc (g_fd (fdG0 _))<|oc (g_lo 0 0 uN iN)<|oc (g_cl U4 hE.out)<|oc g_mv<|oc g_ex<|oc g_ex<|oc (g_al 0 aN)<|oc (g_sn 0 iN)<|oc g_as on) fun u2 b2_9 HB2 _ K2=>?_
 simp only[sQ] at K2⊢
 go_upto_region 4 with fail
 refine Rd K2 HB2 [] [] (cG 0 32 [_,_,_] []) [] [] [false] (oc (g_ld 0 uN iN)<|oc (g_cl Zk (fun uZ=>nOf 1 uZ (by decide) (by decide)))<|oc (g_bn (neq_n _ _ hv i1 _ h1)) on) fun u3 HB3 _ K3=>?_
 simp only[sQ] at K3⊢
 go_upto_region 6 with fail
 refine Rn K3 HB3 [(0,4,_)] (oc g_as on) fun u4 HB4 _ K4=>?_
 simp only[sQ] at K4⊢
 go_wp2
 refine bodyPost_ret (v:= .nilIface) (by simp[results,Tryz.results89,go_sem,]) rfl ⟨rfl,HB4⟩
theorem cMember (p q g h x:Int) (w:World) (hp:In p) (hq:In q) (hx:In x) (hp0:p≠0):CC 89 #[GX p q g h,NV x] w (mbV p q x):=by
 have hC:Hid (∀u,CC 77 #[NV x,NV p] u (iI (cmpI x p))):=fun u=>nCompare x p u hx hp
 by_cases h0:x=0
 ·rw[show mbV p q x=_ from if_pos (.inl h0)]
  exact member_1 p q g h x 0 0 w hp hq hx (decide_eq_true h0)
 ·by_cases h1:p<=x
  ·have hc:decide (0<=cmpI x p)=true:=by unfold cmpI;rw[if_neg (by omega)];split<;>rfl
   rw[show mbV p q x=_ from if_pos (.inr h1)]
   exact member_2 p q g h x _ 0 w hp hq hx (decide_eq_false h0) hC hc
  ·have hc:decide (0<=cmpI x p)=false:=by unfold cmpI;rw[if_pos (by omega)];rfl
   rw[show mbV p q x=_ from if_neg (by omega)]
   have hE:Hid (∀u,CC 91 #[NV x,NV q,NV p] u (.tuple #[NV (x^q.toNat%p),iI 0])):=fun u=>mExp x q p u hx hq hp hp0
   have i1:In 1:=⟨by decide,by decide⟩
   by_cases h2:x^q.toNat%p=1
   ·rw[if_pos h2]
    exact member_4 p q g h x _ _ w hp hq hx (decide_eq_false h0) hC hc hE (Zx hp hp0) i1 (decide_eq_true h2)
   ·rw[if_neg h2]
    exact member_3 p q g h x _ _ w hp hq hx (decide_eq_false h0) hC hc hE (Zx hp hp0) i1 (decide_eq_false h2)
theorem mbV_is (p q x:Int) (hx:In x):(Mb p q x/\mbV p q x= .nilIface)\/(¬Mb p q x/\EW 90 (mbV p q x)):=by
 have h0:=hx.1
 unfold mbV Mb
 by_cases h1:x=0\/p<=x
 ·rw[if_pos h1];exact .inr ⟨fun h=>by have:=h.1;have:=h.2.1;omega,.wrap _ _ .leaf⟩
 ·rw[if_neg h1]
  by_cases h2:x^q.toNat%p=1
  ·rw[if_pos h2];exact .inl ⟨⟨by omega,by omega,h2⟩,rfl⟩
  ·rw[if_neg h2];exact .inr ⟨fun h=>h2 h.2.2,.wrap _ _ .leaf⟩
theorem members_c (p q g h:Int) (T:TypeId) (x:Value) (sl:Option Addr) (n cap:Nat) (w:World) (hC:Hid (∀u,CC 55 #[GX p q g h] u (.iface T x))):
 CC 70 #[GX p q g h,.slice sl n cap] w (.iface 106 (.agg #[.string ⟨#[103,114,111,117,112]⟩,.iface T x])):=by
 go_enter Tryz.func70,Tryz.ntmps70
 go_upto_region 1 with fail
 obtain⟨v0,hC,HB0,K0⟩:=bx1 w (GE (p) (q) (g) (h)) 26
 rw[hC]
 clear hC
 refine Rp K0 HB0 [] [] [(0,9,_),(1,10,_),(2,5,_)] [] [] [false] (oc (g_ld 0 Tryz.underlying26 Z0)<|oc (g_cl Xp hC.out)<|oc g_as on) fun u1 HB1 _ K1=>?_
 simp only[sQ] at K1⊢
 go_upto_region 2 with fail
 refine Rn K1 HB1 [(0,11,_),(1,12,_)] (oc g_mv<|oc (g_bn (Uz _ _ _ _)) on) fun u2 HB2 _ K2=>?_
 simp only[sQ] at K2⊢
 go_upto_region 3 with fail
 refine Rn K2 HB2 (cG 0 13 [_,_,_] [(3,4,_)]) (oc g_mv<|oc (g_bd (bdFlG ⟨#[103,114,111,117,112]⟩ T x))<|oc (Ug (miFG ⟨#[103,114,111,117,112]⟩ T x))<|oc g_as on) fun u3 HB3 _ K3=>?_
 simp only[sQ] at K3⊢
 go_wp2
 refine bodyPost_ret (v:= .iface 106 (.agg #[.string ⟨#[103,114,111,117,112]⟩,.iface T x])) (by simp[results,Tryz.results70,go_sem,]) rfl ⟨rfl,HB3⟩
theorem members_k (p q g h:Int) (rv:Value) (sl:Option Addr) (gb go cap:Nat) (ns:List Int) (w:World) (hG:GT w) (hns:ns.length<=50) (hp:In p) (hq:In q) (hp0:p≠0) (hn:Hid (∀k,k<ns.length->In (ns.getD k 0))) (hix:Hid (∀j,j<ns.length-> ∀W,(Instr.indexAt 28 (.slice sl ns.length cap) (iI j)).run Tryz.prog W= .ok (.pointer (some ⟨gb,go+4*j,none⟩)) W)) (hg0:ns.length=0\/gb<w.heap.size) (hS:Hid (SN w gb go ns)) (hC:Hid (∀u,CC 55 #[GX p q g h] u (.nilIface)))
 (hE:Hid (∀k,k<ns.length->(∀j,j<k->Mb p q (ns.getD j 0))-> ¬Mb p q (ns.getD k 0)->rv= .iface 106 (.agg #[.string (sM2++iaG (k:Int)),mbV p q (ns.getD k 0)]))) (hE2:Hid ((∀j,j<ns.length->Mb p q (ns.getD j 0))->rv= .nilIface)):
 CC 70 #[GX p q g h,.slice sl ns.length cap] w rv:=by
 go_enter Tryz.func70,Tryz.ntmps70
 go_upto_region 1 with fail
 obtain⟨v0,hC,HB0,K0⟩:=bx1 w (GE (p) (q) (g) (h)) 26
 rw[hC]
 clear hC
 refine Rn K0 HB0 [(0,9,_),(1,10,_),(2,5,_)] (oc (g_ld 0 Tryz.underlying26 Z0)<|oc (g_cl Xp hC.out)<|oc g_as on) fun u1 HB1 _ K1=>?_
 simp only[sQ] at K1⊢
 go_upto_region 2 with fail
 refine Rn K1 HB1 [(0,11,_),(1,12,_)] (oc g_mv<|oc (g_bn (Uy _ _)) on) fun u2 HB2 _ K2=>?_
 simp only[sQ] at K2⊢
 go_upto_region 4 with fail
 refine Rn K2 HB2 (cG 0 16 [_,_,_] []) (oc g_mv<|oc (g_ln Tryz.underlying28)<|oc g_mv on) fun u3 HB3 _ K3=>?_
 simp only[sQ] at K3⊢
 go_wp2_with fail
 go_loopw [18] (fun s18 wr=> ∃(k:Nat),k<=ns.length/\s18=iI (k:Int)/\Hid (∀j,j<k->Mb p q (ns.getD j 0))/\Bw w wr/\CV wr (w.heap.size) (GE (p) (q) (g) (h))/\w.heap.size<wr.heap.size) (fun s18 _=>ns.length -(intOf s18).toNat)
 case atStart=>exact⟨0,by omega,rfl,fun j hj=>absurd hj (by omega),HB3,(K3.cv 0),(K3.lt 0)⟩
 case round=>
  obtain⟨k,hk,rfl,hall,HBr,Kg,lg⟩:=hrel
  by_cases hj:k<ns.length
  ·have hl:decide ((k:Int)<(ns.length:Int))=true:=by simp;omega
   have iy:=hn.out k hj
   have hX:=hix.out k hj
   have hX:Hid _:=hX
   have hR:=hS.out.at k hj
   have hR:Hid _:=hR
   have hlen:(k:Int)<1000:=by omega
   have hev:=hE.out k hj hall.out
   have hev:Hid _:=hev
   have hI:Hid (∀u,CC 89 #[GX p q g h,NV (ns.getD k 0)] u (mbV p q (ns.getD k 0))):=fun u=>cMember p q g h _ u hp hq iy hp0
   have hmb:=mbV_is p q _ iy
   have hall2:Mb p q (ns.getD k 0)->Hid (∀j,j<k+1->Mb p q (ns.getD j 0)):=fun hb j hj2=>by
    by_cases e:j=k
    ·subst e;exact hb
    ·exact hall.out j (by omega)
   rcases hmb with⟨hb,hm⟩ | ⟨hb,hm⟩
   ·have hev2:Hid _:=hall2 hb
    rw[hm] at hI
    clear hm hb hall2 hev
    obtain⟨y,ey⟩: ∃y,ns.getD k 0=y:=⟨_,rfl⟩
    rw[ey] at iy hR hI
    clear ey
    have K3_1:Bk w.heap.size wr [(false,w.heap.size,GE (p) (q) (g) (h))]:=⟨.c lg Kg<|trivial,by simp⟩
    go_upto_region 5 with fail
    refine Rn K3_1 HBr [(0,19,_)] (oc (g_bn (fun uZ=>lss_z _ _ (k:Int) (ns.length:Int) _ uZ hl)) on) fun u4 HB4 sz4 K4=>?_
    simp only[sQ] at K4⊢
    go_upto_region 6 with fail
    refine Rp K4 HB4 [] [(3,7,L0s,some (5,LN y))] (cG 0 20 [_,_,_] [(4,6,_)]) [(5,3)] [] [] (oc g_mv<|oc (g_ix hX.out)<|oc (g_lf hR.out (hg0.resolve_left (by omega)) uN iN)<|oc (g_al 0 aN)<|oc g_as<|oc (g_sn 0 iN) on) fun u5 b5_3 HB5 sz5 K5=>?_
    simp only[sQ] at K5⊢
    go_upto_region 7 with fail
    refine Rp K5 HB5 [] [] (cG 0 23 [_,_,_] [(3,8,_)]) [] [] [true,false] (oc (g_ld 0 Tryz.underlying26 Z0)<|oc (g_ld 1 uN iN)<|oc (g_cl Vy hI.out)<|oc g_as on) fun u6 HB6 sz6 K6=>?_
    simp only[sQ] at K6⊢
    go_upto_region 8 with fail
    refine Rn K6 HB6 [(0,26,_),(1,27,_)] (oc g_mv<|oc (g_bn (Uy _ _)) on) fun u7 HB7 sz7 K7=>?_
    simp only[sQ] at K7⊢
    go_upto_region 10 with fail
    refine Rp K7 HB7 [] [] [(0,34,_),(1,18,_)] [(1,0)] [(1,18)] [] (oc (g_bn (fun uZ=>Zr _ _ (k:Int) 1 ((k+1:Nat):Int) uZ (by omega) (by omega) (by omega)))<|oc g_mv on) fun u8 HB8 sz8 K8=>?_
    simp only[sQ] at K8⊢
    go_wp2
    refine⟨⟨k+1,by omega,rfl,hev2,HB8,(K8.cv 0),(K8.lt 0)⟩,?_⟩
    simp[intOf]<;>omega
   ·have hev2:=hev.out hb
    obtain⟨T,x,ex⟩:=hm.some
    rw[ex] at hI hev2
    have hev2:Hid _:=hev2
    clear hm hb hall2 hev ex
    obtain⟨y,ey⟩: ∃y,ns.getD k 0=y:=⟨_,rfl⟩
    rw[ey] at iy hR hI
    clear ey
    have K3_1:Bk w.heap.size wr [(false,w.heap.size,GE (p) (q) (g) (h))]:=⟨.c lg Kg<|trivial,by simp⟩
    go_upto_region 5 with fail
    refine Rn K3_1 HBr [(0,19,_)] (oc (g_bn (fun uZ=>lss_z _ _ (k:Int) (ns.length:Int) _ uZ hl)) on) fun u4 HB4 sz4 K4=>?_
    simp only[sQ] at K4⊢
    go_upto_region 6 with fail
    refine Rp K4 HB4 [] [(3,7,L0s,some (5,LN y))] (cG 0 20 [_,_,_] [(4,6,_)]) [(5,3)] [] [] (oc g_mv<|oc (g_ix hX.out)<|oc (g_lf hR.out (hg0.resolve_left (by omega)) uN iN)<|oc (g_al 0 aN)<|oc g_as<|oc (g_sn 0 iN) on) fun u5 b5_3 HB5 sz5 K5=>?_
    simp only[sQ] at K5⊢
    go_upto_region 7 with fail
    refine Rp K5 HB5 [] [] (cG 0 23 [_,_,_] [(3,8,_)]) [] [] [false,false] (oc (g_ld 0 Tryz.underlying26 Z0)<|oc (g_ld 1 uN iN)<|oc (g_cl Vy hI.out)<|oc g_as on) fun u6 HB6 sz6 K6=>?_
    simp only[sQ] at K6⊢
    go_upto_region 8 with fail
    refine Rn K6 HB6 [(0,26,_),(1,27,_)] (oc g_mv<|oc (g_bn (Uz _ _ _ _)) on) fun u7 HB7 sz7 K7=>?_
    simp only[sQ] at K7⊢
    go_upto_region 9 with fail
    refine Rn K7 HB7 (cG 0 28 [_,_,_,_,_,_] [(6,4,_)]) (oc g_mv<|oc (g_cb T5 (fun uZ bZ=>cItoaG (k:Int) uZ (by omega) (by omega) (hG.below bZ)))<|oc (g_bn (fun uZ=>add_stG _ _ sM2 (iaG (k:Int)) uZ (by have:=ia_szG (k:Int) (by omega) (by omega);have:sM2.size=7:=rfl;omega)))<|oc g_mv<|oc (g_bd (bdFlG (sM2++iaG (k:Int)) T x))<|oc (Ug (miFG (sM2++iaG (k:Int)) T x))<|oc g_as on) fun u8 HB8 sz8 K8=>?_
    simp only[sQ] at K8⊢
    have hev2:=hev2.out
    subst hev2
    go_wp2
    refine bodyPost_ret (v:= .iface 106 (.agg #[.string (sM2++iaG (k:Int)),.iface T x])) (by simp[results,Tryz.results70,go_sem,]) rfl ⟨rfl,HB8⟩
  ·have hl:decide ((k:Int)<(ns.length:Int))=false:=by simp;omega
   have hkn:k=ns.length:=by omega
   have hrv:=hE2.out (by rw[<-hkn];exact hall.out)
   clear hkn
   subst hrv
   have K3_1:Bk w.heap.size wr [(false,w.heap.size,GE (p) (q) (g) (h))]:=⟨.c lg Kg<|trivial,by simp⟩
   go_upto_region 5 with fail
   refine Rp K3_1 HBr [] [] [(0,19,_)] [] [] [false] (oc (g_bn (fun uZ=>lss_z _ _ (k:Int) (ns.length:Int) _ uZ hl)) on) fun u4 HB4 sz4 K4=>?_
   simp only[sQ] at K4⊢
   go_upto_region 11 with fail
   refine Rn K4 HB4 [(0,4,_)] (oc g_as on) fun u5 HB5 sz5 K5=>?_
   simp only[sQ] at K5⊢
   go_wp2
   refine bodyPost_ret (v:= .nilIface) (by simp[results,Tryz.results70,go_sem,]) rfl ⟨rfl,HB5⟩
theorem first_no (P:Nat->Prop): ∀n:Nat,(∀j,j<n->P j)\/ ∃k,k<n/\(∀j,j<k->P j)/\ ¬P k
 | 0=>.inl fun j hj=>absurd hj (by omega)
 | n+1=>by
  rcases first_no P n with h | ⟨k,h1,h2,h3⟩
  ·by_cases e:P n
   ·exact .inl fun j hj=>by
     by_cases ej:j=n
     ·subst ej;exact e
     ·exact h j (by omega)
   ·exact .inr ⟨n,by omega,h,e⟩
  ·exact .inr ⟨k,by omega,h2,h3⟩
theorem cMembers (p q g h:Int) (ns:List Int) (hns:ns.length<=50) (hp:In p) (hq:In q) (hn: ∀k,k<ns.length->In (ns.getD k 0)):
 ∃v,((mlB p q ns=true/\v= .nilIface)\/(mlB p q ns=false/\EW 90 v))/\ ∀(y:Value) (w:World),GT w->NL w y ns->CC 70 #[GX p q g h,y] w v:=by
 have hC:=fun u=>gGroup p q g h u hp hq
 have hgd: ∀k,k<ns.length->ns.getD k 0∈ns:=fun k hk=>by
  rw[List.getD_eq_getElem?_getD,List.getElem?_eq_getElem hk];exact List.getElem_mem hk
 rcases grV_is p q with⟨hg,he⟩ | ⟨hg,he⟩
 ·rw[he] at hC
  have h7:=hg.2
  have hix: ∀(sl:Option Addr) (gb go cap:Nat),(ns=[]\/sl=some ⟨gb,go,none⟩)->Hid (∀j,j<ns.length-> ∀W,(Instr.indexAt 28 (.slice sl ns.length cap) (iI j)).run Tryz.prog W= .ok (.pointer (some ⟨gb,go+4*j,none⟩)) W):=fun sl gb go cap hsl j hj W=>by
   have e:=hsl.resolve_left (fun e=>by subst e;simp at hj)
   subst e
   exact ixS gb go ns.length cap j hj W
  rcases first_no (fun j=>Mb p q (ns.getD j 0)) ns.length with ha | ⟨k,h1,h2,h3⟩
  ·refine⟨.nilIface,.inl ⟨?_,rfl⟩,fun y w hG hy=>?_⟩
   ·unfold mlB
    rw[Bool.and_eq_true,decide_eq_true_iff,List.all_eq_true]
    refine⟨hg,fun x hx=>?_⟩
    obtain⟨j,hj,rfl⟩:=List.mem_iff_getElem.1 hx
    have:=ha j hj
    rw[List.getD_eq_getElem?_getD,List.getElem?_eq_getElem hj] at this
    exact decide_eq_true ⟨hg,this⟩
   ·obtain⟨sl,gb,go,cap,rfl,_,_,hsl,hg0,hS⟩:=hy
    exact members_k p q g h _ sl gb go cap ns w hG hns hp hq (by omega) hn (hix sl gb go cap hsl) hg0 hS hC (fun k hk _ hb=>absurd (ha k hk) hb) (fun _=>rfl)
  ·have iy:=hn k h1
   have hb2:isB p q (ns.getD k 0)=false:=decide_eq_false fun h=>h3 h.2
   refine⟨.iface 106 (.agg #[.string (sM2++iaG (k:Int)),mbV p q (ns.getD k 0)]),.inr ⟨?_,.wrap _ _ ((mbV_is p q _ iy).resolve_left fun h=>h3 h.1).2⟩,fun y w hG hy=>?_⟩
   ·unfold mlB
    rw[Bool.and_eq_false_iff]
    refine .inr ?_
    rw[List.all_eq_false]
    exact⟨_,hgd k h1,by rw[hb2];decide⟩
   ·obtain⟨sl,gb,go,cap,rfl,_,_,hsl,hg0,hS⟩:=hy
    refine members_k p q g h _ sl gb go cap ns w hG hns hp hq (by omega) hn (hix sl gb go cap hsl) hg0 hS hC (fun k' hk' ha hb=>?_) (fun ha=>absurd (ha k h1) h3)
    have:k'=k:=by
     rcases Nat.lt_trichotomy k' k with e | e | e
     ·exact absurd (h2 k' e) hb
     ·exact e
     ·exact absurd (ha k e) h3
    subst this;rfl
 ·obtain⟨T,x,ex⟩:=he.some
  rw[ex] at hC he
  refine⟨_,.inr ⟨?_,.wrap ⟨#[103,114,111,117,112]⟩ _ he⟩,fun y w hG hy=>?_⟩
  ·unfold mlB;rw[decide_eq_false hg];rfl
  ·obtain⟨sl,gb,go,cap,rfl,_,_,hsl,hg0,hS⟩:=hy
   exact members_c p q g h T x sl _ cap w hC
theorem Wy:EnT 71:=fun _ _=>by kernel_rfl
theorem Vf:EnT 72:=fun _ _=>by kernel_rfl
theorem cPower (p q g h x e:Int) (w:World) (hp:In p) (hq:In q) (hx:In x) (he:In e) (hp0:p≠0) (hq0:q≠0):
 CC 71 #[GX p q g h,NV x,NV e] w (NV (x^(e%q).toNat%p)):=by
 go_enter Tryz.func71,Tryz.ntmps71
 go_upto_region 1 with fail
 obtain⟨v0,hC,HB0,K0⟩:=bx4 w (GE (p) (q) (g) (h)) 26 (LN x) 24 (LN e) 24 L0s 24
 rw[hC]
 clear hC
 refine Rd K0 HB0 [.no,.no,.all 8 (LN (e%q))] [] (cG 0 10 [_,_,_,_,_] [(5,9,_),(6,15,_),(7,16,_)]) [(8,0)] [] [] (oc (g_ld 2 uN iN)<|oc (g_cl Zg (fun uZ=>Wf e uZ he))<|oc (g_fd (fdG1 _))<|oc (g_lo 0 4 uN iN)<|oc (g_cl Zi (fun uZ=>Xl e q uZ he.wide hq hq0))<|oc g_mv<|oc g_ex<|oc g_ex<|oc (g_st 2 iN) on) fun u1 HB1 _ K1=>?_
 simp only[sQ] at K1⊢
 go_upto_region 2 with fail
 refine Rp K1 HB1 [] [(8,7,L0s,some (9,LN (x^(e%q).toNat%p)))] (cG 0 18 [_,_,_,_,_] [(5,17,_),(6,23,_),(7,24,_),(10,8,_)]) [(9,8)] [] [false,false,false] (oc (g_ld 1 uN iN)<|oc (g_ld 2 uN iN)<|oc (g_fd (fdG0 _))<|oc (g_lo 0 0 uN iN)<|oc (g_cl U4 (fun uZ=>mExp x (e%q) p uZ hx (Zx hq hq0) hp hp0))<|oc g_mv<|oc g_ex<|oc g_ex<|oc (g_al 0 aN)<|oc (g_sn 0 iN)<|oc g_as on) fun u2 b2_8 HB2 _ K2=>?_
 simp only[sQ] at K2⊢
 go_upto_region 3 with fail
 refine Rp K2 HB2 [.all 1 (LN (x^(e%q).toNat%p))] [] [(0,25,_)] [] [] [true,false] (oc (g_ld 1 uN iN)<|oc (g_st 0 iN) on) fun u3 HB3 _ K3=>?_
 simp only[sQ] at K3⊢
 have c6:=(K3.cv 0).n4
 go_wp2
 refine bodyPost_ret (v:=NV (x^(e%q).toNat%p)) (by simp[results,Tryz.results71,go_sem,c6]) rfl ⟨rfl,HB3⟩
theorem product_core (p q g h c:Int) (sl:Option Addr) (n cap:Nat) (w:World) (hP:Hid (∀u,Bw w u->CC 92 #[NV p,.slice sl n cap] u (.tuple #[NV c,iI 0]))):
 CC 72 #[GX p q g h,.slice sl n cap] w (NV c):=by
 go_enter Tryz.func72,Tryz.ntmps72
 go_upto_region 1 with fail
 obtain⟨v0,hC,HB0,K0⟩:=bx2 w (GE (p) (q) (g) (h)) 26 L0s 24
 rw[hC]
 clear hC
 refine Rp K0 HB0 [] [(7,5,L0s,some (8,LN c))] (cG 0 8 [_,_,_,_] [(4,7,_),(5,12,_),(6,13,_),(9,6,_)]) [(8,7)] [] [false] (oc (g_fd (fdG0 _))<|oc (g_lo 0 0 uN iN)<|oc g_mv<|oc (g_cb ent_mod_Product hP.out)<|oc g_mv<|oc g_ex<|oc g_ex<|oc (g_al 0 aN)<|oc (g_sn 0 iN)<|oc g_as on) fun u1 b1_7 HB1 _ K1=>?_
 simp only[sQ] at K1⊢
 go_upto_region 2 with fail
 refine Rp K1 HB1 [.all 1 (LN c)] [] [(0,14,_)] [] [] [true,false] (oc (g_ld 1 uN iN)<|oc (g_st 0 iN) on) fun u2 HB2 _ K2=>?_
 simp only[sQ] at K2⊢
 have c4:=(K2.cv 0).n4
 go_wp2
 refine bodyPost_ret (v:=NV c) (by simp[results,Tryz.results72,go_sem,c4]) rfl ⟨rfl,HB2⟩
def prN (p:Int) (ns:List Int):Int:=gat (fun a b=>(a*b)%p) (1%p) ns ns.length
theorem cProduct (p q g h:Int) (ns:List Int) (y:Value) (w:World) (hns:ns.length<=50) (hp:In p) (hp0:p≠0) (hn: ∀k,k<ns.length->In (ns.getD k 0)) (hy:NL w y ns):
 CC 72 #[GX p q g h,y] w (NV (prN p ns)):=by
 obtain⟨sl,gb,go,cap,rfl,_,_,hsl,hg0,hS⟩:=hy
 refine product_core p q g h _ sl _ cap w fun u hB=>?_
 refine mProduct p sl gb go cap ns u hns hp hp0 hn (fun j hj W=>?_) (hg0.imp id fun e=>Nat.lt_of_lt_of_le e hB.size) (SN.below2 hS hB hg0)
 have e:=hsl.resolve_left (fun e=>by subst e;simp at hj)
 subst e
 exact ixS gb go ns.length cap j hj W
theorem exp_n (p q g h x e:Int) (T:TypeId) (xv:Value) (w:World) (hM:Hid (∀u y,Bw w u->N1x x u y->CC 70 #[GX p q g h,y] u (.iface T xv)))(hT:Hid (∀u,Bw w u->CC 56 #[.iface T xv] u (iI 90))):
 CC 49 #[GX p q g h,NV x,NV e] w (.tuple #[A4 0 0 0 0,iI 90]):=by
 go_enter Tryz.func49,Tryz.ntmps49
 go_upto_region 1 with fail
 obtain⟨v0,hC,HB0,K0⟩:=bx4 w (GE (p) (q) (g) (h)) 26 (LN x) 24 (LN e) 24 L0s 24
 rw[hC]
 clear hC
 refine Rf K0 HB0 [] [] [(0,9,_),(1,10,_),(3,12,_),(4,8,_)] [] [] [⟨2,11,some 3,N1x x⟩] [false,false,false] (oc (g_ld 0 Tryz.underlying26 Z0)<|oc (g_ld 1 uN iN)<|oc (g_bR 0 (N1x x) [0] [NV x] (flN [x]) (bsNx1 x) (fun u hu=>inNx1 x u))<|oc (g_c2 0 (N1x x) Y8 (fun uZ yZ bZ hZ=>hM.out uZ yZ bZ hZ))<|oc g_as on) fun u1 v1_2 hv1_2 HB1 _ K1=>?_
 simp only[sQ] at K1⊢
 go_upto_region 2 with fail
 refine Rn K1 HB1 [(0,13,_),(1,14,_)] (oc g_mv<|oc (g_bn (Uz _ _ _ _)) on) fun u2 HB2 _ K2=>?_
 simp only[sQ] at K2⊢
 go_upto_region 3 with fail
 refine Rp K2 HB2 [.all 3 ([iU (0),iU (0),iU (0),iU (0)])] [] (cG 0 15 [_,_,_] [(4,7,_)]) [] [] [] (oc (g_bd zN)<|oc g_mv<|oc (g_cb W7 hT.out)<|oc (g_st 0 iN)<|oc g_as on) fun u3 HB3 _ K3=>?_
 simp only[sQ] at K3⊢
 have c6:=(K3.cv 0).n4
 go_wp2
 refine bodyPost_ret (v:= .tuple #[A4 0 0 0 0,iI 90]) (by simp[results,Tryz.results49,go_sem,c6]) rfl ⟨rfl,HB3⟩
theorem mulG_n (p q g h:Int) (sl:Option Addr) (n cap:Nat) (T:TypeId) (xv:Value) (w:World) (hM:Hid (∀u,Bw w u->CC 70 #[GX p q g h,.slice sl n cap] u (.iface T xv)))(hT:Hid (∀u,Bw w u->CC 56 #[.iface T xv] u (iI 90))):
 CC 60 #[GX p q g h,.slice sl n cap] w (.tuple #[A4 0 0 0 0,iI 90]):=by
 go_enter Tryz.func60,Tryz.ntmps60
 go_upto_region 1 with fail
 obtain⟨v0,hC,HB0,K0⟩:=bx2 w (GE (p) (q) (g) (h)) 26 L0s 24
 rw[hC]
 clear hC
 refine Rp K0 HB0 [] [] (cG 0 7 [_,_,_] [(3,6,_)]) [] [] [false] (oc (g_ld 0 Tryz.underlying26 Z0)<|oc g_mv<|oc (g_cb Y8 hM.out)<|oc g_as on) fun u1 HB1 _ K1=>?_
 simp only[sQ] at K1⊢
 go_upto_region 2 with fail
 refine Rn K1 HB1 [(0,10,_),(1,11,_)] (oc g_mv<|oc (g_bn (Uz _ _ _ _)) on) fun u2 HB2 _ K2=>?_
 simp only[sQ] at K2⊢
 go_upto_region 3 with fail
 refine Rp K2 HB2 [.all 3 ([iU (0),iU (0),iU (0),iU (0)])] [] (cG 0 12 [_,_,_] [(4,5,_)]) [] [] [] (oc (g_bd zN)<|oc g_mv<|oc (g_cb W7 hT.out)<|oc (g_st 0 iN)<|oc g_as on) fun u3 HB3 _ K3=>?_
 simp only[sQ] at K3⊢
 have c4:=(K3.cv 0).n4
 go_wp2
 refine bodyPost_ret (v:= .tuple #[A4 0 0 0 0,iI 90]) (by simp[results,Tryz.results60,go_sem,c4]) rfl ⟨rfl,HB3⟩
theorem com_n (p q g h s t:Int) (T:TypeId) (xv:Value) (w:World) (hM:Hid (∀u y,Bw w u->N2 g h u y->CC 70 #[GX p q g h,y] u (.iface T xv)))(hT:Hid (∀u,Bw w u->CC 56 #[.iface T xv] u (iI 90))):
 CC 50 #[GX p q g h,NV s,NV t] w (.tuple #[A4 0 0 0 0,iI 90]):=by
 go_enter Tryz.func50,Tryz.ntmps50
 go_upto_region 1 with fail
 obtain⟨v0,hC,HB0,K0⟩:=bx4 w (GE (p) (q) (g) (h)) 26 (LN s) 24 (LN t) 24 L0s 24
 rw[hC]
 clear hC
 refine Rf K0 HB0 [] [] (cG 0 9 [_,_,_,_,_] [(6,15,_),(7,8,_)]) [] [] [⟨5,14,some 6,N2 g h⟩] [false,false,false] (oc (g_ld 0 Tryz.underlying26 Z0)<|oc (g_fd (fdG2 _))<|oc (g_lo 0 8 uN iN)<|oc (g_fd (fdG3 _))<|oc (g_lo 0 12 uN iN)<|oc (g_bR 0 (N2 g h) [0,1] [NV g,NV h] (flN [g,h]) (bsN2 g h) (fun u hu=>inN2 g h u))<|oc (g_c2 0 (N2 g h) Y8 (fun uZ yZ bZ hZ=>hM.out uZ yZ bZ hZ))<|oc g_as on) fun u1 v1_5 hv1_5 HB1 _ K1=>?_
 simp only[sQ] at K1⊢
 go_upto_region 2 with fail
 refine Rn K1 HB1 [(0,16,_),(1,17,_)] (oc g_mv<|oc (g_bn (Uz _ _ _ _)) on) fun u2 HB2 _ K2=>?_
 simp only[sQ] at K2⊢
 go_upto_region 3 with fail
 refine Rp K2 HB2 [.all 3 ([iU (0),iU (0),iU (0),iU (0)])] [] (cG 0 18 [_,_,_] [(4,7,_)]) [] [] [] (oc (g_bd zN)<|oc g_mv<|oc (g_cb W7 hT.out)<|oc (g_st 0 iN)<|oc g_as on) fun u3 HB3 _ K3=>?_
 simp only[sQ] at K3⊢
 have c6:=(K3.cv 0).n4
 go_wp2
 refine bodyPost_ret (v:= .tuple #[A4 0 0 0 0,iI 90]) (by simp[results,Tryz.results50,go_sem,c6]) rfl ⟨rfl,HB3⟩
theorem exp_k (p q g h x e r:Int) (w:World) (hM:Hid (∀u y,Bw w u->N1x x u y->CC 70 #[GX p q g h,y] u (.nilIface)))(hP:Hid (∀u,Bw w u->CC 71 #[GX p q g h,NV x,NV e] u (NV r))):
 CC 49 #[GX p q g h,NV x,NV e] w (.tuple #[NV r,iI 0]):=by
 go_enter Tryz.func49,Tryz.ntmps49
 go_upto_region 1 with fail
 obtain⟨v0,hC,HB0,K0⟩:=bx4 w (GE (p) (q) (g) (h)) 26 (LN x) 24 (LN e) 24 L0s 24
 rw[hC]
 clear hC
 refine Rf K0 HB0 [] [] [(0,9,_),(1,10,_),(3,12,_),(4,8,_)] [] [] [⟨2,11,some 3,N1x x⟩] [] (oc (g_ld 0 Tryz.underlying26 Z0)<|oc (g_ld 1 uN iN)<|oc (g_bR 0 (N1x x) [0] [NV x] (flN [x]) (bsNx1 x) (fun u hu=>inNx1 x u))<|oc (g_c2 0 (N1x x) Y8 (fun uZ yZ bZ hZ=>hM.out uZ yZ bZ hZ))<|oc g_as on) fun u1 v1_2 hv1_2 HB1 _ K1=>?_
 simp only[sQ] at K1⊢
 go_upto_region 2 with fail
 refine Rn K1 HB1 [(0,13,_),(1,14,_)] (oc g_mv<|oc (g_bn (Uy _ _)) on) fun u2 HB2 _ K2=>?_
 simp only[sQ] at K2⊢
 go_upto_region 4 with fail
 refine Rp K2 HB2 [.no,.no,.no,.all 4 (LN r)] [] (cG 0 18 [_,_,_,_] [(5,7,_)]) [] [] [false,false,false] (oc (g_ld 0 Tryz.underlying26 Z0)<|oc (g_ld 1 uN iN)<|oc (g_ld 2 uN iN)<|oc (g_cb Wy hP.out)<|oc (g_st 3 iN)<|oc g_as on) fun u3 HB3 _ K3=>?_
 simp only[sQ] at K3⊢
 have c6:=(K3.cv 0).n4
 go_wp2
 refine bodyPost_ret (v:= .tuple #[NV r,iI 0]) (by simp[results,Tryz.results49,go_sem,c6]) rfl ⟨rfl,HB3⟩
theorem mulG_k (p q g h r:Int) (sl:Option Addr) (n cap:Nat) (w:World) (hM:Hid (∀u,Bw w u->CC 70 #[GX p q g h,.slice sl n cap] u (.nilIface)))(hP:Hid (∀u,Bw w u->CC 72 #[GX p q g h,.slice sl n cap] u (NV r))):
 CC 60 #[GX p q g h,.slice sl n cap] w (.tuple #[NV r,iI 0]):=by
 go_enter Tryz.func60,Tryz.ntmps60
 go_upto_region 1 with fail
 obtain⟨v0,hC,HB0,K0⟩:=bx2 w (GE (p) (q) (g) (h)) 26 L0s 24
 rw[hC]
 clear hC
 refine Rn K0 HB0 (cG 0 7 [_,_,_] [(3,6,_)]) (oc (g_ld 0 Tryz.underlying26 Z0)<|oc g_mv<|oc (g_cb Y8 hM.out)<|oc g_as on) fun u1 HB1 _ K1=>?_
 simp only[sQ] at K1⊢
 go_upto_region 2 with fail
 refine Rn K1 HB1 [(0,10,_),(1,11,_)] (oc g_mv<|oc (g_bn (Uy _ _)) on) fun u2 HB2 _ K2=>?_
 simp only[sQ] at K2⊢
 go_upto_region 4 with fail
 refine Rp K2 HB2 [.no,.all 3 (LN r)] [] (cG 0 15 [_,_,_] [(4,5,_)]) [] [] [false] (oc (g_ld 0 Tryz.underlying26 Z0)<|oc g_mv<|oc (g_cb Vf hP.out)<|oc (g_st 1 iN)<|oc g_as on) fun u3 HB3 _ K3=>?_
 simp only[sQ] at K3⊢
 have c4:=(K3.cv 0).n4
 go_wp2
 refine bodyPost_ret (v:= .tuple #[NV r,iI 0]) (by simp[results,Tryz.results60,go_sem,c4]) rfl ⟨rfl,HB3⟩
theorem com_k (p q g h s t a b r:Int) (w:World) (hM:Hid (∀u y,Bw w u->N2 g h u y->CC 70 #[GX p q g h,y] u (.nilIface)))(hP:Hid (∀u,Bw w u->CC 71 #[GX p q g h,NV g,NV s] u (NV a)))(hQ:Hid (∀u,Bw w u->CC 71 #[GX p q g h,NV h,NV t] u (NV b)))(hR:Hid (∀u y,Bw w u->N2 a b u y->CC 72 #[GX p q g h,y] u (NV r))):
 CC 50 #[GX p q g h,NV s,NV t] w (.tuple #[NV r,iI 0]):=by
 go_enter Tryz.func50,Tryz.ntmps50
 go_upto_region 1 with fail
 obtain⟨v0,hC,HB0,K0⟩:=bx4 w (GE (p) (q) (g) (h)) 26 (LN s) 24 (LN t) 24 L0s 24
 rw[hC]
 clear hC
 refine Rf K0 HB0 [] [] (cG 0 9 [_,_,_,_,_] [(6,15,_),(7,8,_)]) [] [] [⟨5,14,some 6,N2 g h⟩] [] (oc (g_ld 0 Tryz.underlying26 Z0)<|oc (g_fd (fdG2 _))<|oc (g_lo 0 8 uN iN)<|oc (g_fd (fdG3 _))<|oc (g_lo 0 12 uN iN)<|oc (g_bR 0 (N2 g h) [0,1] [NV g,NV h] (flN [g,h]) (bsN2 g h) (fun u hu=>inN2 g h u))<|oc (g_c2 0 (N2 g h) Y8 (fun uZ yZ bZ hZ=>hM.out uZ yZ bZ hZ))<|oc g_as on) fun u1 v1_5 hv1_5 HB1 _ K1=>?_
 simp only[sQ] at K1⊢
 go_upto_region 2 with fail
 refine Rn K1 HB1 [(0,16,_),(1,17,_)] (oc g_mv<|oc (g_bn (Uy _ _)) on) fun u2 HB2 _ K2=>?_
 simp only[sQ] at K2⊢
 go_upto_region 4 with fail
 refine Re K2 HB2 [.no,.no,.no,.all 13 (LN r)] [] (cG 0 21 [_,_,_,_,_,_,_,_,_,_,_] [(12,33,_),(14,7,_)]) [] [] [⟨11,32,some 12,N2 a b⟩] [false,false,false] (oc (g_ld 0 Tryz.underlying26 Z0)<|oc (g_ld 0 Tryz.underlying26 Z0)<|oc (g_fd (fdG2 _))<|oc (g_lo 0 8 uN iN)<|oc (g_ld 1 uN iN)<|oc (g_cb Wy hP.out)<|oc (g_ld 0 Tryz.underlying26 Z0)<|oc (g_fd (fdG3 _))<|oc (g_lo 0 12 uN iN)<|oc (g_ld 2 uN iN)<|oc (g_cb Wy hQ.out)<|oc (g_bR 0 (N2 a b) [0,1] [NV a,NV b] (flN [a,b]) (bsN2 a b) (fun u hu=>inN2 a b u))<|oc (g_c2 0 (N2 a b) Vf (fun uZ yZ bZ hZ=>hR.out uZ yZ bZ hZ))<|oc (g_st 3 iN)<|oc g_as on) fun u3 v3_11 hv3_11 HB3 _ K3=>?_
 simp only[sQ] at K3⊢
 have c6:=(K3.cv 0).n4
 go_wp2
 refine bodyPost_ret (v:= .tuple #[NV r,iI 0]) (by simp[results,Tryz.results50,go_sem,c6]) rfl ⟨rfl,HB3⟩
theorem ml_1 (p q x:Int):mlB p q [x]=isB p q x:=by
 unfold mlB isB
 rw[Bool.eq_iff_iff]
 simp[isB]
theorem ml_2 (p q x y:Int):mlB p q [x,y]=(isB p q x&&isB p q y):=by
 unfold mlB isB
 rw[Bool.eq_iff_iff]
 simp[isB]
 grind
theorem In_1s {x:Int} (hx:In x): ∀k,k<[x].length->In ([x].getD k 0):=fun k hk=>by
 simp at hk;subst hk;exact hx
theorem In_2s {x y:Int} (hx:In x) (hy:In y): ∀k,k<[x,y].length->In ([x,y].getD k 0):=fun k hk=>by
 simp at hk
 match k,hk with
 | 0,_=>exact hx
 | 1,_=>exact hy
theorem cExpG (p q g h x e:Int) (w:World) (hG:GT w) (hp:In p) (hq:In q) (hx:In x) (he:In e):CC 49 #[GX p q g h,NV x,NV e] w (.tuple #[NV (exPX p q x e),iI (exPE p q x)]):=by
 obtain⟨v,hv,hM⟩:=cMembers p q g h [x] (by simp) hp hq (In_1s hx)
 rw[ml_1] at hv
 unfold exPX exPE
 rcases hv with⟨h1,rfl⟩ | ⟨h1,h2⟩
 ·have h3:=(isB_t h1).1.q3
  have h7:=(isB_t h1).1.2
  rw[h1,if_pos rfl,if_pos rfl];exact exp_k p q g h x e _ w (fun u y hB hy=>hM y u (hG.below hB) hy) (fun u _=>cPower p q g h x e u hp hq hx he (by omega) (by omega))
 ·obtain⟨T,xv,rfl⟩:=h2.some
  rw[h1,if_neg (by decide),if_neg (by decide),NV_0];exact exp_n p q g h x e T xv w (fun u y hB hy=>hM y u (hG.below hB) hy) (fun u _=>gTold9 _ u h2)
theorem cMulG (p q g h:Int) (ns:List Int) (y:Value) (w:World) (hG:GT w) (hns:ns.length<=50) (hp:In p) (hq:In q) (hn: ∀k,k<ns.length->In (ns.getD k 0)) (hy:NL w y ns):CC 60 #[GX p q g h,y] w (.tuple #[NV (mlX p q ns),iI (mlE p q ns)]):=by
 obtain⟨v,hv,hM⟩:=cMembers p q g h ns hns hp hq hn
 have hyu:=fun u (hB:Bw w u)=>hy.up hB
 obtain⟨sl,gb,go,cap,rfl,_⟩:=hy
 unfold mlX mlE
 rcases hv with⟨h1,rfl⟩ | ⟨h1,h2⟩
 ·have hgk:gOk p q:=by
   unfold mlB at h1;rw[Bool.and_eq_true] at h1;exact of_decide_eq_true h1.1
  have h7:=hgk.2
  rw[h1,if_pos rfl,if_pos rfl];exact mulG_k p q g h _ sl _ cap w (fun u hB=>hM _ u (hG.below hB) (hyu u hB)) (fun u hB=>cProduct p q g h ns _ u hns hp (by omega) hn (hyu u hB))
 ·obtain⟨T,xv,rfl⟩:=h2.some
  rw[h1,if_neg (by decide),if_neg (by decide),NV_0];exact mulG_n p q g h sl _ cap T xv w (fun u hB=>hM _ u (hG.below hB) (hyu u hB)) (fun u _=>gTold9 _ u h2)
theorem cComG (p q g h s t:Int) (w:World) (hG:GT w) (hp:In p) (hq:In q) (hg:In g) (hh:In h) (hs:In s) (ht:In t):CC 50 #[GX p q g h,NV s,NV t] w (.tuple #[NV (coX p q g h s t),iI (coE p q g h)]):=by
 obtain⟨v,hv,hM⟩:=cMembers p q g h [g,h] (by simp) hp hq (In_2s hg hh)
 rw[ml_2] at hv
 unfold coX coE
 rcases hv with⟨h1,rfl⟩ | ⟨h1,h2⟩
 ·have hgk:gOk p q:=by rw[Bool.and_eq_true] at h1;exact(isB_t h1.1).1
  have h3:=hgk.q3
  have h7:=hgk.2
  rw[h1,if_pos rfl,if_pos rfl]
  refine com_k p q g h s t _ _ _ w (fun u y hB hy=>hM y u (hG.below hB) hy) (fun u _=>cPower p q g h g s u hp hq hg hs (by omega) (by omega)) (fun u _=>cPower p q g h h t u hp hq hh ht (by omega) (by omega)) (fun u y hB hy=>?_)
  have:=cProduct p q g h _ y u (by simp) hp (by omega) (In_2s (Zx hp (by omega)) (Zx hp (by omega))) hy
  have e: ∀a b:Int,prN p [a,b]=a*b%p:=fun a b=>by
   show gat (fun a b=>(a*b)%p) (1%p) [a,b] 2=_
   rw[gat,gat,gat]
   simp only[List.getD_cons_zero,List.getD_cons_succ]
   rw[one_mod (by omega),Int.one_mul,Int.mul_emod,Int.emod_emod,<-Int.mul_emod]
  rw[e] at this
  exact this
 ·obtain⟨T,xv,rfl⟩:=h2.some
  rw[h1,if_neg (by decide),if_neg (by decide),NV_0];exact com_n p q g h s t T xv w (fun u y hB hy=>hM y u (hG.below hB) hy) (fun u _=>gTold9 _ u h2)
def PD (da db:List Nat) (u:World) (v:Value):Prop:= ∃g o c,v= .slice (some ⟨g,o,none⟩) 64 c/\64<=c/\g<u.heap.size/\SB u g o da/\SB u g (o+32) db
def PDT (da db:List Nat) (u:World) (v:Value):Prop:= ∃y,v= .tuple #[y,iI 0]/\PD da db u y
theorem PD.stab {da db:List Nat} {u u2:World} {x:Value} (hB:Bw u u2) (h:PD da db u x):PD da db u2 x:=by
 obtain⟨g,o,c,e,h1,h2,h3,h4⟩:=h
 exact⟨g,o,c,e,h1,Nat.lt_of_lt_of_le h2 hB.size,h3.below hB h2,h4.below hB h2⟩
theorem PDT.stab {da db:List Nat} {u u2:World} {x:Value} (hB:Bw u u2) (h:PDT da db u x):PDT da db u2 x:=by
 obtain⟨y,e,h1⟩:=h
 exact⟨y,e,h1.stab hB⟩
theorem slH32 (g o c:Nat) (h:64<=c) (w:World):(Instr.sliceAt 43 (.slice (some ⟨g,o,none⟩) 64 c) none (some (iI 32)) none).run Tryz.prog w= .ok (.slice (some ⟨g,o,none⟩) 32 c) w:=by
 have h3:(32:Int)<=c:=by omega
 have h5:32<=c:=by omega
 have e:c≠0:=by omega
 simp[Instr.sliceAt,Instr.slice,go_sem,Tryz.underlying43,h3,h5,h,e]
theorem slL32 (g o c:Nat) (h:64<=c) (w:World):(Instr.sliceAt 43 (.slice (some ⟨g,o,none⟩) 64 c) (some (iI 32)) none none).run Tryz.prog w= .ok (.slice (some ⟨g,o+32,none⟩) 32 (c -32)) w:=by
 have h3:(64:Int)<=c:=by omega
 have h5:32<=c:=by omega
 have e:c≠32:=by omega
 simp[Instr.sliceAt,Instr.slice,go_sem,Tryz.underlying43,h3,h5,h,e]
theorem slW4 (b:Nat) (w:World):(Instr.sliceAt 73 (.pointer (some ⟨b,0,none⟩)) (some (iI 4)) none none).run Tryz.prog w= .ok (.slice (some ⟨b,4,none⟩) 4 4) w:=by
 simp[Instr.sliceAt,Instr.slice,go_sem,Tryz.underlying73]
theorem slN4 (b:Nat) (w:World):(Instr.sliceAt 24 (.pointer (some ⟨b,0,none⟩)) none none none).run Tryz.prog w= .ok (.slice (some ⟨b,0,none⟩) 4 4) w:=by
 simp[Instr.sliceAt,Instr.slice,go_sem,Tryz.underlying24]
theorem info_u64s:(Tryz.prog.info? 22).map (·.size)=some 1:=by kernel_rfl
theorem one_U (l:List Int): ∀v∈(l.map fun x=>Value.int .u64 x),v.oneCell'=true:=fun v hv=>by
 obtain⟨x,_,rfl⟩:=List.mem_map.1 hv
 rfl
theorem ent_mac_Derive:EnT 80:=fun _ _=>by kernel_rfl
theorem Um:EnT 81:=fun _ _=>by kernel_rfl
theorem ent_grp_digest:EnT 57:=fun _ _=>by kernel_rfl
theorem digest_core (vb:Value) (s:ByteArray) (da db:List Nat) (m r hi lo:Int) (w:World)
 (hD:Hid (∀u,Bw w u->Calls Tryz.prog 80 #[vb,.slice none 0 0,.string s,iI 64] u fun e u'=> ∃v,e= .returned v/\PDT da db u' v/\Bw u u'))
 (hRa:Hid (∀u g o c,g<u.heap.size->SB u g o da->CC 81 #[.slice (some ⟨g,o,none⟩) 32 c] u (.tuple #[NV hi,iI 0])))
 (hRb:Hid (∀u g o c,g<u.heap.size->SB u g o db->CC 81 #[.slice (some ⟨g,o,none⟩) 32 c] u (.tuple #[NV lo,iI 0])))
 (hR:Hid (∀u,CC 82 #[A8 (D0 lo) (D1 lo) (D2 lo) (D3 lo) (D0 hi) (D1 hi) (D2 hi) (D3 hi),NV m] u (.tuple #[NV r,iI 0]))):
 CC 57 #[.string s,vb,NV m] w (NV r):=by
 go_enter Tryz.func57,Tryz.ntmps57
 go_upto_region 1 with fail
 obtain⟨v0,hC,HB0,K0⟩:=bx2 w (LN m) 24 L0s 24
 rw[hC]
 clear hC
 refine Rf K0 HB0 [] [] [(0,17,_),(1,18,_),(5,21,_),(7,8,_)] [] [] [⟨2,19,none,PDT da db⟩,⟨3,16,none,PDT da db⟩,⟨4,20,some 6,PD da db⟩,⟨6,7,none,PD da db⟩] [] (oc g_mv<|oc g_mv<|oc (g_cE 0 (PDT da db) ent_mac_Derive (fun u hB hs=>hD.out u hB))<|oc (g_mE 0 1 (PDT da db))<|oc (g_xE 1 2 (PDT da db) (PD da db) (fun u v ⟨y,e,h⟩=>⟨_,y,e,rfl,h⟩))<|oc (g_xV 1 (PDT da db) (fun u v ⟨y,e,h⟩=>⟨_,e,rfl⟩))<|oc (g_sE 2 3 (PD da db))<|oc g_as on) fun u1 v1_2 hv1_2 v1_3 hv1_3 v1_4 hv1_4 v1_6 hv1_6 HB1 _ K1=>?_
 simp only[sQ] at K1⊢
 obtain⟨gd,od,cd,rfl,hcd,hgd,hSa,hSb⟩:=hv1_6 rfl
 have hR1:Hid (∀u,Bw u1 u->CC 81 #[.slice (some ⟨gd,od,none⟩) 32 cd] u (.tuple #[NV hi,iI 0])):=fun u hB=>hRa.out u gd od cd (Nat.lt_of_lt_of_le hgd hB.size) (hSa.below hB hgd)
 have hR2:Hid (∀u,Bw u1 u->CC 81 #[.slice (some ⟨gd,od+32,none⟩) 32 (cd -32)] u (.tuple #[NV lo,iI 0])):=fun u hB=>hRb.out u gd (od+32) (cd -32) (Nat.lt_of_lt_of_le hgd hB.size) (hSb.below hB hgd)
 clear hSa hSb
 have HBz:Bw u1 u1:=Below.refl _ _
 have hw1:=(K1.lt 0)
 have hw2:=(K1.lt 1)
 have hnK:=K1.n
 simp at hnK
 have K1_1:Bk u1.heap.size u1 [(false,w.heap.size,LN m),(false,w.heap.size+1,L0s)]:=⟨.c (K1.lt 0) (K1.cv 0)<| .c (K1.lt 1) (K1.cv 1)<|trivial,by simp<;>omega⟩
 go_upto_region 2 with fail
 refine Rp K1_1 HBz [] [(6,9,L0s,some (7,LN hi))] (cG 0 23 [_,_,_] [(3,22,_),(4,26,_),(5,27,_),(8,10,_)]) [(7,6)] [] [] (oc g_mv<|oc (g_sl (slH32 gd od cd hcd))<|oc (g_cb Um hR1.out)<|oc g_mv<|oc g_ex<|oc g_ex<|oc (g_al 0 aN)<|oc (g_sn 0 iN)<|oc g_as on) fun u2 b2_6 HB2 _ K2=>?_
 simp only[sQ] at K2⊢
 go_upto_region 3 with fail
 refine Rp K2 HB2 [] [(6,11,L0s,some (7,LN lo))] (cG 0 29 [_,_,_] [(3,28,_),(4,32,_),(5,33,_),(8,12,_)]) [(7,6)] [] [] (oc g_mv<|oc (g_sl (slL32 gd od cd hcd))<|oc (g_cb Um hR2.out)<|oc g_mv<|oc g_ex<|oc g_ex<|oc (g_al 0 aN)<|oc (g_sn 0 iN)<|oc g_as on) fun u3 b3_6 HB3 _ K3=>?_
 simp only[sQ] at K3⊢
 go_upto_region 4 with fail
 refine Rp K3 HB3 [] [(2,13,L0w,some (3,[iU (D0 lo),iU (D1 lo),iU (D2 lo),iU (D3 lo),iU (0),iU (0),iU (0),iU (0)]))] [(0,34,_),(1,35,_)] [(3,2)] [] [] (oc (g_ld 3 uN iN)<|oc (g_cl Zg (Widen_any _ _ _ _))<|oc (g_al 0 aW)<|oc (g_sn 0 iW) on) fun u4 b4_2 HB4 _ K4=>?_
 simp only[sQ] at K4⊢
 go_upto_region 5 with fail
 refine Rd K4 HB4 [.no,.no,.no,.no,.all 2 ([iU (D0 lo),iU (D1 lo),iU (D2 lo),iU (D3 lo),iU (D0 hi),iU (D1 hi),iU (D2 hi),iU (D3 hi)])] [] (cG 0 36 [_,_,_] []) [] [] [] (oc (g_sl (slW4 b4_2))<|oc (g_sl (slN4 b2_6))<|oc (g_cp 4 (sl:=4) (dl:=4) [iU (D0 lo),iU (D1 lo),iU (D2 lo),iU (D3 lo)] [iU 0,iU 0,iU 0,iU 0] [] (LN hi) Tryz.underlying95 info_u64s rfl (fun f u kZ bZ j v hj=>by rw[Addr.add0];exact((KC.cv kZ 2) j v hj).1) (one_U [D0 hi,D1 hi,D2 hi,D3 hi]) rfl rfl) on) fun u5 HB5 _ K5=>?_
 simp only[sQ] at K5⊢
 go_upto_region 6 with fail
 refine Rp K5 HB5 [] [(6,14,L0s,some (7,LN r))] (cG 0 40 [_,_,_] [(3,39,_),(4,43,_),(5,44,_),(8,15,_)]) [(7,6)] [] [] (oc (g_ld 4 uW iW)<|oc (g_ld 0 uN iN)<|oc (g_cl Zi hR.out)<|oc g_mv<|oc g_ex<|oc g_ex<|oc (g_al 0 aN)<|oc (g_sn 0 iN)<|oc g_as on) fun u6 b6_6 HB6 _ K6=>?_
 simp only[sQ] at K6⊢
 have hkr:=(K6.cv 5)
 have hk6:=(K6.cv 1)
 obtain⟨a0,-⟩:=hkr 0 _ rfl
 obtain⟨k0,f0⟩:=hk6 0 _ rfl
 obtain⟨a1,-⟩:=hkr 1 _ rfl
 obtain⟨k1,f1⟩:=hk6 1 _ rfl
 obtain⟨a2,-⟩:=hkr 2 _ rfl
 obtain⟨k2,f2⟩:=hk6 2 _ rfl
 obtain⟨a3,-⟩:=hkr 3 _ rfl
 obtain⟨k3,f3⟩:=hk6 3 _ rfl
 replace hkr:Hid _:=hkr
 replace hk6:Hid _:=hk6
 have hBf:Bw w u6:=Yu HB1 HB6
 go_wp2
 exact bodyPost_ret (v:=NV r) (by simp[results,Tryz.results57,go_sem,k0,k1,k2,k3]) rfl ⟨rfl,((((hBf).setCell (p:=⟨w.heap.size+1,0,none⟩) (Nat.le_succ _) _).setCell (p:=⟨w.heap.size+1,1,none⟩) (Nat.le_succ _) _).setCell (p:=⟨w.heap.size+1,2,none⟩) (Nat.le_succ _) _).setCell (p:=⟨w.heap.size+1,3,none⟩) (Nat.le_succ _) _⟩
theorem cDigest (bs:List Nat) (v:Value) (s:ByteArray) (m:Int) (w:World) (hV:GV w) (hm:In m) (hm0:m≠0) (hin:IN w w.heap.size v bs) (hb: ∀x∈bs,x<256) (hl:bs.length<=1000) (hs:s.size<=1000):
 CC 57 #[.string s,v,NV m] w (NV (dgN bs s m)):=by
 obtain⟨d,ed⟩: ∃d,exY (mac [] bs) (txt s) 64=d:=⟨_,rfl⟩
 have hdl:d.length=64:=by rw[<-ed];exact exY64 _ _
 have hdb: ∀x∈d,x<256:=by rw[<-ed];exact exY_m _ _ _
 have hta:(d.take 32).length=32:=by rw[List.length_take];omega
 have htb:(d.drop 32).length=32:=by rw[List.length_drop];omega
 have hba: ∀x∈d.take 32,x<256:=fun x hx=>hdb x (List.mem_of_mem_take hx)
 have hbb: ∀x∈d.drop 32,x<256:=fun x hx=>hdb x (List.mem_of_mem_drop hx)
 have ih:=num_lt _ hta hba
 have il:=num_lt _ htb hbb
 have e1:dgN bs s m=(((num8 (d.drop 32):Nat):Int)+((num8 (d.take 32):Nat):Int)*0x10000000000000000000000000000000000000000000000000000000000000000)%m:=by
  unfold dgN
  rw[ed]
  have h:=nu_app (d.take 32) (d.drop 32)
  rw[List.take_append_drop,htb] at h
  have e2:(256^32:Nat)=0x10000000000000000000000000000000000000000000000000000000000000000:=by decide+kernel
  rw[e2] at h
  generalize num8 d=x at h
  generalize num8 (d.take 32)=y at h
  generalize num8 (d.drop 32)=z at h
  rw[show (x:Int)=(z:Int)+(y:Int)*0x10000000000000000000000000000000000000000000000000000000000000000 by omega]
 rw[e1]
 refine digest_core v s (d.take 32) (d.drop 32) m _ _ _ w (fun u hB=>?_) (fun u g o c hg hS=>cReadN _ g o c u hta hba hg hS) (fun u g o c hg hS=>cReadN _ g o c u htb hbb hg hS) (fun u=>?_)
 ·have hw:0<u.heap.size:=by have:=hV.sz;have:=hB.size;omega
  refine(cDerive bs [] v (.slice none 0 0) s 64 u (hV.below hB hV.sz) ((IN.below hin hB).mono hB.size) (IN_nil u hw) (fun n c e=>by cases e;rfl) hb (by simp) hl (by simp) hs).mono ?_
  rintro e u2 ⟨y,rfl,⟨z,rfl,hz⟩,hB2⟩
  rw[ed] at hz
  obtain⟨sl,cap,gb,go,rfl,h1,h2,h3,h4⟩:=hz
  obtain rfl:=h2.resolve_left (by omega)
  rw[hdl] at h1⊢
  refine⟨_,rfl,⟨_,rfl,gb,go,cap,rfl,h1,h3,fun j hj=>?_,fun j hj=>?_⟩,hB2⟩
  ·rw[hta] at hj
   rw[h4 j (by omega)]
   simp[List.getD_eq_getElem?_getD,List.getElem?_take,hj]
  ·rw[htb] at hj
   have:=h4 (32+j) (by omega)
   rw[Nat.add_assoc,this]
   simp[List.getD_eq_getElem?_getD,List.getElem?_drop]
 ·have:=Xl (n:=((num8 (d.drop 32):Nat):Int)+((num8 (d.take 32):Nat):Int)*0x10000000000000000000000000000000000000000000000000000000000000000) m u ⟨by have:=ih.1;have:=il.1;omega,by have:=ih.2;have:=il.2;omega⟩ hm hm0
  rw[WV_cat _ _ il ih] at this
  exact this
set_option maxHeartbeats 8000000 in
theorem rP16 (S:ByteArray) (n:Nat) (c d vF:Nat->Int) (w:World) (hS:S.size=n) (hn:n<=16) (h1:(1:Int)<n) (hne:S.toList.isEmpty=false) (hix:Hid (∀j,j<n-> ∀W,(Instr.index 9 (.string S) (.int .i64 j)).run Tryz.prog W= .ok (.int .u8 (c j)) W)) (h0:c 0≠48) (hc:Hid (∀j,j<n->(48<=c j/\c j<=57/\d j=c j -48)\/(97<=c j/\c j<=102/\d j=c j -87))) (hv0:Hid (vF 0=0)) (hvs:Hid (∀j,j<n->vF (j+1)=vF j+d j*16^(n -1 -j))) (hvb:Hid (∀j,j<=n->0<=vF j/\vF j<18446744073709551616)) (hdb:Hid (∀j,j<n-> ∀k,k<n->0<=d j*16^k/\d j*16^k<18446744073709551616)):
 CC 86 #[.string S] w (.tuple #[A4 (vF n) 0 0 0,.int .i64 0]):=by
 have k0:=hix.out 0 (by omega)
 rw[show (Value.int .i64 ((0:Nat):Int))= .int .i64 0 from rfl] at k0
 obtain⟨c0,e0⟩: ∃x,c 0=x:=⟨_,rfl⟩
 rw[e0] at k0 h0
 have hl: ¬(64:Int)<n:=by omega
 go_enter Tryz.func86,Tryz.ntmps86
 go_wp2
 go_loop [4] (fun vi=> ∃k:Nat,k<=n/\vi= .int .i64 k) (fun vi=>n -(intOf vi).toNat)
 case atStart=>exact⟨0,by omega,rfl⟩
 case round=>
  obtain⟨k,hk,rfl⟩:=hrel
  by_cases hlt:k<n
  ·have hlt':(k:Int)<n:=by omega
   have k1:=hix.out k hlt
   have hck:=hc.out k hlt
   obtain⟨x,ex⟩: ∃x,c k=x:=⟨_,rfl⟩
   rw[ex] at k1 hck
   clear ex
   rcases hck with⟨a1,a2,-⟩ | ⟨a1,a2,-⟩
   ·go_wp2
    exact⟨⟨k+1,by omega,by go_num⟩,by simp[intOf];omega⟩
   ·have a3:48<=x:=by omega
    have a4: ¬x<=57:=by omega
    go_wp2
    exact⟨⟨k+1,by omega,by go_num⟩,by simp[intOf];omega⟩
  ·have hlt': ¬(k:Int)<n:=by omega
   go_wp2
   go_loopw [6,7,8,9] (fun i _ _ _ wr=> ∃k:Nat,k<=n/\i= .int .i64 k/\Bw w wr/\w.heap.size+1<wr.heap.size/\C4 wr w.heap.size 0 0 0 0/\C4 wr (w.heap.size+1) (vF k) 0 0 0) (fun i _ _ _ _=>n -(intOf i).toNat)
   case atStart=>
    have hv:=hv0.out
    refine⟨0,by omega,rfl,?_,by simp,by unfold C4;simp[go_sem],by rw[hv];unfold C4;simp[go_sem]⟩
    iterate 6 all_goals (go_grown<;>try with_reducible refine below_drewN ?_ _)
   case round=>
    obtain⟨i,hi,rfl,hB,hs,hR,hA⟩:=hrel
    by_cases hj:i<n
    ·have hlt2:(i:Int)<n:=by omega
     obtain⟨p,hp⟩: ∃p,n -1 -i=p:=⟨_,rfl⟩
     have hp':(n:Int) -1 -i=p:=by omega
     have hp16:(p:Int)<16:=by omega
     have kc:=hix.out i hj
     have hci:=hc.out i hj
     have hvi:=hvs.out i hj
     have hb1:=hvb.out i hi
     have hb2:=hvb.out (i+1) (by omega)
     have hd:=fun k (hk:k<=p)=>hdb.out i hj k (by omega)
     rw[hp] at hvi
     obtain⟨y,ey⟩: ∃y,vF (i+1)=y:=⟨_,rfl⟩
     obtain⟨v,ev⟩: ∃v,vF i=v:=⟨_,rfl⟩
     obtain⟨x,ex⟩: ∃x,c i=x:=⟨_,rfl⟩
     obtain⟨z,ez⟩: ∃z,d i=z:=⟨_,rfl⟩
     rw[ey,ev,ez] at hvi
     rw[ev] at hb1 hA
     rw[ey] at hb2
     rw[ex] at kc hci
     rw[ez] at hci
     simp only[ez] at hd
     have hvi:Hid _:=hvi
     have hd:Hid _:=hd
     have EY:Hid _:=ey
     have hA':=hA
     obtain⟨⟨ac0,ac1,ac2,ac3⟩,af0,af1,af2,af3⟩:=hA'
     clear ex ev ez hp ey
     generalize wr=u at *
     rcases hci with⟨a1,a2,e⟩ | ⟨a1,a2,e⟩
     case' inl=>
      have kw:IntKind.u8.wrap (x -48)=x -48:=by rw[IntKind.wrap_u8];omega
      have kv:IntKind.u64.wrap (x -48)=x -48:=by rw[IntKind.wrap_u64];omega
      have a3: ¬97<=x:=by omega
     case' inr=>
      have kw:IntKind.u8.wrap (x -48)=x -48:=by rw[IntKind.wrap_u8];omega
      have kv:IntKind.u64.wrap (x -48)=x -48:=by rw[IntKind.wrap_u64];omega
      have kx:IntKind.u8.wrap (x -97)=x -97:=by rw[IntKind.wrap_u8];omega
      have ky:IntKind.u64.wrap (x -97)=x -97:=by rw[IntKind.wrap_u64];omega
      have kz:IntKind.u64.wrap (x -97+10)=x -97+10:=by rw[IntKind.wrap_u64];omega
     all_goals
      have E:Hid _:=e
      clear e
      go_wp2
      go_loop [7,9] (fun vx vj=> ∃j:Nat,j<=p/\vj= .int .i64 j/\vx= .int .u64 (z*16^j)) (fun _ vj=>p -(intOf vj).toNat)
      case atStart=>exact⟨0,by omega,rfl,by have:=E.out;simp;omega⟩
      case round=>
       obtain⟨j,hj2,rfl,rfl⟩:=hrel
       have hq:(p:Int)%16=p:=by omega
       by_cases hj3:j<p
       ·have hj4:(j:Int)<p:=by omega
        have hm:=hd.out (j+1) (by omega)
        rw[Int.pow_succ,<-Int.mul_assoc] at hm
        have hw:IntKind.u64.wrap (z*16^j*16)=z*16^j*16:=by rw[IntKind.wrap_u64];omega
        go_wp2
        exact⟨⟨j+1,by omega,by go_num,by rw[Int.pow_succ,<-Int.mul_assoc]⟩,by simp[intOf];omega⟩
       ·have hj4: ¬(j:Int)<p:=by omega
        obtain rfl:j=p:=by omega
        have hq2:(j:Int)/16=0:=by omega
        have hvo:=hvi.out
        obtain⟨g,eg⟩: ∃g,z*16^j=g:=⟨_,rfl⟩
        rw[eg] at hvo⊢
        have hw:IntKind.u64.wrap (v+g)=v+g:=by rw[IntKind.wrap_u64];omega
        have hvo:Hid _:=hvo
        clear eg
        go_wp2
        go_roundw
        case rel=>
         refine⟨i+1,by omega,by go_num,?_,by simpa using hs,hR.other _ (by simp<;>omega) _,?_⟩
         ·iterate 6 all_goals (go_grown<;>try with_reducible refine below_drewN ?_ _)
         ·rw[EY.out,hvo.out];exact(hA.set0 _)
        case measure=>simp[intOf];omega
    ·have hlt2: ¬(i:Int)<n:=by omega
     obtain rfl:i=n:=by omega
     obtain⟨⟨ac0,ac1,ac2,ac3⟩,af0,af1,af2,af3⟩:=hA
     obtain⟨⟨rc0,rc1,rc2,rc3⟩,rf0,rf1,rf2,rf3⟩:=hR
     generalize wr=u at *
     go_wp2
     refine bodyPost_ret (v:= .tuple #[A4 (vF i) 0 0 0,.int .i64 0]) (by simp[results,Tryz.results86,go_sem,rc0,rc1,rc2,rc3]) rfl ⟨rfl,?_⟩
     iterate 6 all_goals (go_grown<;>try with_reducible refine below_drewN ?_ _)
def vp (cs:List Int):Nat->Int
 | 0=>0
 | j+1=>vp cs j+ixv (cs.getD j 0)*16^(cs.length -1 -j)
theorem rPs (cs:List Int) (v:Int) (w:World) (hn:cs.length<=16) (h1:1<cs.length) (hb:Vj cs) (h0:cs.getD 0 0≠48) (hc: ∀j,j<cs.length->(48<=cs.getD j 0/\cs.getD j 0<=57/\ixv (cs.getD j 0)=cs.getD j 0 -48)\/(97<=cs.getD j 0/\cs.getD j 0<=102/\ixv (cs.getD j 0)=cs.getD j 0 -87)) (hvb: ∀j,j<cs.length+1->0<=vp cs j/\vp cs j<18446744073709551616) (hdb: ∀j,j<cs.length-> ∀k,k<cs.length->0<=ixv (cs.getD j 0)*16^k/\ixv (cs.getD j 0)*16^k<18446744073709551616) (hv:A4 (vp cs cs.length) 0 0 0=NV v):CC 86 #[.string (strOfNums cs)] w (.tuple #[NV v,.int .i64 0]):=by
 rw[<-hv]
 refine rP16 (strOfNums cs) cs.length (fun j=>cs.getD j 0) (fun j=>ixv (cs.getD j 0)) (vp cs) w (strOfNums_size cs) hn (by omega) ?_ (fun j hj W=>str_ix cs hb j hj W) h0 hc rfl (fun j hj=>rfl) (fun j hj=>hvb j (by omega)) hdb
 rw[<-decide_eq_emptyBytes,decide_eq_false_iff_not]
 intro e
 have:=congrArg ByteArray.size e
 rw[strOfNums_size] at this
 have:cs.length=0:=this
 omega
end Go.Proofs.YtofcppgfaelloaaGreatDoor
