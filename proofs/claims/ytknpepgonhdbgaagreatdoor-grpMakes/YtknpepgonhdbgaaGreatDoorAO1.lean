import Derived.Test.YtknpepgonhdbgaaGreatDoorIT
import Derived.Test.YtknpepgonhdbgaaGreatDoorB7
import Derived.Lib.ItoaLen
namespace Go.Proofs.YtknpepgonhdbgaaGreatDoor
set_option linter.unusedVariables false
set_option linter.unusedSimpArgs false
set_option maxRecDepth 100000
set_option maxHeartbeats 4000000
open Go.RowKit
section
def tx(n:Int):ByteArray:=strOfNums (txl (D0 n) (D1 n) (D2 n) (D3 n) (nd (D0 n) (D1 n) (D2 n) (D3 n)))
theorem nText(n:Int)(w:World):CC 74 #[NV n] w (.string (tx n)):=Text_any _ _ _ _ w (W_D0 n) (W_D1 n) (W_D2 n) (W_D3 n)
theorem tx_sz(n:Int):(tx n).size<=64:=by
 unfold tx
 rw[strOfNums_size]
 unfold txl
 rw[List.length_map,List.length_range]
 have:=blen_bd _ _ _ _ (W_D0 n) (W_D1 n) (W_D2 n) (W_D3 n)
 unfold nd
 split<;>omega
structure GT(w:World):Prop where
 sz:0<w.heap.size
 tab:Lib.TabIs Tryz.prog w "internal/strconv.uint64pow10" .u64 Lib.pow10Tab
theorem gPow:Tryz.prog.globalNamed "internal/strconv.uint64pow10" =some 0:=by kernel_rfl
theorem GT.below{w u:World}(h:GT w)(hB:Bw w u):GT u where
 sz:=Nat.lt_of_lt_of_le h.sz hB.size
 tab:=Go.Joins.tab_stays gPow h.tab hB (Nat.le_refl _)
theorem below_grow(w:World)(k:Nat)(os:Array Obj):Bw w (Go.Sort.grow (w.drewN k) os):=by
 have h1:(w.drewN k).heap=w.heap:=rfl
 exact⟨rfl,rfl,rfl,by simp[Go.Sort.grow,h1],fun i hi=>by simp[Go.Sort.grow,h1,Array.getElem?_append_left hi]⟩
def ia(n:Int):ByteArray:=⟨(Lib.itoa n).toArray⟩
theorem ia_sz(n:Int)(h0: -9223372036854775808<=n)(h1:n<=9223372036854775807):(ia n).size<=21:=by
 have:=Lib.itoa_length_le n h0 h1
 simpa [ia,ByteArray.size] using this
theorem cItoa(n:Int)(w:World)(h0: -9223372036854775808<=n)(h1:n<=9223372036854775807)(hG:GT w):CC 54 #[.int .i64 n] w (.string (ia n)):=by
 refine(Tryz.strconv_Itoa n h0 h1 w hG.tab).mono ?_
 rintro e u ⟨rfl,k,os,rfl⟩
 exact⟨rfl,below_grow w k os⟩
section
variable {R:Rg} {P:Program} {Q:Exit->Act->World->Prop} {ops:Array Oper} {i:Nat} {o:Oper}
theorem g_mi{T:TypeId}{x:Operand}{vx v:Value}(hr: ∀w,(Instr.makeInterface T vx).run P w= .ok v w)(hop:o.op= .makeInterface T x:=by rfl)(hx:evR R i o x=some vx:=by rfl)(hv:some v=Zu i R.G:=by rfl)(hc:R.chk ops i o=true:=by rfl):OG R P ops Q i o:=
 g_op (fun ev u he=>by
  unfold execOp;rw[hop];simp only[he _ _ hx]
  rw[Sem.run_bind,hr,Result.andThen_ok,Sem.run_pure]) hv hc
end
theorem miE(n:Int)(w:World):(Instr.makeInterface 27 (.int .i64 n)).run Tryz.prog w= .ok (.iface 27 (.int .i64 n)) w:=by kernel_rfl
theorem miF(s:ByteArray)(T:TypeId)(x:Value)(w:World):(Instr.makeInterface 79 (.agg #[.string s,.iface T x])).run Tryz.prog w= .ok (.iface 79 (.agg #[.string s,.iface T x])) w:=by kernel_rfl
theorem bdFl(s:ByteArray)(T:TypeId)(x:Value)(w:World):(Instr.build 79 [(0,.string s),(1,.iface T x)].toArray).run Tryz.prog w= .ok (.agg #[.string s,.iface T x]) w:=by kernel_rfl
theorem add_st(p q:Operand)(s t:ByteArray)(w:World)(h:s.size+t.size<=1000):(do eqGuard .add 9 p q (.string s) (.string t);binOp .add 9 (.string s) (.string t):Sem Value).run Tryz.prog w= .ok (.string (s++t)) w:=by
 have h2: ¬9223372036854775807<s.size+t.size:=by omega
 go_simp
theorem neq_no(p:Operand)(c:Value)(w:World):(do eqGuard .neq 58 p (.const c) .nilIface .nilIface;binOp .neq 58 .nilIface .nilIface:Sem Value).run Tryz.prog w= .ok (.bool false) w:=by go_simp
theorem neq_er(p q:Operand)(T:TypeId)(x:Value)(w:World):(do eqGuard .neq 58 p q (.iface T x) .nilIface;binOp .neq 58 (.iface T x) .nilIface:Sem Value).run Tryz.prog w= .ok (.bool true) w:=by go_simp
theorem lss_z(p q:Operand)(x y:Int)(b:Bool)(w:World)(h:decide (x<y)=b):(do eqGuard .lss 3 p q (.int .i64 x) (.int .i64 y);binOp .lss 3 (.int .i64 x) (.int .i64 y):Sem Value).run Tryz.prog w= .ok (.bool b) w:=by
 subst h;go_simp
theorem geq_y(p q:Operand)(x y:Int)(b:Bool)(w:World)(h:decide (y<=x)=b):(do eqGuard .geq 3 p q (.int .i64 x) (.int .i64 y);binOp .geq 3 (.int .i64 x) (.int .i64 y):Sem Value).run Tryz.prog w= .ok (.bool b) w:=by
 subst h;go_simp
theorem neq_w8(p q:Operand)(a b c d e f g h a' b' c' d' e' f' g' h':Int)(w:World):(do eqGuard .neq 64 p q (A8 a b c d e f g h) (A8 a' b' c' d' e' f' g' h');binOp .neq 64 (A8 a b c d e f g h) (A8 a' b' c' d' e' f' g' h'):Sem Value).run Tryz.prog w= .ok (.bool (!eq8 a b c d e f g h a' b' c' d' e' f' g' h')) w:=by
 go_simp
theorem neq_ww(p q:Operand){n m:Int}(hn:In n)(hm:In m)(b:Bool)(hb:decide (n=m)=!b)(w:World):(do eqGuard .neq 64 p q (WV n) (WV m);binOp .neq 64 (WV n) (WV m):Sem Value).run Tryz.prog w= .ok (.bool b) w:=by
 have e1:D4 n=0:=by unfold D4;exact Int.ediv_eq_zero_of_lt hn.1 hn.2
 have e2:D4 m=0:=by unfold D4;exact Int.ediv_eq_zero_of_lt hm.1 hm.2
 have e3:eq8 (D0 n) (D1 n) (D2 n) (D3 n) (D0 0) (D1 0) (D2 0) (D3 0) (D0 m) (D1 m) (D2 m) (D3 m) (D0 0) (D1 0) (D2 0) (D3 0)=!b:=by
  rw[<-hb,<-eq4_N hn hm];simp[eq8,eq4]
 rw[neq_w8,e1,e2,e3,Bool.not_not]
theorem Xl:EnT 74:=fun _ _=>by kernel_rfl
theorem Uy:EnT 54:=fun _ _=>by kernel_rfl
theorem Yg:EnT 43:=fun _ _=>by kernel_rfl
theorem Vu:EnT 59:=fun _ _=>by kernel_rfl
theorem Zv:EnT 35:=fun _ _=>by kernel_rfl
theorem Yn:EnT 36:=fun _ _=>by kernel_rfl
def sP1:ByteArray:=⟨#[80,32,105,115,32,111,110,108,121,32]⟩
def sX1:ByteArray:=⟨#[32,105,115,32,110,111,116,32,102,114,111,109,32,49,32,116,111,32,80,32,45,32,49]⟩
def sX2:ByteArray:=⟨#[32,116,111,32,116,104,101,32,81,32,105,115,32,110,111,116,32,49]⟩
def sM2:ByteArray:=⟨#[110,117,109,98,101,114,32]⟩
def grV(p q:Int):Value:=if p<7 then .iface 79 (.agg #[.string (sP1++tx p),(.iface 27 (.int .i64 90))]) else if p%2=0 then .iface 79 (.agg #[.string ⟨#[80,32,105,115,32,101,118,101,110]⟩,(.iface 27 (.int .i64 90))]) else if p/2=q then .nilIface else .iface 79 (.agg #[.string ⟨#[80,32,105,115,32,110,111,116,32,50,32,81,32,97,110,100,32,49]⟩,(.iface 27 (.int .i64 90))])
def mbV(p q x:Int):Value:=if x=0\/p<=x then .iface 79 (.agg #[.string (tx x++sX1),(.iface 27 (.int .i64 90))]) else if x^q.toNat%p=1 then .nilIface else .iface 79 (.agg #[.string (tx x++sX2),(.iface 27 (.int .i64 90))])
theorem group_1(p q g h c:Int)(w:World)(hp:In p)(hq:In q)(i2:In 2)(iq:In (p/2))(hC:Hid (∀u,CC 73 #[NV p,NV 7] u (.int .i64 c)))(hc:decide (c<0)=true):CC 43 #[GX p q g h] w (.iface 79 (.agg #[.string (sP1++tx p),(.iface 27 (.int .i64 90))])):=by
 go_enter Tryz.func43,Tryz.ntmps43
 go_upto_region 1 with fail
 generalize hC:(w.alloc (.cells (GE p q g h:List Value).toArray 26))=v0 at *
 have HB0:Bw w v0:=by rw[<-hC];exact Z0 (Z5 w) _
 have K0:Bk w.heap.size v0 [(true,w.heap.size,GE p q g h)]:=by rw[<-hC];exact(Bk.nil _ w).ad
 clear hC
 go_upto_region 1 with fail
 refine rgP K0 HB0 HB0.size [] [(9,3,L0w,some (11,LW (p/2))),(10,4,L0s,some (12,LN (p%2)))] [(0,7,.pointer (some ⟨w.heap.size,0,none⟩)),(1,8,NV p),(2,9,WV p),(3,10,NV 2),(4,11,.tuple #[WV (p/2),NV (p%2),.int .i64 0]),(5,6,.tuple #[WV (p/2),NV (p%2),.int .i64 0]),(6,12,WV (p/2)),(7,13,NV (p%2)),(8,14,.int .i64 0),(13,5,.int .i64 0)] [(11,9),(12,10)] [] [true,false,false] ?_ ?_
 ·exact oc (g_fd (fun uZ=>fdG0 _ uZ))<|oc (g_lo 0 0 uN iN)<|oc (g_cl Zd (fun uZ=>Xr p uZ hp))<|oc (g_cl Z9 (fun uZ=>nOf 2 uZ (by decide) (by decide)))<|oc (g_cl Ym (fun uZ=>Ui p 2 uZ hp.wide i2 (by decide)))<|oc g_mv<|oc g_ex<|oc g_ex<|oc g_ex<|oc (g_al 0 aW)<|oc (g_al 1 aN)<|oc (g_sn 0 iW)<|oc (g_sn 1 iN)<|oc g_as on
 intro u1 b1_9 b1_10 HB1 sz1 K1
 simp only[sQ] at K1⊢
 clear K0 HB0
 go_upto_region 2 with fail
 refine rgD K1 HB1 HB1.size [] [] [(0,16,.pointer (some ⟨w.heap.size,0,none⟩)),(1,17,NV p),(2,18,NV 7),(3,19,.int .i64 c),(4,20,.bool true),(5,15,.bool true)] [] [] [] ?_ ?_
 ·exact oc (g_fd (fun uZ=>fdG0 _ uZ))<|oc (g_lo 0 0 uN iN)<|oc (g_cl Z9 (fun uZ=>nOf 7 uZ (by decide) (by decide)))<|oc (g_cl Zn (fun uZ=>hC.out uZ))<|oc (g_bn (fun uZ=>lss_z _ _ _ _ _ uZ hc))<|oc g_as on
 intro u2 HB2 sz2 K2
 simp only[sQ] at K2⊢
 clear K1 HB1
 go_upto_region 3 with fail
 refine rgP K2 HB2 HB2.size [] [] [(0,21,.pointer (some ⟨w.heap.size,0,none⟩)),(1,22,NV p),(2,23,.string (tx p)),(3,24,.string (sP1++tx p)),(4,25,.iface 27 (.int .i64 90)),(5,26,.agg #[.string (sP1++tx p),.iface 27 (.int .i64 90)]),(6,27,.iface 79 (.agg #[.string (sP1++tx p),.iface 27 (.int .i64 90)])),(7,2,.iface 79 (.agg #[.string (sP1++tx p),.iface 27 (.int .i64 90)]))] [] [] [false] ?_ ?_
 ·exact oc (g_fd (fun uZ=>fdG0 _ uZ))<|oc (g_lo 0 0 uN iN)<|oc (g_cl Xl (fun uZ=>nText p uZ))<|oc (g_bn (fun uZ=>add_st _ _ sP1 (tx p) uZ (by have:=tx_sz p;have:sP1.size=10:=rfl;omega)))<|oc (g_mi (miE 90))<|oc (g_bd (fun uZ=>bdFl (sP1++tx p) _ _ uZ))<|oc (g_mi (miF (sP1++tx p) _ _))<|oc g_as on
 intro u3 HB3 sz3 K3
 simp only[sQ] at K3⊢
 clear K2 HB2
 go_wp2
 refine bodyPost_ret (v:= .iface 79 (.agg #[.string (sP1++tx p),(.iface 27 (.int .i64 90))])) (by simp[results,Tryz.results43,go_sem,]) rfl ⟨rfl,HB3⟩
theorem group_2(p q g h c:Int)(w:World)(hp:In p)(hq:In q)(i2:In 2)(iq:In (p/2))(hC:Hid (∀u,CC 73 #[NV p,NV 7] u (.int .i64 c)))(hc:decide (c<0)=false)(im:In (p%2))(h2:decide (p%2=0)=true):CC 43 #[GX p q g h] w (.iface 79 (.agg #[.string ⟨#[80,32,105,115,32,101,118,101,110]⟩,(.iface 27 (.int .i64 90))])):=by
 go_enter Tryz.func43,Tryz.ntmps43
 go_upto_region 1 with fail
 generalize hC:(w.alloc (.cells (GE p q g h:List Value).toArray 26))=v0 at *
 have HB0:Bw w v0:=by rw[<-hC];exact Z0 (Z5 w) _
 have K0:Bk w.heap.size v0 [(true,w.heap.size,GE p q g h)]:=by rw[<-hC];exact(Bk.nil _ w).ad
 clear hC
 go_upto_region 1 with fail
 refine rgP K0 HB0 HB0.size [] [(9,3,L0w,some (11,LW (p/2))),(10,4,L0s,some (12,LN (p%2)))] [(0,7,.pointer (some ⟨w.heap.size,0,none⟩)),(1,8,NV p),(2,9,WV p),(3,10,NV 2),(4,11,.tuple #[WV (p/2),NV (p%2),.int .i64 0]),(5,6,.tuple #[WV (p/2),NV (p%2),.int .i64 0]),(6,12,WV (p/2)),(7,13,NV (p%2)),(8,14,.int .i64 0),(13,5,.int .i64 0)] [(11,9),(12,10)] [] [true,false] ?_ ?_
 ·exact oc (g_fd (fun uZ=>fdG0 _ uZ))<|oc (g_lo 0 0 uN iN)<|oc (g_cl Zd (fun uZ=>Xr p uZ hp))<|oc (g_cl Z9 (fun uZ=>nOf 2 uZ (by decide) (by decide)))<|oc (g_cl Ym (fun uZ=>Ui p 2 uZ hp.wide i2 (by decide)))<|oc g_mv<|oc g_ex<|oc g_ex<|oc g_ex<|oc (g_al 0 aW)<|oc (g_al 1 aN)<|oc (g_sn 0 iW)<|oc (g_sn 1 iN)<|oc g_as on
 intro u1 b1_9 b1_10 HB1 sz1 K1
 simp only[sQ] at K1⊢
 clear K0 HB0
 go_upto_region 2 with fail
 refine rgD K1 HB1 HB1.size [] [] [(0,16,.pointer (some ⟨w.heap.size,0,none⟩)),(1,17,NV p),(2,18,NV 7),(3,19,.int .i64 c),(4,20,.bool false),(5,15,.bool false)] [] [] [false] ?_ ?_
 ·exact oc (g_fd (fun uZ=>fdG0 _ uZ))<|oc (g_lo 0 0 uN iN)<|oc (g_cl Z9 (fun uZ=>nOf 7 uZ (by decide) (by decide)))<|oc (g_cl Zn (fun uZ=>hC.out uZ))<|oc (g_bn (fun uZ=>lss_z _ _ _ _ _ uZ hc))<|oc g_as on
 intro u2 HB2 sz2 K2
 simp only[sQ] at K2⊢
 clear K1 HB1
 go_upto_region 4 with fail
 refine rgP K2 HB2 HB2.size [] [] [(0,29,NV (p%2)),(1,30,A4 (0) (0) (0) (0)),(2,31,.bool true),(3,28,.bool true)] [] [] [false] ?_ ?_
 ·exact oc (g_ld 0 uN iN)<|oc (g_bd zN)<|oc (g_bn (fun uZ=>Ux _ _ im _ h2 uZ))<|oc g_as on
 intro u3 HB3 sz3 K3
 simp only[sQ] at K3⊢
 clear K2 HB2
 go_upto_region 5 with fail
 refine rgP K3 HB3 HB3.size [] [] [(0,32,.iface 27 (.int .i64 90)),(1,33,.agg #[.string ⟨#[80,32,105,115,32,101,118,101,110]⟩,.iface 27 (.int .i64 90)]),(2,34,.iface 79 (.agg #[.string ⟨#[80,32,105,115,32,101,118,101,110]⟩,.iface 27 (.int .i64 90)])),(3,2,.iface 79 (.agg #[.string ⟨#[80,32,105,115,32,101,118,101,110]⟩,.iface 27 (.int .i64 90)]))] [] [] [] ?_ ?_
 ·exact oc (g_mi (miE 90))<|oc (g_bd (fun uZ=>bdFl ⟨#[80,32,105,115,32,101,118,101,110]⟩ _ _ uZ))<|oc (g_mi (miF ⟨#[80,32,105,115,32,101,118,101,110]⟩ _ _))<|oc g_as on
 intro u4 HB4 sz4 K4
 simp only[sQ] at K4⊢
 clear K3 HB3
 go_wp2
 refine bodyPost_ret (v:= .iface 79 (.agg #[.string ⟨#[80,32,105,115,32,101,118,101,110]⟩,(.iface 27 (.int .i64 90))])) (by simp[results,Tryz.results43,go_sem,]) rfl ⟨rfl,HB4⟩
theorem group_3(p q g h c:Int)(w:World)(hp:In p)(hq:In q)(i2:In 2)(iq:In (p/2))(hC:Hid (∀u,CC 73 #[NV p,NV 7] u (.int .i64 c)))(hc:decide (c<0)=false)(im:In (p%2))(h2:decide (p%2=0)=false)(h3:decide (p/2=q)=!true):CC 43 #[GX p q g h] w (.iface 79 (.agg #[.string ⟨#[80,32,105,115,32,110,111,116,32,50,32,81,32,97,110,100,32,49]⟩,(.iface 27 (.int .i64 90))])):=by
 go_enter Tryz.func43,Tryz.ntmps43
 go_upto_region 1 with fail
 generalize hC:(w.alloc (.cells (GE p q g h:List Value).toArray 26))=v0 at *
 have HB0:Bw w v0:=by rw[<-hC];exact Z0 (Z5 w) _
 have K0:Bk w.heap.size v0 [(true,w.heap.size,GE p q g h)]:=by rw[<-hC];exact(Bk.nil _ w).ad
 clear hC
 go_upto_region 1 with fail
 refine rgP K0 HB0 HB0.size [] [(9,3,L0w,some (11,LW (p/2))),(10,4,L0s,some (12,LN (p%2)))] [(0,7,.pointer (some ⟨w.heap.size,0,none⟩)),(1,8,NV p),(2,9,WV p),(3,10,NV 2),(4,11,.tuple #[WV (p/2),NV (p%2),.int .i64 0]),(5,6,.tuple #[WV (p/2),NV (p%2),.int .i64 0]),(6,12,WV (p/2)),(7,13,NV (p%2)),(8,14,.int .i64 0),(13,5,.int .i64 0)] [(11,9),(12,10)] [] [] ?_ ?_
 ·exact oc (g_fd (fun uZ=>fdG0 _ uZ))<|oc (g_lo 0 0 uN iN)<|oc (g_cl Zd (fun uZ=>Xr p uZ hp))<|oc (g_cl Z9 (fun uZ=>nOf 2 uZ (by decide) (by decide)))<|oc (g_cl Ym (fun uZ=>Ui p 2 uZ hp.wide i2 (by decide)))<|oc g_mv<|oc g_ex<|oc g_ex<|oc g_ex<|oc (g_al 0 aW)<|oc (g_al 1 aN)<|oc (g_sn 0 iW)<|oc (g_sn 1 iN)<|oc g_as on
 intro u1 b1_9 b1_10 HB1 sz1 K1
 simp only[sQ] at K1⊢
 clear K0 HB0
 go_upto_region 2 with fail
 refine rgD K1 HB1 HB1.size [] [] [(0,16,.pointer (some ⟨w.heap.size,0,none⟩)),(1,17,NV p),(2,18,NV 7),(3,19,.int .i64 c),(4,20,.bool false),(5,15,.bool false)] [] [] [] ?_ ?_
 ·exact oc (g_fd (fun uZ=>fdG0 _ uZ))<|oc (g_lo 0 0 uN iN)<|oc (g_cl Z9 (fun uZ=>nOf 7 uZ (by decide) (by decide)))<|oc (g_cl Zn (fun uZ=>hC.out uZ))<|oc (g_bn (fun uZ=>lss_z _ _ _ _ _ uZ hc))<|oc g_as on
 intro u2 HB2 sz2 K2
 simp only[sQ] at K2⊢
 clear K1 HB1
 go_upto_region 4 with fail
 refine rgP K2 HB2 HB2.size [] [] [(0,29,NV (p%2)),(1,30,A4 (0) (0) (0) (0)),(2,31,.bool false),(3,28,.bool false)] [] [] [true,true,false] ?_ ?_
 ·exact oc (g_ld 2 uN iN)<|oc (g_bd zN)<|oc (g_bn (fun uZ=>Ux _ _ im _ h2 uZ))<|oc g_as on
 intro u3 HB3 sz3 K3
 simp only[sQ] at K3⊢
 clear K2 HB2
 go_upto_region 6 with fail
 refine rgD K3 HB3 HB3.size [] [] [(0,36,WV (p/2)),(1,37,.pointer (some ⟨w.heap.size,4,none⟩)),(2,38,NV q),(3,39,WV q),(4,40,.bool true),(5,35,.bool true)] [] [] [false,false] ?_ ?_
 ·exact oc (g_ld 1 uW iW)<|oc (g_fd (fun uZ=>fdG1 _ uZ))<|oc (g_lo 0 4 uN iN)<|oc (g_cl Zd (fun uZ=>Xr q uZ hq))<|oc (g_bn (fun uZ=>neq_ww _ _ iq hq _ h3 uZ))<|oc g_as on
 intro u4 HB4 sz4 K4
 simp only[sQ] at K4⊢
 clear K3 HB3
 go_upto_region 7 with fail
 refine rgP K4 HB4 HB4.size [] [] [(0,41,.iface 27 (.int .i64 90)),(1,42,.agg #[.string ⟨#[80,32,105,115,32,110,111,116,32,50,32,81,32,97,110,100,32,49]⟩,.iface 27 (.int .i64 90)]),(2,43,.iface 79 (.agg #[.string ⟨#[80,32,105,115,32,110,111,116,32,50,32,81,32,97,110,100,32,49]⟩,.iface 27 (.int .i64 90)])),(3,2,.iface 79 (.agg #[.string ⟨#[80,32,105,115,32,110,111,116,32,50,32,81,32,97,110,100,32,49]⟩,.iface 27 (.int .i64 90)]))] [] [] [] ?_ ?_
 ·exact oc (g_mi (miE 90))<|oc (g_bd (fun uZ=>bdFl ⟨#[80,32,105,115,32,110,111,116,32,50,32,81,32,97,110,100,32,49]⟩ _ _ uZ))<|oc (g_mi (miF ⟨#[80,32,105,115,32,110,111,116,32,50,32,81,32,97,110,100,32,49]⟩ _ _))<|oc g_as on
 intro u5 HB5 sz5 K5
 simp only[sQ] at K5⊢
 clear K4 HB4
 go_wp2
 refine bodyPost_ret (v:= .iface 79 (.agg #[.string ⟨#[80,32,105,115,32,110,111,116,32,50,32,81,32,97,110,100,32,49]⟩,(.iface 27 (.int .i64 90))])) (by simp[results,Tryz.results43,go_sem,]) rfl ⟨rfl,HB5⟩
theorem group_4(p q g h c:Int)(w:World)(hp:In p)(hq:In q)(i2:In 2)(iq:In (p/2))(hC:Hid (∀u,CC 73 #[NV p,NV 7] u (.int .i64 c)))(hc:decide (c<0)=false)(im:In (p%2))(h2:decide (p%2=0)=false)(h3:decide (p/2=q)=!false):CC 43 #[GX p q g h] w (.nilIface):=by
 go_enter Tryz.func43,Tryz.ntmps43
 go_upto_region 1 with fail
 generalize hC:(w.alloc (.cells (GE p q g h:List Value).toArray 26))=v0 at *
 have HB0:Bw w v0:=by rw[<-hC];exact Z0 (Z5 w) _
 have K0:Bk w.heap.size v0 [(true,w.heap.size,GE p q g h)]:=by rw[<-hC];exact(Bk.nil _ w).ad
 clear hC
 go_upto_region 1 with fail
 refine rgP K0 HB0 HB0.size [] [(9,3,L0w,some (11,LW (p/2))),(10,4,L0s,some (12,LN (p%2)))] [(0,7,.pointer (some ⟨w.heap.size,0,none⟩)),(1,8,NV p),(2,9,WV p),(3,10,NV 2),(4,11,.tuple #[WV (p/2),NV (p%2),.int .i64 0]),(5,6,.tuple #[WV (p/2),NV (p%2),.int .i64 0]),(6,12,WV (p/2)),(7,13,NV (p%2)),(8,14,.int .i64 0),(13,5,.int .i64 0)] [(11,9),(12,10)] [] [] ?_ ?_
 ·exact oc (g_fd (fun uZ=>fdG0 _ uZ))<|oc (g_lo 0 0 uN iN)<|oc (g_cl Zd (fun uZ=>Xr p uZ hp))<|oc (g_cl Z9 (fun uZ=>nOf 2 uZ (by decide) (by decide)))<|oc (g_cl Ym (fun uZ=>Ui p 2 uZ hp.wide i2 (by decide)))<|oc g_mv<|oc g_ex<|oc g_ex<|oc g_ex<|oc (g_al 0 aW)<|oc (g_al 1 aN)<|oc (g_sn 0 iW)<|oc (g_sn 1 iN)<|oc g_as on
 intro u1 b1_9 b1_10 HB1 sz1 K1
 simp only[sQ] at K1⊢
 clear K0 HB0
 go_upto_region 2 with fail
 refine rgD K1 HB1 HB1.size [] [] [(0,16,.pointer (some ⟨w.heap.size,0,none⟩)),(1,17,NV p),(2,18,NV 7),(3,19,.int .i64 c),(4,20,.bool false),(5,15,.bool false)] [] [] [] ?_ ?_
 ·exact oc (g_fd (fun uZ=>fdG0 _ uZ))<|oc (g_lo 0 0 uN iN)<|oc (g_cl Z9 (fun uZ=>nOf 7 uZ (by decide) (by decide)))<|oc (g_cl Zn (fun uZ=>hC.out uZ))<|oc (g_bn (fun uZ=>lss_z _ _ _ _ _ uZ hc))<|oc g_as on
 intro u2 HB2 sz2 K2
 simp only[sQ] at K2⊢
 clear K1 HB1
 go_upto_region 4 with fail
 refine rgP K2 HB2 HB2.size [] [] [(0,29,NV (p%2)),(1,30,A4 (0) (0) (0) (0)),(2,31,.bool false),(3,28,.bool false)] [] [] [true,true,false] ?_ ?_
 ·exact oc (g_ld 2 uN iN)<|oc (g_bd zN)<|oc (g_bn (fun uZ=>Ux _ _ im _ h2 uZ))<|oc g_as on
 intro u3 HB3 sz3 K3
 simp only[sQ] at K3⊢
 clear K2 HB2
 go_upto_region 6 with fail
 refine rgD K3 HB3 HB3.size [] [] [(0,36,WV (p/2)),(1,37,.pointer (some ⟨w.heap.size,4,none⟩)),(2,38,NV q),(3,39,WV q),(4,40,.bool false),(5,35,.bool false)] [] [] [false,false] ?_ ?_
 ·exact oc (g_ld 1 uW iW)<|oc (g_fd (fun uZ=>fdG1 _ uZ))<|oc (g_lo 0 4 uN iN)<|oc (g_cl Zd (fun uZ=>Xr q uZ hq))<|oc (g_bn (fun uZ=>neq_ww _ _ iq hq _ h3 uZ))<|oc g_as on
 intro u4 HB4 sz4 K4
 simp only[sQ] at K4⊢
 clear K3 HB3
 go_upto_region 8 with fail
 refine rgP K4 HB4 HB4.size [] [] [(0,2,Go.Value.nilIface)] [] [] [] ?_ ?_
 ·exact oc g_as on
 intro u5 HB5 sz5 K5
 simp only[sQ] at K5⊢
 clear K4 HB4
 go_wp2
 refine bodyPost_ret (v:= .nilIface) (by simp[results,Tryz.results43,go_sem,]) rfl ⟨rfl,HB5⟩
theorem gGroup(p q g h:Int)(w:World)(hp:In p)(hq:In q):CC 43 #[GX p q g h] w (grV p q):=by
 have i2:In 2:=⟨by decide,by decide⟩
 have i7:In 7:=⟨by decide,by decide⟩
 have iq:In (p/2):=by have:=hp.1;have:=hp.2;exact⟨by omega,by omega⟩
 have im:In (p%2):=Zs i2 (by decide)
 have hC:Hid (∀u,CC 73 #[NV p,NV 7] u (.int .i64 (cmpI p 7))):=fun u=>nCompare p 7 u hp i7
 by_cases h1:p<7
 ·have hc:decide (cmpI p 7<0)=true:=by unfold cmpI;rw[if_pos h1];rfl
  rw[show grV p q=_ from if_pos h1]
  exact group_1 p q g h _ w hp hq i2 iq hC hc
 ·have hc:decide (cmpI p 7<0)=false:=by unfold cmpI;rw[if_neg h1];split<;>rfl
  rw[show grV p q=_ from if_neg h1]
  by_cases h2:p%2=0
  ·rw[if_pos h2]
   exact group_2 p q g h _ w hp hq i2 iq hC hc im (decide_eq_true h2)
  ·rw[if_neg h2]
   by_cases h3:p/2=q
   ·rw[if_pos h3]
    exact group_4 p q g h _ w hp hq i2 iq hC hc im (decide_eq_false h2) (decide_eq_true h3)
   ·rw[if_neg h3]
    exact group_3 p q g h _ w hp hq i2 iq hC hc im (decide_eq_false h2) (decide_eq_false h3)
theorem grV_is(p q:Int):(gOk p q/\grV p q= .nilIface)\/(¬gOk p q/\EW 90 (grV p q)):=by
 unfold grV gOk
 by_cases h1:p<7
 ·rw[if_pos h1];exact .inr ⟨by omega,.wrap _ _ .leaf⟩
 ·rw[if_neg h1]
  by_cases h2:p%2=0
  ·rw[if_pos h2];exact .inr ⟨by omega,.wrap _ _ .leaf⟩
  ·rw[if_neg h2]
   by_cases h3:p/2=q
   ·rw[if_pos h3];exact .inl ⟨by omega,rfl⟩
   ·rw[if_neg h3];exact .inr ⟨by omega,.wrap _ _ .leaf⟩
end
theorem member_1(p q g h x c v:Int)(w:World)(hp:In p)(hq:In q)(hx:In x)(h0:decide (x=0)=true):CC 59 #[GX p q g h,NV x] w (.iface 79 (.agg #[.string (tx x++sX1),(.iface 27 (.int .i64 90))])):=by
 go_enter Tryz.func59,Tryz.ntmps59
 go_upto_region 1 with fail
 generalize hC:((w.alloc (.cells (GE p q g h:List Value).toArray 26)).alloc (.cells (LN x:List Value).toArray 24))=v0 at *
 have HB0:Bw w v0:=by rw[<-hC];exact Z0 (Z0 (Z5 w) _) _
 have K0:Bk w.heap.size v0 [(true,w.heap.size,GE p q g h),(true,w.heap.size+1,LN x)]:=by rw[<-hC];exact(Bk.nil _ w).ad.ad
 clear hC
 refine rgP K0 HB0 HB0.size [] [] [(0,7,NV x),(1,8,A4 (0) (0) (0) (0)),(2,9,.bool true),(3,10,.bool true),(4,11,undef),(5,12,undef),(6,13,undef),(7,14,undef),(8,15,undef),(9,16,(Go.Value.bool Bool.true))] [] [] [false] ?_ ?_
 ·exact oc (g_ld 1 uN iN)<|oc (g_bd zN)<|oc (g_bn (fun uZ=>Ux _ _ hx _ h0 uZ))<|oc g_mv<|oc g_sk<|oc g_sk<|oc g_sk<|oc g_sk<|oc g_sk<|oc g_pk on
 intro u1 HB1 sz1 K1
 simp only[sQ] at K1⊢
 clear K0 HB0
 go_upto_region 2 with fail
 refine rgP K1 HB1 HB1.size [] [] [(0,17,NV x),(1,18,.string (tx x)),(2,19,.string (tx x++sX1)),(3,20,.iface 27 (.int .i64 90)),(4,21,.agg #[.string (tx x++sX1),.iface 27 (.int .i64 90)]),(5,22,.iface 79 (.agg #[.string (tx x++sX1),.iface 27 (.int .i64 90)])),(6,4,.iface 79 (.agg #[.string (tx x++sX1),.iface 27 (.int .i64 90)]))] [] [] [false] ?_ ?_
 ·exact oc (g_ld 0 uN iN)<|oc (g_cl Xl (fun uZ=>nText x uZ))<|oc (g_bn (fun uZ=>add_st _ _ (tx x) sX1 uZ (by have:=tx_sz x;have:sX1.size=23:=rfl;omega)))<|oc (g_mi (miE 90))<|oc (g_bd (fun uZ=>bdFl (tx x++sX1) _ _ uZ))<|oc (g_mi (miF (tx x++sX1) _ _))<|oc g_as on
 intro u2 HB2 sz2 K2
 simp only[sQ] at K2⊢
 clear K1 HB1
 go_wp2
 refine bodyPost_ret (v:= .iface 79 (.agg #[.string (tx x++sX1),(.iface 27 (.int .i64 90))])) (by simp[results,Tryz.results59,go_sem,]) rfl ⟨rfl,HB2⟩
theorem member_2(p q g h x c v:Int)(w:World)(hp:In p)(hq:In q)(hx:In x)(h0:decide (x=0)=false)(hC:Hid (∀u,CC 73 #[NV x,NV p] u (.int .i64 c)))(hc:decide (0<=c)=true):CC 59 #[GX p q g h,NV x] w (.iface 79 (.agg #[.string (tx x++sX1),(.iface 27 (.int .i64 90))])):=by
 go_enter Tryz.func59,Tryz.ntmps59
 go_upto_region 1 with fail
 generalize hC:((w.alloc (.cells (GE p q g h:List Value).toArray 26)).alloc (.cells (LN x:List Value).toArray 24))=v0 at *
 have HB0:Bw w v0:=by rw[<-hC];exact Z0 (Z0 (Z5 w) _) _
 have K0:Bk w.heap.size v0 [(true,w.heap.size,GE p q g h),(true,w.heap.size+1,LN x)]:=by rw[<-hC];exact(Bk.nil _ w).ad.ad
 clear hC
 refine rgP K0 HB0 HB0.size [] [] [(0,7,NV x),(1,8,A4 (0) (0) (0) (0)),(2,9,.bool false),(3,10,.bool false),(4,11,NV x),(5,12,.pointer (some ⟨w.heap.size,0,none⟩)),(6,13,NV p),(7,14,.int .i64 c),(8,15,.bool true),(9,16,.bool true)] [] [] [false] ?_ ?_
 ·exact oc (g_ld 1 uN iN)<|oc (g_bd zN)<|oc (g_bn (fun uZ=>Ux _ _ hx _ h0 uZ))<|oc g_mv<|oc (g_ld 1 uN iN)<|oc (g_fd (fun uZ=>fdG0 _ uZ))<|oc (g_lo 0 0 uN iN)<|oc (g_cl Zn (fun uZ=>hC.out uZ))<|oc (g_bn (fun uZ=>geq_y _ _ _ _ _ uZ hc))<|oc g_pk on
 intro u1 HB1 sz1 K1
 simp only[sQ] at K1⊢
 clear K0 HB0
 go_upto_region 2 with fail
 refine rgP K1 HB1 HB1.size [] [] [(0,17,NV x),(1,18,.string (tx x)),(2,19,.string (tx x++sX1)),(3,20,.iface 27 (.int .i64 90)),(4,21,.agg #[.string (tx x++sX1),.iface 27 (.int .i64 90)]),(5,22,.iface 79 (.agg #[.string (tx x++sX1),.iface 27 (.int .i64 90)])),(6,4,.iface 79 (.agg #[.string (tx x++sX1),.iface 27 (.int .i64 90)]))] [] [] [false] ?_ ?_
 ·exact oc (g_ld 0 uN iN)<|oc (g_cl Xl (fun uZ=>nText x uZ))<|oc (g_bn (fun uZ=>add_st _ _ (tx x) sX1 uZ (by have:=tx_sz x;have:sX1.size=23:=rfl;omega)))<|oc (g_mi (miE 90))<|oc (g_bd (fun uZ=>bdFl (tx x++sX1) _ _ uZ))<|oc (g_mi (miF (tx x++sX1) _ _))<|oc g_as on
 intro u2 HB2 sz2 K2
 simp only[sQ] at K2⊢
 clear K1 HB1
 go_wp2
 refine bodyPost_ret (v:= .iface 79 (.agg #[.string (tx x++sX1),(.iface 27 (.int .i64 90))])) (by simp[results,Tryz.results59,go_sem,]) rfl ⟨rfl,HB2⟩
theorem member_3(p q g h x c v:Int)(w:World)(hp:In p)(hq:In q)(hx:In x)(h0:decide (x=0)=false)(hC:Hid (∀u,CC 73 #[NV x,NV p] u (.int .i64 c)))(hc:decide (0<=c)=false)(hE:Hid (∀u,CC 63 #[NV x,NV q,NV p] u (.tuple #[NV v,.int .i64 0])))(hv:In v)(i1:In 1)(h1:decide (v=1)=!true):CC 59 #[GX p q g h,NV x] w (.iface 79 (.agg #[.string (tx x++sX2),(.iface 27 (.int .i64 90))])):=by
 go_enter Tryz.func59,Tryz.ntmps59
 go_upto_region 1 with fail
 generalize hC:((w.alloc (.cells (GE p q g h:List Value).toArray 26)).alloc (.cells (LN x:List Value).toArray 24))=v0 at *
 have HB0:Bw w v0:=by rw[<-hC];exact Z0 (Z0 (Z5 w) _) _
 have K0:Bk w.heap.size v0 [(true,w.heap.size,GE p q g h),(true,w.heap.size+1,LN x)]:=by rw[<-hC];exact(Bk.nil _ w).ad.ad
 clear hC
 refine rgP K0 HB0 HB0.size [] [] [(0,7,NV x),(1,8,A4 (0) (0) (0) (0)),(2,9,.bool false),(3,10,.bool false),(4,11,NV x),(5,12,.pointer (some ⟨w.heap.size,0,none⟩)),(6,13,NV p),(7,14,.int .i64 c),(8,15,.bool false),(9,16,.bool false)] [] [] [] ?_ ?_
 ·exact oc (g_ld 1 uN iN)<|oc (g_bd zN)<|oc (g_bn (fun uZ=>Ux _ _ hx _ h0 uZ))<|oc g_mv<|oc (g_ld 1 uN iN)<|oc (g_fd (fun uZ=>fdG0 _ uZ))<|oc (g_lo 0 0 uN iN)<|oc (g_cl Zn (fun uZ=>hC.out uZ))<|oc (g_bn (fun uZ=>geq_y _ _ _ _ _ uZ hc))<|oc g_pk on
 intro u1 HB1 sz1 K1
 simp only[sQ] at K1⊢
 clear K0 HB0
 go_upto_region 3 with fail
 refine rgP K1 HB1 HB1.size [] [(9,5,L0s,some (10,LN v))] [(0,24,NV x),(1,25,.pointer (some ⟨w.heap.size,4,none⟩)),(2,26,NV q),(3,27,.pointer (some ⟨w.heap.size,0,none⟩)),(4,28,NV p),(5,29,.tuple #[NV v,.int .i64 0]),(6,23,.tuple #[NV v,.int .i64 0]),(7,30,NV v),(8,31,.int .i64 0),(11,6,.int .i64 0)] [(10,9)] [] [false] ?_ ?_
 ·exact oc (g_ld 1 uN iN)<|oc (g_fd (fun uZ=>fdG1 _ uZ))<|oc (g_lo 0 4 uN iN)<|oc (g_fd (fun uZ=>fdG0 _ uZ))<|oc (g_lo 0 0 uN iN)<|oc (g_cl Vz (fun uZ=>hE.out uZ))<|oc g_mv<|oc g_ex<|oc g_ex<|oc (g_al 0 aN)<|oc (g_sn 0 iN)<|oc g_as on
 intro u2 b2_9 HB2 sz2 K2
 simp only[sQ] at K2⊢
 clear K1 HB1
 go_upto_region 4 with fail
 refine rgD K2 HB2 HB2.size [] [] [(0,32,NV v),(1,33,NV 1),(2,34,.bool true)] [] [] [true,false] ?_ ?_
 ·exact oc (g_ld 1 uN iN)<|oc (g_cl Z9 (fun uZ=>nOf 1 uZ (by decide) (by decide)))<|oc (g_bn (fun uZ=>neq_n _ _ hv i1 _ h1 uZ)) on
 intro u3 HB3 sz3 K3
 simp only[sQ] at K3⊢
 clear K2 HB2
 go_upto_region 5 with fail
 refine rgP K3 HB3 HB3.size [] [] [(0,35,NV x),(1,36,.string (tx x)),(2,37,.string (tx x++sX2)),(3,38,.iface 27 (.int .i64 90)),(4,39,.agg #[.string (tx x++sX2),.iface 27 (.int .i64 90)]),(5,40,.iface 79 (.agg #[.string (tx x++sX2),.iface 27 (.int .i64 90)])),(6,4,.iface 79 (.agg #[.string (tx x++sX2),.iface 27 (.int .i64 90)]))] [] [] [false] ?_ ?_
 ·exact oc (g_ld 0 uN iN)<|oc (g_cl Xl (fun uZ=>nText x uZ))<|oc (g_bn (fun uZ=>add_st _ _ (tx x) sX2 uZ (by have:=tx_sz x;have:sX2.size=18:=rfl;omega)))<|oc (g_mi (miE 90))<|oc (g_bd (fun uZ=>bdFl (tx x++sX2) _ _ uZ))<|oc (g_mi (miF (tx x++sX2) _ _))<|oc g_as on
 intro u4 HB4 sz4 K4
 simp only[sQ] at K4⊢
 clear K3 HB3
 go_wp2
 refine bodyPost_ret (v:= .iface 79 (.agg #[.string (tx x++sX2),(.iface 27 (.int .i64 90))])) (by simp[results,Tryz.results59,go_sem,]) rfl ⟨rfl,HB4⟩
theorem member_4(p q g h x c v:Int)(w:World)(hp:In p)(hq:In q)(hx:In x)(h0:decide (x=0)=false)(hC:Hid (∀u,CC 73 #[NV x,NV p] u (.int .i64 c)))(hc:decide (0<=c)=false)(hE:Hid (∀u,CC 63 #[NV x,NV q,NV p] u (.tuple #[NV v,.int .i64 0])))(hv:In v)(i1:In 1)(h1:decide (v=1)=!false):CC 59 #[GX p q g h,NV x] w (.nilIface):=by
 go_enter Tryz.func59,Tryz.ntmps59
 go_upto_region 1 with fail
 generalize hC:((w.alloc (.cells (GE p q g h:List Value).toArray 26)).alloc (.cells (LN x:List Value).toArray 24))=v0 at *
 have HB0:Bw w v0:=by rw[<-hC];exact Z0 (Z0 (Z5 w) _) _
 have K0:Bk w.heap.size v0 [(true,w.heap.size,GE p q g h),(true,w.heap.size+1,LN x)]:=by rw[<-hC];exact(Bk.nil _ w).ad.ad
 clear hC
 refine rgP K0 HB0 HB0.size [] [] [(0,7,NV x),(1,8,A4 (0) (0) (0) (0)),(2,9,.bool false),(3,10,.bool false),(4,11,NV x),(5,12,.pointer (some ⟨w.heap.size,0,none⟩)),(6,13,NV p),(7,14,.int .i64 c),(8,15,.bool false),(9,16,.bool false)] [] [] [] ?_ ?_
 ·exact oc (g_ld 1 uN iN)<|oc (g_bd zN)<|oc (g_bn (fun uZ=>Ux _ _ hx _ h0 uZ))<|oc g_mv<|oc (g_ld 1 uN iN)<|oc (g_fd (fun uZ=>fdG0 _ uZ))<|oc (g_lo 0 0 uN iN)<|oc (g_cl Zn (fun uZ=>hC.out uZ))<|oc (g_bn (fun uZ=>geq_y _ _ _ _ _ uZ hc))<|oc g_pk on
 intro u1 HB1 sz1 K1
 simp only[sQ] at K1⊢
 clear K0 HB0
 go_upto_region 3 with fail
 refine rgP K1 HB1 HB1.size [] [(9,5,L0s,some (10,LN v))] [(0,24,NV x),(1,25,.pointer (some ⟨w.heap.size,4,none⟩)),(2,26,NV q),(3,27,.pointer (some ⟨w.heap.size,0,none⟩)),(4,28,NV p),(5,29,.tuple #[NV v,.int .i64 0]),(6,23,.tuple #[NV v,.int .i64 0]),(7,30,NV v),(8,31,.int .i64 0),(11,6,.int .i64 0)] [(10,9)] [] [false,false] ?_ ?_
 ·exact oc (g_ld 1 uN iN)<|oc (g_fd (fun uZ=>fdG1 _ uZ))<|oc (g_lo 0 4 uN iN)<|oc (g_fd (fun uZ=>fdG0 _ uZ))<|oc (g_lo 0 0 uN iN)<|oc (g_cl Vz (fun uZ=>hE.out uZ))<|oc g_mv<|oc g_ex<|oc g_ex<|oc (g_al 0 aN)<|oc (g_sn 0 iN)<|oc g_as on
 intro u2 b2_9 HB2 sz2 K2
 simp only[sQ] at K2⊢
 clear K1 HB1
 go_upto_region 4 with fail
 refine rgD K2 HB2 HB2.size [] [] [(0,32,NV v),(1,33,NV 1),(2,34,.bool false)] [] [] [false] ?_ ?_
 ·exact oc (g_ld 0 uN iN)<|oc (g_cl Z9 (fun uZ=>nOf 1 uZ (by decide) (by decide)))<|oc (g_bn (fun uZ=>neq_n _ _ hv i1 _ h1 uZ)) on
 intro u3 HB3 sz3 K3
 simp only[sQ] at K3⊢
 clear K2 HB2
 go_upto_region 6 with fail
 refine rgP K3 HB3 HB3.size [] [] [(0,4,Go.Value.nilIface)] [] [] [] ?_ ?_
 ·exact oc g_as on
 intro u4 HB4 sz4 K4
 simp only[sQ] at K4⊢
 clear K3 HB3
 go_wp2
 refine bodyPost_ret (v:= .nilIface) (by simp[results,Tryz.results59,go_sem,]) rfl ⟨rfl,HB4⟩
theorem cMember(p q g h x:Int)(w:World)(hp:In p)(hq:In q)(hx:In x)(hp0:p≠0):CC 59 #[GX p q g h,NV x] w (mbV p q x):=by
 have hC:Hid (∀u,CC 73 #[NV x,NV p] u (.int .i64 (cmpI x p))):=fun u=>nCompare x p u hx hp
 by_cases h0:x=0
 ·rw[show mbV p q x=_ from if_pos (.inl h0)]
  exact member_1 p q g h x 0 0 w hp hq hx (decide_eq_true h0)
 ·by_cases h1:p<=x
  ·have hc:decide (0<=cmpI x p)=true:=by unfold cmpI;rw[if_neg (by omega)];split<;>rfl
   rw[show mbV p q x=_ from if_pos (.inr h1)]
   exact member_2 p q g h x _ 0 w hp hq hx (decide_eq_false h0) hC hc
  ·have hc:decide (0<=cmpI x p)=false:=by unfold cmpI;rw[if_pos (by omega)];rfl
   rw[show mbV p q x=_ from if_neg (by omega)]
   have hE:Hid (∀u,CC 63 #[NV x,NV q,NV p] u (.tuple #[NV (x^q.toNat%p),.int .i64 0])):=fun u=>mExp x q p u hx hq hp hp0
   have i1:In 1:=⟨by decide,by decide⟩
   by_cases h2:x^q.toNat%p=1
   ·rw[if_pos h2]
    exact member_4 p q g h x _ _ w hp hq hx (decide_eq_false h0) hC hc hE (Zs hp hp0) i1 (decide_eq_true h2)
   ·rw[if_neg h2]
    exact member_3 p q g h x _ _ w hp hq hx (decide_eq_false h0) hC hc hE (Zs hp hp0) i1 (decide_eq_false h2)
theorem mbV_is(p q x:Int)(hx:In x):(Mb p q x/\mbV p q x= .nilIface)\/(¬Mb p q x/\EW 90 (mbV p q x)):=by
 have h0:=hx.1
 unfold mbV Mb
 by_cases h1:x=0\/p<=x
 ·rw[if_pos h1];exact .inr ⟨fun h=>by have:=h.1;have:=h.2.1;omega,.wrap _ _ .leaf⟩
 ·rw[if_neg h1]
  by_cases h2:x^q.toNat%p=1
  ·rw[if_pos h2];exact .inl ⟨⟨by omega,by omega,h2⟩,rfl⟩
  ·rw[if_neg h2];exact .inr ⟨fun h=>h2 h.2.2,.wrap _ _ .leaf⟩
theorem members_c(p q g h:Int)(T:TypeId)(x:Value)(sl:Option Addr)(n cap:Nat)(w:World)(hC:Hid (∀u,CC 43 #[GX p q g h] u (.iface T x))):
 CC 35 #[GX p q g h,.slice sl n cap] w (.iface 79 (.agg #[.string ⟨#[103,114,111,117,112]⟩,.iface T x])):=by
 go_enter Tryz.func35,Tryz.ntmps35
 go_upto_region 1 with fail
 generalize hC:(w.alloc (.cells (GE p q g h:List Value).toArray 26))=v0 at *
 have HB0:Bw w v0:=by rw[<-hC];exact Z0 (Z5 w) _
 have K0:Bk w.heap.size v0 [(true,w.heap.size,GE p q g h)]:=by rw[<-hC];exact(Bk.nil _ w).ad
 clear hC
 refine rgP K0 HB0 HB0.size [] [] [(0,9,GX p q g h),(1,10,.iface T x),(2,5,.iface T x)] [] [] [false] ?_ ?_
 ·exact oc (g_ld 0 Tryz.underlying26 Z1)<|oc (g_cl Yg (fun uZ=>hC.out uZ))<|oc g_as on
 intro u1 HB1 sz1 K1
 simp only[sQ] at K1⊢
 clear K0 HB0
 go_upto_region 2 with fail
 refine rgP K1 HB1 HB1.size [] [] [(0,11,.iface T x),(1,12,.bool true)] [] [] [] ?_ ?_
 ·exact oc g_mv<|oc (g_bn (fun uZ=>neq_er _ _ _ _ uZ)) on
 intro u2 HB2 sz2 K2
 simp only[sQ] at K2⊢
 clear K1 HB1
 go_upto_region 3 with fail
 refine rgP K2 HB2 HB2.size [] [] [(0,13,.iface T x),(1,14,.agg #[.string ⟨#[103,114,111,117,112]⟩,.iface T x]),(2,15,.iface 79 (.agg #[.string ⟨#[103,114,111,117,112]⟩,.iface T x])),(3,4,.iface 79 (.agg #[.string ⟨#[103,114,111,117,112]⟩,.iface T x]))] [] [] [] ?_ ?_
 ·exact oc g_mv<|oc (g_bd (fun uZ=>bdFl ⟨#[103,114,111,117,112]⟩ T x uZ))<|oc (g_mi (miF ⟨#[103,114,111,117,112]⟩ T x))<|oc g_as on
 intro u3 HB3 sz3 K3
 simp only[sQ] at K3⊢
 clear K2 HB2
 go_wp2
 refine bodyPost_ret (v:= .iface 79 (.agg #[.string ⟨#[103,114,111,117,112]⟩,.iface T x])) (by simp[results,Tryz.results35,go_sem,]) rfl ⟨rfl,HB3⟩
theorem members_k(p q g h:Int)(rv:Value)(sl:Option Addr)(gb go cap:Nat)(ns:List Int)(w:World)(hG:GT w)(hns:ns.length<=50)(hp:In p)(hq:In q)(hp0:p≠0)(hn:Hid (∀k,k<ns.length->In (ns.getD k 0)))(hix:Hid (∀j,j<ns.length-> ∀W,(Instr.indexAt 35 (.slice sl ns.length cap) (.int .i64 j)).run Tryz.prog W= .ok (.pointer (some ⟨gb,go+4*j,none⟩)) W))(hg0:ns.length=0\/gb<w.heap.size)(hS:Hid (SN w gb go ns))(hC:Hid (∀u,CC 43 #[GX p q g h] u (.nilIface)))
 (hE:Hid (∀k,k<ns.length->(∀j,j<k->Mb p q (ns.getD j 0))-> ¬Mb p q (ns.getD k 0)->rv= .iface 79 (.agg #[.string (sM2++ia (k:Int)),mbV p q (ns.getD k 0)])))(hE2:Hid ((∀j,j<ns.length->Mb p q (ns.getD j 0))->rv= .nilIface)):
 CC 35 #[GX p q g h,.slice sl ns.length cap] w rv:=by
 go_enter Tryz.func35,Tryz.ntmps35
 go_upto_region 1 with fail
 generalize hC:(w.alloc (.cells (GE p q g h:List Value).toArray 26))=v0 at *
 have HB0:Bw w v0:=by rw[<-hC];exact Z0 (Z5 w) _
 have K0:Bk w.heap.size v0 [(true,w.heap.size,GE p q g h)]:=by rw[<-hC];exact(Bk.nil _ w).ad
 clear hC
 refine rgP K0 HB0 HB0.size [] [] [(0,9,GX p q g h),(1,10,.nilIface),(2,5,.nilIface)] [] [] [] ?_ ?_
 ·exact oc (g_ld 0 Tryz.underlying26 Z1)<|oc (g_cl Yg (fun uZ=>hC.out uZ))<|oc g_as on
 intro u1 HB1 sz1 K1
 simp only[sQ] at K1⊢
 clear K0 HB0
 go_upto_region 2 with fail
 refine rgP K1 HB1 HB1.size [] [] [(0,11,.nilIface),(1,12,.bool false)] [] [] [] ?_ ?_
 ·exact oc g_mv<|oc (g_bn (fun uZ=>neq_no _ _ uZ)) on
 intro u2 HB2 sz2 K2
 simp only[sQ] at K2⊢
 clear K1 HB1
 go_upto_region 4 with fail
 refine rgP K2 HB2 HB2.size [] [] [(0,16,.slice sl ns.length cap),(1,17,.int .i64 (ns.length:Int)),(2,18,(Go.Value.int Go.IntKind.i64 0))] [] [] [] ?_ ?_
 ·exact oc g_mv<|oc (g_ln Tryz.underlying35)<|oc g_mv on
 intro u3 HB3 sz3 K3
 simp only[sQ] at K3⊢
 clear K2 HB2
 go_wp2_with fail
 go_loopw [18] (fun s18 wr=> ∃(k:Nat),k<=ns.length/\s18= .int .i64 (k:Int)/\Hid (∀j,j<k->Mb p q (ns.getD j 0))/\Bw w wr/\CV wr (w.heap.size) (GE p q g h)/\w.heap.size<wr.heap.size) (fun s18 _=>ns.length -(intOf s18).toNat)
 case atStart=>exact⟨0,by omega,rfl,fun j hj=>absurd hj (by omega),HB3,(K3.cv 0),(K3.lt 0)⟩
 case round=>
  obtain⟨k,hk,rfl,hall,HBr,Kg,lg⟩:=hrel
  clear HB3
  by_cases hj:k<ns.length
  ·have hl:decide ((k:Int)<(ns.length:Int))=true:=by simp;omega
   have iy:=hn.out k hj
   have hX:=hix.out k hj
   have hX:Hid _:=hX
   have hR:=hS.out.at k hj
   have hR:Hid _:=hR
   have hlen:(k:Int)<1000:=by omega
   have hev:=hE.out k hj hall.out
   have hev:Hid _:=hev
   have hI:Hid (∀u,CC 59 #[GX p q g h,NV (ns.getD k 0)] u (mbV p q (ns.getD k 0))):=fun u=>cMember p q g h _ u hp hq iy hp0
   have hmb:=mbV_is p q _ iy
   have hall2:Mb p q (ns.getD k 0)->Hid (∀j,j<k+1->Mb p q (ns.getD j 0)):=fun hb j hj2=>by
    by_cases e:j=k
    ·subst e;exact hb
    ·exact hall.out j (by omega)
   rcases hmb with⟨hb,hm⟩ | ⟨hb,hm⟩
   ·have hev2:Hid _:=hall2 hb
    rw[hm] at hI
    clear hm hb hall2 hev
    obtain⟨y,ey⟩: ∃y,ns.getD k 0=y:=⟨_,rfl⟩
    rw[ey] at iy hR hI
    clear ey
    have K3_1:Bk w.heap.size wr [(false,w.heap.size,GE p q g h)]:=⟨.c lg Kg<|trivial,by simp⟩
    go_upto_region 5 with fail
    refine rgP K3_1 HBr HBr.size [] [] [(0,19,.bool true)] [] [] [] ?_ ?_
    ·exact oc (g_bn (fun uZ=>lss_z _ _ (k:Int) (ns.length:Int) _ uZ hl)) on
    intro u4 HB4 sz4 K4
    simp only[sQ] at K4⊢
    go_upto_region 6 with fail
    refine rgP K4 HB4 HB4.size [] [(3,7,L0s,some (5,LN y))] [(0,20,.int .i64 (k:Int)),(1,21,.pointer (some ⟨gb,go+4*k,none⟩)),(2,22,NV y),(4,6,.int .i64 (k:Int))] [(5,3)] [] [] ?_ ?_
    ·exact oc g_mv<|oc (g_ix (fun uZ=>hX.out uZ))<|oc (g_lf hR.out (hg0.resolve_left (by omega)) uN iN)<|oc (g_al 0 aN)<|oc g_as<|oc (g_sn 0 iN) on
    intro u5 b5_3 HB5 sz5 K5
    simp only[sQ] at K5⊢
    clear K4 HB4
    go_upto_region 7 with fail
    refine rgP K5 HB5 HB5.size [] [] [(0,23,GX p q g h),(1,24,NV y),(2,25,.nilIface),(3,8,.nilIface)] [] [] [true,false] ?_ ?_
    ·exact oc (g_ld 0 Tryz.underlying26 Z1)<|oc (g_ld 1 uN iN)<|oc (g_cl Vu (fun uZ=>hI.out uZ))<|oc g_as on
    intro u6 HB6 sz6 K6
    simp only[sQ] at K6⊢
    clear K5 HB5
    go_upto_region 8 with fail
    refine rgP K6 HB6 HB6.size [] [] [(0,26,.nilIface),(1,27,.bool false)] [] [] [] ?_ ?_
    ·exact oc g_mv<|oc (g_bn (fun uZ=>neq_no _ _ uZ)) on
    intro u7 HB7 sz7 K7
    simp only[sQ] at K7⊢
    clear K6 HB6
    go_upto_region 10 with fail
    refine rgP K7 HB7 HB7.size [] [] [(0,34,.int .i64 ((k+1:Nat):Int)),(1,18,.int .i64 ((k+1:Nat):Int))] [(1,0)] [(1,18)] [] ?_ ?_
    ·exact oc (g_bn (fun uZ=>Yq _ _ (k:Int) 1 ((k+1:Nat):Int) uZ (by omega) (by omega) (by omega)))<|oc g_mv on
    intro u8 HB8 sz8 K8
    simp only[sQ] at K8⊢
    clear K7 HB7
    go_wp2
    refine⟨⟨k+1,by omega,rfl,hev2,HB8,(K8.cv 0),(K8.lt 0)⟩,?_⟩
    simp[intOf]<;>omega
   ·have hev2:=hev.out hb
    obtain⟨T,x,ex⟩:=hm.some
    rw[ex] at hI hev2
    have hev2:Hid _:=hev2
    clear hm hb hall2 hev ex
    obtain⟨y,ey⟩: ∃y,ns.getD k 0=y:=⟨_,rfl⟩
    rw[ey] at iy hR hI
    clear ey
    have K3_1:Bk w.heap.size wr [(false,w.heap.size,GE p q g h)]:=⟨.c lg Kg<|trivial,by simp⟩
    go_upto_region 5 with fail
    refine rgP K3_1 HBr HBr.size [] [] [(0,19,.bool true)] [] [] [] ?_ ?_
    ·exact oc (g_bn (fun uZ=>lss_z _ _ (k:Int) (ns.length:Int) _ uZ hl)) on
    intro u4 HB4 sz4 K4
    simp only[sQ] at K4⊢
    go_upto_region 6 with fail
    refine rgP K4 HB4 HB4.size [] [(3,7,L0s,some (5,LN y))] [(0,20,.int .i64 (k:Int)),(1,21,.pointer (some ⟨gb,go+4*k,none⟩)),(2,22,NV y),(4,6,.int .i64 (k:Int))] [(5,3)] [] [] ?_ ?_
    ·exact oc g_mv<|oc (g_ix (fun uZ=>hX.out uZ))<|oc (g_lf hR.out (hg0.resolve_left (by omega)) uN iN)<|oc (g_al 0 aN)<|oc g_as<|oc (g_sn 0 iN) on
    intro u5 b5_3 HB5 sz5 K5
    simp only[sQ] at K5⊢
    clear K4 HB4
    go_upto_region 7 with fail
    refine rgP K5 HB5 HB5.size [] [] [(0,23,GX p q g h),(1,24,NV y),(2,25,.iface T x),(3,8,.iface T x)] [] [] [false,false] ?_ ?_
    ·exact oc (g_ld 0 Tryz.underlying26 Z1)<|oc (g_ld 1 uN iN)<|oc (g_cl Vu (fun uZ=>hI.out uZ))<|oc g_as on
    intro u6 HB6 sz6 K6
    simp only[sQ] at K6⊢
    clear K5 HB5
    go_upto_region 8 with fail
    refine rgP K6 HB6 HB6.size [] [] [(0,26,.iface T x),(1,27,.bool true)] [] [] [] ?_ ?_
    ·exact oc g_mv<|oc (g_bn (fun uZ=>neq_er _ _ _ _ uZ)) on
    intro u7 HB7 sz7 K7
    simp only[sQ] at K7⊢
    clear K6 HB6
    go_upto_region 9 with fail
    refine rgP K7 HB7 HB7.size [] [] [(0,28,.int .i64 (k:Int)),(1,29,.string (ia (k:Int))),(2,30,.string (sM2++ia (k:Int))),(3,31,.iface T x),(4,32,.agg #[.string (sM2++ia (k:Int)),.iface T x]),(5,33,.iface 79 (.agg #[.string (sM2++ia (k:Int)),.iface T x])),(6,4,.iface 79 (.agg #[.string (sM2++ia (k:Int)),.iface T x]))] [] [] [] ?_ ?_
    ·exact oc g_mv<|oc (g_cb Uy (fun uZ bZ=>cItoa (k:Int) uZ (by omega) (by omega) (hG.below bZ)))<|oc (g_bn (fun uZ=>add_st _ _ sM2 (ia (k:Int)) uZ (by have:=ia_sz (k:Int) (by omega) (by omega);have:sM2.size=7:=rfl;omega)))<|oc g_mv<|oc (g_bd (fun uZ=>bdFl (sM2++ia (k:Int)) T x uZ))<|oc (g_mi (miF (sM2++ia (k:Int)) T x))<|oc g_as on
    intro u8 HB8 sz8 K8
    simp only[sQ] at K8⊢
    clear K7 HB7
    have hev2:=hev2.out
    subst hev2
    go_wp2
    refine bodyPost_ret (v:= .iface 79 (.agg #[.string (sM2++ia (k:Int)),.iface T x])) (by simp[results,Tryz.results35,go_sem,]) rfl ⟨rfl,HB8⟩
  ·have hl:decide ((k:Int)<(ns.length:Int))=false:=by simp;omega
   have hkn:k=ns.length:=by omega
   have hrv:=hE2.out (by rw[<-hkn];exact hall.out)
   clear hkn
   subst hrv
   have K3_1:Bk w.heap.size wr [(false,w.heap.size,GE p q g h)]:=⟨.c lg Kg<|trivial,by simp⟩
   go_upto_region 5 with fail
   refine rgP K3_1 HBr HBr.size [] [] [(0,19,.bool false)] [] [] [false] ?_ ?_
   ·exact oc (g_bn (fun uZ=>lss_z _ _ (k:Int) (ns.length:Int) _ uZ hl)) on
   intro u4 HB4 sz4 K4
   simp only[sQ] at K4⊢
   go_upto_region 11 with fail
   refine rgP K4 HB4 HB4.size [] [] [(0,4,Go.Value.nilIface)] [] [] [] ?_ ?_
   ·exact oc g_as on
   intro u5 HB5 sz5 K5
   simp only[sQ] at K5⊢
   clear K4 HB4
   go_wp2
   refine bodyPost_ret (v:= .nilIface) (by simp[results,Tryz.results35,go_sem,]) rfl ⟨rfl,HB5⟩
theorem first_no(P:Nat->Prop): ∀n:Nat,(∀j,j<n->P j)\/ ∃k,k<n/\(∀j,j<k->P j)/\ ¬P k
 | 0=>.inl fun j hj=>absurd hj (by omega)
 | n+1=>by
  rcases first_no P n with h | ⟨k,h1,h2,h3⟩
  ·by_cases e:P n
   ·exact .inl fun j hj=>by
     by_cases ej:j=n
     ·subst ej;exact e
     ·exact h j (by omega)
   ·exact .inr ⟨n,by omega,h,e⟩
  ·exact .inr ⟨k,by omega,h2,h3⟩
theorem cMembers(p q g h:Int)(ns:List Int)(hns:ns.length<=50)(hp:In p)(hq:In q)(hn: ∀k,k<ns.length->In (ns.getD k 0)):
 ∃v,((mlB p q ns=true/\v= .nilIface)\/(mlB p q ns=false/\EW 90 v))/\ ∀(y:Value) (w:World),GT w->NL w y ns->CC 35 #[GX p q g h,y] w v:=by
 have hC:=fun u=>gGroup p q g h u hp hq
 have hgd: ∀k,k<ns.length->ns.getD k 0∈ns:=fun k hk=>by
  rw[List.getD_eq_getElem?_getD,List.getElem?_eq_getElem hk];exact List.getElem_mem hk
 rcases grV_is p q with⟨hg,he⟩ | ⟨hg,he⟩
 ·rw[he] at hC
  have h7:=hg.2
  have hix: ∀(sl:Option Addr) (gb go cap:Nat),(ns=[]\/sl=some ⟨gb,go,none⟩)->Hid (∀j,j<ns.length-> ∀W,(Instr.indexAt 35 (.slice sl ns.length cap) (.int .i64 j)).run Tryz.prog W= .ok (.pointer (some ⟨gb,go+4*j,none⟩)) W):=fun sl gb go cap hsl j hj W=>by
   have e:=hsl.resolve_left (fun e=>by subst e;simp at hj)
   subst e
   exact ixS gb go ns.length cap j hj W
  rcases first_no (fun j=>Mb p q (ns.getD j 0)) ns.length with ha | ⟨k,h1,h2,h3⟩
  ·refine⟨.nilIface,.inl ⟨?_,rfl⟩,fun y w hG hy=>?_⟩
   ·unfold mlB
    rw[Bool.and_eq_true,decide_eq_true_iff,List.all_eq_true]
    refine⟨hg,fun x hx=>?_⟩
    obtain⟨j,hj,rfl⟩:=List.mem_iff_getElem.1 hx
    have:=ha j hj
    rw[List.getD_eq_getElem?_getD,List.getElem?_eq_getElem hj] at this
    exact decide_eq_true ⟨hg,this⟩
   ·obtain⟨sl,gb,go,cap,rfl,_,_,hsl,hg0,hS⟩:=hy
    exact members_k p q g h _ sl gb go cap ns w hG hns hp hq (by omega) hn (hix sl gb go cap hsl) hg0 hS hC (fun k hk _ hb=>absurd (ha k hk) hb) (fun _=>rfl)
  ·have iy:=hn k h1
   have hb2:isB p q (ns.getD k 0)=false:=decide_eq_false fun h=>h3 h.2
   refine⟨.iface 79 (.agg #[.string (sM2++ia (k:Int)),mbV p q (ns.getD k 0)]),.inr ⟨?_,.wrap _ _ ((mbV_is p q _ iy).resolve_left fun h=>h3 h.1).2⟩,fun y w hG hy=>?_⟩
   ·unfold mlB
    rw[Bool.and_eq_false_iff]
    refine .inr ?_
    rw[List.all_eq_false]
    exact⟨_,hgd k h1,by rw[hb2];decide⟩
   ·obtain⟨sl,gb,go,cap,rfl,_,_,hsl,hg0,hS⟩:=hy
    refine members_k p q g h _ sl gb go cap ns w hG hns hp hq (by omega) hn (hix sl gb go cap hsl) hg0 hS hC (fun k' hk' ha hb=>?_) (fun ha=>absurd (ha k h1) h3)
    have:k'=k:=by
     rcases Nat.lt_trichotomy k' k with e | e | e
     ·exact absurd (h2 k' e) hb
     ·exact e
     ·exact absurd (ha k e) h3
    subst this;rfl
 ·obtain⟨T,x,ex⟩:=he.some
  rw[ex] at hC he
  refine⟨_,.inr ⟨?_,.wrap ⟨#[103,114,111,117,112]⟩ _ he⟩,fun y w hG hy=>?_⟩
  ·unfold mlB;rw[decide_eq_false hg];rfl
  ·obtain⟨sl,gb,go,cap,rfl,_,_,hsl,hg0,hS⟩:=hy
   exact members_c p q g h T x sl _ cap w hC
theorem Wp:EnT 37:=fun _ _=>by kernel_rfl
theorem Vb:EnT 46:=fun _ _=>by kernel_rfl
theorem cPower(p q g h x e:Int)(w:World)(hp:In p)(hq:In q)(hx:In x)(he:In e)(hp0:p≠0)(hq0:q≠0):
 CC 37 #[GX p q g h,NV x,NV e] w (NV (x^(e%q).toNat%p)):=by
 go_enter Tryz.func37,Tryz.ntmps37
 go_upto_region 1 with fail
 generalize hC:((((w.alloc (.cells (GE p q g h:List Value).toArray 26)).alloc (.cells (LN x:List Value).toArray 24)).alloc (.cells (LN e:List Value).toArray 24)).alloc (.cells (L0s:List Value).toArray 24))=v0 at *
 have HB0:Bw w v0:=by rw[<-hC];exact Z0 (Z0 (Z0 (Z0 (Z5 w) _) _) _) _
 have K0:Bk w.heap.size v0 [(true,w.heap.size,GE p q g h),(true,w.heap.size+1,LN x),(true,w.heap.size+1+1,LN e),(true,w.heap.size+1+1+1,L0s)]:=by rw[<-hC];exact(Bk.nil _ w).ad.ad.ad.ad
 clear hC
 refine rgD K0 HB0 HB0.size [.no,.no,.all 8 (LN (e%q))] [] [(0,10,NV e),(1,11,WV e),(2,12,.pointer (some ⟨w.heap.size,4,none⟩)),(3,13,NV q),(4,14,.tuple #[NV (e%q),.int .i64 0]),(5,9,.tuple #[NV (e%q),.int .i64 0]),(6,15,NV (e%q)),(7,16,.int .i64 0)] [(8,0)] [] [] ?_ ?_
 ·exact oc (g_ld 2 uN iN)<|oc (g_cl Zd (fun uZ=>Xr e uZ he))<|oc (g_fd (fun uZ=>fdG1 _ uZ))<|oc (g_lo 0 4 uN iN)<|oc (g_cl Zl (fun uZ=>Xf e q uZ he.wide hq hq0))<|oc g_mv<|oc g_ex<|oc g_ex<|oc (g_st 2 iN) on
 intro u1 HB1 sz1 K1
 simp only[sQ] at K1⊢
 clear K0 HB0
 go_upto_region 2 with fail
 refine rgP K1 HB1 HB1.size [] [(8,7,L0s,some (9,LN (x^(e%q).toNat%p)))] [(0,18,NV x),(1,19,NV (e%q)),(2,20,.pointer (some ⟨w.heap.size,0,none⟩)),(3,21,NV p),(4,22,.tuple #[NV (x^(e%q).toNat%p),.int .i64 0]),(5,17,.tuple #[NV (x^(e%q).toNat%p),.int .i64 0]),(6,23,NV (x^(e%q).toNat%p)),(7,24,.int .i64 0),(10,8,.int .i64 0)] [(9,8)] [] [false,false,false] ?_ ?_
 ·exact oc (g_ld 1 uN iN)<|oc (g_ld 2 uN iN)<|oc (g_fd (fun uZ=>fdG0 _ uZ))<|oc (g_lo 0 0 uN iN)<|oc (g_cl Vz (fun uZ=>mExp x (e%q) p uZ hx (Zs hq hq0) hp hp0))<|oc g_mv<|oc g_ex<|oc g_ex<|oc (g_al 0 aN)<|oc (g_sn 0 iN)<|oc g_as on
 intro u2 b2_8 HB2 sz2 K2
 simp only[sQ] at K2⊢
 clear K1 HB1
 go_upto_region 3 with fail
 refine rgP K2 HB2 HB2.size [.all 1 (LN (x^(e%q).toNat%p))] [] [(0,25,NV (x^(e%q).toNat%p))] [] [] [true,false] ?_ ?_
 ·exact oc (g_ld 1 uN iN)<|oc (g_st 0 iN) on
 intro u3 HB3 sz3 K3
 simp only[sQ] at K3⊢
 clear K2 HB2
 have c6:=(K3.cv 0).n4
 go_wp2
 refine bodyPost_ret (v:=NV (x^(e%q).toNat%p)) (by simp[results,Tryz.results37,go_sem,c6]) rfl ⟨rfl,HB3⟩
theorem product_core(p q g h c:Int)(sl:Option Addr)(n cap:Nat)(w:World)(hP:Hid (∀u,Bw w u->CC 75 #[NV p,.slice sl n cap] u (.tuple #[NV c,.int .i64 0]))):
 CC 46 #[GX p q g h,.slice sl n cap] w (NV c):=by
 go_enter Tryz.func46,Tryz.ntmps46
 go_upto_region 1 with fail
 generalize hC:((w.alloc (.cells (GE p q g h:List Value).toArray 26)).alloc (.cells (L0s:List Value).toArray 24))=v0 at *
 have HB0:Bw w v0:=by rw[<-hC];exact Z0 (Z0 (Z5 w) _) _
 have K0:Bk w.heap.size v0 [(true,w.heap.size,GE p q g h),(true,w.heap.size+1,L0s)]:=by rw[<-hC];exact(Bk.nil _ w).ad.ad
 clear hC
 refine rgP K0 HB0 HB0.size [] [(7,5,L0s,some (8,LN c))] [(0,8,.pointer (some ⟨w.heap.size,0,none⟩)),(1,9,NV p),(2,10,.slice sl n cap),(3,11,.tuple #[NV c,.int .i64 0]),(4,7,.tuple #[NV c,.int .i64 0]),(5,12,NV c),(6,13,.int .i64 0),(9,6,.int .i64 0)] [(8,7)] [] [false] ?_ ?_
 ·exact oc (g_fd (fun uZ=>fdG0 _ uZ))<|oc (g_lo 0 0 uN iN)<|oc g_mv<|oc (g_cb ent_mod_Product (fun uZ bZ=>hP.out uZ bZ))<|oc g_mv<|oc g_ex<|oc g_ex<|oc (g_al 0 aN)<|oc (g_sn 0 iN)<|oc g_as on
 intro u1 b1_7 HB1 sz1 K1
 simp only[sQ] at K1⊢
 clear K0 HB0
 go_upto_region 2 with fail
 refine rgP K1 HB1 HB1.size [.all 1 (LN c)] [] [(0,14,NV c)] [] [] [true,false] ?_ ?_
 ·exact oc (g_ld 1 uN iN)<|oc (g_st 0 iN) on
 intro u2 HB2 sz2 K2
 simp only[sQ] at K2⊢
 clear K1 HB1
 have c4:=(K2.cv 0).n4
 go_wp2
 refine bodyPost_ret (v:=NV c) (by simp[results,Tryz.results46,go_sem,c4]) rfl ⟨rfl,HB2⟩
def prN(p:Int)(ns:List Int):Int:=gat (fun a b=>(a*b)%p) (1%p) ns ns.length
theorem cProduct(p q g h:Int)(ns:List Int)(y:Value)(w:World)(hns:ns.length<=50)(hp:In p)(hp0:p≠0)(hn: ∀k,k<ns.length->In (ns.getD k 0))(hy:NL w y ns):
 CC 46 #[GX p q g h,y] w (NV (prN p ns)):=by
 obtain⟨sl,gb,go,cap,rfl,_,_,hsl,hg0,hS⟩:=hy
 refine product_core p q g h _ sl _ cap w fun u hB=>?_
 refine mProduct p sl gb go cap ns u hns hp hp0 hn (fun j hj W=>?_) (hg0.imp id fun e=>Nat.lt_of_lt_of_le e hB.size) (SN.below2 hS hB hg0)
 have e:=hsl.resolve_left (fun e=>by subst e;simp at hj)
 subst e
 exact ixS gb go ns.length cap j hj W
theorem check_core(p q g h r:Int)(V:Value)(w:World)(hG:Hid (∀u,Bw w u->CC 43 #[GX p q g h] u V))(hT:Hid (∀u,Bw w u->CC 36 #[V] u (.int .i64 r))):
 CC 15 #[GX p q g h] w (.int .i64 r):=by
 go_enter Tryz.func15,Tryz.ntmps15
 go_upto_region 1 with fail
 generalize hC:(w.alloc (.cells (GE p q g h:List Value).toArray 26))=v0 at *
 have HB0:Bw w v0:=by rw[<-hC];exact Z0 (Z5 w) _
 have K0:Bk w.heap.size v0 [(true,w.heap.size,GE p q g h)]:=by rw[<-hC];exact(Bk.nil _ w).ad
 clear hC
 refine rgP K0 HB0 HB0.size [] [] [(0,3,GX p q g h),(1,4,V),(2,5,.int .i64 r),(3,2,.int .i64 r)] [] [] [false] ?_ ?_
 ·exact oc (g_ld 0 Tryz.underlying26 Z1)<|oc (g_cb Yg (fun uZ bZ=>hG.out uZ bZ))<|oc (g_cb Yn (fun uZ bZ=>hT.out uZ bZ))<|oc g_as on
 intro u1 HB1 sz1 K1
 simp only[sQ] at K1⊢
 clear K0 HB0
 go_wp2
 refine bodyPost_ret (v:= .int .i64 r) (by simp[results,Tryz.results15,go_sem,]) rfl ⟨rfl,HB1⟩
theorem cCheckG(p q g h:Int)(w:World)(hp:In p)(hq:In q):CC 15 #[GX p q g h] w (.int .i64 (chE p q)):=by
 refine check_core p q g h _ (grV p q) w (fun u _=>gGroup p q g h u hp hq) (fun u _=>?_)
 rcases grV_is p q with⟨h1,h2⟩ | ⟨h1,h2⟩
 ·rw[h2,show chE p q=0 from if_pos h1];exact gToldN u
 ·rw[show chE p q=90 from if_neg h1];exact gTold9 _ u h2
theorem is_core(p q g h x r:Int)(b:Bool)(V:Value)(w:World)(hM:Hid (∀u y,Bw w u->N1x x u y->CC 35 #[GX p q g h,y] u V))(hT:Hid (∀u,Bw w u->CC 36 #[V] u (.int .i64 r)))(hb:(r==0)=b):
 CC 13 #[GX p q g h,NV x] w (.bool b):=by
 go_enter Tryz.func13,Tryz.ntmps13
 go_upto_region 1 with fail
 generalize hC:((w.alloc (.cells (GE p q g h:List Value).toArray 26)).alloc (.cells (LN x:List Value).toArray 24))=v0 at *
 have HB0:Bw w v0:=by rw[<-hC];exact Z0 (Z0 (Z5 w) _) _
 have K0:Bk w.heap.size v0 [(true,w.heap.size,GE p q g h),(true,w.heap.size+1,LN x)]:=by rw[<-hC];exact(Bk.nil _ w).ad.ad
 clear hC
 refine rgF K0 HB0 HB0.size [] [] [(0,5,GX p q g h),(1,6,NV x),(3,8,V),(4,9,.int .i64 r),(5,10,.bool b),(6,4,.bool b)] [] [] [⟨2,7,some 3,N1x x⟩] [false,false] (.cons (fun _ _ _ h1 h2=>h2.stab h1)<|Stab.nil) ?_ ?_
 ·exact oc (g_ld 0 Tryz.underlying26 Z1)<|oc (g_ld 1 uN iN)<|oc (g_bR 0 (N1x x) [0] [NV x] (flN [x]) (bsNx1 x) (fun u hu=>inNx1 x u))<|oc (g_c2 0 (N1x x) Zv (fun uZ yZ bZ hZ=>hM.out uZ yZ bZ hZ))<|oc (g_cb Yn (fun uZ bZ=>hT.out uZ bZ))<|oc (g_bn (fun uZ=>eql_i _ _ _ r 0 _ uZ hb))<|oc g_as on
 intro u1 v1_2 hv1_2 HB1 sz1 K1
 simp only[sQ] at K1⊢
 clear K0 HB0
 go_wp2
 refine bodyPost_ret (v:= .bool b) (by simp[results,Tryz.results13,go_sem,]) rfl ⟨rfl,HB1⟩
theorem exp_n(p q g h x e:Int)(T:TypeId)(xv:Value)(w:World)(hM:Hid (∀u y,Bw w u->N1x x u y->CC 35 #[GX p q g h,y] u (.iface T xv)))(hT:Hid (∀u,Bw w u->CC 36 #[.iface T xv] u (.int .i64 90))):
 CC 9 #[GX p q g h,NV x,NV e] w (.tuple #[A4 0 0 0 0,.int .i64 90]):=by
 go_enter Tryz.func9,Tryz.ntmps9
 go_upto_region 1 with fail
 generalize hC:((((w.alloc (.cells (GE p q g h:List Value).toArray 26)).alloc (.cells (LN x:List Value).toArray 24)).alloc (.cells (LN e:List Value).toArray 24)).alloc (.cells (L0s:List Value).toArray 24))=v0 at *
 have HB0:Bw w v0:=by rw[<-hC];exact Z0 (Z0 (Z0 (Z0 (Z5 w) _) _) _) _
 have K0:Bk w.heap.size v0 [(true,w.heap.size,GE p q g h),(true,w.heap.size+1,LN x),(true,w.heap.size+1+1,LN e),(true,w.heap.size+1+1+1,L0s)]:=by rw[<-hC];exact(Bk.nil _ w).ad.ad.ad.ad
 clear hC
 refine rgF K0 HB0 HB0.size [] [] [(0,9,GX p q g h),(1,10,NV x),(3,12,.iface T xv),(4,8,.iface T xv)] [] [] [⟨2,11,some 3,N1x x⟩] [false,false,false] (.cons (fun _ _ _ h1 h2=>h2.stab h1)<|Stab.nil) ?_ ?_
 ·exact oc (g_ld 0 Tryz.underlying26 Z1)<|oc (g_ld 1 uN iN)<|oc (g_bR 0 (N1x x) [0] [NV x] (flN [x]) (bsNx1 x) (fun u hu=>inNx1 x u))<|oc (g_c2 0 (N1x x) Zv (fun uZ yZ bZ hZ=>hM.out uZ yZ bZ hZ))<|oc g_as on
 intro u1 v1_2 hv1_2 HB1 sz1 K1
 simp only[sQ] at K1⊢
 clear K0 HB0
 go_upto_region 2 with fail
 refine rgP K1 HB1 HB1.size [] [] [(0,13,.iface T xv),(1,14,.bool true)] [] [] [] ?_ ?_
 ·exact oc g_mv<|oc (g_bn (fun uZ=>neq_er _ _ _ _ uZ)) on
 intro u2 HB2 sz2 K2
 simp only[sQ] at K2⊢
 clear K1 HB1
 go_upto_region 3 with fail
 refine rgP K2 HB2 HB2.size [.all 3 ([.int .u64 (0),.int .u64 (0),.int .u64 (0),.int .u64 (0)])] [] [(0,15,A4 (0) (0) (0) (0)),(1,16,.iface T xv),(2,17,.int .i64 90),(4,7,.int .i64 90)] [] [] [] ?_ ?_
 ·exact oc (g_bd zN)<|oc g_mv<|oc (g_cb Yn (fun uZ bZ=>hT.out uZ bZ))<|oc (g_st 0 iN)<|oc g_as on
 intro u3 HB3 sz3 K3
 simp only[sQ] at K3⊢
 clear K2 HB2
 have c6:=(K3.cv 0).n4
 go_wp2
 refine bodyPost_ret (v:= .tuple #[A4 0 0 0 0,.int .i64 90]) (by simp[results,Tryz.results9,go_sem,c6]) rfl ⟨rfl,HB3⟩
theorem mulG_n(p q g h:Int)(sl:Option Addr)(n cap:Nat)(T:TypeId)(xv:Value)(w:World)(hM:Hid (∀u,Bw w u->CC 35 #[GX p q g h,.slice sl n cap] u (.iface T xv)))(hT:Hid (∀u,Bw w u->CC 36 #[.iface T xv] u (.int .i64 90))):
 CC 18 #[GX p q g h,.slice sl n cap] w (.tuple #[A4 0 0 0 0,.int .i64 90]):=by
 go_enter Tryz.func18,Tryz.ntmps18
 go_upto_region 1 with fail
 generalize hC:((w.alloc (.cells (GE p q g h:List Value).toArray 26)).alloc (.cells (L0s:List Value).toArray 24))=v0 at *
 have HB0:Bw w v0:=by rw[<-hC];exact Z0 (Z0 (Z5 w) _) _
 have K0:Bk w.heap.size v0 [(true,w.heap.size,GE p q g h),(true,w.heap.size+1,L0s)]:=by rw[<-hC];exact(Bk.nil _ w).ad.ad
 clear hC
 refine rgP K0 HB0 HB0.size [] [] [(0,7,GX p q g h),(1,8,.slice sl n cap),(2,9,.iface T xv),(3,6,.iface T xv)] [] [] [false] ?_ ?_
 ·exact oc (g_ld 0 Tryz.underlying26 Z1)<|oc g_mv<|oc (g_cb Zv (fun uZ bZ=>hM.out uZ bZ))<|oc g_as on
 intro u1 HB1 sz1 K1
 simp only[sQ] at K1⊢
 clear K0 HB0
 go_upto_region 2 with fail
 refine rgP K1 HB1 HB1.size [] [] [(0,10,.iface T xv),(1,11,.bool true)] [] [] [] ?_ ?_
 ·exact oc g_mv<|oc (g_bn (fun uZ=>neq_er _ _ _ _ uZ)) on
 intro u2 HB2 sz2 K2
 simp only[sQ] at K2⊢
 clear K1 HB1
 go_upto_region 3 with fail
 refine rgP K2 HB2 HB2.size [.all 3 ([.int .u64 (0),.int .u64 (0),.int .u64 (0),.int .u64 (0)])] [] [(0,12,A4 (0) (0) (0) (0)),(1,13,.iface T xv),(2,14,.int .i64 90),(4,5,.int .i64 90)] [] [] [] ?_ ?_
 ·exact oc (g_bd zN)<|oc g_mv<|oc (g_cb Yn (fun uZ bZ=>hT.out uZ bZ))<|oc (g_st 0 iN)<|oc g_as on
 intro u3 HB3 sz3 K3
 simp only[sQ] at K3⊢
 clear K2 HB2
 have c4:=(K3.cv 0).n4
 go_wp2
 refine bodyPost_ret (v:= .tuple #[A4 0 0 0 0,.int .i64 90]) (by simp[results,Tryz.results18,go_sem,c4]) rfl ⟨rfl,HB3⟩
theorem com_n(p q g h s t:Int)(T:TypeId)(xv:Value)(w:World)(hM:Hid (∀u y,Bw w u->N2 g h u y->CC 35 #[GX p q g h,y] u (.iface T xv)))(hT:Hid (∀u,Bw w u->CC 36 #[.iface T xv] u (.int .i64 90))):
 CC 20 #[GX p q g h,NV s,NV t] w (.tuple #[A4 0 0 0 0,.int .i64 90]):=by
 go_enter Tryz.func20,Tryz.ntmps20
 go_upto_region 1 with fail
 generalize hC:((((w.alloc (.cells (GE p q g h:List Value).toArray 26)).alloc (.cells (LN s:List Value).toArray 24)).alloc (.cells (LN t:List Value).toArray 24)).alloc (.cells (L0s:List Value).toArray 24))=v0 at *
 have HB0:Bw w v0:=by rw[<-hC];exact Z0 (Z0 (Z0 (Z0 (Z5 w) _) _) _) _
 have K0:Bk w.heap.size v0 [(true,w.heap.size,GE p q g h),(true,w.heap.size+1,LN s),(true,w.heap.size+1+1,LN t),(true,w.heap.size+1+1+1,L0s)]:=by rw[<-hC];exact(Bk.nil _ w).ad.ad.ad.ad
 clear hC
 refine rgF K0 HB0 HB0.size [] [] [(0,9,GX p q g h),(1,10,.pointer (some ⟨w.heap.size,8,none⟩)),(2,11,NV g),(3,12,.pointer (some ⟨w.heap.size,12,none⟩)),(4,13,NV h),(6,15,.iface T xv),(7,8,.iface T xv)] [] [] [⟨5,14,some 6,N2 g h⟩] [false,false,false] (.cons (fun _ _ _ h1 h2=>h2.stab h1)<|Stab.nil) ?_ ?_
 ·exact oc (g_ld 0 Tryz.underlying26 Z1)<|oc (g_fd (fun uZ=>fdG2 _ uZ))<|oc (g_lo 0 8 uN iN)<|oc (g_fd (fun uZ=>fdG3 _ uZ))<|oc (g_lo 0 12 uN iN)<|oc (g_bR 0 (N2 g h) [0,1] [NV g,NV h] (flN [g,h]) (bsN2 g h) (fun u hu=>inN2 g h u))<|oc (g_c2 0 (N2 g h) Zv (fun uZ yZ bZ hZ=>hM.out uZ yZ bZ hZ))<|oc g_as on
 intro u1 v1_5 hv1_5 HB1 sz1 K1
 simp only[sQ] at K1⊢
 clear K0 HB0
 go_upto_region 2 with fail
 refine rgP K1 HB1 HB1.size [] [] [(0,16,.iface T xv),(1,17,.bool true)] [] [] [] ?_ ?_
 ·exact oc g_mv<|oc (g_bn (fun uZ=>neq_er _ _ _ _ uZ)) on
 intro u2 HB2 sz2 K2
 simp only[sQ] at K2⊢
 clear K1 HB1
 go_upto_region 3 with fail
 refine rgP K2 HB2 HB2.size [.all 3 ([.int .u64 (0),.int .u64 (0),.int .u64 (0),.int .u64 (0)])] [] [(0,18,A4 (0) (0) (0) (0)),(1,19,.iface T xv),(2,20,.int .i64 90),(4,7,.int .i64 90)] [] [] [] ?_ ?_
 ·exact oc (g_bd zN)<|oc g_mv<|oc (g_cb Yn (fun uZ bZ=>hT.out uZ bZ))<|oc (g_st 0 iN)<|oc g_as on
 intro u3 HB3 sz3 K3
 simp only[sQ] at K3⊢
 clear K2 HB2
 have c6:=(K3.cv 0).n4
 go_wp2
 refine bodyPost_ret (v:= .tuple #[A4 0 0 0 0,.int .i64 90]) (by simp[results,Tryz.results20,go_sem,c6]) rfl ⟨rfl,HB3⟩
theorem exp_k(p q g h x e r:Int)(w:World)(hM:Hid (∀u y,Bw w u->N1x x u y->CC 35 #[GX p q g h,y] u (.nilIface)))(hP:Hid (∀u,Bw w u->CC 37 #[GX p q g h,NV x,NV e] u (NV r))):
 CC 9 #[GX p q g h,NV x,NV e] w (.tuple #[NV r,.int .i64 0]):=by
 go_enter Tryz.func9,Tryz.ntmps9
 go_upto_region 1 with fail
 generalize hC:((((w.alloc (.cells (GE p q g h:List Value).toArray 26)).alloc (.cells (LN x:List Value).toArray 24)).alloc (.cells (LN e:List Value).toArray 24)).alloc (.cells (L0s:List Value).toArray 24))=v0 at *
 have HB0:Bw w v0:=by rw[<-hC];exact Z0 (Z0 (Z0 (Z0 (Z5 w) _) _) _) _
 have K0:Bk w.heap.size v0 [(true,w.heap.size,GE p q g h),(true,w.heap.size+1,LN x),(true,w.heap.size+1+1,LN e),(true,w.heap.size+1+1+1,L0s)]:=by rw[<-hC];exact(Bk.nil _ w).ad.ad.ad.ad
 clear hC
 refine rgF K0 HB0 HB0.size [] [] [(0,9,GX p q g h),(1,10,NV x),(3,12,.nilIface),(4,8,.nilIface)] [] [] [⟨2,11,some 3,N1x x⟩] [] (.cons (fun _ _ _ h1 h2=>h2.stab h1)<|Stab.nil) ?_ ?_
 ·exact oc (g_ld 0 Tryz.underlying26 Z1)<|oc (g_ld 1 uN iN)<|oc (g_bR 0 (N1x x) [0] [NV x] (flN [x]) (bsNx1 x) (fun u hu=>inNx1 x u))<|oc (g_c2 0 (N1x x) Zv (fun uZ yZ bZ hZ=>hM.out uZ yZ bZ hZ))<|oc g_as on
 intro u1 v1_2 hv1_2 HB1 sz1 K1
 simp only[sQ] at K1⊢
 clear K0 HB0
 go_upto_region 2 with fail
 refine rgP K1 HB1 HB1.size [] [] [(0,13,.nilIface),(1,14,.bool false)] [] [] [] ?_ ?_
 ·exact oc g_mv<|oc (g_bn (fun uZ=>neq_no _ _ uZ)) on
 intro u2 HB2 sz2 K2
 simp only[sQ] at K2⊢
 clear K1 HB1
 go_upto_region 4 with fail
 refine rgP K2 HB2 HB2.size [.no,.no,.no,.all 4 (LN r)] [] [(0,18,GX p q g h),(1,19,NV x),(2,20,NV e),(3,21,NV r),(5,7,(Go.Value.int Go.IntKind.i64 0))] [] [] [false,false,false] ?_ ?_
 ·exact oc (g_ld 0 Tryz.underlying26 Z1)<|oc (g_ld 1 uN iN)<|oc (g_ld 2 uN iN)<|oc (g_cb Wp (fun uZ bZ=>hP.out uZ bZ))<|oc (g_st 3 iN)<|oc g_as on
 intro u3 HB3 sz3 K3
 simp only[sQ] at K3⊢
 clear K2 HB2
 have c6:=(K3.cv 0).n4
 go_wp2
 refine bodyPost_ret (v:= .tuple #[NV r,.int .i64 0]) (by simp[results,Tryz.results9,go_sem,c6]) rfl ⟨rfl,HB3⟩
theorem mulG_k(p q g h r:Int)(sl:Option Addr)(n cap:Nat)(w:World)(hM:Hid (∀u,Bw w u->CC 35 #[GX p q g h,.slice sl n cap] u (.nilIface)))(hP:Hid (∀u,Bw w u->CC 46 #[GX p q g h,.slice sl n cap] u (NV r))):
 CC 18 #[GX p q g h,.slice sl n cap] w (.tuple #[NV r,.int .i64 0]):=by
 go_enter Tryz.func18,Tryz.ntmps18
 go_upto_region 1 with fail
 generalize hC:((w.alloc (.cells (GE p q g h:List Value).toArray 26)).alloc (.cells (L0s:List Value).toArray 24))=v0 at *
 have HB0:Bw w v0:=by rw[<-hC];exact Z0 (Z0 (Z5 w) _) _
 have K0:Bk w.heap.size v0 [(true,w.heap.size,GE p q g h),(true,w.heap.size+1,L0s)]:=by rw[<-hC];exact(Bk.nil _ w).ad.ad
 clear hC
 refine rgP K0 HB0 HB0.size [] [] [(0,7,GX p q g h),(1,8,.slice sl n cap),(2,9,.nilIface),(3,6,.nilIface)] [] [] [] ?_ ?_
 ·exact oc (g_ld 0 Tryz.underlying26 Z1)<|oc g_mv<|oc (g_cb Zv (fun uZ bZ=>hM.out uZ bZ))<|oc g_as on
 intro u1 HB1 sz1 K1
 simp only[sQ] at K1⊢
 clear K0 HB0
 go_upto_region 2 with fail
 refine rgP K1 HB1 HB1.size [] [] [(0,10,.nilIface),(1,11,.bool false)] [] [] [] ?_ ?_
 ·exact oc g_mv<|oc (g_bn (fun uZ=>neq_no _ _ uZ)) on
 intro u2 HB2 sz2 K2
 simp only[sQ] at K2⊢
 clear K1 HB1
 go_upto_region 4 with fail
 refine rgP K2 HB2 HB2.size [.no,.all 3 (LN r)] [] [(0,15,GX p q g h),(1,16,.slice sl n cap),(2,17,NV r),(4,5,(Go.Value.int Go.IntKind.i64 0))] [] [] [false] ?_ ?_
 ·exact oc (g_ld 0 Tryz.underlying26 Z1)<|oc g_mv<|oc (g_cb Vb (fun uZ bZ=>hP.out uZ bZ))<|oc (g_st 1 iN)<|oc g_as on
 intro u3 HB3 sz3 K3
 simp only[sQ] at K3⊢
 clear K2 HB2
 have c4:=(K3.cv 0).n4
 go_wp2
 refine bodyPost_ret (v:= .tuple #[NV r,.int .i64 0]) (by simp[results,Tryz.results18,go_sem,c4]) rfl ⟨rfl,HB3⟩
theorem com_k(p q g h s t a b r:Int)(w:World)(hM:Hid (∀u y,Bw w u->N2 g h u y->CC 35 #[GX p q g h,y] u (.nilIface)))(hP:Hid (∀u,Bw w u->CC 37 #[GX p q g h,NV g,NV s] u (NV a)))(hQ:Hid (∀u,Bw w u->CC 37 #[GX p q g h,NV h,NV t] u (NV b)))(hR:Hid (∀u y,Bw w u->N2 a b u y->CC 46 #[GX p q g h,y] u (NV r))):
 CC 20 #[GX p q g h,NV s,NV t] w (.tuple #[NV r,.int .i64 0]):=by
 go_enter Tryz.func20,Tryz.ntmps20
 go_upto_region 1 with fail
 generalize hC:((((w.alloc (.cells (GE p q g h:List Value).toArray 26)).alloc (.cells (LN s:List Value).toArray 24)).alloc (.cells (LN t:List Value).toArray 24)).alloc (.cells (L0s:List Value).toArray 24))=v0 at *
 have HB0:Bw w v0:=by rw[<-hC];exact Z0 (Z0 (Z0 (Z0 (Z5 w) _) _) _) _
 have K0:Bk w.heap.size v0 [(true,w.heap.size,GE p q g h),(true,w.heap.size+1,LN s),(true,w.heap.size+1+1,LN t),(true,w.heap.size+1+1+1,L0s)]:=by rw[<-hC];exact(Bk.nil _ w).ad.ad.ad.ad
 clear hC
 refine rgF K0 HB0 HB0.size [] [] [(0,9,GX p q g h),(1,10,.pointer (some ⟨w.heap.size,8,none⟩)),(2,11,NV g),(3,12,.pointer (some ⟨w.heap.size,12,none⟩)),(4,13,NV h),(6,15,.nilIface),(7,8,.nilIface)] [] [] [⟨5,14,some 6,N2 g h⟩] [] (.cons (fun _ _ _ h1 h2=>h2.stab h1)<|Stab.nil) ?_ ?_
 ·exact oc (g_ld 0 Tryz.underlying26 Z1)<|oc (g_fd (fun uZ=>fdG2 _ uZ))<|oc (g_lo 0 8 uN iN)<|oc (g_fd (fun uZ=>fdG3 _ uZ))<|oc (g_lo 0 12 uN iN)<|oc (g_bR 0 (N2 g h) [0,1] [NV g,NV h] (flN [g,h]) (bsN2 g h) (fun u hu=>inN2 g h u))<|oc (g_c2 0 (N2 g h) Zv (fun uZ yZ bZ hZ=>hM.out uZ yZ bZ hZ))<|oc g_as on
 intro u1 v1_5 hv1_5 HB1 sz1 K1
 simp only[sQ] at K1⊢
 clear K0 HB0
 go_upto_region 2 with fail
 refine rgP K1 HB1 HB1.size [] [] [(0,16,.nilIface),(1,17,.bool false)] [] [] [] ?_ ?_
 ·exact oc g_mv<|oc (g_bn (fun uZ=>neq_no _ _ uZ)) on
 intro u2 HB2 sz2 K2
 simp only[sQ] at K2⊢
 clear K1 HB1
 go_upto_region 4 with fail
 refine rgE K2 HB2 HB2.size [.no,.no,.no,.all 13 (LN r)] [] [(0,21,GX p q g h),(1,22,GX p q g h),(2,23,.pointer (some ⟨w.heap.size,8,none⟩)),(3,24,NV g),(4,25,NV s),(5,26,NV a),(6,27,GX p q g h),(7,28,.pointer (some ⟨w.heap.size,12,none⟩)),(8,29,NV h),(9,30,NV t),(10,31,NV b),(12,33,NV r),(14,7,(Go.Value.int Go.IntKind.i64 0))] [] [] [⟨11,32,some 12,N2 a b⟩] [false,false,false] (.cons (fun _ _ _ h1 h2=>h2.stab h1)<|Stab.nil) ?_ ?_
 ·exact oc (g_ld 0 Tryz.underlying26 Z1)<|oc (g_ld 0 Tryz.underlying26 Z1)<|oc (g_fd (fun uZ=>fdG2 _ uZ))<|oc (g_lo 0 8 uN iN)<|oc (g_ld 1 uN iN)<|oc (g_cb Wp (fun uZ bZ=>hP.out uZ bZ))<|oc (g_ld 0 Tryz.underlying26 Z1)<|oc (g_fd (fun uZ=>fdG3 _ uZ))<|oc (g_lo 0 12 uN iN)<|oc (g_ld 2 uN iN)<|oc (g_cb Wp (fun uZ bZ=>hQ.out uZ bZ))<|oc (g_bR 0 (N2 a b) [0,1] [NV a,NV b] (flN [a,b]) (bsN2 a b) (fun u hu=>inN2 a b u))<|oc (g_c2 0 (N2 a b) Vb (fun uZ yZ bZ hZ=>hR.out uZ yZ bZ hZ))<|oc (g_st 3 iN)<|oc g_as on
 intro u3 v3_11 hv3_11 HB3 sz3 K3
 simp only[sQ] at K3⊢
 clear K2 HB2
 have c6:=(K3.cv 0).n4
 go_wp2
 refine bodyPost_ret (v:= .tuple #[NV r,.int .i64 0]) (by simp[results,Tryz.results20,go_sem,c6]) rfl ⟨rfl,HB3⟩
theorem ml_1(p q x:Int):mlB p q [x]=isB p q x:=by
 unfold mlB isB
 rw[Bool.eq_iff_iff]
 simp[isB]
theorem ml_2(p q x y:Int):mlB p q [x,y]=(isB p q x&&isB p q y):=by
 unfold mlB isB
 rw[Bool.eq_iff_iff]
 simp[isB]
 grind
theorem In_1s{x:Int}(hx:In x): ∀k,k<[x].length->In ([x].getD k 0):=fun k hk=>by
 simp at hk;subst hk;exact hx
theorem In_2s{x y:Int}(hx:In x)(hy:In y): ∀k,k<[x,y].length->In ([x,y].getD k 0):=fun k hk=>by
 simp at hk
 match k,hk with
 | 0,_=>exact hx
 | 1,_=>exact hy
theorem cIsG(p q g h x:Int)(w:World)(hG:GT w)(hp:In p)(hq:In q)(hx:In x):CC 13 #[GX p q g h,NV x] w (.bool (isB p q x)):=by
 obtain⟨v,hv,hM⟩:=cMembers p q g h [x] (by simp) hp hq (In_1s hx)
 rw[ml_1] at hv
 rcases hv with⟨h1,rfl⟩ | ⟨h1,h2⟩
 ·rw[h1];exact is_core p q g h x 0 _ _ w (fun u y hB hy=>hM y u (hG.below hB) hy) (fun u _=>gToldN u) rfl
 ·rw[h1];exact is_core p q g h x 90 _ _ w (fun u y hB hy=>hM y u (hG.below hB) hy) (fun u _=>gTold9 _ u h2) rfl
theorem cExpG(p q g h x e:Int)(w:World)(hG:GT w)(hp:In p)(hq:In q)(hx:In x)(he:In e):CC 9 #[GX p q g h,NV x,NV e] w (.tuple #[NV (exPX p q x e),.int .i64 (exPE p q x)]):=by
 obtain⟨v,hv,hM⟩:=cMembers p q g h [x] (by simp) hp hq (In_1s hx)
 rw[ml_1] at hv
 unfold exPX exPE
 rcases hv with⟨h1,rfl⟩ | ⟨h1,h2⟩
 ·have h3:=(isB_t h1).1.q3
  have h7:=(isB_t h1).1.2
  rw[h1,if_pos rfl,if_pos rfl];exact exp_k p q g h x e _ w (fun u y hB hy=>hM y u (hG.below hB) hy) (fun u _=>cPower p q g h x e u hp hq hx he (by omega) (by omega))
 ·obtain⟨T,xv,rfl⟩:=h2.some
  rw[h1,if_neg (by decide),if_neg (by decide),NV_0];exact exp_n p q g h x e T xv w (fun u y hB hy=>hM y u (hG.below hB) hy) (fun u _=>gTold9 _ u h2)
theorem cMulG(p q g h:Int)(ns:List Int)(y:Value)(w:World)(hG:GT w)(hns:ns.length<=50)(hp:In p)(hq:In q)(hn: ∀k,k<ns.length->In (ns.getD k 0))(hy:NL w y ns):CC 18 #[GX p q g h,y] w (.tuple #[NV (mlX p q ns),.int .i64 (mlE p q ns)]):=by
 obtain⟨v,hv,hM⟩:=cMembers p q g h ns hns hp hq hn
 have hyu:=fun u (hB:Bw w u)=>hy.up hB
 obtain⟨sl,gb,go,cap,rfl,_⟩:=hy
 unfold mlX mlE
 rcases hv with⟨h1,rfl⟩ | ⟨h1,h2⟩
 ·have hgk:gOk p q:=by
   unfold mlB at h1;rw[Bool.and_eq_true] at h1;exact of_decide_eq_true h1.1
  have h7:=hgk.2
  rw[h1,if_pos rfl,if_pos rfl];exact mulG_k p q g h _ sl _ cap w (fun u hB=>hM _ u (hG.below hB) (hyu u hB)) (fun u hB=>cProduct p q g h ns _ u hns hp (by omega) hn (hyu u hB))
 ·obtain⟨T,xv,rfl⟩:=h2.some
  rw[h1,if_neg (by decide),if_neg (by decide),NV_0];exact mulG_n p q g h sl _ cap T xv w (fun u hB=>hM _ u (hG.below hB) (hyu u hB)) (fun u _=>gTold9 _ u h2)
theorem cComG(p q g h s t:Int)(w:World)(hG:GT w)(hp:In p)(hq:In q)(hg:In g)(hh:In h)(hs:In s)(ht:In t):CC 20 #[GX p q g h,NV s,NV t] w (.tuple #[NV (coX p q g h s t),.int .i64 (coE p q g h)]):=by
 obtain⟨v,hv,hM⟩:=cMembers p q g h [g,h] (by simp) hp hq (In_2s hg hh)
 rw[ml_2] at hv
 unfold coX coE
 rcases hv with⟨h1,rfl⟩ | ⟨h1,h2⟩
 ·have hgk:gOk p q:=by rw[Bool.and_eq_true] at h1;exact(isB_t h1.1).1
  have h3:=hgk.q3
  have h7:=hgk.2
  rw[h1,if_pos rfl,if_pos rfl]
  refine com_k p q g h s t _ _ _ w (fun u y hB hy=>hM y u (hG.below hB) hy) (fun u _=>cPower p q g h g s u hp hq hg hs (by omega) (by omega)) (fun u _=>cPower p q g h h t u hp hq hh ht (by omega) (by omega)) (fun u y hB hy=>?_)
  have:=cProduct p q g h _ y u (by simp) hp (by omega) (In_2s (Zs hp (by omega)) (Zs hp (by omega))) hy
  have e: ∀a b:Int,prN p [a,b]=a*b%p:=fun a b=>by
   show gat (fun a b=>(a*b)%p) (1%p) [a,b] 2=_
   rw[gat,gat,gat]
   simp only[List.getD_cons_zero,List.getD_cons_succ]
   rw[one_mod (by omega),Int.one_mul,Int.mul_emod,Int.emod_emod,<-Int.mul_emod]
  rw[e] at this
  exact this
 ·obtain⟨T,xv,rfl⟩:=h2.some
  rw[h1,if_neg (by decide),if_neg (by decide),NV_0];exact com_n p q g h s t T xv w (fun u y hB hy=>hM y u (hG.below hB) hy) (fun u _=>gTold9 _ u h2)
end Go.Proofs.YtknpepgonhdbgaaGreatDoor
