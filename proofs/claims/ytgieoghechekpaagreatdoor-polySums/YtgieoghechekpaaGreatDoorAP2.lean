import Derived.Test.YtgieoghechekpaaGreatDoorAPA
import Derived.Test.YtgieoghechekpaaGreatDoorB6
import Derived.Test.YtgieoghechekpaaGreatDoorPK
namespace Go.Proofs.YtgieoghechekpaaGreatDoor
set_option linter.unusedVariables false
set_option linter.unusedSimpArgs false
set_option maxRecDepth 100000
set_option maxHeartbeats 4000000
open Go.RowKit
section
def tx(n:Int):ByteArray:=strOfNums (txl (D0 n) (D1 n) (D2 n) (D3 n) (nd (D0 n) (D1 n) (D2 n) (D3 n)))
theorem nText(n:Int)(w:World):CC 63 #[NV n] w (.string (tx n)):=Text_any _ _ _ _ w (W_D0 n) (W_D1 n) (W_D2 n) (W_D3 n)
theorem tx_sz(n:Int):(tx n).size<=64:=by
 unfold tx
 rw[strOfNums_size]
 unfold txl
 rw[List.length_map,List.length_range]
 have:=blen_bd _ _ _ _ (W_D0 n) (W_D1 n) (W_D2 n) (W_D3 n)
 unfold nd
 split<;>omega
section
variable {R:Rg} {P:Program} {Q:Exit->Act->World->Prop} {ops:Array Oper} {i:Nat} {o:Oper}
theorem g_mi{T:TypeId}{x:Operand}{vx v:Value}(hr: ∀w,(Instr.makeInterface T vx).run P w= .ok v w)(hop:o.op= .makeInterface T x:=by rfl)(hx:evR R i o x=some vx:=by rfl)(hv:some v=Zk i R.G:=by rfl)(hc:R.chk ops i o=true:=by rfl):OG R P ops Q i o:=
 g_op (fun ev u he=>by
  unfold execOp;rw[hop];simp only[he _ _ hx]
  rw[Sem.run_bind,hr,Result.andThen_ok,Sem.run_pure]) hv hc
end
theorem miE(n:Int)(w:World):(Instr.makeInterface 28 (.int .i64 n)).run Tryz.prog w= .ok (.iface 28 (.int .i64 n)) w:=by kernel_rfl
theorem miF(s:ByteArray)(T:TypeId)(x:Value)(w:World):(Instr.makeInterface 104 (.agg #[.string s,.iface T x])).run Tryz.prog w= .ok (.iface 104 (.agg #[.string s,.iface T x])) w:=by kernel_rfl
theorem bdFl(s:ByteArray)(T:TypeId)(x:Value)(w:World):(Instr.build 104 [(0,.string s),(1,.iface T x)].toArray).run Tryz.prog w= .ok (.agg #[.string s,.iface T x]) w:=by kernel_rfl
theorem add_st(p q:Operand)(s t:ByteArray)(w:World)(hs:s.size<=500)(ht:t.size<=500):(do eqGuard .add 9 p q (.string s) (.string t);binOp .add 9 (.string s) (.string t):Sem Value).run Tryz.prog w= .ok (.string (s++t)) w:=by
 have h2: ¬9223372036854775807<s.size+t.size:=by omega
 go_simp
theorem AE.or{b:Bool}{w:World}{x:Value}(h:AE b w x):x= .nilIface\/ ∃T z,x= .iface T z:=h.imp (·.2) fun⟨_,d,h⟩=>h.some
theorem AE.no{w:World}{x:Value}(h:AE false w x):x= .nilIface:=h.elim (·.2) fun h=>by cases h.1
theorem ent_limb_Text:EnT 63:=fun _ _=>by kernel_rfl
theorem Xo:EnT 57:=fun _ _=>by kernel_rfl
theorem modulus_t(q:Int)(w:World)(hq:In q)(hc:decide (cmpI q 2<0)=true):
 CC 51 #[NV q] w (.iface 104 (.agg #[.string (⟨#[109,111,100,117,108,111,32]⟩++tx q),.iface 28 (.int .i64 2)])):=by
 go_enter Tryz.func51,Tryz.ntmps51
 go_upto_region 1 with fail
 generalize hC:(w.alloc (.cells (LN q:List Value).toArray 24))=v0 at *
 have HB0:Bw w v0:=by rw[<-hC];exact Z0 (Z2 w) _
 have K0:Bk w.heap.size v0 [(true,w.heap.size,LN q)]:=by rw[<-hC];exact(Bk.nil _ w).ad
 clear hC
 refine rgD K0 HB0 HB0.size [] [] [(0,3,NV q),(1,4,NV 2),(2,5,.int .i64 (cmpI q 2)),(3,6,.bool true)] [] [] [] ?_ ?_
 ·exact oc (g_ld 0 uN iN)<|oc (g_cl Zf (fun uZ=>nOf 2 uZ (by decide) (by decide)))<|oc (g_cl Yj (fun uZ=>nCompare q 2 uZ hq ⟨by decide,by decide⟩))<|oc (g_bn (fun uZ=>Zc _ _ (cmpI q 2) 0 _ uZ hc)) on
 intro u1 HB1 sz1 K1
 simp only[sQ] at K1⊢
 clear K0 HB0
 go_upto_region 2 with fail
 refine rgP K1 HB1 HB1.size [] [] [(0,7,NV q),(1,8,.string (tx q)),(2,9,.string (⟨#[109,111,100,117,108,111,32]⟩++tx q)),(3,10,.iface 28 (.int .i64 2)),(4,11,.agg #[.string (⟨#[109,111,100,117,108,111,32]⟩++tx q),.iface 28 (.int .i64 2)]),(5,12,.iface 104 (.agg #[.string (⟨#[109,111,100,117,108,111,32]⟩++tx q),.iface 28 (.int .i64 2)])),(6,2,.iface 104 (.agg #[.string (⟨#[109,111,100,117,108,111,32]⟩++tx q),.iface 28 (.int .i64 2)]))] [] [] [false] ?_ ?_
 ·exact oc (g_ld 0 uN iN)<|oc (g_cl ent_limb_Text (fun uZ=>nText q uZ))<|oc (g_bn (fun uZ=>add_st _ _ ⟨#[109,111,100,117,108,111,32]⟩ (tx q) uZ (by decide) (Nat.le_trans (tx_sz q) (by decide))))<|oc (g_mi (miE 2))<|oc (g_bd (fun uZ=>bdFl (⟨#[109,111,100,117,108,111,32]⟩++tx q) _ _ uZ))<|oc (g_mi (miF (⟨#[109,111,100,117,108,111,32]⟩++tx q) _ _))<|oc g_as on
 intro u2 HB2 sz2 K2
 simp only[sQ] at K2⊢
 clear K1 HB1
 go_wp2
 refine bodyPost_ret (v:= .iface 104 (.agg #[.string (⟨#[109,111,100,117,108,111,32]⟩++tx q),.iface 28 (.int .i64 2)])) (by simp[results,Tryz.results51,go_sem,]) rfl ⟨rfl,HB2⟩
theorem modulus_f(q:Int)(w:World)(hq:In q)(hc:decide (cmpI q 2<0)=false):
 CC 51 #[NV q] w (.nilIface):=by
 go_enter Tryz.func51,Tryz.ntmps51
 go_upto_region 1 with fail
 generalize hC:(w.alloc (.cells (LN q:List Value).toArray 24))=v0 at *
 have HB0:Bw w v0:=by rw[<-hC];exact Z0 (Z2 w) _
 have K0:Bk w.heap.size v0 [(true,w.heap.size,LN q)]:=by rw[<-hC];exact(Bk.nil _ w).ad
 clear hC
 refine rgD K0 HB0 HB0.size [] [] [(0,3,NV q),(1,4,NV 2),(2,5,.int .i64 (cmpI q 2)),(3,6,.bool false)] [] [] [false] ?_ ?_
 ·exact oc (g_ld 0 uN iN)<|oc (g_cl Zf (fun uZ=>nOf 2 uZ (by decide) (by decide)))<|oc (g_cl Yj (fun uZ=>nCompare q 2 uZ hq ⟨by decide,by decide⟩))<|oc (g_bn (fun uZ=>Zc _ _ (cmpI q 2) 0 _ uZ hc)) on
 intro u1 HB1 sz1 K1
 simp only[sQ] at K1⊢
 clear K0 HB0
 go_upto_region 3 with fail
 refine rgP K1 HB1 HB1.size [] [] [(0,2,Go.Value.nilIface)] [] [] [] ?_ ?_
 ·exact oc g_as on
 intro u2 HB2 sz2 K2
 simp only[sQ] at K2⊢
 clear K1 HB1
 go_wp2
 refine bodyPost_ret (v:= .nilIface) (by simp[results,Tryz.results51,go_sem,]) rfl ⟨rfl,HB2⟩
theorem dModulus(q:Int)(w:World)(hq:In q): ∃b,decide (q<2)=b/\ ∃V,AE b w V/\Hid (∀u,CC 51 #[NV q] u V):=by
 by_cases h:q<2
 ·exact⟨true,decide_eq_true h,_,.inr ⟨rfl,1,.flt 0 _ _ (.leaf 0)⟩,fun u=>modulus_t q u hq (by unfold cmpI;simp;(repeat' split)<;>omega)⟩
 ·exact⟨false,decide_eq_false h,_,.inl ⟨rfl,rfl⟩,fun u=>modulus_f q u hq (by unfold cmpI;simp;(repeat' split)<;>omega)⟩
theorem counted_t(s:ByteArray)(n:Nat)(w:World)(hG:GP w)(hs:s.size<=100)(hn:n<=256)(hc:decide ((n:Int)<1)=true):
 CC 52 #[.string s,.int .i64 (n:Int)] w (.iface 104 (.agg #[.string ((s++⟨#[58,32,97,115,32,109,97,110,121,32,97,115,32]⟩)++ia n),.iface 28 (.int .i64 2)])):=by
 have hc2:decide (256<(n:Int))=false:=by simp;omega
 go_enter Tryz.func52,Tryz.ntmps52
 have HB0:Bw w w:=Below.refl _ _
 have K0_1:=Bk.nil (w.heap.size) w
 go_upto_region 1 with fail
 refine rgP K0_1 HB0 HB0.size [] [] [(0,5,.int .i64 (n:Int)),(1,6,.bool true),(2,7,.bool true),(3,8,undef),(4,9,undef),(5,10,(Go.Value.bool Bool.true))] [] [] [] ?_ ?_
 ·exact oc g_mv<|oc (g_bn (fun uZ=>Zc _ _ (n:Int) 1 _ uZ hc))<|oc g_mv<|oc g_sk<|oc g_sk<|oc g_pk on
 intro u1 HB1 sz1 K1
 simp only[sQ] at K1⊢
 clear HB0
 go_upto_region 2 with fail
 refine rgP K1 HB1 HB1.size [] [] [(0,11,.string s),(1,12,.string (s++⟨#[58,32,97,115,32,109,97,110,121,32,97,115,32]⟩)),(2,13,.int .i64 (n:Int)),(3,14,.string (ia n)),(4,15,.string ((s++⟨#[58,32,97,115,32,109,97,110,121,32,97,115,32]⟩)++ia n)),(5,16,.iface 28 (.int .i64 2)),(6,17,.agg #[.string ((s++⟨#[58,32,97,115,32,109,97,110,121,32,97,115,32]⟩)++ia n),.iface 28 (.int .i64 2)]),(7,18,.iface 104 (.agg #[.string ((s++⟨#[58,32,97,115,32,109,97,110,121,32,97,115,32]⟩)++ia n),.iface 28 (.int .i64 2)])),(8,4,.iface 104 (.agg #[.string ((s++⟨#[58,32,97,115,32,109,97,110,121,32,97,115,32]⟩)++ia n),.iface 28 (.int .i64 2)]))] [] [] [] ?_ ?_
 ·exact oc g_mv<|oc (g_bn (fun uZ=>add_st _ _ s ⟨#[58,32,97,115,32,109,97,110,121,32,97,115,32]⟩ uZ (Nat.le_trans hs (by decide)) (by decide)))<|oc g_mv<|oc (g_cb Xo (fun uZ bZ=>cItoa n uZ (by omega) (by omega) (hG.below bZ)))<|oc (g_bn (fun uZ=>add_st _ _ (s++⟨#[58,32,97,115,32,109,97,110,121,32,97,115,32]⟩) (ia n) uZ (by rw[ByteArray.size_append];exact Nat.add_le_add (b:=100) (d:=400) hs (by decide)) (Nat.le_trans (ia_sz n (by omega) (by omega)) (by decide))))<|oc (g_mi (miE 2))<|oc (g_bd (fun uZ=>bdFl ((s++⟨#[58,32,97,115,32,109,97,110,121,32,97,115,32]⟩)++ia n) _ _ uZ))<|oc (g_mi (miF ((s++⟨#[58,32,97,115,32,109,97,110,121,32,97,115,32]⟩)++ia n) _ _))<|oc g_as on
 intro u2 HB2 sz2 K2
 simp only[sQ] at K2⊢
 clear K1 HB1
 go_wp2
 refine bodyPost_ret (v:= .iface 104 (.agg #[.string ((s++⟨#[58,32,97,115,32,109,97,110,121,32,97,115,32]⟩)++ia n),.iface 28 (.int .i64 2)])) (by simp[results,Tryz.results52,go_sem,]) rfl ⟨rfl,HB2⟩
theorem counted_f(s:ByteArray)(n:Nat)(w:World)(hG:GP w)(hs:s.size<=100)(hn:n<=256)(hc:decide ((n:Int)<1)=false):
 CC 52 #[.string s,.int .i64 (n:Int)] w (.nilIface):=by
 have hc2:decide (256<(n:Int))=false:=by simp;omega
 go_enter Tryz.func52,Tryz.ntmps52
 have HB0:Bw w w:=Below.refl _ _
 have K0_1:=Bk.nil (w.heap.size) w
 go_upto_region 1 with fail
 refine rgP K0_1 HB0 HB0.size [] [] [(0,5,.int .i64 (n:Int)),(1,6,.bool false),(2,7,.bool false),(3,8,.int .i64 (n:Int)),(4,9,.bool false),(5,10,.bool false)] [] [] [] ?_ ?_
 ·exact oc g_mv<|oc (g_bn (fun uZ=>Zc _ _ (n:Int) 1 _ uZ hc))<|oc g_mv<|oc g_mv<|oc (g_bn (fun uZ=>gtr_i _ _ (n:Int) 256 _ uZ hc2))<|oc g_pk on
 intro u1 HB1 sz1 K1
 simp only[sQ] at K1⊢
 clear HB0
 go_upto_region 3 with fail
 refine rgP K1 HB1 HB1.size [] [] [(0,4,Go.Value.nilIface)] [] [] [] ?_ ?_
 ·exact oc g_as on
 intro u2 HB2 sz2 K2
 simp only[sQ] at K2⊢
 clear K1 HB1
 go_wp2
 refine bodyPost_ret (v:= .nilIface) (by simp[results,Tryz.results52,go_sem,]) rfl ⟨rfl,HB2⟩
theorem dCounted(s:ByteArray)(n:Nat)(w:World)(hG:GP w)(hs:s.size<=100)(hn:n<=256): ∃b,decide (n<1)=b/\ ∃V,AE b w V/\Hid (∀u,Bw w u->CC 52 #[.string s,.int .i64 (n:Int)] u V):=by
 by_cases h:n<1
 ·exact⟨true,decide_eq_true h,_,.inr ⟨rfl,1,.flt 0 _ _ (.leaf 0)⟩,fun u hB=>counted_t s n u (hG.below hB) hs hn (by simp;omega)⟩
 ·exact⟨false,decide_eq_false h,_,.inl ⟨rfl,rfl⟩,fun u hB=>counted_f s n u (hG.below hB) hs hn (by simp;omega)⟩
theorem pDegreeOf(n:Nat)(w:World)(hn:n<256):
 CC 43 #[.int .i64 (n:Int)] w (.nilIface):=by
 have hc:decide ((n:Int)<0)=false:=by simp
 have hc2:decide ((256:Int)<=(n:Int))=false:=by simp;omega
 go_enter Tryz.func43,Tryz.ntmps43
 have HB0:Bw w w:=Below.refl _ _
 have K0_1:=Bk.nil (w.heap.size) w
 go_upto_region 1 with fail
 refine rgP K0_1 HB0 HB0.size [] [] [(0,3,.int .i64 (n:Int)),(1,4,.bool false),(2,5,.bool false),(3,6,.int .i64 (n:Int)),(4,7,.bool false),(5,8,.bool false)] [] [] [] ?_ ?_
 ·exact oc g_mv<|oc (g_bn (fun uZ=>Zc _ _ (n:Int) 0 _ uZ hc))<|oc g_mv<|oc g_mv<|oc (g_bn (fun uZ=>geq_i _ _ (n:Int) 256 _ uZ hc2))<|oc g_pk on
 intro u1 HB1 sz1 K1
 simp only[sQ] at K1⊢
 clear HB0
 go_upto_region 3 with fail
 refine rgP K1 HB1 HB1.size [] [] [(0,2,Go.Value.nilIface)] [] [] [] ?_ ?_
 ·exact oc g_as on
 intro u2 HB2 sz2 K2
 simp only[sQ] at K2⊢
 clear K1 HB1
 go_wp2
 refine bodyPost_ret (v:= .nilIface) (by simp[results,Tryz.results43,go_sem,]) rfl ⟨rfl,HB2⟩
theorem pPolynomial_00(q:Int)(sl:Option Addr)(n cap:Nat)(w:World)(a0:AE false w (.nilIface))(a1:AE false w (.nilIface))
 (hM:Hid (∀u,CC 51 #[NV q] u (.nilIface)))(hC:Hid (∀u,Bw w u->CC 52 #[.string ⟨#[99,111,101,102,102,105,99,105,101,110,116,115]⟩,.int .i64 (n:Int)] u (.nilIface))):
 Calls Tryz.prog 27 #[NV q,.slice sl n cap] w fun e u=> ∃y,e= .returned y/\AE (false || false) u y/\Bw w u:=by
 have hB0:Bw w (w.alloc (.cells (LN q:List Value).toArray 24)):=Z0 (Z2 w) _
 go_enter Tryz.func27,Tryz.ntmps27
 go_wp2_with (first
  | (go_at_call 51;refine(hM.out _).mono ?_;clear hM;rintro e ua ⟨rfl,hBa⟩;replace hBa:=Z3 hB0 hBa;clear hB0;replace hC:=hC.out ua hBa)
  | (go_at_call 52;refine hC.mono ?_;clear hC;rintro e ub ⟨rfl,hBb⟩;replace hBb:=Z3 hBa hBb;clear hBa)
  | (go_at_call 33;refine(X9 ub.heap.size 2 (.nilIface) (.nilIface) false false (ub.alloc (.cells #[.nilIface,.nilIface] 63)) (by simp) (by simp) (by simp) (a0.up (Z0 hBb _)) (a1.up (Z0 hBb _))).mono ?_;clear a0 a1;rintro e uc ⟨y2,rfl,hy2,hBc⟩;replace hBc:=Z3 (Z0 hBb (.cells #[.nilIface,.nilIface] 63)) hBc))
 exact bodyPost_ret (v:=y2) (by rcases hy2.or with rfl | ⟨T,z,rfl⟩<;>simp[results,Tryz.results27,go_sem]) rfl ⟨y2,rfl,hy2,hBc⟩
theorem pPolynomial_01(q:Int)(sl:Option Addr)(n cap:Nat)(T1:TypeId)(z1:Value)(w:World)(a0:AE false w (.nilIface))(a1:AE true w (.iface T1 z1))
 (hM:Hid (∀u,CC 51 #[NV q] u (.nilIface)))(hC:Hid (∀u,Bw w u->CC 52 #[.string ⟨#[99,111,101,102,102,105,99,105,101,110,116,115]⟩,.int .i64 (n:Int)] u (.iface T1 z1))):
 Calls Tryz.prog 27 #[NV q,.slice sl n cap] w fun e u=> ∃y,e= .returned y/\AE (false || true) u y/\Bw w u:=by
 have hB0:Bw w (w.alloc (.cells (LN q:List Value).toArray 24)):=Z0 (Z2 w) _
 go_enter Tryz.func27,Tryz.ntmps27
 go_wp2_with (first
  | (go_at_call 51;refine(hM.out _).mono ?_;clear hM;rintro e ua ⟨rfl,hBa⟩;replace hBa:=Z3 hB0 hBa;clear hB0;replace hC:=hC.out ua hBa)
  | (go_at_call 52;refine hC.mono ?_;clear hC;rintro e ub ⟨rfl,hBb⟩;replace hBb:=Z3 hBa hBb;clear hBa)
  | (go_at_call 33;refine(X9 ub.heap.size 2 (.nilIface) (.iface T1 z1) false true (ub.alloc (.cells #[.nilIface,.iface T1 z1] 63)) (by simp) (by simp) (by simp) (a0.up (Z0 hBb _)) (a1.up (Z0 hBb _))).mono ?_;clear a0 a1;rintro e uc ⟨y2,rfl,hy2,hBc⟩;replace hBc:=Z3 (Z0 hBb (.cells #[.nilIface,.iface T1 z1] 63)) hBc))
 exact bodyPost_ret (v:=y2) (by rcases hy2.or with rfl | ⟨T,z,rfl⟩<;>simp[results,Tryz.results27,go_sem]) rfl ⟨y2,rfl,hy2,hBc⟩
theorem pPolynomial_10(q:Int)(sl:Option Addr)(n cap:Nat)(T0:TypeId)(z0:Value)(w:World)(a0:AE true w (.iface T0 z0))(a1:AE false w (.nilIface))
 (hM:Hid (∀u,CC 51 #[NV q] u (.iface T0 z0)))(hC:Hid (∀u,Bw w u->CC 52 #[.string ⟨#[99,111,101,102,102,105,99,105,101,110,116,115]⟩,.int .i64 (n:Int)] u (.nilIface))):
 Calls Tryz.prog 27 #[NV q,.slice sl n cap] w fun e u=> ∃y,e= .returned y/\AE (true || false) u y/\Bw w u:=by
 have hB0:Bw w (w.alloc (.cells (LN q:List Value).toArray 24)):=Z0 (Z2 w) _
 go_enter Tryz.func27,Tryz.ntmps27
 go_wp2_with (first
  | (go_at_call 51;refine(hM.out _).mono ?_;clear hM;rintro e ua ⟨rfl,hBa⟩;replace hBa:=Z3 hB0 hBa;clear hB0;replace hC:=hC.out ua hBa)
  | (go_at_call 52;refine hC.mono ?_;clear hC;rintro e ub ⟨rfl,hBb⟩;replace hBb:=Z3 hBa hBb;clear hBa)
  | (go_at_call 33;refine(X9 ub.heap.size 2 (.iface T0 z0) (.nilIface) true false (ub.alloc (.cells #[.iface T0 z0,.nilIface] 63)) (by simp) (by simp) (by simp) (a0.up (Z0 hBb _)) (a1.up (Z0 hBb _))).mono ?_;clear a0 a1;rintro e uc ⟨y2,rfl,hy2,hBc⟩;replace hBc:=Z3 (Z0 hBb (.cells #[.iface T0 z0,.nilIface] 63)) hBc))
 exact bodyPost_ret (v:=y2) (by rcases hy2.or with rfl | ⟨T,z,rfl⟩<;>simp[results,Tryz.results27,go_sem]) rfl ⟨y2,rfl,hy2,hBc⟩
theorem pPolynomial_11(q:Int)(sl:Option Addr)(n cap:Nat)(T0:TypeId)(z0:Value)(T1:TypeId)(z1:Value)(w:World)(a0:AE true w (.iface T0 z0))(a1:AE true w (.iface T1 z1))
 (hM:Hid (∀u,CC 51 #[NV q] u (.iface T0 z0)))(hC:Hid (∀u,Bw w u->CC 52 #[.string ⟨#[99,111,101,102,102,105,99,105,101,110,116,115]⟩,.int .i64 (n:Int)] u (.iface T1 z1))):
 Calls Tryz.prog 27 #[NV q,.slice sl n cap] w fun e u=> ∃y,e= .returned y/\AE (true || true) u y/\Bw w u:=by
 have hB0:Bw w (w.alloc (.cells (LN q:List Value).toArray 24)):=Z0 (Z2 w) _
 go_enter Tryz.func27,Tryz.ntmps27
 go_wp2_with (first
  | (go_at_call 51;refine(hM.out _).mono ?_;clear hM;rintro e ua ⟨rfl,hBa⟩;replace hBa:=Z3 hB0 hBa;clear hB0;replace hC:=hC.out ua hBa)
  | (go_at_call 52;refine hC.mono ?_;clear hC;rintro e ub ⟨rfl,hBb⟩;replace hBb:=Z3 hBa hBb;clear hBa)
  | (go_at_call 33;refine(X9 ub.heap.size 2 (.iface T0 z0) (.iface T1 z1) true true (ub.alloc (.cells #[.iface T0 z0,.iface T1 z1] 63)) (by simp) (by simp) (by simp) (a0.up (Z0 hBb _)) (a1.up (Z0 hBb _))).mono ?_;clear a0 a1;rintro e uc ⟨y2,rfl,hy2,hBc⟩;replace hBc:=Z3 (Z0 hBb (.cells #[.iface T0 z0,.iface T1 z1] 63)) hBc))
 exact bodyPost_ret (v:=y2) (by rcases hy2.or with rfl | ⟨T,z,rfl⟩<;>simp[results,Tryz.results27,go_sem]) rfl ⟨y2,rfl,hy2,hBc⟩
theorem pPolynomial(q:Int)(sl:Option Addr)(n cap:Nat)(w:World)(hG:GP w)(hq:In q)(hn:n<=256):
 Calls Tryz.prog 27 #[NV q,.slice sl n cap] w fun e u=> ∃y,e= .returned y/\AE (decide (q<2) || decide (n<1)) u y/\Bw w u:=by
 obtain⟨b0,h0,V0,a0,hM⟩:=dModulus q w hq
 obtain⟨b1,h1,V1,a1,hC⟩:=dCounted ⟨#[99,111,101,102,102,105,99,105,101,110,116,115]⟩ n w hG (by decide) hn
 rw[h0,h1]
 have a0':=a0
 have a1':=a1
 rcases a0' with⟨rfl,rfl⟩ | ⟨rfl,d0,k0⟩
 ·rcases a1' with⟨rfl,rfl⟩ | ⟨rfl,d1,k1⟩
  ·exact pPolynomial_00 q sl n cap w a0 a1 hM hC
  ·obtain⟨T1,z1,rfl⟩:=k1.some
   exact pPolynomial_01 q sl n cap T1 z1 w a0 a1 hM hC
 ·obtain⟨T0,z0,rfl⟩:=k0.some
  rcases a1' with⟨rfl,rfl⟩ | ⟨rfl,d1,k1⟩
  ·exact pPolynomial_10 q sl n cap T0 z0 w a0 a1 hM hC
  ·obtain⟨T1,z1,rfl⟩:=k1.some
   exact pPolynomial_11 q sl n cap T0 z0 T1 z1 w a0 a1 hM hC
theorem pPointsOf_00(q:Int)(n:Nat)(w:World)(a0:AE false w (.nilIface))(a1:AE false w (.nilIface))
 (hM:Hid (∀u,CC 51 #[NV q] u (.nilIface)))(hC:Hid (∀u,Bw w u->CC 52 #[.string ⟨#[112,111,105,110,116,115]⟩,.int .i64 (n:Int)] u (.nilIface))):
 Calls Tryz.prog 39 #[NV q,.int .i64 (n:Int)] w fun e u=> ∃y,e= .returned y/\AE (false || false) u y/\Bw w u:=by
 have hB0:Bw w (w.alloc (.cells (LN q:List Value).toArray 24)):=Z0 (Z2 w) _
 go_enter Tryz.func39,Tryz.ntmps39
 go_wp2_with (first
  | (go_at_call 51;refine(hM.out _).mono ?_;clear hM;rintro e ua ⟨rfl,hBa⟩;replace hBa:=Z3 hB0 hBa;clear hB0;replace hC:=hC.out ua hBa)
  | (go_at_call 52;refine hC.mono ?_;clear hC;rintro e ub ⟨rfl,hBb⟩;replace hBb:=Z3 hBa hBb;clear hBa)
  | (go_at_call 33;refine(X9 ub.heap.size 2 (.nilIface) (.nilIface) false false (ub.alloc (.cells #[.nilIface,.nilIface] 63)) (by simp) (by simp) (by simp) (a0.up (Z0 hBb _)) (a1.up (Z0 hBb _))).mono ?_;clear a0 a1;rintro e uc ⟨y2,rfl,hy2,hBc⟩;replace hBc:=Z3 (Z0 hBb (.cells #[.nilIface,.nilIface] 63)) hBc))
 exact bodyPost_ret (v:=y2) (by rcases hy2.or with rfl | ⟨T,z,rfl⟩<;>simp[results,Tryz.results39,go_sem]) rfl ⟨y2,rfl,hy2,hBc⟩
theorem pPointsOf_01(q:Int)(n:Nat)(T1:TypeId)(z1:Value)(w:World)(a0:AE false w (.nilIface))(a1:AE true w (.iface T1 z1))
 (hM:Hid (∀u,CC 51 #[NV q] u (.nilIface)))(hC:Hid (∀u,Bw w u->CC 52 #[.string ⟨#[112,111,105,110,116,115]⟩,.int .i64 (n:Int)] u (.iface T1 z1))):
 Calls Tryz.prog 39 #[NV q,.int .i64 (n:Int)] w fun e u=> ∃y,e= .returned y/\AE (false || true) u y/\Bw w u:=by
 have hB0:Bw w (w.alloc (.cells (LN q:List Value).toArray 24)):=Z0 (Z2 w) _
 go_enter Tryz.func39,Tryz.ntmps39
 go_wp2_with (first
  | (go_at_call 51;refine(hM.out _).mono ?_;clear hM;rintro e ua ⟨rfl,hBa⟩;replace hBa:=Z3 hB0 hBa;clear hB0;replace hC:=hC.out ua hBa)
  | (go_at_call 52;refine hC.mono ?_;clear hC;rintro e ub ⟨rfl,hBb⟩;replace hBb:=Z3 hBa hBb;clear hBa)
  | (go_at_call 33;refine(X9 ub.heap.size 2 (.nilIface) (.iface T1 z1) false true (ub.alloc (.cells #[.nilIface,.iface T1 z1] 63)) (by simp) (by simp) (by simp) (a0.up (Z0 hBb _)) (a1.up (Z0 hBb _))).mono ?_;clear a0 a1;rintro e uc ⟨y2,rfl,hy2,hBc⟩;replace hBc:=Z3 (Z0 hBb (.cells #[.nilIface,.iface T1 z1] 63)) hBc))
 exact bodyPost_ret (v:=y2) (by rcases hy2.or with rfl | ⟨T,z,rfl⟩<;>simp[results,Tryz.results39,go_sem]) rfl ⟨y2,rfl,hy2,hBc⟩
theorem pPointsOf_10(q:Int)(n:Nat)(T0:TypeId)(z0:Value)(w:World)(a0:AE true w (.iface T0 z0))(a1:AE false w (.nilIface))
 (hM:Hid (∀u,CC 51 #[NV q] u (.iface T0 z0)))(hC:Hid (∀u,Bw w u->CC 52 #[.string ⟨#[112,111,105,110,116,115]⟩,.int .i64 (n:Int)] u (.nilIface))):
 Calls Tryz.prog 39 #[NV q,.int .i64 (n:Int)] w fun e u=> ∃y,e= .returned y/\AE (true || false) u y/\Bw w u:=by
 have hB0:Bw w (w.alloc (.cells (LN q:List Value).toArray 24)):=Z0 (Z2 w) _
 go_enter Tryz.func39,Tryz.ntmps39
 go_wp2_with (first
  | (go_at_call 51;refine(hM.out _).mono ?_;clear hM;rintro e ua ⟨rfl,hBa⟩;replace hBa:=Z3 hB0 hBa;clear hB0;replace hC:=hC.out ua hBa)
  | (go_at_call 52;refine hC.mono ?_;clear hC;rintro e ub ⟨rfl,hBb⟩;replace hBb:=Z3 hBa hBb;clear hBa)
  | (go_at_call 33;refine(X9 ub.heap.size 2 (.iface T0 z0) (.nilIface) true false (ub.alloc (.cells #[.iface T0 z0,.nilIface] 63)) (by simp) (by simp) (by simp) (a0.up (Z0 hBb _)) (a1.up (Z0 hBb _))).mono ?_;clear a0 a1;rintro e uc ⟨y2,rfl,hy2,hBc⟩;replace hBc:=Z3 (Z0 hBb (.cells #[.iface T0 z0,.nilIface] 63)) hBc))
 exact bodyPost_ret (v:=y2) (by rcases hy2.or with rfl | ⟨T,z,rfl⟩<;>simp[results,Tryz.results39,go_sem]) rfl ⟨y2,rfl,hy2,hBc⟩
theorem pPointsOf_11(q:Int)(n:Nat)(T0:TypeId)(z0:Value)(T1:TypeId)(z1:Value)(w:World)(a0:AE true w (.iface T0 z0))(a1:AE true w (.iface T1 z1))
 (hM:Hid (∀u,CC 51 #[NV q] u (.iface T0 z0)))(hC:Hid (∀u,Bw w u->CC 52 #[.string ⟨#[112,111,105,110,116,115]⟩,.int .i64 (n:Int)] u (.iface T1 z1))):
 Calls Tryz.prog 39 #[NV q,.int .i64 (n:Int)] w fun e u=> ∃y,e= .returned y/\AE (true || true) u y/\Bw w u:=by
 have hB0:Bw w (w.alloc (.cells (LN q:List Value).toArray 24)):=Z0 (Z2 w) _
 go_enter Tryz.func39,Tryz.ntmps39
 go_wp2_with (first
  | (go_at_call 51;refine(hM.out _).mono ?_;clear hM;rintro e ua ⟨rfl,hBa⟩;replace hBa:=Z3 hB0 hBa;clear hB0;replace hC:=hC.out ua hBa)
  | (go_at_call 52;refine hC.mono ?_;clear hC;rintro e ub ⟨rfl,hBb⟩;replace hBb:=Z3 hBa hBb;clear hBa)
  | (go_at_call 33;refine(X9 ub.heap.size 2 (.iface T0 z0) (.iface T1 z1) true true (ub.alloc (.cells #[.iface T0 z0,.iface T1 z1] 63)) (by simp) (by simp) (by simp) (a0.up (Z0 hBb _)) (a1.up (Z0 hBb _))).mono ?_;clear a0 a1;rintro e uc ⟨y2,rfl,hy2,hBc⟩;replace hBc:=Z3 (Z0 hBb (.cells #[.iface T0 z0,.iface T1 z1] 63)) hBc))
 exact bodyPost_ret (v:=y2) (by rcases hy2.or with rfl | ⟨T,z,rfl⟩<;>simp[results,Tryz.results39,go_sem]) rfl ⟨y2,rfl,hy2,hBc⟩
theorem pPointsOf(q:Int)(n:Nat)(w:World)(hG:GP w)(hq:In q)(hn:n<=256):
 Calls Tryz.prog 39 #[NV q,.int .i64 (n:Int)] w fun e u=> ∃y,e= .returned y/\AE (decide (q<2) || decide (n<1)) u y/\Bw w u:=by
 obtain⟨b0,h0,V0,a0,hM⟩:=dModulus q w hq
 obtain⟨b1,h1,V1,a1,hC⟩:=dCounted ⟨#[112,111,105,110,116,115]⟩ n w hG (by decide) hn
 rw[h0,h1]
 have a0':=a0
 have a1':=a1
 rcases a0' with⟨rfl,rfl⟩ | ⟨rfl,d0,k0⟩
 ·rcases a1' with⟨rfl,rfl⟩ | ⟨rfl,d1,k1⟩
  ·exact pPointsOf_00 q n w a0 a1 hM hC
  ·obtain⟨T1,z1,rfl⟩:=k1.some
   exact pPointsOf_01 q n T1 z1 w a0 a1 hM hC
 ·obtain⟨T0,z0,rfl⟩:=k0.some
  rcases a1' with⟨rfl,rfl⟩ | ⟨rfl,d1,k1⟩
  ·exact pPointsOf_10 q n T0 z0 w a0 a1 hM hC
  ·obtain⟨T1,z1,rfl⟩:=k1.some
   exact pPointsOf_11 q n T0 z0 T1 z1 w a0 a1 hM hC
end
def IL(u:World)(v:Value)(xs:List Int):Prop:= ∃sl gb go cap,v= .slice sl xs.length cap/\xs.length<=cap/\(sl=none->cap=0)/\(xs=[]\/sl=some ⟨gb,go,none⟩)/\(xs.length=0\/gb<u.heap.size)/\ ∀j,j<xs.length->u.cell? ⟨gb,go+j,none⟩=some (.int .i64 (xs.getD j 0))
theorem IL.up{w u:World}{v:Value}{xs:List Int}(h:IL w v xs)(hB:Bw w u):IL u v xs:=by
 obtain⟨sl,gb,go,cap,h1,h2,h3,h4,h5,h6⟩:=h
 refine⟨sl,gb,go,cap,h1,h2,h3,h4,h5.imp id fun e=>Nat.lt_of_lt_of_le e hB.size,fun j hj=>?_⟩
 exact(hB.cell (p:=⟨gb,go+j,none⟩) (h5.resolve_left (by omega))).trans (h6 j hj)
theorem IL.stab{xs:List Int}{u u2:World}{x:Value}(hB:Bw u u2)(h:IL u x xs):IL u2 x xs:=h.up hB
def poS(xs:List Int):Bool:=xs.all fun x=>decide (0<=x)
theorem poS_get{xs:List Int}(h:poS xs=true): ∀j,j<xs.length->0<=xs.getD j 0:=fun j hj=>by
 unfold poS at h
 rw[List.all_eq_true] at h
 have:=h (xs.getD j 0) (by simp[List.getElem?_eq_getElem hj])
 simpa using this
theorem poS_of{xs:List Int}(h: ∀j,j<xs.length->0<=xs.getD j 0):poS xs=true:=by
 unfold poS
 rw[List.all_eq_true]
 intro x hx
 obtain⟨j,hj,rfl⟩:=List.mem_iff_getElem.1 hx
 have:=h j hj
 simpa [List.getElem?_eq_getElem hj] using this
theorem poS_not{xs:List Int}{j:Nat}(hj:j<xs.length)(h:xs.getD j 0<0):poS xs=false:=by
 cases e:poS xs with
 | false=>rfl
 | true=>have:=poS_get e j hj;omega
theorem places_core(sl:Option Addr)(n cap gb go:Nat)(f:Nat->Int)(b:Bool)(w:World)(hn:n<=256)(hsl:Hid (0<n->sl=some ⟨gb,go,none⟩/\gb<w.heap.size))(hc:Hid (∀j,j<n->w.cell? ⟨gb,go+j,none⟩=some (.int .i64 (f j))))(hI:Hid (∀x u,-9223372036854775808<=x->x<=9223372036854775807->Bw w u->CC 57 #[.int .i64 x] u (.string (ia x))))(hf:Hid (∀j,j<n-> -9223372036854775808<=f j/\f j<=9223372036854775807))(hb1:Hid (∀j,j<n->f j<0->b=true))(hb0:Hid ((∀j,j<n->0<=f j)->b=false)):
 Calls Tryz.prog 34 #[.slice sl n cap] w fun e u=> ∃y,e= .returned y/\AE b u y/\Bw w u:=by
 have hn2: ¬(256:Int)<(n:Int):=by omega
 go_enter Tryz.func34,Tryz.ntmps34
 go_wp2_with fail
 go_loopw [13] (fun s13 wr=> ∃i:Nat,i<=n/\s13= .int .i64 (i:Int)/\Hid (∀j,j<i->0<=f j)/\Bw w wr) (fun s13 _=>n -(intOf s13).toNat)
 case atStart=>exact⟨0,by omega,rfl,fun j hj=>absurd hj (by omega),Below.refl _ _⟩
 case round=>
  obtain⟨i,hi,rfl,hno,HBr⟩:=hrel
  by_cases hj:i<n
  ·have hl2:(i:Int)<(n:Int):=by omega
   obtain⟨rfl,hg⟩:=hsl.out (by omega)
   have hx:=hf.out i hj
   have hk:wr.cell? ⟨gb,go+i,none⟩=some (.int .i64 (f i)):=(HBr.cell (p:=⟨gb,go+i,none⟩) hg).trans (hc.out i hj)
   have hbt:=hb1.out i hj
   have hno2:0<=f i->Hid (∀j,j<i+1->0<=f j):=fun h j hj2=>by
    by_cases e:j=i
    ·subst e;exact h
    ·exact hno.out j (by omega)
   have e1:IntKind.i64.wrap ((i:Int)+1)=((i+1:Nat):Int):=by rw[IntKind.wrap_i64];omega
   obtain⟨x,ex⟩: ∃x,f i=x:=⟨_,rfl⟩
   rw[ex] at hx hk hbt hno2
   clear ex
   by_cases hneg:x<0
   ·obtain rfl:=hbt hneg
    have hI1:=hI.out (i:Int) wr (by omega) (by omega) HBr
    have hI2:=fun u=>hI.out x u hx.1 hx.2
    have z1:=ia_sz (i:Int) (by omega) (by omega)
    have z2:=ia_sz x hx.1 hx.2
    have hs1: ¬9223372036854775807<6+(ia (i:Int)).size:=by omega
    have hs2: ¬9223372036854775807<(ia x).size+11:=by omega
    obtain⟨s1,e1⟩: ∃s,ia (i:Int)=s:=⟨_,rfl⟩
    obtain⟨s2,e2⟩: ∃s,ia x=s:=⟨_,rfl⟩
    rw[e1] at hI1 hs1
    rw[e2] at hI2 hs2
    clear hno2 hbt hno z1 z2 e1 e2
    go_wp2_with (first
     | (go_at_call 57;refine hI1.mono ?_;clear hI1;rintro e ua ⟨rfl,hBa⟩;replace hBa:=Z3 HBr hBa;replace hI2:=hI2 ua hBa)
     | (go_at_call 57;refine hI2.mono ?_;clear hI2;rintro e ub ⟨rfl,hBb⟩;replace hBb:=Z3 hBa hBb))
    exact bodyPost_ret (v:= .iface 104 (.agg #[.string (⟨#[112,108,97,99,101,32]⟩++s1),.iface 104 (.agg #[.string (s2++⟨#[32,105,115,32,98,101,108,111,119,32,48]⟩),.iface 28 (.int .i64 2)])])) (by simp[results,Tryz.results34,go_sem]) rfl ⟨_,rfl,.inr ⟨rfl,2,.flt 1 _ _ (.flt 0 _ _ (.leaf 0))⟩,hBb⟩
   ·have h2:=hno2 (by omega)
    clear hno2 hbt
    go_wp2
    refine⟨⟨i+1,by omega,by simp,h2,HBr⟩,?_⟩
    simp[intOf];omega
  ·have hl2: ¬(i:Int)<(n:Int):=by omega
   have hin:i=n:=by omega
   subst hin
   obtain rfl:=hb0.out hno.out
   go_wp2
   exact bodyPost_ret (v:= .nilIface) (by simp[results,Tryz.results34,go_sem]) rfl ⟨_,rfl,.inl ⟨rfl,rfl⟩,HBr⟩
theorem pPlaces(xs:List Int)(v:Value)(w:World)(hG:GP w)(hl:xs.length<=256)(hx: ∀x∈xs,-9223372036854775808<=x/\x<=9223372036854775807)(hv:IL w v xs):
 Calls Tryz.prog 34 #[v] w fun e u=> ∃y,e= .returned y/\AE (!poS xs) u y/\Bw w u:=by
 obtain⟨sl,gb,go,cap,rfl,h2,h3,h4,h5,h6⟩:=hv
 refine places_core sl xs.length cap gb go (fun j=>xs.getD j 0) _ w hl (fun h=>⟨h4.resolve_left (fun e=>by subst e;simp at h),h5.resolve_left (by omega)⟩) h6 (fun x u h0 h1 hB=>cItoa x u h0 h1 (hG.below hB)) (fun j hj=>hx _ (by simp[List.getElem?_eq_getElem hj])) (fun j hj h=>by rw[poS_not hj h];rfl) (fun h=>by rw[poS_of h];rfl)
end Go.Proofs.YtgieoghechekpaaGreatDoor
