import Derived.Test.YtofcppgfaelloaaGreatDoorGR
namespace Go.Proofs.YtofcppgfaelloaaGreatDoor
set_option linter.unusedVariables false
set_option linter.unusedSimpArgs false
set_option maxRecDepth 100000
set_option maxHeartbeats 4000000
section
open Go.RowKit
section
section
variable {R:Rg} {P:Program} {ops:Array Oper} {Q:Exit->Act->World->Prop} {f:Nat->Bool} {t:Nat->Value} {u:World} {a:Act} {i:Nat} {o:Oper}
theorem g_op {v:Value} (h: ∀(ev:Operand->Value) (u:World),(∀x y,evR R i o x=some y->ev x=y)->(execOp ev o).run P u= .ok (.value v) u) (hv:some v=Zw i R.G:=by rfl) (hc:R.chk ops i o=true:=by rfl):OG R P ops Q i o:=
 Y5 hv hc fun f t u a X K hK=>Yf (h a.eval u (fun x y hxy=>X.ev hxy)) hK
end
def rotr (x n:Nat):Nat:=(x<<<(32 -n))%4294967296 ||| x>>>n
def chN (e f g:Nat):Nat:=(e&&&f)^^^((4294967295^^^e)&&&g)
def maN (a b c:Nat):Nat:=(a&&&b)^^^(a&&&c)^^^(b&&&c)
def ls0 (x:Nat):Nat:=rotr x 7^^^rotr x 18^^^x>>>3
def ls1 (x:Nat):Nat:=rotr x 17^^^rotr x 19^^^x>>>10
def gs0 (x:Nat):Nat:=rotr x 2^^^rotr x 13^^^rotr x 22
def gs1 (x:Nat):Nat:=rotr x 6^^^rotr x 11^^^rotr x 25
abbrev M32:Nat:=4294967296
theorem Xu (n:Int) (h0:0<=n) (h1:n<2^32):IntKind.u32.wrap n=n:=by simp[IntKind.wrap,IntKind.signed,IntKind.bits];omega
theorem Xc {a b:Nat} (h:b<M32):a&&&b<M32:=Nat.and_lt_two_pow a (n:=32) h
theorem or_lt {a b:Nat} (ha:a<M32) (hb:b<M32):a ||| b<M32:=Nat.or_lt_two_pow (n:=32) ha hb
theorem Yh {a b:Nat} (ha:a<M32) (hb:b<M32):a^^^b<M32:=Nat.xor_lt_two_pow (n:=32) ha hb
theorem Td {a n:Nat} (ha:a<M32):a>>>n<M32:=by rw[Nat.shiftRight_eq_div_pow];exact Nat.lt_of_le_of_lt (Nat.div_le_self _ _) ha
theorem Zb {x n:Nat} (h:x<M32):rotr x n<M32:=or_lt (Nat.mod_lt _ (by decide)) (Td h)
theorem ch_lt {e f g:Nat} (hf:f<M32) (hg:g<M32):chN e f g<M32:=Yh (Xc hf) (Xc hg)
theorem ma_lt {a b c:Nat} (hb:b<M32) (hc:c<M32):maN a b c<M32:=Yh (Yh (Xc hb) (Xc hc)) (Xc hc)
theorem ls0_lt {x:Nat} (h:x<M32):ls0 x<M32:=Yh (Yh (Zb h) (Zb h)) (Td h)
theorem ls1_lt {x:Nat} (h:x<M32):ls1 x<M32:=Yh (Yh (Zb h) (Zb h)) (Td h)
theorem gs0_lt {x:Nat} (h:x<M32):gs0 x<M32:=Yh (Yh (Zb h) (Zb h)) (Zb h)
theorem gs1_lt {x:Nat} (h:x<M32):gs1 x<M32:=Yh (Yh (Zb h) (Zb h)) (Zb h)
theorem bit_and (a b:Nat) (ha:a<M32) (hb:b<M32):bits .and .u32 a b=((a&&&b:Nat):Int):=(bits_nat .u32 32 (by decide) Xu a b ha hb).1
theorem bit_or (a b:Nat) (ha:a<M32) (hb:b<M32):bits .or .u32 a b=((a ||| b:Nat):Int):=(bits_nat .u32 32 (by decide) Xu a b ha hb).2
theorem bit_xor (a b:Nat) (ha:a<M32) (hb:b<M32):bits .xor .u32 a b=((a^^^b:Nat):Int):=by
 have ha':a%2^32=a:=Nat.mod_eq_of_lt ha
 have hb':b%2^32=b:=Nat.mod_eq_of_lt hb
 have h:(BitVec.ofNat 32 a^^^BitVec.ofNat 32 b).toNat=a^^^b:=by rw[BitVec.toNat_xor,BitVec.toNat_ofNat,BitVec.toNat_ofNat,ha',hb']
 show IntKind.u32.wrap ((BitVec.ofInt 32 (a:Int)^^^BitVec.ofInt 32 (b:Int)).toNat:Int)=_
 rw[BitVec.ofInt_natCast,BitVec.ofInt_natCast,h]
 exact Xu _ (Int.natCast_nonneg _) (by exact_mod_cast Yh ha hb)
theorem and32 (p q:Operand) (a b:Nat) (w:World) (ha:a<M32) (hb:b<M32):(do eqGuard .and 163 p q (.int .u32 a) (.int .u32 b);binOp .and 163 (.int .u32 a) (.int .u32 b):Sem Value).run Tryz.prog w= .ok (.int .u32 ((a&&&b:Nat):Int)) w:=by
 rw[<-bit_and a b ha hb];go_simp
theorem or32 (p q:Operand) (a b:Nat) (w:World) (ha:a<M32) (hb:b<M32):(do eqGuard .or 163 p q (.int .u32 a) (.int .u32 b);binOp .or 163 (.int .u32 a) (.int .u32 b):Sem Value).run Tryz.prog w= .ok (.int .u32 ((a ||| b:Nat):Int)) w:=by
 rw[<-bit_or a b ha hb];go_simp
theorem xor32 (p q:Operand) (a b:Nat) (w:World) (ha:a<M32) (hb:b<M32):(do eqGuard .xor 163 p q (.int .u32 a) (.int .u32 b);binOp .xor 163 (.int .u32 a) (.int .u32 b):Sem Value).run Tryz.prog w= .ok (.int .u32 ((a^^^b:Nat):Int)) w:=by
 rw[<-bit_xor a b ha hb];go_simp
theorem add32 (p q:Operand) (a b:Nat) (w:World):(do eqGuard .add 163 p q (.int .u32 a) (.int .u32 b);binOp .add 163 (.int .u32 a) (.int .u32 b):Sem Value).run Tryz.prog w= .ok (.int .u32 (((a+b)%4294967296:Nat):Int)) w:=by
 have e:IntKind.u32.wrap ((a:Int)+b)=(((a+b)%4294967296:Nat):Int):=by simp[IntKind.wrap,IntKind.signed,IntKind.bits]
 go_simp
theorem not32 (a:Nat) (w:World) (ha:a<M32):(Op.unary .xor (.int .u32 a)).run Tryz.prog w= .ok (.int .u32 ((4294967295^^^a:Nat):Int)) w:=by
 have e:=bit_xor 4294967295 a (by decide) ha
 have e2:(if IntKind.u32.signed=true then (-1:Int) else IntKind.u32.max)=((4294967295:Nat):Int):=rfl
 rw[<-e]
 go_simp
 first | done | rw[e2] | rfl
theorem shl32 (p q:Operand) (a n:Nat) (w:World) (hn:n<=32):(do eqGuard .shl 163 p q (.int .u32 a) (iU n);binOp .shl 163 (.int .u32 a) (iU n):Sem Value).run Tryz.prog w= .ok (.int .u32 (((a<<<n)%4294967296:Nat):Int)) w:=by
 have e:IntKind.u32.wrap ((a:Int)*2^n)=(a:Int)<<<n%4294967296:=by
  rw[Int.shiftLeft_eq];simp[IntKind.wrap,IntKind.signed,IntKind.bits]
 have e2:min n 32=n:=by omega
 go_simp
 first | done | exact e
theorem shr32 (p q:Operand) (a n:Nat) (w:World) (hn:n<=32):(do eqGuard .shr 163 p q (.int .u32 a) (iU n);binOp .shr 163 (.int .u32 a) (iU n):Sem Value).run Tryz.prog w= .ok (.int .u32 ((a>>>n:Nat):Int)) w:=by
 have e:((a:Int)/2^n)=(a:Int)>>>n:=by rw[Int.shiftRight_eq_div_pow];simp
 have e2:min n 32=n:=by omega
 go_simp
 first | done | exact e
theorem cChoice (e f g:Nat) (w:World) (he:e<M32) (hf:f<M32) (hg:g<M32):CC 165 #[.int .u32 e,.int .u32 f,.int .u32 g] w (.int .u32 (chN e f g:Nat)):=by
 go_enter Tryz.func165,Tryz.ntmps165
 have HB0:Bw w w:=Below.refl _ _
 have K0_1:=Bk.nil (w.heap.size) w
 go_upto_region 1 with fail
 refine Rn K0_1 HB0 (cG 0 7 [_,_,_,_,_,_,_,_] [(8,6,_)]) (oc g_mv<|oc g_mv<|oc (g_bn (fun uZ=>and32 _ _ e f uZ he hf))<|oc g_mv<|oc (g_un (fun uZ=>not32 e uZ he))<|oc g_mv<|oc (g_bn (fun uZ=>and32 _ _ (4294967295^^^e) g uZ (Yh (by decide) he) hg))<|oc (g_bn (fun uZ=>xor32 _ _ (e&&&f) ((4294967295^^^e)&&&g) uZ (Xc hf) (Xc hg)))<|oc g_as on) fun u1 HB1 _ K1=>?_
 simp only[sQ] at K1⊢
 go_wp2
 refine bodyPost_ret (v:= .int .u32 (((e&&&f)^^^((4294967295^^^e)&&&g):Nat):Int)) (by simp[results,Tryz.results165,go_sem,]) rfl ⟨rfl,HB1⟩
theorem cMajority (a b c:Nat) (w:World) (ha:a<M32) (hb:b<M32) (hc:c<M32):CC 167 #[.int .u32 a,.int .u32 b,.int .u32 c] w (.int .u32 (maN a b c:Nat)):=by
 go_enter Tryz.func167,Tryz.ntmps167
 have HB0:Bw w w:=Below.refl _ _
 have K0_1:=Bk.nil (w.heap.size) w
 go_upto_region 1 with fail
 refine Rn K0_1 HB0 (cG 0 7 [_,_,_,_,_,_,_,_,_,_,_] [(11,6,_)]) (oc g_mv<|oc g_mv<|oc (g_bn (fun uZ=>and32 _ _ a b uZ ha hb))<|oc g_mv<|oc g_mv<|oc (g_bn (fun uZ=>and32 _ _ a c uZ ha hc))<|oc (g_bn (fun uZ=>xor32 _ _ (a&&&b) (a&&&c) uZ (Xc hb) (Xc hc)))<|oc g_mv<|oc g_mv<|oc (g_bn (fun uZ=>and32 _ _ b c uZ hb hc))<|oc (g_bn (fun uZ=>xor32 _ _ ((a&&&b)^^^(a&&&c)) (b&&&c) uZ (Yh (Xc hb) (Xc hc)) (Xc hc)))<|oc g_as on) fun u1 HB1 _ K1=>?_
 simp only[sQ] at K1⊢
 go_wp2
 refine bodyPost_ret (v:= .int .u32 (((a&&&b)^^^(a&&&c)^^^(b&&&c):Nat):Int)) (by simp[results,Tryz.results167,go_sem,]) rfl ⟨rfl,HB1⟩
theorem sub_n (p q:Operand) (a b c:Nat) (w:World) (h:b+c=a) (ha:a<4294967296):(do eqGuard .sub 160 p q (iU a) (iU b);binOp .sub 160 (iU a) (iU b):Sem Value).run Tryz.prog w= .ok (iU ((c:Nat):Int)) w:=by
 have e:IntKind.u64.wrap ((a:Int) -b)=(c:Int):=by simp[IntKind.wrap,IntKind.signed,IntKind.bits];omega
 go_simp
theorem turnM (n:Nat) (h1:1<=n) (h2:n<=31):IntKind.u64.wrap (-(n:Int))=((18446744073709551616 -n:Nat):Int):=by simp[IntKind.wrap,IntKind.signed,IntKind.bits];omega
theorem and31 (n:Nat) (h1:1<=n) (h2:n<=31):bits .and .u64 ((18446744073709551616 -n:Nat):Int) 31=((32 -n:Nat):Int):=by
 have: ∀n:Nat,n<=31->1<=n->bits .and .u64 ((18446744073709551616 -n:Nat):Int) 31=((32 -n:Nat):Int):=by decide
 exact this n h2 h1
theorem cvN {o:Oper} {ev:Operand->Value} {x:Operand} {n:Nat} (u:World) (h1:1<=n) (h2:n<=31) (ho:o.op= .convert 3 160 x) (hx:ev x=iI (-(n:Int))):(execOp ev o).run Tryz.prog u= .ok (.value (iU ((18446744073709551616 -n:Nat):Int))) u:=by
 have e1:=turnM n h1 h2
 unfold execOp;rw[ho];simp only[hx];go_simp
theorem andu (p q:Operand) (n:Nat) (w:World) (h1:1<=n) (h2:n<=31):(do eqGuard .and 160 p q (iU ((18446744073709551616 -n:Nat):Int)) (iU 31);binOp .and 160 (iU ((18446744073709551616 -n:Nat):Int)) (iU 31):Sem Value).run Tryz.prog w= .ok (iU ((32 -n:Nat):Int)) w:=by
 have e2:=and31 n h1 h2
 go_simp
theorem negn (n:Nat) (w:World) (h2:n<=31):(Op.unary .neg (iI n)).run Tryz.prog w= .ok (iI (-(n:Int))) w:=by
 have e:IntKind.i64.wrap (-(n:Int))= -(n:Int):=by rw[IntKind.wrap_i64];omega
 go_simp
theorem cRotate (x n:Nat) (w:World) (hx:x<M32) (h1:1<=n) (h2:n<=31):CC 171 #[.int .u32 x,iI (-(n:Int))] w (.int .u32 (rotr x n:Nat)):=by
 go_enter Tryz.func171,Tryz.ntmps171
 have HB0:Bw w w:=Below.refl _ _
 have K0_1:=Bk.nil (w.heap.size) w
 go_upto_region 1 with fail
 refine Rn K0_1 HB0 (cG 0 6 [_,_,_] [(3,5,_)]) (oc g_mv<|oc (g_op (fun ev uZ he=>cvN uZ h1 h2 rfl (he _ _ rfl)))<|oc (g_bn (fun uZ=>andu _ _ n uZ h1 h2))<|oc g_as on) fun u1 HB1 _ K1=>?_
 simp only[sQ] at K1⊢
 go_upto_region 2 with fail
 refine Rn K1 HB1 (cG 0 9 [_,_,_,_,_,_,_,_] [(8,4,_)]) (oc g_mv<|oc g_mv<|oc (g_bn (fun uZ=>shl32 _ _ x (32 -n) uZ (by omega)))<|oc g_mv<|oc g_mv<|oc (g_bn (fun uZ=>sub_n _ _ 32 (32 -n) n uZ (by omega) (by decide)))<|oc (g_bn (fun uZ=>shr32 _ _ x n uZ (by omega)))<|oc (g_bn (fun uZ=>or32 _ _ ((x<<<(32 -n))%4294967296) (x>>>n) uZ (Nat.mod_lt _ (by decide)) (Td hx)))<|oc g_as on) fun u2 HB2 _ K2=>?_
 simp only[sQ] at K2⊢
 go_wp2
 refine bodyPost_ret (v:= .int .u32 (((x<<<(32 -n))%4294967296 ||| x>>>n:Nat):Int)) (by simp[results,Tryz.results171,go_sem,]) rfl ⟨rfl,HB2⟩
theorem W1:EnT 171:=fun _ _=>by kernel_rfl
theorem Zs:EnT 170:=fun _ _=>by kernel_rfl
theorem ent_sha_choice:EnT 165:=fun _ _=>by kernel_rfl
theorem Tw:EnT 167:=fun _ _=>by kernel_rfl
theorem ent_sha_small0:EnT 169:=fun _ _=>by kernel_rfl
theorem ent_sha_small1:EnT 168:=fun _ _=>by kernel_rfl
theorem ent_sha_great0:EnT 166:=fun _ _=>by kernel_rfl
theorem ent_sha_great1:EnT 164:=fun _ _=>by kernel_rfl
theorem ent_sha_spread:EnT 163:=fun _ _=>by kernel_rfl
theorem Uh:EnT 162:=fun _ _=>by kernel_rfl
theorem ent_sha_told:EnT 159:=fun _ _=>by kernel_rfl
theorem ent_sha_ending:EnT 158:=fun _ _=>by kernel_rfl
theorem Wu:EnT 147:=fun _ _=>by kernel_rfl
theorem Xa:EnT 157:=fun _ _=>by kernel_rfl
theorem ent_sha_Sum:EnT 136:=fun _ _=>by kernel_rfl
theorem U0 (x n:Nat) (w:World) (hx:x<M32) (h1:1<=n) (h2:n<=31):CC 170 #[.int .u32 x,iI (n:Int)] w (.int .u32 (rotr x n:Nat)):=by
 go_enter Tryz.func170,Tryz.ntmps170
 have HB0:Bw w w:=Below.refl _ _
 have K0_1:=Bk.nil (w.heap.size) w
 go_upto_region 1 with fail
 refine Rn K0_1 HB0 (cG 0 5 [_,_,_,_] [(4,4,_)]) (oc g_mv<|oc g_mv<|oc (g_un (fun uZ=>negn n uZ h2))<|oc (g_cl W1 (fun uZ=>cRotate x n uZ hx h1 h2))<|oc g_as on) fun u1 HB1 _ K1=>?_
 simp only[sQ] at K1⊢
 go_wp2
 refine bodyPost_ret (v:= .int .u32 ((rotr x n:Nat):Int)) (by simp[results,Tryz.results170,go_sem,]) rfl ⟨rfl,HB1⟩
theorem cSmall0 (x:Nat) (w:World) (hx:x<M32):CC 169 #[.int .u32 x] w (.int .u32 (ls0 x:Nat)):=by
 go_enter Tryz.func169,Tryz.ntmps169
 have HB0:Bw w w:=Below.refl _ _
 have K0_1:=Bk.nil (w.heap.size) w
 go_upto_region 1 with fail
 refine Rn K0_1 HB0 (cG 0 3 [_,_,_,_,_,_,_,_] [(8,2,_)]) (oc g_mv<|oc (g_cl Zs (fun uZ=>U0 x 7 uZ hx (by decide) (by decide)))<|oc g_mv<|oc (g_cl Zs (fun uZ=>U0 x 18 uZ hx (by decide) (by decide)))<|oc (g_bn (fun uZ=>xor32 _ _ (rotr x 7) (rotr x 18) uZ (Zb hx) (Zb hx)))<|oc g_mv<|oc (g_bn (fun uZ=>shr32 _ _ x 3 uZ (by decide)))<|oc (g_bn (fun uZ=>xor32 _ _ (rotr x 7^^^rotr x 18) (x>>>3) uZ (Yh (Zb hx) (Zb hx)) (Td hx)))<|oc g_as on) fun u1 HB1 _ K1=>?_
 simp only[sQ] at K1⊢
 go_wp2
 refine bodyPost_ret (v:= .int .u32 ((rotr x 7^^^rotr x 18^^^x>>>3:Nat):Int)) (by simp[results,Tryz.results169,go_sem,]) rfl ⟨rfl,HB1⟩
theorem cSmall1 (x:Nat) (w:World) (hx:x<M32):CC 168 #[.int .u32 x] w (.int .u32 (ls1 x:Nat)):=by
 go_enter Tryz.func168,Tryz.ntmps168
 have HB0:Bw w w:=Below.refl _ _
 have K0_1:=Bk.nil (w.heap.size) w
 go_upto_region 1 with fail
 refine Rn K0_1 HB0 (cG 0 3 [_,_,_,_,_,_,_,_] [(8,2,_)]) (oc g_mv<|oc (g_cl Zs (fun uZ=>U0 x 17 uZ hx (by decide) (by decide)))<|oc g_mv<|oc (g_cl Zs (fun uZ=>U0 x 19 uZ hx (by decide) (by decide)))<|oc (g_bn (fun uZ=>xor32 _ _ (rotr x 17) (rotr x 19) uZ (Zb hx) (Zb hx)))<|oc g_mv<|oc (g_bn (fun uZ=>shr32 _ _ x 10 uZ (by decide)))<|oc (g_bn (fun uZ=>xor32 _ _ (rotr x 17^^^rotr x 19) (x>>>10) uZ (Yh (Zb hx) (Zb hx)) (Td hx)))<|oc g_as on) fun u1 HB1 _ K1=>?_
 simp only[sQ] at K1⊢
 go_wp2
 refine bodyPost_ret (v:= .int .u32 ((rotr x 17^^^rotr x 19^^^x>>>10:Nat):Int)) (by simp[results,Tryz.results168,go_sem,]) rfl ⟨rfl,HB1⟩
theorem cGreat0 (x:Nat) (w:World) (hx:x<M32):CC 166 #[.int .u32 x] w (.int .u32 (gs0 x:Nat)):=by
 go_enter Tryz.func166,Tryz.ntmps166
 have HB0:Bw w w:=Below.refl _ _
 have K0_1:=Bk.nil (w.heap.size) w
 go_upto_region 1 with fail
 refine Rn K0_1 HB0 (cG 0 3 [_,_,_,_,_,_,_,_] [(8,2,_)]) (oc g_mv<|oc (g_cl Zs (fun uZ=>U0 x 2 uZ hx (by decide) (by decide)))<|oc g_mv<|oc (g_cl Zs (fun uZ=>U0 x 13 uZ hx (by decide) (by decide)))<|oc (g_bn (fun uZ=>xor32 _ _ (rotr x 2) (rotr x 13) uZ (Zb hx) (Zb hx)))<|oc g_mv<|oc (g_cl Zs (fun uZ=>U0 x 22 uZ hx (by decide) (by decide)))<|oc (g_bn (fun uZ=>xor32 _ _ (rotr x 2^^^rotr x 13) (rotr x 22) uZ (Yh (Zb hx) (Zb hx)) (Zb hx)))<|oc g_as on) fun u1 HB1 _ K1=>?_
 simp only[sQ] at K1⊢
 go_wp2
 refine bodyPost_ret (v:= .int .u32 ((rotr x 2^^^rotr x 13^^^rotr x 22:Nat):Int)) (by simp[results,Tryz.results166,go_sem,]) rfl ⟨rfl,HB1⟩
theorem cGreat1 (x:Nat) (w:World) (hx:x<M32):CC 164 #[.int .u32 x] w (.int .u32 (gs1 x:Nat)):=by
 go_enter Tryz.func164,Tryz.ntmps164
 have HB0:Bw w w:=Below.refl _ _
 have K0_1:=Bk.nil (w.heap.size) w
 go_upto_region 1 with fail
 refine Rn K0_1 HB0 (cG 0 3 [_,_,_,_,_,_,_,_] [(8,2,_)]) (oc g_mv<|oc (g_cl Zs (fun uZ=>U0 x 6 uZ hx (by decide) (by decide)))<|oc g_mv<|oc (g_cl Zs (fun uZ=>U0 x 11 uZ hx (by decide) (by decide)))<|oc (g_bn (fun uZ=>xor32 _ _ (rotr x 6) (rotr x 11) uZ (Zb hx) (Zb hx)))<|oc g_mv<|oc (g_cl Zs (fun uZ=>U0 x 25 uZ hx (by decide) (by decide)))<|oc (g_bn (fun uZ=>xor32 _ _ (rotr x 6^^^rotr x 11) (rotr x 25) uZ (Yh (Zb hx) (Zb hx)) (Zb hx)))<|oc g_as on) fun u1 HB1 _ K1=>?_
 simp only[sQ] at K1⊢
 go_wp2
 refine bodyPost_ret (v:= .int .u32 ((rotr x 6^^^rotr x 11^^^rotr x 25:Nat):Int)) (by simp[results,Tryz.results164,go_sem,]) rfl ⟨rfl,HB1⟩
end
section
section
variable {R:Rg} {P:Program} {ops:Array Oper} {Q:Exit->Act->World->Prop} {f:Nat->Bool} {t:Nat->Value} {u:World} {a:Act} {i:Nat} {o:Oper}
theorem g_lw (k c:Nat) {T:TypeId} {x:Operand} {b:Nat} {v:Value} {l:List Value} (hr: ∀w,w.cell? ⟨b,c,none⟩=some v->(Instr.loadAt T (.pointer (some ⟨b,c,none⟩))).run P w= .ok v w) (hl:l[c]?=some v) (hop:o.op= .load T x:=by rfl) (hk:R.cur i k=some (b,l):=by rfl) (hx:evR R i o x=some (.pointer (some ⟨b,c,none⟩)):=by rfl) (hv:some v=Zw i R.G:=by rfl) (hc:R.chk ops i o=true:=by rfl):OG R P ops Q i o:=
 Y5 hv hc fun f t u a X K hK=>wp_load hop (X.ev hx) (hr u ((X.cur hk).1 c _ hl).1) hK
theorem g_lg (b c:Nat) {T:TypeId} {x:Operand} {v:Value} (hr: ∀w,w.cell? ⟨b,c,none⟩=some v->(Instr.loadAt T (.pointer (some ⟨b,c,none⟩))).run P w= .ok v w) (hl:R.w.cell? ⟨b,c,none⟩=some v) (hb:b<R.lo) (hop:o.op= .load T x:=by rfl) (hx:evR R i o x=some (.pointer (some ⟨b,c,none⟩)):=by rfl) (hv:some v=Zw i R.G:=by rfl) (hc:R.chk ops i o=true:=by rfl):OG R P ops Q i o:=
 Y5 hv hc fun f t u a X K hK=>wp_load hop (X.ev hx) (hr u ((X.I.1.bel.cell (p:=⟨b,c,none⟩) hb).trans hl)) hK
theorem g_sw (k c:Nat) {T:TypeId} {x y:Operand} {b:Nat} {l post:List Value} {v0 v:Value} (hr: ∀w,w.cell? ⟨b,c,none⟩=some v0->w.frozen? ⟨b,c,none⟩=false->(Instr.storeAt T (.pointer (some ⟨b,c,none⟩)) v).run P w= .ok () (w.setCell ⟨b,c,none⟩ v)) (h0:l[c]?=some v0) (hp:post=l.set c v)
 (hop:o.op= .store T x y:=by rfl) (hn:R.es[k]?=some (true,b,l,.all i post):=by rfl) (hx:evR R i o x=some (.pointer (some ⟨b,c,none⟩)):=by rfl) (hy:evR R i o y=some v:=by rfl)
 (hf:(((R.es.eraseIdx k).all fun q=>q.2.2.2.free i)&&(R.nw.all (nwf0 i)))=true:=by rfl) (hc:R.chkS ops i o=true:=by rfl):OG R P ops Q i o:=fun f t u a X=>by
 simp only[Bool.and_eq_true] at hf
 obtain⟨q1,q2,q3⟩:=X.I.2.1.get hn
 have q3:CV u b (bif f i then post else l):=q3
 rw[X.fi] at q3
 have q3:CV u b l:=q3
 have cc:=Chg.cell u b c v
 have hlt:c<l.length:=(List.getElem?_eq_some_iff.1 h0).1
 refine X.go (Xr hc).2.2.2 fun K hK=>wp_store hop (X.ev hx) (X.ev hy) (hr u (q3 c _ h0).1 (q3 c _ h0).2) (hK _ _ (X.put0 hc ?_ ?_))
 ·rw[Xx hf.2]
  exact X.I.1.wr (X.I.1.bel.setCell (q2 rfl) _) cc q1
 ·refine KC.put cc X.I.2.1 hn X.nd hf.1 ?_
  simp only[Wr.val,Yr,cond_true]
  rw[hp]
  exact q3.setC c hlt v
end
theorem Zy {P:Program} {fn:Func} {tmps:Array Value} {s:Nat} {T:TypeId} {b:Nat} {cs:List Value} {d:TypeDesc} {w:World} (h:fn.results=#[.cell s T]) (hs:tmps[s]?.getD undef= .pointer (some ⟨b,0,none⟩)) (hc:CV w b cs) (hu:P.underlying T=some d) (hd:d.isRow=true) (hi:(P.info? T).map (·.size)=some cs.length):(results fn tmps).run P w= .ok (.agg cs.toArray) w:=by
 have hl:=run_loadVar_mid (P:=P) w b 0 T cs d hc.range hu hd hi
 unfold results
 rw[h]
 simp[hs,asAddr,hl]
def U32 (l:List Nat):List Value:=l.map fun(x:Nat)=>.int .u32 (x:Int)
def U8 (l:List Nat):List Value:=l.map fun(x:Nat)=>.int .u8 (x:Int)
theorem Za (l:List Nat):(U32 l).length=l.length:=List.length_map ..
theorem Z1 (l:List Nat):(U8 l).length=l.length:=List.length_map ..
theorem Y0 (l:List Nat) (j:Nat) (h:j<l.length):(U32 l)[j]?=some (.int .u32 ((l.getD j 0:Nat):Int)):=by simp[U32,List.getElem?_eq_getElem h]
theorem Y2 (l:List Nat) (j:Nat) (h:j<l.length):(U8 l)[j]?=some (.int .u8 ((l.getD j 0:Nat):Int)):=by simp[U8,List.getElem?_eq_getElem h]
theorem U32_set (l:List Nat) (j x:Nat):U32 (l.set j x)=(U32 l).set j (.int .u32 (x:Int)):=by simp[U32,List.map_set]
theorem Wn (l:List Nat) (j x:Nat):U8 (l.set j x)=(U8 l).set j (.int .u8 (x:Int)):=by simp[U8,List.map_set]
theorem W0: ∀l:List Nat,V2 (U32 l)=true
 | []=>rfl
 | x::r=>by show (Value.oneCell' (.int .u32 (x:Int))&&V2 (U32 r))=true;rw[W0 r];rfl
theorem Yq: ∀l:List Nat,V2 (U8 l)=true
 | []=>rfl
 | x::r=>by show (Value.oneCell' (.int .u8 (x:Int))&&V2 (U8 r))=true;rw[Yq r];rfl
theorem l32 {b c:Nat} {v:Int} (w:World) (h:w.cell? ⟨b,c,none⟩=some (.int .u32 v)):(Instr.loadAt 163 (.pointer (some ⟨b,c,none⟩))).run Tryz.prog w= .ok (.int .u32 v) w:=by go_simp
theorem l8 {b c:Nat} {v:Int} (w:World) (h:w.cell? ⟨b,c,none⟩=some (.int .u8 v)):(Instr.loadAt 5 (.pointer (some ⟨b,c,none⟩))).run Tryz.prog w= .ok (.int .u8 v) w:=by go_simp
theorem s32 {b c:Nat} {v x:Int} (w:World) (h:w.cell? ⟨b,c,none⟩=some (.int .u32 v)) (hf:w.frozen? ⟨b,c,none⟩=false):(Instr.storeAt 163 (.pointer (some ⟨b,c,none⟩)) (.int .u32 x)).run Tryz.prog w= .ok () (w.setCell ⟨b,c,none⟩ (.int .u32 x)):=by go_simp
theorem s8 {b c:Nat} {v x:Int} (w:World) (h:w.cell? ⟨b,c,none⟩=some (.int .u8 v)) (hf:w.frozen? ⟨b,c,none⟩=false):(Instr.storeAt 5 (.pointer (some ⟨b,c,none⟩)) (.int .u8 x)).run Tryz.prog w= .ok () (w.setCell ⟨b,c,none⟩ (.int .u8 x)):=by go_simp
theorem x64 (b k:Nat) (w:World) (h:k<64):(Instr.indexAt 197 (.pointer (some ⟨b,0,none⟩)) (iI k)).run Tryz.prog w= .ok (.pointer (some ⟨b,k,none⟩)) w:=by
 have h2:(k:Int)<64:=by omega
 go_simp
theorem x8 (b k:Nat) (w:World) (h:k<8):(Instr.indexAt 164 (.pointer (some ⟨b,0,none⟩)) (iI k)).run Tryz.prog w= .ok (.pointer (some ⟨b,k,none⟩)) w:=by
 have h2:(k:Int)<8:=by omega
 go_simp
theorem x32 (b k:Nat) (w:World) (h:k<32):(Instr.indexAt 110 (.pointer (some ⟨b,0,none⟩)) (iI k)).run Tryz.prog w= .ok (.pointer (some ⟨b,k,none⟩)) w:=by
 have h2:(k:Int)<32:=by omega
 go_simp
theorem ix8v {o:Oper} {ev:Operand->Value} {T:TypeId} {x y:Operand} {l:List Nat} {k:Nat} (u:World) (hT:T=150) (ho:o.op= .index T x y) (hx:ev x= .agg (U8 l).toArray) (hy:ev y=iI k) (hl:l.length=64) (hk:k<64):(execOp ev o).run Tryz.prog u= .ok (.value (.int .u8 ((l.getD k 0:Nat):Int))) u:=by
 subst hT
 have h2:(k:Int)<64:=by omega
 have h3:(U8 l).toArray[k]?=some (.int .u8 ((l.getD k 0:Nat):Int)):=by rw[List.getElem?_toArray];exact Y2 l k (by omega)
 have e:(Instr.index 150 (.agg (U8 l).toArray) (iI k)).run Tryz.prog u= .ok (.int .u8 ((l.getD k 0:Nat):Int)) u:=by
  generalize ((l.getD k 0:Nat):Int)=z at *
  generalize (U8 l).toArray=cs at *
  have u3:=Tryz.underlying5
  have a3:=Tryz.isAgg5
  have z3:=Tryz.sizeOf5
  unfold Instr.index
  simp only[asIntOf,Sem.run_bind,Sem.run_pure,Result.andThen_ok,run_underlying Tryz.underlying150]
  go_simp
 unfold execOp;rw[ho];simp only[hx,hy]
 rw[Sem.run_bind,e,Result.andThen_ok,Sem.run_pure]
theorem ix32v {o:Oper} {ev:Operand->Value} {T:TypeId} {x y:Operand} {l:List Nat} {k:Nat} (u:World) (hT:T=197) (ho:o.op= .index T x y) (hx:ev x= .agg (U32 l).toArray) (hy:ev y=iI k) (hl:l.length=64) (hk:k<64):(execOp ev o).run Tryz.prog u= .ok (.value (.int .u32 ((l.getD k 0:Nat):Int))) u:=by
 subst hT
 have h2:(k:Int)<64:=by omega
 have h3:(U32 l).toArray[k]?=some (.int .u32 ((l.getD k 0:Nat):Int)):=by rw[List.getElem?_toArray];exact Y0 l k (by omega)
 have e:(Instr.index 197 (.agg (U32 l).toArray) (iI k)).run Tryz.prog u= .ok (.int .u32 ((l.getD k 0:Nat):Int)) u:=by
  generalize ((l.getD k 0:Nat):Int)=z at *
  generalize (U32 l).toArray=cs at *
  have u3:=Tryz.underlying163
  have a3:=Tryz.isAgg163
  have z3:=Tryz.sizeOf163
  unfold Instr.index
  simp only[asIntOf,Sem.run_bind,Sem.run_pure,Result.andThen_ok,run_underlying Tryz.underlying197]
  go_simp
 unfold execOp;rw[ho];simp only[hx,hy]
 rw[Sem.run_bind,e,Result.andThen_ok,Sem.run_pure]
end
def z64:List Nat:=List.replicate 64 0
def z8:List Nat:=List.replicate 8 0
def z32:List Nat:=List.replicate 32 0
abbrev Z64w:List Value:=[.int .u32 0,.int .u32 0,.int .u32 0,.int .u32 0,.int .u32 0,.int .u32 0,.int .u32 0,.int .u32 0,.int .u32 0,.int .u32 0,.int .u32 0,.int .u32 0,.int .u32 0,.int .u32 0,.int .u32 0,.int .u32 0,.int .u32 0,.int .u32 0,.int .u32 0,.int .u32 0,.int .u32 0,.int .u32 0,.int .u32 0,.int .u32 0,.int .u32 0,.int .u32 0,.int .u32 0,.int .u32 0,.int .u32 0,.int .u32 0,.int .u32 0,.int .u32 0,.int .u32 0,.int .u32 0,.int .u32 0,.int .u32 0,.int .u32 0,.int .u32 0,.int .u32 0,.int .u32 0,.int .u32 0,.int .u32 0,.int .u32 0,.int .u32 0,.int .u32 0,.int .u32 0,.int .u32 0,.int .u32 0,.int .u32 0,.int .u32 0,.int .u32 0,.int .u32 0,.int .u32 0,.int .u32 0,.int .u32 0,.int .u32 0,.int .u32 0,.int .u32 0,.int .u32 0,.int .u32 0,.int .u32 0,.int .u32 0,.int .u32 0,.int .u32 0]
abbrev Z8w:List Value:=[.int .u32 0,.int .u32 0,.int .u32 0,.int .u32 0,.int .u32 0,.int .u32 0,.int .u32 0,.int .u32 0]
abbrev Z32b:List Value:=[.int .u8 0,.int .u8 0,.int .u8 0,.int .u8 0,.int .u8 0,.int .u8 0,.int .u8 0,.int .u8 0,.int .u8 0,.int .u8 0,.int .u8 0,.int .u8 0,.int .u8 0,.int .u8 0,.int .u8 0,.int .u8 0,.int .u8 0,.int .u8 0,.int .u8 0,.int .u8 0,.int .u8 0,.int .u8 0,.int .u8 0,.int .u8 0,.int .u8 0,.int .u8 0,.int .u8 0,.int .u8 0,.int .u8 0,.int .u8 0,.int .u8 0,.int .u8 0]
theorem Uq (w:World):(Instr.alloc 197 true (.tuple #[])).run Tryz.prog w= .ok (.pointer (some ⟨w.heap.size,0,none⟩)) (w.alloc (.cells (U32 z64).toArray 197)):=by kernel_rfl
theorem Yj:(Tryz.prog.info? 197).map (·.size)=some 64:=by kernel_rfl
theorem Tn (w:World):(Instr.alloc 164 true (.tuple #[])).run Tryz.prog w= .ok (.pointer (some ⟨w.heap.size,0,none⟩)) (w.alloc (.cells (U32 z8).toArray 164)):=by kernel_rfl
theorem Z8:(Tryz.prog.info? 164).map (·.size)=some 8:=by kernel_rfl
theorem Ya (w:World):(Instr.alloc 110 true (.tuple #[])).run Tryz.prog w= .ok (.pointer (some ⟨w.heap.size,0,none⟩)) (w.alloc (.cells (U8 z32).toArray 110)):=by kernel_rfl
theorem Z3:(Tryz.prog.info? 110).map (·.size)=some 32:=by kernel_rfl
theorem Z6:(Tryz.prog.info? 150).map (·.size)=some 64:=by kernel_rfl
theorem Zc (p q:Operand) (x y:Int) (b:Bool) (w:World) (h:decide (x<y)=b):(do eqGuard .lss 3 p q (iI x) (iI y);binOp .lss 3 (iI x) (iI y):Sem Value).run Tryz.prog w= .ok (.bool b) w:=by
 subst h;go_simp
theorem Zr (p q:Operand) (x y z:Int) (w:World) (h:x+y=z) (h1: -9223372036854775808<=z) (h2:z<9223372036854775808):(do eqGuard .add 3 p q (iI x) (iI y);binOp .add 3 (iI x) (iI y):Sem Value).run Tryz.prog w= .ok (iI z) w:=by
 have e:IntKind.i64.wrap z=z:=by rw[IntKind.wrap_i64];omega
 subst h;go_simp
theorem Yi (p q:Operand) (x y z:Int) (w:World) (h:x -y=z) (h1: -9223372036854775808<=z) (h2:z<9223372036854775808):(do eqGuard .sub 3 p q (iI x) (iI y);binOp .sub 3 (iI x) (iI y):Sem Value).run Tryz.prog w= .ok (iI z) w:=by
 have e:IntKind.i64.wrap z=z:=by rw[IntKind.wrap_i64];omega
 subst h;go_simp
theorem quo_n (p q:Operand) (x y:Nat) (w:World) (h1:x<1000000) (h2:0<y):(do eqGuard .quo 3 p q (iI x) (iI y);binOp .quo 3 (iI x) (iI y):Sem Value).run Tryz.prog w= .ok (iI ((x/y:Nat):Int)) w:=by
 have e0:((x:Int)).tdiv y=((x/y:Nat):Int):=by rw[Int.tdiv_eq_ediv_of_nonneg (Int.natCast_nonneg _)];simp
 have hle:x/y<=x:=Nat.div_le_self _ _
 obtain⟨z,hz⟩: ∃z,x/y=z:=⟨_,rfl⟩
 rw[hz] at e0 hle⊢
 have e:IntKind.i64.wrap (z:Int)=(z:Int):=by rw[IntKind.wrap_i64];omega
 have hy:(y:Int)≠0:=by omega
 have hy2: ¬y=0:=by omega
 go_simp
theorem cv8 {o:Oper} {ev:Operand->Value} {x:Operand} {n:Nat} (u:World) (h1:n<256) (ho:o.op= .convert 5 163 x) (hx:ev x= .int .u8 (n:Int)):(execOp ev o).run Tryz.prog u= .ok (.value (.int .u32 (n:Int))) u:=by
 have e1:IntKind.u32.wrap (n:Int)=(n:Int):=Xu _ (by omega) (by omega)
 unfold execOp;rw[ho];simp only[hx];go_simp
def spA (bs:List Nat):Nat->List Nat
 | 0=>z64
 | k+1=>(spA bs k).set (k/4) (((spA bs k).getD (k/4) 0<<<8)%4294967296 ||| bs.getD k 0)
def spS (l:List Nat) (t:Nat):Nat:=(((ls1 (l.getD (t -2) 0)+l.getD (t -7) 0)%4294967296+ls0 (l.getD (t -15) 0))%4294967296+l.getD (t -16) 0)%4294967296
def spB (ws:List Nat):Nat->List Nat
 | 0=>ws
 | k+1=>(spB ws k).set (k+16) (spS (spB ws k) (k+16))
def Xw (bs:List Nat):List Nat:=spB (spA bs 64) 48
structure WW (n:Nat) (l:List Nat):Prop where
 len:l.length=n
 lt: ∀j,l.getD j 0<M32
theorem Yw (l:List Nat) (i j x:Nat):(l.set i x).getD j 0=if i=j/\j<l.length then x else l.getD j 0:=by
 by_cases h:i=j
 ·subst h
  by_cases h2:i<l.length
  ·rw[if_pos ⟨rfl,h2⟩];simp[h2]
  ·rw[if_neg (fun h=>h2 h.2)];simp[List.getElem?_eq_none (show l.length<=i by omega),List.getElem?_set,h2]
 ·rw[if_neg (fun h'=>h h'.1)];simp[List.getElem?_set,h]
theorem WW.set {n:Nat} {l:List Nat} (h:WW n l) (i x:Nat) (hx:x<M32):WW n (l.set i x) where
 len:=by rw[List.length_set];exact h.len
 lt:=fun j=>by
  rw[Yw];split
  ·exact hx
  ·exact h.lt j
theorem WW_z64:WW 64 z64:=⟨rfl,fun j=>by
 unfold z64;simp only[List.getD_eq_getElem?_getD,List.getElem?_replicate];split<;>decide⟩
theorem spA_W (bs:List Nat) (hb: ∀j,bs.getD j 0<256): ∀k,WW 64 (spA bs k)
 | 0=>WW_z64
 | k+1=>(spA_W bs hb k).set _ _ (or_lt (Nat.mod_lt _ (by decide)) (Nat.lt_of_lt_of_le (hb k) (by decide)))
theorem spS_lt (l:List Nat) (t:Nat):spS l t<M32:=Nat.mod_lt _ (by decide)
theorem spB_W {ws:List Nat} (h:WW 64 ws): ∀k,WW 64 (spB ws k)
 | 0=>h
 | k+1=>(spB_W h k).set _ _ (spS_lt _ _)
theorem cSpread_core (bs:List Nat) (sA sB:Nat->List Nat) (w:World) (hl:bs.length=64) (hb: ∀j,bs.getD j 0<256) (hA0:Hid (sA 0=z64)) (hAs:Hid (∀k,sA (k+1)=(sA k).set (k/4) (((sA k).getD (k/4) 0<<<8)%4294967296 ||| bs.getD k 0))) (hAW:Hid (∀k,WW 64 (sA k))) (hB0:Hid (sB 0=sA 64)) (hBs:Hid (∀t,sB (t+1)=(sB t).set (t+16) (spS (sB t) (t+16)))) (hBW:Hid (∀t,WW 64 (sB t))):
 CC 163 #[.agg (U8 (bs)).toArray] w (.agg (U32 (sB 48)).toArray):=by
 go_enter Tryz.func163,Tryz.ntmps163
 go_upto_region 1 with fail
 generalize hC:((w.alloc (.cells (U8 (bs):List Value).toArray 150)).alloc (.cells (Z64w:List Value).toArray 197))=v0 at *
 have HB0:Bw w v0:=by rw[<-hC];exact Z2 (Z2 (Zm w) _) _
 have K0:Bk w.heap.size v0 [(true,w.heap.size,U8 (bs)),(true,w.heap.size+1,U32 (z64))]:=by rw[<-hC];exact(Bk.nil _ w).ad.ad
 clear hC
 skip
 refine Rp K0 HB0 [] [(0,3,U32 (z64),none)] [] [] [] [] (oc (g_al 0 Uq) on) fun u1 b1_0 HB1 _ K1=>?_
 simp only[sQ] at K1⊢
 go_upto_region 2 with fail
 refine Rp K1 HB1 [] [] [(0,7,_),(1,8,_)] [] [] [false] (oc (g_lR 0 0 (cs:=U8 (bs)) (fun j v h=>by rw[Nat.zero_add];exact h) Tryz.underlying150 (by rw[Z1,hl];exact Z6))<|oc g_mv on) fun u2 HB2 _ K2=>?_
 simp only[sQ] at K2⊢
 go_wp2_with fail
 go_loopw [8] (fun s8 wr=> ∃(k:Nat),k<=64/\s8=iI (k:Int)/\Bw w wr/\Hid (CV wr (w.heap.size+1) (U32 (z64)))/\Hid (CV wr b1_0 (U32 (sA k)))/\b1_0<wr.heap.size/\w.heap.size+1<wr.heap.size) (fun s8 _=>64 -(intOf s8).toNat)
 case atStart=>exact⟨0,by omega,rfl,HB2,(K2.cv 0),(by rw[hA0.out];exact(K2.cv 1)),(K2.lt 1),(K2.lt 0)⟩
 case round=>
  obtain⟨k,hk,rfl,HBr,Kr,Kw,lw,lr⟩:=hrel
  have hlo:=K2.lo 1
  by_cases hj:k<64
  ·have hl1:decide ((k:Int)<64)=true:=by simp;omega
   have hW:=hAW.out k
   have hA:=hAs.out k
   obtain⟨ws,ews⟩: ∃ws,sA k=ws:=⟨_,rfl⟩
   rw[ews] at hW hA Kw
   obtain⟨y,ey⟩: ∃y,bs.getD k 0=y:=⟨_,rfl⟩
   have hy:=hb k
   have hix:=fun(o:Oper) (ev:Operand->Value) (x z:Operand) u=> @ix8v o ev 150 x z bs k u rfl
   rw[ey] at hy hA
   rw[ey] at hix
   obtain⟨v,ev0⟩: ∃v,ws.getD (k/4) 0=v:=⟨_,rfl⟩
   have hv:=hW.lt (k/4)
   have hg:=Y0 ws (k/4) (by have:=hW.len;omega)
   rw[ev0] at hv hg hA
   have hix:Hid _:=hix
   have hA:Hid _:=hA
   have hW:Hid _:=hW
   have hb:Hid _:=hb
   clear ews ey ev0
   have hnK:=K2.n
   simp at hnK
   have hoK1:=K2.lo 1
   have K2_1:Bk w.heap.size wr [(false,w.heap.size+1,U32 (z64)),(true,b1_0,U32 (ws))]:=⟨.c lr Kr.out<| .o lw (K2.lo 1) Kw.out<|trivial,by simp;omega⟩
   go_upto_region 3 with fail
   refine Rn K2_1 HBr [(0,9,_)] (oc (g_bn (fun uZ=>Zc _ _ (k:Int) 64 _ uZ hl1)) on) fun u3 HB3 sz3 K3=>?_
   simp only[sQ] at K3⊢
   go_upto_region 4 with fail
   refine Rn K3 HB3 [(0,10,_),(1,11,_),(2,4,_),(3,5,_)] (oc g_mv<|oc (g_op (fun ev uZ he=>hix.out _ ev _ _ uZ rfl (he _ _ rfl) (he _ _ rfl) hl hj))<|oc g_as<|oc g_as on) fun u4 HB4 sz4 K4=>?_
   simp only[sQ] at K4⊢
   go_upto_region 5 with fail
   refine Rp K4 HB4 [.no,.all 11 (U32 (ws.set (k/4) ((v<<<8)%4294967296 ||| y)))] [] (cG 0 12 [_,_,_,_,_,_,_,_,_,_,_] []) [(11,5)] [] [] (oc g_mv<|oc (g_bn (fun uZ=>quo_n _ _ k 4 uZ (by omega) (by decide)))<|oc g_mv<|oc (g_bn (fun uZ=>quo_n _ _ k 4 uZ (by omega) (by decide)))<|oc (g_ix (fun uZ=>x64 b1_0 (k/4) uZ (by omega)))<|oc (g_lw 1 (k/4) l32 (hg))<|oc (g_bn (fun uZ=>shl32 _ _ v 8 uZ (by decide)))<|oc g_mv<|oc (g_op (fun ev uZ he=>cv8 uZ hy rfl (he _ _ rfl)))<|oc (g_bn (fun uZ=>or32 _ _ ((v<<<8)%4294967296) y uZ (Nat.mod_lt _ (by decide)) (Nat.lt_of_lt_of_le hy (by decide))))<|oc (g_ix (fun uZ=>x64 b1_0 (k/4) uZ (by omega)))<|oc (g_sw 1 (k/4) s32 (hg) (U32_set _ _ _)) on) fun u5 HB5 sz5 K5=>?_
   simp only[sQ] at K5⊢
   go_upto_region 6 with fail
   refine Rp K5 HB5 [] [] [(0,23,_),(1,8,_)] [(1,0)] [(1,8)] [] (oc (g_bn (fun uZ=>Zr _ _ (k:Int) 1 ((k+1:Nat):Int) uZ (by omega) (by omega) (by omega)))<|oc g_mv on) fun u6 HB6 sz6 K6=>?_
   simp only[sQ] at K6⊢
   go_wp2
   refine⟨⟨k+1,by omega,rfl,HB6,(K6.cv 0),(by rw[hA.out];exact(K6.cv 1)),(K6.lt 1),(K6.lt 0)⟩,?_⟩
   simp[intOf]<;>omega
  ·have hl1:decide ((k:Int)<64)=false:=by simp;omega
   have hk64:k=64:=by omega
   subst hk64
   rw[<-hB0.out] at Kw
   have hnK:=K2.n
   simp at hnK
   have hoK1:=K2.lo 1
   have K2_1:Bk w.heap.size wr [(true,w.heap.size+1,U32 (z64)),(true,b1_0,U32 (sB 0))]:=⟨.o lr (K2.lo 0) Kr.out<| .o lw (K2.lo 1) Kw.out<|trivial,by simp;omega⟩
   go_upto_region 3 with fail
   refine Rn K2_1 HBr [(0,9,_)] (oc (g_bn (fun uZ=>Zc _ _ ((64:Nat):Int) 64 _ uZ hl1)) on) fun u3 HB3 sz3 K3=>?_
   simp only[sQ] at K3⊢
   go_upto_region 7 with fail
   refine Rn K3 HB3 [(0,6,_)] (oc g_as on) fun u4 HB4 sz4 K4=>?_
   simp only[sQ] at K4⊢
   go_wp2_with fail
   go_loopw [6] (fun s6 wq=> ∃(t:Nat),t<=48/\s6=iI ((t+16:Nat):Int)/\Bw w wq/\Hid (CV wq (w.heap.size+1) (U32 (z64)))/\Hid (CV wq b1_0 (U32 (sB t)))/\b1_0<wq.heap.size/\w.heap.size+1<wq.heap.size) (fun s6 _=>64 -(intOf s6).toNat)
   case atStart=>exact⟨0,by omega,rfl,HB4,(K4.cv 0),(K4.cv 1),(K4.lt 1),(K4.lt 0)⟩
   case round=>
    obtain⟨t,ht,rfl,HBq,Kq,Kv,lv,lq⟩:=hrel
    by_cases hj2:t<48
    ·have hl2:decide (((t+16:Nat):Int)<64)=true:=by simp;omega
     have hW:=hBW.out t
     have hA:=hBs.out t
     obtain⟨ws,ews⟩: ∃ws,sB t=ws:=⟨_,rfl⟩
     rw[ews] at hW hA Kv
     have hlen:=hW.len
     obtain⟨a,ea⟩: ∃a,ws.getD (t+14) 0=a:=⟨_,rfl⟩
     obtain⟨b,eb⟩: ∃b,ws.getD (t+9) 0=b:=⟨_,rfl⟩
     obtain⟨c,ec⟩: ∃c,ws.getD (t+1) 0=c:=⟨_,rfl⟩
     obtain⟨d,ed⟩: ∃d,ws.getD t 0=d:=⟨_,rfl⟩
     have ha:=hW.lt (t+14)
     have hc:=hW.lt (t+1)
     have ga:=Y0 ws (t+14) (by omega)
     have gb:=Y0 ws (t+9) (by omega)
     have gc:=Y0 ws (t+1) (by omega)
     have gd:=Y0 ws t (by omega)
     have gt:=Y0 ws (t+16) (by omega)
     have hE:spS ws (t+16)=(((ls1 a+b)%4294967296+ls0 c)%4294967296+d)%4294967296:=by
      unfold spS
      rw[show t+16 -2=t+14 by omega,show t+16 -7=t+9 by omega,show t+16 -15=t+1 by omega,show t+16 -16=t by omega,ea,eb,ec,ed]
     rw[hE] at hA
     rw[ea] at ha ga
     rw[eb] at gb
     rw[ec] at hc gc
     rw[ed] at gd
     obtain⟨o,eo⟩: ∃o,ws.getD (t+16) 0=o:=⟨_,rfl⟩
     rw[eo] at gt
     have hA:Hid _:=hA
     clear ews ea eb ec ed eo hE hW
     have z1:((t+16:Nat):Int) -2=((t+14:Nat):Int):=by omega
     have z2:((t+16:Nat):Int) -7=((t+9:Nat):Int):=by omega
     have z3:((t+16:Nat):Int) -15=((t+1:Nat):Int):=by omega
     have z4:((t+16:Nat):Int) -16=(t:Int):=by omega
     have hnK:=K4.n
     simp at hnK
     have hoK1:=K4.lo 1
     have K4_2:Bk w.heap.size wr [(false,w.heap.size+1,U32 (z64)),(true,b1_0,U32 (ws))]:=⟨.c lq Kq.out<| .o lv (K4.lo 1) Kv.out<|trivial,by simp;omega⟩
     go_upto_region 8 with fail
     refine Rn K4_2 HBq [(0,24,_),(1,25,_)] (oc g_mv<|oc (g_bn (fun uZ=>Zc _ _ ((t+16:Nat):Int) 64 _ uZ hl2)) on) fun u5 HB5 sz5 K5=>?_
     simp only[sQ] at K5⊢
     go_upto_region 10 with fail
     refine Rd K5 HB5 [.no,.all 23 (U32 (ws.set (t+16) ((((ls1 a+b)%4294967296+ls0 c)%4294967296+d)%4294967296)))] [] (cG 0 28 [_,_,_,_,_,_,_,_,_,_,_,_,_,_,_,_,_,_,_,_,_,_,_] []) [(23,4),(23,9),(23,14),(23,20)] [] [] (oc g_mv<|oc g_mv<|oc (g_bn (fun uZ=>Yi _ _ ((t+16:Nat):Int) 2 ((t+14:Nat):Int) uZ z1 (by omega) (by omega)))<|oc (g_ix (fun uZ=>x64 b1_0 (t+14) uZ (by omega)))<|oc (g_lw 1 (t+14) l32 (ga))<|oc (g_cl ent_sha_small1 (fun uZ=>cSmall1 a uZ ha))<|oc g_mv<|oc (g_bn (fun uZ=>Yi _ _ ((t+16:Nat):Int) 7 ((t+9:Nat):Int) uZ z2 (by omega) (by omega)))<|oc (g_ix (fun uZ=>x64 b1_0 (t+9) uZ (by omega)))<|oc (g_lw 1 (t+9) l32 (gb))<|oc (g_bn (add32 _ _ (ls1 a) b))<|oc g_mv<|oc (g_bn (fun uZ=>Yi _ _ ((t+16:Nat):Int) 15 ((t+1:Nat):Int) uZ z3 (by omega) (by omega)))<|oc (g_ix (fun uZ=>x64 b1_0 (t+1) uZ (by omega)))<|oc (g_lw 1 (t+1) l32 (gc))<|oc (g_cl ent_sha_small0 (fun uZ=>cSmall0 c uZ hc))<|oc (g_bn (add32 _ _ ((ls1 a+b)%4294967296) (ls0 c)))<|oc g_mv<|oc (g_bn (fun uZ=>Yi _ _ ((t+16:Nat):Int) 16 ((t:Nat):Int) uZ z4 (by omega) (by omega)))<|oc (g_ix (fun uZ=>x64 b1_0 (t) uZ (by omega)))<|oc (g_lw 1 (t) l32 (gd))<|oc (g_bn (fun uZ=>add32 _ _ (((ls1 a+b)%4294967296+ls0 c)%4294967296) d uZ))<|oc (g_ix (fun uZ=>x64 b1_0 (t+16) uZ (by omega)))<|oc (g_sw 1 (t+16) s32 (gt) (U32_set _ _ _)) on) fun u6 HB6 sz6 K6=>?_
     simp only[sQ] at K6⊢
     go_upto_region 9 with fail
     refine Rp K6 HB6 [] [] [(0,26,_),(1,27,_),(2,6,_)] [(2,0)] [(2,6)] [] (oc g_mv<|oc (g_bn (fun uZ=>Zr _ _ ((t+16:Nat):Int) 1 ((t+1+16:Nat):Int) uZ (by omega) (by omega) (by omega)))<|oc g_as on) fun u7 HB7 _ K7=>?_
     simp only[sQ] at K7⊢
     go_wp2
     refine⟨⟨t+1,by omega,rfl,HB7,(K7.cv 0),(by rw[hA.out];exact(K7.cv 1)),(K7.lt 1),(K7.lt 0)⟩,?_⟩
     simp[intOf]<;>omega
    ·have hl2:decide (((t+16:Nat):Int)<64)=false:=by simp;omega
     have ht48:t=48:=by omega
     subst ht48
     have hWs:(sB 48).length=64:=(hBW.out 48).len
     have hnK:=K4.n
     simp at hnK
     have hoK1:=K4.lo 1
     have K4_2:Bk w.heap.size wr [(true,w.heap.size+1,U32 (z64)),(false,b1_0,U32 (sB 48))]:=⟨.o lq (K4.lo 0) Kq.out<| .c lv Kv.out<|trivial,by simp;omega⟩
     go_upto_region 8 with fail
     refine Rn K4_2 HBq [(0,24,_),(1,25,_)] (oc g_mv<|oc (g_bn (fun uZ=>Zc _ _ ((48+16:Nat):Int) 64 _ uZ hl2)) on) fun u5 HB5 sz5 K5=>?_
     simp only[sQ] at K5⊢
     go_upto_region 11 with fail
     refine Rp K5 HB5 [.all 1 (U32 (sB 48))] [] [(0,51,_)] [] [] [true,false] (oc (g_lR 1 0 (cs:=U32 (sB 48)) (fun j v h=>by rw[Nat.zero_add];exact h) Tryz.underlying197 (by rw[Za,hWs];exact Yj))<|oc (g_st 0 Yj (h1:=W0 _) (hm:=by rw[Za,hWs]) (hl:=by rw[Za,Za,hWs,show z64.length=64 from rfl])) on) fun u6 HB6 sz6 K6=>?_
     simp only[sQ] at K6⊢
     go_wp2
     refine bodyPost_ret (Zy Tryz.results163 rfl (K6.cv 0) Tryz.underlying197 rfl (by rw[Za,hWs];exact Yj)) rfl ⟨rfl,HB6⟩
theorem cSpread (bs:List Nat) (w:World) (hl:bs.length=64) (hb: ∀j,bs.getD j 0<256):CC 163 #[.agg (U8 (bs)).toArray] w (.agg (U32 (Xw bs)).toArray):=
 cSpread_core bs (spA bs) (spB (spA bs 64)) w hl hb rfl (fun _=>rfl) (spA_W bs hb) rfl (fun _=>rfl) (spB_W (spA_W bs hb 64))
def kcs:List Nat:=[1116352408,1899447441,3049323471,3921009573,961987163,1508970993,2453635748,2870763221,3624381080,310598401,607225278,1426881987,1925078388,2162078206,2614888103,3248222580,3835390401,4022224774,264347078,604807628,770255983,1249150122,1555081692,1996064986,2554220882,2821834349,2952996808,3210313671,3336571891,3584528711,113926993,338241895,666307205,773529912,1294757372,1396182291,1695183700,1986661051,2177026350,2456956037,2730485921,2820302411,3259730800,3345764771,3516065817,3600352804,4094571909,275423344,430227734,506948616,659060556,883997877,958139571,1322822218,1537002063,1747873779,1955562222,2024104815,2227730452,2361852424,2428436474,2756734187,3204031479,3329325298]
def fst8:List Nat:=[1779033703,3144134277,1013904242,2773480762,1359893119,2600822924,528734635,1541459225]
structure GV (w:World):Prop where
 sz:6<w.heap.size
 k: ∀t,t<64->w.cell? ⟨6,t,none⟩=some (.int .u32 ((kcs.getD t 0:Nat):Int))
 f: ∀t,t<8->w.cell? ⟨3,t,none⟩=some (.int .u32 ((fst8.getD t 0:Nat):Int))
theorem GV.below {w w':World} {m:Nat} (h:GV w) (hB:Below m w w') (hm:6<m):GV w' where
 sz:=Nat.lt_of_lt_of_le h.sz hB.size
 k:=fun t ht=>(hB.cell (p:=⟨6,t,none⟩) (by show 6<m;omega)).trans (h.k t ht)
 f:=fun t ht=>(hB.cell (p:=⟨3,t,none⟩) (by show 3<m;omega)).trans (h.f t ht)
theorem kcs_lt: ∀t,t<64->kcs.getD t 0<M32:=by decide
def tw1 (s:List Nat) (k w:Nat):Nat:=((((s.getD 7 0+gs1 (s.getD 4 0))%4294967296+chN (s.getD 4 0) (s.getD 5 0) (s.getD 6 0))%4294967296+k)%4294967296+w)%4294967296
def tw2 (s:List Nat):Nat:=(gs0 (s.getD 0 0)+maN (s.getD 0 0) (s.getD 1 0) (s.getD 2 0))%4294967296
def st8 (s:List Nat) (k w:Nat):List Nat:=[(tw1 s k w+tw2 s)%4294967296,s.getD 0 0,s.getD 1 0,s.getD 2 0,(s.getD 3 0+tw1 s k w)%4294967296,s.getD 4 0,s.getD 5 0,s.getD 6 0]
def rds (ss ws:List Nat):Nat->List Nat
 | 0=>ss
 | i+1=>st8 (rds ss ws i) (kcs.getD i 0) (ws.getD i 0)
def sms (ss vs:List Nat):Nat->List Nat
 | 0=>ss
 | i+1=>(sms ss vs i).set i (((sms ss vs i).getD i 0+vs.getD i 0)%4294967296)
def blk (ss bs:List Nat):List Nat:=sms ss (rds ss (Xw bs) 64) 8
theorem st8_W {s:List Nat} (h:WW 8 s) (k w:Nat):WW 8 (st8 s k w) where
 len:=rfl
 lt:=fun j=>by
  rcases (by omega:j=0\/j=1\/j=2\/j=3\/j=4\/j=5\/j=6\/j=7\/8<=j) with rfl | rfl | rfl | rfl | rfl | rfl | rfl | rfl | h8
  ·exact Nat.mod_lt _ (by decide)
  ·exact h.lt 0
  ·exact h.lt 1
  ·exact h.lt 2
  ·exact Nat.mod_lt _ (by decide)
  ·exact h.lt 4
  ·exact h.lt 5
  ·exact h.lt 6
  ·rw[List.getD_eq_getElem?_getD,List.getElem?_eq_none (by show 8<=j;exact h8)];decide
theorem rds_W {ss:List Nat} (h:WW 8 ss) (ws:List Nat): ∀i,WW 8 (rds ss ws i)
 | 0=>h
 | i+1=>st8_W (rds_W h ws i) _ _
theorem sms_W {ss:List Nat} (h:WW 8 ss) (vs:List Nat): ∀i,WW 8 (sms ss vs i)
 | 0=>h
 | i+1=>(sms_W h vs i).set _ _ (Nat.mod_lt _ (by decide))
theorem spread_W (bs:List Nat) (hb: ∀j,bs.getD j 0<256):WW 64 (Xw bs):=spB_W (spA_W bs hb 64) 48
theorem blk_W {ss:List Nat} (h:WW 8 ss) (bs:List Nat):WW 8 (blk ss bs):=sms_W h _ 8
theorem list8 {l:List Nat} (h:l.length=8):l=[l.getD 0 0,l.getD 1 0,l.getD 2 0,l.getD 3 0,l.getD 4 0,l.getD 5 0,l.getD 6 0,l.getD 7 0]:=by
 match l,h with
 | [a,b,c,d,e,f,g,i],_=>rfl
theorem bd8 (a b c d e f g h:Nat) (w:World):(Instr.build 164 [(0,.int .u32 (a:Int)),(1,.int .u32 (b:Int)),(2,.int .u32 (c:Int)),(3,.int .u32 (d:Int)),(4,.int .u32 (e:Int)),(5,.int .u32 (f:Int)),(6,.int .u32 (g:Int)),(7,.int .u32 (h:Int))].toArray).run Tryz.prog w= .ok (.agg (U32 ([a,b,c,d,e,f,g,h])).toArray) w:=by kernel_rfl
theorem ix8w {o:Oper} {ev:Operand->Value} {T:TypeId} {x y:Operand} {l:List Nat} {k:Nat} (u:World) (hT:T=164) (ho:o.op= .index T x y) (hx:ev x= .agg (U32 l).toArray) (hy:ev y=iI k) (hl:l.length=8) (hk:k<8):(execOp ev o).run Tryz.prog u= .ok (.value (.int .u32 ((l.getD k 0:Nat):Int))) u:=by
 subst hT
 have h2:(k:Int)<8:=by omega
 have h3:(U32 l).toArray[k]?=some (.int .u32 ((l.getD k 0:Nat):Int)):=by rw[List.getElem?_toArray];exact Y0 l k (by omega)
 have e:(Instr.index 164 (.agg (U32 l).toArray) (iI k)).run Tryz.prog u= .ok (.int .u32 ((l.getD k 0:Nat):Int)) u:=by
  generalize ((l.getD k 0:Nat):Int)=z at *
  generalize (U32 l).toArray=cs at *
  have u3:=Tryz.underlying163
  have a3:=Tryz.isAgg163
  have z3:=Tryz.sizeOf163
  unfold Instr.index
  simp only[asIntOf,Sem.run_bind,Sem.run_pure,Result.andThen_ok,run_underlying Tryz.underlying164]
  go_simp
 unfold execOp;rw[ho];simp only[hx,hy]
 rw[Sem.run_bind,e,Result.andThen_ok,Sem.run_pure]
theorem cBlock_core (ss bs ws vs:List Nat) (r:Nat->Nat->Nat) (sC:Nat->List Nat) (w:World) (hl:bs.length=64) (hls:ss.length=8) (hws:ws.length=64) (hV:GV w) (hSp:Hid (∀u,CC 163 #[.agg (U8 (bs)).toArray] u (.agg (U32 (ws)).toArray)))
 (hR0: ∀j,ss.getD j 0=r 0 j) (hR:Hid (∀i,i<64->r (i+1) 0=((((((r i 7+gs1 (r i 4))%4294967296+chN (r i 4) (r i 5) (r i 6))%4294967296+kcs.getD i 0)%4294967296+ws.getD i 0)%4294967296)+(gs0 (r i 0)+maN (r i 0) (r i 1) (r i 2))%4294967296)%4294967296/\r (i+1) 1=r i 0/\r (i+1) 2=r i 1/\r (i+1) 3=r i 2/\r (i+1) 4=(r i 3+((((r i 7+gs1 (r i 4))%4294967296+chN (r i 4) (r i 5) (r i 6))%4294967296+kcs.getD i 0)%4294967296+ws.getD i 0)%4294967296)%4294967296/\r (i+1) 5=r i 4/\r (i+1) 6=r i 5/\r (i+1) 7=r i 6)) (hRl:Hid (∀i j,r i j<M32)) (hVs:Hid (vs=[r 64 0,r 64 1,r 64 2,r 64 3,r 64 4,r 64 5,r 64 6,r 64 7])) (hC0:Hid (sC 0=ss)) (hCs:Hid (∀i,sC (i+1)=(sC i).set i (((sC i).getD i 0+vs.getD i 0)%4294967296))) (hCW:Hid (∀i,WW 8 (sC i))):
 CC 162 #[.agg (U32 (ss)).toArray,.agg (U8 (bs)).toArray] w (.agg (U32 (sC 8)).toArray):=by
 have h0:6<w.heap.size:=by have:=hV.sz;omega
 have g0:=Y0 ss 0 (by omega)
 rw[hR0 0] at g0
 have g1:=Y0 ss 1 (by omega)
 rw[hR0 1] at g1
 have g2:=Y0 ss 2 (by omega)
 rw[hR0 2] at g2
 have g3:=Y0 ss 3 (by omega)
 rw[hR0 3] at g3
 have g4:=Y0 ss 4 (by omega)
 rw[hR0 4] at g4
 have g5:=Y0 ss 5 (by omega)
 rw[hR0 5] at g5
 have g6:=Y0 ss 6 (by omega)
 rw[hR0 6] at g6
 have g7:=Y0 ss 7 (by omega)
 rw[hR0 7] at g7
 clear hR0
 go_enter Tryz.func162,Tryz.ntmps162
 go_upto_region 1 with fail
 generalize hC:(((w.alloc (.cells (U32 (ss):List Value).toArray 164)).alloc (.cells (U8 (bs):List Value).toArray 150)).alloc (.cells (Z8w:List Value).toArray 164))=v0 at *
 have HB0:Bw w v0:=by rw[<-hC];exact Z2 (Z2 (Z2 (Zm w) _) _) _
 have K0:Bk w.heap.size v0 [(true,w.heap.size,U32 (ss)),(true,w.heap.size+1,U8 (bs)),(true,w.heap.size+1+1,U32 (z8))]:=by rw[<-hC];exact(Bk.nil _ w).ad.ad.ad
 clear hC
 refine Rp K0 HB0 [] [(2,5,U32 (z64),some (3,U32 (ws)))] [(0,20,_),(1,21,_)] [(3,2)] [] [true,false] (oc (g_lR 1 0 (cs:=U8 (bs)) (fun j v h=>by rw[Nat.zero_add];exact h) Tryz.underlying150 (by rw[Z1,hl];exact Z6))<|oc (g_cl ent_sha_spread hSp.out)<|oc (g_al 0 Uq)<|oc (g_sn 0 Yj (h1:=W0 _) (hm:=by rw[Za,hws]) (hl:=by rw[Za,Za,hws,show z64.length=64 from rfl])) on) fun u1 b1_2 HB1 _ K1=>?_
 simp only[sQ] at K1⊢
 go_upto_region 2 with fail
 refine Rm K1 HB1 (cG 0 22 [_,_,_,_,_,_,_,_,_,_,_,_,_,_,_,_] (cG 16 6 [_,_,_,_,_,_,_,_] [])) (oc (g_ix (fun uZ=>x8 _ 0 uZ (by decide)))<|oc (g_lw 0 (0) l32 (g0))<|oc (g_ix (fun uZ=>x8 _ 1 uZ (by decide)))<|oc (g_lw 0 (1) l32 (g1))<|oc (g_ix (fun uZ=>x8 _ 2 uZ (by decide)))<|oc (g_lw 0 (2) l32 (g2))<|oc (g_ix (fun uZ=>x8 _ 3 uZ (by decide)))<|oc (g_lw 0 (3) l32 (g3))<|oc (g_ix (fun uZ=>x8 _ 4 uZ (by decide)))<|oc (g_lw 0 (4) l32 (g4))<|oc (g_ix (fun uZ=>x8 _ 5 uZ (by decide)))<|oc (g_lw 0 (5) l32 (g5))<|oc (g_ix (fun uZ=>x8 _ 6 uZ (by decide)))<|oc (g_lw 0 (6) l32 (g6))<|oc (g_ix (fun uZ=>x8 _ 7 uZ (by decide)))<|oc (g_lw 0 (7) l32 (g7))<|oc g_as<|oc g_as<|oc g_as<|oc g_as<|oc g_as<|oc g_as<|oc g_as<|oc g_as on) fun u2 HB2 _ K2=>?_
 simp only[sQ] at K2⊢
 go_upto_region 3 with fail
 refine Rp K2 HB2 [] [] [(0,38,_),(1,39,_)] [] [] [true,true,false] (oc (g_lR 2 0 (cs:=U32 (ws)) (fun j v h=>by rw[Nat.zero_add];exact h) Tryz.underlying197 (by rw[Za,hws];exact Yj))<|oc g_mv on) fun u3 HB3 _ K3=>?_
 simp only[sQ] at K3⊢
 go_wp2_with fail
 go_loopw [39,6,7,8,9,10,11,12,13] (fun s39 s6 s7 s8 s9 s10 s11 s12 s13 wr=> ∃(i:Nat),i<=64/\s39=iI (i:Int)/\s6= .int .u32 ((r i 0:Nat):Int)/\s7= .int .u32 ((r i 1:Nat):Int)/\s8= .int .u32 ((r i 2:Nat):Int)/\s9= .int .u32 ((r i 3:Nat):Int)/\s10= .int .u32 ((r i 4:Nat):Int)/\s11= .int .u32 ((r i 5:Nat):Int)/\s12= .int .u32 ((r i 6:Nat):Int)/\s13= .int .u32 ((r i 7:Nat):Int)/\Bw w wr/\Hid (CV wr (w.heap.size) (U32 (ss)))/\Hid (CV wr (w.heap.size+1+1) (U32 (z8)))/\w.heap.size+1+1<wr.heap.size) (fun s39 _ _ _ _ _ _ _ _ _=>64 -(intOf s39).toNat)
 case atStart=>exact⟨0,by omega,rfl,rfl,rfl,rfl,rfl,rfl,rfl,rfl,rfl,HB3,(K3.cv 0),(K3.cv 1),(K3.lt 1)⟩
 case round=>
  obtain⟨i,hi,rfl,rfl,rfl,rfl,rfl,rfl,rfl,rfl,rfl,HBr,Ks,Kr,lr⟩:=hrel
  by_cases hj:i<64
  ·have hl1:decide ((i:Int)<64)=true:=by simp;omega
   have hst:=hR.out i hj
   have hlt:=hRl.out i
   obtain⟨y,ey⟩: ∃y,ws.getD i 0=y:=⟨_,rfl⟩
   obtain⟨kk,ek⟩: ∃kk,kcs.getD i 0=kk:=⟨_,rfl⟩
   have hix:=fun(o:Oper) (ev:Operand->Value) (x z:Operand) u=> @ix32v o ev 197 x z ws i u rfl
   have hkc:=hV.k i hj
   rw[ey] at hix hst
   rw[ek] at hkc hst
   have hix:Hid _:=hix
   have hst:Hid _:=hst
   clear ey ek
   obtain⟨a,ea⟩: ∃a,r i 0=a:=⟨_,rfl⟩
   have ha:=hlt 0
   rw[ea] at ha
   obtain⟨b,eb⟩: ∃b,r i 1=b:=⟨_,rfl⟩
   have hb:=hlt 1
   rw[eb] at hb
   obtain⟨c,ec⟩: ∃c,r i 2=c:=⟨_,rfl⟩
   have hc:=hlt 2
   rw[ec] at hc
   obtain⟨d,ed⟩: ∃d,r i 3=d:=⟨_,rfl⟩
   have hd:=hlt 3
   rw[ed] at hd
   obtain⟨e,ee⟩: ∃e,r i 4=e:=⟨_,rfl⟩
   have he:=hlt 4
   rw[ee] at he
   obtain⟨f,ef⟩: ∃f,r i 5=f:=⟨_,rfl⟩
   have hf:=hlt 5
   rw[ef] at hf
   obtain⟨g,eg⟩: ∃g,r i 6=g:=⟨_,rfl⟩
   have hg:=hlt 6
   rw[eg] at hg
   obtain⟨h,eh⟩: ∃h,r i 7=h:=⟨_,rfl⟩
   have hh:=hlt 7
   rw[eh] at hh
   have hst2:Hid _:=hst.out
   rw[ea,eb,ec,ed,ee,ef,eg,eh] at hst2
   rw[ea,eb,ec,ed,ee,ef,eg,eh]
   clear hst hlt ea eb ec ed ee ef eg eh
   have hnK:=K3.n
   simp at hnK
   have K3_1:Bk w.heap.size wr [(false,w.heap.size,U32 (ss)),(false,w.heap.size+1+1,U32 (z8))]:=⟨.c (by omega) Ks.out<| .c lr Kr.out<|trivial,by simp;omega⟩
   go_upto_region 4 with fail
   refine Rn K3_1 HBr [(0,40,_)] (oc (g_bn (fun uZ=>Zc _ _ (i:Int) 64 _ uZ hl1)) on) fun u4 HB4 sz4 K4=>?_
   simp only[sQ] at K4⊢
   go_upto_region 5 with fail
   refine Rn K4 HB4 [(0,41,_),(1,42,_),(2,14,_),(3,15,_)] (oc g_mv<|oc (g_op (fun ev uZ he=>hix.out _ ev _ _ uZ rfl (he _ _ rfl) (he _ _ rfl) hws hj))<|oc g_as<|oc g_as on) fun u5 HB5 sz5 K5=>?_
   simp only[sQ] at K5⊢
   go_upto_region 6 with fail
   refine Rm K5 HB5 (cG 0 43 [_,_,_,_,_,_,_,_,_,_,_,_,_,_,_] [(15,16,_)]) (oc g_mv<|oc g_mv<|oc (g_cl ent_sha_great1 (fun uZ=>cGreat1 e uZ he))<|oc (g_bn (add32 _ _ h (gs1 e)))<|oc g_mv<|oc g_mv<|oc g_mv<|oc (g_cl ent_sha_choice (fun uZ=>cChoice e f g uZ he hf hg))<|oc (g_bn (add32 _ _ ((h+gs1 e)%4294967296) (chN e f g)))<|oc g_mv<|oc (g_ix (fun uZ=>x64 6 i uZ hj))<|oc (g_lg 6 (i) l32 (hkc) (h0))<|oc (g_bn (fun uZ=>add32 _ _ (((h+gs1 e)%4294967296+chN e f g)%4294967296) kk uZ))<|oc g_mv<|oc (g_bn (fun uZ=>add32 _ _ ((((h+gs1 e)%4294967296+chN e f g)%4294967296+kk)%4294967296) y uZ))<|oc g_as on) fun u6 HB6 sz6 K6=>?_
   simp only[sQ] at K6⊢
   go_upto_region 7 with fail
   refine Rn K6 HB6 (cG 0 58 [_,_,_,_,_,_,_] [(7,17,_)]) (oc g_mv<|oc (g_cl ent_sha_great0 (fun uZ=>cGreat0 a uZ ha))<|oc g_mv<|oc g_mv<|oc g_mv<|oc (g_cl Tw (fun uZ=>cMajority a b c uZ ha hb hc))<|oc (g_bn (add32 _ _ (gs0 a) (maN a b c)))<|oc g_as on) fun u7 HB7 sz7 K7=>?_
   simp only[sQ] at K7⊢
   go_upto_region 8 with fail
   refine Rp K7 HB7 [] [] (cG 0 65 [_,_,_,_,_,_,_,_,_,_,_,_] (cG 12 6 [_,_,_,_,_,_,_,_] [])) [(12,3),(13,4),(14,5),(15,6),(16,9),(17,10),(18,11)] [(12,6),(13,7),(14,8),(15,9),(16,10),(17,11),(18,12)] [] (oc g_mv<|oc g_mv<|oc (g_bn (fun uZ=>add32 _ _ (((((h+gs1 e)%4294967296+chN e f g)%4294967296+kk)%4294967296+y)%4294967296) ((gs0 a+maN a b c)%4294967296) uZ))<|oc g_mv<|oc g_mv<|oc g_mv<|oc g_mv<|oc g_mv<|oc (g_bn (fun uZ=>add32 _ _ d (((((h+gs1 e)%4294967296+chN e f g)%4294967296+kk)%4294967296+y)%4294967296) uZ))<|oc g_mv<|oc g_mv<|oc g_mv<|oc g_as<|oc g_as<|oc g_as<|oc g_as<|oc g_as<|oc g_as<|oc g_as<|oc g_as on) fun u8 HB8 sz8 K8=>?_
   simp only[sQ] at K8⊢
   go_upto_region 9 with fail
   refine Rp K8 HB8 [] [] [(0,77,_),(1,39,_)] [(1,0)] [(1,39)] [] (oc (g_bn (fun uZ=>Zr _ _ (i:Int) 1 ((i+1:Nat):Int) uZ (by omega) (by omega) (by omega)))<|oc g_mv on) fun u9 HB9 sz9 K9=>?_
   simp only[sQ] at K9⊢
   go_wp2
   obtain⟨q0,q1,q2,q3,q4,q5,q6,q7⟩:=hst2.out
   refine⟨⟨i+1,by omega,rfl,(by rw[q0]),(by rw[q1]),(by rw[q2]),(by rw[q3]),(by rw[q4]),(by rw[q5]),(by rw[q6]),(by rw[q7]),HB9,(K9.cv 0),(K9.cv 1),(K9.lt 1)⟩,?_⟩
   simp[intOf]<;>omega
  ·have hl1:decide ((i:Int)<64)=false:=by simp;omega
   have hi64:i=64:=by omega
   subst hi64
   obtain⟨a,ea⟩: ∃a,r 64 0=a:=⟨_,rfl⟩
   obtain⟨b,eb⟩: ∃b,r 64 1=b:=⟨_,rfl⟩
   obtain⟨c,ec⟩: ∃c,r 64 2=c:=⟨_,rfl⟩
   obtain⟨d,ed⟩: ∃d,r 64 3=d:=⟨_,rfl⟩
   obtain⟨e,ee⟩: ∃e,r 64 4=e:=⟨_,rfl⟩
   obtain⟨f,ef⟩: ∃f,r 64 5=f:=⟨_,rfl⟩
   obtain⟨g,eg⟩: ∃g,r 64 6=g:=⟨_,rfl⟩
   obtain⟨h,eh⟩: ∃h,r 64 7=h:=⟨_,rfl⟩
   have hvs:=hVs.out
   rw[ea,eb,ec,ed,ee,ef,eg,eh] at hvs
   rw[ea,eb,ec,ed,ee,ef,eg,eh]
   have hvs:Hid _:=hvs
   clear ea eb ec ed ee ef eg eh
   have hnK:=K3.n
   simp at hnK
   have K3_1:Bk w.heap.size wr [(true,w.heap.size,U32 (ss)),(true,w.heap.size+1+1,U32 (z8))]:=⟨.o (by omega) (K3.lo 0) Ks.out<| .o lr (K3.lo 1) Kr.out<|trivial,by simp;omega⟩
   go_upto_region 4 with fail
   refine Rn K3_1 HBr [(0,40,_)] (oc (g_bn (fun uZ=>Zc _ _ ((64:Nat):Int) 64 _ uZ hl1)) on) fun u4 HB4 sz4 K4=>?_
   simp only[sQ] at K4⊢
   go_upto_region 10 with fail
   refine Rn K4 HB4 (cG 0 78 [_,_,_,_,_,_,_,_,_,_] []) (oc g_mv<|oc g_mv<|oc g_mv<|oc g_mv<|oc g_mv<|oc g_mv<|oc g_mv<|oc g_mv<|oc (g_bd (bd8 _ _ _ _ _ _ _ _))<|oc g_mv on) fun u5 HB5 sz5 K5=>?_
   simp only[sQ] at K5⊢
   go_wp2_with fail
   go_loopw [87] (fun s87 wq=> ∃(j:Nat),j<=8/\s87=iI (j:Int)/\Bw w wq/\Hid (CV wq (w.heap.size) (U32 (sC j)))/\Hid (CV wq (w.heap.size+1+1) (U32 (z8)))/\w.heap.size+1+1<wq.heap.size) (fun s87 _=>8 -(intOf s87).toNat)
   case atStart=>exact⟨0,by omega,rfl,HB5,(by rw[hC0.out];exact(K5.cv 0)),(K5.cv 1),(K5.lt 1)⟩
   case round=>
    obtain⟨j,hj8,rfl,HBq,Ks2,Kr2,lr2⟩:=hrel
    by_cases hjl:j<8
    ·have hl2:decide ((j:Int)<8)=true:=by simp;omega
     have hS:=hCs.out j
     have hlen:=(hCW.out j).len
     obtain⟨cs,ecs⟩: ∃cs,sC j=cs:=⟨_,rfl⟩
     rw[ecs] at hS hlen Ks2
     have gj:=Y0 cs j (by omega)
     obtain⟨x,ex⟩: ∃x,cs.getD j 0=x:=⟨_,rfl⟩
     have hix:=fun(o:Oper) (ev:Operand->Value) (x z:Operand) u=> @ix8w o ev 164 x z [a,b,c,d,e,f,g,h] j u rfl
     obtain⟨y,ey⟩: ∃y,([a,b,c,d,e,f,g,h]:List Nat).getD j 0=y:=⟨_,rfl⟩
     rw[hvs.out,ey] at hS
     rw[ex] at gj hS
     rw[ey] at hix
     have hS:Hid _:=hS
     have hix:Hid _:=hix
     clear ecs ex ey
     have hnK:=K5.n
     simp at hnK
     have K5_2:Bk w.heap.size wr [(true,w.heap.size,U32 (cs)),(false,w.heap.size+1+1,U32 (z8))]:=⟨.o (by omega) (K5.lo 0) Ks2.out<| .c lr2 Kr2.out<|trivial,by simp;omega⟩
     go_upto_region 11 with fail
     refine Rn K5_2 HBq [(0,88,_)] (oc (g_bn (fun uZ=>Zc _ _ (j:Int) 8 _ uZ hl2)) on) fun u6 HB6 sz6 K6=>?_
     simp only[sQ] at K6⊢
     go_upto_region 12 with fail
     refine Rn K6 HB6 [(0,89,_),(1,90,_),(2,18,_),(3,19,_)] (oc g_mv<|oc (g_op (fun ev uZ he=>hix.out _ ev _ _ uZ rfl (he _ _ rfl) (he _ _ rfl) rfl hjl))<|oc g_as<|oc g_as on) fun u7 HB7 sz7 K7=>?_
     simp only[sQ] at K7⊢
     go_upto_region 13 with fail
     refine Rp K7 HB7 [.all 6 (U32 (cs.set j ((x+y)%4294967296)))] [] (cG 0 91 [_,_,_,_,_,_] []) [(6,2)] [] [] (oc g_mv<|oc (g_ix (fun uZ=>x8 _ j uZ hjl))<|oc (g_lw 0 (j) l32 (gj))<|oc g_mv<|oc (g_bn (add32 _ _ x y))<|oc (g_ix (fun uZ=>x8 _ j uZ hjl))<|oc (g_sw 0 (j) s32 (gj) (U32_set _ _ _)) on) fun u8 HB8 sz8 K8=>?_
     simp only[sQ] at K8⊢
     go_upto_region 14 with fail
     refine Rp K8 HB8 [] [] [(0,97,_),(1,87,_)] [(1,0)] [(1,87)] [] (oc (g_bn (fun uZ=>Zr _ _ (j:Int) 1 ((j+1:Nat):Int) uZ (by omega) (by omega) (by omega)))<|oc g_mv on) fun u9 HB9 sz9 K9=>?_
     simp only[sQ] at K9⊢
     go_wp2
     refine⟨⟨j+1,by omega,rfl,HB9,(by rw[hS.out];exact(K9.cv 0)),(K9.cv 1),(K9.lt 1)⟩,?_⟩
     simp[intOf]<;>omega
    ·have hl2:decide ((j:Int)<8)=false:=by simp;omega
     have hj88:j=8:=by omega
     subst hj88
     have hlen:=(hCW.out 8).len
     have hnK:=K5.n
     simp at hnK
     have K5_2:Bk w.heap.size wr [(false,w.heap.size,U32 (sC 8)),(true,w.heap.size+1+1,U32 (z8))]:=⟨.c (by omega) Ks2.out<| .o lr2 (K5.lo 1) Kr2.out<|trivial,by simp;omega⟩
     go_upto_region 11 with fail
     refine Rn K5_2 HBq [(0,88,_)] (oc (g_bn (fun uZ=>Zc _ _ ((8:Nat):Int) 8 _ uZ hl2)) on) fun u6 HB6 sz6 K6=>?_
     simp only[sQ] at K6⊢
     go_upto_region 15 with fail
     refine Rp K6 HB6 [.no,.all 1 (U32 (sC 8))] [] [(0,98,_)] [] [] [false] (oc (g_lR 0 0 (cs:=U32 (sC 8)) (fun j v h=>by rw[Nat.zero_add];exact h) Tryz.underlying164 (by rw[Za,hlen];exact Z8))<|oc (g_st 1 Z8 (h1:=W0 _) (hm:=by rw[Za,hlen]) (hl:=by rw[Za,Za,hlen,show z8.length=8 from rfl])) on) fun u7 HB7 sz7 K7=>?_
     simp only[sQ] at K7⊢
     go_wp2
     refine bodyPost_ret (Zy Tryz.results162 rfl (K7.cv 0) Tryz.underlying164 rfl (by rw[Za,hlen];exact Z8)) rfl ⟨rfl,HB7⟩
theorem cBlock (ss bs:List Nat) (w:World) (hs:WW 8 ss) (hl:bs.length=64) (hb: ∀j,bs.getD j 0<256) (hV:GV w):CC 162 #[.agg (U32 (ss)).toArray,.agg (U8 (bs)).toArray] w (.agg (U32 (blk ss bs)).toArray):=
 cBlock_core ss bs (Xw bs) (rds ss (Xw bs) 64) (fun i j=>(rds ss (Xw bs) i).getD j 0) (sms ss (rds ss (Xw bs) 64)) w hl hs.len (spread_W bs hb).len hV (fun u=>cSpread bs u hl hb) (fun _=>rfl)
  (fun i _=>⟨rfl,rfl,rfl,rfl,rfl,rfl,rfl,rfl⟩) (fun i j=>(rds_W hs _ i).lt j) (list8 (rds_W hs _ 64).len) rfl (fun _=>rfl) (sms_W hs _)
theorem rem_n (p q:Operand) (x y:Nat) (w:World) (h1:x<1000000) (h2:0<y):(do eqGuard .rem 3 p q (iI x) (iI y);binOp .rem 3 (iI x) (iI y):Sem Value).run Tryz.prog w= .ok (iI ((x%y:Nat):Int)) w:=by
 have e0:((x:Int)).tmod y=((x%y:Nat):Int):=by rw[Int.tmod_eq_emod_of_nonneg (Int.natCast_nonneg _)];simp
 have hle:x%y<=x:=Nat.mod_le _ _
 obtain⟨z,hz⟩: ∃z,x%y=z:=⟨_,rfl⟩
 rw[hz] at e0 hle⊢
 have e:IntKind.i64.wrap (z:Int)=(z:Int):=by rw[IntKind.wrap_i64];omega
 have hy:(y:Int)≠0:=by omega
 have hy2: ¬y=0:=by omega
 go_simp
theorem mul_i (p q:Operand) (x y z:Int) (w:World) (h:x*y=z) (h0: -9223372036854775808<=z) (h1:z<9223372036854775808):(do eqGuard .mul 3 p q (iI x) (iI y);binOp .mul 3 (iI x) (iI y):Sem Value).run Tryz.prog w= .ok (iI z) w:=by
 have e:IntKind.i64.wrap z=z:=by rw[IntKind.wrap_i64];omega
 subst h;go_simp
theorem shr32i (p q:Operand) (a n:Nat) (w:World) (hn:n<=32):(do eqGuard .shr 163 p q (.int .u32 a) (iI n);binOp .shr 163 (.int .u32 a) (iI n):Sem Value).run Tryz.prog w= .ok (.int .u32 ((a>>>n:Nat):Int)) w:=by
 have e:((a:Int)/2^n)=(a:Int)>>>n:=by rw[Int.shiftRight_eq_div_pow];simp
 have e2:min n 32=n:=by omega
 go_simp
 first | done | exact e
theorem cv328 {o:Oper} {ev:Operand->Value} {x:Operand} {n:Nat} (u:World) (ho:o.op= .convert 163 5 x) (hx:ev x= .int .u32 (n:Int)):(execOp ev o).run Tryz.prog u= .ok (.value (.int .u8 ((n%256:Nat):Int))) u:=by
 have e1:IntKind.u8.wrap (n:Int)=((n%256:Nat):Int):=by simp[IntKind.wrap,IntKind.signed,IntKind.bits]
 unfold execOp;rw[ho];simp only[hx];go_simp
def tld (ss:List Nat):Nat->List Nat
 | 0=>z32
 | i+1=>(tld ss i).set i ((ss.getD (i/4) 0>>>(8*(3 -i%4)))%256)
def told (ss:List Nat):List Nat:=tld ss 32
structure BB (n:Nat) (l:List Nat):Prop where
 len:l.length=n
 lt: ∀j,l.getD j 0<256
theorem BB.set {n:Nat} {l:List Nat} (h:BB n l) (i x:Nat) (hx:x<256):BB n (l.set i x) where
 len:=by rw[List.length_set];exact h.len
 lt:=fun j=>by
  rw[Yw];split
  ·exact hx
  ·exact h.lt j
theorem BB_z32:BB 32 z32:=⟨rfl,fun j=>by
 unfold z32;simp only[List.getD_eq_getElem?_getD,List.getElem?_replicate];split<;>decide⟩
theorem tld_B (ss:List Nat): ∀i,BB 32 (tld ss i)
 | 0=>BB_z32
 | i+1=>(tld_B ss i).set _ _ (Nat.mod_lt _ (by decide))
theorem cTold_core (ss:List Nat) (tL:Nat->List Nat) (w:World) (hl:ss.length=8) (hT0:Hid (tL 0=z32)) (hTs:Hid (∀i,tL (i+1)=(tL i).set i ((ss.getD (i/4) 0>>>(8*(3 -i%4)))%256))) (hTB:Hid (∀i,BB 32 (tL i))):
 CC 159 #[.agg (U32 (ss)).toArray] w (.agg (U8 (tL 32)).toArray):=by
 go_enter Tryz.func159,Tryz.ntmps159
 go_upto_region 1 with fail
 generalize hC:((w.alloc (.cells (U32 (ss):List Value).toArray 164)).alloc (.cells (Z32b:List Value).toArray 110))=v0 at *
 have HB0:Bw w v0:=by rw[<-hC];exact Z2 (Z2 (Zm w) _) _
 have K0:Bk w.heap.size v0 [(true,w.heap.size,U32 (ss)),(true,w.heap.size+1,U8 (z32))]:=by rw[<-hC];exact(Bk.nil _ w).ad.ad
 clear hC
 refine Rp K0 HB0 [] [(0,3,U8 (z32),none)] [] [] [] [] (oc (g_al 0 Ya) on) fun u1 b1_0 HB1 _ K1=>?_
 simp only[sQ] at K1⊢
 go_upto_region 2 with fail
 refine Rn K1 HB1 [(0,5,_)] (oc g_mv on) fun u2 HB2 _ K2=>?_
 simp only[sQ] at K2⊢
 go_wp2_with fail
 go_loopw [5] (fun s5 wr=> ∃(i:Nat),i<=32/\s5=iI (i:Int)/\Bw w wr/\Hid (CV wr (w.heap.size) (U32 (ss)))/\Hid (CV wr (w.heap.size+1) (U8 (z32)))/\w.heap.size+1<wr.heap.size/\Hid (CV wr b1_0 (U8 (tL i)))/\b1_0<wr.heap.size) (fun s5 _=>32 -(intOf s5).toNat)
 case atStart=>exact⟨0,by omega,rfl,HB2,(K2.cv 0),(K2.cv 1),(K2.lt 1),(by rw[hT0.out];exact(K2.cv 2)),(K2.lt 2)⟩
 case round=>
  obtain⟨i,hi,rfl,HBr,Ks,Kr,lr,Kt,lt⟩:=hrel
  have hlo:=K2.lo 2
  by_cases hj:i<32
  ·have hl1:decide ((i:Int)<32)=true:=by simp;omega
   have hS:=hTs.out i
   have hlen:=(hTB.out i).len
   obtain⟨ts,ets⟩: ∃ts,tL i=ts:=⟨_,rfl⟩
   rw[ets] at hS hlen Kt
   have gi:=Y2 ts i (by omega)
   have gs:=Y0 ss (i/4) (by omega)
   obtain⟨x,ex⟩: ∃x,ss.getD (i/4) 0=x:=⟨_,rfl⟩
   obtain⟨y,ey⟩: ∃y,ts.getD i 0=y:=⟨_,rfl⟩
   rw[ex] at gs hS
   rw[ey] at gi
   have hS:Hid _:=hS
   have hm:i%4<=3:=by omega
   have hz:(3:Int) -((i%4:Nat):Int)=((3 -i%4:Nat):Int):=by omega
   have hz2:(8:Int)*((3 -i%4:Nat):Int)=((8*(3 -i%4):Nat):Int):=by omega
   clear ets ex ey
   have hnK:=K2.n
   simp at hnK
   have hoK2:=K2.lo 2
   have K2_1:Bk w.heap.size wr [(false,w.heap.size,U32 (ss)),(false,w.heap.size+1,U8 (z32)),(true,b1_0,U8 (ts))]:=⟨.c (by omega) Ks.out<| .c lr Kr.out<| .o lt (K2.lo 2) Kt.out<|trivial,by simp;omega⟩
   go_upto_region 3 with fail
   refine Rn K2_1 HBr [(0,6,_)] (oc (g_bn (fun uZ=>Zc _ _ (i:Int) 32 _ uZ hl1)) on) fun u3 HB3 sz3 K3=>?_
   simp only[sQ] at K3⊢
   go_upto_region 4 with fail
   refine Rn K3 HB3 [(0,7,_),(1,4,_)] (oc g_mv<|oc g_as on) fun u4 HB4 sz4 K4=>?_
   simp only[sQ] at K4⊢
   go_upto_region 5 with fail
   refine Rp K4 HB4 [.no,.no,.all 12 (U8 (ts.set i ((x>>>(8*(3 -i%4)))%256)))] [] (cG 0 8 [_,_,_,_,_,_,_,_,_,_,_,_] []) [] [] [] (oc g_mv<|oc g_mv<|oc (g_bn (fun uZ=>quo_n _ _ i 4 uZ (by omega) (by decide)))<|oc (g_ix (fun uZ=>x8 _ (i/4) uZ (by omega)))<|oc (g_lw 0 (i/4) l32 (gs))<|oc g_mv<|oc (g_bn (fun uZ=>rem_n _ _ i 4 uZ (by omega) (by decide)))<|oc (g_bn (fun uZ=>Yi _ _ 3 ((i%4:Nat):Int) ((3 -i%4:Nat):Int) uZ hz (by omega) (by omega)))<|oc (g_bn (fun uZ=>mul_i _ _ 8 ((3 -i%4:Nat):Int) ((8*(3 -i%4):Nat):Int) uZ hz2 (by omega) (by omega)))<|oc (g_bn (fun uZ=>shr32i _ _ x (8*(3 -i%4)) uZ (by omega)))<|oc (g_op (fun ev uZ he=>cv328 uZ rfl (he _ _ rfl)))<|oc (g_ix (fun uZ=>x32 b1_0 i uZ hj))<|oc (g_sw 2 (i) s8 (gi) (Wn _ _ _)) on) fun u5 HB5 _ K5=>?_
   simp only[sQ] at K5⊢
   go_upto_region 6 with fail
   refine Rp K5 HB5 [] [] [(0,20,_),(1,5,_)] [(1,0)] [(1,5)] [] (oc (g_bn (fun uZ=>Zr _ _ (i:Int) 1 ((i+1:Nat):Int) uZ (by omega) (by omega) (by omega)))<|oc g_mv on) fun u6 HB6 _ K6=>?_
   simp only[sQ] at K6⊢
   go_wp2
   refine⟨⟨i+1,by omega,rfl,HB6,(K6.cv 0),(K6.cv 1),(K6.lt 1),(by rw[hS.out];exact(K6.cv 2)),(K6.lt 2)⟩,?_⟩
   simp[intOf]<;>omega
  ·have hl1:decide ((i:Int)<32)=false:=by simp;omega
   have hi32:i=32:=by omega
   subst hi32
   have hlen:=(hTB.out 32).len
   have hnK:=K2.n
   simp at hnK
   have hoK2:=K2.lo 2
   have K2_1:Bk w.heap.size wr [(true,w.heap.size+1,U8 (z32)),(false,b1_0,U8 (tL 32))]:=⟨.o lr (K2.lo 1) Kr.out<| .c lt Kt.out<|trivial,by simp;omega⟩
   go_upto_region 3 with fail
   refine Rn K2_1 HBr [(0,6,_)] (oc (g_bn (fun uZ=>Zc _ _ ((32:Nat):Int) 32 _ uZ hl1)) on) fun u3 HB3 sz3 K3=>?_
   simp only[sQ] at K3⊢
   go_upto_region 7 with fail
   refine Rp K3 HB3 [.all 1 (U8 (tL 32))] [] [(0,21,_)] [] [] [true,false] (oc (g_lR 1 0 (cs:=U8 (tL 32)) (fun j v h=>by rw[Nat.zero_add];exact h) Tryz.underlying110 (by rw[Z1,hlen];exact Z3))<|oc (g_st 0 Z3 (h1:=Yq _) (hm:=by rw[Z1,hlen]) (hl:=by rw[Z1,Z1,hlen,show z32.length=32 from rfl])) on) fun u4 HB4 sz4 K4=>?_
   simp only[sQ] at K4⊢
   go_wp2
   refine bodyPost_ret (Zy Tryz.results159 rfl (K4.cv 0) Tryz.underlying110 rfl (by rw[Z1,hlen];exact Z3)) rfl ⟨rfl,HB4⟩
theorem cTold (ss:List Nat) (w:World) (hl:ss.length=8):CC 159 #[.agg (U32 (ss)).toArray] w (.agg (U8 (told ss)).toArray):=
 cTold_core ss (tld ss) w hl rfl (fun _=>rfl) (tld_B ss)
section
section
variable {R:Rg} {P:Program} {ops:Array Oper} {Q:Exit->Act->World->Prop} {f:Nat->Bool} {t:Nat->Value} {u:World} {a:Act} {i:Nat} {o:Oper}
theorem wp_ms {K:Act->World->Prop} {T:TypeId} {x y:Operand} {vx vy v:Value} {w':World} (ho:o.op= .makeSlice T x y) (hx:a.eval x=vx) (hy:a.eval y=vy) (hr:(Instr.makeSlice T vx vy).run P u= .ok v w') (hk:K (a.put o.dst v) w'):o.wp P a u K Q:=
 Yf (by
  unfold execOp;rw[ho]
  show Sem.run P (do pure (Next.value (<-Instr.makeSlice T (a.eval x) (a.eval y)))) u=_
  rw[hx,hy,Sem.run_bind,hr,Result.andThen_ok,Sem.run_pure]) hk
theorem g_ms (n:Nat) (p:World->Value->Prop) {T e:TypeId} {x y:Operand} {vx vy:Value} {m:Nat} {cs:List Value} (hr: ∀w,(Instr.makeSlice T vx vy).run P w= .ok (.slice (some ⟨w.heap.size,0,none⟩) m m) (w.alloc (.cells cs.toArray e))) (hp: ∀u:World,R.base<=u.heap.size->p (u.alloc (.cells cs.toArray e)) (.slice (some ⟨u.heap.size,0,none⟩) m m)) (hop:o.op= .makeSlice T x y:=by rfl) (hx:evR R i o x=some vx:=by rfl) (hy:evR R i o y=some vy:=by rfl) (hn:(R.E[n]?).map (·.p)=some p:=by rfl) (hc:R.chkE ops n i o=true:=by rfl):OG R P ops Q i o:=fun f t u a X=>by
 obtain⟨d,q,hd,hq,_,_,_,_,_,_,_,_,hw⟩:=Zl hc
 exact X.go hw fun K hK=>wp_ms hop (X.ev hx) (X.ev hy) (hr u) (hK _ _ (X.putE hc (fun q hq=>by rw[hq] at hn;cases hn;exact hp u X.I.1.sz) (Z2 (Zm u) _)))
end
theorem Bk.moreT {lo:Nat} {u0 u:World} {k0 ks:List Blk} {b:Nat} {l:List Value} (K0:Bk lo u0 k0) (K:Bk lo u ks) (hlo:lo<=u0.heap.size) (hb:u0.heap.size<=b) (hlt:b<u.heap.size) (hc:CV u b l) (e: ∀x∈ks.map (·.2.1),x∈k0.map (·.2.1)):Bk lo u (aK ks [(true,b,l)]):=by
 rw[aK_eq]
 refine⟨KA.app K.a (KA.o hlt (Nat.le_trans hlo hb) hc trivial),?_⟩
 rw[List.map_append,List.nodup_append]
 refine⟨K.n,by simp,fun x hx y hy h=>?_⟩
 have:=K0.a.mem x (e x hx)
 simp at hy
 omega
def PF (lo n:Nat) (xs:List Value) (u:World) (v:Value):Prop:= ∃b,v= .slice (some ⟨b,0,none⟩) n n/\lo<=b/\b<u.heap.size/\CV u b xs
theorem PF.stab {lo n:Nat} {xs:List Value} {u v:World} {x:Value} (hB:Bw u v) (h:PF lo n xs u x):PF lo n xs v x:=by
 obtain⟨b,e,h1,h2,h5⟩:=h
 exact⟨b,e,h1,Nat.lt_of_lt_of_le h2 hB.size,h5.below hB h2⟩
theorem PF.mono {lo lo' n:Nat} {xs:List Value} {u:World} {x:Value} (h:PF lo n xs u x) (hl:lo'<=lo):PF lo' n xs u x:=by
 obtain⟨b,e,h1,h⟩:=h
 exact⟨b,e,Nat.le_trans hl h1,h⟩
theorem PF.new (n:Nat) (xs:List Value) (t:TypeId) {lo:Nat} (u:World) (h:lo<=u.heap.size):PF lo n xs (u.alloc (.cells xs.toArray t)) (.slice (some ⟨u.heap.size,0,none⟩) n n):=⟨_,rfl,h,by simp,CV.new u _ t⟩
theorem Tu:(Tryz.prog.info? 5).map (fun i=>(i.zero,i.size,i.bytes))=some (some (.int .u8 0),1,1):=by kernel_rfl
theorem mkB (k:IntKind) (m:Nat) (hm:m<=1000000) (w:World):(Instr.makeSlice 43 (.int k m) (.int k m)).run Tryz.prog w= .ok (.slice (some ⟨w.heap.size,0,none⟩) m m) (w.alloc (.cells (U8 (List.replicate m 0)).toArray 5)):=by
 obtain⟨i,hi,hi2⟩:=Option.map_eq_some_iff.1 Tu
 simp only[Prod.mk.injEq] at hi2
 obtain⟨hz,hs,hb⟩:=hi2
 have:=run_makeSlice (P:=Tryz.prog) w 43 5 i (.int .u8 0) Tryz.underlying43 hi hz k k m m (by omega) (by omega) (by rw[hs];omega) (by rw[hb];omega) (by omega)
 rw[this,hs]
 simp only[Int.toNat_natCast,Nat.mul_one]
 congr 4
 apply Array.ext'
 simp[madeCells,U8,Value.cells]
 apply List.ext_getElem
 ·simp
 ·intro j h1 h2;simp[Nat.mod_one]
theorem W2 (p q:Operand) (a b c:Nat) (w:World) (h:a+b=c) (hc:c<18446744073709551616):(do eqGuard .add 22 p q (iU a) (iU b);binOp .add 22 (iU a) (iU b):Sem Value).run Tryz.prog w= .ok (iU (c:Int)) w:=by
 have e:IntKind.u64.wrap ((a:Int)+b)=(c:Int):=by simp[IntKind.wrap,IntKind.signed,IntKind.bits];omega
 go_simp
theorem mul64 (p q:Operand) (a b c:Nat) (w:World) (h:a*b=c) (hc:c<18446744073709551616):(do eqGuard .mul 22 p q (iU a) (iU b);binOp .mul 22 (iU a) (iU b):Sem Value).run Tryz.prog w= .ok (iU (c:Int)) w:=by
 have h':(a:Int)*b=(c:Int):=by exact_mod_cast h
 have e:IntKind.u64.wrap (c:Int)=(c:Int):=by simp[IntKind.wrap,IntKind.signed,IntKind.bits];omega
 go_simp
theorem neg64 (a:Nat) (w:World) (h0:0<a) (h:a<18446744073709551616):(Op.unary .neg (iU a)).run Tryz.prog w= .ok (iU ((18446744073709551616 -a:Nat):Int)) w:=by
 have e:IntKind.u64.wrap (-(a:Int))=((18446744073709551616 -a:Nat):Int):=by simp[IntKind.wrap,IntKind.signed,IntKind.bits];omega
 go_simp
theorem rem64 (p q:Operand) (x y:Nat) (w:World) (h1:x<18446744073709551616) (h2:0<y):(do eqGuard .rem 22 p q (iU x) (iU y);binOp .rem 22 (iU x) (iU y):Sem Value).run Tryz.prog w= .ok (iU ((x%y:Nat):Int)) w:=by
 have e0:((x:Int)).tmod y=((x%y:Nat):Int):=by rw[Int.tmod_eq_emod_of_nonneg (Int.natCast_nonneg _)];simp
 have hle:x%y<=x:=Nat.mod_le _ _
 obtain⟨z,hz⟩: ∃z,x%y=z:=⟨_,rfl⟩
 rw[hz] at e0 hle⊢
 have e:IntKind.u64.wrap (z:Int)=(z:Int):=by simp[IntKind.wrap,IntKind.signed,IntKind.bits];omega
 have hy:(y:Int)≠0:=by omega
 have hy2: ¬y=0:=by omega
 go_simp
theorem shr64i (p q:Operand) (a n:Nat) (w:World) (hn:n<=64):(do eqGuard .shr 22 p q (iU a) (iI n);binOp .shr 22 (iU a) (iI n):Sem Value).run Tryz.prog w= .ok (iU ((a>>>n:Nat):Int)) w:=by
 have e:((a:Int)/2^n)=(a:Int)>>>n:=by rw[Int.shiftRight_eq_div_pow];simp
 have e2:min n 64=n:=by omega
 go_simp
 first | done | exact e
theorem cv648 {o:Oper} {ev:Operand->Value} {x:Operand} {n:Nat} (u:World) (ho:o.op= .convert 22 5 x) (hx:ev x=iU (n:Int)):(execOp ev o).run Tryz.prog u= .ok (.value (.int .u8 ((n%256:Nat):Int))) u:=by
 have e1:IntKind.u8.wrap (n:Int)=((n%256:Nat):Int):=by simp[IntKind.wrap,IntKind.signed,IntKind.bits]
 unfold execOp;rw[ho];simp only[hx];go_simp
theorem ixB (g o n cap j:Nat) (h:j<n) (w:World):(Instr.indexAt 43 (.slice (some ⟨g,o,none⟩) n cap) (iI j)).run Tryz.prog w= .ok (.pointer (some ⟨g,o+j,none⟩)) w:=by
 have h2:(j:Int)<n:=by omega
 go_simp
theorem slB8 (k:IntKind) (b m j:Nat) (h:j+8=m) (w:World):(Instr.sliceAt 43 (.slice (some ⟨b,0,none⟩) m m) (some (.int k j)) none none).run Tryz.prog w= .ok (.slice (some ⟨b,j,none⟩) 8 8) w:=by
 subst h
 have h1:(j:Int)<=(j+8:Nat):=by omega
 have h3:j<=j+8:=by omega
 have h5: ¬j+8=j:=by omega
 have h6: ¬j+8 -j=0:=by omega
 have h7:j+8 -j=8:=by omega
 simp[Instr.sliceAt,Instr.slice,go_sem,Tryz.underlying43,h1,h3,h5,h6,h7]
 try (intro h;omega)
def nou (n:Nat):Nat:=(18446744073709551616 -(n+9))%64
def enL (n:Nat):Nat->List Nat
 | 0=>(List.replicate (nou n+9) 0).set 0 128
 | i+1=>(enL n i).set (nou n+9 -1 -i) ((n*8)>>>(8*i)%256)
def Vg (n:Nat):List Nat:=enL n 8
theorem BB_rep (m:Nat):BB m (List.replicate m 0):=⟨by simp,fun j=>by
 simp only[List.getD_eq_getElem?_getD,List.getElem?_replicate];split<;>decide⟩
theorem enL_B (n:Nat): ∀i,BB (nou n+9) (enL n i)
 | 0=>(BB_rep _).set _ _ (by decide)
 | i+1=>(enL_B n i).set _ _ (Nat.mod_lt _ (by decide))
theorem rem64x (p q:Operand) (x y z:Nat) (w:World) (h1:x<18446744073709551616) (h2:0<y) (h:x%y=z):(do eqGuard .rem 22 p q (iU x) (iU y);binOp .rem 22 (iU x) (iU y):Sem Value).run Tryz.prog w= .ok (iU (z:Int)) w:=by
 rw[<-h];exact rem64 p q x y w h1 h2
theorem cEnding_core (n no np n9 ng n1 m nb:Nat) (eL:Nat->List Nat) (w:World) (hn:n<1152921504606846976) (hno:no<64) (enp:n+1=np) (en9:n+9=n9) (hng:ng<18446744073709551616) (hneg:Hid (∀u,(Op.unary .neg (iU (n9:Int))).run Tryz.prog u= .ok (iU (ng:Int)) u)) (eno:ng%64=no) (en1:no+1=n1) (em:n1+8=m) (enb:n*8=nb) (hE0:Hid (eL 0=(List.replicate m 0).set 0 128)) (hEs:Hid (∀i,eL (i+1)=(eL i).set (m -1 -i) (nb>>>(8*i)%256))) (hEB:Hid (∀i,BB m (eL i))):
 Calls Tryz.prog 158 #[iU ((n:Nat):Int)] w fun e w'=> ∃v,e= .returned v/\PF w.heap.size m (U8 (eL 8)) w' v/\Bw w w':=by
 have he0:(U8 (List.replicate m 0))[0+0]?=some (.int .u8 ((0:Nat):Int)):=by
  have:=Y2 (List.replicate m 0) 0 (by simp;omega)
  simpa [show 0<m by omega] using this
 go_enter Tryz.func158,Tryz.ntmps158
 have HB0:Bw w w:=Below.refl _ _
 have K0_1:=Bk.nil (w.heap.size) w
 go_upto_region 1 with fail
 refine Rn K0_1 HB0 (cG 0 7 [_,_,_,_,_] [(5,3,_)]) (oc g_mv<|oc (g_bn (fun uZ=>W2 _ _ n 1 np uZ enp (by omega)))<|oc (g_bn (fun uZ=>W2 _ _ np 8 n9 uZ (by omega) (by omega)))<|oc (g_un hneg.out)<|oc (g_bn (fun uZ=>rem64x _ _ ng 64 no uZ (by omega) (by decide) eno))<|oc g_as on) fun u1 HB1 _ K1=>?_
 simp only[sQ] at K1⊢
 go_upto_region 2 with fail
 refine Rf K1 HB1 [] [] (cG 0 12 [_,_,_] []) [] [] [⟨3,15,some 4,PF u1.heap.size m (U8 (List.replicate m 0))⟩,⟨4,4,none,PF u1.heap.size m (U8 (List.replicate m 0))⟩] [] (oc g_mv<|oc (g_bn (fun uZ=>W2 _ _ 1 no n1 uZ (by omega) (by omega)))<|oc (g_bn (fun uZ=>W2 _ _ n1 8 m uZ em (by omega)))<|oc (g_ms 0 (PF u1.heap.size m (U8 (List.replicate m 0))) (mkB .u64 m (by omega)) (fun u hu=>PF.new m _ _ u hu))<|oc (g_sE 0 1 (PF u1.heap.size m (U8 (List.replicate m 0)))) on) fun u2 v2_3 hv2_3 v2_4 hv2_4 HB2 _ K2=>?_
 simp only[sQ] at K2⊢
 obtain⟨bE,rfl,ho1,ho2,hoC⟩:=hv2_4 rfl
 have K2xen:=Bk.moreT K1 K2 (by omega) ho1 ho2 hoC (by intro x hx;first | (simp at hx;done) | (simp at hx⊢;omega))
 simp only[aK] at K2xen
 have hbE:w.heap.size<=bE:=by omega
 go_upto_region 3 with fail
 refine Rp K2xen HB2 [.all 2 (U8 ((List.replicate m 0).set (0+0) 128))] [] [(0,16,_),(1,17,_)] [] [] [] (oc g_mv<|oc (g_ix (fun uZ=>ixB bE 0 m m 0 (by omega) uZ))<|oc (g_sw 0 (0+0) s8 (he0) (Wn _ _ _)) on) fun u3 HB3 _ K3=>?_
 simp only[sQ] at K3⊢
 go_upto_region 4 with fail
 refine Rn K3 HB3 [(0,18,_),(1,19,_),(2,5,_)] (oc g_mv<|oc (g_bn (fun uZ=>mul64 _ _ n 8 nb uZ enb (by omega)))<|oc g_as on) fun u4 HB4 _ K4=>?_
 simp only[sQ] at K4⊢
 go_upto_region 5 with fail
 refine Rn K4 HB4 (cG 0 20 [_,_,_,_,_,_] []) (oc g_mv<|oc g_mv<|oc (g_bn (fun uZ=>W2 _ _ 1 no n1 uZ (by omega) (by omega)))<|oc (g_sl (slB8 .u64 bE m n1 em))<|oc (g_ln Tryz.underlying43)<|oc g_mv on) fun u5 HB5 _ K5=>?_
 simp only[sQ] at K5⊢
 go_wp2_with fail
 go_loopw [25] (fun s25 wr=> ∃(i:Nat),i<=8/\s25=iI (i:Int)/\Bw w wr/\Hid (CV wr bE (U8 (eL i)))/\bE<wr.heap.size) (fun s25 _=>8 -(intOf s25).toNat)
 case atStart=>exact⟨0,by omega,rfl,HB5,(by rw[hE0.out];exact(K5.cv 0)),(K5.lt 0)⟩
 case round=>
  obtain⟨i,hi,rfl,HBr,Ke,le⟩:=hrel
  by_cases hj:i<8
  ·have hl1:decide ((i:Int)<8)=true:=by simp;omega
   have hS:=hEs.out i
   have hlen:=(hEB.out i).len
   obtain⟨es,ees⟩: ∃es,eL i=es:=⟨_,rfl⟩
   obtain⟨q1,eq1⟩: ∃q1,m -1=q1:=⟨_,rfl⟩
   obtain⟨q2,eq2⟩: ∃q2,m -1 -i=q2:=⟨_,rfl⟩
   obtain⟨q8,eq8⟩: ∃q8,8*i=q8:=⟨_,rfl⟩
   rw[ees] at hS hlen Ke
   have gi:=Y2 es q2 (by omega)
   rw[eq2,eq8] at hS
   obtain⟨y,ey⟩: ∃y,es.getD q2 0=y:=⟨_,rfl⟩
   rw[ey] at gi
   have hS:Hid _:=hS
   clear ees ey
   have K5_2:Bk w.heap.size wr [(true,bE,U8 (es))]:=⟨.o le (K5.lo 0) Ke.out<|trivial,by simp⟩
   go_upto_region 6 with fail
   refine Rn K5_2 HBr [(0,26,_)] (oc (g_bn (fun uZ=>Zc _ _ (i:Int) 8 _ uZ hl1)) on) fun u6 HB6 sz6 K6=>?_
   simp only[sQ] at K6⊢
   go_upto_region 7 with fail
   refine Rn K6 HB6 [(0,27,_),(1,6,_)] (oc g_mv<|oc g_as on) fun u7 HB7 sz7 K7=>?_
   simp only[sQ] at K7⊢
   go_upto_region 8 with fail
   refine Rp K7 HB7 [.all 12 (U8 (es.set (0+q2) (nb>>>q8%256)))] [] (cG 0 28 [_,_,_,_,_,_,_,_,_,_,_,_] []) [] [] [] (oc g_mv<|oc g_mv<|oc (g_ln Tryz.underlying43)<|oc (g_bn (fun uZ=>Yi _ _ (m:Int) 1 (q1:Int) uZ (by omega) (by omega) (by omega)))<|oc g_mv<|oc (g_bn (fun uZ=>Yi _ _ (q1:Int) (i:Int) (q2:Int) uZ (by omega) (by omega) (by omega)))<|oc g_mv<|oc g_mv<|oc (g_bn (fun uZ=>mul_i _ _ 8 (i:Int) (q8:Int) uZ (by omega) (by omega) (by omega)))<|oc (g_bn (fun uZ=>shr64i _ _ nb q8 uZ (by omega)))<|oc (g_op (fun ev uZ he=>cv648 uZ rfl (he _ _ rfl)))<|oc (g_ix (fun uZ=>ixB bE 0 m m q2 (by omega) uZ))<|oc (g_sw 0 (0+q2) s8 (by rw[Nat.zero_add];exact gi) (Wn _ _ _)) on) fun u8 HB8 _ K8=>?_
   simp only[sQ] at K8⊢
   go_upto_region 9 with fail
   refine Rp K8 HB8 [] [] [(0,40,_),(1,25,_)] [(1,0)] [(1,25)] [] (oc (g_bn (fun uZ=>Zr _ _ (i:Int) 1 ((i+1:Nat):Int) uZ (by omega) (by omega) (by omega)))<|oc g_mv on) fun u9 HB9 _ K9=>?_
   simp only[sQ] at K9⊢
   go_wp2
   refine⟨⟨i+1,by omega,rfl,HB9,(by rw[hS.out];have:=(K9.cv 0);rwa [Nat.zero_add] at this),(K9.lt 0)⟩,?_⟩
   simp[intOf]<;>omega
  ·have hl1:decide ((i:Int)<8)=false:=by simp;omega
   have hi8:i=8:=by omega
   subst hi8
   have K5_2:Bk w.heap.size wr [(false,bE,U8 (eL 8))]:=⟨.c le Ke.out<|trivial,by simp⟩
   go_upto_region 6 with fail
   refine Rn K5_2 HBr [(0,26,_)] (oc (g_bn (fun uZ=>Zc _ _ ((8:Nat):Int) 8 _ uZ hl1)) on) fun u6 HB6 sz6 K6=>?_
   simp only[sQ] at K6⊢
   go_upto_region 10 with fail
   refine Rn K6 HB6 [(0,41,_),(1,2,_)] (oc g_mv<|oc g_as on) fun u7 HB7 sz7 K7=>?_
   simp only[sQ] at K7⊢
   go_wp2
   refine bodyPost_ret (v:= .slice (some ⟨bE,0,none⟩) m m) (by simp[results,Tryz.results158,go_sem]) rfl ⟨_,rfl,⟨bE,rfl,hbE,K7.lt 0,K7.cv 0⟩,HB7⟩
theorem cEnding (n:Nat) (w:World) (hn:n<1152921504606846976):Calls Tryz.prog 158 #[iU ((n:Nat):Int)] w fun e w'=> ∃v,e= .returned v/\PF w.heap.size (nou n+9) (U8 (Vg n)) w' v/\Bw w w':=
 cEnding_core n (nou n) _ _ (18446744073709551616 -(n+9)) _ (nou n+9) _ (enL n) w hn (Nat.mod_lt _ (by decide)) rfl rfl (by omega) (fun u=>neg64 (n+9) u (by omega) (by omega)) rfl rfl rfl rfl rfl (fun _=>rfl) (enL_B n)
end
end
section
def tkB (c:Nat) (bs xs:List Nat):Nat->List Nat
 | 0=>bs
 | j+1=>(tkB c bs xs j).set ((c+j)%64) (xs.getD j 0)
def tkS (c:Nat) (ss bs xs:List Nat):Nat->List Nat
 | 0=>ss
 | j+1=>if (c+j+1)%64=0 then blk (tkS c ss bs xs j) (tkB c bs xs (j+1)) else tkS c ss bs xs j
theorem tkB_B {c:Nat} {bs xs:List Nat} (hb:BB 64 bs) (hx: ∀j,xs.getD j 0<256): ∀j,BB 64 (tkB c bs xs j)
 | 0=>hb
 | j+1=>(tkB_B hb hx j).set _ _ (hx j)
theorem tkS_W {c:Nat} {ss bs xs:List Nat} (hs:WW 8 ss): ∀j,WW 8 (tkS c ss bs xs j)
 | 0=>hs
 | j+1=>by
  unfold tkS;split
  ·exact blk_W (tkS_W hs j) _
  ·exact tkS_W hs j
theorem set_app (l:List Nat) (k n x:Nat) (m:List Nat) (hm:m.length=n) (h:k+n<l.length):(l.take k++m++l.drop (k+n)).set (k+n) x=l.take k++(m++[x])++l.drop (k+n+1):=by
 have hk:(l.take k).length=k:=by rw[List.length_take];omega
 have hd:l.drop (k+n)=l[k+n]::l.drop (k+n+1):=List.drop_eq_getElem_cons h
 rw[hd,List.set_append_right _ _ (by rw[List.length_append,hk,hm];omega),List.length_append,hk,hm,Nat.sub_self,List.set_cons_zero]
 simp
theorem tkB_many (c:Nat) (bs xs:List Nat) (hb:bs.length=64) (j k:Nat) (hk:(c+j)%64=k): ∀n,k+n<=64->j+n<=xs.length->tkB c bs xs (j+n)=(tkB c bs xs j).take k++(xs.drop j).take n++(tkB c bs xs j).drop (k+n)
 | 0,_,_=>by simp
 | n+1,h1,h2=>by
  have ih:=tkB_many c bs xs hb j k hk n (by omega) (by omega)
  have hl:(tkB c bs xs j).length=64:=by
   have: ∀j,(tkB c bs xs j).length=64:=fun j=>by
    induction j with
    | zero=>exact hb
    | succ j ih=>unfold tkB;rw[List.length_set];exact ih
   exact this j
  have hm:(c+(j+n))%64=k+n:=by omega
  have hg:xs.getD (j+n) 0=xs[j+n]:=by simp[List.getElem?_eq_getElem (show j+n<xs.length by omega)]
  show (tkB c bs xs (j+n)).set ((c+(j+n))%64) (xs.getD (j+n) 0)=_
  rw[hm,ih,set_app _ _ _ _ _ (by rw[List.length_take,List.length_drop];omega) (by omega),hg]
  have:(xs.drop j).take (n+1)=(xs.drop j).take n++[xs[j+n]]:=by
   rw[List.take_succ_eq_append_getElem (by rw[List.length_drop];omega)];simp
  rw[this,Nat.add_assoc]
theorem tkS_many (c:Nat) (ss bs xs:List Nat) (j k:Nat) (hk:(c+j)%64=k): ∀n,k+(n+1)<=64->tkS c ss bs xs (j+(n+1))=if (c+j+(n+1))%64=0 then blk (tkS c ss bs xs j) (tkB c bs xs (j+(n+1))) else tkS c ss bs xs j
 | 0,_=>rfl
 | n+1,h=>by
  have ih:=tkS_many c ss bs xs j k hk n (by omega)
  rw[if_neg (by omega)] at ih
  show tkS c ss bs xs (j+(n+1)+1)=_
  rw[show tkS c ss bs xs (j+(n+1)+1)=if (c+(j+(n+1))+1)%64=0 then blk (tkS c ss bs xs (j+(n+1))) (tkB c bs xs (j+(n+1)+1)) else tkS c ss bs xs (j+(n+1)) from rfl,ih]
  rw[show c+(j+(n+1))+1=c+j+(n+1+1) by omega,show j+(n+1)+1=j+(n+1+1) by omega]
end
section
open Go.RowKit
section
section
variable {R:Rg} {P:Program} {ops:Array Oper} {Q:Exit->Act->World->Prop} {f:Nat->Bool} {t:Nat->Value} {u:World} {a:Act} {i:Nat} {o:Oper}
theorem wp_cp {K:Act->World->Prop} {s x:Operand} {T T2:TypeId} {vs vx v:Value} {w':World} (ho:o.op= .call {callee:= .builtin .copy,args:=[s,x].toArray,argTypes:=[T,T2].toArray}) (hs:a.eval s=vs) (hx:a.eval x=vx) (hr:(Builtin.copy_ #[T,T2] o.type #[vs,vx]).run P u= .ok v w') (hk:K (a.put o.dst v) w'):o.wp P a u K Q:=by
 unfold Oper.wp execOp
 simp only[ho,resolve,invoke,builtin,Sem.run_bind,Sem.run_pure,Result.andThen_ok,List.map_toArray,List.map_cons,List.map_nil,hs,hx,hr]
 exact hk
theorem g_cp (k:Nat) {T T2 e:TypeId} {x y:Operand} {b c dl dc sl sc:Nat} {ad:Addr} (xs ys zs cs:List Value) (ht:P.underlying T=some (.slice e)) (hi:(P.info? e).map (·.size)=some 1) (hn:cs.length=Nat.min sl dl) (hsrc: ∀f u,KC f u R.lo R.base R.es->Below R.lo R.w u-> ∀j v,cs[j]?=some v->u.cell? (ad.add j)=some v) (h1: ∀v∈cs,v.oneCell'=true) (hxc:xs.length=c) (hl:ys.length=cs.length)
 (hop:o.op= .call {callee:= .builtin .copy,args:=[x,y].toArray,argTypes:=[T,T2].toArray}:=by rfl) (hes:R.es[k]?=some (true,b,xs++ys++zs,.all i (xs++cs++zs)):=by rfl) (hx:evR R i o x=some (.slice (some ⟨b,c,none⟩) dl dc):=by rfl) (hy:evR R i o y=some (.slice (some ad) sl sc):=by rfl) (hv:some (goInt cs.length)=Zw i R.G:=by rfl)
 (hw:R.nw=[]:=by rfl) (hE:R.E=[]:=by rfl) (hc:((match o.dst with | some d=>Ts i d R.G&&Vt i d R.Ns&&R.S.contains d | none=>false)&&R.okO i o&&((R.es.eraseIdx k).all fun q=>q.2.2.2.free i)&&(V3 R ops o==some true))=true:=by rfl):OG R P ops Q i o:=fun f t u a X=>by
 cases hdd:o.dst with
 | none=>rw[hdd] at hc;simp at hc
 | some d'=>
  rw[hdd] at hc
  simp only[Bool.and_eq_true,List.contains_iff_mem,beq_iff_eq] at hc
  obtain⟨q1,q2,q3⟩:=X.I.2.1.get hes
  have q3:CV u b (bif f i then xs++cs++zs else xs++ys++zs):=q3
  rw[X.fi] at q3
  have q3:CV u b (xs++ys++zs):=q3
  have hr:=run_copy_cells (P:=P) u T T2 o.type e b c dl dc ad sl sc cs ht hi hn (hsrc f u X.I.2.1 X.I.1.bel) (fun j hj=>by
   rw[(q3 (c+j) _ (List.getElem?_eq_getElem (by simp only[List.length_append];omega))).1];rfl) (fun j hj=>(q3 (c+j) _ (List.getElem?_eq_getElem (by simp only[List.length_append];omega))).2) h1
  have cc:=Chg.cellsAt u b c cs
  refine X.go hc.2 fun K hK=>wp_cp hop (X.ev hx) (X.ev hy) hr (hK _ _ ⟨updT t d' _,by rw[hdd];exact X.F.put X.parts.1 hc.1.1.1.2 _,?_,?_,Gs.stepA X.I.2.2.1 hc.1.1.1.1.1 hv.symm,Yv hc.1.1.2 X.I.2.2.2.1 X.dep,Ns.step X.I.2.2.2.2.1 hc.1.1.1.1.2,by rw[hE];trivial⟩)
  ·have hM:=X.I.1
   rw[hw] at hM⊢
   exact{bel:=Zo (q2 rfl) _ _ _ hM.bel,lo:=hM.lo,sz:=by rw[Zj];exact hM.sz,ks:=trivial,ex:=trivial,nw:=trivial,nd:=trivial}
  ·exact KC.put cc X.I.2.1 hes X.nd hc.1.2 (by simp only[Wr.val,Yr,cond_true];exact q3.mid hxc hl)
end
def RB (ss bs:List Nat) (c:Nat):List Value:=U32 ss++(U8 bs++[iU (c:Int)])
abbrev RBm (X Y Z:List Value):List Value:=X++Y++Z
theorem RB_c {ss bs:List Nat} {c:Nat} (h1:ss.length=8) (h2:bs.length=64):(RB ss bs c)[72]?=some (iU (c:Int)):=by
 unfold RB;rw[<-List.append_assoc,List.getElem?_append_right (by rw[List.length_append,Za,Z1];omega)];simp[Za,Z1,h1,h2]
theorem RB_set (ss bs:List Nat) (c d:Nat) (h1:ss.length=8) (h2:bs.length=64):RB ss bs d=(RB ss bs c).set 72 (iU (d:Int)):=by
 unfold RB;rw[<-List.append_assoc,<-List.append_assoc,List.set_append_right _ _ (by rw[List.length_append,Za,Z1];omega)];simp[Za,Z1,h1,h2]
theorem RB_ss {ss bs:List Nat} {c:Nat}: ∀j v,(U32 ss)[j]?=some v->(RB ss bs c)[0+j]?=some v:=fun j v hj=>by
 rw[Nat.zero_add];unfold RB;rw[List.getElem?_append_left (List.getElem?_eq_some_iff.1 hj).1];exact hj
theorem RB_bs {ss bs:List Nat} {c:Nat} (h1:ss.length=8): ∀j v,(U8 bs)[j]?=some v->(RB ss bs c)[8+j]?=some v:=fun j v hj=>by
 have hl:=(List.getElem?_eq_some_iff.1 hj).1
 unfold RB;rw[List.getElem?_append_right (by rw[Za];omega),Za,h1,show 8+j -8=j by omega,List.getElem?_append_left hl];exact hj
theorem Xz (a b:List Nat):U8 (a++b)=U8 a++U8 b:=by simp[U8]
theorem RB_mid {ss bs:List Nat} {c k n:Nat} (m:List Nat) (hm:bs=bs.take k++m++bs.drop (k+n)):RB ss bs c=RBm (U32 ss++U8 (bs.take k)) (U8 m) (U8 (bs.drop (k+n))++[iU (c:Int)]):=by
 unfold RB RBm
 conv=>lhs;rw[hm]
 rw[Xz,Xz]
 simp only[List.append_assoc]
theorem RB_mid2 {ss bs bs2:List Nat} {c k n:Nat} (m:List Nat) (hm:bs2=bs.take k++m++bs.drop (k+n)):RBm (U32 ss++U8 (bs.take k)) (U8 m) (U8 (bs.drop (k+n))++[iU (c:Int)])=RB ss bs2 c:=by
 unfold RB RBm
 rw[hm,Xz,Xz]
 simp only[List.append_assoc]
theorem cut3 (l:List Nat) (k n:Nat):l=l.take k++(l.drop k).take n++l.drop (k+n):=by
 rw[List.append_assoc,<-List.drop_drop,List.take_append_drop,List.take_append_drop]
theorem l64 {b c:Nat} {v:Int} (w:World) (h:w.cell? ⟨b,c,none⟩=some (iU v)):(Instr.loadAt 22 (.pointer (some ⟨b,c,none⟩))).run Tryz.prog w= .ok (iU v) w:=by go_simp
theorem s64 {b c:Nat} {v x:Int} (w:World) (h:w.cell? ⟨b,c,none⟩=some (iU v)) (hf:w.frozen? ⟨b,c,none⟩=false):(Instr.storeAt 22 (.pointer (some ⟨b,c,none⟩)) (iU x)).run Tryz.prog w= .ok () (w.setCell ⟨b,c,none⟩ (iU x)):=by go_simp
theorem fdR0 (b:Nat) (w:World):(Instr.fieldAt 191 (.pointer (some ⟨b,0,none⟩)) 0).run Tryz.prog w= .ok (.pointer (some ⟨b,0,none⟩)) w:=by go_simp
theorem fdR1 (b:Nat) (w:World):(Instr.fieldAt 191 (.pointer (some ⟨b,0,none⟩)) 1).run Tryz.prog w= .ok (.pointer (some ⟨b,8,none⟩)) w:=by go_simp
theorem fdR2 (b:Nat) (w:World):(Instr.fieldAt 191 (.pointer (some ⟨b,0,none⟩)) 2).run Tryz.prog w= .ok (.pointer (some ⟨b,72,none⟩)) w:=by go_simp
theorem slA (b k:Nat) (h:k<64) (w:World):(Instr.sliceAt 150 (.pointer (some ⟨b,8,none⟩)) (some (iU k)) none none).run Tryz.prog w= .ok (.slice (some ⟨b,8+k,none⟩) (64 -k) (64 -k)) w:=by
 have h1:(k:Int)<=64:=by omega
 have h3:k<=64:=by omega
 have h5: ¬64=k:=by omega
 have h6: ¬64 -k=0:=by omega
 simp[Instr.sliceAt,Instr.slice,go_sem,Tryz.underlying150,h1,h3,h5,h6]
 try omega
theorem Vh {l:List Nat}: ∀v∈U8 l,v.oneCell'=true:=fun v hv=>by
 obtain⟨x,_,rfl⟩:=List.mem_map.1 hv;rfl
theorem gtr_i (p q:Operand) (x y:Int) (b:Bool) (w:World) (h:decide (y<x)=b):(do eqGuard .gtr 3 p q (iI x) (iI y);binOp .gtr 3 (iI x) (iI y):Sem Value).run Tryz.prog w= .ok (.bool b) w:=by
 subst h;go_simp
theorem eql_u (T:TypeId) (p q:Operand) (x y:Int) (b:Bool) (w:World) (h:(x==y)=b):(do eqGuard .eql T p q (iU x) (iU y);binOp .eql T (iU x) (iU y):Sem Value).run Tryz.prog w= .ok (.bool b) w:=by
 subst h;go_simp
theorem cvi64 {o:Oper} {ev:Operand->Value} {x:Operand} {n:Nat} (u:World) (hn:n<1000000) (ho:o.op= .convert 3 22 x) (hx:ev x=iI (n:Int)):(execOp ev o).run Tryz.prog u= .ok (.value (iU (n:Int))) u:=by
 have e1:IntKind.u64.wrap (n:Int)=(n:Int):=by simp[IntKind.wrap,IntKind.signed,IntKind.bits];omega
 unfold execOp;rw[ho];simp only[hx];go_simp
theorem slC (gb go len cap n:Nat) (h:n<=len) (hc:len<=cap): ∃sl,(len -n=0\/sl=some ⟨gb,go+n,none⟩)/\ ∀w,(Instr.sliceAt 43 (.slice (some ⟨gb,go,none⟩) len cap) (some (iI n)) none none).run Tryz.prog w= .ok (.slice sl (len -n) (cap -n)) w:=by
 have h3:(n:Int)<=len:=by omega
 have h4:(len:Int)<=cap:=by omega
 have h5:n<=cap:=by omega
 by_cases e:cap=n
 ·refine⟨some ⟨gb,go,none⟩,.inl (by omega),fun w=>?_⟩
  simp[Instr.sliceAt,Instr.slice,go_sem,Tryz.underlying43,h,h3,h4,h5,hc,e]
 ·refine⟨some ⟨gb,go+n,none⟩,.inr rfl,fun w=>?_⟩
  simp[Instr.sliceAt,Instr.slice,go_sem,Tryz.underlying43,h,h3,h4,h5,hc,e]
def SB (w:World) (g o:Nat) (xs:List Nat):Prop:= ∀j,j<xs.length->w.cell? ⟨g,o+j,none⟩=some (.int .u8 ((xs.getD j 0:Nat):Int))
theorem SB.cells {w:World} {g o:Nat} {xs:List Nat} (h:SB w g o xs) (k n:Nat): ∀j v,(U8 ((xs.drop k).take n))[j]?=some v->w.cell? ((⟨g,o+k,none⟩:Addr).add j)=some v:=fun j v hj=>by
 have hl:j<((xs.drop k).take n).length:=by have:=(List.getElem?_eq_some_iff.1 hj).1;rwa [Z1] at this
 rw[Y2 _ j hl] at hj
 have hl2:k+j<xs.length:=by rw[List.length_take,List.length_drop] at hl;omega
 have e:(⟨g,o+k,none⟩:Addr).add j=⟨g,o+(k+j),none⟩:=by unfold Addr.add;split<;>simp_all<;>omega
 rw[e,h (k+j) hl2,<-hj]
 have hn:j<n:=by rw[List.length_take] at hl;omega
 simp[List.getElem?_take,hn,List.getElem?_drop]
theorem Vl:(Tryz.prog.info? 5).map (·.size)=some 1:=by kernel_rfl
end
end
end Go.Proofs.YtofcppgfaelloaaGreatDoor
