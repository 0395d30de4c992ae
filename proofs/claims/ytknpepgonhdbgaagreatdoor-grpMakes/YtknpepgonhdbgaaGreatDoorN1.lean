import Derived.Test.YtknpepgonhdbgaaGreatDoorM4
import Derived.Test.YtknpepgonhdbgaaGreatDoorD1
import Derived.Test.YtknpepgonhdbgaaGreatDoorSN
namespace Go.Proofs.YtknpepgonhdbgaaGreatDoor
set_option linter.unusedVariables false
set_option linter.unusedSimpArgs false
set_option maxRecDepth 100000
set_option maxHeartbeats 4000000
open Go.RowKit
def In(n:Int):Prop:=0<=n/\n<115792089237316195423570985008687907853269984665640564039457584007913129639936
def InW(n:Int):Prop:=0<=n/\n<115792089237316195423570985008687907853269984665640564039457584007913129639936*115792089237316195423570985008687907853269984665640564039457584007913129639936
def ovB(a b:Int):Bool:=decide (115792089237316195423570985008687907853269984665640564039457584007913129639936<=a+b)
def ltB(a b:Int):Bool:=decide (a<b)
theorem V_In{n:Int}(h:In n):V (D0 n) (D1 n) (D2 n) (D3 n)=n:=by rw[V_D];unfold In at h;omega
theorem V_InW{n:Int}(h:InW n):V (D0 n) (D1 n) (D2 n) (D3 n)+V (D0 (D4 n)) (D1 (D4 n)) (D2 (D4 n)) (D3 (D4 n))*115792089237316195423570985008687907853269984665640564039457584007913129639936=n:=by
 unfold InW at h;rw[V_D,V_D];unfold D4;omega
theorem In_V{a b c d:Int}(ha:W64 a)(hb:W64 b)(hc:W64 c)(hd:W64 d):In (V a b c d):=V_bd a b c d ha hb hc hd
theorem NV_V{a b c d:Int}(ha:W64 a)(hb:W64 b)(hc:W64 c)(hd:W64 d):NV (V a b c d)=A4 a b c d:=by
 obtain⟨h0,h1,h2,h3,_⟩:=D_of (V a b c d) a b c d 0 ha hb hc hd (by omega)
 rw[NV,h0,h1,h2,h3]
theorem In.wide{n:Int}(h:In n):InW n:=by unfold In at h;unfold InW;omega
theorem In_mul{a b:Int}(ha:In a)(hb:In b):InW (a*b):=by
 refine⟨Int.mul_nonneg ha.1 hb.1,?_⟩
 have k1:=Int.mul_le_mul_of_nonneg_right (a:=a) (b:=115792089237316195423570985008687907853269984665640564039457584007913129639936 -1) (by have:=ha.2;omega) hb.1
 have:=hb.2;omega
theorem Zs{n m:Int}(hm:In m)(h:m≠0):In (n%m):=by
 have h0:=hm.1
 exact⟨Int.emod_nonneg _ h,by have:=Int.emod_lt_of_pos n (show 0<m by omega);have:=hm.2;omega⟩
theorem WV_In{n:Int}(h:In n):WV n=A8 (D0 n) (D1 n) (D2 n) (D3 n) 0 0 0 0:=by
 have e:D4 n=0:=by unfold D4;unfold In at h;omega
 rw[WV,e];rfl
theorem nAdd(a b:Int)(w:World)(ha:In a)(hb:In b):CC 98 #[NV a,NV b] w (.tuple #[NV (a+b),.bool (ovB a b)]):=by
 have k:=Add_any _ _ _ _ _ _ _ _ w (W_D0 a) (W_D1 a) (W_D2 a) (W_D3 a) (W_D0 b) (W_D1 b) (W_D2 b) (W_D3 b)
 simp only[V_In ha,V_In hb] at k
 have e:(D4 (a+b)==1)=ovB a b:=by
  unfold In at ha hb;unfold ovB D4;rw[Bool.eq_iff_iff];simp;omega
 rw[e] at k
 exact k
theorem nSub(a b:Int)(w:World)(ha:In a)(hb:In b):CC 101 #[NV a,NV b] w (.tuple #[NV (a -b),.bool (ltB a b)]):=by
 have k:=Sub_any _ _ _ _ _ _ _ _ w (W_D0 a) (W_D1 a) (W_D2 a) (W_D3 a) (W_D0 b) (W_D1 b) (W_D2 b) (W_D3 b)
 simp only[V_In ha,V_In hb] at k
 have e:(-D4 (a -b)==1)=ltB a b:=by
  unfold In at ha hb;unfold ltB D4;rw[Bool.eq_iff_iff];simp;omega
 rw[e] at k
 exact k
theorem nMul(a b:Int)(w:World)(ha:In a)(hb:In b):CC 100 #[NV a,NV b] w (WV (a*b)):=by
 have k:=Mul_any _ _ _ _ _ _ _ _ w (W_D0 a) (W_D1 a) (W_D2 a) (W_D3 a) (W_D0 b) (W_D1 b) (W_D2 b) (W_D3 b)
 simp only[V_In ha,V_In hb] at k
 exact k
theorem Ui(n m:Int)(w:World)(hn:InW n)(hm:In m)(h:m≠0):CC 72 #[WV n,NV m] w (.tuple #[WV (n/m),NV (n%m),.int .i64 0]):=by
 have k:=Divide_1 _ _ _ _ _ _ _ _ _ _ _ _ w (W_D0 n) (W_D1 n) (W_D2 n) (W_D3 n) (W_D0 (D4 n)) (W_D1 (D4 n)) (W_D2 (D4 n)) (W_D3 (D4 n)) (W_D0 m) (W_D1 m) (W_D2 m) (W_D3 m) (by rw[V_In hm];exact h)
 simp only[V_In hm,V_InW hn] at k
 exact k
theorem Xr(n:Int)(w:World)(hn:In n):CC 62 #[NV n] w (WV n):=by
 rw[WV_In hn];exact Widen_any _ _ _ _ w
theorem NV_small{k:Int}(h0:0<=k)(h1:k<18446744073709551616):NV k=A4 k 0 0 0:=by
 have e0:D0 k=k:=by unfold D0;omega
 have e1:D1 k=0:=by unfold D1;omega
 have e2:D2 k=0:=by unfold D2;omega
 have e3:D3 k=0:=by unfold D3;omega
 rw[NV,e0,e1,e2,e3]
theorem nOf(k:Int)(w:World)(h0:0<=k)(h1:k<18446744073709551616):CC 55 #[.int .u64 k] w (NV k):=by
 rw[NV_small h0 h1];exact of_any k w
theorem getD_app1{a b:List Nat}{j:Nat}(h:j<a.length):(a++b).getD j 0=a.getD j 0:=by
 rw[List.getD_eq_getElem?_getD,List.getD_eq_getElem?_getD,List.getElem?_append_left h]
theorem getD_app2{a b:List Nat}{j:Nat}(h:a.length<=j):(a++b).getD j 0=b.getD (j -a.length) 0:=by
 rw[List.getD_eq_getElem?_getD,List.getD_eq_getElem?_getD,List.getElem?_append_right h]
def msk(x:Nat)(l:List Nat):List Nat:=l.map (· ^^^x)
def mkL(x:Nat)(l:List Nat):Nat->List Nat
 | 0=>l
 | i+1=>(mkL x l i).set i ((mkL x l i).getD i 0^^^x)
theorem mkL_is(x:Nat)(l:List Nat): ∀i,i<=l.length->mkL x l i=(l.take i).map (· ^^^x)++l.drop i
 | 0,_=>by simp[mkL]
 | i+1,h=>by
  have hi:i<l.length:=by omega
  have e1:((l.take i).map (· ^^^x)).length=i:=by rw[List.length_map,List.length_take];omega
  rw[mkL,mkL_is x l i (by omega)]
  have e2:l.drop i=l[i]::l.drop (i+1):=List.drop_eq_getElem_cons hi
  rw[e2,List.take_succ_eq_append_getElem hi,List.map_append,List.append_assoc]
  rw[getD_app2 (by omega),List.set_append_right _ _ (by omega),e1,Nat.sub_self]
  rfl
theorem mkL_all(x:Nat)(l:List Nat):mkL x l l.length=msk x l:=by
 rw[mkL_is x l _ (Nat.le_refl _)];simp[msk]
theorem xor_lt8{a b:Nat}(ha:a<256)(hb:b<256):a^^^b<256:=Nat.xor_lt_two_pow (n:=8) ha hb
theorem mkL_B{x n:Nat}{l:List Nat}(h:BB n l)(hx:x<256): ∀i,BB n (mkL x l i)
 | 0=>h
 | i+1=>(mkL_B h hx i).set _ _ (xor_lt8 ((mkL_B h hx i).lt i) hx)
theorem msk_B{x n:Nat}{l:List Nat}(h:BB n l)(hx:x<256):BB n (msk x l):=by
 rw[<-mkL_all];exact mkL_B h hx _
def whk(ks:List Nat):List Nat:=if 64<ks.length then dig ks else ks
def whl(ks:List Nat):List Nat:=whk ks++List.replicate (64 -(whk ks).length) 0
theorem whk_len(ks:List Nat):(whk ks).length<=64:=by
 unfold whk;split
 ·rw[(dig_B ks).len];decide
 ·omega
theorem app_B{n m:Nat}{a b:List Nat}(ha:BB n a)(hb:BB m b):BB (n+m) (a++b):=⟨by rw[List.length_append,ha.len,hb.len],fun j=>by
 by_cases h:j<a.length
 ·rw[getD_app1 h];exact ha.lt j
 ·rw[getD_app2 (by omega)];exact hb.lt _⟩
theorem BB_of{l:List Nat}(h: ∀x∈l,x<256):BB l.length l:=⟨rfl,by_getD h⟩
theorem whk_m{ks:List Nat}(h: ∀x∈ks,x<256): ∀x∈whk ks,x<256:=by
 unfold whk;split
 ·exact(dig_B ks).mem
 ·exact h
theorem whl_B{ks:List Nat}(h: ∀x∈ks,x<256):BB 64 (whl ks):=by
 have:=app_B (BB_of (whk_m h)) (BB_rep (64 -(whk ks).length))
 rwa [show (whk ks).length+(64 -(whk ks).length)=64 by have:=whk_len ks;omega] at this
def hm(k xs:List Nat):List Nat:=dig (msk 92 k++dig (msk 54 k++xs))
theorem hm_B(k xs:List Nat):BB 32 (hm k xs):=dig_B _
theorem wraps_u8(n:Int)(h0:0<=n)(h1:n<2^8):IntKind.u8.wrap n=n:=by simp[IntKind.wrap,IntKind.signed,IntKind.bits];omega
theorem bit_xor8(a b:Nat)(ha:a<256)(hb:b<256):bits .xor .u8 a b=((a^^^b:Nat):Int):=by
 have ha':a%2^8=a:=Nat.mod_eq_of_lt ha
 have hb':b%2^8=b:=Nat.mod_eq_of_lt hb
 have h:(BitVec.ofNat 8 a^^^BitVec.ofNat 8 b).toNat=a^^^b:=by rw[BitVec.toNat_xor,BitVec.toNat_ofNat,BitVec.toNat_ofNat,ha',hb']
 show IntKind.u8.wrap ((BitVec.ofInt 8 (a:Int)^^^BitVec.ofInt 8 (b:Int)).toNat:Int)=_
 rw[BitVec.ofInt_natCast,BitVec.ofInt_natCast,h]
 exact wraps_u8 _ (Int.natCast_nonneg _) (by exact_mod_cast xor_lt8 ha hb)
theorem xor8(p q:Operand)(a b:Nat)(w:World)(ha:a<256)(hb:b<256):(do eqGuard .xor 5 p q (.int .u8 a) (.int .u8 b);binOp .xor 5 (.int .u8 a) (.int .u8 b):Sem Value).run Tryz.prog w= .ok (.int .u8 ((a^^^b:Nat):Int)) w:=by
 rw[<-bit_xor8 a b ha hb];go_simp
def PQ(lo:Nat)(ps:List (List Nat))(u:World)(y:Value):Prop:= ∃b cap,y= .slice (some ⟨b,0,none⟩) ps.length cap/\lo<=b/\b<u.heap.size/\PL u b 0 ps
theorem PL.below{u v:World}{b o:Nat}{ps:List (List Nat)}(h:PL u b o ps)(hb:b<u.heap.size)(hB:Bw u v):PL v b o ps:=fun i p hp=>by
 obtain⟨x,h1,h2⟩:=h i p hp
 exact⟨x,(hB.cell (p:=⟨b,o+i,none⟩) hb).trans h1,(h2.below hB).mono hB.size⟩
theorem PQ.stab{lo:Nat}{ps:List (List Nat)}{u v:World}{x:Value}(hB:Bw u v)(h:PQ lo ps u x):PQ lo ps v x:=by
 obtain⟨b,cap,e,h1,h2,h3⟩:=h
 exact⟨b,cap,e,h1,Nat.lt_of_lt_of_le h2 hB.size,h3.below h2 hB⟩
theorem PF_in{lo:Nat}{xs:List Nat}{u:World}{y:Value}(h:PF lo xs.length (U8 xs) u y):IN u u.heap.size y xs:=by
 obtain⟨b,rfl,_,h2,h4⟩:=h
 refine⟨_,_,b,0,rfl,Nat.le_refl _,.inr rfl,h2,fun j hj=>?_⟩
 rw[Nat.zero_add];exact(h4 j _ (Zx xs j hj)).1
theorem sl64(b:Nat)(w:World):(Instr.sliceAt 160 (.pointer (some ⟨b,0,none⟩)) none none none).run Tryz.prog w= .ok (.slice (some ⟨b,0,none⟩) 64 64) w:=by
 simp[Instr.sliceAt,Instr.slice,go_sem,Tryz.underlying160]
theorem sl32(b:Nat)(w:World):(Instr.sliceAt 133 (.pointer (some ⟨b,0,none⟩)) none none none).run Tryz.prog w= .ok (.slice (some ⟨b,0,none⟩) 32 32) w:=by
 simp[Instr.sliceAt,Instr.slice,go_sem,Tryz.underlying133]
theorem Vt:EnT 155:=fun _ _=>by kernel_rfl
theorem eql_it(p q:Operand)(x y:Int)(b:Bool)(w:World)(h:decide (x=y)=b):(do eqGuard .eql 3 p q (.int .i64 x) (.int .i64 y);binOp .eql 3 (.int .i64 x) (.int .i64 y):Sem Value).run Tryz.prog w= .ok (.bool b) w:=by
 subst h;go_simp
 first | done | (by_cases e:x=y<;>simp[e])
theorem cMasked_core(ks:List Nat)(x:Nat)(mL:Nat->List Nat)(w:World)(hx:x<256)(h0:Hid (mL 0=ks))(hs:Hid (∀i,mL (i+1)=(mL i).set i ((mL i).getD i 0^^^x)))(hB:Hid (∀i,BB 64 (mL i))):
 Calls Tryz.prog 155 #[.agg (U8 ks).toArray,.int .u8 ((x:Nat):Int)] w fun e w'=> ∃v,e= .returned v/\PF w.heap.size 64 (U8 (mL 64)) w' v/\Bw w w':=by
 go_enter Tryz.func155,Tryz.ntmps155
 go_upto_region 1 with fail
 generalize hC:(w.alloc (.cells (U8 ks:List Value).toArray 160))=v0 at *
 have HB0:Bw w v0:=by rw[<-hC];exact Z0 (Z5 w) _
 have K0:Bk w.heap.size v0 [(true,w.heap.size,U8 ks)]:=by rw[<-hC];exact(Bk.nil _ w).ad
 clear hC
 refine rgP K0 HB0 HB0.size [] [] [(0,6,(Go.Value.int Go.IntKind.i64 0))] [] [] [] ?_ ?_
 ·exact oc g_mv on
 intro u1 HB1 sz1 K1
 simp only[sQ] at K1⊢
 clear K0 HB0
 go_wp2_with fail
 go_loopw [6] (fun s6 wr=> ∃(i:Nat),i<=64/\s6= .int .i64 (i:Int)/\Bw w wr/\Hid (CV wr w.heap.size (U8 (mL i)))/\w.heap.size<wr.heap.size) (fun s6 _=>64 -(intOf s6).toNat)
 case atStart=>exact⟨0,by omega,rfl,HB1,(by rw[h0.out];exact(K1.cv 0)),(K1.lt 0)⟩
 case round=>
  obtain⟨i,hi,rfl,HBr,Kt,lt⟩:=hrel
  clear HB1
  by_cases hj:i<64
  ·have hl1:decide ((i:Int)<64)=true:=by simp;omega
   have hS:=hs.out i
   have hB64:=hB.out i
   have hlen:=hB64.len
   have hlt:=hB64.lt i
   obtain⟨ts,ets⟩: ∃ts,mL i=ts:=⟨_,rfl⟩
   rw[ets] at hS hlen hlt Kt
   have gi:=Zx ts i (by omega)
   obtain⟨y,ey⟩: ∃y,ts.getD i 0=y:=⟨_,rfl⟩
   rw[ey] at gi hS hlt
   have hS:Hid _:=hS
   clear ets ey hB64
   have K1_1:Bk w.heap.size wr [(true,w.heap.size,U8 ts)]:=⟨.o lt (K1.lo 0) Kt.out<|trivial,by simp⟩
   go_upto_region 2 with fail
   refine rgP K1_1 HBr HBr.size [] [] [(0,7,.bool true)] [] [] [] ?_ ?_
   ·exact oc (g_bn (fun uZ=>Zo _ _ (i:Int) 64 _ uZ hl1)) on
   intro u2 HB2 sz2 K2
   simp only[sQ] at K2⊢
   go_upto_region 3 with fail
   refine rgP K2 HB2 HB2.size [] [] [(0,8,.int .i64 (i:Int)),(1,5,.int .i64 (i:Int))] [] [] [] ?_ ?_
   ·exact oc g_mv<|oc g_as on
   intro u3 HB3 sz3 K3
   simp only[sQ] at K3⊢
   clear K2 HB2
   go_upto_region 4 with fail
   refine rgP K3 HB3 HB3.size [.all 6 (U8 (ts.set i (y^^^x)))] [] [(0,9,.int .i64 (i:Int)),(1,10,.pointer (some ⟨w.heap.size,i,none⟩)),(2,11,.int .u8 ((y:Nat):Int)),(3,12,.int .u8 ((x:Nat):Int)),(4,13,.int .u8 ((y^^^x:Nat):Int)),(5,14,.pointer (some ⟨w.heap.size,i,none⟩))] [(6,2)] [] [] ?_ ?_
   ·exact oc g_mv<|oc (g_ix (fun uZ=>x64b w.heap.size i uZ hj))<|oc (g_lw 0 i l8 gi)<|oc g_mv<|oc (g_bn (fun uZ=>xor8 _ _ y x uZ hlt hx))<|oc (g_ix (fun uZ=>x64b w.heap.size i uZ hj))<|oc (g_sw 0 i s8 gi (Wh _ _ _)) on
   intro u4 HB4 sz4 K4
   simp only[sQ] at K4⊢
   clear K3 HB3
   go_upto_region 5 with fail
   refine rgP K4 HB4 HB4.size [] [] [(0,15,.int .i64 ((i+1:Nat):Int)),(1,6,.int .i64 ((i+1:Nat):Int))] [(1,0)] [(1,6)] [] ?_ ?_
   ·exact oc (g_bn (fun uZ=>Yq _ _ (i:Int) 1 ((i+1:Nat):Int) uZ (by omega) (by omega) (by omega)))<|oc g_mv on
   intro u5 HB5 sz5 K5
   simp only[sQ] at K5⊢
   clear K4 HB4
   go_wp2
   refine⟨⟨i+1,by omega,rfl,HB5,(by rw[hS.out];exact(K5.cv 0)),(K5.lt 0)⟩,?_⟩
   simp[intOf]<;>omega
  ·have hl1:decide ((i:Int)<64)=false:=by simp;omega
   have hin:i=64:=by omega
   subst hin
   have K1_1:Bk w.heap.size wr [(false,w.heap.size,U8 (mL 64))]:=⟨.c lt Kt.out<|trivial,by simp⟩
   go_upto_region 2 with fail
   refine rgP K1_1 HBr HBr.size [] [] [(0,7,.bool false)] [] [] [] ?_ ?_
   ·exact oc (g_bn (fun uZ=>Zo _ _ ((64:Nat):Int) 64 _ uZ hl1)) on
   intro u2 HB2 sz2 K2
   simp only[sQ] at K2⊢
   go_upto_region 6 with fail
   refine rgP K2 HB2 HB2.size [] [] [(0,16,.slice (some ⟨w.heap.size,0,none⟩) 64 64),(1,4,.slice (some ⟨w.heap.size,0,none⟩) 64 64)] [] [] [] ?_ ?_
   ·exact oc (g_sl (fun uZ=>sl64 w.heap.size uZ))<|oc g_as on
   intro u3 HB3 sz3 K3
   simp only[sQ] at K3⊢
   clear K2 HB2
   go_wp2
   refine bodyPost_ret (v:= .slice (some ⟨w.heap.size,0,none⟩) 64 64) (by simp[results,Tryz.results155,go_sem]) rfl ⟨_,rfl,⟨w.heap.size,rfl,Nat.le_refl _,(K3.lt 0),(K3.cv 0)⟩,HB3⟩
theorem cMasked(ks:List Nat)(x:Nat)(w:World)(hk:BB 64 ks)(hx:x<256):
 Calls Tryz.prog 155 #[.agg (U8 ks).toArray,.int .u8 ((x:Nat):Int)] w fun e w'=> ∃v,e= .returned v/\PF w.heap.size 64 (U8 (msk x ks)) w' v/\Bw w w':=by
 have h:=cMasked_core ks x (mkL x ks) w hx rfl (fun _=>rfl) (mkL_B hk hx)
 have e:=mkL_all x ks
 rw[hk.len] at e
 rwa [e] at h
abbrev Z64b:List Value:=[.int .u8 0,.int .u8 0,.int .u8 0,.int .u8 0,.int .u8 0,.int .u8 0,.int .u8 0,.int .u8 0,.int .u8 0,.int .u8 0,.int .u8 0,.int .u8 0,.int .u8 0,.int .u8 0,.int .u8 0,.int .u8 0,.int .u8 0,.int .u8 0,.int .u8 0,.int .u8 0,.int .u8 0,.int .u8 0,.int .u8 0,.int .u8 0,.int .u8 0,.int .u8 0,.int .u8 0,.int .u8 0,.int .u8 0,.int .u8 0,.int .u8 0,.int .u8 0,.int .u8 0,.int .u8 0,.int .u8 0,.int .u8 0,.int .u8 0,.int .u8 0,.int .u8 0,.int .u8 0,.int .u8 0,.int .u8 0,.int .u8 0,.int .u8 0,.int .u8 0,.int .u8 0,.int .u8 0,.int .u8 0,.int .u8 0,.int .u8 0,.int .u8 0,.int .u8 0,.int .u8 0,.int .u8 0,.int .u8 0,.int .u8 0,.int .u8 0,.int .u8 0,.int .u8 0,.int .u8 0,.int .u8 0,.int .u8 0,.int .u8 0,.int .u8 0]
theorem Ua:EnT 130:=fun _ _=>by kernel_rfl
theorem V9:EnT 142:=fun _ _=>by kernel_rfl
theorem ent_mac_Sum:EnT 128:=fun _ _=>by kernel_rfl
theorem rep64(n:Nat)(h:n<=64):U8 z64=RBm [] (U8 (List.replicate n 0)) (U8 (List.replicate (64 -n) 0)):=by
 show U8 (List.replicate 64 0)=[]++U8 (List.replicate n 0)++U8 (List.replicate (64 -n) 0)
 rw[List.nil_append,<-W2,List.replicate_append_replicate,show n+(64 -n)=64 by omega]
theorem rbm_app(ks es:List Nat):RBm [] (U8 ks) (U8 es)=U8 (ks++es):=by
 show []++U8 ks++U8 es=_
 rw[List.nil_append,W2]
theorem cWhole_n(w:World):
 CC 130 #[(.slice none 0 0)] w (.agg (U8 z64).toArray):=by
 go_enter Tryz.func130,Tryz.ntmps130
 go_upto_region 1 with fail
 generalize hC:(w.alloc (.cells (Z64b:List Value).toArray 160))=v0 at *
 have HB0:Bw w v0:=by rw[<-hC];exact Z0 (Z5 w) _
 have K0:Bk w.heap.size v0 [(true,w.heap.size,U8 z64)]:=by rw[<-hC];exact(Bk.nil _ w).ad
 clear hC
 refine rgP K0 HB0 HB0.size [] [(0,3,U8 z64,none)] [] [] [] [] ?_ ?_
 ·exact oc (g_al 0 W1) on
 intro u1 b1_0 HB1 sz1 K1
 simp only[sQ] at K1⊢
 clear K0 HB0
 have hl1:decide ((64:Int)<((0:Nat):Int))=false:=by simp;try omega
 go_upto_region 2 with fail
 refine rgP K1 HB1 HB1.size [] [] [(0,6,(.slice none 0 0)),(1,7,.int .i64 ((0:Nat):Int)),(2,8,.bool false),(3,5,.bool false)] [] [] [] ?_ ?_
 ·exact oc g_mv<|oc (g_ln Tryz.underlying36)<|oc (g_bn (fun uZ=>gtr_i _ _ ((0:Nat):Int) 64 _ uZ hl1))<|oc g_as on
 intro u2 HB2 sz2 K2
 simp only[sQ] at K2⊢
 clear K1 HB1
 go_upto_region 5 with fail
 refine rgP K2 HB2 HB2.size [] [] [(0,12,.slice (some ⟨b1_0,0,none⟩) 64 64),(1,13,(.slice none 0 0)),(2,14,.int .i64 0)] [] [] [] ?_ ?_
 ·exact oc (g_sl (fun uZ=>sl64 b1_0 uZ))<|oc g_mv<|oc (g_cp0 (fun u=>cpN b1_0 64 _ u)) on
 intro u3 HB3 sz3 K3
 simp only[sQ] at K3⊢
 clear K2 HB2
 go_upto_region 6 with fail
 refine rgP K3 HB3 HB3.size [.all 1 (U8 z64)] [] [(0,15,.agg (U8 z64).toArray)] [] [] [true,false] ?_ ?_
 ·exact oc (g_lR 1 0 (cs:=U8 z64) (fun j v h=>by rw[Nat.zero_add];exact h) Tryz.underlying160 (by rw[Z2,(show z64.length=64 from rfl)];exact Z7))<|oc (g_st 0 Z7 (h1:=Yo _) (hm:=by rw[Z2,(show z64.length=64 from rfl)]) (hl:=by first | rw[Z2,Z2,(show z64.length=64 from rfl),show z64.length=64 from rfl] | rfl)) on
 intro u4 HB4 sz4 K4
 simp only[sQ] at K4⊢
 clear K3 HB3
 go_wp2
 refine bodyPost_ret (Zz Tryz.results130 rfl (K4.cv 0) Tryz.underlying160 rfl (by rw[Z2,(show z64.length=64 from rfl)];exact Z7)) rfl ⟨rfl,HB4⟩
theorem cWhole_s(n cap:Nat)(ad:Addr)(bs:List Nat)(w:World)(hn:n<=64)(hbs:bs.length=n)(hmin:Hid (n=Nat.min n 64))(hsrc:Hid (∀u,Bw w u-> ∀j v,(U8 bs)[j]?=some v->u.cell? (ad.add j)=some v)):
 CC 130 #[(.slice (some ad) n cap)] w (.agg (U8 (bs++List.replicate (64 -n) 0)).toArray):=by
 go_enter Tryz.func130,Tryz.ntmps130
 go_upto_region 1 with fail
 generalize hC:(w.alloc (.cells (Z64b:List Value).toArray 160))=v0 at *
 have HB0:Bw w v0:=by rw[<-hC];exact Z0 (Z5 w) _
 have K0:Bk w.heap.size v0 [(true,w.heap.size,U8 z64)]:=by rw[<-hC];exact(Bk.nil _ w).ad
 clear hC
 refine rgP K0 HB0 HB0.size [] [(0,3,U8 z64,none)] [] [] [] [] ?_ ?_
 ·exact oc (g_al 0 W1) on
 intro u1 b1_0 HB1 sz1 K1
 simp only[sQ] at K1⊢
 clear K0 HB0
 have hl1:decide ((64:Int)<((n:Nat):Int))=false:=by simp;try omega
 go_upto_region 2 with fail
 refine rgP K1 HB1 HB1.size [] [] [(0,6,(.slice (some ad) n cap)),(1,7,.int .i64 ((n:Nat):Int)),(2,8,.bool false),(3,5,.bool false)] [] [] [] ?_ ?_
 ·exact oc g_mv<|oc (g_ln Tryz.underlying36)<|oc (g_bn (fun uZ=>gtr_i _ _ ((n:Nat):Int) 64 _ uZ hl1))<|oc g_as on
 intro u2 HB2 sz2 K2
 simp only[sQ] at K2⊢
 clear K1 HB1
 rw[rep64 n (by omega)] at K2
 go_upto_region 5 with fail
 refine rgP K2 HB2 HB2.size [.no,.all 2 (RBm ([]) (U8 bs) (U8 (List.replicate (64 -n) 0)))] [] [(0,12,.slice (some ⟨b1_0,0,none⟩) 64 64),(1,13,(.slice (some ad) n cap)),(2,14,.int .i64 ((n:Nat):Int))] [] [] [] ?_ ?_
 ·exact oc (g_sl (fun uZ=>sl64 b1_0 uZ))<|oc g_mv<|oc (g_cp 1 (sl:=n) (dl:=64) [] (U8 (List.replicate n 0)) (U8 (List.replicate (64 -n) 0)) (U8 bs) Tryz.underlying36 Vm (by rw[Z2,hbs];exact hmin.out) (fun f u kZ bZ=>hsrc.out u bZ) Vg rfl (by rw[Z2,Z2,hbs,List.length_replicate]) (hv:=by rw[Z2,hbs];rfl)) on
 intro u3 HB3 sz3 K3
 simp only[sQ] at K3⊢
 clear K2 HB2
 rw[<-rep64 n (by omega),rbm_app] at K3
 have hfl:(bs++List.replicate (64 -n) 0).length=64:=by rw[List.length_append,List.length_replicate,hbs]<;>try omega
 go_upto_region 6 with fail
 refine rgP K3 HB3 HB3.size [.all 1 (U8 (bs++List.replicate (64 -n) 0))] [] [(0,15,.agg (U8 (bs++List.replicate (64 -n) 0)).toArray)] [] [] [true,false] ?_ ?_
 ·exact oc (g_lR 1 0 (cs:=U8 (bs++List.replicate (64 -n) 0)) (fun j v h=>by rw[Nat.zero_add];exact h) Tryz.underlying160 (by rw[Z2,hfl];exact Z7))<|oc (g_st 0 Z7 (h1:=Yo _) (hm:=by rw[Z2,hfl]) (hl:=by first | rw[Z2,Z2,hfl,show z64.length=64 from rfl] | rfl)) on
 intro u4 HB4 sz4 K4
 simp only[sQ] at K4⊢
 clear K3 HB3
 go_wp2
 refine bodyPost_ret (Zz Tryz.results130 rfl (K4.cv 0) Tryz.underlying160 rfl (by rw[Z2,hfl];exact Z7)) rfl ⟨rfl,HB4⟩
theorem cWhole_b(n cap:Nat)(sl:Option Addr)(ds:List Nat)(w:World)(hn:64<n)(hds:ds.length=32)(hSu:Hid (∀(u:World),Bw w u->CC 143 #[.slice sl n cap] u (.agg (U8 ds).toArray))):
 CC 130 #[(.slice sl n cap)] w (.agg (U8 (ds++List.replicate (64 -32) 0)).toArray):=by
 go_enter Tryz.func130,Tryz.ntmps130
 go_upto_region 1 with fail
 generalize hC:(w.alloc (.cells (Z64b:List Value).toArray 160))=v0 at *
 have HB0:Bw w v0:=by rw[<-hC];exact Z0 (Z5 w) _
 have K0:Bk w.heap.size v0 [(true,w.heap.size,U8 z64)]:=by rw[<-hC];exact(Bk.nil _ w).ad
 clear hC
 refine rgP K0 HB0 HB0.size [] [(0,3,U8 z64,none)] [] [] [] [] ?_ ?_
 ·exact oc (g_al 0 W1) on
 intro u1 b1_0 HB1 sz1 K1
 simp only[sQ] at K1⊢
 clear K0 HB0
 have hl1:decide ((64:Int)<((n:Nat):Int))=true:=by simp;omega
 go_upto_region 2 with fail
 refine rgP K1 HB1 HB1.size [] [] [(0,6,(.slice sl n cap)),(1,7,.int .i64 ((n:Nat):Int)),(2,8,.bool true),(3,5,.bool true)] [] [] [] ?_ ?_
 ·exact oc g_mv<|oc (g_ln Tryz.underlying36)<|oc (g_bn (fun uZ=>gtr_i _ _ ((n:Nat):Int) 64 _ uZ hl1))<|oc g_as on
 intro u2 HB2 sz2 K2
 simp only[sQ] at K2⊢
 clear K1 HB1
 go_upto_region 3 with fail
 refine rgP K2 HB2 HB2.size [] [(2,4,U8 z32,some (3,U8 ds))] [(0,9,(.slice sl n cap)),(1,10,.agg (U8 ds).toArray)] [(3,2)] [] [] ?_ ?_
 ·exact oc g_mv<|oc (g_cb ent_sha_Sum (fun uZ bZ=>hSu.out uZ bZ))<|oc (g_al 0 Ye)<|oc (g_sn 0 Z3 (h1:=Yo _) (hm:=by rw[Z2,hds]) (hl:=by first | rw[Z2,Z2,hds,show z32.length=32 from rfl] | rfl)) on
 intro u3 b3_2 HB3 sz3 K3
 simp only[sQ] at K3⊢
 clear K2 HB2
 go_upto_region 4 with fail
 refine rgP K3 HB3 HB3.size [] [] [(0,11,.slice (some ⟨b3_2,0,none⟩) 32 32),(1,0,.slice (some ⟨b3_2,0,none⟩) 32 32)] [] [] [] ?_ ?_
 ·exact oc (g_sl (fun uZ=>sl32 b3_2 uZ))<|oc g_as on
 intro u4 HB4 sz4 K4
 simp only[sQ] at K4⊢
 clear K3 HB3
 rw[rep64 32 (by omega)] at K4
 go_upto_region 5 with fail
 refine rgP K4 HB4 HB4.size [.no,.all 2 (RBm ([]) (U8 ds) (U8 (List.replicate (64 -32) 0)))] [] [(0,12,.slice (some ⟨b1_0,0,none⟩) 64 64),(1,13,.slice (some ⟨b3_2,0,none⟩) 32 32),(2,14,.int .i64 ((32:Nat):Int))] [] [] [true,true,false] ?_ ?_
 ·exact oc (g_sl (fun uZ=>sl64 b1_0 uZ))<|oc g_mv<|oc (g_cp 1 (sl:=32) (dl:=64) [] (U8 (List.replicate 32 0)) (U8 (List.replicate (64 -32) 0)) (U8 ds) Tryz.underlying36 Vm (by rw[Z2,hds];exact rfl) (fun f u kZ bZ=>CV.src (kZ.cv 2)) Vg rfl (by rw[Z2,Z2,hds,List.length_replicate]) (hv:=by rw[Z2,hds];rfl)) on
 intro u5 HB5 sz5 K5
 simp only[sQ] at K5⊢
 clear K4 HB4
 rw[<-rep64 32 (by omega),rbm_app] at K5
 have hfl:(ds++List.replicate (64 -32) 0).length=64:=by rw[List.length_append,List.length_replicate,hds]<;>try omega
 go_upto_region 6 with fail
 refine rgP K5 HB5 HB5.size [.all 1 (U8 (ds++List.replicate (64 -32) 0))] [] [(0,15,.agg (U8 (ds++List.replicate (64 -32) 0)).toArray)] [] [] [true,false] ?_ ?_
 ·exact oc (g_lR 1 0 (cs:=U8 (ds++List.replicate (64 -32) 0)) (fun j v h=>by rw[Nat.zero_add];exact h) Tryz.underlying160 (by rw[Z2,hfl];exact Z7))<|oc (g_st 0 Z7 (h1:=Yo _) (hm:=by rw[Z2,hfl]) (hl:=by first | rw[Z2,Z2,hfl,show z64.length=64 from rfl] | rfl)) on
 intro u6 HB6 sz6 K6
 simp only[sQ] at K6⊢
 clear K5 HB5
 go_wp2
 refine bodyPost_ret (Zz Tryz.results130 rfl (K6.cv 0) Tryz.underlying160 rfl (by rw[Z2,hfl];exact Z7)) rfl ⟨rfl,HB6⟩
theorem cWhole(ks:List Nat)(v:Value)(w:World)(hV:GV w)(hin:IN w w.heap.size v ks)(hsn: ∀n c,v= .slice none n c->c=0)(hx: ∀x∈ks,x<256)(hl:ks.length<=10000):
 CC 130 #[v] w (.agg (U8 (whl ks)).toArray):=by
 have hin0:=hin
 obtain⟨sl,cap,gb,go,rfl,h1,h2,h3,h4⟩:=hin
 by_cases hb:64<ks.length
 ·have h:=cWhole_b ks.length cap sl (dig ks) w hb (dig_B ks).len (fun u hB=>cSum ks _ u (hV.below hB hV.sz) ((hin0.below hB).mono hB.size) hx hl)
  unfold whl whk
  rw[if_pos hb,(dig_B ks).len]
  exact h
 ·unfold whl whk
  rw[if_neg hb]
  cases sl with
  | none=>
   have hc:=hsn _ _ rfl
   have h0:ks.length=0:=by omega
   have hx:ks=[]:=List.length_eq_zero_iff.1 h0
   subst hx hc
   exact cWhole_n w
  | some ad=>
   exact cWhole_s ks.length cap ad ks w (by omega) rfl (by show _=min _ _;omega) (fun u hB j v hj=>by
    rcases h2 with h0 | h0
    ·have:=(List.getElem?_eq_some_iff.1 hj).1;rw[Z2] at this;omega
    ·cases h0
     have hj':j<ks.length:=by have:=(List.getElem?_eq_some_iff.1 hj).1;rwa [Z2] at this
     rw[Addr.add_lit,h4.below hB h3 j hj',<-hj]
     exact(Zx ks j hj').symm)
end Go.Proofs.YtknpepgonhdbgaaGreatDoor
