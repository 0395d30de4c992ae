import Derived.Test.YtoffgfhilkpdpaaGreatDoorRP2
import Derived.Test.YtoffgfhilkpdpaaGreatDoorMP0
namespace Go.Proofs.YtoffgfhilkpdpaaGreatDoor
set_option linter.unusedVariables false
set_option linter.unusedSimpArgs false
set_option maxRecDepth 100000
set_option maxHeartbeats 4000000
open Go.RowKit
theorem Yy:EnT 167:=fun _ _=>by kernel_rfl
theorem X6:EnT 162:=fun _ _=>by kernel_rfl
section
variable {R:Rg} {P:Program} {ops:Array Oper} {Q:Exit->Act->World->Prop} {f:Nat->Bool} {t:Nat->Value} {u:World} {a:Act} {i:Nat} {o:Oper}
theorem g_a1K(m n:Nat)(p p':World->Value->Prop){T:TypeId}{j d:Nat}{x:Operand}{vx:Value}(hp: ∀(f:Nat->Bool) (u:World) (vs:Value),KC f u R.lo R.base R.es->Below R.lo R.w u->R.base<=u.heap.size->p u vs-> ∃v u',(Builtin.append_ #[T,T] o.type #[vs,vx]).run P u= .ok v u'/\Bw u u'/\p' u' v)(hop:o.op= .call {callee:= .builtin .append,args:=[.tmp d,x].toArray,argTypes:=[T,T].toArray}:=by rfl)(hm:R.E[m]?=some ⟨j,d,some i,p⟩:=by rfl)(hn0:(R.E[n]?).map (·.p)=some p':=by rfl)(hx:evR R i o x=some vx:=by rfl)
 (hd:(Zs o j&&R.S.contains d)=true:=by rfl)(hc:R.chkE ops n i o=true:=by rfl):OG R P ops Q i o:=fun f t u a X=>by
 rw[Bool.and_eq_true,List.contains_iff_mem] at hd
 obtain⟨h2,h4⟩:=hd
 obtain⟨d',q',hd',hq',_,_,_,_,_,_,_,_,hw⟩:=Zm hc
 have hv:p u (t d):=X.val hm h2 rfl
 obtain⟨v,u',hr,hB,hn⟩:=hp f u (t d) X.I.2.1 X.I.1.bel X.I.1.sz hv
 exact X.go hw fun K hK=>Vn hop (X.inS h4) (X.ev hx) hr (hK _ _ (X.putE hc (fun q hq=>by rw[hq] at hn0;cases hn0;exact hn) hB))
end
theorem app_PF{lo:Nat}{xs ys:List Nat}{y:Value}{ty:TypeId}{u:World}{vs:Value}(hlo:lo<=u.heap.size)(hxl:xs.length=64)(hl:ys.length<=100000)(hy:IN u u.heap.size y ys)(h:PF lo 64 (U8 xs) u vs):
 ∃v u',(Builtin.append_ #[133,133] ty #[vs,y]).run Tryz.prog u= .ok v u'/\Bw u u'/\PG lo 1 (xs++ys).length (U8 (xs++ys)) u' v:=by
 obtain⟨b,rfl,h1,h2,h3⟩:=h
 obtain⟨ti,hti,htm⟩:=Option.map_eq_some_iff.1 infoB
 simp only[Prod.mk.injEq] at htm
 obtain⟨hzv,hsz,hby⟩:=htm
 obtain⟨v',u',hr,hB,hg⟩:=Vh (P:=Tryz.prog) u (ty:=ty) Tryz.underlying133 hti hzv (by rw[hsz];rfl) (n:=64) (m:=ys.length) (xs:=U8 xs) (news:=U8 ys) h3 h1 hlo h2 (by rw[hsz,Zk,hxl]) (IN_NW hy) (by rw[hsz,Zk];omega) (by rw[hby];omega) Z1
 rw[hsz,<-U8_app] at hg
 refine⟨v',u',hr,hB,?_⟩
 rw[List.length_append,hxl];exact hg
def fuL(x:Nat)(k:List Nat):Nat->List Nat
 | 0=>z64
 | i+1=>(fuL x k i).set i (k.getD i 0^^^x)
theorem fuL_B{x:Nat}{k:List Nat}(hk:BB 64 k)(hx:x<256): ∀i,BB 64 (fuL x k i)
 | 0=>BB_rep 64
 | i+1=>(fuL_B hk hx i).set _ _ (xor_lt8 (hk.lt i) hx)
theorem fuL_get{x:Nat}{k:List Nat}(hk:BB 64 k)(hx:x<256)(j:Nat)(hj:j<64): ∀i,(fuL x k i).getD j 0=if j<i then k.getD j 0^^^x else 0
 | 0=>by
  show z64.getD j 0=_
  rw[if_neg Z1]
  unfold z64;rw[List.getD_eq_getElem?_getD,List.getElem?_replicate];split<;>rfl
 | i+1=>by
  rw[fuL,Yq,(fuL_B hk hx i).len]
  by_cases h:i=j
  ·subst h;rw[if_pos ⟨rfl,hj⟩,if_pos Z1]
  ·rw[if_neg (fun h'=>h h'.1),fuL_get hk hx j hj i]
   by_cases h2:j<i
   ·rw[if_pos h2,if_pos Z1]
   ·rw[if_neg h2,if_neg Z1]
theorem fuL_is{x:Nat}{k:List Nat}(hk:BB 64 k)(hx:x<256):fuL x k 64=msk x k:=by
 refine List.ext_getElem (by rw[(fuL_B hk hx 64).len,(msk_B hk hx).len]) fun j a b=>?_
 have hj:j<64:=by rw[(fuL_B hk hx 64).len] at a;exact a
 have e1:=fuL_get hk hx j hj 64
 rw[if_pos hj,List.getD_eq_getElem?_getD,List.getElem?_eq_getElem a] at e1
 have hj2:j<k.length:=by rw[hk.len];exact hj
 have e2:k.getD j 0=k[j]:=by rw[List.getD_eq_getElem?_getD,List.getElem?_eq_getElem hj2];rfl
 simp only[Option.getD_some] at e1
 rw[e1,e2]
 simp[msk]
theorem whl_get(ks:List Nat)(j:Nat):(whl ks).getD j 0=(whk ks).getD j 0:=by
 unfold whl
 by_cases h:j<(whk ks).length
 ·rw[getD_app1 h]
 ·rw[getD_app2 Z1,List.getD_eq_getElem?_getD,List.getD_eq_getElem?_getD,List.getElem?_replicate,List.getElem?_eq_none (l:=whk ks) Z1]
  split<;>rfl
set_option maxHeartbeats 8000000 in
theorem cFull_b(n cap x:Nat)(sl:Option Addr)(kk:List Nat)(fF:Nat->List Nat)(w:World)(hx:x<256)(hn:64<n)(hkk:kk.length=32)(hSu:Hid (∀(u:World),Bw w u->CC 166 #[.slice sl n cap] u (.agg (U8 kk).toArray)))(hf0:Hid (fF 0=List.replicate 64 0))(hfs:Hid (∀i,fF (i+1)=(fF i).set i (kk.getD i 0^^^x)))(hfB:Hid (∀i,BB 64 (fF i)))(hkb:Hid (∀i,kk.getD i 0<256)):
 Calls Tryz.prog 167 #[(.slice sl n cap),.int .u8 ((x:Nat):Int)] w fun e w'=> ∃v,e= .returned v/\PF w.heap.size 64 (U8 (fF 64)) w' v/\Bw w w':=by
 go_enter Tryz.func167,Tryz.ntmps167
 have HB0:Bw w w:=Below.refl _ _
 have hl0:decide ((64:Int)<((n:Nat):Int))=true:=by simp;omega
 have K0_1:=Bk.nil (w.heap.size) w
 go_upto_region 1 with fail
 refine Rn K0_1 HB0 (cG 0 8 [_,_,_] []) (Oc3 g_mv (g_ln Tryz.underlying133) (g_bn (fun uZ=>V8 _ _ ((n:Nat):Int) 64 _ uZ hl0))) fun u1 HB1 _ K1=>?_
 simp only[sQ] at K1⊢
 go_upto_region 2 with fail
 refine Rp K1 HB1 [] [(2,5,U8 z32,some (3,U8 kk))] [(0,11,_),(1,12,_)] [(3,2)] [] [] (Oc4 g_mv (g_cb Yf hSu.out) (g_al 0 Ve) (g_sn 0 Zo (h1:=Uk _) (hm:=by rw[Zk,hkk]) (hl:=by first | rw[Zk,Zk,hkk,show z32.length=32 from rfl] | rfl))) fun u2 b2_2 HB2 _ K2=>?_
 simp only[sQ] at K2⊢
 go_upto_region 3 with fail
 refine Rn K2 HB2 [(0,13,_),(1,0,_)] (Oc2 (g_sl (sl32 b2_2)) g_as) fun u3 HB3 _ K3=>?_
 simp only[sQ] at K3⊢
 have hlt5:=(K3.lt 0)
 have hlo5:=K3.lo 0
 have hlo4:=HB3.size
 go_upto_region 4 with fail
 refine Rf K3 HB3 [] [] [] [] [] [⟨0,14,some 1,PF u3.heap.size 64 (U8 (List.replicate 64 0))⟩,⟨1,6,none,PF u3.heap.size 64 (U8 (List.replicate 64 0))⟩] [] (hst:=(.cons (fun _ _ _ h1 h2=>h2.stab h1)<| .cons (fun _ _ _ h1 h2=>h2.stab h1)<|Stab.nil)) (Oc2 (g_ms 0 (PF u3.heap.size 64 (U8 (List.replicate 64 0))) (mkB .i64 64 Z2) (fun u hu=>PF.new 64 _ _ u hu)) (g_sE 0 1 (PF u3.heap.size 64 (U8 (List.replicate 64 0))))) fun u4 v4_0 hv4_0 v4_1 hv4_1 HB4 _ K4=>?_
 simp only[sQ] at K4⊢
 obtain⟨b6,rfl,ho1,ho2,hoC⟩:=hv4_1 rfl
 have K4_2:Bk w.heap.size u4 [(false,b2_2,U8 kk),(false,b6,U8 (List.replicate 64 0))]:=⟨.c (K4.lt 0) (K4.cv 0)<| .c ho2 hoC<|trivial,by simp;omega⟩
 go_upto_region 5 with fail
 refine Rn K4_2 HB4 [(0,7,_)] (Oc1 g_as) fun u5 HB5 _ K5=>?_
 simp only[sQ] at K5⊢
 go_wp2_with fail
 go_loopw [7] (fun s7 wr=> ∃(i:Nat),i<=64/\s7=iI ((i:Nat):Int)/\b6<wr.heap.size/\Hid (CV wr b6 (U8 (fF i)))/\b2_2<wr.heap.size/\Hid (CV wr b2_2 (U8 kk))/\Bw w wr) (fun s7 _=>64 -(intOf s7).toNat)
 case atStart=>exact⟨0,Z1,rfl,(K5.lt 1),(by rw[hf0.out];exact(K5.cv 1)),(K5.lt 0),(K5.cv 0),HB5⟩
 case round=>
  clear ho2 hoC
  obtain⟨i,hi,rfl,hl6,Ko,hlk,Kk,HBr⟩:=hrel
  by_cases hj:i<64
  ·have hl1:decide ((i:Int)<64)=true:=by simp;omega
   have hS:=hfs.out i
   have hfl:=(hfB.out i).len
   have hkb:=hkb.out i
   obtain⟨ol,eol⟩:=Z3 (fF i)
   rw[eol] at Ko hS hfl
   have go1:=Yv ol i Z1
   obtain⟨y,ey⟩:=Z3 (ol.getD i 0)
   rw[ey] at go1
   have go2:(U8 (ol.set i x))[i]?=some (.int .u8 ((x:Nat):Int)):=by
    rw[Yv _ i (by rw[List.length_set];omega),Yq,if_pos ⟨rfl,Z1⟩]
   clear eol ey
   by_cases hik:i<32
   ·have hl2:decide ((i:Int)<((32:Nat):Int))=true:=by simp;omega
    have gk:=Yv kk i Z1
    obtain⟨z,ez⟩:=Z3 (kk.getD i 0)
    rw[ez] at gk hS hkb
    have hS:Hid _:=hS
    clear ez
    have hnK:=K5.n
    simp at hnK
    have K5_3:Bk w.heap.size wr [(true,b6,U8 ol),(false,b2_2,U8 kk)]:=⟨.o hl6 Z1 Ko.out<| .c hlk Kk.out<|trivial,by simp;omega⟩
    go_upto_region 6 with fail
    refine Rn K5_3 HBr [(0,15,_),(1,16,_)] (Oc2 g_mv (g_bn (fun uZ=>Za _ _ (i:Int) 64 _ uZ hl1))) fun u6 HB6 sz6 K6=>?_
    simp only[sQ] at K6⊢
    go_upto_region 8 with fail
    refine Rp K6 HB6 [.all 4 (U8 (ol.set i x))] [] (cG 0 19 [_,_,_,_] []) [] [] [] (Oc5 g_mv g_mv g_mv (g_ix (ixB0 b6 64 64 i hj)) (g_sw 0 i s8 go1 (Uj _ _ _))) fun u7 HB7 sz7 K7=>?_
    simp only[sQ] at K7⊢
    go_upto_region 9 with fail
    refine Rn K7 HB7 (cG 0 23 [_,_,_,_] []) (Oc4 g_mv g_mv (g_ln Tryz.underlying133) (g_bn (fun uZ=>Za _ _ (i:Int) ((32:Nat):Int) _ uZ hl2))) fun u8 HB8 sz8 K8=>?_
    simp only[sQ] at K8⊢
    go_upto_region 10 with fail
    refine Rp K8 HB8 [.all 9 (U8 ((ol.set i x).set i (z^^^x)))] [] (cG 0 27 [_,_,_,_,_,_,_,_,_] []) [] [] [] (Oc10 g_mv g_mv g_mv g_mv (g_ix (ixB0 b2_2 32 32 i hik)) (g_lw 1 i l8 gk) g_mv (g_bn (fun uZ=>xor8 _ _ z x uZ hkb hx)) (g_ix (ixB0 b6 64 64 i hj)) (g_sw 0 i s8 go2 (Uj _ _ _))) fun u9 HB9 sz9 K9=>?_
    simp only[sQ] at K9⊢
    go_upto_region 7 with fail
    refine Rp K9 HB9 [] [] [(0,17,_),(1,18,_),(2,7,_)] [(2,0)] [(2,7)] [] (Oc3 g_mv (g_bn (fun uZ=>Zu _ _ ((i:Nat):Int) 1 ((i+1:Nat):Int) uZ Z1 Z1 Z1)) g_as) fun u10 HB10 _ K10=>?_
    simp only[sQ] at K10⊢
    go_wp2
    refine⟨⟨i+1,Z1,rfl,(K10.lt 0),(by rw[hS.out,<-List.set_set (a:=x)];exact(K10.cv 0)),(K10.lt 1),(K10.cv 1),HB10⟩,?_⟩
    simp[intOf]<;>omega
   ·have hl2:decide ((i:Int)<((32:Nat):Int))=false:=by simp;omega
    rw[show kk.getD i 0=0 by rw[List.getD_eq_getElem?_getD,List.getElem?_eq_none Z1];rfl,Nat.zero_xor] at hS
    have hS:Hid _:=hS
    have hnK:=K5.n
    simp at hnK
    have K5_3:Bk w.heap.size wr [(true,b6,U8 ol),(false,b2_2,U8 kk)]:=⟨.o hl6 Z1 Ko.out<| .c hlk Kk.out<|trivial,by simp;omega⟩
    go_upto_region 6 with fail
    refine Rn K5_3 HBr [(0,15,_),(1,16,_)] (Oc2 g_mv (g_bn (fun uZ=>Za _ _ (i:Int) 64 _ uZ hl1))) fun u6 HB6 sz6 K6=>?_
    simp only[sQ] at K6⊢
    go_upto_region 8 with fail
    refine Rp K6 HB6 [.all 4 (U8 (ol.set i x))] [] (cG 0 19 [_,_,_,_] []) [] [] [] (Oc5 g_mv g_mv g_mv (g_ix (ixB0 b6 64 64 i hj)) (g_sw 0 i s8 go1 (Uj _ _ _))) fun u7 HB7 sz7 K7=>?_
    simp only[sQ] at K7⊢
    go_upto_region 9 with fail
    refine Rn K7 HB7 (cG 0 23 [_,_,_,_] []) (Oc4 g_mv g_mv (g_ln Tryz.underlying133) (g_bn (fun uZ=>Za _ _ (i:Int) ((32:Nat):Int) _ uZ hl2))) fun u8 HB8 sz8 K8=>?_
    simp only[sQ] at K8⊢
    go_upto_region 7 with fail
    refine Rp K8 HB8 [] [] [(0,17,_),(1,18,_),(2,7,_)] [(2,0)] [(2,7)] [] (Oc3 g_mv (g_bn (fun uZ=>Zu _ _ ((i:Nat):Int) 1 ((i+1:Nat):Int) uZ Z1 Z1 Z1)) g_as) fun u9 HB9 sz9 K9=>?_
    simp only[sQ] at K9⊢
    go_wp2
    refine⟨⟨i+1,Z1,rfl,(K9.lt 0),(by rw[hS.out];exact(K9.cv 0)),(K9.lt 1),(K9.cv 1),HB9⟩,?_⟩
    simp[intOf]<;>omega
  ·have hl1:decide ((i:Int)<64)=false:=by simp;omega
   have hi64:i=64:=Z1
   subst hi64
   have hnK:=K5.n
   simp at hnK
   have K5_3:Bk w.heap.size wr [(false,b6,U8 (fF 64))]:=⟨.c hl6 Ko.out<|trivial,by simp⟩
   go_upto_region 6 with fail
   refine Rn K5_3 HBr [(0,15,_),(1,16,_)] (Oc2 g_mv (g_bn (fun uZ=>Za _ _ ((64:Nat):Int) 64 _ uZ hl1))) fun u6 HB6 sz6 K6=>?_
   simp only[sQ] at K6⊢
   go_upto_region 11 with fail
   refine Rn K6 HB6 [(0,36,_),(1,4,_)] (Oc2 g_mv g_as) fun u7 HB7 sz7 K7=>?_
   simp only[sQ] at K7⊢
   go_wp2
   refine bodyPost_ret (v:= .slice (some ⟨b6,0,none⟩) 64 64) (by simp[results,Tryz.results167,go_sem]) rfl ⟨_,rfl,⟨b6,rfl,Z1,(K7.lt 0),(K7.cv 0)⟩,HB7⟩
set_option maxHeartbeats 8000000 in
theorem cFull_c(n cap x:Nat)(sl:Option Addr)(kk:List Nat)(fF:Nat->List Nat)(w:World)(hx:x<256)(gb go:Nat)(hn:n<=64)(hkk:kk.length=n)(k3:n=0\/sl=some ⟨gb,go,none⟩)(k4:gb<w.heap.size)(k5:Hid (∀j,j<n->w.cell? ⟨gb,go+j,none⟩=some (.int .u8 ((kk.getD j 0:Nat):Int))))(hf0:Hid (fF 0=List.replicate 64 0))(hfs:Hid (∀i,fF (i+1)=(fF i).set i (kk.getD i 0^^^x)))(hfB:Hid (∀i,BB 64 (fF i)))(hkb:Hid (∀i,kk.getD i 0<256)):
 Calls Tryz.prog 167 #[(.slice sl n cap),.int .u8 ((x:Nat):Int)] w fun e w'=> ∃v,e= .returned v/\PF w.heap.size 64 (U8 (fF 64)) w' v/\Bw w w':=by
 go_enter Tryz.func167,Tryz.ntmps167
 have HB0:Bw w w:=Below.refl _ _
 have hl0:decide ((64:Int)<((n:Nat):Int))=false:=by simp;omega
 have K0_1:=Bk.nil (w.heap.size) w
 go_upto_region 1 with fail
 refine Rn K0_1 HB0 (cG 0 8 [_,_,_] []) (Oc3 g_mv (g_ln Tryz.underlying133) (g_bn (fun uZ=>V8 _ _ ((n:Nat):Int) 64 _ uZ hl0))) fun u1 HB1 _ K1=>?_
 simp only[sQ] at K1⊢
 have hlo4:=HB1.size
 go_upto_region 4 with fail
 refine Rf K1 HB1 [] [] [] [] [] [⟨0,14,some 1,PF u1.heap.size 64 (U8 (List.replicate 64 0))⟩,⟨1,6,none,PF u1.heap.size 64 (U8 (List.replicate 64 0))⟩] [] (hst:=(.cons (fun _ _ _ h1 h2=>h2.stab h1)<| .cons (fun _ _ _ h1 h2=>h2.stab h1)<|Stab.nil)) (Oc2 (g_ms 0 (PF u1.heap.size 64 (U8 (List.replicate 64 0))) (mkB .i64 64 Z2) (fun u hu=>PF.new 64 _ _ u hu)) (g_sE 0 1 (PF u1.heap.size 64 (U8 (List.replicate 64 0))))) fun u2 v2_0 hv2_0 v2_1 hv2_1 HB2 _ K2=>?_
 simp only[sQ] at K2⊢
 obtain⟨b6,rfl,ho1,ho2,hoC⟩:=hv2_1 rfl
 have K2_2:Bk w.heap.size u2 [(false,b6,U8 (List.replicate 64 0))]:=⟨.c ho2 hoC<|trivial,by simp⟩
 go_upto_region 5 with fail
 refine Rn K2_2 HB2 [(0,7,_)] (Oc1 g_as) fun u3 HB3 _ K3=>?_
 simp only[sQ] at K3⊢
 go_wp2_with fail
 go_loopw [7] (fun s7 wr=> ∃(i:Nat),i<=64/\s7=iI ((i:Nat):Int)/\b6<wr.heap.size/\Hid (CV wr b6 (U8 (fF i)))/\Bw w wr) (fun s7 _=>64 -(intOf s7).toNat)
 case atStart=>exact⟨0,Z1,rfl,(K3.lt 0),(by rw[hf0.out];exact(K3.cv 0)),HB3⟩
 case round=>
  clear ho2 hoC
  obtain⟨i,hi,rfl,hl6,Ko,HBr⟩:=hrel
  by_cases hj:i<64
  ·have hl1:decide ((i:Int)<64)=true:=by simp;omega
   have hS:=hfs.out i
   have hfl:=(hfB.out i).len
   have hkb:=hkb.out i
   obtain⟨ol,eol⟩:=Z3 (fF i)
   rw[eol] at Ko hS hfl
   have go1:=Yv ol i Z1
   obtain⟨y,ey⟩:=Z3 (ol.getD i 0)
   rw[ey] at go1
   have go2:(U8 (ol.set i x))[i]?=some (.int .u8 ((x:Nat):Int)):=by
    rw[Yv _ i (by rw[List.length_set];omega),Yq,if_pos ⟨rfl,Z1⟩]
   clear eol ey
   by_cases hik:i<n
   ·have hl2:decide ((i:Int)<((n:Nat):Int))=true:=by simp;omega
    obtain rfl:=k3.resolve_left Z1
    have gk:=k5.out i hik
    obtain⟨z,ez⟩:=Z3 (kk.getD i 0)
    rw[ez] at gk hS hkb
    have hS:Hid _:=hS
    clear ez
    have K3_3:Bk w.heap.size wr [(true,b6,U8 ol)]:=⟨.o hl6 Z1 Ko.out<|trivial,by simp⟩
    go_upto_region 6 with fail
    refine Rn K3_3 HBr [(0,15,_),(1,16,_)] (Oc2 g_mv (g_bn (fun uZ=>Za _ _ (i:Int) 64 _ uZ hl1))) fun u4 HB4 sz4 K4=>?_
    simp only[sQ] at K4⊢
    go_upto_region 8 with fail
    refine Rp K4 HB4 [.all 4 (U8 (ol.set i x))] [] (cG 0 19 [_,_,_,_] []) [] [] [] (Oc5 g_mv g_mv g_mv (g_ix (ixB0 b6 64 64 i hj)) (g_sw 0 i s8 go1 (Uj _ _ _))) fun u5 HB5 sz5 K5=>?_
    simp only[sQ] at K5⊢
    go_upto_region 9 with fail
    refine Rn K5 HB5 (cG 0 23 [_,_,_,_] []) (Oc4 g_mv g_mv (g_ln Tryz.underlying133) (g_bn (fun uZ=>Za _ _ (i:Int) ((n:Nat):Int) _ uZ hl2))) fun u6 HB6 sz6 K6=>?_
    simp only[sQ] at K6⊢
    go_upto_region 10 with fail
    refine Rp K6 HB6 [.all 9 (U8 ((ol.set i x).set i (z^^^x)))] [] (cG 0 27 [_,_,_,_,_,_,_,_,_] []) [] [] [] (Oc10 g_mv g_mv g_mv g_mv (g_ix (ixB gb go n cap i hik)) (g_lg gb (go+i) l8 gk k4) g_mv (g_bn (fun uZ=>xor8 _ _ z x uZ hkb hx)) (g_ix (ixB0 b6 64 64 i hj)) (g_sw 0 i s8 go2 (Uj _ _ _))) fun u7 HB7 sz7 K7=>?_
    simp only[sQ] at K7⊢
    go_upto_region 7 with fail
    refine Rp K7 HB7 [] [] [(0,17,_),(1,18,_),(2,7,_)] [(2,0)] [(2,7)] [] (Oc3 g_mv (g_bn (fun uZ=>Zu _ _ ((i:Nat):Int) 1 ((i+1:Nat):Int) uZ Z1 Z1 Z1)) g_as) fun u8 HB8 _ K8=>?_
    simp only[sQ] at K8⊢
    go_wp2
    refine⟨⟨i+1,Z1,rfl,(K8.lt 0),(by rw[hS.out,<-List.set_set (a:=x)];exact(K8.cv 0)),HB8⟩,?_⟩
    simp[intOf]<;>omega
   ·have hl2:decide ((i:Int)<((n:Nat):Int))=false:=by simp;omega
    rw[show kk.getD i 0=0 by rw[List.getD_eq_getElem?_getD,List.getElem?_eq_none Z1];rfl,Nat.zero_xor] at hS
    have hS:Hid _:=hS
    have K3_3:Bk w.heap.size wr [(true,b6,U8 ol)]:=⟨.o hl6 Z1 Ko.out<|trivial,by simp⟩
    go_upto_region 6 with fail
    refine Rn K3_3 HBr [(0,15,_),(1,16,_)] (Oc2 g_mv (g_bn (fun uZ=>Za _ _ (i:Int) 64 _ uZ hl1))) fun u4 HB4 sz4 K4=>?_
    simp only[sQ] at K4⊢
    go_upto_region 8 with fail
    refine Rp K4 HB4 [.all 4 (U8 (ol.set i x))] [] (cG 0 19 [_,_,_,_] []) [] [] [] (Oc5 g_mv g_mv g_mv (g_ix (ixB0 b6 64 64 i hj)) (g_sw 0 i s8 go1 (Uj _ _ _))) fun u5 HB5 sz5 K5=>?_
    simp only[sQ] at K5⊢
    go_upto_region 9 with fail
    refine Rn K5 HB5 (cG 0 23 [_,_,_,_] []) (Oc4 g_mv g_mv (g_ln Tryz.underlying133) (g_bn (fun uZ=>Za _ _ (i:Int) ((n:Nat):Int) _ uZ hl2))) fun u6 HB6 sz6 K6=>?_
    simp only[sQ] at K6⊢
    go_upto_region 7 with fail
    refine Rp K6 HB6 [] [] [(0,17,_),(1,18,_),(2,7,_)] [(2,0)] [(2,7)] [] (Oc3 g_mv (g_bn (fun uZ=>Zu _ _ ((i:Nat):Int) 1 ((i+1:Nat):Int) uZ Z1 Z1 Z1)) g_as) fun u7 HB7 sz7 K7=>?_
    simp only[sQ] at K7⊢
    go_wp2
    refine⟨⟨i+1,Z1,rfl,(K7.lt 0),(by rw[hS.out];exact(K7.cv 0)),HB7⟩,?_⟩
    simp[intOf]<;>omega
  ·have hl1:decide ((i:Int)<64)=false:=by simp;omega
   have hi64:i=64:=Z1
   subst hi64
   have K3_3:Bk w.heap.size wr [(false,b6,U8 (fF 64))]:=⟨.c hl6 Ko.out<|trivial,by simp⟩
   go_upto_region 6 with fail
   refine Rn K3_3 HBr [(0,15,_),(1,16,_)] (Oc2 g_mv (g_bn (fun uZ=>Za _ _ ((64:Nat):Int) 64 _ uZ hl1))) fun u4 HB4 sz4 K4=>?_
   simp only[sQ] at K4⊢
   go_upto_region 11 with fail
   refine Rn K4 HB4 [(0,36,_),(1,4,_)] (Oc2 g_mv g_as) fun u5 HB5 sz5 K5=>?_
   simp only[sQ] at K5⊢
   go_wp2
   refine bodyPost_ret (v:= .slice (some ⟨b6,0,none⟩) 64 64) (by simp[results,Tryz.results167,go_sem]) rfl ⟨_,rfl,⟨b6,rfl,Z1,(K5.lt 0),(K5.cv 0)⟩,HB5⟩
theorem cFull(ks:List Nat)(x:Nat)(v:Value)(w:World)(hx:x<256)(hin:IN w w.heap.size v ks)(hk: ∀x∈ks,x<256)(hl:ks.length<=1000):
 Calls Tryz.prog 167 #[v,.int .u8 ((x:Nat):Int)] w fun e w'=> ∃v,e= .returned v/\PF w.heap.size 64 (U8 (msk x (whl ks))) w' v/\Bw w w':=by
 have hin0:=hin
 have hW:=whl_B hk
 have hs: ∀i,fuL x (whl ks) (i+1)=(fuL x (whl ks) i).set i ((whk ks).getD i 0^^^x):=fun i=>by rw[fuL,whl_get]
 have hkb: ∀i,(whk ks).getD i 0<256:=by_getD (whk_m hk)
 rw[<-fuL_is hW hx]
 have hfB:=fuL_B hW hx
 have hf0:fuL x (whl ks) 0=List.replicate 64 0:=rfl
 obtain⟨fF,eF⟩:=Z3 (fuL x (whl ks))
 rw[eF] at hs hfB hf0⊢
 obtain⟨sl,cap,gb,go,rfl,h1,h2,h3,h4⟩:=hin
 by_cases hb:64<ks.length
 ·have e:whk ks=dig ks:=by unfold whk;rw[if_pos hb]
  rw[e] at hs hkb
  exact cFull_b ks.length cap x sl (dig ks) fF w hx hb (dig_B ks).len (fun u hB=>cSumR ks _ u ((hin0.below hB).mono hB.size) hk Z1) hf0 hs hfB hkb
 ·have e:whk ks=ks:=by unfold whk;rw[if_neg hb]
  rw[e] at hs hkb
  exact cFull_c ks.length cap x sl ks fF w hx gb go Z1 rfl h2 h3 h4 hf0 hs hfB hkb
set_option maxHeartbeats 8000000 in
theorem cMacR_core(kv y:Value)(m1 m2 xs d1 ds:List Nat)(w:World)(hm1:m1.length=64)(hm2:m2.length=64)(hxl:xs.length<=100000)(hd1:d1.length=32)(hds:ds.length=32)(hIN:Hid (IN w w.heap.size y xs))(hM1:Hid (∀(u:World),Bw w u->Calls Tryz.prog 167 #[kv,.int .u8 ((54:Nat):Int)] u fun e u'=> ∃v,e= .returned v/\PF u.heap.size 64 (U8 m1) u' v/\Bw u u'))(hM2:Hid (∀(u:World),Bw w u->Calls Tryz.prog 167 #[kv,.int .u8 ((92:Nat):Int)] u fun e u'=> ∃v,e= .returned v/\PF u.heap.size 64 (U8 m2) u' v/\Bw u u'))(hS1:Hid (∀(u:World) (z:Value),Bw w u->PG w.heap.size 1 (m1++xs).length (U8 (m1++xs)) u z->CC 166 #[z] u (.agg (U8 d1).toArray)))(hS2:Hid (∀(u:World) (z:Value),Bw w u->PG w.heap.size 1 (m2++d1).length (U8 (m2++d1)) u z->CC 166 #[z] u (.agg (U8 ds).toArray))):
 CC 162 #[kv,y] w (.agg (U8 ds).toArray):=by
 go_enter Tryz.func162,Tryz.ntmps162
 go_upto_region 1 with fail
 generalize hC:(w.alloc (.cells (Z32b:List Value).toArray 215))=v0 at *
 have HB0:Bw w v0:=by rw[<-hC];exact Z5 (Zf w) _
 have K0:Bk w.heap.size v0 [(true,w.heap.size,U8 z32)]:=by rw[<-hC];exact(Bk.nil _ w).ad
 clear hC
 refine Rf K0 HB0 [] [(5,5,U8 z32,some (6,U8 d1))] [(0,6,_),(2,8,y),(4,10,_)] [(6,5)] [] [⟨1,7,some 3,PF w.heap.size 64 (U8 m1)⟩,⟨3,9,some 4,PG w.heap.size 1 (m1++xs).length (U8 (m1++xs))⟩] [] (Oc7 g_mv (g_cE 0 (PF w.heap.size 64 (U8 m1)) Yy (fun u hB hs=>(hM1.out u hB).mono fun e u2 ⟨v,e1,h1,h2⟩=>⟨v,e1,h1.mono hB.size,h2⟩)) g_mv (g_a1 0 1 (PF w.heap.size 64 (U8 m1)) (PG w.heap.size 1 (m1++xs).length (U8 (m1++xs))) (fun u vs hB hs hv=>app_PF hB.size hm1 hxl ((hIN.out.below hB).mono hB.size) hv)) (g_c1 1 (PG w.heap.size 1 (m1++xs).length (U8 (m1++xs))) Yf (fun uZ z bZ hz=>hS1.out uZ z bZ hz)) (g_al 0 Ve) (g_sn 0 Zo (h1:=Uk _) (hm:=by rw[Zk,hd1]) (hl:=by first | rw[Zk,Zk,hd1,show z32.length=32 from rfl] | rfl))) fun u1 b1_5 v1_1 hv1_1 v1_3 hv1_3 HB1 _ K1=>?_
 simp only[sQ] at K1⊢
 go_upto_region 2 with fail
 refine Re K1 HB1 [.all 5 (U8 ds)] [] [(0,11,_),(2,13,_),(4,15,_)] [] [] [⟨1,12,some 3,PF w.heap.size 64 (U8 m2)⟩,⟨3,14,some 4,PG w.heap.size 1 (m2++d1).length (U8 (m2++d1))⟩] [] (Oc6 g_mv (g_cE 0 (PF w.heap.size 64 (U8 m2)) Yy (fun u hB hs=>(hM2.out u hB).mono fun e u2 ⟨v,e1,h1,h2⟩=>⟨v,e1,h1.mono hB.size,h2⟩)) (g_sl (sl32 b1_5)) (g_a1K 0 1 (PF w.heap.size 64 (U8 m2)) (PG w.heap.size 1 (m2++d1).length (U8 (m2++d1))) (fun f u vs kZ hB hs hv=>app_PF hB.size hm2 Z1 (CV_in hd1 (kZ.cv 1) (kZ.lb hs 1)) hv)) (g_c1 1 (PG w.heap.size 1 (m2++d1).length (U8 (m2++d1))) Yf (fun uZ z bZ hz=>hS2.out uZ z bZ hz)) (g_st 0 Zo (h1:=Uk _) (hm:=by rw[Zk,hds]) (hl:=by first | rw[Zk,Zk,hds,show z32.length=32 from rfl] | rfl))) fun u2 v2_1 hv2_1 v2_3 hv2_3 HB2 _ K2=>?_
 simp only[sQ] at K2⊢
 go_wp2
 refine bodyPost_ret (Xq Tryz.results162 rfl (K2.cv 0) Tryz.underlying215 rfl (by rw[Zk,hds];exact Zo)) rfl ⟨rfl,HB2⟩
theorem cMacR(ks xs:List Nat)(v y:Value)(w:World)(hin:IN w w.heap.size v ks)(hin2:IN w w.heap.size y xs)(hk: ∀x∈ks,x<256)(hx: ∀x∈xs,x<256)(hkl:ks.length<=1000)(hl:xs.length<=90000):
 CC 162 #[v,y] w (.agg (U8 (mac ks xs)).toArray):=by
 have hW:=whl_B hk
 have b1:=msk_B hW (show 54<256 by decide)
 have b2:=msk_B hW (show 92<256 by decide)
 have bd:=dig_B (msk 54 (whl ks)++xs)
 have bm:=mac_B ks xs
 have hm:mac ks xs=dig (msk 92 (whl ks)++dig (msk 54 (whl ks)++xs)):=rfl
 have hM1: ∀u,Bw w u->_:=fun u hB=>cFull ks 54 v u Z2 ((hin.below hB).mono hB.size) hk hkl
 have hM2: ∀u,Bw w u->_:=fun u hB=>cFull ks 92 v u Z2 ((hin.below hB).mono hB.size) hk hkl
 obtain⟨m1,e1⟩:=Z3 (msk 54 (whl ks))
 obtain⟨m2,e2⟩:=Z3 (msk 92 (whl ks))
 rw[e1] at b1 bd hm hM1
 rw[e2] at b2 hm hM2
 obtain⟨d1,ed⟩:=Z3 (dig (m1++xs))
 rw[ed] at bd hm
 obtain⟨ds,es⟩:=Z3 (mac ks xs)
 rw[es] at bm hm⊢
 refine cMacR_core v y m1 m2 xs d1 ds w b1.len b2.len Z1 bd.len bm.len hin2 hM1 hM2 (fun u z hB hz=>?_) (fun u z hB hz=>?_)
 ·rw[<-ed]
  exact cSumR (m1++xs) z u (PG_in hz) (fun x h=>by
   rcases List.mem_append.1 h with h | h
   ·exact b1.mem x h
   ·exact hx x h) (by rw[List.length_append,b1.len];omega)
 ·rw[hm]
  exact cSumR (m2++d1) z u (PG_in hz) (fun x h=>by
   rcases List.mem_append.1 h with h | h
   ·exact b2.mem x h
   ·exact bd.mem x h) (by rw[List.length_append,b2.len,bd.len];omega)
end Go.Proofs.YtoffgfhilkpdpaaGreatDoor
