import Derived.Test.YtclafkfelkmigaaGreatDoorW5
namespace Go.Proofs.YtclafkfelkmigaaGreatDoor
set_option linter.unusedVariables false
set_option linter.unusedSimpArgs false
set_option maxRecDepth 100000
set_option maxHeartbeats 4000000
open Go.RowKit
theorem Zb:EnT 167:=fun _ _=>by kernel_rfl
theorem Yo:EnT 166:=fun _ _=>by kernel_rfl
theorem Z3:EnT 165:=fun _ _=>by kernel_rfl
theorem Xg:EnT 168:=fun _ _=>by kernel_rfl
theorem Wa:EnT 163:=fun _ _=>by kernel_rfl
theorem cWrap(x:Nat)(w:World)(hx:x<18446744073709551616):CC 167 #[iU ((x:Nat):Int)] w (iU ((x%4294967296:Nat):Int)):=by
 go_enter Tryz.func167,Tryz.ntmps167
 have HB0:Bw w w:=Below.refl _ _
 have K0_1:=Bk.nil (w.heap.size) w
 go_upto_region 1 with fail
 refine Rn K0_1 HB0 [(0,3,_),(1,4,_),(2,2,_)] (Oc3 g_mv (g_bn (fun uZ=>rem64 _ _ x 4294967296 uZ hx (by decide))) g_as) fun u1 HB1 _ K1=>?_
 simp only[sQ] at K1⊢
 go_wp2
 refine bodyPost_ret (v:=iU ((x%4294967296:Nat):Int)) (by simp[results,Tryz.results167,go_sem,]) rfl ⟨rfl,HB1⟩
theorem cRightR(x n:Nat)(w:World)(hn:n<=64):CC 166 #[iU ((x:Nat):Int),iI ((n:Nat):Int)] w (iU ((x>>>n:Nat):Int)):=by
 go_enter Tryz.func166,Tryz.ntmps166
 have HB0:Bw w w:=Below.refl _ _
 have K0_1:=Bk.nil (w.heap.size) w
 go_upto_region 1 with fail
 refine Rn K0_1 HB0 (cG 0 5 [_,_,_] [(3,4,_)]) (Oc4 g_mv g_mv (g_bn (fun uZ=>shr64i _ _ x n uZ (by omega))) g_as) fun u1 HB1 _ K1=>?_
 simp only[sQ] at K1⊢
 go_wp2
 refine bodyPost_ret (v:=iU ((x>>>n:Nat):Int)) (by simp[results,Tryz.results166,go_sem,]) rfl ⟨rfl,HB1⟩
theorem cTurn_core(x n y z:Nat)(w:World)(hn:n<=32)(hy:(x<<<(32 -n))%18446744073709551616=y)(hy2:y<18446744073709551616)(hz:x>>>n+y%4294967296=z)(hz2:z<18446744073709551616):CC 165 #[iU ((x:Nat):Int),iI ((n:Nat):Int)] w (iU ((z:Nat):Int)):=by
 go_enter Tryz.func165,Tryz.ntmps165
 have HB0:Bw w w:=Below.refl _ _
 have K0_1:=Bk.nil (w.heap.size) w
 go_upto_region 1 with fail
 refine Rm K0_1 HB0 (cG 0 5 [_,_,_,_,_,_,_,_,_] [(9,4,_)]) (Oc10 g_mv g_mv (g_bn (fun uZ=>shr64i _ _ x n uZ (by omega))) g_mv g_mv (g_bn (fun uZ=>Xf _ _ 32 (n:Int) ((32 -n:Nat):Int) uZ (by omega) (by omega) (by omega))) (g_bn (fun uZ=>(shl64i _ _ x (32 -n) uZ (by omega)).trans (by rw[hy]))) (g_cl Zb (fun uZ=>cWrap y uZ hy2)) (g_bn (fun uZ=>U3 _ _ (x>>>n) (y%4294967296) z uZ hz hz2)) g_as) fun u1 HB1 _ K1=>?_
 simp only[sQ] at K1⊢
 go_wp2
 refine bodyPost_ret (v:=iU ((z:Nat):Int)) (by simp[results,Tryz.results165,go_sem,]) rfl ⟨rfl,HB1⟩
theorem cWrapE(x y:Nat)(w:World)(hx:x<18446744073709551616)(h:x%4294967296=y):CC 167 #[iU ((x:Nat):Int)] w (iU ((y:Nat):Int)):=by
 subst h;exact cWrap x w hx
theorem ixU0(g n cap j:Nat)(h:j<n)(w:World):(Instr.indexAt 138 (.slice (some ⟨g,0,none⟩) n cap) (iI j)).run Tryz.prog w= .ok (.pointer (some ⟨g,j,none⟩)) w:=by
 have:=ixU g 0 n cap j h w
 rwa [Nat.zero_add] at this
theorem cTurn(x n:Nat)(w:World)(hx:x<M32)(hn:n<=32):CC 165 #[iU ((x:Nat):Int),iI ((n:Nat):Int)] w (iU ((rotr x n:Nat):Int)):=by
 have e:(x<<<(32 -n))%18446744073709551616=x<<<(32 -n):=Nat.mod_eq_of_lt (by
  rw[Nat.shiftLeft_eq]
  have h1:2^(32 -n)<=2^32:=Nat.pow_le_pow_right (by decide) (by omega)
  have h2:x*2^(32 -n)<=x*2^32:=Nat.mul_le_mul_left _ h1
  have h3:x<4294967296:=hx
  omega)
 have hr:=Zk (n:=n) hx
 exact cTurn_core x n (x<<<(32 -n)) (rotr x n) w hn e (by rw[<-e];exact Nat.mod_lt _ (by decide)) (rotr_add x n hx hn) (Nat.lt_trans hr (by decide))
theorem cConstants(w:World):Calls Tryz.prog 168 #[] w fun e w'=> ∃v,e= .returned v/\PS w.heap.size 64 (U64 kcs) w' v/\Bw w w':=by
 go_enter Tryz.func168,Tryz.ntmps168
 have HB0:Bw w w:=Below.refl _ _
 have K0_1:=Bk.nil (w.heap.size) w
 go_upto_region 1 with fail
 refine Rf K0_1 HB0 [] [] [] [] [] [⟨0,1,some 1,PS w.heap.size 64 (U64 kcs)⟩,⟨1,0,none,PS w.heap.size 64 (U64 kcs)⟩] [] (hst:=(.cons (fun _ _ _ h1 h2=>h2.stab h1)<| .cons (fun _ _ _ h1 h2=>h2.stab h1)<|Stab.nil)) (Oc2 (g_bR 0 (PS w.heap.size 64 (U64 kcs)) [0,1,2,3,4,5,6,7,8,9,10,11,12,13,14,15,16,17,18,19,20,21,22,23,24,25,26,27,28,29,30,31,32,33,34,35,36,37,38,39,40,41,42,43,44,45,46,47,48,49,50,51,52,53,54,55,56,57,58,59,60,61,62,63] [iU 1116352408,iU 1899447441,iU 3049323471,iU 3921009573,iU 961987163,iU 1508970993,iU 2453635748,iU 2870763221,iU 3624381080,iU 310598401,iU 607225278,iU 1426881987,iU 1925078388,iU 2162078206,iU 2614888103,iU 3248222580,iU 3835390401,iU 4022224774,iU 264347078,iU 604807628,iU 770255983,iU 1249150122,iU 1555081692,iU 1996064986,iU 2554220882,iU 2821834349,iU 2952996808,iU 3210313671,iU 3336571891,iU 3584528711,iU 113926993,iU 338241895,iU 666307205,iU 773529912,iU 1294757372,iU 1396182291,iU 1695183700,iU 1986661051,iU 2177026350,iU 2456956037,iU 2730485921,iU 2820302411,iU 3259730800,iU 3345764771,iU 3516065817,iU 3600352804,iU 4094571909,iU 275423344,iU 430227734,iU 506948616,iU 659060556,iU 883997877,iU 958139571,iU 1322822218,iU 1537002063,iU 1747873779,iU 1955562222,iU 2024104815,iU 2227730452,iU 2361852424,iU 2428436474,iU 2756734187,iU 3204031479,iU 3329325298] (U64 kcs) (e:=34) (fun w=>by kernel_rfl) (fun u hu=>PS.new 64 _ _ u (Nat.le_trans HB0.size hu))) (g_sE 0 1 (PS w.heap.size 64 (U64 kcs)))) fun u1 v1_0 hv1_0 v1_1 hv1_1 HB1 _ K1=>?_
 simp only[sQ] at K1⊢
 have hz:=hv1_1 rfl
 go_wp2
 refine bodyPost_ret (v:=v1_1) (by simp[results,Tryz.results168,go_sem]) rfl ⟨_,rfl,hz,HB1⟩
section
def tlF(n:Nat):Nat->List Nat
 | 0=>List.replicate 8 0
 | j+1=>(tlF n j).set (7 -j) ((n*8)>>>(8*j)%256)
theorem tlF_B(n:Nat): ∀j,BB 8 (tlF n j)
 | 0=>BB_rep 8
 | j+1=>(tlF_B n j).set _ _ (Nat.mod_lt _ (by decide))
theorem en_is(n:Nat): ∀j,j<=8->enL n j=128::(List.replicate (nou n) 0++tlF n j)
 | 0,_=>by
  show (List.replicate (nou n+9) 0).set 0 128=128::(List.replicate (nou n) 0++List.replicate 8 0)
  rw[List.replicate_append_replicate,show nou n+9=(nou n+8)+1 by omega,List.replicate_succ,List.set_cons_zero]
 | j+1,h=>by
  show (enL n j).set (nou n+9 -1 -j) _=_
  rw[en_is n j (by omega),show nou n+9 -1 -j=(nou n+(7 -j))+1 by omega,List.set_cons_succ,List.set_append_right _ _ (by rw[List.length_replicate];omega),List.length_replicate,show nou n+(7 -j) -nou n=7 -j by omega]
  rfl
theorem pad_is(xs:List Nat):pad xs=(xs++[128])++List.replicate (nou xs.length) 0++tlF xs.length 8:=by
 unfold pad ending
 rw[en_is _ 8 (Nat.le_refl _)]
 simp
theorem nou_56(n k:Nat)(hn:n<=100000)(hk:k<=nou n):(n+1+k)%64=56↔k=nou n:=by
 unfold nou at *;omega
def tD(ss:List Nat):Nat->List Nat
 | 0=>z32
 | m+1=>(tD ss m).set (4*(m/4)+3 -m%4) ((ss.getD (m/4) 0>>>(8*(m%4)))%256)
theorem tD_B(ss:List Nat): ∀m,BB 32 (tD ss m)
 | 0=>BB_z32
 | m+1=>(tD_B ss m).set _ _ (Nat.mod_lt _ (by decide))
theorem tD_get(ss:List Nat)(p:Nat)(hp:p<32): ∀m,m<=32->(tD ss m).getD p 0=if 4*(p/4)+3 -p%4<m then (ss.getD (p/4) 0>>>(8*(3 -p%4)))%256 else 0
 | 0,_=>by
  show z32.getD p 0=_
  rw[if_neg (by omega)]
  unfold z32;rw[List.getD_eq_getElem?_getD,List.getElem?_replicate];split<;>rfl
 | m+1,h=>by
  rw[tD,Yl,(tD_B ss m).len]
  by_cases e:4*(m/4)+3 -m%4=p
  ·have e1:m/4=p/4:=by omega
   have e2:m%4=3 -p%4:=by omega
   rw[if_pos ⟨e,hp⟩,if_pos (by omega),e1,e2]
  ·rw[if_neg (fun h'=>e h'.1),tD_get ss p hp m (by omega)]
   by_cases e3:4*(p/4)+3 -p%4<m
   ·rw[if_pos e3,if_pos (by omega)]
   ·rw[if_neg e3,if_neg (by omega)]
theorem tD_told(ss:List Nat):tD ss 32=told ss:=by
 refine List.ext_getElem (by rw[(tD_B ss 32).len,(told_B ss).len]) fun p a b=>?_
 have hp:p<32:=by rw[(tD_B ss 32).len] at a;exact a
 have e1:=tD_get ss p hp 32 (Nat.le_refl _)
 rw[if_pos (by omega)] at e1
 have e2:=told_get ss p hp
 rw[List.getD_eq_getElem?_getD,List.getElem?_eq_getElem a] at e1
 rw[List.getD_eq_getElem?_getD,List.getElem?_eq_getElem b] at e2
 simp only[Option.getD_some] at e1 e2
 rw[e1,e2]
theorem shr_next(x j:Nat):(x>>>(8*j))/256=x>>>(8*(j+1)):=by
 rw[show 8*(j+1)=8*j+8 by omega,Nat.shiftRight_add,Nat.shiftRight_eq_div_pow (x>>>(8*j)) 8]
theorem app_PG{lo n m:Nat}{xs ys:List Nat}{y:Value}{ty:TypeId}{u:World}{vs:Value}(hlo:lo<=u.heap.size)(hxl:xs.length=n)(hyl:ys.length=m)(hl:n+m<=1000000)(hy:NW m (U8 ys) u y)(h:PG lo 1 n (U8 xs) u vs):
 ∃v u' b,(Builtin.append_ #[91,91] ty #[vs,y]).run Tryz.prog u= .ok v u'/\lo<=b/\u.grownBy u' (some b)/\PG lo 1 (n+m) (U8 (xs++ys)) u' v:=by
 obtain⟨b,cap,zs,rfl,h1,h2,h3,h4,h5⟩:=h
 obtain⟨ti,hti,htm⟩:=Option.map_eq_some_iff.1 infoB
 simp only[Prod.mk.injEq] at htm
 obtain⟨hzv,hsz,hby⟩:=htm
 obtain⟨v',u',hr,hg,b',cap',zs',rfl,g1,g2,g3,g4,g5⟩:=Wg (P:=Tryz.prog) u (ty:=ty) Tryz.underlying91 hti hzv (by rw[hsz];rfl) (base:=u.heap.size) (n:=n) (cap:=cap) (m:=m) (news:=U8 ys) h5 h2 (by rw[hsz,Zc];omega) (by rw[hsz];omega) h3 (Nat.le_refl _) hy (by rw[hsz,Zc];omega) U8_mem (by rw[hby];omega) (by omega)
 refine⟨_,u',b,hr,h1,hg,b',cap',zs',rfl,by omega,g2,g3,by rw[hsz] at g4;exact g4,by rw[U8_app];exact g5⟩
section
variable {R:Rg} {P:Program} {ops:Array Oper} {Q:Exit->Act->World->Prop} {f:Nat->Bool} {t:Nat->Value} {u:World} {a:Act} {i:Nat} {o:Oper}
theorem g_aEE(m m2 n:Nat)(p p2 p':World->Value->Prop){T:TypeId}{j d j2 d2:Nat}(hp: ∀(f:Nat->Bool) (u:World) (vs ys:Value),KC f u R.lo R.base R.es->Below R.lo R.w u->R.base<=u.heap.size->p u vs->p2 u ys-> ∃v u' b,(Builtin.append_ #[T,T] o.type #[vs,ys]).run P u= .ok v u'/\R.base<=b/\u.grownBy u' (some b)/\p' u' v)(hop:o.op= .call {callee:= .builtin .append,args:=[.tmp d,.tmp d2].toArray,argTypes:=[T,T].toArray}:=by rfl)(hm:R.E[m]?=some ⟨j,d,some i,p⟩:=by rfl)(hm2:R.E[m2]?=some ⟨j2,d2,some i,p2⟩:=by rfl)(hn0:(R.E[n]?).map (·.p)=some p':=by rfl)(hw0:R.nw=[]:=by rfl)
 (hd:(Zm o j&&R.S.contains d&&(Zm o j2&&R.S.contains d2)&&((R.E.eraseIdx n).all (eGone R.O i o)))=true:=by rfl)(hc:R.chkE ops n i o=true:=by rfl):OG R P ops Q i o:=fun f t u a X=>by
 simp only[Bool.and_eq_true,List.contains_iff_mem] at hd
 obtain⟨⟨⟨h2,h4⟩,h6,h7⟩,h5⟩:=hd
 obtain⟨d',q',hd',hq',⟨e1,e2⟩,k1,k2,k3,k4,k5,k6,k7,hw⟩:=Zj hc
 have hv:p u (t d):=X.val hm h2 rfl
 have hv2:p2 u (t d2):=X.val hm2 h6 rfl
 obtain⟨v,u',b,hr,hb,hg,hn⟩:=hp f u (t d) (t d2) X.I.2.1 X.I.1.bel X.I.1.sz hv hv2
 refine X.go hw fun K hK=>Vm hop (X.inS h4) (X.inS h7) hr (hK _ _ ⟨updT t d' v,by rw[hd'];exact X.F.put X.parts.1 k3 v,?_,KC.free k7 (KC.grown hg hb X.I.1.sz X.I.2.1),Gs.other k1 X.I.2.2.1,Yd k6 X.I.2.2.2.1 X.dep,Ns.step X.I.2.2.2.2.1 k2,?_⟩)
 ·have hM:=X.I.1
  rw[hw0] at hM⊢
  exact{bel:=hM.bel.grown hg (Nat.le_trans hM.lo hM.sz) (fun k e=>by cases e;exact Nat.le_trans hM.lo hb),lo:=hM.lo,sz:=Nat.le_trans hM.sz hg.size,ks:=trivial,ex:=trivial,nw:=trivial,nd:=trivial}
 ·exact Es.last (O:=R.O) (fun j hj=>X.later (by unfold Rg.later;rw[hj];simp)) X.dep (by rw[hq',<-e1,<-e2]) h5 (by rw[hq'] at hn0;cases hn0;exact hn)
end
end
theorem Wx:EnT 162:=fun _ _=>by kernel_rfl
theorem bsB0(x:Nat)(w:World):(Instr.buildSlice 91 1 ([0].zip [.int .u8 (x:Int)]).toArray).run Tryz.prog w= .ok (.slice (some ⟨w.heap.size,0,none⟩) 1 1) (w.alloc (.cells (U8 [x]).toArray 5)):=by kernel_rfl
theorem PS_NW{lo n:Nat}{xs:List Nat}{u:World}{y:Value}(h:PS lo n (U8 xs) u y):NW n (U8 xs) u y:=by
 obtain⟨b,cap,rfl,_,h2,h3,h4⟩:=h
 exact⟨_,cap,rfl,.inr ⟨_,rfl,fun j v hj=>by rw[Addr.add0];exact(h4 j v hj).1⟩⟩
theorem neq_it(p q:Operand)(x y:Int)(b:Bool)(w:World)(h:decide (x≠y)=b):(do eqGuard .neq 3 p q (iI x) (iI y);binOp .neq 3 (iI x) (iI y):Sem Value).run Tryz.prog w= .ok (.bool b) w:=by
 subst h;go_simp
 first | done | (by_cases e:x=y<;>simp[e])
theorem Xn(p q:Operand)(x y:Int)(b:Bool)(w:World)(h:decide (y<=x)=b):(do eqGuard .geq 3 p q (iI x) (iI y);binOp .geq 3 (iI x) (iI y):Sem Value).run Tryz.prog w= .ok (.bool b) w:=by
 subst h;go_simp
theorem quo64(p q:Operand)(x y:Nat)(w:World)(h1:x<18446744073709551616)(h2:0<y):(do eqGuard .quo 34 p q (iU x) (iU y);binOp .quo 34 (iU x) (iU y):Sem Value).run Tryz.prog w= .ok (iU ((x/y:Nat):Int)) w:=by
 have e0:((x:Int)).tdiv y=((x/y:Nat):Int):=by rw[Int.tdiv_eq_ediv_of_nonneg (Int.natCast_nonneg _)];simp
 have hle:x/y<=x:=Nat.div_le_self _ _
 obtain⟨z,hz⟩: ∃z,x/y=z:=⟨_,rfl⟩
 rw[hz] at e0 hle⊢
 have e:IntKind.u64.wrap (z:Int)=(z:Int):=Xj _ (by omega) (by omega)
 have hy:(y:Int)≠0:=by omega
 have hy2: ¬y=0:=by omega
 go_simp
def lenV2:Value->Nat
 | .slice _ n _=>n
 | _=>0
theorem ixB0(g n cap j:Nat)(h:j<n)(w:World):(Instr.indexAt 91 (.slice (some ⟨g,0,none⟩) n cap) (iI j)).run Tryz.prog w= .ok (.pointer (some ⟨g,j,none⟩)) w:=by
 have:=ixB g 0 n cap j h w
 rwa [Nat.zero_add] at this
theorem NW_full{u:World}{b n cap:Nat}{xs:List Nat}(hl:xs.length=n)(h:CV u b (U8 xs)):NW n (U8 xs) u (.slice (some ⟨b,0,none⟩) n cap):=
 ⟨_,cap,rfl,.inr ⟨_,rfl,fun j v hj=>by rw[Addr.add0];exact(h j v hj).1⟩⟩
theorem cPadR_core(n cap no N:Nat)(sl:Option Addr)(xs ps:List Nat)(tF:Nat->List Nat)(nF:Nat->Nat)(w:World)(hn:n<=100000)(hno64:no<64)(hxs:xs.length=n)(hN:N=n+1+no+8)(hno:Hid (∀k,k<=no->((n+1+k)%64=56↔k=no)))(ht0:Hid (tF 0=List.replicate 8 0))(hts:Hid (∀j,tF (j+1)=(tF j).set (7 -j) (nF j%256)))(htB:Hid (∀j,BB 8 (tF j)))(hn0:Hid (nF 0=n*8))(hns:Hid (∀j,nF (j+1)=nF j/256))(hnl:Hid (∀j,nF j<18446744073709551616))(hpad:Hid (ps=xs++[128]++List.replicate no 0++tF 8))
 (happ:Hid (∀(u:World) (vs:Value),Bw w u->PZ w.heap.size u vs-> ∃v u',(Builtin.append_ #[91,91] 91 #[vs,(.slice sl n cap)]).run Tryz.prog u= .ok v u'/\Bw u u'/\PG w.heap.size 1 n (U8 xs) u' v)):
 Calls Tryz.prog 162 #[(.slice sl n cap)] w fun e w'=> ∃v,e= .returned v/\PG w.heap.size 1 N (U8 ps) w' v/\Bw w w':=by
 go_enter Tryz.func162,Tryz.ntmps162
 have HB0:Bw w w:=Below.refl _ _
 obtain⟨ti,hti,htm⟩:=Option.map_eq_some_iff.1 infoB
 simp only[Prod.mk.injEq] at htm
 obtain⟨hzv,hsz,hby⟩:=htm
 have K0_1:=Bk.nil (w.heap.size) w
 go_upto_region 1 with fail
 refine Rf K0_1 HB0 [] [] [(1,8,_)] [(5,4)] [] [⟨0,7,some 2,PZ w.heap.size⟩,⟨2,9,some 4,PG w.heap.size 1 n (U8 xs)⟩,⟨3,10,some 4,PS w.heap.size 1 (U8 [128])⟩,⟨4,11,some 5,PG w.heap.size 1 (n+1) (U8 (xs++[128]))⟩,⟨5,3,none,PG w.heap.size 1 (n+1) (U8 (xs++[128]))⟩] [] (Oc6 (g_bs 0 (PZ w.heap.size) bs0b (fun u hu=>PZ.new hu)) g_mv (g_a1 0 1 (PZ w.heap.size) (PG w.heap.size 1 n (U8 xs)) (fun u vs hB hs hv=>happ.out u vs hB hv)) (g_bR 2 (PS w.heap.size 1 (U8 [128])) [0] [.int .u8 128] (U8 [128]) (bsB0 128) (fun u hu=>PS.new 1 _ _ u hu)) (g_aEE 1 2 3 (PG w.heap.size 1 n (U8 xs)) (PS w.heap.size 1 (U8 [128])) (PG w.heap.size 1 (n+1) (U8 (xs++[128]))) (fun f u vs ys kZ bZ hs hv hy=>app_PG hs hxs rfl (by omega) (PS_NW hy) hv)) (g_sE 3 4 (PG w.heap.size 1 (n+1) (U8 (xs++[128]))))) fun u1 v1_0 hv1_0 v1_2 hv1_2 v1_3 hv1_3 v1_4 hv1_4 v1_5 hv1_5 HB1 _ K1=>?_
 simp only[sQ] at K1⊢
 obtain⟨b3,c3,zs,rfl,ho1,ho2,hc3,hz3,hoC⟩:=hv1_5 rfl
 rw[Nat.mul_one] at hz3
 go_wp2_with fail
 go_loopw [3] (fun s3 wr=> ∃(k b3 c3:Nat) (zs:List Value),k<=no/\s3= .slice (some ⟨b3,0,none⟩) (n+1+k) c3/\n+1+k<=c3/\zs.length=c3 -(n+1+k)/\w.heap.size<=b3/\b3<wr.heap.size/\Hid (CV wr b3 (U8 (xs++[128]++List.replicate k 0)++zs))/\Bw w wr) (fun s3 _=>n+1+no -lenV2 s3)
 case atStart=>exact⟨0,b3,c3,zs,by omega,rfl,hc3,hz3,ho1,ho2,(by rw[List.replicate_zero,List.append_nil];exact hoC),HB1⟩
 case round=>
  clear ho1 ho2 hc3 hz3 hoC
  obtain⟨k,b3,c3,zs,hk,rfl,hc3,hz3,hb3,hl3,Kv,HBr⟩:=hrel
  have h56:=hno.out k hk
  have e64:(n+1+k)%64<64:=Nat.mod_lt _ (by decide)
  by_cases hj:k<no
  ·have hl1:decide ((((n+1+k)%64:Nat):Int)≠56)=true:=by simp;omega
   have hxl:(xs++[128]++List.replicate k 0).length=n+1+k:=by rw[List.length_append,List.length_append,List.length_replicate,hxs];rfl
   have K1_2:Bk w.heap.size wr [(true,b3,U8 (xs++[128]++List.replicate k 0)++zs)]:=⟨.o hl3 (by omega) Kv.out<|trivial,by simp⟩
   go_upto_region 2 with fail
   refine Rn K1_2 HBr (cG 0 12 [_,_,_,_] []) (Oc4 g_mv (g_ln Tryz.underlying91) (g_bn (fun uZ=>rem_n _ _ (n+1+k) 64 uZ (by omega) (by decide))) (g_bn (fun uZ=>neq_it _ _ (((n+1+k)%64:Nat):Int) 56 true uZ hl1))) fun u2 HB2 sz2 K2=>?_
   simp only[sQ] at K2⊢
   go_upto_region 3 with fail
   refine Rf K2 HB2 [.all 2 ([])] [] [(0,16,_)] [(3,0),(3,2)] [(3,3)] [⟨1,17,some 2,PS w.heap.size 1 (U8 [0])⟩,⟨2,18,some 3,PH u2.heap.size b3 ti.size (n+1+k+1) (U8 (xs++[128]++List.replicate k 0)++U8 [0])⟩,⟨3,3,none,PH u2.heap.size b3 ti.size (n+1+k+1) (U8 (xs++[128]++List.replicate k 0)++U8 [0])⟩] [false] (Oc4 g_mv (g_bR 0 (PS w.heap.size 1 (U8 [0])) [0] [.int .u8 0] (U8 [0]) (bsB0 0) (fun u hu=>PS.new 1 _ _ u (Nat.le_trans HB2.size hu))) (g_pE 0 0 1 (PS w.heap.size 1 (U8 [0])) (U8 (xs++[128]++List.replicate k 0)) zs (U8 [0]) Tryz.underlying91 hti hzv (by rw[hsz];rfl) rfl (fun u y hy=>PS_NW hy) U8_mem (by rw[hsz];rfl) (by rw[hsz,Zc,hxl];omega) (by rw[hsz];omega) hc3 (by rw[hby];omega) (by omega)) (g_sE 1 2 (PH u2.heap.size b3 ti.size (n+1+k+1) (U8 (xs++[128]++List.replicate k 0)++U8 [0])))) fun u3 v3_1 hv3_1 v3_2 hv3_2 v3_3 hv3_3 HB3 sz3 K3=>?_
   simp only[sQ] at K3⊢
   obtain⟨b6,c6,zs6,rfl,hb6,hl6,hc6,hz6,Kv6⟩:=hv3_3 rfl
   rw[hsz] at hz6
   rw[<-U8_app,List.append_assoc,show ([0]:List Nat)=List.replicate 1 0 from rfl,List.replicate_append_replicate] at Kv6
   go_wp2
   refine⟨⟨k+1,b6,c6,zs6,by omega,rfl,hc6,by omega,by omega,hl6,Kv6,HB3⟩,?_⟩
   simp[lenV2]<;>omega
  ·have hkn:k=no:=by omega
   subst hkn
   have hl1:decide ((((n+1+k)%64:Nat):Int)≠56)=false:=by simp;omega
   have K1_2:Bk w.heap.size wr [(true,b3,U8 (xs++[128]++List.replicate k 0)++zs)]:=⟨.o hl3 (by omega) Kv.out<|trivial,by simp⟩
   go_upto_region 2 with fail
   refine Rn K1_2 HBr (cG 0 12 [_,_,_,_] []) (Oc4 g_mv (g_ln Tryz.underlying91) (g_bn (fun uZ=>rem_n _ _ (n+1+k) 64 uZ (by omega) (by decide))) (g_bn (fun uZ=>neq_it _ _ (((n+1+k)%64:Nat):Int) 56 false uZ hl1))) fun u2 HB2 sz2 K2=>?_
   simp only[sQ] at K2⊢
   go_upto_region 4 with fail
   refine Rn K2 HB2 (cG 0 19 [_,_,_,_] [(4,4,_)]) (Oc5 g_mv (g_ln Tryz.underlying91) (g_op (fun ev uZ he=>cvi64 uZ (by omega) rfl (he _ _ rfl))) (g_bn (fun uZ=>mul64 _ _ n 8 (n*8) uZ rfl (by omega))) g_as) fun u3 HB3 sz3 K3=>?_
   simp only[sQ] at K3⊢
   have hlt3:=(K3.lt 0)
   have hlo3:=HB3.size
   go_upto_region 5 with fail
   refine Rf K3 HB3 [] [] [] [] [] [⟨0,23,some 1,PF u3.heap.size 8 (U8 (List.replicate 8 0))⟩,⟨1,5,none,PF u3.heap.size 8 (U8 (List.replicate 8 0))⟩] [] (hst:=(.cons (fun _ _ _ h1 h2=>h2.stab h1)<| .cons (fun _ _ _ h1 h2=>h2.stab h1)<|Stab.nil)) (Oc2 (g_ms 0 (PF u3.heap.size 8 (U8 (List.replicate 8 0))) (mkB .i64 8 (by decide)) (fun u hu=>PF.new 8 _ _ u hu)) (g_sE 0 1 (PF u3.heap.size 8 (U8 (List.replicate 8 0))))) fun u4 v4_0 hv4_0 v4_1 hv4_1 HB4 _ K4=>?_
   simp only[sQ] at K4⊢
   obtain⟨bt,rfl,hot1,hot2,hotC⟩:=hv4_1 rfl
   have K4_3:Bk w.heap.size u4 [(true,b3,U8 (xs++[128]++List.replicate k 0)++zs),(true,bt,U8 (List.replicate 8 0))]:=⟨.o (K4.lt 0) (by omega) (K4.cv 0)<| .o hot2 (by omega) hotC<|trivial,by simp;omega⟩
   go_upto_region 6 with fail
   refine Rn K4_3 HB4 [(0,6,_)] (Oc1 g_as) fun u5 HB5 _ K5=>?_
   simp only[sQ] at K5⊢
   have hlb:=(K5.lt 0)
   have hlt:=(K5.lt 1)
   go_wp2_with fail
   go_loopw [6,4] (fun s6 s4 wr=> ∃(j:Nat),j<=8/\s6=iI (7 -(j:Int))/\s4=iU ((nF j:Nat):Int)/\b3<wr.heap.size/\Hid (CV wr b3 (U8 (xs++[128]++List.replicate k 0)++zs))/\bt<wr.heap.size/\Hid (CV wr bt (U8 (tF j)))/\Bw w wr) (fun s6 _ _=>(intOf s6+1).toNat)
   case atStart=>exact⟨0,by omega,rfl,(by rw[hn0.out];simp),(K5.lt 0),(K5.cv 0),(K5.lt 1),(by rw[ht0.out];exact(K5.cv 1)),HB5⟩
   case round=>
    clear Kv HBr hl1 hl3 hot2 hotC
    obtain⟨j,hj8,rfl,rfl,hl3,Kv,hlt,Kt,HBr⟩:=hrel
    by_cases hj:j<8
    ·have hl1:decide ((0:Int)<=7 -(j:Int))=true:=by simp;omega
     have hS:=hts.out j
     have hN:=hns.out j
     have hnl:=hnl.out j
     have htl:=(htB.out j).len
     obtain⟨tl,etl⟩: ∃x,tF j=x:=⟨_,rfl⟩
     obtain⟨q,eq⟩: ∃x,nF j=x:=⟨_,rfl⟩
     rw[etl] at hS htl Kt
     rw[eq] at hS hN hnl
     try rw[eq]
     have gi:=Yr tl (7 -j) (by omega)
     obtain⟨y,ey⟩: ∃x,tl.getD (7 -j) 0=x:=⟨_,rfl⟩
     rw[ey] at gi
     have e7:(7:Int) -(j:Int)=((7 -j:Nat):Int):=by omega
     try rw[e7]
     have e71:((7 -j:Nat):Int) -1=7 -((j+1:Nat):Int):=by omega
     have e256:q%256%256=q%256:=by omega
     rw[e7] at hl1
     have hS:Hid _:=hS
     have hN:Hid _:=hN
     clear etl eq ey
     have hnK:=K5.n
     simp at hnK
     have hoK0:=K5.lo 0
     have hoK1:=K5.lo 1
     have K5_4:Bk w.heap.size wr [(true,b3,U8 (xs++[128]++List.replicate k 0)++zs),(true,bt,U8 tl)]:=⟨.o hl3 (K5.lo 0) Kv.out<| .o hlt (K5.lo 1) Kt.out<|trivial,by simp;omega⟩
     go_upto_region 7 with fail
     refine Rn K5_4 HBr [(0,24,_),(1,25,_)] (Oc2 g_mv (g_bn (fun uZ=>Xn _ _ ((7 -j:Nat):Int) 0 _ uZ hl1))) fun u6 HB6 sz6 K6=>?_
     simp only[sQ] at K6⊢
     go_upto_region 9 with fail
     refine Rp K6 HB6 [.no,.all 6 (U8 (tl.set (7 -j) (q%256)))] [] (cG 0 28 [_,_,_,_,_,_] []) [] [] [] (Oc7 g_mv g_mv g_mv (g_bn (fun uZ=>rem64 _ _ q 256 uZ hnl (by decide))) (g_op (fun ev uZ he=>(cv648 uZ rfl (he _ _ rfl)).trans (by rw[e256]))) (g_ix (fun uZ=>ixB0 bt 8 8 (7 -j) (by omega) uZ)) (g_sw 1 (7 -j) s8 gi (Uf _ _ _))) fun u7 HB7 sz7 K7=>?_
     simp only[sQ] at K7⊢
     go_upto_region 10 with fail
     refine Rp K7 HB7 [] [] [(0,34,_),(1,35,_),(2,4,_)] [(2,0)] [(2,4)] [] (Oc3 g_mv (g_bn (fun uZ=>quo64 _ _ q 256 uZ hnl (by decide))) g_as) fun u8 HB8 _ K8=>?_
     simp only[sQ] at K8⊢
     go_upto_region 8 with fail
     refine Rp K8 HB8 [] [] [(0,26,_),(1,27,_),(2,6,_)] [(2,0)] [(2,6)] [] (Oc3 g_mv (g_bn (fun uZ=>Xf _ _ ((7 -j:Nat):Int) 1 (7 -((j+1:Nat):Int)) uZ e71 (by omega) (by omega))) g_as) fun u9 HB9 _ K9=>?_
     simp only[sQ] at K9⊢
     go_wp2
     refine⟨⟨j+1,by omega,rfl,by rw[hN.out],(K9.lt 0),(K9.cv 0),(K9.lt 1),(by rw[hS.out];exact(K9.cv 1)),HB9⟩,?_⟩
     simp[intOf]<;>omega
    ·have hj8:j=8:=by omega
     subst hj8
     have hl1:decide ((0:Int)<=7 -((8:Nat):Int))=false:=by decide
     have htl:=(htB.out 8).len
     have hnK:=K5.n
     simp at hnK
     have hoK0:=K5.lo 0
     have hoK1:=K5.lo 1
     have hxl:(xs++[128]++List.replicate k 0).length=n+1+k:=by rw[List.length_append,List.length_append,List.length_replicate,hxs];rfl
     have K5_4:Bk w.heap.size wr [(true,b3,U8 (xs++[128]++List.replicate k 0)++zs),(false,bt,U8 (tF 8))]:=⟨.o hl3 (K5.lo 0) Kv.out<| .c hlt Kt.out<|trivial,by simp;omega⟩
     go_upto_region 7 with fail
     refine Rn K5_4 HBr [(0,24,_),(1,25,_)] (Oc2 g_mv (g_bn (fun uZ=>Xn _ _ (7 -((8:Nat):Int)) 0 _ uZ hl1))) fun u6 HB6 sz6 K6=>?_
     simp only[sQ] at K6⊢
     go_upto_region 11 with fail
     refine Rf K6 HB6 [.all 2 ([])] [] [(0,36,_),(1,37,_)] [(3,2)] [] [⟨2,38,some 3,PH u6.heap.size b3 ti.size (n+1+k+8) (U8 (xs++[128]++List.replicate k 0)++U8 (tF 8))⟩,⟨3,2,none,PH u6.heap.size b3 ti.size (n+1+k+8) (U8 (xs++[128]++List.replicate k 0)++U8 (tF 8))⟩] [false] (Oc4 g_mv g_mv (g_pV 0 0 (U8 (xs++[128]++List.replicate k 0)) zs (U8 (tF 8)) Tryz.underlying91 hti hzv (by rw[hsz];rfl) rfl (fun f u kZ bZ=>NW_full htl (kZ.cv 1)) U8_mem (by rw[hsz,Zc,htl]) (by rw[hsz,Zc,hxl];omega) (by rw[hsz];omega) hc3 (by rw[hby];omega) (by omega)) (g_sE 0 1 (PH u6.heap.size b3 ti.size (n+1+k+8) (U8 (xs++[128]++List.replicate k 0)++U8 (tF 8))))) fun u7 v7_2 hv7_2 v7_3 hv7_3 HB7 sz7 K7=>?_
     simp only[sQ] at K7⊢
     obtain⟨b6,c6,zs6,rfl,hb6,hl6,hc6,hz6,Kv6⟩:=hv7_3 rfl
     rw[hsz] at hz6
     rw[<-U8_app,<-hpad.out] at Kv6
     have Kv6:Hid _:=Kv6
     have e6:(Value.slice (some ⟨b6,0,none⟩) (n+1+k+8) c6)= .slice (some ⟨b6,0,none⟩) N c6:=by rw[hN]
     clear hpad
     have e6:Hid _:=e6
     have hc6:N<=c6:=by omega
     have hz6:zs6.length=c6 -N:=by omega
     clear hN
     go_wp2
     refine bodyPost_ret (v:= .slice (some ⟨b6,0,none⟩) (n+1+k+8) c6) (by simp[results,Tryz.results162,go_sem]) rfl ⟨_,rfl,⟨b6,c6,zs6,(by first | rfl | exact e6.out),by omega,hl6,(by omega),by omega,Kv6.out⟩,HB7⟩
theorem cPadR(xs:List Nat)(v:Value)(w:World)(hin:IN w w.heap.size v xs)(hl:xs.length<=100000):
 Calls Tryz.prog 162 #[v] w fun e w'=> ∃v,e= .returned v/\PG w.heap.size 1 (pad xs).length (U8 (pad xs)) w' v/\Bw w w':=by
 have hin0:=hin
 obtain⟨sl,cap,gb,go,rfl,h1,h2,h3,h4⟩:=hin
 exact cPadR_core xs.length cap (nou xs.length) (pad xs).length sl xs (pad xs) (tlF xs.length) (fun j=>(xs.length*8)>>>(8*j)) w hl (nou_lt _) rfl (by rw[pad_len];omega) (fun k hk=>nou_56 _ k (by omega) hk) rfl (fun _=>rfl) (tlF_B _) rfl (fun j=>(shr_next _ j).symm) (fun j=>by
  have:(xs.length*8)>>>(8*j)<=xs.length*8:=by rw[Nat.shiftRight_eq_div_pow];exact Nat.div_le_self _ _
  omega) (pad_is xs) (fun u vs hB hv=>app_PZ hB.size (by omega) ((hin0.below hB).mono hB.size) hv)
end Go.Proofs.YtclafkfelkmigaaGreatDoor
