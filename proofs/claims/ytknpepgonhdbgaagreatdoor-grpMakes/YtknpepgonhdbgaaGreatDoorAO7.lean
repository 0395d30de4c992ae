import Derived.Test.YtknpepgonhdbgaaGreatDoorAO1
namespace Go.Proofs.YtknpepgonhdbgaaGreatDoor
set_option linter.unusedVariables false
set_option linter.unusedSimpArgs false
set_option maxRecDepth 100000
set_option maxHeartbeats 4000000
open Go.RowKit
def PD(da db:List Nat)(u:World)(v:Value):Prop:= ∃g o c,v= .slice (some ⟨g,o,none⟩) 64 c/\64<=c/\g<u.heap.size/\SB u g o da/\SB u g (o+32) db
def PDT(da db:List Nat)(u:World)(v:Value):Prop:= ∃y,v= .tuple #[y,.int .i64 0]/\PD da db u y
theorem PD.stab{da db:List Nat}{u u2:World}{x:Value}(hB:Bw u u2)(h:PD da db u x):PD da db u2 x:=by
 obtain⟨g,o,c,e,h1,h2,h3,h4⟩:=h
 exact⟨g,o,c,e,h1,Nat.lt_of_lt_of_le h2 hB.size,h3.below hB h2,h4.below hB h2⟩
theorem PDT.stab{da db:List Nat}{u u2:World}{x:Value}(hB:Bw u u2)(h:PDT da db u x):PDT da db u2 x:=by
 obtain⟨y,e,h1⟩:=h
 exact⟨y,e,h1.stab hB⟩
theorem slH32(g o c:Nat)(h:64<=c)(w:World):(Instr.sliceAt 36 (.slice (some ⟨g,o,none⟩) 64 c) none (some (.int .i64 32)) none).run Tryz.prog w= .ok (.slice (some ⟨g,o,none⟩) 32 c) w:=by
 have h3:(32:Int)<=c:=by omega
 have h5:32<=c:=by omega
 have e:c≠0:=by omega
 simp[Instr.sliceAt,Instr.slice,go_sem,Tryz.underlying36,h3,h5,h,e]
theorem slL32(g o c:Nat)(h:64<=c)(w:World):(Instr.sliceAt 36 (.slice (some ⟨g,o,none⟩) 64 c) (some (.int .i64 32)) none none).run Tryz.prog w= .ok (.slice (some ⟨g,o+32,none⟩) 32 (c -32)) w:=by
 have h3:(64:Int)<=c:=by omega
 have h5:32<=c:=by omega
 have e:c≠32:=by omega
 simp[Instr.sliceAt,Instr.slice,go_sem,Tryz.underlying36,h3,h5,h,e]
theorem slW4(b:Nat)(w:World):(Instr.sliceAt 64 (.pointer (some ⟨b,0,none⟩)) (some (.int .i64 4)) none none).run Tryz.prog w= .ok (.slice (some ⟨b,4,none⟩) 4 4) w:=by
 simp[Instr.sliceAt,Instr.slice,go_sem,Tryz.underlying64]
theorem slN4(b:Nat)(w:World):(Instr.sliceAt 24 (.pointer (some ⟨b,0,none⟩)) none none none).run Tryz.prog w= .ok (.slice (some ⟨b,0,none⟩) 4 4) w:=by
 simp[Instr.sliceAt,Instr.slice,go_sem,Tryz.underlying24]
theorem info_u64s:(Tryz.prog.info? 22).map (·.size)=some 1:=by kernel_rfl
theorem one_U(l:List Int): ∀v∈(l.map fun x=>Value.int .u64 x),v.oneCell'=true:=fun v hv=>by
 obtain⟨x,_,rfl⟩:=List.mem_map.1 hv
 rfl
theorem ent_mac_Derive:EnT 81:=fun _ _=>by kernel_rfl
theorem Ub:EnT 82:=fun _ _=>by kernel_rfl
theorem Wb:EnT 52:=fun _ _=>by kernel_rfl
theorem Vc:EnT 77:=fun _ _=>by kernel_rfl
theorem Ws:EnT 49:=fun _ _=>by kernel_rfl
theorem digest_core(vb:Value)(s:ByteArray)(da db:List Nat)(m r hi lo:Int)(w:World)
 (hD:Hid (∀u,Bw w u->Calls Tryz.prog 81 #[vb,.slice none 0 0,.string s,.int .i64 64] u fun e u'=> ∃v,e= .returned v/\PDT da db u' v/\Bw u u'))
 (hRa:Hid (∀u g o c,g<u.heap.size->SB u g o da->CC 82 #[.slice (some ⟨g,o,none⟩) 32 c] u (.tuple #[NV hi,.int .i64 0])))
 (hRb:Hid (∀u g o c,g<u.heap.size->SB u g o db->CC 82 #[.slice (some ⟨g,o,none⟩) 32 c] u (.tuple #[NV lo,.int .i64 0])))
 (hR:Hid (∀u,CC 61 #[A8 (D0 lo) (D1 lo) (D2 lo) (D3 lo) (D0 hi) (D1 hi) (D2 hi) (D3 hi),NV m] u (.tuple #[NV r,.int .i64 0]))):
 CC 52 #[.string s,vb,NV m] w (NV r):=by
 go_enter Tryz.func52,Tryz.ntmps52
 go_upto_region 1 with fail
 generalize hC:((w.alloc (.cells (LN m:List Value).toArray 24)).alloc (.cells (L0s:List Value).toArray 24))=v0 at *
 have HB0:Bw w v0:=by rw[<-hC];exact Z0 (Z0 (Z5 w) _) _
 have K0:Bk w.heap.size v0 [(true,w.heap.size,LN m),(true,w.heap.size+1,L0s)]:=by rw[<-hC];exact(Bk.nil _ w).ad.ad
 clear hC
 refine rgF K0 HB0 HB0.size [] [] [(0,17,vb),(1,18,.string s),(5,21,.int .i64 0),(7,8,.int .i64 0)] [] [] [⟨2,19,none,PDT da db⟩,⟨3,16,none,PDT da db⟩,⟨4,20,some 6,PD da db⟩,⟨6,7,none,PD da db⟩] [] (.cons (fun _ _ _ h1 h2=>h2.stab h1)<| .cons (fun _ _ _ h1 h2=>h2.stab h1)<| .cons (fun _ _ _ h1 h2=>h2.stab h1)<| .cons (fun _ _ _ h1 h2=>h2.stab h1)<|Stab.nil) ?_ ?_
 ·exact oc g_mv<|oc g_mv<|oc (g_cE 0 (PDT da db) ent_mac_Derive (fun u hB hs=>hD.out u hB))<|oc (g_mE 0 1 (PDT da db))<|oc (g_xE 1 2 (PDT da db) (PD da db) (fun u v ⟨y,e,h⟩=>⟨_,y,e,rfl,h⟩))<|oc (g_xV 1 (PDT da db) (fun u v ⟨y,e,h⟩=>⟨_,e,rfl⟩))<|oc (g_sE 2 3 (PD da db))<|oc g_as on
 intro u1 v1_2 hv1_2 v1_3 hv1_3 v1_4 hv1_4 v1_6 hv1_6 HB1 sz1 K1
 simp only[sQ] at K1⊢
 clear K0 HB0
 obtain⟨gd,od,cd,rfl,hcd,hgd,hSa,hSb⟩:=hv1_6 rfl
 have hR1:Hid (∀u,Bw u1 u->CC 82 #[.slice (some ⟨gd,od,none⟩) 32 cd] u (.tuple #[NV hi,.int .i64 0])):=fun u hB=>hRa.out u gd od cd (Nat.lt_of_lt_of_le hgd hB.size) (hSa.below hB hgd)
 have hR2:Hid (∀u,Bw u1 u->CC 82 #[.slice (some ⟨gd,od+32,none⟩) 32 (cd -32)] u (.tuple #[NV lo,.int .i64 0])):=fun u hB=>hRb.out u gd (od+32) (cd -32) (Nat.lt_of_lt_of_le hgd hB.size) (hSb.below hB hgd)
 clear hSa hSb
 have HBz:Bw u1 u1:=Below.refl _ _
 have hw1:=(K1.lt 0)
 have hw2:=(K1.lt 1)
 have hnK:=K1.n
 simp at hnK
 have K1_1:Bk u1.heap.size u1 [(false,w.heap.size,LN m),(false,w.heap.size+1,L0s)]:=⟨.c (K1.lt 0) (K1.cv 0)<| .c (K1.lt 1) (K1.cv 1)<|trivial,by simp<;>omega⟩
 go_upto_region 2 with fail
 refine rgP K1_1 HBz HBz.size [] [(6,9,L0s,some (7,LN hi))] [(0,23,.slice (some ⟨gd,od,none⟩) 64 cd),(1,24,.slice (some ⟨gd,od,none⟩) 32 cd),(2,25,.tuple #[NV hi,.int .i64 0]),(3,22,.tuple #[NV hi,.int .i64 0]),(4,26,NV hi),(5,27,.int .i64 0),(8,10,.int .i64 0)] [(7,6)] [] [] ?_ ?_
 ·exact oc g_mv<|oc (g_sl (fun uZ=>slH32 gd od cd hcd uZ))<|oc (g_cb Ub (fun uZ bZ=>hR1.out uZ bZ))<|oc g_mv<|oc g_ex<|oc g_ex<|oc (g_al 0 aN)<|oc (g_sn 0 iN)<|oc g_as on
 intro u2 b2_6 HB2 sz2 K2
 simp only[sQ] at K2⊢
 go_upto_region 3 with fail
 refine rgP K2 HB2 HB2.size [] [(6,11,L0s,some (7,LN lo))] [(0,29,.slice (some ⟨gd,od,none⟩) 64 cd),(1,30,.slice (some ⟨gd,od+32,none⟩) 32 (cd -32)),(2,31,.tuple #[NV lo,.int .i64 0]),(3,28,.tuple #[NV lo,.int .i64 0]),(4,32,NV lo),(5,33,.int .i64 0),(8,12,.int .i64 0)] [(7,6)] [] [] ?_ ?_
 ·exact oc g_mv<|oc (g_sl (fun uZ=>slL32 gd od cd hcd uZ))<|oc (g_cb Ub (fun uZ bZ=>hR2.out uZ bZ))<|oc g_mv<|oc g_ex<|oc g_ex<|oc (g_al 0 aN)<|oc (g_sn 0 iN)<|oc g_as on
 intro u3 b3_6 HB3 sz3 K3
 simp only[sQ] at K3⊢
 clear K2 HB2
 go_upto_region 4 with fail
 refine rgP K3 HB3 HB3.size [] [(2,13,L0w,some (3,[.int .u64 (D0 lo),.int .u64 (D1 lo),.int .u64 (D2 lo),.int .u64 (D3 lo),.int .u64 (0),.int .u64 (0),.int .u64 (0),.int .u64 (0)]))] [(0,34,NV lo),(1,35,A8 (D0 lo) (D1 lo) (D2 lo) (D3 lo) (0) (0) (0) (0))] [(3,2)] [] [] ?_ ?_
 ·exact oc (g_ld 3 uN iN)<|oc (g_cl Zd (fun uZ=>Widen_any _ _ _ _ uZ))<|oc (g_al 0 aW)<|oc (g_sn 0 iW) on
 intro u4 b4_2 HB4 sz4 K4
 simp only[sQ] at K4⊢
 clear K3 HB3
 go_upto_region 5 with fail
 refine rgD K4 HB4 HB4.size [.no,.no,.no,.no,.all 2 ([.int .u64 (D0 lo),.int .u64 (D1 lo),.int .u64 (D2 lo),.int .u64 (D3 lo),.int .u64 (D0 hi),.int .u64 (D1 hi),.int .u64 (D2 hi),.int .u64 (D3 hi)])] [] [(0,36,.slice (some ⟨b4_2,4,none⟩) 4 4),(1,37,.slice (some ⟨b2_6,0,none⟩) 4 4),(2,38,.int .i64 4)] [] [] [] ?_ ?_
 ·exact oc (g_sl (fun uZ=>slW4 b4_2 uZ))<|oc (g_sl (fun uZ=>slN4 b2_6 uZ))<|oc (g_cp 4 (sl:=4) (dl:=4) [.int .u64 (D0 lo),.int .u64 (D1 lo),.int .u64 (D2 lo),.int .u64 (D3 lo)] [.int .u64 0,.int .u64 0,.int .u64 0,.int .u64 0] [] (LN hi) Tryz.underlying93 info_u64s rfl (fun f u kZ bZ j v hj=>by rw[Addr.add0];exact((KC.cv kZ 2) j v hj).1) (one_U [D0 hi,D1 hi,D2 hi,D3 hi]) rfl rfl) on
 intro u5 HB5 sz5 K5
 simp only[sQ] at K5⊢
 clear K4 HB4
 go_upto_region 6 with fail
 refine rgP K5 HB5 HB5.size [] [(6,14,L0s,some (7,LN r))] [(0,40,.agg #[.int .u64 (D0 lo),.int .u64 (D1 lo),.int .u64 (D2 lo),.int .u64 (D3 lo),.int .u64 (D0 hi),.int .u64 (D1 hi),.int .u64 (D2 hi),.int .u64 (D3 hi)]),(1,41,NV m),(2,42,.tuple #[NV r,.int .i64 0]),(3,39,.tuple #[NV r,.int .i64 0]),(4,43,NV r),(5,44,.int .i64 0),(8,15,.int .i64 0)] [(7,6)] [] [] ?_ ?_
 ·exact oc (g_ld 4 uW iW)<|oc (g_ld 0 uN iN)<|oc (g_cl Zl (fun uZ=>hR.out uZ))<|oc g_mv<|oc g_ex<|oc g_ex<|oc (g_al 0 aN)<|oc (g_sn 0 iN)<|oc g_as on
 intro u6 b6_6 HB6 sz6 K6
 simp only[sQ] at K6⊢
 clear K5 HB5
 have hkr:=(K6.cv 5)
 have hk6:=(K6.cv 1)
 obtain⟨a0,-⟩:=hkr 0 _ rfl
 obtain⟨k0,f0⟩:=hk6 0 _ rfl
 obtain⟨a1,-⟩:=hkr 1 _ rfl
 obtain⟨k1,f1⟩:=hk6 1 _ rfl
 obtain⟨a2,-⟩:=hkr 2 _ rfl
 obtain⟨k2,f2⟩:=hk6 2 _ rfl
 obtain⟨a3,-⟩:=hkr 3 _ rfl
 obtain⟨k3,f3⟩:=hk6 3 _ rfl
 replace hkr:Hid _:=hkr
 replace hk6:Hid _:=hk6
 have hBf:Bw w u6:=Zt HB1 HB6
 go_wp2
 exact bodyPost_ret (v:=NV r) (by simp[results,Tryz.results52,go_sem,k0,k1,k2,k3]) rfl ⟨rfl,((((hBf).setCell (p:=⟨w.heap.size+1,0,none⟩) (Nat.le_succ _) _).setCell (p:=⟨w.heap.size+1,1,none⟩) (Nat.le_succ _) _).setCell (p:=⟨w.heap.size+1,2,none⟩) (Nat.le_succ _) _).setCell (p:=⟨w.heap.size+1,3,none⟩) (Nat.le_succ _) _⟩
theorem cDigest(bs:List Nat)(v:Value)(s:ByteArray)(m:Int)(w:World)(hV:GV w)(hm:In m)(hm0:m≠0)(hin:IN w w.heap.size v bs)(hb: ∀x∈bs,x<256)(hl:bs.length<=1000)(hs:s.size<=1000):
 CC 52 #[.string s,v,NV m] w (NV (dgN bs s m)):=by
 obtain⟨d,ed⟩: ∃d,exY (mac [] bs) (txt s) 64=d:=⟨_,rfl⟩
 have hdl:d.length=64:=by rw[<-ed];exact exY64 _ _
 have hdb: ∀x∈d,x<256:=by rw[<-ed];exact exY_m _ _ _
 have hta:(d.take 32).length=32:=by rw[List.length_take];omega
 have htb:(d.drop 32).length=32:=by rw[List.length_drop];omega
 have hba: ∀x∈d.take 32,x<256:=fun x hx=>hdb x (List.mem_of_mem_take hx)
 have hbb: ∀x∈d.drop 32,x<256:=fun x hx=>hdb x (List.mem_of_mem_drop hx)
 have ih:=num_lt _ hta hba
 have il:=num_lt _ htb hbb
 have e1:dgN bs s m=(((num8 (d.drop 32):Nat):Int)+((num8 (d.take 32):Nat):Int)*115792089237316195423570985008687907853269984665640564039457584007913129639936)%m:=by
  unfold dgN
  rw[ed]
  have h:=nu_app (d.take 32) (d.drop 32)
  rw[List.take_append_drop,htb] at h
  have e2:(256^32:Nat)=115792089237316195423570985008687907853269984665640564039457584007913129639936:=by decide+kernel
  rw[e2] at h
  generalize num8 d=x at h
  generalize num8 (d.take 32)=y at h
  generalize num8 (d.drop 32)=z at h
  rw[show (x:Int)=(z:Int)+(y:Int)*115792089237316195423570985008687907853269984665640564039457584007913129639936 by omega]
 rw[e1]
 refine digest_core v s (d.take 32) (d.drop 32) m _ _ _ w (fun u hB=>?_) (fun u g o c hg hS=>cReadN _ g o c u hta hba hg hS) (fun u g o c hg hS=>cReadN _ g o c u htb hbb hg hS) (fun u=>?_)
 ·have hw:0<u.heap.size:=by have:=hV.sz;have:=hB.size;omega
  refine(cDerive bs [] v (.slice none 0 0) s 64 u (hV.below hB hV.sz) ((IN.below hin hB).mono hB.size) (IN_nil u hw) (fun n c e=>by cases e;rfl) hb (by simp) hl (by simp) hs).mono ?_
  rintro e u2 ⟨y,rfl,⟨z,rfl,hz⟩,hB2⟩
  rw[ed] at hz
  obtain⟨sl,cap,gb,go,rfl,h1,h2,h3,h4⟩:=hz
  obtain rfl:=h2.resolve_left (by omega)
  rw[hdl] at h1⊢
  refine⟨_,rfl,⟨_,rfl,gb,go,cap,rfl,h1,h3,fun j hj=>?_,fun j hj=>?_⟩,hB2⟩
  ·rw[hta] at hj
   rw[h4 j (by omega)]
   simp[List.getD_eq_getElem?_getD,List.getElem?_take,hj]
  ·rw[htb] at hj
   have:=h4 (32+j) (by omega)
   rw[Nat.add_assoc,this]
   simp[List.getD_eq_getElem?_getD,List.getElem?_drop]
 ·have:=Xf (n:=((num8 (d.drop 32):Nat):Int)+((num8 (d.take 32):Nat):Int)*115792089237316195423570985008687907853269984665640564039457584007913129639936) m u ⟨by have:=ih.1;have:=il.1;omega,by have:=ih.2;have:=il.2;omega⟩ hm hm0
  rw[WV_cat _ _ il ih] at this
  exact this
section
abbrev Z4:List Value:=[.int .u64 0,.int .u64 0,.int .u64 0,.int .u64 0]
def PIn(ys:List Nat)(u:World)(v:Value):Prop:=IN u u.heap.size v ys
theorem PIn.stab{ys:List Nat}{u u2:World}{x:Value}(hB:Bw u u2)(h:PIn ys u x):PIn ys u2 x:=(IN.below h hB).mono hB.size
def P8(lo:Nat)(xs:List Nat)(u:World)(v:Value):Prop:= ∃b,v= .slice (some ⟨b,0,none⟩) 8 8/\lo<=b/\b<u.heap.size/\CV u b (U8 xs)
theorem P8.stab{lo:Nat}{xs:List Nat}{u u2:World}{x:Value}(hB:Bw u u2)(h:P8 lo xs u x):P8 lo xs u2 x:=by
 obtain⟨b,e,h1,h2,h3⟩:=h
 exact⟨b,e,h1,Nat.lt_of_lt_of_le h2 hB.size,h3.below hB h2⟩
theorem bs8c(i:Nat)(w:World):(Instr.buildSlice 36 8 ([0,1,2,3,4,5,6,7].zip [.int .u8 0,.int .u8 0,.int .u8 0,.int .u8 0,.int .u8 0,.int .u8 0,.int .u8 0,.int .u8 (i:Int)]).toArray).run Tryz.prog w= .ok (.slice (some ⟨w.heap.size,0,none⟩) 8 8) (w.alloc (.cells (U8 [0,0,0,0,0,0,0,i]).toArray 5)):=by kernel_rfl
theorem app_P8{lo:Nat}{xs ys:List Nat}{b:Nat}{y:Value}{ty:TypeId}{u:World}(hlo:lo<=b)(hlu:lo<=u.heap.size)(hb:b<u.heap.size)(hxl:xs.length=8)(hl:ys.length<=100000)(hy:IN u u.heap.size y ys)(h:CV u b (U8 xs)):
 ∃v u',(Builtin.append_ #[36,36] ty #[.slice (some ⟨b,0,none⟩) 8 8,y]).run Tryz.prog u= .ok v u'/\Bw u u'/\IN u' u'.heap.size v (xs++ys):=by
 obtain⟨ti,hti,htm⟩:=Option.map_eq_some_iff.1 infoB
 simp only[Prod.mk.injEq] at htm
 obtain⟨hzv,hsz,hby⟩:=htm
 obtain⟨v',u',hr,hB,hg⟩:=run_appF (P:=Tryz.prog) u (ty:=ty) Tryz.underlying36 hti hzv (by rw[hsz];rfl) (n:=8) (m:=ys.length) (xs:=U8 xs) (news:=U8 ys) h hlo hlu hb (by rw[hsz,Z2,hxl]) (IN_NW hy) (by rw[hsz,Z2];omega) (by rw[hby];omega) (by omega)
 rw[hsz,<-W2] at hg
 exact⟨v',u',hr,hB,PG_in (by rw[List.length_append,hxl];exact hg)⟩
theorem lss_k(p q:Operand)(x y:Int)(b:Bool)(w:World)(h:decide (x<y)=b):(do eqGuard .lss 3 p q (.int .i64 x) (.int .i64 y);binOp .lss 3 (.int .i64 x) (.int .i64 y):Sem Value).run Tryz.prog w= .ok (.bool b) w:=by
 subst h;go_simp
theorem gtr_k(p q:Operand)(x y:Int)(b:Bool)(w:World)(h:decide (y<x)=b):(do eqGuard .gtr 3 p q (.int .i64 x) (.int .i64 y);binOp .gtr 3 (.int .i64 x) (.int .i64 y):Sem Value).run Tryz.prog w= .ok (.bool b) w:=by
 subst h;go_simp
theorem bd1m(w:World):(Instr.build 24 [(0,.int .u64 1)].toArray).run Tryz.prog w= .ok (NV 1) w:=by kernel_rfl
theorem cvi8k{o:Oper}{ev:Operand->Value}{x:Operand}{n:Nat}(u:World)(h1:n<256)(ho:o.op= .convert 3 5 x)(hx:ev x= .int .i64 (n:Int)):(execOp ev o).run Tryz.prog u= .ok (.value (.int .u8 (n:Int))) u:=by
 have e1:IntKind.u8.wrap (n:Int)=(n:Int):=wraps_u8 _ (by omega) (by omega)
 unfold execOp;rw[ho];simp only[hx];go_simp
section
variable {R:Rg} {P:Program} {ops:Array Oper} {Q:Exit->Act->World->Prop} {f:Nat->Bool} {t:Nat->Value} {u:World} {a:Act} {i:Nat} {o:Oper}
theorem g_aK(n:Nat)(p:World->Value->Prop){T:TypeId}{x y:Operand}{vx vy:Value}(h: ∀f u,KC f u R.lo R.base R.es->R.base<=u.heap.size->Below R.lo R.w u-> ∃v u',(Builtin.append_ #[T,T] o.type #[vx,vy]).run P u= .ok v u'/\Bw u u'/\p u' v)(hop:o.op= .call {callee:= .builtin .append,args:=[x,y].toArray,argTypes:=[T,T].toArray}:=by rfl)(hx:evR R i o x=some vx:=by rfl)(hy:evR R i o y=some vy:=by rfl)(hn:(R.E[n]?).map (·.p)=some p:=by rfl)(hc:R.chkE ops n i o=true:=by rfl):OG R P ops Q i o:=fun f t u a X=>by
 obtain⟨d,q,hd,hq,_,_,_,_,_,_,_,_,hw⟩:=Zp hc
 obtain⟨v,u',hr,hB,hp⟩:=h f u X.I.2.1 X.I.1.sz X.I.1.bel
 exact X.go hw fun K hK=>wp_app hop (X.ev hx) (X.ev hy) hr (hK _ _ (X.putE hc (fun q hq=>by rw[hq] at hn;cases hn;exact hp) hB))
theorem g_cWg(m:Nat)(p:World->Value->Prop){N:FuncId}{j d:Nat}{args:List Operand}{tys:Array TypeId}{v:Value}(vs:Value->List Value)(hr: ∀(vs:Array Value) (w:World),(callFunc N vs).run P w= .ok (.enter N vs) w)
 (hcall: ∀(u:World) (y:Value),Below R.lo R.w u->p u y->Calls P N (vs y).toArray u fun e u'=>e= .returned v/\Bw u u')(hop:o.op= .call {callee:= .value (.func N),args:=args.toArray,argTypes:=tys}:=by rfl)(hm:R.E[m]?=some ⟨j,d,some i,p⟩:=by rfl)(hx: ∀y,args.mapM (ev1 R i o d y)=some (vs y):=by intro y;rfl)(hd:(Yc o j&&R.S.contains d)=true:=by rfl)(hv:some v=Zu i R.G:=by rfl)(hc:R.chk ops i o=true:=by rfl):OG R P ops Q i o:=fun f t u a X=>by
 rw[Bool.and_eq_true,List.contains_iff_mem] at hd
 obtain⟨h2,h4⟩:=hd
 have hy:p u (t d):=X.val hm h2 rfl
 exact X.go (Ys hc).choose_spec.2.2.2.2.2.2.2 fun K hK=>Wi hop (evs1 X h4 (hx (t d))) hr (hcall u (t d) X.I.1.bel hy) fun w' hB=>hK _ _ (X.put hv hc (X.I.1.call hB) (X.I.2.1.below hB X.I.1.sz) hB)
end
theorem Yr:EnT 50:=fun _ _=>by kernel_rfl
theorem xMember_core(p q g h rv:Int)(bs:List Nat)(vb:Value)(f sq cf:Nat->Int)(w:World)(hin:IN w w.heap.size vb bs)(hbl:bs.length<=100000)
 (hC:Hid (∀u,CC 16 #[GX p q g h] u (.int .i64 0)))
 (hD:Hid (∀(k:Nat) u y,k<64->Bw w u->PIn ([0,0,0,0,0,0,0,k]++bs) u y->CC 50 #[y,.string ⟨#[109,101,109,98,101,114]⟩,NV p] u (NV (f k))))
 (hM:Hid (∀(k:Nat) u,k<64->CC 51 #[NV (f k),NV (f k),NV p] u (.tuple #[NV (sq k),.int .i64 0])))
 (hQ:Hid (∀(k:Nat) u,k<64->CC 34 #[NV (sq k),NV 1] u (.int .i64 (cf k))))
 (hc:Hid (∀k,k<64->(1<sq k->0<cf k)/\(¬1<sq k->cf k<=0)))
 (hE:Hid (∀k,k<64->(∀j,j<k->sq j<=1)->1<sq k->sq k=rv))(hE2:Hid ((∀j,j<64->sq j<=1)->rv=1)):
 CC 24 #[GX p q g h,vb] w (.tuple #[NV rv,.int .i64 0]):=by
 go_enter Tryz.func24,Tryz.ntmps24
 go_upto_region 1 with fail
 generalize hC:((w.alloc (.cells (GE p q g h:List Value).toArray 26)).alloc (.cells (L0s:List Value).toArray 24))=v0 at *
 have HB0:Bw w v0:=by rw[<-hC];exact Z0 (Z0 (Z5 w) _) _
 have K0:Bk w.heap.size v0 [(true,w.heap.size,GE p q g h),(true,w.heap.size+1,L0s)]:=by rw[<-hC];exact(Bk.nil _ w).ad.ad
 clear hC
 refine rgP K0 HB0 HB0.size [] [] [(0,11,GX p q g h),(1,12,.int .i64 0),(2,13,.bool false)] [] [] [] ?_ ?_
 ·exact oc (g_ld 0 Tryz.underlying26 Z1)<|oc (g_cl Zg (fun uZ=>hC.out uZ))<|oc (g_bn (fun uZ=>neq_i _ _ _ 0 0 _ uZ rfl)) on
 intro u1 HB1 sz1 K1
 simp only[sQ] at K1⊢
 clear K0 HB0
 go_upto_region 3 with fail
 refine rgP K1 HB1 HB1.size [] [] [(0,6,(Go.Value.int Go.IntKind.i64 0))] [] [] [] ?_ ?_
 ·exact oc g_as on
 intro u2 HB2 sz2 K2
 simp only[sQ] at K2⊢
 clear K1 HB1
 go_wp2_with fail
 go_loopw [6] (fun s6 wr=> ∃(k:Nat),k<=64/\s6= .int .i64 (k:Int)/\Hid (∀j,j<k->sq j<=1)/\Bw w wr/\CV wr (w.heap.size) (GE p q g h)/\w.heap.size<wr.heap.size/\CV wr (w.heap.size+1) (L0s)/\w.heap.size+1<wr.heap.size) (fun s6 _=>64 -(intOf s6).toNat)
 case atStart=>exact⟨0,by omega,rfl,fun j hj=>absurd hj (by omega),HB2,(K2.cv 0),(K2.lt 0),(K2.cv 1),(K2.lt 1)⟩
 case round=>
  obtain⟨k,hk,rfl,hall,HBr,Kp,lp,Kr,lr⟩:=hrel
  clear HB2
  have hnK:=K2.n
  simp at hnK
  by_cases hj:k<64
  ·have hl:decide ((k:Int)<64)=true:=by simp;omega
   have hDg:=fun u y (hB:Bw w u) h=>hD.out k u y hj hB h
   have hMu:=fun u=>hM.out k u hj
   have hCp:=fun u=>hQ.out k u hj
   have hc1:=hc.out k hj
   have hev:=hE.out k hj hall.out
   have hall2: ¬1<sq k->Hid (∀j,j<k+1->sq j<=1):=fun hb j hj2=>by
    by_cases e:j=k
    ·subst e;omega
    ·exact hall.out j (by omega)
   have hDg:Hid _:=hDg
   have hMu:Hid _:=hMu
   have hCp:Hid _:=hCp
   have hk64:(k:Int)<64:=by omega
   obtain⟨x,ex⟩: ∃x,f k=x:=⟨_,rfl⟩
   obtain⟨y,ey⟩: ∃y,sq k=y:=⟨_,rfl⟩
   obtain⟨c,ec⟩: ∃c,cf k=c:=⟨_,rfl⟩
   rw[ex] at hDg hMu
   rw[ey] at hMu hCp hev hall2 hc1
   rw[ec] at hCp hc1
   clear ex ey ec
   by_cases hy1:1<y
   ·have hcb:decide (0<c)=true:=by have:=hc1.1 (by omega);simp;omega
    have hrv:=hev hy1
    subst hrv
    have K2_1:Bk w.heap.size wr [(false,w.heap.size,GE p q g h),(true,w.heap.size+1,L0s)]:=⟨.c lp Kp<| .o lr (K2.lo 1) Kr<|trivial,by simp<;>omega⟩
    go_upto_region 4 with fail
    refine rgP K2_1 HBr HBr.size [] [] [(0,15,.int .i64 (k:Int)),(1,16,.bool true)] [] [] [] ?_ ?_
    ·exact oc g_mv<|oc (g_bn (fun uZ=>lss_k _ _ (k:Int) 64 _ uZ hl)) on
    intro u3 HB3 sz3 K3
    simp only[sQ] at K3⊢
    go_upto_region 6 with fail
    refine rgF K3 HB3 HB3.size [] [] [(0,19,.int .i64 (k:Int)),(1,20,.int .u8 (k:Int))] [] [] [⟨2,21,some 3,P8 u3.heap.size [0,0,0,0,0,0,0,k]⟩,⟨3,7,none,P8 u3.heap.size [0,0,0,0,0,0,0,k]⟩] [] (.cons (fun _ _ _ h1 h2=>h2.stab h1)<| .cons (fun _ _ _ h1 h2=>h2.stab h1)<|Stab.nil) ?_ ?_
    ·exact oc g_mv<|oc (g_op (fun ev uZ he=>cvi8k uZ (by omega) rfl (he _ _ rfl)))<|oc (g_bR 0 (P8 u3.heap.size [0,0,0,0,0,0,0,k]) [0,1,2,3,4,5,6,7] [.int .u8 0,.int .u8 0,.int .u8 0,.int .u8 0,.int .u8 0,.int .u8 0,.int .u8 0,.int .u8 (k:Int)] (U8 [0,0,0,0,0,0,0,k]) (bs8c k) (fun u hu=>⟨_,rfl,hu,by simp,CV.new u _ _⟩))<|oc (g_sE 0 1 (P8 u3.heap.size [0,0,0,0,0,0,0,k])) on
    intro u4 v4_2 hv4_2 v4_3 hv4_3 HB4 sz4 K4
    simp only[sQ] at K4⊢
    clear HB3
    obtain⟨b8,rfl,l1,l2,l3⟩:=hv4_3 rfl
    have K4xe8:=Bk.more3 K3 K4 l1 l2 l3 (by intro x hx;first | (simp at hx;done) | (simp at hx⊢;omega))
    simp only[aK] at K4xe8
    clear K4
    go_upto_region 7 with fail
    refine rgE K4xe8 HB4 HB4.size [] [(6,8,L0s,some (7,LN x))] [(0,22,.slice (some ⟨b8,0,none⟩) 8 8),(1,23,vb),(3,25,.pointer (some ⟨w.heap.size,0,none⟩)),(4,26,NV p),(5,27,NV x)] [(7,6)] [] [⟨2,24,some 5,PIn ([0,0,0,0,0,0,0,k]++bs)⟩] [true,true,false] (.cons (fun _ _ _ h1 h2=>h2.stab h1)<|Stab.nil) ?_ ?_
    ·exact oc g_mv<|oc g_mv<|oc (g_aK 0 (PIn ([0,0,0,0,0,0,0,k]++bs)) (fun f u kZ hs bZ=>app_P8 (lo:=0) (Nat.zero_le _) (Nat.zero_le _) (Nat.lt_of_lt_of_le (KC.get kZ (k:=2) rfl).1 hs) rfl hbl ((IN.below hin bZ).mono bZ.size) (KC.cv kZ 2)))<|oc (g_fd (fun uZ=>fdG0 _ uZ))<|oc (g_lo 0 0 uN iN)<|oc (g_cWg 0 (PIn ([0,0,0,0,0,0,0,k]++bs)) (fun y=>[y,.string ⟨#[109,101,109,98,101,114]⟩,NV p]) Yr (fun u y bZ hy=>hDg.out u y bZ hy))<|oc (g_al 0 aN)<|oc (g_sn 0 iN) on
    intro u5 b5_6 v5_2 hv5_2 HB5 sz5 K5
    simp only[sQ] at K5⊢
    clear HB4
    go_upto_region 8 with fail
    refine rgP K5 HB5 HB5.size [] [(8,9,L0s,some (9,LN y))] [(0,29,NV x),(1,30,NV x),(2,31,.pointer (some ⟨w.heap.size,0,none⟩)),(3,32,NV p),(4,33,.tuple #[NV y,.int .i64 0]),(5,28,.tuple #[NV y,.int .i64 0]),(6,34,NV y),(7,35,.int .i64 0),(10,10,.int .i64 0)] [(9,8)] [] [true,true,false] ?_ ?_
    ·exact oc (g_ld 2 uN iN)<|oc (g_ld 2 uN iN)<|oc (g_fd (fun uZ=>fdG0 _ uZ))<|oc (g_lo 0 0 uN iN)<|oc (g_cl Zm (fun uZ=>hMu.out uZ))<|oc g_mv<|oc g_ex<|oc g_ex<|oc (g_al 0 aN)<|oc (g_sn 0 iN)<|oc g_as on
    intro u6 b6_8 HB6 sz6 K6
    simp only[sQ] at K6⊢
    clear K5 HB5
    go_upto_region 9 with fail
    refine rgP K6 HB6 HB6.size [] [] [(0,36,NV y),(1,37,NV 1),(2,38,.int .i64 c),(3,39,.bool true)] [] [] [] ?_ ?_
    ·exact oc (g_ld 2 uN iN)<|oc (g_bd (fun uZ=>bd1m uZ))<|oc (g_cl Zh (fun uZ=>hCp.out uZ))<|oc (g_bn (fun uZ=>gtr_k _ _ c 0 _ uZ hcb)) on
    intro u7 HB7 sz7 K7
    simp only[sQ] at K7⊢
    clear K6 HB6
    go_upto_region 10 with fail
    refine rgP K7 HB7 HB7.size [.no,.all 1 (LN y)] [] [(0,40,NV y),(2,5,(Go.Value.int Go.IntKind.i64 0))] [] [] [true,true,false] ?_ ?_
    ·exact oc (g_ld 2 uN iN)<|oc (g_st 1 iN)<|oc g_as on
    intro u8 HB8 sz8 K8
    simp only[sQ] at K8⊢
    clear K7 HB7
    have c4:=(K8.cv 1).n4
    go_wp2
    refine bodyPost_ret (v:= .tuple #[NV y,.int .i64 0]) (by simp[results,Tryz.results24,go_sem,c4]) rfl ⟨rfl,HB8⟩
   ·have hcb:decide (0<c)=false:=by have:=hc1.2 (by omega);simp;omega
    have hall3:=hall2 hy1
    have hall3:Hid _:=hall3
    clear hall2 hev
    have K2_1:Bk w.heap.size wr [(false,w.heap.size,GE p q g h),(true,w.heap.size+1,L0s)]:=⟨.c lp Kp<| .o lr (K2.lo 1) Kr<|trivial,by simp<;>omega⟩
    go_upto_region 4 with fail
    refine rgP K2_1 HBr HBr.size [] [] [(0,15,.int .i64 (k:Int)),(1,16,.bool true)] [] [] [] ?_ ?_
    ·exact oc g_mv<|oc (g_bn (fun uZ=>lss_k _ _ (k:Int) 64 _ uZ hl)) on
    intro u3 HB3 sz3 K3
    simp only[sQ] at K3⊢
    go_upto_region 6 with fail
    refine rgF K3 HB3 HB3.size [] [] [(0,19,.int .i64 (k:Int)),(1,20,.int .u8 (k:Int))] [] [] [⟨2,21,some 3,P8 u3.heap.size [0,0,0,0,0,0,0,k]⟩,⟨3,7,none,P8 u3.heap.size [0,0,0,0,0,0,0,k]⟩] [] (.cons (fun _ _ _ h1 h2=>h2.stab h1)<| .cons (fun _ _ _ h1 h2=>h2.stab h1)<|Stab.nil) ?_ ?_
    ·exact oc g_mv<|oc (g_op (fun ev uZ he=>cvi8k uZ (by omega) rfl (he _ _ rfl)))<|oc (g_bR 0 (P8 u3.heap.size [0,0,0,0,0,0,0,k]) [0,1,2,3,4,5,6,7] [.int .u8 0,.int .u8 0,.int .u8 0,.int .u8 0,.int .u8 0,.int .u8 0,.int .u8 0,.int .u8 (k:Int)] (U8 [0,0,0,0,0,0,0,k]) (bs8c k) (fun u hu=>⟨_,rfl,hu,by simp,CV.new u _ _⟩))<|oc (g_sE 0 1 (P8 u3.heap.size [0,0,0,0,0,0,0,k])) on
    intro u4 v4_2 hv4_2 v4_3 hv4_3 HB4 sz4 K4
    simp only[sQ] at K4⊢
    clear HB3
    obtain⟨b8,rfl,l1,l2,l3⟩:=hv4_3 rfl
    have K4xe8:=Bk.more3 K3 K4 l1 l2 l3 (by intro x hx;first | (simp at hx;done) | (simp at hx⊢;omega))
    simp only[aK] at K4xe8
    clear K4
    go_upto_region 7 with fail
    refine rgE K4xe8 HB4 HB4.size [] [(6,8,L0s,some (7,LN x))] [(0,22,.slice (some ⟨b8,0,none⟩) 8 8),(1,23,vb),(3,25,.pointer (some ⟨w.heap.size,0,none⟩)),(4,26,NV p),(5,27,NV x)] [(7,6)] [] [⟨2,24,some 5,PIn ([0,0,0,0,0,0,0,k]++bs)⟩] [true,true,false] (.cons (fun _ _ _ h1 h2=>h2.stab h1)<|Stab.nil) ?_ ?_
    ·exact oc g_mv<|oc g_mv<|oc (g_aK 0 (PIn ([0,0,0,0,0,0,0,k]++bs)) (fun f u kZ hs bZ=>app_P8 (lo:=0) (Nat.zero_le _) (Nat.zero_le _) (Nat.lt_of_lt_of_le (KC.get kZ (k:=2) rfl).1 hs) rfl hbl ((IN.below hin bZ).mono bZ.size) (KC.cv kZ 2)))<|oc (g_fd (fun uZ=>fdG0 _ uZ))<|oc (g_lo 0 0 uN iN)<|oc (g_cWg 0 (PIn ([0,0,0,0,0,0,0,k]++bs)) (fun y=>[y,.string ⟨#[109,101,109,98,101,114]⟩,NV p]) Yr (fun u y bZ hy=>hDg.out u y bZ hy))<|oc (g_al 0 aN)<|oc (g_sn 0 iN) on
    intro u5 b5_6 v5_2 hv5_2 HB5 sz5 K5
    simp only[sQ] at K5⊢
    clear HB4
    go_upto_region 8 with fail
    refine rgP K5 HB5 HB5.size [] [(8,9,L0s,some (9,LN y))] [(0,29,NV x),(1,30,NV x),(2,31,.pointer (some ⟨w.heap.size,0,none⟩)),(3,32,NV p),(4,33,.tuple #[NV y,.int .i64 0]),(5,28,.tuple #[NV y,.int .i64 0]),(6,34,NV y),(7,35,.int .i64 0),(10,10,.int .i64 0)] [(9,8)] [] [true,true,false] ?_ ?_
    ·exact oc (g_ld 2 uN iN)<|oc (g_ld 2 uN iN)<|oc (g_fd (fun uZ=>fdG0 _ uZ))<|oc (g_lo 0 0 uN iN)<|oc (g_cl Zm (fun uZ=>hMu.out uZ))<|oc g_mv<|oc g_ex<|oc g_ex<|oc (g_al 0 aN)<|oc (g_sn 0 iN)<|oc g_as on
    intro u6 b6_8 HB6 sz6 K6
    simp only[sQ] at K6⊢
    clear K5 HB5
    go_upto_region 9 with fail
    refine rgP K6 HB6 HB6.size [] [] [(0,36,NV y),(1,37,NV 1),(2,38,.int .i64 c),(3,39,.bool false)] [] [] [true,true,false] ?_ ?_
    ·exact oc (g_ld 2 uN iN)<|oc (g_bd (fun uZ=>bd1m uZ))<|oc (g_cl Zh (fun uZ=>hCp.out uZ))<|oc (g_bn (fun uZ=>gtr_k _ _ c 0 _ uZ hcb)) on
    intro u7 HB7 sz7 K7
    simp only[sQ] at K7⊢
    clear K6 HB6
    go_upto_region 5 with fail
    refine rgP K7 HB7 HB7.size [] [] [(0,17,.int .i64 (k:Int)),(1,18,.int .i64 ((k+1:Nat):Int)),(2,6,.int .i64 ((k+1:Nat):Int))] [(2,0)] [(2,6)] [] ?_ ?_
    ·exact oc g_mv<|oc (g_bn (fun uZ=>Yq _ _ (k:Int) 1 ((k+1:Nat):Int) uZ (by omega) (by omega) (by omega)))<|oc g_as on
    intro u8 HB8 sz8 K8
    simp only[sQ] at K8⊢
    clear K7 HB7
    go_wp2
    refine⟨⟨k+1,by omega,rfl,hall3.out,HB8,(K8.cv 0),(K8.lt 0),(K8.cv 1),(K8.lt 1)⟩,?_⟩
    simp[intOf]<;>omega
  ·have hl:decide ((k:Int)<64)=false:=by simp;omega
   have hkn:k=64:=by omega
   have hrv:=hE2.out (by rw[<-hkn];exact hall.out)
   clear hkn
   subst hrv
   have K2_1:Bk w.heap.size wr [(false,w.heap.size,GE p q g h),(true,w.heap.size+1,L0s)]:=⟨.c lp Kp<| .o lr (K2.lo 1) Kr<|trivial,by simp<;>omega⟩
   go_upto_region 4 with fail
   refine rgP K2_1 HBr HBr.size [] [] [(0,15,.int .i64 (k:Int)),(1,16,.bool false)] [] [] [] ?_ ?_
   ·exact oc g_mv<|oc (g_bn (fun uZ=>lss_k _ _ (k:Int) 64 _ uZ hl)) on
   intro u3 HB3 sz3 K3
   simp only[sQ] at K3⊢
   go_upto_region 11 with fail
   refine rgP K3 HB3 HB3.size [.no,.all 1 (LN 1)] [] [(0,41,NV 1),(2,5,(Go.Value.int Go.IntKind.i64 0))] [] [] [] ?_ ?_
   ·exact oc (g_bd (fun uZ=>bd1m uZ))<|oc (g_st 1 iN)<|oc g_as on
   intro u4 HB4 sz4 K4
   simp only[sQ] at K4⊢
   clear K3 HB3
   have c4:=(K4.cv 1).n4
   go_wp2
   refine bodyPost_ret (v:= .tuple #[NV 1,.int .i64 0]) (by simp[results,Tryz.results24,go_sem,c4]) rfl ⟨rfl,HB4⟩
end
theorem lss_q(p q:Operand)(x y:Int)(b:Bool)(w:World)(h:decide (x<y)=b):(do eqGuard .lss 22 p q (.int .u64 x) (.int .u64 y);binOp .lss 22 (.int .u64 x) (.int .u64 y):Sem Value).run Tryz.prog w= .ok (.bool b) w:=by
 subst h;go_simp
theorem gtr_q(p q:Operand)(x y:Int)(b:Bool)(w:World)(h:decide (y<x)=b):(do eqGuard .gtr 3 p q (.int .i64 x) (.int .i64 y);binOp .gtr 3 (.int .i64 x) (.int .i64 y):Sem Value).run Tryz.prog w= .ok (.bool b) w:=by
 subst h;go_simp
theorem memberOf_core(p rv:Int)(bs:List Nat)(vb:Value)(f sq cf:Nat->Int)(w:World)
 (hC:Hid (∀(k:Nat) u,k<64->Bw w u->Calls Tryz.prog 77 #[.int .u64 (k:Int),vb] u fun e u'=> ∃y,e= .returned y/\PIn ([0,0,0,0,0,0,0,k]++bs) u' y/\Bw u u'))
 (hD:Hid (∀(k:Nat) u y,k<64->Bw w u->PIn ([0,0,0,0,0,0,0,k]++bs) u y->CC 52 #[.string ⟨#[109,101,109,98,101,114]⟩,y,NV p] u (NV (f k))))
 (hM:Hid (∀(k:Nat) u,k<64->CC 78 #[NV (f k),NV (f k),NV p] u (.tuple #[NV (sq k),.int .i64 0])))
 (hQ:Hid (∀(k:Nat) u,k<64->CC 73 #[NV (sq k),NV 1] u (.int .i64 (cf k))))
 (hc:Hid (∀k,k<64->(1<sq k->0<cf k)/\(¬1<sq k->cf k<=0)))
 (hE:Hid (∀k,k<64->(∀j,j<k->sq j<=1)->1<sq k->sq k=rv))(hE2:Hid ((∀j,j<64->sq j<=1)->rv=1)):
 CC 49 #[NV p,vb] w (NV rv):=by
 go_enter Tryz.func49,Tryz.ntmps49
 go_upto_region 1 with fail
 generalize hC:((w.alloc (.cells (LN p:List Value).toArray 24)).alloc (.cells (L0s:List Value).toArray 24))=v0 at *
 have HB0:Bw w v0:=by rw[<-hC];exact Z0 (Z0 (Z5 w) _) _
 have K0:Bk w.heap.size v0 [(true,w.heap.size,LN p),(true,w.heap.size+1,L0s)]:=by rw[<-hC];exact(Bk.nil _ w).ad.ad
 clear hC
 refine rgP K0 HB0 HB0.size [] [(1,5,L0s,some (2,LN 1))] [(0,10,NV 1)] [(2,1)] [] [] ?_ ?_
 ·exact oc (g_cl Z9 (fun uZ=>nOf 1 uZ (by decide) (by decide)))<|oc (g_al 0 aN)<|oc (g_sn 0 iN) on
 intro u1 b1_1 HB1 sz1 K1
 simp only[sQ] at K1⊢
 clear K0 HB0
 go_upto_region 2 with fail
 refine rgP K1 HB1 HB1.size [] [] [(0,11,(Go.Value.int Go.IntKind.u64 0))] [] [] [] ?_ ?_
 ·exact oc g_mv on
 intro u2 HB2 sz2 K2
 simp only[sQ] at K2⊢
 clear K1 HB1
 go_wp2_with fail
 have hb1:w.heap.size+1<b1_1:=by have:=K2.n;have h3:=K2.lo 2;simp at this;omega
 go_loopw [11] (fun s11 wr=> ∃(k:Nat),k<=64/\s11= .int .u64 (k:Int)/\Hid (∀j,j<k->sq j<=1)/\Bw w wr/\CV wr (w.heap.size) (LN p)/\w.heap.size<wr.heap.size/\CV wr (w.heap.size+1) (L0s)/\w.heap.size+1<wr.heap.size/\CV wr b1_1 (LN 1)/\b1_1<wr.heap.size) (fun s11 _=>64 -(intOf s11).toNat)
 case atStart=>exact⟨0,by omega,rfl,fun j hj=>absurd hj (by omega),HB2,(K2.cv 0),(K2.lt 0),(K2.cv 1),(K2.lt 1),(K2.cv 2),(K2.lt 2)⟩
 case round=>
  obtain⟨k,hk,rfl,hall,HBr,Kp,lp,Kr,lr,Ko,lo⟩:=hrel
  clear HB2
  have hnK:=K2.n
  simp at hnK
  have hoK2:=K2.lo 2
  by_cases hj:k<64
  ·have hl:decide ((k:Int)<64)=true:=by simp;omega
   have hCn:=fun u (hB:Bw w u)=>hC.out k u hj hB
   have hDg:=fun u y (hB:Bw w u) h=>hD.out k u y hj hB h
   have hMu:=fun u=>hM.out k u hj
   have hCp:=fun u=>hQ.out k u hj
   have hc1:=hc.out k hj
   have hev:=hE.out k hj hall.out
   have hall2: ¬1<sq k->Hid (∀j,j<k+1->sq j<=1):=fun hb j hj2=>by
    by_cases e:j=k
    ·subst e;omega
    ·exact hall.out j (by omega)
   have hCn:Hid _:=hCn
   have hDg:Hid _:=hDg
   have hMu:Hid _:=hMu
   have hCp:Hid _:=hCp
   have hk64:(k:Int)<64:=by omega
   obtain⟨x,ex⟩: ∃x,f k=x:=⟨_,rfl⟩
   obtain⟨y,ey⟩: ∃y,sq k=y:=⟨_,rfl⟩
   obtain⟨c,ec⟩: ∃c,cf k=c:=⟨_,rfl⟩
   rw[ex] at hDg hMu
   rw[ey] at hMu hCp hev hall2 hc1
   rw[ec] at hCp hc1
   clear ex ey ec
   by_cases hy1:1<y
   ·have hcb:decide (0<c)=true:=by have:=hc1.1 (by omega);simp;omega
    have hrv:=hev hy1
    subst hrv
    have K2_1:Bk w.heap.size wr [(false,w.heap.size,LN p),(true,w.heap.size+1,L0s),(false,b1_1,LN 1)]:=⟨.c lp Kp<| .o lr (K2.lo 1) Kr<| .c lo Ko<|trivial,by simp<;>omega⟩
    go_upto_region 3 with fail
    refine rgP K2_1 HBr HBr.size [] [] [(0,12,.bool true)] [] [] [] ?_ ?_
    ·exact oc (g_bn (fun uZ=>lss_q _ _ (k:Int) 64 _ uZ hl)) on
    intro u3 HB3 sz3 K3
    simp only[sQ] at K3⊢
    go_upto_region 4 with fail
    refine rgP K3 HB3 HB3.size [] [] [(0,13,.int .u64 (k:Int)),(1,6,.int .u64 (k:Int))] [] [] [] ?_ ?_
    ·exact oc g_mv<|oc g_as on
    intro u4 HB4 sz4 K4
    simp only[sQ] at K4⊢
    clear K3 HB3
    go_upto_region 5 with fail
    refine rgE K4 HB4 HB4.size [] [(5,7,L0s,some (6,LN x))] [(0,14,.int .u64 (k:Int)),(1,15,vb),(3,17,NV p),(4,18,NV x)] [(6,5)] [] [⟨2,16,some 4,PIn ([0,0,0,0,0,0,0,k]++bs)⟩] [] (.cons (fun _ _ _ h1 h2=>h2.stab h1)<|Stab.nil) ?_ ?_
    ·exact oc g_mv<|oc g_mv<|oc (g_cE 0 (PIn ([0,0,0,0,0,0,0,k]++bs)) Vc (fun u hB hs=>hCn.out u hB))<|oc (g_ld 0 uN iN)<|oc (g_cWg 0 (PIn ([0,0,0,0,0,0,0,k]++bs)) (fun y=>[.string ⟨#[109,101,109,98,101,114]⟩,y,NV p]) Wb (fun u y bZ hy=>hDg.out u y bZ hy))<|oc (g_al 0 aN)<|oc (g_sn 0 iN) on
    intro u5 b5_5 v5_2 hv5_2 HB5 sz5 K5
    simp only[sQ] at K5⊢
    clear K4 HB4
    go_upto_region 6 with fail
    refine rgP K5 HB5 HB5.size [] [(7,8,L0s,some (8,LN y))] [(0,20,NV x),(1,21,NV x),(2,22,NV p),(3,23,.tuple #[NV y,.int .i64 0]),(4,19,.tuple #[NV y,.int .i64 0]),(5,24,NV y),(6,25,.int .i64 0),(9,9,.int .i64 0)] [(8,7)] [] [true,true,true,false] ?_ ?_
    ·exact oc (g_ld 3 uN iN)<|oc (g_ld 3 uN iN)<|oc (g_ld 0 uN iN)<|oc (g_cl Vy (fun uZ=>hMu.out uZ))<|oc g_mv<|oc g_ex<|oc g_ex<|oc (g_al 0 aN)<|oc (g_sn 0 iN)<|oc g_as on
    intro u6 b6_7 HB6 sz6 K6
    simp only[sQ] at K6⊢
    clear K5 HB5
    go_upto_region 7 with fail
    refine rgP K6 HB6 HB6.size [] [] [(0,26,NV y),(1,27,NV 1),(2,28,.int .i64 c),(3,29,.bool true)] [] [] [] ?_ ?_
    ·exact oc (g_ld 3 uN iN)<|oc (g_ld 2 uN iN)<|oc (g_cl Zn (fun uZ=>hCp.out uZ))<|oc (g_bn (fun uZ=>gtr_q _ _ c 0 _ uZ hcb)) on
    intro u7 HB7 sz7 K7
    simp only[sQ] at K7⊢
    clear K6 HB6
    go_upto_region 8 with fail
    refine rgP K7 HB7 HB7.size [.no,.all 1 (LN y)] [] [(0,30,NV y)] [] [] [true,true,true,false] ?_ ?_
    ·exact oc (g_ld 3 uN iN)<|oc (g_st 1 iN) on
    intro u8 HB8 sz8 K8
    simp only[sQ] at K8⊢
    clear K7 HB7
    have c4:=(K8.cv 1).n4
    go_wp2
    refine bodyPost_ret (v:=NV y) (by simp[results,Tryz.results49,go_sem,c4]) rfl ⟨rfl,HB8⟩
   ·have hcb:decide (0<c)=false:=by have:=hc1.2 (by omega);simp;omega
    have hall3:=hall2 hy1
    have hall3:Hid _:=hall3
    clear hall2 hev
    have K2_1:Bk w.heap.size wr [(false,w.heap.size,LN p),(true,w.heap.size+1,L0s),(false,b1_1,LN 1)]:=⟨.c lp Kp<| .o lr (K2.lo 1) Kr<| .c lo Ko<|trivial,by simp<;>omega⟩
    go_upto_region 3 with fail
    refine rgP K2_1 HBr HBr.size [] [] [(0,12,.bool true)] [] [] [] ?_ ?_
    ·exact oc (g_bn (fun uZ=>lss_q _ _ (k:Int) 64 _ uZ hl)) on
    intro u3 HB3 sz3 K3
    simp only[sQ] at K3⊢
    go_upto_region 4 with fail
    refine rgP K3 HB3 HB3.size [] [] [(0,13,.int .u64 (k:Int)),(1,6,.int .u64 (k:Int))] [] [] [] ?_ ?_
    ·exact oc g_mv<|oc g_as on
    intro u4 HB4 sz4 K4
    simp only[sQ] at K4⊢
    clear K3 HB3
    go_upto_region 5 with fail
    refine rgE K4 HB4 HB4.size [] [(5,7,L0s,some (6,LN x))] [(0,14,.int .u64 (k:Int)),(1,15,vb),(3,17,NV p),(4,18,NV x)] [(6,5)] [] [⟨2,16,some 4,PIn ([0,0,0,0,0,0,0,k]++bs)⟩] [] (.cons (fun _ _ _ h1 h2=>h2.stab h1)<|Stab.nil) ?_ ?_
    ·exact oc g_mv<|oc g_mv<|oc (g_cE 0 (PIn ([0,0,0,0,0,0,0,k]++bs)) Vc (fun u hB hs=>hCn.out u hB))<|oc (g_ld 0 uN iN)<|oc (g_cWg 0 (PIn ([0,0,0,0,0,0,0,k]++bs)) (fun y=>[.string ⟨#[109,101,109,98,101,114]⟩,y,NV p]) Wb (fun u y bZ hy=>hDg.out u y bZ hy))<|oc (g_al 0 aN)<|oc (g_sn 0 iN) on
    intro u5 b5_5 v5_2 hv5_2 HB5 sz5 K5
    simp only[sQ] at K5⊢
    clear K4 HB4
    go_upto_region 6 with fail
    refine rgP K5 HB5 HB5.size [] [(7,8,L0s,some (8,LN y))] [(0,20,NV x),(1,21,NV x),(2,22,NV p),(3,23,.tuple #[NV y,.int .i64 0]),(4,19,.tuple #[NV y,.int .i64 0]),(5,24,NV y),(6,25,.int .i64 0),(9,9,.int .i64 0)] [(8,7)] [] [true,true,true,false] ?_ ?_
    ·exact oc (g_ld 3 uN iN)<|oc (g_ld 3 uN iN)<|oc (g_ld 0 uN iN)<|oc (g_cl Vy (fun uZ=>hMu.out uZ))<|oc g_mv<|oc g_ex<|oc g_ex<|oc (g_al 0 aN)<|oc (g_sn 0 iN)<|oc g_as on
    intro u6 b6_7 HB6 sz6 K6
    simp only[sQ] at K6⊢
    clear K5 HB5
    go_upto_region 7 with fail
    refine rgP K6 HB6 HB6.size [] [] [(0,26,NV y),(1,27,NV 1),(2,28,.int .i64 c),(3,29,.bool false)] [] [] [true,true,true,false] ?_ ?_
    ·exact oc (g_ld 3 uN iN)<|oc (g_ld 2 uN iN)<|oc (g_cl Zn (fun uZ=>hCp.out uZ))<|oc (g_bn (fun uZ=>gtr_q _ _ c 0 _ uZ hcb)) on
    intro u7 HB7 sz7 K7
    simp only[sQ] at K7⊢
    clear K6 HB6
    go_upto_region 9 with fail
    refine rgP K7 HB7 HB7.size [] [] [(0,31,.int .u64 ((k+1:Nat):Int)),(1,11,.int .u64 ((k+1:Nat):Int))] [(1,0)] [(1,11)] [] ?_ ?_
    ·exact oc (g_bn (fun uZ=>add_u _ _ (k:Int) 1 ((k+1:Nat):Int) uZ (by omega)))<|oc g_mv on
    intro u8 HB8 sz8 K8
    simp only[sQ] at K8⊢
    clear K7 HB7
    go_wp2
    refine⟨⟨k+1,by omega,rfl,hall3.out,HB8,(K8.cv 0),(K8.lt 0),(K8.cv 1),(K8.lt 1),(K8.cv 2),(K8.lt 2)⟩,?_⟩
    simp[intOf]<;>omega
  ·have hl:decide ((k:Int)<64)=false:=by simp;omega
   have hkn:k=64:=by omega
   have hrv:=hE2.out (by rw[<-hkn];exact hall.out)
   clear hkn
   subst hrv
   have K2_1:Bk w.heap.size wr [(false,w.heap.size,LN p),(true,w.heap.size+1,L0s),(false,b1_1,LN 1)]:=⟨.c lp Kp<| .o lr (K2.lo 1) Kr<| .c lo Ko<|trivial,by simp<;>omega⟩
   go_upto_region 3 with fail
   refine rgP K2_1 HBr HBr.size [] [] [(0,12,.bool false)] [] [] [] ?_ ?_
   ·exact oc (g_bn (fun uZ=>lss_q _ _ (k:Int) 64 _ uZ hl)) on
   intro u3 HB3 sz3 K3
   simp only[sQ] at K3⊢
   go_upto_region 10 with fail
   refine rgP K3 HB3 HB3.size [.no,.all 1 (LN 1)] [] [(0,32,NV 1)] [] [] [] ?_ ?_
   ·exact oc (g_ld 2 uN iN)<|oc (g_st 1 iN) on
   intro u4 HB4 sz4 K4
   simp only[sQ] at K4⊢
   clear K3 HB3
   have c4:=(K4.cv 1).n4
   go_wp2
   refine bodyPost_ret (v:=NV 1) (by simp[results,Tryz.results49,go_sem,c4]) rfl ⟨rfl,HB4⟩
end Go.Proofs.YtknpepgonhdbgaaGreatDoor
