import Derived.Test.YtdhlekdohebbbaaGreatDoorMC2
namespace Go.Proofs.YtdhlekdohebbbaaGreatDoor
set_option linter.unusedVariables false
set_option linter.unusedSimpArgs false
set_option maxRecDepth 100000
set_option maxHeartbeats 4000000
open Go.RowKit
theorem infoSl:(Tryz.prog.info? 46).map (fun i=>(i.zero,i.size,i.bytes))=some (some (.slice none 0 0),1,24):=by kernel_rfl
theorem bsE1(y:Value)(w:World)(h: ∃sl n cap,y= .slice sl n cap):(Instr.buildSlice 120 1 ([0].zip [y]).toArray).run Tryz.prog w= .ok (.slice (some ⟨w.heap.size,0,none⟩) 1 1) (w.alloc (.cells [y].toArray 46)):=by
 obtain⟨sl,n,cap,rfl⟩:=h;kernel_rfl
theorem bsE2(y z:Value)(w:World)(h: ∃sl n cap,y= .slice sl n cap)(h2: ∃sl n cap,z= .slice sl n cap):(Instr.buildSlice 120 2 ([0,1].zip [y,z]).toArray).run Tryz.prog w= .ok (.slice (some ⟨w.heap.size,0,none⟩) 2 2) (w.alloc (.cells [y,z].toArray 46)):=by
 obtain⟨sl,n,cap,rfl⟩:=h
 obtain⟨sl2,n2,cap2,rfl⟩:=h2
 kernel_rfl
theorem PF.sl{lo n:Nat}{xs:List Value}{u:World}{y:Value}(h:PF lo n xs u y): ∃sl n cap,y= .slice sl n cap:=by
 obtain⟨b,rfl,_⟩:=h;exact⟨_,_,_,rfl⟩
def PQ1(lo:Nat)(p:List Nat)(u:World)(y:Value):Prop:= ∃b v,y= .slice (some ⟨b,0,none⟩) 1 1/\lo<=b/\b<u.heap.size/\CV u b [v]/\IN u u.heap.size v p
theorem PQ1.stab{lo:Nat}{p:List Nat}{u v:World}{x:Value}(hB:Bw u v)(h:PQ1 lo p u x):PQ1 lo p v x:=by
 obtain⟨b,y,e,h1,h2,h3,h4⟩:=h
 exact⟨b,y,e,h1,Nat.lt_of_lt_of_le h2 hB.size,h3.below hB h2,(h4.below hB).mono hB.size⟩
theorem PQ1.new{lo:Nat}{p:List Nat}{u:World}{y:Value}(t:TypeId)(h:lo<=u.heap.size)(hy:IN u u.heap.size y p):PQ1 lo p (u.alloc (.cells [y].toArray t)) (.slice (some ⟨u.heap.size,0,none⟩) 1 1):=
 ⟨_,y,rfl,h,by simp,CV.new u _ t,(hy.below (Z7 (Zx u) _)).mono (by simp)⟩
theorem PL_of{u:World}{b:Nat}{vs zs:List Value}{ps:List (List Nat)}(hcv:CV u b (vs++zs))(hl:vs.length=ps.length)(h: ∀(i:Nat) (v:Value) (p:List Nat),vs[i]?=some v->ps[i]?=some p->IN u u.heap.size v p):PL u b 0 ps:=fun i p hp=>by
 have hi:i<vs.length:=by have:=(List.getElem?_eq_some_iff.1 hp).1;omega
 have e:=List.getElem?_eq_getElem hi
 refine⟨vs[i],?_,h i _ p e hp⟩
 rw[Nat.zero_add];exact(hcv i _ (by rw[List.getElem?_append_left hi];exact e)).1
theorem PQ.two{lo:Nat}{p q:List Nat}{u:World}{y z:Value}(t:TypeId)(h:lo<=u.heap.size)(hy:IN u u.heap.size y p)(hz:IN u u.heap.size z q):PQ lo [p,q] (u.alloc (.cells [y,z].toArray t)) (.slice (some ⟨u.heap.size,0,none⟩) 2 2):=by
 have hB:Bw u (u.alloc (.cells [y,z].toArray t)):=Z7 (Zx u) _
 refine⟨_,2,rfl,h,by simp,PL_of (vs:=[y,z]) (zs:=[]) (by rw[List.append_nil];exact CV.new u _ t) rfl fun i v p' hv hp=>?_⟩
 match i with
 | 0=>simp at hv hp;subst hv hp;exact(hy.below hB).mono hB.size
 | 1=>simp at hv hp;subst hv hp;exact(hz.below hB).mono hB.size
 | i+2=>simp at hv
theorem PL.vals{w:World}{gl go:Nat}{ps:List (List Nat)}(h:PL w gl go ps): ∃vs:List Value,vs.length=ps.length/\(∀(j:Nat) (v:Value),vs[j]?=some v->w.cell? ⟨gl,go+j,none⟩=some v)/\ ∀(i:Nat) (v:Value) (p:List Nat),vs[i]?=some v->ps[i]?=some p->IN w w.heap.size v p:=by
 have h2: ∀i,∃v,∀p,ps[i]?=some p->w.cell? ⟨gl,go+i,none⟩=some v/\IN w w.heap.size v p:=fun i=>by
  cases e:ps[i]? with
  | none=>exact⟨.bool true,fun p hp=>by cases hp⟩
  | some p=>
   obtain⟨v,h1,h2⟩:=h i p e
   exact⟨v,fun p' hp=>by cases hp;exact⟨h1,h2⟩⟩
 obtain⟨f,hf⟩:=Classical.skolem.1 h2
 refine⟨(List.range ps.length).map f,by simp,fun j v hv=>?_,fun i v p hv hp=>?_⟩
 ·rw[List.getElem?_map,Option.map_eq_some_iff] at hv
  obtain⟨k,hk,rfl⟩:=hv
  have hj:j<ps.length:=by have:=(List.getElem?_eq_some_iff.1 hk).1;simpa using this
  rw[List.getElem?_range hj] at hk
  cases hk
  exact(hf j _ (List.getElem?_eq_getElem hj)).1
 ·rw[List.getElem?_map,Option.map_eq_some_iff] at hv
  obtain⟨k,hk,rfl⟩:=hv
  have hj:i<ps.length:=(List.getElem?_eq_some_iff.1 hp).1
  rw[List.getElem?_range hj] at hk
  cases hk
  exact(hf i _ hp).2
def LV(w:World)(y:Value)(ps:List (List Nat)):Prop:= ∃(sl:Option Addr) (cap gl go:Nat),y= .slice sl ps.length cap/\(ps.length=0\/sl=some ⟨gl,go,none⟩)/\gl<w.heap.size/\PL w gl go ps
theorem LV.below{w u:World}{y:Value}{ps:List (List Nat)}(h:LV w y ps)(hB:Bw w u):LV u y ps:=by
 obtain⟨sl,cap,gl,go,e,h1,h2,h3⟩:=h
 exact⟨sl,cap,gl,go,e,h1,Nat.lt_of_lt_of_le h2 hB.size,h3.below h2 hB⟩
theorem app_PQ{lo:Nat}{p:List Nat}{ps:List (List Nat)}{y:Value}{ty:TypeId}{u:World}{vs:Value}(hlo:lo<=u.heap.size)(hl:ps.length<=1000000)(hy:LV u y ps)(h:PQ1 lo p u vs):
 ∃v u',(Builtin.append_ #[120,120] ty #[vs,y]).run Tryz.prog u= .ok v u'/\Bw u u'/\PQ lo (p::ps) u' v:=by
 obtain⟨b,x,rfl,h1,h2,h3,h4⟩:=h
 obtain⟨sl,cap,gl,go,rfl,k1,k2,k3⟩:=hy
 obtain⟨ws,w1,w2,w3⟩:=k3.vals
 obtain⟨ti,hti,htm⟩:=Option.map_eq_some_iff.1 infoSl
 simp only[Prod.mk.injEq] at htm
 obtain⟨hzv,hsz,hby⟩:=htm
 obtain⟨v',u',hr,hB,b',cap',zs,rfl,g1,g2,g3,g4,g5⟩:=run_appF (P:=Tryz.prog) u (ty:=ty) Tryz.underlying120 hti hzv (by rw[hsz];rfl) (n:=1) (m:=ps.length) (xs:=[x]) (news:=ws) h3 h1 hlo h2 (by rw[hsz];rfl) ⟨sl,cap,rfl,k1.imp_right fun e=>⟨_,e,fun j v hj=>by rw[Addr.addo];exact w2 j v hj⟩⟩ (by rw[hsz,w1];omega) (by rw[hby];omega) (by omega)
 refine⟨_,u',hr,hB,b',cap',by rw[List.length_cons,Nat.add_comm],g1,g2,PL_of (vs:=[x]++ws) g5 (by simp[w1]) fun i v q hv hq=>?_⟩
 cases i with
 | zero=>simp at hv hq;subst hv hq;exact(h4.below hB).mono hB.size
 | succ i=>
  simp at hv hq
  exact((w3 i v q hv hq).below hB).mono hB.size
theorem CV_in{u:World}{b n:Nat}{xs:List Nat}(hl:xs.length=n)(h:CV u b (U8 xs))(hb:b<u.heap.size):IN u u.heap.size (.slice (some ⟨b,0,none⟩) n n) xs:=by
 subst hl
 refine⟨_,_,b,0,rfl,Nat.le_refl _,.inr rfl,hb,fun j hj=>?_⟩
 rw[Nat.zero_add];exact(h j _ (Yc xs j hj)).1
theorem cHmac_core(ks m1 m2 d1 ds:List Nat)(ps:List (List Nat))(y:Value)(w:World)(hk64:ks.length=64)(hm1:m1.length=64)(hm2:m2.length=64)(hd1:d1.length=32)(hds:ds.length=32)(hpl:ps.length<=1000000)(hLV:Hid (LV w y ps))(hM1:Hid (∀(u:World),Calls Tryz.prog 129 #[.agg (U8 ks).toArray,.int .u8 ((54:Nat):Int)] u fun e u'=> ∃v,e= .returned v/\PF u.heap.size 64 (U8 m1) u' v/\Bw u u'))(hM2:Hid (∀(u:World),Calls Tryz.prog 129 #[.agg (U8 ks).toArray,.int .u8 ((92:Nat):Int)] u fun e u'=> ∃v,e= .returned v/\PF u.heap.size 64 (U8 m2) u' v/\Bw u u'))(hP1:Hid (∀(u:World) (y:Value),Bw w u->PQ w.heap.size (m1::ps) u y->CC 128 #[y] u (.agg (U8 d1).toArray)))(hP2:Hid (∀(u:World) (y:Value),Bw w u->PQ w.heap.size [m2,d1] u y->CC 128 #[y] u (.agg (U8 ds).toArray))):
 CC 120 #[.agg (U8 ks).toArray,y] w (.agg (U8 ds).toArray):=by
 go_enter Tryz.func120,Tryz.ntmps120
 go_upto_region 1 with fail
 generalize hC:((w.alloc (.cells (U8 ks:List Value).toArray 149)).alloc (.cells (Z32b:List Value).toArray 117))=v0 at *
 have HB0:Bw w v0:=by rw[<-hC];exact Z7 (Z7 (Zx w) _) _
 have K0:Bk w.heap.size v0 [(true,w.heap.size,U8 ks),(true,w.heap.size+1,U8 z32)]:=by rw[<-hC];exact(Bk.nil _ w).ad.ad
 clear hC
 refine Rf K0 HB0 [] [(6,5,U8 z32,some (7,U8 d1))] [(0,6,_),(3,9,y),(5,11,_)] [(7,6)] [] [⟨1,7,some 2,PF w.heap.size 64 (U8 m1)⟩,⟨2,8,some 4,PQ1 w.heap.size m1⟩,⟨4,10,some 5,PQ w.heap.size (m1::ps)⟩] [] (oc (g_lR 0 0 (cs:=U8 ks) (fun j v h=>by rw[Nat.zero_add];exact h) Tryz.underlying149 (by rw[Z2,hk64];exact Za))<|oc (g_cE 0 (PF w.heap.size 64 (U8 m1)) U2 (fun u hB hs=>(hM1.out u).mono fun e u2 ⟨v,e1,h1,h2⟩=>⟨v,e1,h1.mono hB.size,h2⟩))<|oc (g_bY 0 1 (PF w.heap.size 64 (U8 m1)) (PQ1 w.heap.size m1) [0] (fun y=>[y]) (fun w y hy=>bsE1 y w hy.sl) (fun f u y kZ bZ hs hy=>PQ1.new _ bZ.size (PF_in (by rw[hm1];exact hy))))<|oc g_mv<|oc (g_a1 1 2 (PQ1 w.heap.size m1) (PQ w.heap.size (m1::ps)) (fun u vs hB hs hv=>app_PQ hB.size hpl (hLV.out.below hB) hv))<|oc (g_c1 2 (PQ w.heap.size (m1::ps)) Wy (fun uZ y bZ hy=>hP1.out uZ y bZ hy))<|oc (g_al 0 Ym)<|oc (g_sn 0 Z5 (h1:=Yv _) (hm:=by rw[Z2,hd1]) (hl:=by first | rw[Z2,Z2,hd1,show z32.length=32 from rfl] | rfl)) on) fun u1 b1_6 v1_1 hv1_1 v1_2 hv1_2 v1_4 hv1_4 HB1 _ K1=>?_
 simp only[sQ] at K1⊢
 go_upto_region 2 with fail
 refine Re K1 HB1 [.no,.all 5 (U8 ds)] [] [(0,12,_),(2,14,_),(4,16,_)] [] [] [⟨1,13,some 3,PF w.heap.size 64 (U8 m2)⟩,⟨3,15,some 4,PQ w.heap.size [m2,d1]⟩] [false] (oc (g_lR 0 0 (cs:=U8 ks) (fun j v h=>by rw[Nat.zero_add];exact h) Tryz.underlying149 (by rw[Z2,hk64];exact Za))<|oc (g_cE 0 (PF w.heap.size 64 (U8 m2)) U2 (fun u hB hs=>(hM2.out u).mono fun e u2 ⟨v,e1,h1,h2⟩=>⟨v,e1,h1.mono hB.size,h2⟩))<|oc (g_sl (sl32 b1_6))<|oc (g_bY 0 1 (PF w.heap.size 64 (U8 m2)) (PQ w.heap.size [m2,d1]) [0,1] (fun y=>[y,.slice (some ⟨b1_6,0,none⟩) 32 32]) (fun w y hy=>bsE2 y _ w hy.sl ⟨_,_,_,rfl⟩) (fun f u y kZ bZ hs hy=>PQ.two _ bZ.size (PF_in (by rw[hm2];exact hy)) (CV_in hd1 (kZ.cv 2) (kZ.lb hs 2))))<|oc (g_c1 1 (PQ w.heap.size [m2,d1]) Wy (fun uZ y bZ hy=>hP2.out uZ y bZ hy))<|oc (g_st 1 Z5 (h1:=Yv _) (hm:=by rw[Z2,hds]) (hl:=by first | rw[Z2,Z2,hds,show z32.length=32 from rfl] | rfl)) on) fun u2 v2_1 hv2_1 v2_3 hv2_3 HB2 _ K2=>?_
 simp only[sQ] at K2⊢
 go_wp2
 refine bodyPost_ret (Y3 Tryz.results120 rfl (K2.cv 0) Tryz.underlying117 rfl (by rw[Z2,hds];exact Z5)) rfl ⟨rfl,HB2⟩
theorem cParts2(a c:List Nat)(z:Value)(u:World){lo:Nat}(hV:GV u)(ha:BB 64 a)(hc:BB 32 c)(hz:PQ lo [a,c] u z):CC 128 #[z] u (.agg (U8 (dig (a++c))).toArray):=by
 obtain⟨b,cap,rfl,_,h2,h3⟩:=hz
 have h:=cParts [a,c] b 0 cap u h2 hV h3 (show 2<=1000000 by omega) (fun p hp=>by
  simp at hp
  rcases hp with rfl | rfl
  ·exact ha.mem
  ·exact hc.mem) (fun p hp=>by
  simp at hp
  rcases hp with rfl | rfl
  ·rw[ha.len];omega
  ·rw[hc.len];omega) (by rw[List.flatten_cons,List.flatten_cons,List.flatten_nil,List.append_nil,List.length_append,ha.len,hc.len];omega)
 rw[show ([a,c]:List (List Nat)).flatten=a++c by simp] at h
 exact h
theorem cHmac(ks:List Nat)(ps:List (List Nat))(y:Value)(w:World)(hV:GV w)(hk:BB 64 ks)(hy:LV w y ps)(hn:ps.length<=100000)(hx: ∀p∈ps,∀x∈p,x<256)(hl: ∀p∈ps,p.length<=10000)(ht:ps.flatten.length<=900000):
 CC 120 #[.agg (U8 ks).toArray,y] w (.agg (U8 (hm ks ps.flatten)).toArray):=by
 have b1:=msk_B hk (show 54<256 by decide)
 have b2:=msk_B hk (show 92<256 by decide)
 refine cHmac_core ks (msk 54 ks) (msk 92 ks) (dig (msk 54 ks++ps.flatten)) (hm ks ps.flatten) ps y w hk.len b1.len b2.len (dig_B _).len (hm_B _ _).len (by omega) hy (fun u=>cMasked ks 54 u hk (by decide)) (fun u=>cMasked ks 92 u hk (by decide)) (fun u z hB hz=>?_) (fun u z hB hz=>?_)
 ·obtain⟨b,cap,rfl,_,h2,h3⟩:=hz
  have h:=cParts (msk 54 ks::ps) b 0 cap u h2 (hV.below hB hV.sz) h3 (by simp;omega) (fun p hp=>by
   rcases List.mem_cons.1 hp with rfl | hp
   ·exact b1.mem
   ·exact hx p hp) (fun p hp=>by
   rcases List.mem_cons.1 hp with rfl | hp
   ·rw[b1.len];decide
   ·exact hl p hp) (by rw[List.flatten_cons,List.length_append,b1.len];omega)
  rw[List.flatten_cons] at h
  exact h
 ·exact cParts2 _ _ z u (hV.below hB hV.sz) b2 (dig_B _) hz
theorem cMac_core(n cap:Nat)(sl:Option Addr)(kv:Value)(wk ds:List Nat)(w:World)(hds:ds.length=32)(hWh:Hid (∀(u:World),Bw w u->CC 103 #[kv] u (.agg (U8 wk).toArray)))(hHm:Hid (∀(u:World) (y:Value),Bw w u->PS w.heap.size 1 [(.slice sl n cap)] u y->CC 120 #[.agg (U8 wk).toArray,y] u (.agg (U8 ds).toArray))):
 CC 101 #[kv,(.slice sl n cap)] w (.agg (U8 ds).toArray):=by
 go_enter Tryz.func101,Tryz.ntmps101
 go_upto_region 1 with fail
 generalize hC:(w.alloc (.cells (Z32b:List Value).toArray 117))=v0 at *
 have HB0:Bw w v0:=by rw[<-hC];exact Z7 (Zx w) _
 have K0:Bk w.heap.size v0 [(true,w.heap.size,U8 z32)]:=by rw[<-hC];exact(Bk.nil _ w).ad
 clear hC
 refine Rf K0 HB0 [.all 5 (U8 ds)] [] (cG 0 5 [_,_,_] [(4,9,_)]) [] [] [⟨3,8,some 4,PS w.heap.size 1 [(.slice sl n cap)]⟩] [] (oc g_mv<|oc (g_cb Uj hWh.out)<|oc g_mv<|oc (g_bR 0 (PS w.heap.size 1 [(.slice sl n cap)]) [0] [(.slice sl n cap)] [(.slice sl n cap)] (bsSl _ _ _) (fun u hu=>PS.new 1 _ _ u (Nat.le_trans HB0.size hu)))<|oc (g_c2 0 (PS w.heap.size 1 [(.slice sl n cap)]) Vh (fun uZ y bZ hy=>hHm.out uZ y bZ hy))<|oc (g_st 0 Z5 (h1:=Yv _) (hm:=by rw[Z2,hds]) (hl:=by first | rw[Z2,Z2,hds,show z32.length=32 from rfl] | rfl)) on) fun u1 v1_3 hv1_3 HB1 _ K1=>?_
 simp only[sQ] at K1⊢
 go_wp2
 refine bodyPost_ret (Y3 Tryz.results101 rfl (K1.cv 0) Tryz.underlying117 rfl (by rw[Z2,hds];exact Z5)) rfl ⟨rfl,HB1⟩
def mac(ks xs:List Nat):List Nat:=hm (whl ks) xs
theorem mac_B(ks xs:List Nat):BB 32 (mac ks xs):=hm_B _ _
theorem LV_one{u:World}{y v:Value}{lo:Nat}{xs:List Nat}(h:PS lo 1 [v] u y)(hv:IN u u.heap.size v xs):LV u y [xs]:=by
 obtain⟨b,c,rfl,_,hb,_,hcv⟩:=h
 refine⟨_,c,b,0,rfl,.inr rfl,hb,PL_of (vs:=[v]) (zs:=[]) (by simpa using hcv) rfl fun i x p hx hp=>?_⟩
 match i with
 | 0=>simp at hx hp;subst hx hp;exact hv
 | i+1=>simp at hx
theorem cMac(ks xs:List Nat)(v v2:Value)(w:World)(hV:GV w)(hin:IN w w.heap.size v ks)(hsn: ∀n c,v= .slice none n c->c=0)(hin2:IN w w.heap.size v2 xs)(hk: ∀x∈ks,x<256)(hx: ∀x∈xs,x<256)(hkl:ks.length<=10000)(hl:xs.length<=10000):
 CC 101 #[v,v2] w (.agg (U8 (mac ks xs)).toArray):=by
 have hin3:=hin2
 obtain⟨sl,cap,gb,go,rfl,h1,h2,h3,h4⟩:=hin2
 refine cMac_core xs.length cap sl v (whl ks) (mac ks xs) w (mac_B _ _).len (fun u hB=>cWhole ks v u (hV.below hB hV.sz) ((hin.below hB).mono hB.size) hsn hk hkl) (fun u y hB hy=>?_)
 have h:=cHmac (whl ks) [xs] y u (hV.below hB hV.sz) (whl_B hk) (LV_one hy ((hin3.below hB).mono hB.size)) (by simp) (by simpa using hx) (by simpa using hl) (by simp;omega)
 simpa [mac] using h
section
section
variable {R:Rg} {P:Program} {ops:Array Oper} {Q:Exit->Act->World->Prop} {f:Nat->Bool} {t:Nat->Value} {u:World} {a:Act} {i:Nat} {o:Oper}
end
theorem not_f(w:World):(Op.unary .not (.bool false)).run Tryz.prog w= .ok (.bool true) w:=by go_simp
end
theorem bs0b(w:World):(Instr.buildSlice 46 0 #[]).run Tryz.prog w= .ok (.slice (some ⟨w.heap.size,0,none⟩) 0 0) (w.alloc (.cells #[] 5)):=by kernel_rfl
theorem IN_NW{u:World}{m:Nat}{v:Value}{xs:List Nat}(h:IN u m v xs):NW xs.length (U8 xs) u v:=by
 obtain⟨sl,cap,gb,go,rfl,h1,h2,h3,h4⟩:=h
 refine⟨sl,cap,rfl,h2.imp_right fun e=>⟨_,e,fun j v hj=>?_⟩⟩
 have hj':j<xs.length:=by have:=(List.getElem?_eq_some_iff.1 hj).1;rwa [Z2] at this
 rw[Addr.addo,h4 j hj',<-hj]
 exact(Yc xs j hj').symm
theorem app_PZ{lo:Nat}{xs:List Nat}{y:Value}{ty:TypeId}{u:World}{vs:Value}(hlo:lo<=u.heap.size)(hl:xs.length<=1000000)(hy:IN u u.heap.size y xs)(h:PZ lo u vs):
 ∃v u',(Builtin.append_ #[46,46] ty #[vs,y]).run Tryz.prog u= .ok v u'/\Bw u u'/\PG lo 1 xs.length (U8 xs) u' v:=by
 obtain⟨b,rfl,h1,h2⟩:=h
 obtain⟨ti,hti,htm⟩:=Option.map_eq_some_iff.1 infoB
 simp only[Prod.mk.injEq] at htm
 obtain⟨hzv,hsz,hby⟩:=htm
 obtain⟨v',u',hr,hB,hg⟩:=run_appF (P:=Tryz.prog) u (ty:=ty) Tryz.underlying46 hti hzv (by rw[hsz];rfl) (n:=0) (m:=xs.length) (xs:=[]) (news:=U8 xs) (fun j v h=>by simp at h) h1 hlo h2 (by simp) (IN_NW hy) (by rw[hsz,Z2];omega) (by rw[hby];omega) (by omega)
 rw[hsz,Nat.zero_add,List.nil_append] at hg
 exact⟨v',u',hr,hB,hg⟩
theorem PG_in{lo s:Nat}{xs:List Nat}{u:World}{y:Value}(h:PG lo s xs.length (U8 xs) u y):IN u u.heap.size y xs:=by
 obtain⟨b,cap,zs,rfl,h1,h2,h3,h4,h5⟩:=h
 refine⟨_,_,b,0,rfl,h3,.inr rfl,h2,fun j hj=>?_⟩
 rw[Nat.zero_add];exact(h5.pre2 j _ (Yc xs j hj)).1
section
def tlF(n:Nat):Nat->List Nat
 | 0=>List.replicate 8 0
 | j+1=>(tlF n j).set (7 -j) ((n*8)>>>(8*j)%256)
theorem tlF_B(n:Nat): ∀j,BB 8 (tlF n j)
 | 0=>BB_rep 8
 | j+1=>(tlF_B n j).set _ _ (Nat.mod_lt _ (by decide))
theorem en_is(n:Nat): ∀j,j<=8->enL n j=128::(List.replicate (nou n) 0++tlF n j)
 | 0,_=>by
  show (List.replicate (nou n+9) 0).set 0 128=128::(List.replicate (nou n) 0++List.replicate 8 0)
  rw[List.replicate_append_replicate,show nou n+9=(nou n+8)+1 by omega,List.replicate_succ,List.set_cons_zero]
 | j+1,h=>by
  show (enL n j).set (nou n+9 -1 -j) _=_
  rw[en_is n j (by omega),show nou n+9 -1 -j=(nou n+(7 -j))+1 by omega,List.set_cons_succ,List.set_append_right _ _ (by rw[List.length_replicate];omega),List.length_replicate,show nou n+(7 -j) -nou n=7 -j by omega]
  rfl
theorem pad_is(xs:List Nat):pad xs=(xs++[128])++List.replicate (nou xs.length) 0++tlF xs.length 8:=by
 unfold pad Vm
 rw[en_is _ 8 (Nat.le_refl _)]
 simp
theorem nou_56(n k:Nat)(hn:n<=100000)(hk:k<=nou n):(n+1+k)%64=56↔k=nou n:=by
 unfold nou at *;omega
def tD(ss:List Nat):Nat->List Nat
 | 0=>z32
 | m+1=>(tD ss m).set (4*(m/4)+3 -m%4) ((ss.getD (m/4) 0>>>(8*(m%4)))%256)
theorem tD_B(ss:List Nat): ∀m,BB 32 (tD ss m)
 | 0=>BB_z32
 | m+1=>(tD_B ss m).set _ _ (Nat.mod_lt _ (by decide))
theorem tD_get(ss:List Nat)(p:Nat)(hp:p<32): ∀m,m<=32->(tD ss m).getD p 0=if 4*(p/4)+3 -p%4<m then (ss.getD (p/4) 0>>>(8*(3 -p%4)))%256 else 0
 | 0,_=>by
  show z32.getD p 0=_
  rw[if_neg (by omega)]
  unfold z32;rw[List.getD_eq_getElem?_getD,List.getElem?_replicate];split<;>rfl
 | m+1,h=>by
  rw[tD,Xa,(tD_B ss m).len]
  by_cases e:4*(m/4)+3 -m%4=p
  ·have e1:m/4=p/4:=by omega
   have e2:m%4=3 -p%4:=by omega
   rw[if_pos ⟨e,hp⟩,if_pos (by omega),e1,e2]
  ·rw[if_neg (fun h'=>e h'.1),tD_get ss p hp m (by omega)]
   by_cases e3:4*(p/4)+3 -p%4<m
   ·rw[if_pos e3,if_pos (by omega)]
   ·rw[if_neg e3,if_neg (by omega)]
theorem tD_told(ss:List Nat):tD ss 32=told ss:=by
 refine List.ext_getElem (by rw[(tD_B ss 32).len,(told_B ss).len]) fun p a b=>?_
 have hp:p<32:=by rw[(tD_B ss 32).len] at a;exact a
 have e1:=tD_get ss p hp 32 (Nat.le_refl _)
 rw[if_pos (by omega)] at e1
 have e2:=told_get ss p hp
 rw[List.getD_eq_getElem?_getD,List.getElem?_eq_getElem a] at e1
 rw[List.getD_eq_getElem?_getD,List.getElem?_eq_getElem b] at e2
 simp only[Option.getD_some] at e1 e2
 rw[e1,e2]
theorem shr_next(x j:Nat):(x>>>(8*j))/256=x>>>(8*(j+1)):=by
 rw[show 8*(j+1)=8*j+8 by omega,Nat.shiftRight_add,Nat.shiftRight_eq_div_pow (x>>>(8*j)) 8]
theorem app_PG{lo n m:Nat}{xs ys:List Nat}{y:Value}{ty:TypeId}{u:World}{vs:Value}(hlo:lo<=u.heap.size)(hxl:xs.length=n)(hyl:ys.length=m)(hl:n+m<=1000000)(hy:NW m (U8 ys) u y)(h:PG lo 1 n (U8 xs) u vs):
 ∃v u' b,(Builtin.append_ #[46,46] ty #[vs,y]).run Tryz.prog u= .ok v u'/\lo<=b/\u.grownBy u' (some b)/\PG lo 1 (n+m) (U8 (xs++ys)) u' v:=by
 obtain⟨b,cap,zs,rfl,h1,h2,h3,h4,h5⟩:=h
 obtain⟨ti,hti,htm⟩:=Option.map_eq_some_iff.1 infoB
 simp only[Prod.mk.injEq] at htm
 obtain⟨hzv,hsz,hby⟩:=htm
 obtain⟨v',u',hr,hg,b',cap',zs',rfl,g1,g2,g3,g4,g5⟩:=run_app (P:=Tryz.prog) u (ty:=ty) Tryz.underlying46 hti hzv (by rw[hsz];rfl) (base:=u.heap.size) (n:=n) (cap:=cap) (m:=m) (news:=U8 ys) h5 h2 (by rw[hsz,Z2];omega) (by rw[hsz];omega) h3 (Nat.le_refl _) hy (by rw[hsz,Z2];omega) Vn (by rw[hby];omega) (by omega)
 refine⟨_,u',b,hr,h1,hg,b',cap',zs',rfl,by omega,g2,g3,by rw[hsz] at g4;exact g4,by rw[Wb];exact g5⟩
section
variable {R:Rg} {P:Program} {ops:Array Oper} {Q:Exit->Act->World->Prop} {f:Nat->Bool} {t:Nat->Value} {u:World} {a:Act} {i:Nat} {o:Oper}
theorem g_aEE(m m2 n:Nat)(p p2 p':World->Value->Prop){T:TypeId}{j d j2 d2:Nat}(hp: ∀(f:Nat->Bool) (u:World) (vs ys:Value),KC f u R.lo R.base R.es->Below R.lo R.w u->R.base<=u.heap.size->p u vs->p2 u ys-> ∃v u' b,(Builtin.append_ #[T,T] o.type #[vs,ys]).run P u= .ok v u'/\R.base<=b/\u.grownBy u' (some b)/\p' u' v)(hop:o.op= .call {callee:= .builtin .append,args:=[.tmp d,.tmp d2].toArray,argTypes:=[T,T].toArray}:=by rfl)(hm:R.E[m]?=some ⟨j,d,some i,p⟩:=by rfl)(hm2:R.E[m2]?=some ⟨j2,d2,some i,p2⟩:=by rfl)(hn0:(R.E[n]?).map (·.p)=some p':=by rfl)(hw0:R.nw=[]:=by rfl)
 (hd:(Yb o j&&R.S.contains d&&(Yb o j2&&R.S.contains d2)&&((R.E.eraseIdx n).all (eGone R.O i o)))=true:=by rfl)(hc:R.chkE ops n i o=true:=by rfl):OG R P ops Q i o:=fun f t u a X=>by
 simp only[Bool.and_eq_true,List.contains_iff_mem] at hd
 obtain⟨⟨⟨h2,h4⟩,h6,h7⟩,h5⟩:=hd
 obtain⟨d',q',hd',hq',⟨e1,e2⟩,k1,k2,k3,k4,k5,k6,k7,hw⟩:=Zq hc
 have hv:p u (t d):=X.val hm h2 rfl
 have hv2:p2 u (t d2):=X.val hm2 h6 rfl
 obtain⟨v,u',b,hr,hb,hg,hn⟩:=hp f u (t d) (t d2) X.I.2.1 X.I.1.bel X.I.1.sz hv hv2
 refine X.go hw fun K hK=>Tb hop (X.inS h4) (X.inS h7) hr (hK _ _ ⟨updT t d' v,by rw[hd'];exact X.F.put X.parts.1 k3 v,?_,KC.free k7 (KC.grown hg hb X.I.1.sz X.I.2.1),Gs.other k1 X.I.2.2.1,X8 k6 X.I.2.2.2.1 X.dep,Ns.step X.I.2.2.2.2.1 k2,?_⟩)
 ·have hM:=X.I.1
  rw[hw0] at hM⊢
  exact{bel:=hM.bel.grown hg (Nat.le_trans hM.lo hM.sz) (fun k e=>by cases e;exact Nat.le_trans hM.lo hb),lo:=hM.lo,sz:=Nat.le_trans hM.sz hg.size,ks:=trivial,ex:=trivial,nw:=trivial,nd:=trivial}
 ·exact Es.last (O:=R.O) (fun j hj=>X.later (by unfold Rg.later;rw[hj];simp)) X.dep (by rw[hq',<-e1,<-e2]) h5 (by rw[hq'] at hn0;cases hn0;exact hn)
end
end
theorem Vc:EnT 131:=fun _ _=>by kernel_rfl
theorem bsB0(x:Nat)(w:World):(Instr.buildSlice 46 1 ([0].zip [.int .u8 (x:Int)]).toArray).run Tryz.prog w= .ok (.slice (some ⟨w.heap.size,0,none⟩) 1 1) (w.alloc (.cells (U8 [x]).toArray 5)):=by kernel_rfl
theorem PS_NW{lo n:Nat}{xs:List Nat}{u:World}{y:Value}(h:PS lo n (U8 xs) u y):NW n (U8 xs) u y:=by
 obtain⟨b,cap,rfl,_,h2,h3,h4⟩:=h
 exact⟨_,cap,rfl,.inr ⟨_,rfl,fun j v hj=>by rw[Addr.add0];exact(h4 j v hj).1⟩⟩
theorem neq_it(p q:Operand)(x y:Int)(b:Bool)(w:World)(h:decide (x≠y)=b):(do eqGuard .neq 3 p q (iI x) (iI y);binOp .neq 3 (iI x) (iI y):Sem Value).run Tryz.prog w= .ok (.bool b) w:=by
 subst h;go_simp
 first | done | (by_cases e:x=y<;>simp[e])
theorem Tn(p q:Operand)(x y:Int)(b:Bool)(w:World)(h:decide (y<=x)=b):(do eqGuard .geq 3 p q (iI x) (iI y);binOp .geq 3 (iI x) (iI y):Sem Value).run Tryz.prog w= .ok (.bool b) w:=by
 subst h;go_simp
theorem quo64(p q:Operand)(x y:Nat)(w:World)(h1:x<18446744073709551616)(h2:0<y):(do eqGuard .quo 22 p q (iU x) (iU y);binOp .quo 22 (iU x) (iU y):Sem Value).run Tryz.prog w= .ok (iU ((x/y:Nat):Int)) w:=by
 have e0:((x:Int)).tdiv y=((x/y:Nat):Int):=by rw[Int.tdiv_eq_ediv_of_nonneg (Int.natCast_nonneg _)];simp
 have hle:x/y<=x:=Nat.div_le_self _ _
 obtain⟨z,hz⟩: ∃z,x/y=z:=⟨_,rfl⟩
 rw[hz] at e0 hle⊢
 have e:IntKind.u64.wrap (z:Int)=(z:Int):=Xv _ (by omega) (by omega)
 have hy:(y:Int)≠0:=by omega
 have hy2: ¬y=0:=by omega
 go_simp
def lenV2:Value->Nat
 | .slice _ n _=>n
 | _=>0
theorem ixB0(g n cap j:Nat)(h:j<n)(w:World):(Instr.indexAt 46 (.slice (some ⟨g,0,none⟩) n cap) (iI j)).run Tryz.prog w= .ok (.pointer (some ⟨g,j,none⟩)) w:=by
 have:=ixB g 0 n cap j h w
 rwa [Nat.zero_add] at this
theorem NW_full{u:World}{b n cap:Nat}{xs:List Nat}(hl:xs.length=n)(h:CV u b (U8 xs)):NW n (U8 xs) u (.slice (some ⟨b,0,none⟩) n cap):=
 ⟨_,cap,rfl,.inr ⟨_,rfl,fun j v hj=>by rw[Addr.add0];exact(h j v hj).1⟩⟩
theorem cPadR_core(n cap no N:Nat)(sl:Option Addr)(xs ps:List Nat)(tF:Nat->List Nat)(nF:Nat->Nat)(w:World)(hn:n<=100000)(hno64:no<64)(hxs:xs.length=n)(hN:N=n+1+no+8)(hno:Hid (∀k,k<=no->((n+1+k)%64=56↔k=no)))(ht0:Hid (tF 0=List.replicate 8 0))(hts:Hid (∀j,tF (j+1)=(tF j).set (7 -j) (nF j%256)))(htB:Hid (∀j,BB 8 (tF j)))(hn0:Hid (nF 0=n*8))(hns:Hid (∀j,nF (j+1)=nF j/256))(hnl:Hid (∀j,nF j<18446744073709551616))(hpad:Hid (ps=xs++[128]++List.replicate no 0++tF 8))
 (happ:Hid (∀(u:World) (vs:Value),Bw w u->PZ w.heap.size u vs-> ∃v u',(Builtin.append_ #[46,46] 46 #[vs,(.slice sl n cap)]).run Tryz.prog u= .ok v u'/\Bw u u'/\PG w.heap.size 1 n (U8 xs) u' v)):
 Calls Tryz.prog 131 #[(.slice sl n cap)] w fun e w'=> ∃v,e= .returned v/\PG w.heap.size 1 N (U8 ps) w' v/\Bw w w':=by
 go_enter Tryz.func131,Tryz.ntmps131
 have HB0:Bw w w:=Below.refl _ _
 obtain⟨ti,hti,htm⟩:=Option.map_eq_some_iff.1 infoB
 simp only[Prod.mk.injEq] at htm
 obtain⟨hzv,hsz,hby⟩:=htm
 have K0_1:=Bk.nil (w.heap.size) w
 go_upto_region 1 with fail
 refine Rf K0_1 HB0 [] [] [(1,8,_)] [(5,4)] [] [⟨0,7,some 2,PZ w.heap.size⟩,⟨2,9,some 4,PG w.heap.size 1 n (U8 xs)⟩,⟨3,10,some 4,PS w.heap.size 1 (U8 [128])⟩,⟨4,11,some 5,PG w.heap.size 1 (n+1) (U8 (xs++[128]))⟩,⟨5,3,none,PG w.heap.size 1 (n+1) (U8 (xs++[128]))⟩] [] (oc (g_bs 0 (PZ w.heap.size) bs0b (fun u hu=>PZ.new hu))<|oc g_mv<|oc (g_a1 0 1 (PZ w.heap.size) (PG w.heap.size 1 n (U8 xs)) (fun u vs hB hs hv=>happ.out u vs hB hv))<|oc (g_bR 2 (PS w.heap.size 1 (U8 [128])) [0] [.int .u8 128] (U8 [128]) (bsB0 128) (fun u hu=>PS.new 1 _ _ u hu))<|oc (g_aEE 1 2 3 (PG w.heap.size 1 n (U8 xs)) (PS w.heap.size 1 (U8 [128])) (PG w.heap.size 1 (n+1) (U8 (xs++[128]))) (fun f u vs ys kZ bZ hs hv hy=>app_PG hs hxs rfl (by omega) (PS_NW hy) hv))<|oc (g_sE 3 4 (PG w.heap.size 1 (n+1) (U8 (xs++[128])))) on) fun u1 v1_0 hv1_0 v1_2 hv1_2 v1_3 hv1_3 v1_4 hv1_4 v1_5 hv1_5 HB1 _ K1=>?_
 simp only[sQ] at K1⊢
 obtain⟨b3,c3,zs,rfl,ho1,ho2,hc3,hz3,hoC⟩:=hv1_5 rfl
 rw[Nat.mul_one] at hz3
 go_wp2_with fail
 go_loopw [3] (fun s3 wr=> ∃(k b3 c3:Nat) (zs:List Value),k<=no/\s3= .slice (some ⟨b3,0,none⟩) (n+1+k) c3/\n+1+k<=c3/\zs.length=c3 -(n+1+k)/\w.heap.size<=b3/\b3<wr.heap.size/\Hid (CV wr b3 (U8 (xs++[128]++List.replicate k 0)++zs))/\Bw w wr) (fun s3 _=>n+1+no -lenV2 s3)
 case atStart=>exact⟨0,b3,c3,zs,by omega,rfl,hc3,hz3,ho1,ho2,(by rw[List.replicate_zero,List.append_nil];exact hoC),HB1⟩
 case round=>
  clear ho1 ho2 hc3 hz3 hoC
  obtain⟨k,b3,c3,zs,hk,rfl,hc3,hz3,hb3,hl3,Kv,HBr⟩:=hrel
  have h56:=hno.out k hk
  have e64:(n+1+k)%64<64:=Nat.mod_lt _ (by decide)
  by_cases hj:k<no
  ·have hl1:decide ((((n+1+k)%64:Nat):Int)≠56)=true:=by simp;omega
   have hxl:(xs++[128]++List.replicate k 0).length=n+1+k:=by rw[List.length_append,List.length_append,List.length_replicate,hxs];rfl
   have K1_2:Bk w.heap.size wr [(true,b3,U8 (xs++[128]++List.replicate k 0)++zs)]:=⟨.o hl3 (by omega) Kv.out<|trivial,by simp⟩
   go_upto_region 2 with fail
   refine Rn K1_2 HBr (cG 0 12 [_,_,_,_] []) (oc g_mv<|oc (g_ln Tryz.underlying46)<|oc (g_bn (fun uZ=>rem_n _ _ (n+1+k) 64 uZ (by omega) (by decide)))<|oc (g_bn (fun uZ=>neq_it _ _ (((n+1+k)%64:Nat):Int) 56 true uZ hl1)) on) fun u2 HB2 sz2 K2=>?_
   simp only[sQ] at K2⊢
   go_upto_region 3 with fail
   refine Rf K2 HB2 [.all 2 ([])] [] [(0,16,_)] [(3,0),(3,2)] [(3,3)] [⟨1,17,some 2,PS w.heap.size 1 (U8 [0])⟩,⟨2,18,some 3,PH u2.heap.size b3 ti.size (n+1+k+1) (U8 (xs++[128]++List.replicate k 0)++U8 [0])⟩,⟨3,3,none,PH u2.heap.size b3 ti.size (n+1+k+1) (U8 (xs++[128]++List.replicate k 0)++U8 [0])⟩] [false] (oc g_mv<|oc (g_bR 0 (PS w.heap.size 1 (U8 [0])) [0] [.int .u8 0] (U8 [0]) (bsB0 0) (fun u hu=>PS.new 1 _ _ u (Nat.le_trans HB2.size hu)))<|oc (g_pE 0 0 1 (PS w.heap.size 1 (U8 [0])) (U8 (xs++[128]++List.replicate k 0)) zs (U8 [0]) Tryz.underlying46 hti hzv (by rw[hsz];rfl) rfl (fun u y hy=>PS_NW hy) Vn (by rw[hsz];rfl) (by rw[hsz,Z2,hxl];omega) (by rw[hsz];omega) hc3 (by rw[hby];omega) (by omega))<|oc (g_sE 1 2 (PH u2.heap.size b3 ti.size (n+1+k+1) (U8 (xs++[128]++List.replicate k 0)++U8 [0]))) on) fun u3 v3_1 hv3_1 v3_2 hv3_2 v3_3 hv3_3 HB3 sz3 K3=>?_
   simp only[sQ] at K3⊢
   obtain⟨b6,c6,zs6,rfl,hb6,hl6,hc6,hz6,Kv6⟩:=hv3_3 rfl
   rw[hsz] at hz6
   rw[<-Wb,List.append_assoc,show ([0]:List Nat)=List.replicate 1 0 from rfl,List.replicate_append_replicate] at Kv6
   go_wp2
   refine⟨⟨k+1,b6,c6,zs6,by omega,rfl,hc6,by omega,by omega,hl6,Kv6,HB3⟩,?_⟩
   simp[lenV2]<;>omega
  ·have hkn:k=no:=by omega
   subst hkn
   have hl1:decide ((((n+1+k)%64:Nat):Int)≠56)=false:=by simp;omega
   have K1_2:Bk w.heap.size wr [(true,b3,U8 (xs++[128]++List.replicate k 0)++zs)]:=⟨.o hl3 (by omega) Kv.out<|trivial,by simp⟩
   go_upto_region 2 with fail
   refine Rn K1_2 HBr (cG 0 12 [_,_,_,_] []) (oc g_mv<|oc (g_ln Tryz.underlying46)<|oc (g_bn (fun uZ=>rem_n _ _ (n+1+k) 64 uZ (by omega) (by decide)))<|oc (g_bn (fun uZ=>neq_it _ _ (((n+1+k)%64:Nat):Int) 56 false uZ hl1)) on) fun u2 HB2 sz2 K2=>?_
   simp only[sQ] at K2⊢
   go_upto_region 4 with fail
   refine Rn K2 HB2 (cG 0 19 [_,_,_,_] [(4,4,_)]) (oc g_mv<|oc (g_ln Tryz.underlying46)<|oc (g_op (fun ev uZ he=>cvi64 uZ (by omega) rfl (he _ _ rfl)))<|oc (g_bn (fun uZ=>mul64 _ _ n 8 (n*8) uZ rfl (by omega)))<|oc g_as on) fun u3 HB3 sz3 K3=>?_
   simp only[sQ] at K3⊢
   have hlt3:=(K3.lt 0)
   have hlo3:=HB3.size
   go_upto_region 5 with fail
   refine Rf K3 HB3 [] [] [] [] [] [⟨0,23,some 1,PF u3.heap.size 8 (U8 (List.replicate 8 0))⟩,⟨1,5,none,PF u3.heap.size 8 (U8 (List.replicate 8 0))⟩] [] (hst:=(.cons (fun _ _ _ h1 h2=>h2.stab h1)<| .cons (fun _ _ _ h1 h2=>h2.stab h1)<|Stab.nil)) (oc (g_ms 0 (PF u3.heap.size 8 (U8 (List.replicate 8 0))) (mkB .i64 8 (by decide)) (fun u hu=>PF.new 8 _ _ u hu))<|oc (g_sE 0 1 (PF u3.heap.size 8 (U8 (List.replicate 8 0)))) on) fun u4 v4_0 hv4_0 v4_1 hv4_1 HB4 _ K4=>?_
   simp only[sQ] at K4⊢
   obtain⟨bt,rfl,hot1,hot2,hotC⟩:=hv4_1 rfl
   have K4_3:Bk w.heap.size u4 [(true,b3,U8 (xs++[128]++List.replicate k 0)++zs),(true,bt,U8 (List.replicate 8 0))]:=⟨.o (K4.lt 0) (by omega) (K4.cv 0)<| .o hot2 (by omega) hotC<|trivial,by simp;omega⟩
   go_upto_region 6 with fail
   refine Rn K4_3 HB4 [(0,6,_)] (oc g_as on) fun u5 HB5 _ K5=>?_
   simp only[sQ] at K5⊢
   have hlb:=(K5.lt 0)
   have hlt:=(K5.lt 1)
   go_wp2_with fail
   go_loopw [6,4] (fun s6 s4 wr=> ∃(j:Nat),j<=8/\s6=iI (7 -(j:Int))/\s4=iU ((nF j:Nat):Int)/\b3<wr.heap.size/\Hid (CV wr b3 (U8 (xs++[128]++List.replicate k 0)++zs))/\bt<wr.heap.size/\Hid (CV wr bt (U8 (tF j)))/\Bw w wr) (fun s6 _ _=>(intOf s6+1).toNat)
   case atStart=>exact⟨0,by omega,rfl,(by rw[hn0.out];simp),(K5.lt 0),(K5.cv 0),(K5.lt 1),(by rw[ht0.out];exact(K5.cv 1)),HB5⟩
   case round=>
    clear Kv HBr hl1 hl3 hot2 hotC
    obtain⟨j,hj8,rfl,rfl,hl3,Kv,hlt,Kt,HBr⟩:=hrel
    by_cases hj:j<8
    ·have hl1:decide ((0:Int)<=7 -(j:Int))=true:=by simp;omega
     have hS:=hts.out j
     have hN:=hns.out j
     have hnl:=hnl.out j
     have htl:=(htB.out j).len
     obtain⟨tl,etl⟩: ∃x,tF j=x:=⟨_,rfl⟩
     obtain⟨q,eq⟩: ∃x,nF j=x:=⟨_,rfl⟩
     rw[etl] at hS htl Kt
     rw[eq] at hS hN hnl
     try rw[eq]
     have gi:=Yc tl (7 -j) (by omega)
     obtain⟨y,ey⟩: ∃x,tl.getD (7 -j) 0=x:=⟨_,rfl⟩
     rw[ey] at gi
     have e7:(7:Int) -(j:Int)=((7 -j:Nat):Int):=by omega
     try rw[e7]
     have e71:((7 -j:Nat):Int) -1=7 -((j+1:Nat):Int):=by omega
     have e256:q%256%256=q%256:=by omega
     rw[e7] at hl1
     have hS:Hid _:=hS
     have hN:Hid _:=hN
     clear etl eq ey
     have hnK:=K5.n
     simp at hnK
     have hoK0:=K5.lo 0
     have hoK1:=K5.lo 1
     have K5_4:Bk w.heap.size wr [(true,b3,U8 (xs++[128]++List.replicate k 0)++zs),(true,bt,U8 tl)]:=⟨.o hl3 (K5.lo 0) Kv.out<| .o hlt (K5.lo 1) Kt.out<|trivial,by simp;omega⟩
     go_upto_region 7 with fail
     refine Rn K5_4 HBr [(0,24,_),(1,25,_)] (oc g_mv<|oc (g_bn (fun uZ=>Tn _ _ ((7 -j:Nat):Int) 0 _ uZ hl1)) on) fun u6 HB6 sz6 K6=>?_
     simp only[sQ] at K6⊢
     go_upto_region 9 with fail
     refine Rp K6 HB6 [.no,.all 6 (U8 (tl.set (7 -j) (q%256)))] [] (cG 0 28 [_,_,_,_,_,_] []) [] [] [] (oc g_mv<|oc g_mv<|oc g_mv<|oc (g_bn (fun uZ=>rem64 _ _ q 256 uZ hnl (by decide)))<|oc (g_op (fun ev uZ he=>(cv648 uZ rfl (he _ _ rfl)).trans (by rw[e256])))<|oc (g_ix (fun uZ=>ixB0 bt 8 8 (7 -j) (by omega) uZ))<|oc (g_sw 1 (7 -j) s8 gi (Wp _ _ _)) on) fun u7 HB7 sz7 K7=>?_
     simp only[sQ] at K7⊢
     go_upto_region 10 with fail
     refine Rp K7 HB7 [] [] [(0,34,_),(1,35,_),(2,4,_)] [(2,0)] [(2,4)] [] (oc g_mv<|oc (g_bn (fun uZ=>quo64 _ _ q 256 uZ hnl (by decide)))<|oc g_as on) fun u8 HB8 _ K8=>?_
     simp only[sQ] at K8⊢
     go_upto_region 8 with fail
     refine Rp K8 HB8 [] [] [(0,26,_),(1,27,_),(2,6,_)] [(2,0)] [(2,6)] [] (oc g_mv<|oc (g_bn (fun uZ=>Y6 _ _ ((7 -j:Nat):Int) 1 (7 -((j+1:Nat):Int)) uZ e71 (by omega) (by omega)))<|oc g_as on) fun u9 HB9 _ K9=>?_
     simp only[sQ] at K9⊢
     go_wp2
     refine⟨⟨j+1,by omega,rfl,by rw[hN.out],(K9.lt 0),(K9.cv 0),(K9.lt 1),(by rw[hS.out];exact(K9.cv 1)),HB9⟩,?_⟩
     simp[intOf]<;>omega
    ·have hj8:j=8:=by omega
     subst hj8
     have hl1:decide ((0:Int)<=7 -((8:Nat):Int))=false:=by decide
     have htl:=(htB.out 8).len
     have hnK:=K5.n
     simp at hnK
     have hoK0:=K5.lo 0
     have hoK1:=K5.lo 1
     have hxl:(xs++[128]++List.replicate k 0).length=n+1+k:=by rw[List.length_append,List.length_append,List.length_replicate,hxs];rfl
     have K5_4:Bk w.heap.size wr [(true,b3,U8 (xs++[128]++List.replicate k 0)++zs),(false,bt,U8 (tF 8))]:=⟨.o hl3 (K5.lo 0) Kv.out<| .c hlt Kt.out<|trivial,by simp;omega⟩
     go_upto_region 7 with fail
     refine Rn K5_4 HBr [(0,24,_),(1,25,_)] (oc g_mv<|oc (g_bn (fun uZ=>Tn _ _ (7 -((8:Nat):Int)) 0 _ uZ hl1)) on) fun u6 HB6 sz6 K6=>?_
     simp only[sQ] at K6⊢
     go_upto_region 11 with fail
     refine Rf K6 HB6 [.all 2 ([])] [] [(0,36,_),(1,37,_)] [(3,2)] [] [⟨2,38,some 3,PH u6.heap.size b3 ti.size (n+1+k+8) (U8 (xs++[128]++List.replicate k 0)++U8 (tF 8))⟩,⟨3,2,none,PH u6.heap.size b3 ti.size (n+1+k+8) (U8 (xs++[128]++List.replicate k 0)++U8 (tF 8))⟩] [false] (oc g_mv<|oc g_mv<|oc (g_pV 0 0 (U8 (xs++[128]++List.replicate k 0)) zs (U8 (tF 8)) Tryz.underlying46 hti hzv (by rw[hsz];rfl) rfl (fun f u kZ bZ=>NW_full htl (kZ.cv 1)) Vn (by rw[hsz,Z2,htl]) (by rw[hsz,Z2,hxl];omega) (by rw[hsz];omega) hc3 (by rw[hby];omega) (by omega))<|oc (g_sE 0 1 (PH u6.heap.size b3 ti.size (n+1+k+8) (U8 (xs++[128]++List.replicate k 0)++U8 (tF 8)))) on) fun u7 v7_2 hv7_2 v7_3 hv7_3 HB7 sz7 K7=>?_
     simp only[sQ] at K7⊢
     obtain⟨b6,c6,zs6,rfl,hb6,hl6,hc6,hz6,Kv6⟩:=hv7_3 rfl
     rw[hsz] at hz6
     rw[<-Wb,<-hpad.out] at Kv6
     have Kv6:Hid _:=Kv6
     have e6:(Value.slice (some ⟨b6,0,none⟩) (n+1+k+8) c6)= .slice (some ⟨b6,0,none⟩) N c6:=by rw[hN]
     clear hpad
     have e6:Hid _:=e6
     have hc6:N<=c6:=by omega
     have hz6:zs6.length=c6 -N:=by omega
     clear hN
     go_wp2
     refine bodyPost_ret (v:= .slice (some ⟨b6,0,none⟩) (n+1+k+8) c6) (by simp[results,Tryz.results131,go_sem]) rfl ⟨_,rfl,⟨b6,c6,zs6,(by first | rfl | exact e6.out),by omega,hl6,(by omega),by omega,Kv6.out⟩,HB7⟩
theorem cPadR(xs:List Nat)(v:Value)(w:World)(hin:IN w w.heap.size v xs)(hl:xs.length<=100000):
 Calls Tryz.prog 131 #[v] w fun e w'=> ∃v,e= .returned v/\PG w.heap.size 1 (pad xs).length (U8 (pad xs)) w' v/\Bw w w':=by
 have hin0:=hin
 obtain⟨sl,cap,gb,go,rfl,h1,h2,h3,h4⟩:=hin
 exact cPadR_core xs.length cap (nou xs.length) (pad xs).length sl xs (pad xs) (tlF xs.length) (fun j=>(xs.length*8)>>>(8*j)) w hl (nou_lt _) rfl (by rw[pad_len];omega) (fun k hk=>nou_56 _ k (by omega) hk) rfl (fun _=>rfl) (tlF_B _) rfl (fun j=>(shr_next _ j).symm) (fun j=>by
  have:(xs.length*8)>>>(8*j)<=xs.length*8:=by rw[Nat.shiftRight_eq_div_pow];exact Nat.div_le_self _ _
  omega) (pad_is xs) (fun u vs hB hv=>app_PZ hB.size (by omega) ((hin0.below hB).mono hB.size) hv)
end Go.Proofs.YtdhlekdohebbbaaGreatDoor
