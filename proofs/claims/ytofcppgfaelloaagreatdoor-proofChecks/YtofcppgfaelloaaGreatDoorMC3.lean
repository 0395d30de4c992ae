import Derived.Test.YtofcppgfaelloaaGreatDoorMC2
namespace Go.Proofs.YtofcppgfaelloaaGreatDoor
set_option linter.unusedVariables false
set_option linter.unusedSimpArgs false
set_option maxRecDepth 100000
set_option maxHeartbeats 4000000
open Go.RowKit
theorem infoSl:(Tryz.prog.info? 43).map (fun i=>(i.zero,i.size,i.bytes))=some (some (.slice none 0 0),1,24):=by kernel_rfl
theorem bsE1 (y:Value) (w:World) (h: ∃sl n cap,y= .slice sl n cap):(Instr.buildSlice 179 1 ([0].zip [y]).toArray).run Tryz.prog w= .ok (.slice (some ⟨w.heap.size,0,none⟩) 1 1) (w.alloc (.cells [y].toArray 43)):=by
 obtain⟨sl,n,cap,rfl⟩:=h;kernel_rfl
theorem bsE2 (y z:Value) (w:World) (h: ∃sl n cap,y= .slice sl n cap) (h2: ∃sl n cap,z= .slice sl n cap):(Instr.buildSlice 179 2 ([0,1].zip [y,z]).toArray).run Tryz.prog w= .ok (.slice (some ⟨w.heap.size,0,none⟩) 2 2) (w.alloc (.cells [y,z].toArray 43)):=by
 obtain⟨sl,n,cap,rfl⟩:=h
 obtain⟨sl2,n2,cap2,rfl⟩:=h2
 kernel_rfl
theorem PF.sl {lo n:Nat} {xs:List Value} {u:World} {y:Value} (h:PF lo n xs u y): ∃sl n cap,y= .slice sl n cap:=by
 obtain⟨b,rfl,_⟩:=h;exact⟨_,_,_,rfl⟩
def PQ1 (lo:Nat) (p:List Nat) (u:World) (y:Value):Prop:= ∃b v,y= .slice (some ⟨b,0,none⟩) 1 1/\lo<=b/\b<u.heap.size/\CV u b [v]/\IN u u.heap.size v p
theorem PQ1.stab {lo:Nat} {p:List Nat} {u v:World} {x:Value} (hB:Bw u v) (h:PQ1 lo p u x):PQ1 lo p v x:=by
 obtain⟨b,y,e,h1,h2,h3,h4⟩:=h
 exact⟨b,y,e,h1,Nat.lt_of_lt_of_le h2 hB.size,h3.below hB h2,(h4.below hB).mono hB.size⟩
theorem PQ1.new {lo:Nat} {p:List Nat} {u:World} {y:Value} (t:TypeId) (h:lo<=u.heap.size) (hy:IN u u.heap.size y p):PQ1 lo p (u.alloc (.cells [y].toArray t)) (.slice (some ⟨u.heap.size,0,none⟩) 1 1):=
 ⟨_,y,rfl,h,by simp,CV.new u _ t,(hy.below (Z1 (Zh u) _)).mono (by simp)⟩
theorem PL_of {u:World} {b:Nat} {vs zs:List Value} {ps:List (List Nat)} (hcv:CV u b (vs++zs)) (hl:vs.length=ps.length) (h: ∀(i:Nat) (v:Value) (p:List Nat),vs[i]?=some v->ps[i]?=some p->IN u u.heap.size v p):PL u b 0 ps:=fun i p hp=>by
 have hi:i<vs.length:=by have:=(List.getElem?_eq_some_iff.1 hp).1;omega
 have e:=List.getElem?_eq_getElem hi
 refine⟨vs[i],?_,h i _ p e hp⟩
 rw[Nat.zero_add];exact(hcv i _ (by rw[List.getElem?_append_left hi];exact e)).1
theorem PQ.two {lo:Nat} {p q:List Nat} {u:World} {y z:Value} (t:TypeId) (h:lo<=u.heap.size) (hy:IN u u.heap.size y p) (hz:IN u u.heap.size z q):PQ lo [p,q] (u.alloc (.cells [y,z].toArray t)) (.slice (some ⟨u.heap.size,0,none⟩) 2 2):=by
 have hB:Bw u (u.alloc (.cells [y,z].toArray t)):=Z1 (Zh u) _
 refine⟨_,2,rfl,h,by simp,PL_of (vs:=[y,z]) (zs:=[]) (by rw[List.append_nil];exact CV.new u _ t) rfl fun i v p' hv hp=>?_⟩
 match i with
 | 0=>simp at hv hp;subst hv hp;exact(hy.below hB).mono hB.size
 | 1=>simp at hv hp;subst hv hp;exact(hz.below hB).mono hB.size
 | i+2=>simp at hv
theorem PL.vals {w:World} {gl go:Nat} {ps:List (List Nat)} (h:PL w gl go ps): ∃vs:List Value,vs.length=ps.length/\(∀(j:Nat) (v:Value),vs[j]?=some v->w.cell? ⟨gl,go+j,none⟩=some v)/\ ∀(i:Nat) (v:Value) (p:List Nat),vs[i]?=some v->ps[i]?=some p->IN w w.heap.size v p:=by
 have h2: ∀i,∃v,∀p,ps[i]?=some p->w.cell? ⟨gl,go+i,none⟩=some v/\IN w w.heap.size v p:=fun i=>by
  cases e:ps[i]? with
  | none=>exact⟨.bool true,fun p hp=>by cases hp⟩
  | some p=>
   obtain⟨v,h1,h2⟩:=h i p e
   exact⟨v,fun p' hp=>by cases hp;exact⟨h1,h2⟩⟩
 obtain⟨f,hf⟩:=Classical.skolem.1 h2
 refine⟨(List.range ps.length).map f,by simp,fun j v hv=>?_,fun i v p hv hp=>?_⟩
 ·rw[List.getElem?_map,Option.map_eq_some_iff] at hv
  obtain⟨k,hk,rfl⟩:=hv
  have hj:j<ps.length:=by have:=(List.getElem?_eq_some_iff.1 hk).1;simpa using this
  rw[List.getElem?_range hj] at hk
  cases hk
  exact(hf j _ (List.getElem?_eq_getElem hj)).1
 ·rw[List.getElem?_map,Option.map_eq_some_iff] at hv
  obtain⟨k,hk,rfl⟩:=hv
  have hj:i<ps.length:=(List.getElem?_eq_some_iff.1 hp).1
  rw[List.getElem?_range hj] at hk
  cases hk
  exact(hf i _ hp).2
def LV (w:World) (y:Value) (ps:List (List Nat)):Prop:= ∃(sl:Option Addr) (cap gl go:Nat),y= .slice sl ps.length cap/\(ps.length=0\/sl=some ⟨gl,go,none⟩)/\gl<w.heap.size/\PL w gl go ps
theorem LV.below {w u:World} {y:Value} {ps:List (List Nat)} (h:LV w y ps) (hB:Bw w u):LV u y ps:=by
 obtain⟨sl,cap,gl,go,e,h1,h2,h3⟩:=h
 exact⟨sl,cap,gl,go,e,h1,Nat.lt_of_lt_of_le h2 hB.size,h3.below h2 hB⟩
theorem app_PQ {lo:Nat} {p:List Nat} {ps:List (List Nat)} {y:Value} {ty:TypeId} {u:World} {vs:Value} (hlo:lo<=u.heap.size) (hl:ps.length<=1000000) (hy:LV u y ps) (h:PQ1 lo p u vs):
 ∃v u',(Builtin.append_ #[179,179] ty #[vs,y]).run Tryz.prog u= .ok v u'/\Bw u u'/\PQ lo (p::ps) u' v:=by
 obtain⟨b,x,rfl,h1,h2,h3,h4⟩:=h
 obtain⟨sl,cap,gl,go,rfl,k1,k2,k3⟩:=hy
 obtain⟨ws,w1,w2,w3⟩:=k3.vals
 obtain⟨ti,hti,htm⟩:=Option.map_eq_some_iff.1 infoSl
 simp only[Prod.mk.injEq] at htm
 obtain⟨hzv,hsz,hby⟩:=htm
 obtain⟨v',u',hr,hB,b',cap',zs,rfl,g1,g2,g3,g4,g5⟩:=U4 (P:=Tryz.prog) u (ty:=ty) Tryz.underlying179 hti hzv (by rw[hsz];rfl) (n:=1) (m:=ps.length) (xs:=[x]) (news:=ws) h3 h1 hlo h2 (by rw[hsz];rfl) ⟨sl,cap,rfl,k1.imp_right fun e=>⟨_,e,fun j v hj=>by rw[Addr.addo];exact w2 j v hj⟩⟩ (by rw[hsz,w1];omega) (by rw[hby];omega) (by omega)
 refine⟨_,u',hr,hB,b',cap',by rw[List.length_cons,Nat.add_comm],g1,g2,PL_of (vs:=[x]++ws) g5 (by simp[w1]) fun i v q hv hq=>?_⟩
 cases i with
 | zero=>simp at hv hq;subst hv hq;exact(h4.below hB).mono hB.size
 | succ i=>
  simp at hv hq
  exact((w3 i v q hv hq).below hB).mono hB.size
theorem CV_in {u:World} {b n:Nat} {xs:List Nat} (hl:xs.length=n) (h:CV u b (U8 xs)) (hb:b<u.heap.size):IN u u.heap.size (.slice (some ⟨b,0,none⟩) n n) xs:=by
 subst hl
 refine⟨_,_,b,0,rfl,Nat.le_refl _,.inr rfl,hb,fun j hj=>?_⟩
 rw[Nat.zero_add];exact(h j _ (Zy xs j hj)).1
theorem cHmac_core (ks m1 m2 d1 ds:List Nat) (ps:List (List Nat)) (y:Value) (w:World) (hk64:ks.length=64) (hm1:m1.length=64) (hm2:m2.length=64) (hd1:d1.length=32) (hds:ds.length=32) (hpl:ps.length<=1000000) (hLV:Hid (LV w y ps)) (hM1:Hid (∀(u:World),Calls Tryz.prog 148 #[.agg (U8 (ks)).toArray,.int .u8 ((54:Nat):Int)] u fun e u'=> ∃v,e= .returned v/\PF u.heap.size 64 (U8 (m1)) u' v/\Bw u u')) (hM2:Hid (∀(u:World),Calls Tryz.prog 148 #[.agg (U8 (ks)).toArray,.int .u8 ((92:Nat):Int)] u fun e u'=> ∃v,e= .returned v/\PF u.heap.size 64 (U8 (m2)) u' v/\Bw u u')) (hP1:Hid (∀(u:World) (y:Value),Bw w u->PQ w.heap.size (m1::ps) u y->CC 147 #[y] u (.agg (U8 (d1)).toArray))) (hP2:Hid (∀(u:World) (y:Value),Bw w u->PQ w.heap.size [m2,d1] u y->CC 147 #[y] u (.agg (U8 (ds)).toArray))):
 CC 135 #[.agg (U8 (ks)).toArray,y] w (.agg (U8 (ds)).toArray):=by
 go_enter Tryz.func135,Tryz.ntmps135
 go_upto_region 1 with fail
 generalize hC:((w.alloc (.cells (U8 (ks):List Value).toArray 150)).alloc (.cells (Z32b:List Value).toArray 110))=v0 at *
 have HB0:Bw w v0:=by rw[<-hC];exact Z1 (Z1 (Zh w) _) _
 have K0:Bk w.heap.size v0 [(true,w.heap.size,U8 (ks)),(true,w.heap.size+1,U8 (z32))]:=by rw[<-hC];exact(Bk.nil _ w).ad.ad
 clear hC
 refine Rf K0 HB0 [] [(6,5,U8 (z32),some (7,U8 (d1)))] [(0,6,_),(3,9,y),(5,11,_)] [(7,6)] [] [⟨1,7,some 2,PF w.heap.size 64 (U8 (m1))⟩,⟨2,8,some 4,PQ1 w.heap.size m1⟩,⟨4,10,some 5,PQ w.heap.size (m1::ps)⟩] [] (oc (g_lR 0 0 (cs:=U8 (ks)) (fun j v h=>by rw[Nat.zero_add];exact h) Tryz.underlying150 (by rw[Z2,hk64];exact Z6))<|oc (g_cE 0 (PF w.heap.size 64 (U8 (m1))) Vq (fun u hB hs=>(hM1.out u).mono fun e u2 ⟨v,e1,h1,h2⟩=>⟨v,e1,h1.mono hB.size,h2⟩))<|oc (g_bY 0 1 (PF w.heap.size 64 (U8 (m1))) (PQ1 w.heap.size m1) [0] (fun y=>[y]) (fun w y hy=>bsE1 y w hy.sl) (fun f u y kZ bZ hs hy=>PQ1.new _ bZ.size (PF_in (by rw[hm1];exact hy))))<|oc g_mv<|oc (g_a1 1 2 (PQ1 w.heap.size m1) (PQ w.heap.size (m1::ps)) (fun u vs hB hs hv=>app_PQ hB.size hpl (hLV.out.below hB) hv))<|oc (g_c1 2 (PQ w.heap.size (m1::ps)) Wn (fun uZ y bZ hy=>hP1.out uZ y bZ hy))<|oc (g_al 0 Y9)<|oc (g_sn 0 Z3 (h1:=Yl _) (hm:=by rw[Z2,hd1]) (hl:=by first | rw[Z2,Z2,hd1,show z32.length=32 from rfl] | rfl)) on) fun u1 b1_6 v1_1 hv1_1 v1_2 hv1_2 v1_4 hv1_4 HB1 _ K1=>?_
 simp only[sQ] at K1⊢
 go_upto_region 2 with fail
 refine Re K1 HB1 [.no,.all 5 (U8 (ds))] [] [(0,12,_),(2,14,_),(4,16,_)] [] [] [⟨1,13,some 3,PF w.heap.size 64 (U8 (m2))⟩,⟨3,15,some 4,PQ w.heap.size [m2,d1]⟩] [false] (oc (g_lR 0 0 (cs:=U8 (ks)) (fun j v h=>by rw[Nat.zero_add];exact h) Tryz.underlying150 (by rw[Z2,hk64];exact Z6))<|oc (g_cE 0 (PF w.heap.size 64 (U8 (m2))) Vq (fun u hB hs=>(hM2.out u).mono fun e u2 ⟨v,e1,h1,h2⟩=>⟨v,e1,h1.mono hB.size,h2⟩))<|oc (g_sl (sl32 b1_6))<|oc (g_bY 0 1 (PF w.heap.size 64 (U8 (m2))) (PQ w.heap.size [m2,d1]) [0,1] (fun y=>[y,.slice (some ⟨b1_6,0,none⟩) 32 32]) (fun w y hy=>bsE2 y _ w hy.sl ⟨_,_,_,rfl⟩) (fun f u y kZ bZ hs hy=>PQ.two _ bZ.size (PF_in (by rw[hm2];exact hy)) (CV_in hd1 (kZ.cv 2) (kZ.lb hs 2))))<|oc (g_c1 1 (PQ w.heap.size [m2,d1]) Wn (fun uZ y bZ hy=>hP2.out uZ y bZ hy))<|oc (g_st 1 Z3 (h1:=Yl _) (hm:=by rw[Z2,hds]) (hl:=by first | rw[Z2,Z2,hds,show z32.length=32 from rfl] | rfl)) on) fun u2 v2_1 hv2_1 v2_3 hv2_3 HB2 _ K2=>?_
 simp only[sQ] at K2⊢
 go_wp2
 refine bodyPost_ret (Zx Tryz.results135 rfl (K2.cv 0) Tryz.underlying110 rfl (by rw[Z2,hds];exact Z3)) rfl ⟨rfl,HB2⟩
theorem cParts2 (a c:List Nat) (z:Value) (u:World) {lo:Nat} (hV:GV u) (ha:BB 64 a) (hc:BB 32 c) (hz:PQ lo [a,c] u z):CC 147 #[z] u (.agg (U8 (dig (a++c))).toArray):=by
 obtain⟨b,cap,rfl,_,h2,h3⟩:=hz
 have h:=cParts [a,c] b 0 cap u h2 hV h3 (show 2<=1000000 by omega) (fun p hp=>by
  simp at hp
  rcases hp with rfl | rfl
  ·exact ha.mem
  ·exact hc.mem) (fun p hp=>by
  simp at hp
  rcases hp with rfl | rfl
  ·rw[ha.len];omega
  ·rw[hc.len];omega) (by rw[List.flatten_cons,List.flatten_cons,List.flatten_nil,List.append_nil,List.length_append,ha.len,hc.len];omega)
 rw[show ([a,c]:List (List Nat)).flatten=a++c by simp] at h
 exact h
theorem cHmac (ks:List Nat) (ps:List (List Nat)) (y:Value) (w:World) (hV:GV w) (hk:BB 64 ks) (hy:LV w y ps) (hn:ps.length<=100000) (hx: ∀p∈ps,∀x∈p,x<256) (hl: ∀p∈ps,p.length<=10000) (ht:ps.flatten.length<=900000):
 CC 135 #[.agg (U8 (ks)).toArray,y] w (.agg (U8 (hm ks ps.flatten)).toArray):=by
 have b1:=msk_B hk (show 54<256 by decide)
 have b2:=msk_B hk (show 92<256 by decide)
 refine cHmac_core ks (msk 54 ks) (msk 92 ks) (dig (msk 54 ks++ps.flatten)) (hm ks ps.flatten) ps y w hk.len b1.len b2.len (dig_B _).len (hm_B _ _).len (by omega) hy (fun u=>cMasked ks 54 u hk (by decide)) (fun u=>cMasked ks 92 u hk (by decide)) (fun u z hB hz=>?_) (fun u z hB hz=>?_)
 ·obtain⟨b,cap,rfl,_,h2,h3⟩:=hz
  have h:=cParts (msk 54 ks::ps) b 0 cap u h2 (hV.below hB hV.sz) h3 (by simp;omega) (fun p hp=>by
   rcases List.mem_cons.1 hp with rfl | hp
   ·exact b1.mem
   ·exact hx p hp) (fun p hp=>by
   rcases List.mem_cons.1 hp with rfl | hp
   ·rw[b1.len];decide
   ·exact hl p hp) (by rw[List.flatten_cons,List.length_append,b1.len];omega)
  rw[List.flatten_cons] at h
  exact h
 ·exact cParts2 _ _ z u (hV.below hB hV.sz) b2 (dig_B _) hz
theorem cMac_core (n cap:Nat) (sl:Option Addr) (kv:Value) (wk ds:List Nat) (w:World) (hds:ds.length=32) (hWh:Hid (∀(u:World),Bw w u->CC 119 #[kv] u (.agg (U8 (wk)).toArray))) (hHm:Hid (∀(u:World) (y:Value),Bw w u->PS w.heap.size 1 [(.slice sl n cap)] u y->CC 135 #[.agg (U8 (wk)).toArray,y] u (.agg (U8 (ds)).toArray))):
 CC 117 #[kv,(.slice sl n cap)] w (.agg (U8 (ds)).toArray):=by
 go_enter Tryz.func117,Tryz.ntmps117
 go_upto_region 1 with fail
 generalize hC:(w.alloc (.cells (Z32b:List Value).toArray 110))=v0 at *
 have HB0:Bw w v0:=by rw[<-hC];exact Z1 (Zh w) _
 have K0:Bk w.heap.size v0 [(true,w.heap.size,U8 (z32))]:=by rw[<-hC];exact(Bk.nil _ w).ad
 clear hC
 refine Rf K0 HB0 [.all 5 (U8 (ds))] [] (cG 0 5 [_,_,_] [(4,9,_)]) [] [] [⟨3,8,some 4,PS w.heap.size 1 [(.slice sl n cap)]⟩] [] (oc g_mv<|oc (g_cb Ug hWh.out)<|oc g_mv<|oc (g_bR 0 (PS w.heap.size 1 [(.slice sl n cap)]) [0] [(.slice sl n cap)] [(.slice sl n cap)] (bsSl _ _ _) (fun u hu=>PS.new 1 _ _ u (Nat.le_trans HB0.size hu)))<|oc (g_c2 0 (PS w.heap.size 1 [(.slice sl n cap)]) V4 (fun uZ y bZ hy=>hHm.out uZ y bZ hy))<|oc (g_st 0 Z3 (h1:=Yl _) (hm:=by rw[Z2,hds]) (hl:=by first | rw[Z2,Z2,hds,show z32.length=32 from rfl] | rfl)) on) fun u1 v1_3 hv1_3 HB1 _ K1=>?_
 simp only[sQ] at K1⊢
 go_wp2
 refine bodyPost_ret (Zx Tryz.results117 rfl (K1.cv 0) Tryz.underlying110 rfl (by rw[Z2,hds];exact Z3)) rfl ⟨rfl,HB1⟩
def mac (ks xs:List Nat):List Nat:=hm (whl ks) xs
theorem mac_B (ks xs:List Nat):BB 32 (mac ks xs):=hm_B _ _
theorem LV_one {u:World} {y v:Value} {lo:Nat} {xs:List Nat} (h:PS lo 1 [v] u y) (hv:IN u u.heap.size v xs):LV u y [xs]:=by
 obtain⟨b,c,rfl,_,hb,_,hcv⟩:=h
 refine⟨_,c,b,0,rfl,.inr rfl,hb,PL_of (vs:=[v]) (zs:=[]) (by simpa using hcv) rfl fun i x p hx hp=>?_⟩
 match i with
 | 0=>simp at hx hp;subst hx hp;exact hv
 | i+1=>simp at hx
theorem cMac (ks xs:List Nat) (v v2:Value) (w:World) (hV:GV w) (hin:IN w w.heap.size v ks) (hsn: ∀n c,v= .slice none n c->c=0) (hin2:IN w w.heap.size v2 xs) (hk: ∀x∈ks,x<256) (hx: ∀x∈xs,x<256) (hkl:ks.length<=10000) (hl:xs.length<=10000):
 CC 117 #[v,v2] w (.agg (U8 (mac ks xs)).toArray):=by
 have hin3:=hin2
 obtain⟨sl,cap,gb,go,rfl,h1,h2,h3,h4⟩:=hin2
 refine cMac_core xs.length cap sl v (whl ks) (mac ks xs) w (mac_B _ _).len (fun u hB=>cWhole ks v u (hV.below hB hV.sz) ((hin.below hB).mono hB.size) hsn hk hkl) (fun u y hB hy=>?_)
 have h:=cHmac (whl ks) [xs] y u (hV.below hB hV.sz) (whl_B hk) (LV_one hy ((hin3.below hB).mono hB.size)) (by simp) (by simpa using hx) (by simpa using hl) (by simp;omega)
 simpa [mac] using h
section
section
variable {R:Rg} {P:Program} {ops:Array Oper} {Q:Exit->Act->World->Prop} {f:Nat->Bool} {t:Nat->Value} {u:World} {a:Act} {i:Nat} {o:Oper}
end
theorem not_f (w:World):(Op.unary .not (.bool false)).run Tryz.prog w= .ok (.bool true) w:=by go_simp
end
theorem bs0b (w:World):(Instr.buildSlice 43 0 #[]).run Tryz.prog w= .ok (.slice (some ⟨w.heap.size,0,none⟩) 0 0) (w.alloc (.cells #[] 5)):=by kernel_rfl
theorem IN_NW {u:World} {m:Nat} {v:Value} {xs:List Nat} (h:IN u m v xs):NW xs.length (U8 xs) u v:=by
 obtain⟨sl,cap,gb,go,rfl,h1,h2,h3,h4⟩:=h
 refine⟨sl,cap,rfl,h2.imp_right fun e=>⟨_,e,fun j v hj=>?_⟩⟩
 have hj':j<xs.length:=by have:=(List.getElem?_eq_some_iff.1 hj).1;rwa [Z2] at this
 rw[Addr.addo,h4 j hj',<-hj]
 exact(Zy xs j hj').symm
theorem app_PZ {lo:Nat} {xs:List Nat} {y:Value} {ty:TypeId} {u:World} {vs:Value} (hlo:lo<=u.heap.size) (hl:xs.length<=1000000) (hy:IN u u.heap.size y xs) (h:PZ lo u vs):
 ∃v u',(Builtin.append_ #[43,43] ty #[vs,y]).run Tryz.prog u= .ok v u'/\Bw u u'/\PG lo 1 xs.length (U8 xs) u' v:=by
 obtain⟨b,rfl,h1,h2⟩:=h
 obtain⟨ti,hti,htm⟩:=Option.map_eq_some_iff.1 Ti
 simp only[Prod.mk.injEq] at htm
 obtain⟨hzv,hsz,hby⟩:=htm
 obtain⟨v',u',hr,hB,hg⟩:=U4 (P:=Tryz.prog) u (ty:=ty) Tryz.underlying43 hti hzv (by rw[hsz];rfl) (n:=0) (m:=xs.length) (xs:=[]) (news:=U8 xs) (fun j v h=>by simp at h) h1 hlo h2 (by simp) (IN_NW hy) (by rw[hsz,Z2];omega) (by rw[hby];omega) (by omega)
 rw[hsz,Nat.zero_add,List.nil_append] at hg
 exact⟨v',u',hr,hB,hg⟩
theorem PG_in {lo s:Nat} {xs:List Nat} {u:World} {y:Value} (h:PG lo s xs.length (U8 xs) u y):IN u u.heap.size y xs:=by
 obtain⟨b,cap,zs,rfl,h1,h2,h3,h4,h5⟩:=h
 refine⟨_,_,b,0,rfl,h3,.inr rfl,h2,fun j hj=>?_⟩
 rw[Nat.zero_add];exact(h5.pre2 j _ (Zy xs j hj)).1
section
section
variable {R:Rg} {P:Program} {ops:Array Oper} {Q:Exit->Act->World->Prop} {f:Nat->Bool} {t:Nat->Value} {u:World} {a:Act} {i:Nat} {o:Oper}
theorem g_vE (n:Nat) (p:World->Value->Prop) (h: ∀(ev:Operand->Value) (u:World),(∀x y,evR R i o x=some y->ev x=y)->Below R.lo R.w u->R.base<=u.heap.size-> ∃v u',(execOp ev o).run P u= .ok (.value v) u'/\Bw u u'/\p u' v) (hn:(R.E[n]?).map (·.p)=some p:=by rfl) (hc:R.chkE ops n i o=true:=by rfl):OG R P ops Q i o:=fun f t u a X=>by
 obtain⟨d,q,hd,hq,_,_,_,_,_,_,_,_,hw⟩:=Zm hc
 obtain⟨v,u',hr,hB,hp⟩:=h a.eval u (fun x y hxy=>X.ev hxy) X.I.1.bel X.I.1.sz
 exact X.go hw fun K hK=>Yd hr (hK _ _ (X.putE hc (fun q hq=>by rw[hq] at hn;cases hn;exact hp) hB))
theorem g_cZ (m n:Nat) (p p':World->Value->Prop) {N:FuncId} {j d:Nat} {args:List Operand} {tys:Array TypeId} (vs:Value->List Value) (hr: ∀(vs:Array Value) (w:World),(callFunc N vs).run P w= .ok (.enter N vs) w)
 (hcall: ∀(u:World) (y:Value),Below R.lo R.w u->R.base<=u.heap.size->p u y->Calls P N (vs y).toArray u fun e u'=> ∃v,e= .returned v/\p' u' v/\Bw u u') (hop:o.op= .call {callee:= .value (.func N),args:=args.toArray,argTypes:=tys}:=by rfl) (hm:R.E[m]?=some ⟨j,d,some i,p⟩:=by rfl) (hx: ∀y,args.mapM (ev1 R i o d y)=some (vs y):=by intro y;rfl) (hd:(Y0 o j&&R.S.contains d)=true:=by rfl) (hn:(R.E[n]?).map (·.p)=some p':=by rfl) (hc:R.chkE ops n i o=true:=by rfl):OG R P ops Q i o:=fun f t u a X=>by
 rw[Bool.and_eq_true,List.contains_iff_mem] at hd
 obtain⟨h2,h4⟩:=hd
 obtain⟨d',q,hd',hq,_,_,_,_,_,_,_,_,hw⟩:=Zm hc
 have hv:p u (t d):=X.val hm h2 rfl
 refine X.go hw fun K hK=>wp_callP hop (evs1 X h4 (hx (t d))) hr (hcall u (t d) X.I.1.bel X.I.1.sz hv) fun v w' h1 hB=>hK _ _ (X.putE hc (fun q hq=>by rw[hq] at hn;cases hn;exact h1) hB)
end
def exT (k tx:List Nat):Nat->List Nat
 | 0=>[]
 | i+1=>hm k (exT k tx i++tx++[(i+1)%256])
def exS (k tx:List Nat):Nat->List Nat
 | 0=>[]
 | i+1=>exS k tx i++exT k tx (i+1)
def exN (k tx:List Nat) (n:Nat):List Nat:=(exS k tx ((n+31)/32)).take n
theorem exT_B (k tx:List Nat) (i:Nat):BB 32 (exT k tx (i+1)):=hm_B _ _
theorem Wm (k tx:List Nat): ∀i,(exS k tx i).length=32*i
 | 0=>rfl
 | i+1=>by rw[exS,List.length_append,Wm k tx i,(exT_B k tx i).len];omega
theorem exS_m (k tx:List Nat): ∀i,∀x∈exS k tx i,x<256
 | 0=>by simp[exS]
 | i+1=>fun x hx=>by
  rcases List.mem_append.1 hx with h | h
  ·exact exS_m k tx i x h
  ·exact(exT_B k tx i).mem x h
theorem exS_take (k tx:List Nat) (i:Nat): ∀d,(exS k tx (i+d)).take (32*i)=exS k tx i
 | 0=>by rw[Nat.add_zero,List.take_of_length_le (by rw[Wm];omega)]
 | d+1=>by
  rw[show i+(d+1)=(i+d)+1 by omega,exS,List.take_append_of_le_length (by rw[Wm];omega),exS_take k tx i d]
theorem exN_of (k tx:List Nat) (i n:Nat) (h:n<=32*i):(exS k tx i).take n=exN k tx n:=by
 unfold exN
 have e:=exS_take k tx ((n+31)/32) (i -(n+31)/32)
 rw[show (n+31)/32+(i -(n+31)/32)=i by omega] at e
 rw[<-e,List.take_take,show min n (32*((n+31)/32))=n by omega]
theorem exN_len (k tx:List Nat) (n:Nat):(exN k tx n).length=n:=by
 unfold exN;rw[List.length_take,Wm];omega
theorem exN_m (k tx:List Nat) (n:Nat): ∀x∈exN k tx n,x<256:=fun x hx=>exS_m k tx _ x (List.mem_of_mem_take hx)
theorem ex_step (k tx:List Nat) (i n:Nat) (h:32*i<n):(exS k tx i)++(exT k tx (i+1)).take (min 32 (n -32*i))=(exS k tx (i+1)).take (min (32*(i+1)) n):=by
 rw[exS,List.take_append,Wm,show List.take (min (32*(i+1)) n) (exS k tx i)=exS k tx i from List.take_of_length_le (by rw[Wm];omega),show min (32*(i+1)) n -32*i=min 32 (n -32*i) by omega]
def lenV:Value->Nat
 | .slice _ n _=>n
 | _=>0
theorem NW_of_CV {u:World} {b n cap:Nat} {xs:List Nat} (h:CV u b (U8 xs)) (hn:n<=xs.length):NW n (U8 (xs.take n)) u (.slice (some ⟨b,0,none⟩) n cap):=by
 refine⟨_,cap,rfl,.inr ⟨_,rfl,fun j v hj=>?_⟩⟩
 have hj':j<(xs.take n).length:=by have:=(List.getElem?_eq_some_iff.1 hj).1;rwa [Z2] at this
 have hj2:j<n:=by rw[List.length_take] at hj';omega
 rw[Addr.add0]
 refine(h j v ?_).1
 rw[<-hj,Zy _ j hj',Zy xs j (by omega),List.getD_eq_getElem?_getD,List.getD_eq_getElem?_getD,List.getElem?_take_of_lt hj2]
theorem bsB1 (x:Nat) (w:World):(Instr.buildSlice 43 1 ([0].zip [.int .u8 (x:Int)]).toArray).run Tryz.prog w= .ok (.slice (some ⟨w.heap.size,0,none⟩) 1 1) (w.alloc (.cells (U8 [x]).toArray 5)):=by kernel_rfl
theorem bsE3 (x y z:Value) (w:World) (h: ∃sl n cap,x= .slice sl n cap) (h2: ∃sl n cap,y= .slice sl n cap) (h3: ∃sl n cap,z= .slice sl n cap):(Instr.buildSlice 179 3 ([0,1,2].zip [x,y,z]).toArray).run Tryz.prog w= .ok (.slice (some ⟨w.heap.size,0,none⟩) 3 3) (w.alloc (.cells [x,y,z].toArray 43)):=by
 obtain⟨sl,n,cap,rfl⟩:=h
 obtain⟨sl2,n2,cap2,rfl⟩:=h2
 obtain⟨sl3,n3,cap3,rfl⟩:=h3
 kernel_rfl
theorem IN.sl {u:World} {m:Nat} {v:Value} {xs:List Nat} (h:IN u m v xs): ∃sl n cap,v= .slice sl n cap:=by
 obtain⟨sl,cap,gb,go,rfl,_⟩:=h;exact⟨_,_,_,rfl⟩
theorem PS.sl {lo n:Nat} {xs:List Value} {u:World} {y:Value} (h:PS lo n xs u y): ∃sl n cap,y= .slice sl n cap:=by
 obtain⟨b,cap,rfl,_⟩:=h;exact⟨_,_,_,rfl⟩
theorem PQ.three {lo:Nat} {p q r:List Nat} {u:World} {x y z:Value} (t:TypeId) (h:lo<=u.heap.size) (hx:IN u u.heap.size x p) (hy:IN u u.heap.size y q) (hz:IN u u.heap.size z r):PQ lo [p,q,r] (u.alloc (.cells [x,y,z].toArray t)) (.slice (some ⟨u.heap.size,0,none⟩) 3 3):=by
 have hB:Bw u (u.alloc (.cells [x,y,z].toArray t)):=Z1 (Zh u) _
 refine⟨_,3,rfl,h,by simp,PL_of (vs:=[x,y,z]) (zs:=[]) (by rw[List.append_nil];exact CV.new u _ t) rfl fun i v p' hv hp=>?_⟩
 match i with
 | 0=>simp at hv hp;subst hv hp;exact(hx.below hB).mono hB.size
 | 1=>simp at hv hp;subst hv hp;exact(hy.below hB).mono hB.size
 | 2=>simp at hv hp;subst hv hp;exact(hz.below hB).mono hB.size
 | i+3=>simp at hv
def PM (lo n:Nat) (u:World) (v:Value):Prop:= ∃b zs,v= .slice (some ⟨b,0,none⟩) 0 n/\lo<=b/\b<u.heap.size/\zs.length=n/\CV u b zs
theorem PM.stab {lo n:Nat} {u v:World} {x:Value} (hB:Bw u v) (h:PM lo n u x):PM lo n v x:=by
 obtain⟨b,zs,e,h1,h2,h3,h4⟩:=h
 exact⟨b,zs,e,h1,Nat.lt_of_lt_of_le h2 hB.size,h3,h4.below hB h2⟩
theorem mkRoom {lo:Nat} (n:Nat) (hn:n<=1000000) (u:World) (h:lo<=u.heap.size): ∃v u',(Instr.makeSlice 43 (iI 0) (iI (n:Int))).run Tryz.prog u= .ok v u'/\Bw u u'/\PM lo n u' v:=by
 obtain⟨i,hi,hi2⟩:=Option.map_eq_some_iff.1 Ti
 simp only[Prod.mk.injEq] at hi2
 obtain⟨hz,hs,hb⟩:=hi2
 have:=run_makeSlice (P:=Tryz.prog) u 43 5 i (.int .u8 0) Tryz.underlying43 hi hz .i64 .i64 0 n (by omega) (by omega) (by rw[hs];omega) (by rw[hb];omega) (by omega)
 refine⟨_,_,this,Z1 (Zh u) _,u.heap.size,(madeCells (Value.int .u8 0).cells ((n:Int).toNat*i.size)).toList,by simp,h,by simp,?_,?_⟩
 ·rw[hs];simp[madeCells]
 ·have:=CV.new u (madeCells (Value.int .u8 0).cells ((n:Int).toNat*i.size)).toList 5
  simpa using this
end
end Go.Proofs.YtofcppgfaelloaaGreatDoor
