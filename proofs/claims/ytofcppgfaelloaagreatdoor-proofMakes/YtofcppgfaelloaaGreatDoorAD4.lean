import Derived.Test.YtofcppgfaelloaaGreatDoorLC5
namespace Go.Proofs.YtofcppgfaelloaaGreatDoor
set_option linter.unusedVariables false
set_option linter.unusedSimpArgs false
set_option maxRecDepth 100000
set_option maxHeartbeats 4000000
open Go.RowKit
section
theorem InMb {p q x:Int} (hp:In p) (h:Mb p q x):In x:=⟨by have:=h.1;omega,by have:=h.2.1;have:=hp.2;omega⟩
structure GK (w:World):Prop where
 t:GT w
 v:GV w
theorem GK.up {w u:World} (h:GK w) (hB:Bw w u):GK u:=⟨h.t.below hB,h.v.below hB h.v.sz⟩
def PFr (lo:Nat) (ns:List Int) (u:World) (v:Value):Prop:= ∃b,v= .slice (some ⟨b,0,none⟩) ns.length ns.length/\lo<=b/\b<u.heap.size/\CV u b (flN ns)
theorem PFr.stab {lo:Nat} {ns:List Int} {u u2:World} {v:Value} (hB:Bw u u2) (h:PFr lo ns u v):PFr lo ns u2 v:=by
 obtain⟨b,e,h0,h1,h2⟩:=h
 exact⟨b,e,h0,Nat.lt_of_lt_of_le h1 hB.size,h2.below hB h1⟩
theorem PFr.new (lo:Nat) (ns:List Int) (u:World) (T:TypeId) (h:lo<=u.heap.size):PFr lo ns (u.alloc (.cells (flN ns).toArray T)) (.slice (some ⟨u.heap.size,0,none⟩) ns.length ns.length):=⟨_,rfl,h,by simp,CV.new u _ _⟩
def PNs (lo:Nat) (ns:List Int) (u:World) (v:Value):Prop:= ∃b cap zs,v= .slice (some ⟨b,0,none⟩) ns.length cap/\lo<=b/\b<u.heap.size/\ns.length<=cap/\CV u b (flN ns++zs)
theorem PNs.stab {lo:Nat} {ns:List Int} {u u2:World} {v:Value} (hB:Bw u u2) (h:PNs lo ns u v):PNs lo ns u2 v:=by
 obtain⟨b,cap,zs,e,h0,h1,h2,h3⟩:=h
 exact⟨b,cap,zs,e,h0,Nat.lt_of_lt_of_le h1 hB.size,h2,h3.below hB h1⟩
theorem PNs.nl {lo:Nat} {ns:List Int} {u:World} {v:Value} (h:PNs lo ns u v):NL u v ns:=by
 obtain⟨b,cap,zs,rfl,h0,h1,h2,h3⟩:=h
 exact⟨_,b,0,_,rfl,h2,by simp,.inr rfl,.inr h1,fun j v hj=>by rw[Nat.zero_add];exact(h3 j v (by rw[List.getElem?_append_left (List.getElem?_eq_some_iff.1 hj).1];exact hj)).1⟩
theorem PFr.nl {lo:Nat} {ns:List Int} {u:World} {v:Value} (h:PFr lo ns u v):NL u v ns:=by
 obtain⟨b,rfl,h0,h1,h2⟩:=h
 exact PNs.nl (lo:=lo) ⟨b,_,[],rfl,h0,h1,Nat.le_refl _,by rw[List.append_nil];exact h2⟩
theorem bsF1 (a:Int) (w:World):(Instr.buildSlice 28 1 ([0].zip [NV a]).toArray).run Tryz.prog w= .ok (.slice (some ⟨w.heap.size,0,none⟩) 1 1) (w.alloc (.cells (flN [a]).toArray 24)):=by kernel_rfl
theorem bsF3 (a b c:Int) (w:World):(Instr.buildSlice 28 3 ([0,1,2].zip [NV a,NV b,NV c]).toArray).run Tryz.prog w= .ok (.slice (some ⟨w.heap.size,0,none⟩) 3 3) (w.alloc (.cells (flN [a,b,c]).toArray 24)):=by kernel_rfl
theorem bsF5 (a b c d e:Int) (w:World):(Instr.buildSlice 28 5 ([0,1,2,3,4].zip [NV a,NV b,NV c,NV d,NV e]).toArray).run Tryz.prog w= .ok (.slice (some ⟨w.heap.size,0,none⟩) 5 5) (w.alloc (.cells (flN [a,b,c,d,e]).toArray 24)):=by kernel_rfl
theorem SN.nws {u:World} {g o:Nat} {ns:List Int} (h:SN u g o ns): ∀j v,(flN ns)[j]?=some v->u.cell? ((⟨g,o,none⟩:Addr).add j)=some v:=fun j v hj=>by rw[Addr.addo];exact h j v hj
theorem app_full {lo:Nat} {ms ns:List Int} {ty:TypeId} {u:World} {y vy:Value} (h:PFr lo ms u y) (hlo:lo<=u.heap.size) (hv:NL u vy ns) (hm:ms.length<=1000) (hn:ns.length<=100000):
 ∃v u',(Builtin.append_ #[28,28] ty #[y,vy]).run Tryz.prog u= .ok v u'/\Bw u u'/\PNs lo (ms++ns) u' v:=by
 obtain⟨b,rfl,h0,h1,h2⟩:=h
 obtain⟨sl,gb,go,cap,rfl,k2,k3,k4,k5,k6⟩:=hv
 obtain⟨ti,hti,htm⟩:=Option.map_eq_some_iff.1 infoN
 simp only[Prod.mk.injEq] at htm
 obtain⟨hzv,hsz,hby⟩:=htm
 obtain⟨v',u',hr,hB,hg⟩:=U4 (P:=Tryz.prog) u (ty:=ty) Tryz.underlying28 hti hzv (by rw[hsz];rfl) (lo:=lo) (n:=ms.length) (m:=ns.length) (xs:=flN ms) (news:=flN ns) (y:= .slice sl ns.length cap) h2 h0 hlo h1 (by rw[hsz,flN_len];omega) ⟨sl,cap,rfl,k4.imp (fun e=>by rw[e];rfl) fun e=>⟨_,e,SN.nws k6⟩⟩ (by rw[hsz,flN_len];omega) (by rw[hby];omega) (by omega)
 obtain⟨b',cap',zs,rfl,g1,g2,g3,g4,g5⟩:=hg
 exact⟨_,u',hr,hB,b',cap',zs,by rw[List.length_append],g1,g2,by rw[List.length_append];exact g3,by rw[flN_app];exact g5⟩
theorem Bk.more2c {lo:Nat} {u0 u:World} {k0 ks:List Blk} {b c:Nat} {l m:List Value} (K0:Bk lo u0 k0) (K:Bk lo u ks) (hb:u0.heap.size<=b) (hc:u0.heap.size<=c) (hn:b≠c) (hlb:b<u.heap.size) (hlc:c<u.heap.size) (hb2:CV u b l) (hc2:CV u c m) (e: ∀x∈ks.map (·.2.1),x∈k0.map (·.2.1)):Bk lo u (aK ks [(false,b,l),(false,c,m)]):=by
 have K1:=Bk.more3 K0 K hb hlb hb2 e
 have K2:=Bk.more3 K0 K hc hlc hc2 e
 rw[aK_eq] at K1 K2⊢
 refine⟨KA.app K.a (KA.c hlb hb2 (KA.c hlc hc2 trivial)),?_⟩
 have n1:=K1.n
 have n2:=K2.n
 simp only[List.map_append,List.map_cons,List.map_nil,List.nodup_append,List.nodup_cons,List.mem_singleton,List.mem_cons,List.not_mem_nil,or_false,not_false_eq_true,List.nodup_nil,and_true,true_and] at n1 n2⊢
 refine⟨n1.1,hn,fun a ha d hd=>?_⟩
 rcases hd with rfl | rfl
 ·exact n1.2 a ha _ rfl
 ·exact n2.2 a ha _ rfl
section
variable {R:Rg} {P:Program} {ops:Array Oper} {Q:Exit->Act->World->Prop} {f:Nat->Bool} {t:Nat->Value} {u:World} {a:Act} {i:Nat} {o:Oper}
theorem g_mkC {fn:Fn} {cap:List Operand} {vc:List Value} (hop:o.op= .makeFunc fn #[] cap.toArray:=by rfl) (hf:cap.mapM (evR R i o)=some vc:=by rfl) (hv:some (.func fn #[] vc.toArray)=Zw i R.G:=by rfl) (hc:R.chk ops i o=true:=by rfl):OG R P ops Q i o:=
 Y4 hv hc fun f t u a X K hK=>Yd (by
  unfold execOp;rw[hop]
  show Sem.run P (do pure (Next.value (<-Instr.makeFunc fn (#[].map a.eval) (cap.toArray.map a.eval)))) u=_
  rw[show cap.toArray.map a.eval=vc.toArray by rw[List.map_toArray,X.evs hf],show (#[].map a.eval:Array Value)=#[] by simp,Sem.run_bind,show (Instr.makeFunc fn #[] vc.toArray).run P u= .ok (.func fn #[] vc.toArray) u from rfl,Result.andThen_ok,Sem.run_pure]) hK
theorem g_cC {N:FuncId} {c:Operand} {args:List Operand} {tys:Array TypeId} {vs caps:List Value} {v:Value} (hr: ∀(vs:Array Value) (w:World),(callFunc N vs).run P w= .ok (.enter N vs) w)
 (hcall: ∀f w,KC f w R.lo R.base R.es->R.base<=w.heap.size->Below R.lo R.w w->Calls P N (vs++caps).toArray w fun e w'=>e= .returned v/\Bw w w') (hop:o.op= .call {callee:= .value c,args:=args.toArray,argTypes:=tys}:=by rfl) (hk:evR R i o c=some (.func (.func N) #[] caps.toArray):=by rfl) (hx:args.mapM (evR R i o)=some vs:=by rfl) (hv:some v=Zw i R.G:=by rfl) (hc:R.chk ops i o=true:=by rfl):OG R P ops Q i o:=fun f t u a X=>
 X.go (Yj hc).choose_spec.2.2.2.2.2.2.2 fun K hK=>wp_enter (by
  unfold execOp;rw[hop]
  show Sem.run P (do let d<-(Deferred.ofValue (a.eval c) (args.toArray.map a.eval));invoke d.target d.args) u=_
  rw[List.map_toArray,X.evs hx,X.ev hk]
  show Sem.run P (do let d<-(pure {target:= .fn (.func N) caps.toArray,args:=#[]++vs.toArray}:Sem Deferred);invoke d.target d.args) u=_
  rw[Sem.run_bind,Sem.run_pure,Result.andThen_ok]
  show Sem.run P (callFunc N (#[]++vs.toArray++caps.toArray)) u=_
  rw[show (#[]++vs.toArray++caps.toArray:Array Value)=(vs++caps).toArray by simp,hr]) (hcall f u X.I.2.1 X.I.1.sz X.I.1.bel) fun w' hB=>hK _ _ (X.put hv hc (X.I.1.call hB) (X.I.2.1.below hB X.I.1.sz) hB)
end
theorem ent_Z1:EnT 34:=fun _ _=>by kernel_rfl
theorem ent_Z2:EnT 33:=fun _ _=>by kernel_rfl
theorem ent_Z3:EnT 49:=fun _ _=>by kernel_rfl
theorem ent_Z4:EnT 50:=fun _ _=>by kernel_rfl
theorem ent_Z5:EnT 60:=fun _ _=>by kernel_rfl
theorem ent_Z6:EnT 27:=fun _ _=>by kernel_rfl
theorem ent_Z7:EnT 37:=fun _ _=>by kernel_rfl
theorem ent_Z8:EnT 59:=fun _ _=>by kernel_rfl
theorem ent_Z9:EnT 11:=fun _ _=>by kernel_rfl
theorem ent_Z10:EnT 40:=fun _ _=>by kernel_rfl
theorem ent_Z11:EnT 14:=fun _ _=>by kernel_rfl
theorem pch_core (p q g h r er:Int) (ns:List Int) (bs:List Nat) (sl:Option Addr) (n cap:Nat) (w:World) (hA:Hid (∀u x,Bw w u->PFr 0 [g,h] u x-> ∃v u',(Builtin.append_ #[28,28] 28 #[x,.slice sl n cap]).run Tryz.prog u= .ok v u'/\Bw u u'/\PNs 0 ([g,h]++ns) u' v)) (hC:Hid (∀u y,Bw w u->PNs 0 ([g,h]++ns) u y->Calls Tryz.prog 34 #[y] u fun e u'=> ∃v,e= .returned v/\PIn bs u' v/\Bw u u')) (hS:Hid (∀u y,Bw w u->PIn bs u y->CC 33 #[GX p q g h,y] u (.tuple #[NV r,.int .i64 er]))):
 CC 11 #[GX p q g h,.slice sl n cap] w (.tuple #[NV r,.int .i64 er]):=by
 go_enter Tryz.func11,Tryz.ntmps11
 go_upto_region 1 with fail
 obtain⟨v0,hC,HB0,K0⟩:=bx2 w (GE (p) (q) (g) (h)) 26 L0s 24
 rw[hC]
 clear hC
 refine rgE K0 HB0 HB0.size [.no,.all 12 (LN (r))] [] [(0,6,GX (p) (q) (g) (h)),(1,7,.pointer (some ⟨w.heap.size,8,none⟩)),(2,8,NV (g)),(3,9,.pointer (some ⟨w.heap.size,12,none⟩)),(4,10,NV (h)),(6,12,.slice sl n cap),(9,15,.tuple #[NV (r),.int .i64 er]),(10,16,NV (r)),(11,17,.int .i64 er),(13,5,.int .i64 er)] [] [] [⟨5,11,some 7,PFr 0 [g,h]⟩,⟨7,13,some 8,PNs 0 ([g,h]++ns)⟩,⟨8,14,some 9,PIn bs⟩] [] (.cons (fun _ _ _ h1 h2=>h2.stab h1)<| .cons (fun _ _ _ h1 h2=>h2.stab h1)<| .cons (fun _ _ _ h1 h2=>h2.stab h1)<|Stab.nil) ?_ ?_
 ·exact oc (g_ld 0 Tryz.underlying26 Z0)<|oc (g_fd (fun uZ=>fdG2 _ uZ))<|oc (g_lo 0 8 uN iN)<|oc (g_fd (fun uZ=>fdG3 _ uZ))<|oc (g_lo 0 12 uN iN)<|oc (g_bR 0 (PFr 0 [g,h]) [0,1] [NV g,NV h] (flN [g,h]) (bsN2 g h) (fun u hu=>PFr.new 0 [g,h] u 24 (Nat.zero_le _)))<|oc g_mv<|oc (g_aW 0 1 (PFr 0 [g,h]) (PNs 0 ([g,h]++ns)) (fun u x hB hs hx=>hA.out u x hB hx))<|oc (g_cZ 1 2 (PNs 0 ([g,h]++ns)) (PIn bs) (fun y=>[y]) ent_Z1 (fun u y hB hs hy=>hC.out u y hB hy))<|oc (g_c2 2 (PIn bs) ent_Z2 (fun u y hB hy=>hS.out u y hB hy))<|oc g_ex<|oc g_ex<|oc (g_st 1 iN)<|oc g_as on
 intro u1 v1_5 hv1_5 v1_7 hv1_7 v1_8 hv1_8 HB1 sz1 K1
 simp only[sQ] at K1⊢
 clear K0 HB0
 have c4:=(K1.cv 1).n4
 go_wp2
 refine bodyPost_ret (v:= .tuple #[NV r,.int .i64 er]) (by simp[results,Tryz.results11,go_sem,c4]) rfl ⟨rfl,HB1⟩
theorem pCat (ns:List Int) (y:Value) (u:World) (hn:ns.length<=1000) (hy:NL u y ns):Calls Tryz.prog 34 #[y] u fun e u'=> ∃v,e= .returned v/\PIn (chB ns) u' v/\Bw u u':=by
 obtain⟨sl,gb,go,cap,rfl,h2,h3,h4,h5,h6⟩:=hy
 refine(pcat_core sl gb go cap ns u (nlIx h4) h5 h6 hn).mono ?_
 rintro e u' ⟨v,rfl,⟨b,hq⟩,hB⟩
 exact⟨v,rfl,hq.in,hB⟩
theorem pChal (p q g h:Int) (ns:List Int) (v:Value) (w:World) (hK:GK w) (hp:In p) (hq:In q) (hn:ns.length<=20) (hv:NL w v ns):CC 11 #[GX p q g h,v] w (.tuple #[NV (chZ p q (g::h::ns)),.int .i64 (chE p q)]):=by
 have hv2:=hv
 obtain⟨sl,gb,go,cap,rfl,-⟩:=hv
 refine pch_core p q g h _ _ ns (chB (g::h::ns)) sl ns.length cap w (fun u x hB hx=>app_full hx (Nat.zero_le _) (hv2.up hB) (by simp) (by omega)) (fun u y hB hy=>pCat ([g,h]++ns) y u (by simp;omega) hy.nl) (fun u y hB hy=>?_)
 exact cScaG p q g h _ y u (hK.up hB).v hp hq hy (chB_lt _) (by rw[chB_len];simp;omega)
theorem ppa_core (p q g h b s t xu xk e1 e2:Int) (V:Value) (w:World) (hR:Hid (V=if e1 !=0 then .tuple #[A4 0 0 0 0,A4 0 0 0 0,.int .i64 e1] else if e2 !=0 then .tuple #[A4 0 0 0 0,A4 0 0 0 0,.int .i64 e2] else .tuple #[NV xu,NV xk,.int .i64 0]))(hE:Hid (∀u,Bw w u->CC 49 #[GX p q g h,NV b,NV s] u (.tuple #[NV xu,.int .i64 e1])))(hC:Hid (∀u,Bw w u->CC 50 #[GX p q g h,NV s,NV t] u (.tuple #[NV xk,.int .i64 e2]))):
 CC 27 #[GX p q g h,NV b,NV s,NV t] w (V):=by
 go_enter Tryz.func27,Tryz.ntmps27
 go_upto_region 1 with fail
 generalize hC:((((((w.alloc (.cells (GE (p) (q) (g) (h):List Value).toArray 26)).alloc (.cells (LN (b):List Value).toArray 24)).alloc (.cells (LN (s):List Value).toArray 24)).alloc (.cells (LN (t):List Value).toArray 24)).alloc (.cells (L0s:List Value).toArray 24)).alloc (.cells (L0s:List Value).toArray 24))=v0 at *
 have HB0:Bw w v0:=by rw[<-hC];exact Z1 (Z1 (Z1 (Z1 (Z1 (Z1 (Zh w) _) _) _) _) _) _
 have K0:Bk w.heap.size v0 [(true,w.heap.size,GE (p) (q) (g) (h)),(true,w.heap.size+1,LN (b)),(true,w.heap.size+1+1,LN (s)),(true,w.heap.size+1+1+1,LN (t)),(true,w.heap.size+1+1+1+1,L0s),(true,w.heap.size+1+1+1+1+1,L0s)]:=by rw[<-hC];exact(Bk.nil _ w).ad.ad.ad.ad.ad.ad
 clear hC
 refine rgP K0 HB0 HB0.size [] [(7,11,L0s,some (8,LN (xu)))] [(0,15,GX (p) (q) (g) (h)),(1,16,NV (b)),(2,17,NV (s)),(3,18,.tuple #[NV (xu),.int .i64 e1]),(4,14,.tuple #[NV (xu),.int .i64 e1]),(5,19,NV (xu)),(6,20,.int .i64 e1),(9,12,.int .i64 e1)] [(8,7)] [] [] ?_ ?_
 ·exact oc (g_ld 0 Tryz.underlying26 Z0)<|oc (g_ld 1 uN iN)<|oc (g_ld 2 uN iN)<|oc (g_cb ent_Z3 (fun uZ bZ=>hE.out uZ bZ))<|oc g_mv<|oc g_ex<|oc g_ex<|oc (g_al 0 aN)<|oc (g_sn 0 iN)<|oc g_as on
 intro u1 b1_7 HB1 sz1 K1
 simp only[sQ] at K1⊢
 clear K0 HB0
 cases h1:(e1 !=0)
 ·skip
  go_upto_region 2 with fail
  refine rgP K1 HB1 HB1.size [] [] [(0,21,.int .i64 e1),(1,22,.bool false)] [] [] [] ?_ ?_
  ·exact oc g_mv<|oc (g_bn (fun uZ=>X6 _ _ _ e1 0 _ uZ h1)) on
  intro u2 HB2 sz2 K2
  simp only[sQ] at K2⊢
  clear K1 HB1
  go_upto_region 4 with fail
  refine rgP K2 HB2 HB2.size [] [(7,13,L0s,some (8,LN (xk)))] [(0,27,GX (p) (q) (g) (h)),(1,28,NV (s)),(2,29,NV (t)),(3,30,.tuple #[NV (xk),.int .i64 e2]),(4,26,.tuple #[NV (xk),.int .i64 e2]),(5,31,NV (xk)),(6,32,.int .i64 e2),(9,12,.int .i64 e2)] [(8,7)] [] [] ?_ ?_
  ·exact oc (g_ld 0 Tryz.underlying26 Z0)<|oc (g_ld 2 uN iN)<|oc (g_ld 3 uN iN)<|oc (g_cb ent_Z4 (fun uZ bZ=>hC.out uZ bZ))<|oc g_mv<|oc g_ex<|oc g_ex<|oc (g_al 0 aN)<|oc (g_sn 0 iN)<|oc g_as on
  intro u3 b3_7 HB3 sz3 K3
  simp only[sQ] at K3⊢
  clear K2 HB2
  cases h2:(e2 !=0)
  ·skip
   go_upto_region 5 with fail
   refine rgP K3 HB3 HB3.size [] [] [(0,33,.int .i64 e2),(1,34,.bool false)] [] [] [] ?_ ?_
   ·exact oc g_mv<|oc (g_bn (fun uZ=>X6 _ _ _ e2 0 _ uZ h2)) on
   intro u4 HB4 sz4 K4
   simp only[sQ] at K4⊢
   clear K3 HB3
   go_upto_region 7 with fail
   refine rgD K4 HB4 HB4.size [.no,.no,.no,.no,.all 2 (LN (xu)),.all 3 (LN (xk))] [] [(0,38,NV (xu)),(1,39,NV (xk)),(4,10,(Go.Value.int Go.IntKind.i64 0))] [] [] [] ?_ ?_
   ·exact oc (g_ld 6 uN iN)<|oc (g_ld 7 uN iN)<|oc (g_st 4 iN)<|oc (g_st 5 iN)<|oc g_as on
   intro u5 HB5 sz5 K5
   simp only[sQ] at K5⊢
   clear K4 HB4
   have c8:=(K5.cv 4).n4
   have c9:=(K5.cv 5).n4
   go_wp2
   refine bodyPost_ret (v:= .tuple #[NV xu,NV xk,.int .i64 0]) (by simp[results,Tryz.results27,go_sem,c8,c9]) rfl ⟨by rw[hR.out,h1,h2];rfl,HB5⟩
  ·skip
   go_upto_region 5 with fail
   refine rgP K3 HB3 HB3.size [] [] [(0,33,.int .i64 e2),(1,34,.bool true)] [] [] [] ?_ ?_
   ·exact oc g_mv<|oc (g_bn (fun uZ=>X6 _ _ _ e2 0 _ uZ h2)) on
   intro u4 HB4 sz4 K4
   simp only[sQ] at K4⊢
   clear K3 HB3
   go_upto_region 6 with fail
   refine rgP K4 HB4 HB4.size [.no,.no,.no,.no,.all 3 ([.int .u64 (0),.int .u64 (0),.int .u64 (0),.int .u64 (0)]),.all 4 ([.int .u64 (0),.int .u64 (0),.int .u64 (0),.int .u64 (0)])] [] [(0,35,A4 (0) (0) (0) (0)),(1,36,A4 (0) (0) (0) (0)),(2,37,.int .i64 e2),(5,10,.int .i64 e2)] [] [] [] ?_ ?_
   ·exact oc (g_bd zN)<|oc (g_bd zN)<|oc g_mv<|oc (g_st 4 iN)<|oc (g_st 5 iN)<|oc g_as on
   intro u5 HB5 sz5 K5
   simp only[sQ] at K5⊢
   clear K4 HB4
   have c8:=(K5.cv 4).n4
   have c9:=(K5.cv 5).n4
   go_wp2
   refine bodyPost_ret (v:= .tuple #[A4 0 0 0 0,A4 0 0 0 0,.int .i64 e2]) (by simp[results,Tryz.results27,go_sem,c8,c9]) rfl ⟨by rw[hR.out,h1,h2];rfl,HB5⟩
 ·skip
  go_upto_region 2 with fail
  refine rgP K1 HB1 HB1.size [] [] [(0,21,.int .i64 e1),(1,22,.bool true)] [] [] [] ?_ ?_
  ·exact oc g_mv<|oc (g_bn (fun uZ=>X6 _ _ _ e1 0 _ uZ h1)) on
  intro u2 HB2 sz2 K2
  simp only[sQ] at K2⊢
  clear K1 HB1
  go_upto_region 3 with fail
  refine rgP K2 HB2 HB2.size [.no,.no,.no,.no,.all 3 ([.int .u64 (0),.int .u64 (0),.int .u64 (0),.int .u64 (0)]),.all 4 ([.int .u64 (0),.int .u64 (0),.int .u64 (0),.int .u64 (0)])] [] [(0,23,A4 (0) (0) (0) (0)),(1,24,A4 (0) (0) (0) (0)),(2,25,.int .i64 e1),(5,10,.int .i64 e1)] [] [] [] ?_ ?_
  ·exact oc (g_bd zN)<|oc (g_bd zN)<|oc g_mv<|oc (g_st 4 iN)<|oc (g_st 5 iN)<|oc g_as on
  intro u3 HB3 sz3 K3
  simp only[sQ] at K3⊢
  clear K2 HB2
  have c8:=(K3.cv 4).n4
  have c9:=(K3.cv 5).n4
  go_wp2
  refine bodyPost_ret (v:= .tuple #[A4 0 0 0 0,A4 0 0 0 0,.int .i64 e1]) (by simp[results,Tryz.results27,go_sem,c8,c9]) rfl ⟨by rw[hR.out,h1];rfl,HB3⟩
theorem pPair_n (p q g h b s t:Int) (w:World) (hK:GK w) (hp:In p) (hq:In q) (hg:In g) (hh:In h) (hb:In b) (hs:In s) (ht:In t) (hm:mbL p q [g,h,b]=false):CC 27 #[GX p q g h,NV b,NV s,NV t] w (.tuple #[A4 0 0 0 0,A4 0 0 0 0,.int .i64 90]):=by
 refine ppa_core p q g h b s t _ _ _ _ _ w ?_ (fun u hB=>cExpG p q g h b s u (hK.up hB).t hp hq hb hs) (fun u hB=>cComG p q g h s t u (hK.up hB).t hp hq hg hh hs ht)
 show _=_
 simp only[mbL,List.all_cons,List.all_nil,Bool.and_true] at hm
 unfold exPE coE
 cases h1:isB p q b with
 | false=>rfl
 | true=>
  rw[h1,Bool.and_true] at hm
  rw[hm];rfl
theorem pPair (p q g h b s t:Int) (w:World) (hK:GK w) (hp:In p) (hq:In q) (hg:In g) (hh:In h) (hb:In b) (hs:In s) (ht:In t) (hm:mbL p q [g,h,b]=true):CC 27 #[GX p q g h,NV b,NV s,NV t] w (.tuple #[NV (pwZ p q b s),NV (cmN p q g h s t),.int .i64 0]):=by
 refine ppa_core p q g h b s t _ _ _ _ _ w ?_ (fun u hB=>cExpG p q g h b s u (hK.up hB).t hp hq hb hs) (fun u hB=>cComG p q g h s t u (hK.up hB).t hp hq hg hh hs ht)
 show _=_
 simp only[mbL,List.all_cons,List.all_nil,Bool.and_true,Bool.and_eq_true] at hm
 unfold exPE coE exPX coX
 rw[hm.1,hm.2.1,hm.2.2];rfl
theorem pcl_n (p q g h x y m r:Int) (b1 b2:Nat) (w:World) (k1:w.rangeAt b1 0 (GE p q g h)) (l1:b1<w.heap.size) (k2:w.rangeAt b2 0 (LN m)) (l2:b2<w.heap.size)(hE:Hid (∀u,Bw w u->CC 49 #[GX p q g h,NV y,NV m] u (.tuple #[NV r,.int .i64 90]))):
 CC 59 #[NV x,NV y,.pointer (some ⟨b1,0,none⟩),.pointer (some ⟨b2,0,none⟩)] w (.tuple #[A4 0 0 0 0,.int .i64 90]):=by
 go_enter Tryz.func59,Tryz.ntmps59
 go_upto_region 1 with fail
 obtain⟨v0,hC,HB0,K0⟩:=bx3 w (LN (x)) 24 (LN (y)) 24 L0s 24
 rw[hC]
 clear hC
 refine rgP K0 HB0 HB0.size [] [(7,8,L0s,some (8,LN (r)))] [(0,11,GX (p) (q) (g) (h)),(1,12,NV (y)),(2,13,NV (m)),(3,14,.tuple #[NV (r),.int .i64 90]),(4,10,.tuple #[NV (r),.int .i64 90]),(5,15,NV (r)),(6,16,.int .i64 90),(9,9,.int .i64 90)] [(8,7)] [] [] ?_ ?_
 ·exact oc (g_lf k1 l1 Tryz.underlying26 Z0)<|oc (g_ld 1 uN iN)<|oc (g_lf k2 l2 uN iN)<|oc (g_cb ent_Z3 (fun uZ bZ=>hE.out uZ bZ))<|oc g_mv<|oc g_ex<|oc g_ex<|oc (g_al 0 aN)<|oc (g_sn 0 iN)<|oc g_as on
 intro u1 b1_7 HB1 sz1 K1
 simp only[sQ] at K1⊢
 clear K0 HB0
 go_upto_region 2 with fail
 refine rgP K1 HB1 HB1.size [] [] [(0,17,.int .i64 90),(1,18,.bool true)] [] [] [] ?_ ?_
 ·exact oc g_mv<|oc (g_bn (fun uZ=>X6 _ _ _ 90 0 _ uZ rfl)) on
 intro u2 HB2 sz2 K2
 simp only[sQ] at K2⊢
 clear K1 HB1
 go_upto_region 3 with fail
 refine rgP K2 HB2 HB2.size [.no,.no,.all 2 ([.int .u64 (0),.int .u64 (0),.int .u64 (0),.int .u64 (0)])] [] [(0,19,A4 (0) (0) (0) (0)),(1,20,.int .i64 90),(3,7,.int .i64 90)] [] [] [] ?_ ?_
 ·exact oc (g_bd zN)<|oc g_mv<|oc (g_st 2 iN)<|oc g_as on
 intro u3 HB3 sz3 K3
 simp only[sQ] at K3⊢
 clear K2 HB2
 have c6:=(K3.cv 2).n4
 go_wp2
 refine bodyPost_ret (v:= .tuple #[A4 0 0 0 0,.int .i64 90]) (by simp[results,Tryz.results59,go_sem,c6]) rfl ⟨rfl,HB3⟩
theorem pcl_k (p q g h x y m r z e2:Int) (b1 b2:Nat) (w:World) (k1:w.rangeAt b1 0 (GE p q g h)) (l1:b1<w.heap.size) (k2:w.rangeAt b2 0 (LN m)) (l2:b2<w.heap.size)(hE:Hid (∀u,Bw w u->CC 49 #[GX p q g h,NV y,NV m] u (.tuple #[NV r,.int .i64 0]))) (hM:Hid (∀u v,Bw w u->N2 x r u v->CC 60 #[GX p q g h,v] u (.tuple #[NV z,.int .i64 e2]))):
 CC 59 #[NV x,NV y,.pointer (some ⟨b1,0,none⟩),.pointer (some ⟨b2,0,none⟩)] w (.tuple #[NV z,.int .i64 e2]):=by
 go_enter Tryz.func59,Tryz.ntmps59
 go_upto_region 1 with fail
 obtain⟨v0,hC,HB0,K0⟩:=bx3 w (LN (x)) 24 (LN (y)) 24 L0s 24
 rw[hC]
 clear hC
 refine rgP K0 HB0 HB0.size [] [(7,8,L0s,some (8,LN (r)))] [(0,11,GX (p) (q) (g) (h)),(1,12,NV (y)),(2,13,NV (m)),(3,14,.tuple #[NV (r),.int .i64 0]),(4,10,.tuple #[NV (r),.int .i64 0]),(5,15,NV (r)),(6,16,.int .i64 0),(9,9,.int .i64 0)] [(8,7)] [] [] ?_ ?_
 ·exact oc (g_lf k1 l1 Tryz.underlying26 Z0)<|oc (g_ld 1 uN iN)<|oc (g_lf k2 l2 uN iN)<|oc (g_cb ent_Z3 (fun uZ bZ=>hE.out uZ bZ))<|oc g_mv<|oc g_ex<|oc g_ex<|oc (g_al 0 aN)<|oc (g_sn 0 iN)<|oc g_as on
 intro u1 b1_7 HB1 sz1 K1
 simp only[sQ] at K1⊢
 clear K0 HB0
 go_upto_region 2 with fail
 refine rgP K1 HB1 HB1.size [] [] [(0,17,.int .i64 0),(1,18,.bool false)] [] [] [] ?_ ?_
 ·exact oc g_mv<|oc (g_bn (fun uZ=>X6 _ _ _ 0 0 _ uZ rfl)) on
 intro u2 HB2 sz2 K2
 simp only[sQ] at K2⊢
 clear K1 HB1
 go_upto_region 4 with fail
 refine rgF K2 HB2 HB2.size [.no,.no,.all 7 (LN (z))] [] [(0,21,GX (p) (q) (g) (h)),(1,22,NV (x)),(2,23,NV (r)),(4,25,.tuple #[NV (z),.int .i64 e2]),(5,26,NV (z)),(6,27,.int .i64 e2),(8,7,.int .i64 e2)] [] [] [⟨3,24,some 4,N2 x r⟩] [] (.cons (fun _ _ _ h1 h2=>h2.stab h1)<|Stab.nil) ?_ ?_
 ·exact oc (g_lf k1 l1 Tryz.underlying26 Z0)<|oc (g_ld 0 uN iN)<|oc (g_ld 3 uN iN)<|oc (g_bR 0 (N2 x r) [0,1] [NV x,NV r] (flN [x,r]) (bsN2 x r) (fun u hu=>inN2 x r u))<|oc (g_c2 0 (N2 x r) ent_Z5 (fun uZ y bZ hy=>hM.out uZ y bZ hy))<|oc g_ex<|oc g_ex<|oc (g_st 2 iN)<|oc g_as on
 intro u3 v3_3 hv3_3 HB3 sz3 K3
 simp only[sQ] at K3⊢
 clear K2 HB2
 have c6:=(K3.cv 2).n4
 go_wp2
 refine bodyPost_ret (v:= .tuple #[NV z,.int .i64 e2]) (by simp[results,Tryz.results59,go_sem,c6]) rfl ⟨rfl,HB3⟩
def PCk (p q g h m:Int) (b1 b2:Nat) (u:World):Prop:=b1<u.heap.size/\b2<u.heap.size/\u.rangeAt b1 0 (GE p q g h)/\u.rangeAt b2 0 (LN m)
theorem PCk.up {p q g h m:Int} {b1 b2:Nat} {w u:World} (k:PCk p q g h m b1 b2 w) (hB:Bw w u):PCk p q g h m b1 b2 u:=⟨Nat.lt_of_lt_of_le k.1 hB.size,Nat.lt_of_lt_of_le k.2.1 hB.size,rgUp hB k.1 k.2.2.1,rgUp hB k.2.1 k.2.2.2⟩
theorem pBack_n (p q g h x y m:Int) (b1 b2:Nat) (w:World) (hK:GK w) (hp:In p) (hq:In q) (hy:In y) (hm:In m) (hb:PCk p q g h m b1 b2 w) (hn:isB p q y=false):CC 59 #[NV x,NV y,.pointer (some ⟨b1,0,none⟩),.pointer (some ⟨b2,0,none⟩)] w (.tuple #[A4 0 0 0 0,.int .i64 90]):=by
 refine pcl_n p q g h x y m (exPX p q y m) b1 b2 w hb.2.2.1 hb.1 hb.2.2.2 hb.2.1 fun u hB=>?_
 have:=cExpG p q g h y m u (hK.up hB).t hp hq hy hm
 rwa [show exPE p q y=90 by unfold exPE;rw[hn];rfl] at this
theorem pBack (p q g h x y m:Int) (b1 b2:Nat) (w:World) (hK:GK w) (hp:In p) (hq:In q) (hx:In x) (hy:In y) (hm:In m) (hb:PCk p q g h m b1 b2 w) (h1:isB p q x=true) (h2:isB p q y=true):CC 59 #[NV x,NV y,.pointer (some ⟨b1,0,none⟩),.pointer (some ⟨b2,0,none⟩)] w (.tuple #[NV (x*pwZ p q y m%p),.int .i64 0]):=by
 obtain⟨hg,h1⟩:=isB_t h1
 have h2':=(isB_t h2).2
 have hr:=pw_Mb hg h2' m
 refine pcl_k p q g h x y m (pwZ p q y m) _ 0 b1 b2 w hb.2.2.1 hb.1 hb.2.2.2 hb.2.1 (fun u hB=>?_) fun u v hB hv=>?_
 ·have:=cExpG p q g h y m u (hK.up hB).t hp hq hy hm
  rwa [show exPE p q y=0 by unfold exPE;rw[h2];rfl,show exPX p q y m=pwZ p q y m by unfold exPX;rw[h2];rfl] at this
 ·have:=cMulG p q g h [x,pwZ p q y m] v u (hK.up hB).t (by simp) hp hq (In_2s hx (InMb hp hr)) hv
  rwa [(ml_two hg h1 hr).1,(ml_two hg h1 hr).2] at this
end
theorem ent_ZA:EnT 44:=fun _ _=>by kernel_rfl
theorem ent_ZB:EnT 36:=fun _ _=>by kernel_rfl
theorem xBytesZ (x:Int) (w:World):Calls Tryz.prog 35 #[NV x] w fun e u=> ∃y,e= .returned y/\NW 32 (U8 (b32 x)) u y/\Bw w u:=by
 refine(rBytes_any (D0 x) (D1 x) (D2 x) (D3 x) w (W_D0 x) (W_D1 x) (W_D2 x) (W_D3 x)).mono ?_
 rintro e u ⟨g,rfl,hC,h1,h2,hB⟩
 refine⟨_,rfl,⟨_,32,rfl,.inr ⟨⟨g,0,none⟩,rfl,fun j v hj=>?_⟩⟩,hB⟩
 have hj2:j<32:=by have:=(List.getElem?_eq_some_iff.1 hj).1;rw[Z2,U1] at this;exact this
 rw[Zy _ j (by rw[U1];exact hj2),b32_get x hj2] at hj
 cases hj
 have:=(hC j hj2).1
 rw[if_pos (by omega)] at this
 rw[Addr.add0];exact this
def PGb (lo:Nat) (bs:List Nat) (u:World) (v:Value):Prop:=PG lo 1 bs.length (U8 bs) u v
theorem PGb.stab {lo:Nat} {bs:List Nat} {u u2:World} {v:Value} (hB:Bw u u2) (h:PGb lo bs u v):PGb lo bs u2 v:=PG.stab hB h
theorem PGb.app {lo:Nat} {xs ys:List Nat} {y vs:Value} {u:World} (h:PGb lo xs u vs) (hlo:lo<=u.heap.size) (hl:xs.length+ys.length<=1000000) (hy:NW ys.length (U8 ys) u y): ∃v u',(Builtin.append_ #[43,43] 43 #[vs,y]).run Tryz.prog u= .ok v u'/\Below lo u u'/\PGb lo (xs++ys) u' v:=by
 obtain⟨v,u',b,hr,hb,hg,hq⟩:=app_PG (ty:=43) hlo rfl rfl hl hy h
 exact⟨v,u',hr,(Below.refl lo u).grown hg hlo (fun k e=>by cases e;exact hb),by unfold PGb;rw[List.length_append];exact hq⟩
theorem flN_atZ (L:List Int) (k c:Nat) (v:Value) (hk:k<L.length) (hv:(LN (L.getD k 0))[c]?=some v):(flN L)[4*k+c]?=some v:=by
 have e:L=L.take k++(L.getD k 0::L.drop (k+1)):=by
  rw[List.getD_eq_getElem?_getD,List.getElem?_eq_getElem hk,Option.getD_some,<-List.drop_eq_getElem_cons hk,List.take_append_drop]
 have hl:(flN (L.take k)).length=4*k:=by rw[flN_len,List.length_take];omega
 rw[e,flN_app,List.getElem?_append_right (by omega),hl,show 4*k+c -4*k=c by omega,flN,List.getElem?_append_left (List.getElem?_eq_some_iff.1 hv).1]
 exact hv
theorem xmem_core (p q g h:Int) (L:List Int) (sl:Option Addr) (n cap:Nat) (w:World) (hA:Hid (∀u x lo,Bw w u->lo<=u.heap.size->PFr lo [g,h] u x-> ∃v u',(Builtin.append_ #[28,28] 28 #[x,.slice sl n cap]).run Tryz.prog u= .ok v u'/\Bw u u'/\PNs lo L u' v)) (hlen:L.length<=30) (hin: ∀z∈L,In z) (hI:Hid (∀x u,In x->CC 44 #[GX p q g h,NV x] u (.bool (isB p q x)))):
 CC 29 #[GX p q g h,.slice sl n cap] w (.bool (L.all (isB p q))):=by
 go_enter Tryz.func29,Tryz.ntmps29
 go_upto_region 1 with fail
 obtain⟨v0,hC,HB0,K0⟩:=bx1 w (GE (p) (q) (g) (h)) 26
 rw[hC]
 clear hC
 refine rgF K0 HB0 HB0.size [] [] [(0,7,.pointer (some ⟨w.heap.size,8,none⟩)),(1,8,NV (g)),(2,9,.pointer (some ⟨w.heap.size,12,none⟩)),(3,10,NV (h)),(5,12,.slice sl n cap)] [] [] [⟨4,11,some 6,PFr v0.heap.size [g,h]⟩,⟨6,13,some 7,PNs v0.heap.size L⟩,⟨7,5,none,PNs v0.heap.size L⟩] [] (.cons (fun _ _ _ h1 h2=>h2.stab h1)<| .cons (fun _ _ _ h1 h2=>h2.stab h1)<| .cons (fun _ _ _ h1 h2=>h2.stab h1)<|Stab.nil) ?_ ?_
 ·exact oc (g_fd (fun uZ=>fdG2 _ uZ))<|oc (g_lo 0 8 uN iN)<|oc (g_fd (fun uZ=>fdG3 _ uZ))<|oc (g_lo 0 12 uN iN)<|oc (g_bR 0 (PFr v0.heap.size [g,h]) [0,1] [NV g,NV h] (flN [g,h]) (bsN2 g h) (fun u hu=>PFr.new _ [g,h] u 24 hu))<|oc g_mv<|oc (g_aW 0 1 (PFr v0.heap.size [g,h]) (PNs v0.heap.size L) (fun u x hB hs hx=>hA.out u x _ hB hs hx))<|oc (g_sE 1 2 (PNs v0.heap.size L)) on
 intro u1 v1_4 hv1_4 v1_6 hv1_6 v1_7 hv1_7 HB1 sz1 K1
 simp only[sQ] at K1⊢
 clear HB0
 obtain⟨b6,c6,z6,rfl,ho1,ho2,ho3,hoC⟩:=hv1_7 rfl
 have K1x:=Bk.more3 K0 K1 ho1 ho2 hoC (by intro x hx;first | (simp at hx;done) | (simp at hx⊢;omega))
 simp only[aK] at K1x
 clear K1 K0 hv1_4 hv1_6 hv1_7
 go_upto_region 2 with fail
 refine rgP K1x HB1 HB1.size [] [] [(0,6,(Go.Value.int Go.IntKind.i64 0))] [] [] [] ?_ ?_
 ·exact oc g_as on
 intro u2 HB2 sz2 K2
 simp only[sQ] at K2⊢
 clear HB1
 go_wp2_with fail
 go_loopw [6] (fun s6 wr=> ∃(k:Nat),k<=L.length/\s6= .int .i64 (k:Int)/\Bw w wr/\CV wr (w.heap.size) (GE (p) (q) (g) (h))/\w.heap.size<wr.heap.size/\CV wr (b6) (flN L++z6)/\b6<wr.heap.size/\Hid (∀j,j<k->isB p q (L.getD j 0)=true)) (fun s6 _=>L.length -(intOf s6).toNat)
 case atStart=>exact⟨0,by omega,rfl,HB2,(K2.cv 0),(K2.lt 0),(K2.cv 1),(K2.lt 1),fun j hj=>absurd hj (by omega)⟩
 case round=>
  obtain⟨k,hk,rfl,HBr,C0,lC0,C1,lC1,hall⟩:=hrel
  clear HB2
  have hnK:=K2.n
  simp at hnK
  by_cases hj:k<L.length
  ·have hl:decide ((k:Int)<(L.length:Int))=true:=by simp;omega
   have hX:=nlIx (go:=0) (cap:=c6) (.inr rfl:L=[]\/some (⟨b6,0,none⟩:Addr)=some ⟨b6,0,none⟩) k hj
   simp only[Nat.zero_add] at hX
   replace hX:Hid _:=Hid.onD hX
   have hM:=fun u=>hI.out (L.getD k 0) u (getDIn hin k hj)
   have hrow: ∀c v,(LN (L.getD k 0))[c]?=some v->(flN L++z6)[4*k+c]?=some v:=fun c v hv=>by
    have h:=flN_atZ L k c v hj hv
    rw[List.getElem?_append_left (List.getElem?_eq_some_iff.1 h).1];exact h
   have hall2:isB p q (L.getD k 0)=true->Hid (∀j,j<k+1->isB p q (L.getD j 0)=true):=fun hb j hj2=>by
    by_cases e:j=k
    ·subst e;exact hb
    ·exact hall.out j (by omega)
   have hno:isB p q (L.getD k 0)=false->L.all (isB p q)=false:=fun h=>by
    rw[Bool.eq_false_iff];intro e
    have:=List.all_eq_true.1 e (L.getD k 0) (by rw[List.getD_eq_getElem?_getD,List.getElem?_eq_getElem hj];exact List.getElem_mem hj)
    rw[h] at this;cases this
   obtain⟨x,ex⟩: ∃x,L.getD k 0=x:=⟨_,rfl⟩
   rw[ex] at hall2 hno
   simp only[ex] at hM hrow
   replace hM:Hid _:=Hid.onD hM
   clear ex hall
   obtain⟨bb,ebb⟩: ∃b,isB p q x=b:=⟨_,rfl⟩
   simp only[ebb] at hM hall2 hno
   replace hall2:Hid _:=Hid.onD hall2
   replace hno:Hid _:=Hid.onD hno
   clear ebb
   cases bb
   case' false=>
    have K2_1:Bk w.heap.size wr [(false,w.heap.size,GE (p) (q) (g) (h)),(false,b6,flN L++z6)]:=⟨.c lC0 C0<| .c lC1 C1<|trivial,by simp<;>omega⟩
    go_upto_region 3 with fail
    refine rgP K2_1 HBr HBr.size [] [] [(0,14,.int .i64 (k:Int)),(1,15,.slice (some ⟨b6,0,none⟩) L.length c6),(2,16,.int .i64 (L.length:Int)),(3,17,.bool true)] [] [] [] ?_ ?_
    ·exact oc g_mv<|oc g_mv<|oc (g_ln Tryz.underlying28)<|oc (g_bn (fun uZ=>Zc _ _ (k:Int) (L.length:Int) _ uZ hl)) on
    intro u3 HB3 sz3 K3
    simp only[sQ] at K3⊢
    go_upto_region 5 with fail
    refine rgD K3 HB3 HB3.size [] [] [(0,20,GX (p) (q) (g) (h)),(1,21,.slice (some ⟨b6,0,none⟩) L.length c6),(2,22,.int .i64 (k:Int)),(3,23,.pointer (some ⟨b6,4*k,none⟩)),(4,24,NV (x)),(5,25,.bool false),(6,26,.bool true)] [] [] [] ?_ ?_
    ·exact oc (g_ld 0 Tryz.underlying26 Z0)<|oc g_mv<|oc g_mv<|oc (g_ix (fun uZ=>hX.out uZ))<|oc (g_lR 1 (4*k) (cs:=LN (x)) (hrow) uN iN)<|oc (g_cl ent_ZA (fun uZ=>hM.out uZ))<|oc (g_un (fun uZ=>not_f uZ)) on
    intro u4 HB4 sz4 K4
    simp only[sQ] at K4⊢
    clear K3 HB3
    go_upto_region 6 with fail
    refine rgP K4 HB4 HB4.size [] [] [(0,4,(Go.Value.bool Bool.false))] [] [] [] ?_ ?_
    ·exact oc g_as on
    intro u5 HB5 sz5 K5
    simp only[sQ] at K5⊢
    clear K4 HB4
    go_wp2
    refine bodyPost_ret (v:= .bool false) (by simp[results,Tryz.results29,go_sem,]) rfl ⟨by rw[hno.out (by simp)],HB5⟩
   case' true=>
    have K2_1:Bk w.heap.size wr [(false,w.heap.size,GE (p) (q) (g) (h)),(false,b6,flN L++z6)]:=⟨.c lC0 C0<| .c lC1 C1<|trivial,by simp<;>omega⟩
    go_upto_region 3 with fail
    refine rgP K2_1 HBr HBr.size [] [] [(0,14,.int .i64 (k:Int)),(1,15,.slice (some ⟨b6,0,none⟩) L.length c6),(2,16,.int .i64 (L.length:Int)),(3,17,.bool true)] [] [] [] ?_ ?_
    ·exact oc g_mv<|oc g_mv<|oc (g_ln Tryz.underlying28)<|oc (g_bn (fun uZ=>Zc _ _ (k:Int) (L.length:Int) _ uZ hl)) on
    intro u3 HB3 sz3 K3
    simp only[sQ] at K3⊢
    go_upto_region 5 with fail
    refine rgD K3 HB3 HB3.size [] [] [(0,20,GX (p) (q) (g) (h)),(1,21,.slice (some ⟨b6,0,none⟩) L.length c6),(2,22,.int .i64 (k:Int)),(3,23,.pointer (some ⟨b6,4*k,none⟩)),(4,24,NV (x)),(5,25,.bool true),(6,26,.bool false)] [] [] [] ?_ ?_
    ·exact oc (g_ld 0 Tryz.underlying26 Z0)<|oc g_mv<|oc g_mv<|oc (g_ix (fun uZ=>hX.out uZ))<|oc (g_lR 1 (4*k) (cs:=LN (x)) (hrow) uN iN)<|oc (g_cl ent_ZA (fun uZ=>hM.out uZ))<|oc (g_un (fun uZ=>not_t uZ)) on
    intro u4 HB4 sz4 K4
    simp only[sQ] at K4⊢
    clear K3 HB3
    go_upto_region 4 with fail
    refine rgP K4 HB4 HB4.size [] [] [(0,18,.int .i64 (k:Int)),(1,19,.int .i64 ((k+1:Nat):Int)),(2,6,.int .i64 ((k+1:Nat):Int))] [(2,0)] [(2,6)] [] ?_ ?_
    ·exact oc g_mv<|oc (g_bn (fun uZ=>Zs _ _ (k:Int) 1 ((k+1:Nat):Int) uZ (by omega) (by omega) (by omega)))<|oc g_as on
    intro u5 HB5 sz5 K5
    simp only[sQ] at K5⊢
    clear K4 HB4
    go_wp2
    refine⟨⟨k+1,by omega,rfl,HB5,(K5.cv 0),(K5.lt 0),(K5.cv 1),(K5.lt 1),hall2.out (by simp)⟩,?_⟩
    simp[intOf]<;>omega
  ·have hl:decide ((k:Int)<(L.length:Int))=false:=by simp;omega
   have hkn:k=L.length:=by omega
   have hb:L.all (isB p q)=true:=List.all_eq_true.2 fun x hx=>by
    obtain⟨j,hj2,rfl⟩:=List.getElem_of_mem hx
    have:=hall.out j (by omega)
    rw[List.getD_eq_getElem?_getD,List.getElem?_eq_getElem hj2] at this
    exact this
   have K2_1:Bk w.heap.size wr [(false,w.heap.size,GE (p) (q) (g) (h)),(false,b6,flN L++z6)]:=⟨.c lC0 C0<| .c lC1 C1<|trivial,by simp<;>omega⟩
   go_upto_region 3 with fail
   refine rgP K2_1 HBr HBr.size [] [] [(0,14,.int .i64 (k:Int)),(1,15,.slice (some ⟨b6,0,none⟩) L.length c6),(2,16,.int .i64 (L.length:Int)),(3,17,.bool false)] [] [] [] ?_ ?_
   ·exact oc g_mv<|oc g_mv<|oc (g_ln Tryz.underlying28)<|oc (g_bn (fun uZ=>Zc _ _ (k:Int) (L.length:Int) _ uZ hl)) on
   intro u3 HB3 sz3 K3
   simp only[sQ] at K3⊢
   go_upto_region 7 with fail
   refine rgP K3 HB3 HB3.size [] [] [(0,4,(Go.Value.bool Bool.true))] [] [] [] ?_ ?_
   ·exact oc g_as on
   intro u4 HB4 sz4 K4
   simp only[sQ] at K4⊢
   clear K3 HB3
   go_wp2
   refine bodyPost_ret (v:= .bool true) (by simp[results,Tryz.results29,go_sem,]) rfl ⟨by rw[hb],HB4⟩
theorem bs0p (w:World):(Instr.buildSlice 43 0 #[]).run Tryz.prog w= .ok (.slice (some ⟨w.heap.size,0,none⟩) 0 0) (w.alloc (.cells #[] 5)):=by kernel_rfl
theorem xch_core (p q g h r er:Int) (L:List Int) (sl:Option Addr) (n cap:Nat) (w:World) (hA:Hid (∀u x lo,Bw w u->lo<=u.heap.size->PFr lo [g,h] u x-> ∃v u',(Builtin.append_ #[28,28] 28 #[x,.slice sl n cap]).run Tryz.prog u= .ok v u'/\Bw u u'/\PNs lo L u' v)) (hlen:L.length<=30) (hS:Hid (∀u c b zs,(chB L).length<=c->b<u.heap.size->CV u b (U8 (chB L)++zs)->CC 36 #[GX p q g h,.slice (some ⟨b,0,none⟩) (chB L).length c] u (.tuple #[NV r,.int .i64 er]))):
 CC 12 #[GX p q g h,.slice sl n cap] w (.tuple #[NV r,.int .i64 er]):=by
 go_enter Tryz.func12,Tryz.ntmps12
 go_upto_region 1 with fail
 obtain⟨v0,hC,HB0,K0⟩:=bx2 w (GE (p) (q) (g) (h)) 26 L0s 24
 rw[hC]
 clear hC
 refine rgF K0 HB0 HB0.size [] [] [(0,9,.pointer (some ⟨w.heap.size,8,none⟩)),(1,10,NV (g)),(2,11,.pointer (some ⟨w.heap.size,12,none⟩)),(3,12,NV (h)),(5,14,.slice sl n cap)] [] [] [⟨4,13,some 6,PFr v0.heap.size [g,h]⟩,⟨6,15,some 7,PNs v0.heap.size L⟩,⟨7,6,none,PNs v0.heap.size L⟩] [] (.cons (fun _ _ _ h1 h2=>h2.stab h1)<| .cons (fun _ _ _ h1 h2=>h2.stab h1)<| .cons (fun _ _ _ h1 h2=>h2.stab h1)<|Stab.nil) ?_ ?_
 ·exact oc (g_fd (fun uZ=>fdG2 _ uZ))<|oc (g_lo 0 8 uN iN)<|oc (g_fd (fun uZ=>fdG3 _ uZ))<|oc (g_lo 0 12 uN iN)<|oc (g_bR 0 (PFr v0.heap.size [g,h]) [0,1] [NV g,NV h] (flN [g,h]) (bsN2 g h) (fun u hu=>PFr.new _ [g,h] u 24 hu))<|oc g_mv<|oc (g_aW 0 1 (PFr v0.heap.size [g,h]) (PNs v0.heap.size L) (fun u x hB hs hx=>hA.out u x _ hB hs hx))<|oc (g_sE 1 2 (PNs v0.heap.size L)) on
 intro u1 v1_4 hv1_4 v1_6 hv1_6 v1_7 hv1_7 HB1 sz1 K1
 simp only[sQ] at K1⊢
 clear HB0
 obtain⟨b6,c6,z6,rfl,ho1,ho2,ho3,hoC⟩:=hv1_7 rfl
 have K1x:=Bk.more3 K0 K1 ho1 ho2 hoC (by intro x hx;first | (simp at hx;done) | (simp at hx⊢;omega))
 simp only[aK] at K1x
 clear K1 K0 hv1_4 hv1_6 hv1_7
 have hb0:=bs0p
 have kp0:CV u1 (w.heap.size) (GE (p) (q) (g) (h)):=K1x.cv 0
 have kr4:CV u1 (w.heap.size+1) L0s:=K1x.cv 1
 have krw:CV u1 b6 (flN L++z6):=K1x.cv 2
 have lp0:w.heap.size<u1.heap.size:=K1x.lt 0
 have lr4:w.heap.size+1<u1.heap.size:=K1x.lt 1
 have lrw:b6<u1.heap.size:=K1x.lt 2
 have hSN:SN u1 b6 0 L:=fun j v hj=>by rw[Nat.zero_add];exact(krw j v (by rw[List.getElem?_append_left (List.getElem?_eq_some_iff.1 hj).1];exact hj)).1
 replace hSN:Hid (SN u1 b6 0 L):=hSN
 replace kp0:Hid _:=Hid.onD kp0
 replace kr4:Hid _:=Hid.onD kr4
 clear krw K1x
 go_wp2_with fail
 go_loopw [7,8] (fun s7 s8 wr=> ∃(k:Nat) (v:Value),k<=L.length/\s8= .int .i64 (k:Int)/\v=s7/\Hid (PGb u1.heap.size (chB (L.take k)) wr v)/\Bw u1 wr) (fun _ s8 _=>L.length -(intOf s8).toNat)
 case atStart=>exact⟨0,_,by omega,rfl,rfl,⟨u1.heap.size,0,[],rfl,Nat.le_refl _,by simp,Nat.le_refl _,rfl,fun j v hj=>by simp[chB,U8] at hj⟩,Z1 (Zh u1) _⟩
 case round=>
  obtain⟨k,v,hk,rfl,rfl,hQ,HBr⟩:=hrel
  by_cases hj:k<L.length
  ·have hl:(k:Int)<(L.length:Int):=by omega
   have hX:=nlIx (go:=0) (cap:=c6) (.inr rfl:L=[]\/some (⟨b6,0,none⟩:Addr)=some ⟨b6,0,none⟩) k hj
   have hR:=rgUp HBr lrw (hSN.out.at k hj)
   simp only[Nat.zero_add] at hX hR
   have hs:=chB_s hj
   have hcl:(chB (L.take k)).length<=1000:=by rw[chB_len,List.length_take];omega
   have e1:IntKind.i64.wrap ((k:Int)+1)=((k+1:Nat):Int):=by rw[IntKind.wrap_i64];omega
   obtain⟨x,ex⟩: ∃x,L.getD k 0=x:=⟨_,rfl⟩
   rw[ex] at hR hs
   obtain⟨bs,eb⟩: ∃l,chB (L.take k)=l:=⟨_,rfl⟩
   rw[eb] at hQ hs hcl
   replace hs:Hid _:=hs
   clear ex eb
   have hBx:=xBytesZ x
   have hxl:=U1 x
   obtain⟨ys,ey⟩: ∃l,b32 x=l:=⟨_,rfl⟩
   rw[ey] at hs hxl hBx
   replace hBx:Hid _:=Hid.onD hBx
   clear ey
   have c0:wr.cell? ⟨b6,4*k,none⟩=some (.int .u64 (D0 x)):=hR 0 _ rfl
   have c1:=hR 1 _ rfl
   have c2:=hR 2 _ rfl
   have c3:=hR 3 _ rfl
   clear hR
   have hln:bs.length+ys.length<=1000000:=by omega
   have hQ2:=hQ.out
   obtain⟨bq,cq,zq,rfl,-⟩:=hQ2
   go_wp2_with (first
    | (go_at_call 35;go_loud (refine(hBx.out wr).mono ?_;clear hBx;rintro e ua ⟨y,rfl,hnw,hBa⟩;rw[<-hxl] at hnw;obtain⟨v2,uc,r2,hB2,hQ3⟩:=PGb.app (PGb.stab hBa hQ.out) (Nat.le_trans HBr.size hBa.size) hln hnw;replace hQ3:Hid _:=Hid.onD hQ3;have hBc:Bw u1 uc:=(HBr.trans (hBa.mono HBr.size)).trans hB2;clear hB2 hnw))
    | (at_builtin;refine Yr rfl _ _ 43 rfl _ _ _ rfl rfl r2 ?_;clear r2))
   exact⟨⟨k+1,_,by omega,by simp,rfl,by rw[<-hs.out];exact hQ3,hBc⟩,by simp[intOf];omega⟩
  ·obtain rfl:k=L.length:=by omega
   have hl: ¬(L.length:Int)<(L.length:Int):=by omega
   have hl2:decide ((L.length:Int)<(L.length:Int))=false:=by simp
   rw[List.take_of_length_le (Nat.le_refl _)] at hQ
   obtain⟨bq,cq,zq,rfl,hq1,hq2,hq3,hq4,hq5⟩:=hQ.out
   have kq0:=kp0.out.below HBr lp0
   have kq4:=kr4.out.below HBr lr4
   have HBx:Bw w wr:=Ye HB1 HBr
   have mp0:w.heap.size<wr.heap.size:=Nat.lt_of_lt_of_le lp0 HBr.size
   have mr4:w.heap.size+1<wr.heap.size:=Nat.lt_of_lt_of_le lr4 HBr.size
   clear kp0 kr4 hSN
   have K1_1:Bk w.heap.size wr [(false,w.heap.size,GE (p) (q) (g) (h)),(true,w.heap.size+1,L0s),(false,bq,U8 (chB L)++zq)]:=⟨.c mp0 kq0<| .o mr4 (by omega) kq4<| .c hq2 hq5<|trivial,by simp<;>omega⟩
   go_upto_region 4 with fail
   refine rgP K1_1 HBx HBx.size [] [] [(0,17,.int .i64 (L.length:Int)),(1,18,.slice (some ⟨b6,0,none⟩) L.length c6),(2,19,.int .i64 (L.length:Int)),(3,20,.bool false)] [] [] [] ?_ ?_
   ·exact oc g_mv<|oc g_mv<|oc (g_ln Tryz.underlying28)<|oc (g_bn (fun uZ=>Zc _ _ (L.length:Int) (L.length:Int) _ uZ hl2)) on
   intro u2 HB2 sz2 K2
   simp only[sQ] at K2⊢
   go_upto_region 7 with fail
   refine rgP K2 HB2 HB2.size [.no,.all 5 (LN (r))] [] [(0,30,GX (p) (q) (g) (h)),(1,31,.slice (some ⟨bq,0,none⟩) (chB L).length cq),(2,32,.tuple #[NV (r),.int .i64 er]),(3,33,NV (r)),(4,34,.int .i64 er),(6,5,.int .i64 er)] [] [] [] ?_ ?_
   ·exact oc (g_ld 0 Tryz.underlying26 Z0)<|oc g_mv<|oc (g_ck ent_ZB (fun fZ uZ kZ sZ=>hS.out uZ cq bq zq hq3 (kZ.lb sZ 2) (kZ.cv 2)))<|oc g_ex<|oc g_ex<|oc (g_st 1 iN)<|oc g_as on
   intro u3 HB3 sz3 K3
   simp only[sQ] at K3⊢
   clear K2 HB2
   have c4:=(K3.cv 1).n4
   go_wp2
   refine bodyPost_ret (v:= .tuple #[NV r,.int .i64 er]) (by simp[results,Tryz.results12,go_sem,c4]) rfl ⟨rfl,HB3⟩
theorem xChal (p q g h:Int) (ns:List Int) (v:Value) (w:World) (hp:In p) (hq:In q) (hn:ns.length<=20) (hv:NL w v ns):CC 12 #[GX p q g h,v] w (.tuple #[NV (chZ p q (g::h::ns)),.int .i64 (chE p q)]):=by
 have hv2:=hv
 obtain⟨sl,gb,go,cap,rfl,-⟩:=hv
 refine xch_core p q g h _ _ ([g,h]++ns) sl ns.length cap w (fun u x lo hB hl hx=>app_full hx hl (hv2.up hB) (by simp) (by omega)) (by simp;omega) fun u c b zs h1 h2 h3=>?_
 exact xScalar p q g h (chB (g::h::ns)) _ u hp hq ⟨some ⟨b,0,none⟩,c,b,0,rfl,h1,.inr rfl,h2,fun j hj=>by
  rw[Nat.zero_add]
  exact(h3 j _ (by rw[List.getElem?_append_left (by rw[Z2];exact hj)];exact Zy _ j hj)).1⟩ (chB_lt _) (by rw[chB_len];simp;omega)
theorem xMem (p q g h:Int) (ns:List Int) (v:Value) (w:World) (hp:In p) (hq:In q) (hn:ns.length<=20) (hi: ∀z∈ns,In z) (hg:In g) (hh:In h) (hv:NL w v ns):CC 29 #[GX p q g h,v] w (.bool (mbL p q (g::h::ns))):=by
 have hv2:=hv
 obtain⟨sl,gb,go,cap,rfl,-⟩:=hv
 exact xmem_core p q g h ([g,h]++ns) sl ns.length cap w (fun u x lo hB hl hx=>app_full hx hl (hv2.up hB) (by simp) (by omega)) (by simp;omega) (by simp;exact⟨hg,hh,hi⟩) fun x u hx=>xIs p q g h x u hp hq hx
def PKf (base:Nat) (p q g h m:Int) (u:World) (v:Value):Prop:= ∃b1 b2,v= .func (.func 59) #[] #[.pointer (some ⟨b1,0,none⟩),.pointer (some ⟨b2,0,none⟩)]/\base<=b1/\base<=b2/\b1≠b2/\b1<u.heap.size/\b2<u.heap.size/\CV u b1 (GE p q g h)/\CV u b2 (LN m)
theorem PKf.stab {base:Nat} {p q g h m:Int} {u u2:World} {v:Value} (hB:Bw u u2) (k:PKf base p q g h m u v):PKf base p q g h m u2 v:=by
 obtain⟨b1,b2,e,h1,h2,h3,h4,h5,h6,h7⟩:=k
 exact⟨b1,b2,e,h1,h2,h3,Nat.lt_of_lt_of_le h4 hB.size,Nat.lt_of_lt_of_le h5 hB.size,h6.below hB h4,h7.below hB h5⟩
theorem PKf.mono {base b:Nat} {p q g h m:Int} {u:World} {v:Value} (k:PKf base p q g h m u v) (hb:b<=base):PKf b p q g h m u v:=by
 obtain⟨b1,b2,e,h1,h2,h3⟩:=k
 exact⟨b1,b2,e,Nat.le_trans hb h1,Nat.le_trans hb h2,h3⟩
theorem pbb_core (p q g h c m:Int) (w:World) (hN:Hid (∀u,CC 58 #[NV q,NV c] u (NV m))):
 Calls Tryz.prog 37 #[GX p q g h,NV c] w fun e' w'=> ∃v,e'= .returned v/\PKf w.heap.size p q g h m w' v/\Bw w w':=by
 go_enter Tryz.func37,Tryz.ntmps37
 go_upto_region 1 with fail
 obtain⟨v0,hC,HB0,K0⟩:=bx2 w (GE (p) (q) (g) (h)) 26 (LN (c)) 24
 rw[hC]
 clear hC
 refine rgP K0 HB0 HB0.size [] [(4,5,L0s,some (5,LN (m)))] [(0,6,.pointer (some ⟨w.heap.size,4,none⟩)),(1,7,NV (q)),(2,8,NV (c)),(3,9,NV (m))] [(5,4)] [] [] ?_ ?_
 ·exact oc (g_fd (fun uZ=>fdG1 _ uZ))<|oc (g_lo 0 4 uN iN)<|oc (g_ld 1 uN iN)<|oc (g_cl Ud (fun uZ=>hN.out uZ))<|oc (g_al 0 aN)<|oc (g_sn 0 iN) on
 intro u1 b1_4 HB1 sz1 K1
 simp only[sQ] at K1⊢
 clear K0 HB0
 go_upto_region 2 with fail
 refine rgP K1 HB1 HB1.size [] [] [(0,10,.func (.func 59) #[] #[.pointer (some ⟨w.heap.size,0,none⟩),.pointer (some ⟨b1_4,0,none⟩)]),(1,4,.func (.func 59) #[] #[.pointer (some ⟨w.heap.size,0,none⟩),.pointer (some ⟨b1_4,0,none⟩)])] [] [] [] ?_ ?_
 ·exact oc g_mkC<|oc g_as on
 intro u2 HB2 sz2 K2
 simp only[sQ] at K2⊢
 clear K1 HB1
 go_wp2
 refine bodyPost_ret (v:= .func (.func 59) #[] #[.pointer (some ⟨w.heap.size,0,none⟩),.pointer (some ⟨b1_4,0,none⟩)]) (by simp[results,Tryz.results37,go_sem]) rfl ⟨_,rfl,⟨_,_,rfl,(K2.lo 0),(K2.lo 2),by have:=K2.n;simp at this;omega,(K2.lt 0),(K2.lt 2),(K2.cv 0),(K2.cv 2)⟩,HB2⟩
theorem pfg_n (p q g h b xu xk c y z:Int) (w:World) (hP:Hid (∀u,Bw w u->CC 27 #[GX p q g h,NV b,NV y,NV z] u (.tuple #[A4 0 0 0 0,A4 0 0 0 0,.int .i64 90]))):
 CC 14 #[GX p q g h,NV b,NV xu,NV xk,NV c,NV y,NV z] w (.tuple #[A4 0 0 0 0,A4 0 0 0 0,.int .i64 90]):=by
 go_enter Tryz.func14,Tryz.ntmps14
 go_upto_region 1 with fail
 generalize hC:(((((((((w.alloc (.cells (GE (p) (q) (g) (h):List Value).toArray 26)).alloc (.cells (LN (b):List Value).toArray 24)).alloc (.cells (LN (xu):List Value).toArray 24)).alloc (.cells (LN (xk):List Value).toArray 24)).alloc (.cells (LN (c):List Value).toArray 24)).alloc (.cells (LN (y):List Value).toArray 24)).alloc (.cells (LN (z):List Value).toArray 24)).alloc (.cells (L0s:List Value).toArray 24)).alloc (.cells (L0s:List Value).toArray 24))=v0 at *
 have HB0:Bw w v0:=by rw[<-hC];exact Z1 (Z1 (Z1 (Z1 (Z1 (Z1 (Z1 (Z1 (Z1 (Zh w) _) _) _) _) _) _) _) _) _
 have K0:Bk w.heap.size v0 [(true,w.heap.size,GE (p) (q) (g) (h)),(true,w.heap.size+1,LN (b)),(true,w.heap.size+1+1,LN (xu)),(true,w.heap.size+1+1+1,LN (xk)),(true,w.heap.size+1+1+1+1,LN (c)),(true,w.heap.size+1+1+1+1+1,LN (y)),(true,w.heap.size+1+1+1+1+1+1,LN (z)),(true,w.heap.size+1+1+1+1+1+1+1,L0s),(true,w.heap.size+1+1+1+1+1+1+1+1,L0s)]:=by rw[<-hC];exact(Bk.nil _ w).ad.ad.ad.ad.ad.ad.ad.ad.ad
 clear hC
 refine rgP K0 HB0 HB0.size [] [(9,17,L0s,some (11,[.int .u64 (0),.int .u64 (0),.int .u64 (0),.int .u64 (0)])),(10,18,L0s,some (12,[.int .u64 (0),.int .u64 (0),.int .u64 (0),.int .u64 (0)]))] [(0,24,GX (p) (q) (g) (h)),(1,25,NV (b)),(2,26,NV (y)),(3,27,NV (z)),(4,28,.tuple #[A4 (0) (0) (0) (0),A4 (0) (0) (0) (0),.int .i64 90]),(5,23,.tuple #[A4 (0) (0) (0) (0),A4 (0) (0) (0) (0),.int .i64 90]),(6,29,A4 (0) (0) (0) (0)),(7,30,A4 (0) (0) (0) (0)),(8,31,.int .i64 90),(13,19,.int .i64 90)] [(11,9),(12,10)] [] [] ?_ ?_
 ·exact oc (g_ld 0 Tryz.underlying26 Z0)<|oc (g_ld 1 uN iN)<|oc (g_ld 5 uN iN)<|oc (g_ld 6 uN iN)<|oc (g_cb ent_Z6 (fun uZ bZ=>hP.out uZ bZ))<|oc g_mv<|oc g_ex<|oc g_ex<|oc g_ex<|oc (g_al 0 aN)<|oc (g_al 1 aN)<|oc (g_sn 0 iN)<|oc (g_sn 1 iN)<|oc g_as on
 intro u1 b1_9 b1_10 HB1 sz1 K1
 simp only[sQ] at K1⊢
 clear K0 HB0
 go_upto_region 2 with fail
 refine rgP K1 HB1 HB1.size [] [] [(0,32,.int .i64 90),(1,33,.bool true)] [] [] [] ?_ ?_
 ·exact oc g_mv<|oc (g_bn (fun uZ=>X6 _ _ _ 90 0 _ uZ rfl)) on
 intro u2 HB2 sz2 K2
 simp only[sQ] at K2⊢
 clear K1 HB1
 go_upto_region 3 with fail
 refine rgP K2 HB2 HB2.size [.no,.no,.no,.no,.no,.no,.no,.all 3 ([.int .u64 (0),.int .u64 (0),.int .u64 (0),.int .u64 (0)]),.all 4 ([.int .u64 (0),.int .u64 (0),.int .u64 (0),.int .u64 (0)])] [] [(0,34,A4 (0) (0) (0) (0)),(1,35,A4 (0) (0) (0) (0)),(2,36,.int .i64 90),(5,16,.int .i64 90)] [] [] [] ?_ ?_
 ·exact oc (g_bd zN)<|oc (g_bd zN)<|oc g_mv<|oc (g_st 7 iN)<|oc (g_st 8 iN)<|oc g_as on
 intro u3 HB3 sz3 K3
 simp only[sQ] at K3⊢
 clear K2 HB2
 have c14:=(K3.cv 7).n4
 have c15:=(K3.cv 8).n4
 go_wp2
 refine bodyPost_ret (v:= .tuple #[A4 0 0 0 0,A4 0 0 0 0,.int .i64 90]) (by simp[results,Tryz.results14,go_sem,c14,c15]) rfl ⟨rfl,HB3⟩
theorem pfg_u (p q g h b xu xk c y z m fv fw:Int) (w:World) (hP:Hid (∀u,Bw w u->CC 27 #[GX p q g h,NV b,NV y,NV z] u (.tuple #[NV fv,NV fw,.int .i64 0])))(hB:Hid (∀u base,Bw w u->base<=u.heap.size->Calls Tryz.prog 37 #[GX p q g h,NV c] u fun e u'=> ∃v,e= .returned v/\PKf base p q g h m u' v/\Bw u u'))(hF:Hid (∀b1 b2 u,PCk p q g h m b1 b2 u->Bw w u->CC 59 #[NV fv,NV xu,.pointer (some ⟨b1,0,none⟩),.pointer (some ⟨b2,0,none⟩)] u (.tuple #[A4 0 0 0 0,.int .i64 90]))):
 CC 14 #[GX p q g h,NV b,NV xu,NV xk,NV c,NV y,NV z] w (.tuple #[A4 0 0 0 0,A4 0 0 0 0,.int .i64 90]):=by
 go_enter Tryz.func14,Tryz.ntmps14
 go_upto_region 1 with fail
 generalize hC:(((((((((w.alloc (.cells (GE (p) (q) (g) (h):List Value).toArray 26)).alloc (.cells (LN (b):List Value).toArray 24)).alloc (.cells (LN (xu):List Value).toArray 24)).alloc (.cells (LN (xk):List Value).toArray 24)).alloc (.cells (LN (c):List Value).toArray 24)).alloc (.cells (LN (y):List Value).toArray 24)).alloc (.cells (LN (z):List Value).toArray 24)).alloc (.cells (L0s:List Value).toArray 24)).alloc (.cells (L0s:List Value).toArray 24))=v0 at *
 have HB0:Bw w v0:=by rw[<-hC];exact Z1 (Z1 (Z1 (Z1 (Z1 (Z1 (Z1 (Z1 (Z1 (Zh w) _) _) _) _) _) _) _) _) _
 have K0:Bk w.heap.size v0 [(true,w.heap.size,GE (p) (q) (g) (h)),(true,w.heap.size+1,LN (b)),(true,w.heap.size+1+1,LN (xu)),(true,w.heap.size+1+1+1,LN (xk)),(true,w.heap.size+1+1+1+1,LN (c)),(true,w.heap.size+1+1+1+1+1,LN (y)),(true,w.heap.size+1+1+1+1+1+1,LN (z)),(true,w.heap.size+1+1+1+1+1+1+1,L0s),(true,w.heap.size+1+1+1+1+1+1+1+1,L0s)]:=by rw[<-hC];exact(Bk.nil _ w).ad.ad.ad.ad.ad.ad.ad.ad.ad
 clear hC
 refine rgP K0 HB0 HB0.size [] [(9,17,L0s,some (11,LN (fv))),(10,18,L0s,some (12,LN (fw)))] [(0,24,GX (p) (q) (g) (h)),(1,25,NV (b)),(2,26,NV (y)),(3,27,NV (z)),(4,28,.tuple #[NV (fv),NV (fw),.int .i64 0]),(5,23,.tuple #[NV (fv),NV (fw),.int .i64 0]),(6,29,NV (fv)),(7,30,NV (fw)),(8,31,.int .i64 0),(13,19,.int .i64 0)] [(11,9),(12,10)] [] [] ?_ ?_
 ·exact oc (g_ld 0 Tryz.underlying26 Z0)<|oc (g_ld 1 uN iN)<|oc (g_ld 5 uN iN)<|oc (g_ld 6 uN iN)<|oc (g_cb ent_Z6 (fun uZ bZ=>hP.out uZ bZ))<|oc g_mv<|oc g_ex<|oc g_ex<|oc g_ex<|oc (g_al 0 aN)<|oc (g_al 1 aN)<|oc (g_sn 0 iN)<|oc (g_sn 1 iN)<|oc g_as on
 intro u1 b1_9 b1_10 HB1 sz1 K1
 simp only[sQ] at K1⊢
 clear K0 HB0
 go_upto_region 2 with fail
 refine rgP K1 HB1 HB1.size [] [] [(0,32,.int .i64 0),(1,33,.bool false)] [] [] [] ?_ ?_
 ·exact oc g_mv<|oc (g_bn (fun uZ=>X6 _ _ _ 0 0 _ uZ rfl)) on
 intro u2 HB2 sz2 K2
 simp only[sQ] at K2⊢
 clear K1 HB1
 go_upto_region 4 with fail
 refine rgF K2 HB2 HB2.size [] [] [(0,37,GX (p) (q) (g) (h)),(1,38,NV (c))] [] [] [⟨2,39,some 3,PKf u2.heap.size p q g h m⟩,⟨3,20,none,PKf u2.heap.size p q g h m⟩] [] (.cons (fun _ _ _ h1 h2=>h2.stab h1)<| .cons (fun _ _ _ h1 h2=>h2.stab h1)<|Stab.nil) ?_ ?_
 ·exact oc (g_ld 0 Tryz.underlying26 Z0)<|oc (g_ld 4 uN iN)<|oc (g_cE 0 (PKf u2.heap.size p q g h m) ent_Z7 (fun u hB_ hs=>hB.out u _ hB_ hs))<|oc (g_sE 0 1 (PKf u2.heap.size p q g h m)) on
 intro u3 v3_2 hv3_2 v3_3 hv3_3 HB3 sz3 K3
 simp only[sQ] at K3⊢
 clear HB2
 obtain⟨b1,b2,eb,ho1,ho2,hne,hl1,hl2,hc1,hc2⟩:=hv3_3 rfl
 subst eb
 have K3x:=Bk.more2c K2 K3 ho1 ho2 hne hl1 hl2 hc1 hc2 (by intro x hx;first | (simp at hx;done) | (simp at hx⊢;omega))
 simp only[aK] at K3x
 clear K3 K2 hv3_2 hv3_3
 go_upto_region 5 with fail
 refine rgP K3x HB3 HB3.size [] [(7,21,L0s,some (8,[.int .u64 (0),.int .u64 (0),.int .u64 (0),.int .u64 (0)]))] [(0,41,.func (.func 59) #[] #[.pointer (some ⟨b1,0,none⟩),.pointer (some ⟨b2,0,none⟩)]),(1,42,NV (fv)),(2,43,NV (xu)),(3,44,.tuple #[A4 (0) (0) (0) (0),.int .i64 90]),(4,40,.tuple #[A4 (0) (0) (0) (0),.int .i64 90]),(5,45,A4 (0) (0) (0) (0)),(6,46,.int .i64 90),(9,19,.int .i64 90)] [(8,7)] [] [] ?_ ?_
 ·exact oc g_mv<|oc (g_ld 9 uN iN)<|oc (g_ld 2 uN iN)<|oc (g_cC (vs:=[NV fv,NV xu]) (caps:=[.pointer (some ⟨b1,0,none⟩),.pointer (some ⟨b2,0,none⟩)]) ent_Z8 (fun fZ uZ kZ sZ bZ=>hF.out b1 b2 uZ ⟨(kZ.lb sZ 11),(kZ.lb sZ 12),(kZ.cv 11).range,(kZ.cv 12).range⟩ bZ))<|oc g_mv<|oc g_ex<|oc g_ex<|oc (g_al 0 aN)<|oc (g_sn 0 iN)<|oc g_as on
 intro u4 b4_7 HB4 sz4 K4
 simp only[sQ] at K4⊢
 clear HB3
 go_upto_region 6 with fail
 refine rgP K4 HB4 HB4.size [] [] [(0,47,.int .i64 90),(1,48,.bool true)] [] [] [] ?_ ?_
 ·exact oc g_mv<|oc (g_bn (fun uZ=>X6 _ _ _ 90 0 _ uZ rfl)) on
 intro u5 HB5 sz5 K5
 simp only[sQ] at K5⊢
 clear K4 HB4
 go_upto_region 7 with fail
 refine rgP K5 HB5 HB5.size [.no,.no,.no,.no,.no,.no,.no,.all 3 ([.int .u64 (0),.int .u64 (0),.int .u64 (0),.int .u64 (0)]),.all 4 ([.int .u64 (0),.int .u64 (0),.int .u64 (0),.int .u64 (0)])] [] [(0,49,A4 (0) (0) (0) (0)),(1,50,A4 (0) (0) (0) (0)),(2,51,.int .i64 90),(5,16,.int .i64 90)] [] [] [] ?_ ?_
 ·exact oc (g_bd zN)<|oc (g_bd zN)<|oc g_mv<|oc (g_st 7 iN)<|oc (g_st 8 iN)<|oc g_as on
 intro u6 HB6 sz6 K6
 simp only[sQ] at K6⊢
 clear K5 HB5
 have c14:=(K6.cv 7).n4
 have c15:=(K6.cv 8).n4
 go_wp2
 refine bodyPost_ret (v:= .tuple #[A4 0 0 0 0,A4 0 0 0 0,.int .i64 90]) (by simp[results,Tryz.results14,go_sem,c14,c15]) rfl ⟨rfl,HB6⟩
theorem pfg_w (p q g h b xu xk c y z m fv fw vv:Int) (w:World) (hP:Hid (∀u,Bw w u->CC 27 #[GX p q g h,NV b,NV y,NV z] u (.tuple #[NV fv,NV fw,.int .i64 0])))(hB:Hid (∀u base,Bw w u->base<=u.heap.size->Calls Tryz.prog 37 #[GX p q g h,NV c] u fun e u'=> ∃v,e= .returned v/\PKf base p q g h m u' v/\Bw u u'))(hF:Hid (∀b1 b2 u,PCk p q g h m b1 b2 u->Bw w u->CC 59 #[NV fv,NV xu,.pointer (some ⟨b1,0,none⟩),.pointer (some ⟨b2,0,none⟩)] u (.tuple #[NV vv,.int .i64 0])))(hG:Hid (∀b1 b2 u,PCk p q g h m b1 b2 u->Bw w u->CC 59 #[NV fw,NV xk,.pointer (some ⟨b1,0,none⟩),.pointer (some ⟨b2,0,none⟩)] u (.tuple #[A4 0 0 0 0,.int .i64 90]))):
 CC 14 #[GX p q g h,NV b,NV xu,NV xk,NV c,NV y,NV z] w (.tuple #[A4 0 0 0 0,A4 0 0 0 0,.int .i64 90]):=by
 go_enter Tryz.func14,Tryz.ntmps14
 go_upto_region 1 with fail
 generalize hC:(((((((((w.alloc (.cells (GE (p) (q) (g) (h):List Value).toArray 26)).alloc (.cells (LN (b):List Value).toArray 24)).alloc (.cells (LN (xu):List Value).toArray 24)).alloc (.cells (LN (xk):List Value).toArray 24)).alloc (.cells (LN (c):List Value).toArray 24)).alloc (.cells (LN (y):List Value).toArray 24)).alloc (.cells (LN (z):List Value).toArray 24)).alloc (.cells (L0s:List Value).toArray 24)).alloc (.cells (L0s:List Value).toArray 24))=v0 at *
 have HB0:Bw w v0:=by rw[<-hC];exact Z1 (Z1 (Z1 (Z1 (Z1 (Z1 (Z1 (Z1 (Z1 (Zh w) _) _) _) _) _) _) _) _) _
 have K0:Bk w.heap.size v0 [(true,w.heap.size,GE (p) (q) (g) (h)),(true,w.heap.size+1,LN (b)),(true,w.heap.size+1+1,LN (xu)),(true,w.heap.size+1+1+1,LN (xk)),(true,w.heap.size+1+1+1+1,LN (c)),(true,w.heap.size+1+1+1+1+1,LN (y)),(true,w.heap.size+1+1+1+1+1+1,LN (z)),(true,w.heap.size+1+1+1+1+1+1+1,L0s),(true,w.heap.size+1+1+1+1+1+1+1+1,L0s)]:=by rw[<-hC];exact(Bk.nil _ w).ad.ad.ad.ad.ad.ad.ad.ad.ad
 clear hC
 refine rgP K0 HB0 HB0.size [] [(9,17,L0s,some (11,LN (fv))),(10,18,L0s,some (12,LN (fw)))] [(0,24,GX (p) (q) (g) (h)),(1,25,NV (b)),(2,26,NV (y)),(3,27,NV (z)),(4,28,.tuple #[NV (fv),NV (fw),.int .i64 0]),(5,23,.tuple #[NV (fv),NV (fw),.int .i64 0]),(6,29,NV (fv)),(7,30,NV (fw)),(8,31,.int .i64 0),(13,19,.int .i64 0)] [(11,9),(12,10)] [] [] ?_ ?_
 ·exact oc (g_ld 0 Tryz.underlying26 Z0)<|oc (g_ld 1 uN iN)<|oc (g_ld 5 uN iN)<|oc (g_ld 6 uN iN)<|oc (g_cb ent_Z6 (fun uZ bZ=>hP.out uZ bZ))<|oc g_mv<|oc g_ex<|oc g_ex<|oc g_ex<|oc (g_al 0 aN)<|oc (g_al 1 aN)<|oc (g_sn 0 iN)<|oc (g_sn 1 iN)<|oc g_as on
 intro u1 b1_9 b1_10 HB1 sz1 K1
 simp only[sQ] at K1⊢
 clear K0 HB0
 go_upto_region 2 with fail
 refine rgP K1 HB1 HB1.size [] [] [(0,32,.int .i64 0),(1,33,.bool false)] [] [] [] ?_ ?_
 ·exact oc g_mv<|oc (g_bn (fun uZ=>X6 _ _ _ 0 0 _ uZ rfl)) on
 intro u2 HB2 sz2 K2
 simp only[sQ] at K2⊢
 clear K1 HB1
 go_upto_region 4 with fail
 refine rgF K2 HB2 HB2.size [] [] [(0,37,GX (p) (q) (g) (h)),(1,38,NV (c))] [] [] [⟨2,39,some 3,PKf u2.heap.size p q g h m⟩,⟨3,20,none,PKf u2.heap.size p q g h m⟩] [] (.cons (fun _ _ _ h1 h2=>h2.stab h1)<| .cons (fun _ _ _ h1 h2=>h2.stab h1)<|Stab.nil) ?_ ?_
 ·exact oc (g_ld 0 Tryz.underlying26 Z0)<|oc (g_ld 4 uN iN)<|oc (g_cE 0 (PKf u2.heap.size p q g h m) ent_Z7 (fun u hB_ hs=>hB.out u _ hB_ hs))<|oc (g_sE 0 1 (PKf u2.heap.size p q g h m)) on
 intro u3 v3_2 hv3_2 v3_3 hv3_3 HB3 sz3 K3
 simp only[sQ] at K3⊢
 clear HB2
 obtain⟨b1,b2,eb,ho1,ho2,hne,hl1,hl2,hc1,hc2⟩:=hv3_3 rfl
 subst eb
 have K3x:=Bk.more2c K2 K3 ho1 ho2 hne hl1 hl2 hc1 hc2 (by intro x hx;first | (simp at hx;done) | (simp at hx⊢;omega))
 simp only[aK] at K3x
 clear K3 K2 hv3_2 hv3_3
 go_upto_region 5 with fail
 refine rgP K3x HB3 HB3.size [] [(7,21,L0s,some (8,LN (vv)))] [(0,41,.func (.func 59) #[] #[.pointer (some ⟨b1,0,none⟩),.pointer (some ⟨b2,0,none⟩)]),(1,42,NV (fv)),(2,43,NV (xu)),(3,44,.tuple #[NV (vv),.int .i64 0]),(4,40,.tuple #[NV (vv),.int .i64 0]),(5,45,NV (vv)),(6,46,.int .i64 0),(9,19,.int .i64 0)] [(8,7)] [] [] ?_ ?_
 ·exact oc g_mv<|oc (g_ld 9 uN iN)<|oc (g_ld 2 uN iN)<|oc (g_cC (vs:=[NV fv,NV xu]) (caps:=[.pointer (some ⟨b1,0,none⟩),.pointer (some ⟨b2,0,none⟩)]) ent_Z8 (fun fZ uZ kZ sZ bZ=>hF.out b1 b2 uZ ⟨(kZ.lb sZ 11),(kZ.lb sZ 12),(kZ.cv 11).range,(kZ.cv 12).range⟩ bZ))<|oc g_mv<|oc g_ex<|oc g_ex<|oc (g_al 0 aN)<|oc (g_sn 0 iN)<|oc g_as on
 intro u4 b4_7 HB4 sz4 K4
 simp only[sQ] at K4⊢
 clear HB3
 go_upto_region 6 with fail
 refine rgP K4 HB4 HB4.size [] [] [(0,47,.int .i64 0),(1,48,.bool false)] [] [] [] ?_ ?_
 ·exact oc g_mv<|oc (g_bn (fun uZ=>X6 _ _ _ 0 0 _ uZ rfl)) on
 intro u5 HB5 sz5 K5
 simp only[sQ] at K5⊢
 clear K4 HB4
 go_upto_region 8 with fail
 refine rgP K5 HB5 HB5.size [] [(7,22,L0s,some (8,[.int .u64 (0),.int .u64 (0),.int .u64 (0),.int .u64 (0)]))] [(0,53,.func (.func 59) #[] #[.pointer (some ⟨b1,0,none⟩),.pointer (some ⟨b2,0,none⟩)]),(1,54,NV (fw)),(2,55,NV (xk)),(3,56,.tuple #[A4 (0) (0) (0) (0),.int .i64 90]),(4,52,.tuple #[A4 (0) (0) (0) (0),.int .i64 90]),(5,57,A4 (0) (0) (0) (0)),(6,58,.int .i64 90),(9,19,.int .i64 90)] [(8,7)] [] [] ?_ ?_
 ·exact oc g_mv<|oc (g_ld 10 uN iN)<|oc (g_ld 3 uN iN)<|oc (g_cC (vs:=[NV fw,NV xk]) (caps:=[.pointer (some ⟨b1,0,none⟩),.pointer (some ⟨b2,0,none⟩)]) ent_Z8 (fun fZ uZ kZ sZ bZ=>hG.out b1 b2 uZ ⟨(kZ.lb sZ 11),(kZ.lb sZ 12),(kZ.cv 11).range,(kZ.cv 12).range⟩ bZ))<|oc g_mv<|oc g_ex<|oc g_ex<|oc (g_al 0 aN)<|oc (g_sn 0 iN)<|oc g_as on
 intro u6 b6_7 HB6 sz6 K6
 simp only[sQ] at K6⊢
 clear K5 HB5
 go_upto_region 9 with fail
 refine rgP K6 HB6 HB6.size [] [] [(0,59,.int .i64 90),(1,60,.bool true)] [] [] [] ?_ ?_
 ·exact oc g_mv<|oc (g_bn (fun uZ=>X6 _ _ _ 90 0 _ uZ rfl)) on
 intro u7 HB7 sz7 K7
 simp only[sQ] at K7⊢
 clear K6 HB6
 go_upto_region 10 with fail
 refine rgP K7 HB7 HB7.size [.no,.no,.no,.no,.no,.no,.no,.all 3 ([.int .u64 (0),.int .u64 (0),.int .u64 (0),.int .u64 (0)]),.all 4 ([.int .u64 (0),.int .u64 (0),.int .u64 (0),.int .u64 (0)])] [] [(0,61,A4 (0) (0) (0) (0)),(1,62,A4 (0) (0) (0) (0)),(2,63,.int .i64 90),(5,16,.int .i64 90)] [] [] [] ?_ ?_
 ·exact oc (g_bd zN)<|oc (g_bd zN)<|oc g_mv<|oc (g_st 7 iN)<|oc (g_st 8 iN)<|oc g_as on
 intro u8 HB8 sz8 K8
 simp only[sQ] at K8⊢
 clear K7 HB7
 have c14:=(K8.cv 7).n4
 have c15:=(K8.cv 8).n4
 go_wp2
 refine bodyPost_ret (v:= .tuple #[A4 0 0 0 0,A4 0 0 0 0,.int .i64 90]) (by simp[results,Tryz.results14,go_sem,c14,c15]) rfl ⟨rfl,HB8⟩
theorem pfg_k (p q g h b xu xk c y z m fv fw vv ww:Int) (w:World) (hP:Hid (∀u,Bw w u->CC 27 #[GX p q g h,NV b,NV y,NV z] u (.tuple #[NV fv,NV fw,.int .i64 0])))(hB:Hid (∀u base,Bw w u->base<=u.heap.size->Calls Tryz.prog 37 #[GX p q g h,NV c] u fun e u'=> ∃v,e= .returned v/\PKf base p q g h m u' v/\Bw u u'))(hF:Hid (∀b1 b2 u,PCk p q g h m b1 b2 u->Bw w u->CC 59 #[NV fv,NV xu,.pointer (some ⟨b1,0,none⟩),.pointer (some ⟨b2,0,none⟩)] u (.tuple #[NV vv,.int .i64 0])))(hG:Hid (∀b1 b2 u,PCk p q g h m b1 b2 u->Bw w u->CC 59 #[NV fw,NV xk,.pointer (some ⟨b1,0,none⟩),.pointer (some ⟨b2,0,none⟩)] u (.tuple #[NV ww,.int .i64 0]))):
 CC 14 #[GX p q g h,NV b,NV xu,NV xk,NV c,NV y,NV z] w (.tuple #[NV vv,NV ww,.int .i64 0]):=by
 go_enter Tryz.func14,Tryz.ntmps14
 go_upto_region 1 with fail
 generalize hC:(((((((((w.alloc (.cells (GE (p) (q) (g) (h):List Value).toArray 26)).alloc (.cells (LN (b):List Value).toArray 24)).alloc (.cells (LN (xu):List Value).toArray 24)).alloc (.cells (LN (xk):List Value).toArray 24)).alloc (.cells (LN (c):List Value).toArray 24)).alloc (.cells (LN (y):List Value).toArray 24)).alloc (.cells (LN (z):List Value).toArray 24)).alloc (.cells (L0s:List Value).toArray 24)).alloc (.cells (L0s:List Value).toArray 24))=v0 at *
 have HB0:Bw w v0:=by rw[<-hC];exact Z1 (Z1 (Z1 (Z1 (Z1 (Z1 (Z1 (Z1 (Z1 (Zh w) _) _) _) _) _) _) _) _) _
 have K0:Bk w.heap.size v0 [(true,w.heap.size,GE (p) (q) (g) (h)),(true,w.heap.size+1,LN (b)),(true,w.heap.size+1+1,LN (xu)),(true,w.heap.size+1+1+1,LN (xk)),(true,w.heap.size+1+1+1+1,LN (c)),(true,w.heap.size+1+1+1+1+1,LN (y)),(true,w.heap.size+1+1+1+1+1+1,LN (z)),(true,w.heap.size+1+1+1+1+1+1+1,L0s),(true,w.heap.size+1+1+1+1+1+1+1+1,L0s)]:=by rw[<-hC];exact(Bk.nil _ w).ad.ad.ad.ad.ad.ad.ad.ad.ad
 clear hC
 refine rgP K0 HB0 HB0.size [] [(9,17,L0s,some (11,LN (fv))),(10,18,L0s,some (12,LN (fw)))] [(0,24,GX (p) (q) (g) (h)),(1,25,NV (b)),(2,26,NV (y)),(3,27,NV (z)),(4,28,.tuple #[NV (fv),NV (fw),.int .i64 0]),(5,23,.tuple #[NV (fv),NV (fw),.int .i64 0]),(6,29,NV (fv)),(7,30,NV (fw)),(8,31,.int .i64 0),(13,19,.int .i64 0)] [(11,9),(12,10)] [] [] ?_ ?_
 ·exact oc (g_ld 0 Tryz.underlying26 Z0)<|oc (g_ld 1 uN iN)<|oc (g_ld 5 uN iN)<|oc (g_ld 6 uN iN)<|oc (g_cb ent_Z6 (fun uZ bZ=>hP.out uZ bZ))<|oc g_mv<|oc g_ex<|oc g_ex<|oc g_ex<|oc (g_al 0 aN)<|oc (g_al 1 aN)<|oc (g_sn 0 iN)<|oc (g_sn 1 iN)<|oc g_as on
 intro u1 b1_9 b1_10 HB1 sz1 K1
 simp only[sQ] at K1⊢
 clear K0 HB0
 go_upto_region 2 with fail
 refine rgP K1 HB1 HB1.size [] [] [(0,32,.int .i64 0),(1,33,.bool false)] [] [] [] ?_ ?_
 ·exact oc g_mv<|oc (g_bn (fun uZ=>X6 _ _ _ 0 0 _ uZ rfl)) on
 intro u2 HB2 sz2 K2
 simp only[sQ] at K2⊢
 clear K1 HB1
 go_upto_region 4 with fail
 refine rgF K2 HB2 HB2.size [] [] [(0,37,GX (p) (q) (g) (h)),(1,38,NV (c))] [] [] [⟨2,39,some 3,PKf u2.heap.size p q g h m⟩,⟨3,20,none,PKf u2.heap.size p q g h m⟩] [] (.cons (fun _ _ _ h1 h2=>h2.stab h1)<| .cons (fun _ _ _ h1 h2=>h2.stab h1)<|Stab.nil) ?_ ?_
 ·exact oc (g_ld 0 Tryz.underlying26 Z0)<|oc (g_ld 4 uN iN)<|oc (g_cE 0 (PKf u2.heap.size p q g h m) ent_Z7 (fun u hB_ hs=>hB.out u _ hB_ hs))<|oc (g_sE 0 1 (PKf u2.heap.size p q g h m)) on
 intro u3 v3_2 hv3_2 v3_3 hv3_3 HB3 sz3 K3
 simp only[sQ] at K3⊢
 clear HB2
 obtain⟨b1,b2,eb,ho1,ho2,hne,hl1,hl2,hc1,hc2⟩:=hv3_3 rfl
 subst eb
 have K3x:=Bk.more2c K2 K3 ho1 ho2 hne hl1 hl2 hc1 hc2 (by intro x hx;first | (simp at hx;done) | (simp at hx⊢;omega))
 simp only[aK] at K3x
 clear K3 K2 hv3_2 hv3_3
 go_upto_region 5 with fail
 refine rgP K3x HB3 HB3.size [] [(7,21,L0s,some (8,LN (vv)))] [(0,41,.func (.func 59) #[] #[.pointer (some ⟨b1,0,none⟩),.pointer (some ⟨b2,0,none⟩)]),(1,42,NV (fv)),(2,43,NV (xu)),(3,44,.tuple #[NV (vv),.int .i64 0]),(4,40,.tuple #[NV (vv),.int .i64 0]),(5,45,NV (vv)),(6,46,.int .i64 0),(9,19,.int .i64 0)] [(8,7)] [] [] ?_ ?_
 ·exact oc g_mv<|oc (g_ld 9 uN iN)<|oc (g_ld 2 uN iN)<|oc (g_cC (vs:=[NV fv,NV xu]) (caps:=[.pointer (some ⟨b1,0,none⟩),.pointer (some ⟨b2,0,none⟩)]) ent_Z8 (fun fZ uZ kZ sZ bZ=>hF.out b1 b2 uZ ⟨(kZ.lb sZ 11),(kZ.lb sZ 12),(kZ.cv 11).range,(kZ.cv 12).range⟩ bZ))<|oc g_mv<|oc g_ex<|oc g_ex<|oc (g_al 0 aN)<|oc (g_sn 0 iN)<|oc g_as on
 intro u4 b4_7 HB4 sz4 K4
 simp only[sQ] at K4⊢
 clear HB3
 go_upto_region 6 with fail
 refine rgP K4 HB4 HB4.size [] [] [(0,47,.int .i64 0),(1,48,.bool false)] [] [] [] ?_ ?_
 ·exact oc g_mv<|oc (g_bn (fun uZ=>X6 _ _ _ 0 0 _ uZ rfl)) on
 intro u5 HB5 sz5 K5
 simp only[sQ] at K5⊢
 clear K4 HB4
 go_upto_region 8 with fail
 refine rgP K5 HB5 HB5.size [] [(7,22,L0s,some (8,LN (ww)))] [(0,53,.func (.func 59) #[] #[.pointer (some ⟨b1,0,none⟩),.pointer (some ⟨b2,0,none⟩)]),(1,54,NV (fw)),(2,55,NV (xk)),(3,56,.tuple #[NV (ww),.int .i64 0]),(4,52,.tuple #[NV (ww),.int .i64 0]),(5,57,NV (ww)),(6,58,.int .i64 0),(9,19,.int .i64 0)] [(8,7)] [] [] ?_ ?_
 ·exact oc g_mv<|oc (g_ld 10 uN iN)<|oc (g_ld 3 uN iN)<|oc (g_cC (vs:=[NV fw,NV xk]) (caps:=[.pointer (some ⟨b1,0,none⟩),.pointer (some ⟨b2,0,none⟩)]) ent_Z8 (fun fZ uZ kZ sZ bZ=>hG.out b1 b2 uZ ⟨(kZ.lb sZ 11),(kZ.lb sZ 12),(kZ.cv 11).range,(kZ.cv 12).range⟩ bZ))<|oc g_mv<|oc g_ex<|oc g_ex<|oc (g_al 0 aN)<|oc (g_sn 0 iN)<|oc g_as on
 intro u6 b6_7 HB6 sz6 K6
 simp only[sQ] at K6⊢
 clear K5 HB5
 go_upto_region 9 with fail
 refine rgP K6 HB6 HB6.size [] [] [(0,59,.int .i64 0),(1,60,.bool false)] [] [] [] ?_ ?_
 ·exact oc g_mv<|oc (g_bn (fun uZ=>X6 _ _ _ 0 0 _ uZ rfl)) on
 intro u7 HB7 sz7 K7
 simp only[sQ] at K7⊢
 clear K6 HB6
 go_upto_region 11 with fail
 refine rgD K7 HB7 HB7.size [.no,.no,.no,.no,.no,.no,.no,.all 2 (LN (vv)),.all 3 (LN (ww))] [] [(0,64,NV (vv)),(1,65,NV (ww)),(4,16,(Go.Value.int Go.IntKind.i64 0))] [] [] [] ?_ ?_
 ·exact oc (g_ld 13 uN iN)<|oc (g_ld 14 uN iN)<|oc (g_st 7 iN)<|oc (g_st 8 iN)<|oc g_as on
 intro u8 HB8 sz8 K8
 simp only[sQ] at K8⊢
 clear K7 HB7
 have c14:=(K8.cv 7).n4
 have c15:=(K8.cv 8).n4
 go_wp2
 refine bodyPost_ret (v:= .tuple #[NV vv,NV ww,.int .i64 0]) (by simp[results,Tryz.results14,go_sem,c14,c15]) rfl ⟨rfl,HB8⟩
theorem gOk.in2 {p q:Int} (hg:gOk p q) (hp:In p):In (q+q):=⟨by have:=hg.q3;omega,by have:=hg.1;have:=hp.2;omega⟩
theorem pBackBy (p q g h c:Int) (base:Nat) (w:World) (hb:base<=w.heap.size) (hp:In p) (hq:In q) (hc:In c) (hg:gOk p q):Calls Tryz.prog 37 #[GX p q g h,NV c] w fun e u=> ∃v,e= .returned v/\PKf base p q g h (q -c%q) u v/\Bw w u:=by
 refine(pbb_core p q g h c _ w fun u=>pNeg q c u hq (hg.in2 hp) hc (by have:=hg.q3;omega)).mono ?_
 rintro e u ⟨v,rfl,hk,hB⟩
 exact⟨v,rfl,hk.mono hb,hB⟩
theorem In_neg {q c:Int} (hq:In q) (h3:3<=q):In (q -c%q):=⟨by have:=Int.emod_lt_of_pos c (show 0<q by omega);omega,by have:=Int.emod_nonneg c (show q≠0 by omega);have:=hq.2;omega⟩
theorem pForge_n (p q g h b xu xk c y z:Int) (w:World) (hK:GK w) (hp:In p) (hq:In q) (hg:In g) (hh:In h) (hb:In b) (hu:In xu) (hk:In xk) (hc:In c) (hy:In y) (hz:In z) (hm:mbL p q [g,h,b,xu,xk]=false):CC 14 #[GX p q g h,NV b,NV xu,NV xk,NV c,NV y,NV z] w (.tuple #[A4 0 0 0 0,A4 0 0 0 0,.int .i64 90]):=by
 cases h3:mbL p q [g,h,b] with
 | false=>exact pfg_n p q g h b xu xk c y z w fun u hB=>pPair_n p q g h b y z u (hK.up hB) hp hq hg hh hb hy hz h3
 | true=>
  have hgk:=mbL_g h3
  have hall:=mbL_all h3
  have m1:=hall g (by simp)
  have m2:=hall h (by simp)
  have m3:=hall b (by simp)
  have hv:=pw_Mb hgk m3 y
  have hw:=cm_Mb hgk m1 m2 y z
  have hP:=fun u (hB:Bw w u)=>pPair p q g h b y z u (hK.up hB) hp hq hg hh hb hy hz h3
  have hBk:=fun u base (hB:Bw w u) hs=>pBackBy p q g h c base u hs hp hq hc hgk
  have hmi:=In_neg (c:=c) hq hgk.q3
  cases h4:isB p q xu with
  | false=>exact pfg_u p q g h b xu xk c y z _ _ _ w hP hBk fun b1 b2 u hk2 hB=>pBack_n p q g h _ xu _ b1 b2 u (hK.up hB) hp hq hu hmi hk2 h4
  | true=>
   have h5:isB p q xk=false:=by
    simp only[mbL,List.all_cons,List.all_nil,Bool.and_true] at hm h3
    rw[h4] at hm
    rw[Bool.and_eq_true,Bool.and_eq_true] at h3
    rw[h3.1,h3.2.1,h3.2.2] at hm
    simpa using hm
   exact pfg_w p q g h b xu xk c y z _ _ _ _ w hP hBk (fun b1 b2 u hk2 hB=>pBack p q g h _ xu _ b1 b2 u (hK.up hB) hp hq (InMb hp hv) hu hmi hk2 (X7 hgk hv) h4) fun b1 b2 u hk2 hB=>pBack_n p q g h _ xk _ b1 b2 u (hK.up hB) hp hq hk hmi hk2 h5
theorem pForge (p q g h b xu xk c y z:Int) (w:World) (hK:GK w) (hp:In p) (hq:In q) (hg:In g) (hh:In h) (hb:In b) (hu:In xu) (hk:In xk) (hc:In c) (hy:In y) (hz:In z) (hm:mbL p q [g,h,b,xu,xk]=true):CC 14 #[GX p q g h,NV b,NV xu,NV xk,NV c,NV y,NV z] w (.tuple #[NV (fgV p q b xu c y),NV (fgW p q g h xk c y z),.int .i64 0]):=by
 have hgk:=mbL_g hm
 have hall:=mbL_all hm
 have m1:=hall g (by simp)
 have m2:=hall h (by simp)
 have m3:=hall b (by simp)
 have m4:=hall xu (by simp)
 have m5:=hall xk (by simp)
 have h3:mbL p q [g,h,b]=true:=by simp[mbL,X7 hgk m1,X7 hgk m2,X7 hgk m3]
 have hv:=pw_Mb hgk m3 y
 have hw:=cm_Mb hgk m1 m2 y z
 have hmi:=In_neg (c:=c) hq hgk.q3
 have H:=pfg_k p q g h b xu xk c y z _ _ _ _ _ w (fun u hB=>pPair p q g h b y z u (hK.up hB) hp hq hg hh hb hy hz h3) (fun u base hB hs=>pBackBy p q g h c base u hs hp hq hc hgk) (fun b1 b2 u hk2 hB=>pBack p q g h _ xu _ b1 b2 u (hK.up hB) hp hq (InMb hp hv) hu hmi hk2 (X7 hgk hv) (X7 hgk m4)) fun b1 b2 u hk2 hB=>pBack p q g h _ xk _ b1 b2 u (hK.up hB) hp hq (InMb hp hw) hk hmi hk2 (X7 hgk hw) (X7 hgk m5)
 rw[pw_neg,pw_neg] at H
 exact H
theorem fdP0 (b:Nat) (w:World):(Instr.fieldAt 30 (.pointer (some ⟨b,0,none⟩)) 0).run Tryz.prog w= .ok (.pointer (some ⟨b,0,none⟩)) w:=by go_simp
theorem fdP1 (b:Nat) (w:World):(Instr.fieldAt 30 (.pointer (some ⟨b,0,none⟩)) 1).run Tryz.prog w= .ok (.pointer (some ⟨b,4,none⟩)) w:=by go_simp
theorem fdP2 (b:Nat) (w:World):(Instr.fieldAt 30 (.pointer (some ⟨b,0,none⟩)) 2).run Tryz.prog w= .ok (.pointer (some ⟨b,8,none⟩)) w:=by go_simp
theorem W1 (w:World):(Instr.alloc 30 true (.tuple #[])).run Tryz.prog w= .ok (.pointer (some ⟨w.heap.size,0,none⟩)) (w.alloc (.cells L0c.toArray 30)):=by kernel_rfl
theorem Zd:(Tryz.prog.info? 30).map (·.size)=some 12:=by kernel_rfl
theorem bdPf (c y z:Int) (w:World):(Instr.build 30 [(0,NV c),(1,NV y),(2,NV z)].toArray).run Tryz.prog w= .ok (CX c y z) w:=by kernel_rfl
theorem zPf (w:World):(Instr.build 30 [].toArray).run Tryz.prog w= .ok (.agg L0c.toArray) w:=by kernel_rfl
theorem pis_core (p q g h c r er:Int) (bb rb:Bool) (sl:Option Addr) (n cap:Nat) (w:World) (ic:In c) (ir:In r) (hb:decide (c=r)=bb) (hR:Hid (rb=((er==0)&&bb)))(hC:Hid (∀u,Bw w u->CC 11 #[GX p q g h,.slice sl n cap] u (.tuple #[NV r,.int .i64 er]))):
 CC 40 #[GX p q g h,NV c,.slice sl n cap] w (.bool rb):=by
 go_enter Tryz.func40,Tryz.ntmps40
 go_upto_region 1 with fail
 obtain⟨v0,hC,HB0,K0⟩:=bx2 w (GE (p) (q) (g) (h)) 26 (LN (c)) 24
 rw[hC]
 clear hC
 refine rgP K0 HB0 HB0.size [] [(6,7,L0s,some (7,LN (r)))] [(0,10,GX (p) (q) (g) (h)),(1,11,.slice sl n cap),(2,12,.tuple #[NV (r),.int .i64 er]),(3,9,.tuple #[NV (r),.int .i64 er]),(4,13,NV (r)),(5,14,.int .i64 er),(8,8,.int .i64 er)] [(7,6)] [] [] ?_ ?_
 ·exact oc (g_ld 0 Tryz.underlying26 Z0)<|oc g_mv<|oc (g_cb ent_Z9 (fun uZ bZ=>hC.out uZ bZ))<|oc g_mv<|oc g_ex<|oc g_ex<|oc (g_al 0 aN)<|oc (g_sn 0 iN)<|oc g_as on
 intro u1 b1_6 HB1 sz1 K1
 simp only[sQ] at K1⊢
 clear K0 HB0
 cases he:(er==0)
 ·skip
  go_upto_region 2 with fail
  refine rgP K1 HB1 HB1.size [] [] [(0,15,.int .i64 er),(1,16,.bool false),(2,17,.bool false),(3,18,undef),(4,19,undef),(5,20,undef),(6,21,(Go.Value.bool Bool.false)),(7,6,(Go.Value.bool Bool.false))] [] [] [] ?_ ?_
  ·exact oc g_mv<|oc (g_bn (fun uZ=>eql_i _ _ _ er 0 _ uZ he))<|oc g_mv<|oc g_sk<|oc g_sk<|oc g_sk<|oc g_pk<|oc g_as on
  intro u2 HB2 sz2 K2
  simp only[sQ] at K2⊢
  clear K1 HB1
  go_wp2
  refine bodyPost_ret (v:= .bool false) (by simp[results,Tryz.results40,go_sem,]) rfl ⟨by rw[hR.out,he];rfl,HB2⟩
 ·skip
  go_upto_region 2 with fail
  refine rgP K1 HB1 HB1.size [] [] [(0,15,.int .i64 er),(1,16,.bool true),(2,17,.bool true),(3,18,NV (c)),(4,19,NV (r)),(5,20,.bool bb),(6,21,.bool bb),(7,6,.bool bb)] [] [] [] ?_ ?_
  ·exact oc g_mv<|oc (g_bn (fun uZ=>eql_i _ _ _ er 0 _ uZ he))<|oc g_mv<|oc (g_ld 1 uN iN)<|oc (g_ld 2 uN iN)<|oc (g_bn (fun uZ=>eql_n _ _ ic ir bb hb uZ))<|oc g_pk<|oc g_as on
  intro u2 HB2 sz2 K2
  simp only[sQ] at K2⊢
  clear K1 HB1
  go_wp2
  refine bodyPost_ret (v:= .bool bb) (by simp[results,Tryz.results40,go_sem,]) rfl ⟨by rw[hR.out,he];rfl,HB2⟩
theorem In_ch {p q:Int} (hq:In q) (l:List Int):In (chZ p q l):=by
 unfold chZ scX
 split
 ·rename_i hg
  have:=dgN_lt (chB l) tSca (m:=q) (by have:=hg.q3;omega)
  exact⟨this.1,by have:=hq.2;omega⟩
 ·exact⟨by decide,by decide⟩
theorem pIsCh (p q g h c:Int) (ns:List Int) (v:Value) (w:World) (hK:GK w) (hp:In p) (hq:In q) (hc:In c) (hg:gOk p q) (hn:ns.length<=20) (hv:NL w v ns):CC 40 #[GX p q g h,NV c,v] w (.bool (decide (c=chZ p q (g::h::ns)))):=by
 have hv2:=hv
 obtain⟨sl,gb,go,cap,rfl,-⟩:=hv
 refine pis_core p q g h c (chZ p q (g::h::ns)) 0 _ _ sl ns.length cap w hc (In_ch hq _) rfl rfl fun u hB=>?_
 have:=pChal p q g h ns _ u (hK.up hB) hp hq hn (hv2.up hB)
 rwa [show chE p q=0 from if_pos hg] at this
theorem pck_n (p q g h b xu xk c y z:Int) (w:World) (hF:Hid (∀u,Bw w u->CC 14 #[GX p q g h,NV b,NV xu,NV xk,NV c,NV y,NV z] u (.tuple #[A4 0 0 0 0,A4 0 0 0 0,.int .i64 90]))):
 CC 16 #[GX p q g h,NV b,NV xu,NV xk,CX c y z] w (.int .i64 90):=by
 go_enter Tryz.func16,Tryz.ntmps16
 go_upto_region 1 with fail
 obtain⟨v0,hC,HB0,K0⟩:=bx5 w (GE (p) (q) (g) (h)) 26 (LN (b)) 24 (LN (xu)) 24 (LN (xk)) 24 (CE (c) (y) (z)) 30
 rw[hC]
 clear hC
 refine rgP K0 HB0 HB0.size [] [(15,11,L0s,some (17,[.int .u64 (0),.int .u64 (0),.int .u64 (0),.int .u64 (0)])),(16,12,L0s,some (18,[.int .u64 (0),.int .u64 (0),.int .u64 (0),.int .u64 (0)]))] [(0,15,GX (p) (q) (g) (h)),(1,16,NV (b)),(2,17,NV (xu)),(3,18,NV (xk)),(4,19,.pointer (some ⟨w.heap.size+1+1+1+1,0,none⟩)),(5,20,NV (c)),(6,21,.pointer (some ⟨w.heap.size+1+1+1+1,4,none⟩)),(7,22,NV (y)),(8,23,.pointer (some ⟨w.heap.size+1+1+1+1,8,none⟩)),(9,24,NV (z)),(10,25,.tuple #[A4 (0) (0) (0) (0),A4 (0) (0) (0) (0),.int .i64 90]),(11,14,.tuple #[A4 (0) (0) (0) (0),A4 (0) (0) (0) (0),.int .i64 90]),(12,26,A4 (0) (0) (0) (0)),(13,27,A4 (0) (0) (0) (0)),(14,28,.int .i64 90),(19,13,.int .i64 90)] [(17,15),(18,16)] [] [] ?_ ?_
 ·exact oc (g_ld 0 Tryz.underlying26 Z0)<|oc (g_ld 1 uN iN)<|oc (g_ld 2 uN iN)<|oc (g_ld 3 uN iN)<|oc (g_fd (fun uZ=>fdP0 _ uZ))<|oc (g_lo 4 0 uN iN)<|oc (g_fd (fun uZ=>fdP1 _ uZ))<|oc (g_lo 4 4 uN iN)<|oc (g_fd (fun uZ=>fdP2 _ uZ))<|oc (g_lo 4 8 uN iN)<|oc (g_cb ent_Z11 (fun uZ bZ=>hF.out uZ bZ))<|oc g_mv<|oc g_ex<|oc g_ex<|oc g_ex<|oc (g_al 0 aN)<|oc (g_al 1 aN)<|oc (g_sn 0 iN)<|oc (g_sn 1 iN)<|oc g_as on
 intro u1 b1_15 b1_16 HB1 sz1 K1
 simp only[sQ] at K1⊢
 clear K0 HB0
 go_upto_region 2 with fail
 refine rgP K1 HB1 HB1.size [] [] [(0,30,.int .i64 90),(1,31,.bool true),(2,29,.bool true)] [] [] [] ?_ ?_
 ·exact oc g_mv<|oc (g_bn (fun uZ=>X6 _ _ _ 90 0 _ uZ rfl))<|oc g_as on
 intro u2 HB2 sz2 K2
 simp only[sQ] at K2⊢
 clear K1 HB1
 go_upto_region 5 with fail
 refine rgP K2 HB2 HB2.size [] [] [(0,56,.int .i64 90),(1,10,.int .i64 90)] [] [] [] ?_ ?_
 ·exact oc g_mv<|oc g_as on
 intro u3 HB3 sz3 K3
 simp only[sQ] at K3⊢
 clear K2 HB2
 go_wp2
 refine bodyPost_ret (v:= .int .i64 90) (by simp[results,Tryz.results16,go_sem,]) rfl ⟨rfl,HB3⟩
theorem ent_P1:EnT 39:=fun _ _=>by kernel_rfl
theorem pck_k (p q g h b xu xk c y z vv ww re:Int) (b1 b2:Bool) (w:World) (hF:Hid (∀u,Bw w u->CC 14 #[GX p q g h,NV b,NV xu,NV xk,NV c,NV y,NV z] u (.tuple #[NV vv,NV ww,.int .i64 0])))(hA:Hid (∀u v,Bw w u->PFr 0 [c,y,z] u v->CC 39 #[NV q,v] u (.bool b1))) (hI:Hid (∀u v,Bw w u->PFr 0 [b,xu,xk,vv,ww] u v->CC 40 #[GX p q g h,NV c,v] u (.bool b2))) (hR:Hid (re=if b1&&b2 then 0 else 130)):
 CC 16 #[GX p q g h,NV b,NV xu,NV xk,CX c y z] w (.int .i64 re):=by
 go_enter Tryz.func16,Tryz.ntmps16
 go_upto_region 1 with fail
 obtain⟨v0,hC,HB0,K0⟩:=bx5 w (GE (p) (q) (g) (h)) 26 (LN (b)) 24 (LN (xu)) 24 (LN (xk)) 24 (CE (c) (y) (z)) 30
 rw[hC]
 clear hC
 refine rgP K0 HB0 HB0.size [] [(15,11,L0s,some (17,LN (vv))),(16,12,L0s,some (18,LN (ww)))] [(0,15,GX (p) (q) (g) (h)),(1,16,NV (b)),(2,17,NV (xu)),(3,18,NV (xk)),(4,19,.pointer (some ⟨w.heap.size+1+1+1+1,0,none⟩)),(5,20,NV (c)),(6,21,.pointer (some ⟨w.heap.size+1+1+1+1,4,none⟩)),(7,22,NV (y)),(8,23,.pointer (some ⟨w.heap.size+1+1+1+1,8,none⟩)),(9,24,NV (z)),(10,25,.tuple #[NV (vv),NV (ww),.int .i64 0]),(11,14,.tuple #[NV (vv),NV (ww),.int .i64 0]),(12,26,NV (vv)),(13,27,NV (ww)),(14,28,.int .i64 0),(19,13,.int .i64 0)] [(17,15),(18,16)] [] [] ?_ ?_
 ·exact oc (g_ld 0 Tryz.underlying26 Z0)<|oc (g_ld 1 uN iN)<|oc (g_ld 2 uN iN)<|oc (g_ld 3 uN iN)<|oc (g_fd (fun uZ=>fdP0 _ uZ))<|oc (g_lo 4 0 uN iN)<|oc (g_fd (fun uZ=>fdP1 _ uZ))<|oc (g_lo 4 4 uN iN)<|oc (g_fd (fun uZ=>fdP2 _ uZ))<|oc (g_lo 4 8 uN iN)<|oc (g_cb ent_Z11 (fun uZ bZ=>hF.out uZ bZ))<|oc g_mv<|oc g_ex<|oc g_ex<|oc g_ex<|oc (g_al 0 aN)<|oc (g_al 1 aN)<|oc (g_sn 0 iN)<|oc (g_sn 1 iN)<|oc g_as on
 intro u1 b1_15 b1_16 HB1 sz1 K1
 simp only[sQ] at K1⊢
 clear K0 HB0
 go_upto_region 2 with fail
 refine rgP K1 HB1 HB1.size [] [] [(0,30,.int .i64 0),(1,31,.bool false),(2,29,.bool false)] [] [] [] ?_ ?_
 ·exact oc g_mv<|oc (g_bn (fun uZ=>X6 _ _ _ 0 0 _ uZ rfl))<|oc g_as on
 intro u2 HB2 sz2 K2
 simp only[sQ] at K2⊢
 clear K1 HB1
 cases b1
 ·skip
  go_upto_region 3 with fail
  refine rgF K2 HB2 HB2.size [] [] [(0,33,.pointer (some ⟨w.heap.size,4,none⟩)),(1,34,NV (q)),(2,35,.pointer (some ⟨w.heap.size+1+1+1+1,0,none⟩)),(3,36,NV (c)),(4,37,.pointer (some ⟨w.heap.size+1+1+1+1,4,none⟩)),(5,38,NV (y)),(6,39,.pointer (some ⟨w.heap.size+1+1+1+1,8,none⟩)),(7,40,NV (z)),(9,42,.bool false),(10,43,.bool true),(11,32,.bool true)] [] [] [⟨8,41,some 9,PFr 0 [c,y,z]⟩] [] (.cons (fun _ _ _ h1 h2=>h2.stab h1)<|Stab.nil) ?_ ?_
  ·exact oc (g_fd (fun uZ=>fdG1 _ uZ))<|oc (g_lo 0 4 uN iN)<|oc (g_fd (fun uZ=>fdP0 _ uZ))<|oc (g_lo 4 0 uN iN)<|oc (g_fd (fun uZ=>fdP1 _ uZ))<|oc (g_lo 4 4 uN iN)<|oc (g_fd (fun uZ=>fdP2 _ uZ))<|oc (g_lo 4 8 uN iN)<|oc (g_bR 0 (PFr 0 [c,y,z]) [0,1,2] [NV c,NV y,NV z] (flN [c,y,z]) (bsF3 c y z) (fun u hu=>PFr.new 0 [c,y,z] u 24 (Nat.zero_le _)))<|oc (g_c2 0 (PFr 0 [c,y,z]) ent_P1 (fun uZ yv bZ hy=>hA.out uZ yv bZ hy))<|oc (g_un (fun uZ=>not_f uZ))<|oc g_as on
  intro u3 v3_8 hv3_8 HB3 sz3 K3
  simp only[sQ] at K3⊢
  clear K2 HB2
  go_upto_region 6 with fail
  refine rgP K3 HB3 HB3.size [] [] [(0,10,(Go.Value.int Go.IntKind.i64 130))] [] [] [] ?_ ?_
  ·exact oc g_as on
  intro u4 HB4 sz4 K4
  simp only[sQ] at K4⊢
  clear K3 HB3
  go_wp2
  refine bodyPost_ret (v:= .int .i64 130) (by simp[results,Tryz.results16,go_sem,]) rfl ⟨by rw[hR.out];rfl,HB4⟩
 ·skip
  go_upto_region 3 with fail
  refine rgF K2 HB2 HB2.size [] [] [(0,33,.pointer (some ⟨w.heap.size,4,none⟩)),(1,34,NV (q)),(2,35,.pointer (some ⟨w.heap.size+1+1+1+1,0,none⟩)),(3,36,NV (c)),(4,37,.pointer (some ⟨w.heap.size+1+1+1+1,4,none⟩)),(5,38,NV (y)),(6,39,.pointer (some ⟨w.heap.size+1+1+1+1,8,none⟩)),(7,40,NV (z)),(9,42,.bool true),(10,43,.bool false),(11,32,.bool false)] [] [] [⟨8,41,some 9,PFr 0 [c,y,z]⟩] [] (.cons (fun _ _ _ h1 h2=>h2.stab h1)<|Stab.nil) ?_ ?_
  ·exact oc (g_fd (fun uZ=>fdG1 _ uZ))<|oc (g_lo 0 4 uN iN)<|oc (g_fd (fun uZ=>fdP0 _ uZ))<|oc (g_lo 4 0 uN iN)<|oc (g_fd (fun uZ=>fdP1 _ uZ))<|oc (g_lo 4 4 uN iN)<|oc (g_fd (fun uZ=>fdP2 _ uZ))<|oc (g_lo 4 8 uN iN)<|oc (g_bR 0 (PFr 0 [c,y,z]) [0,1,2] [NV c,NV y,NV z] (flN [c,y,z]) (bsF3 c y z) (fun u hu=>PFr.new 0 [c,y,z] u 24 (Nat.zero_le _)))<|oc (g_c2 0 (PFr 0 [c,y,z]) ent_P1 (fun uZ yv bZ hy=>hA.out uZ yv bZ hy))<|oc (g_un (fun uZ=>not_t uZ))<|oc g_as on
  intro u3 v3_8 hv3_8 HB3 sz3 K3
  simp only[sQ] at K3⊢
  clear K2 HB2
  cases b2
  ·skip
   go_upto_region 4 with fail
   refine rgF K3 HB3 HB3.size [] [] [(0,45,GX (p) (q) (g) (h)),(1,46,.pointer (some ⟨w.heap.size+1+1+1+1,0,none⟩)),(2,47,NV (c)),(3,48,NV (b)),(4,49,NV (xu)),(5,50,NV (xk)),(6,51,NV (vv)),(7,52,NV (ww)),(9,54,.bool false),(10,55,.bool true),(11,44,.bool true)] [] [] [⟨8,53,some 9,PFr 0 [b,xu,xk,vv,ww]⟩] [] (.cons (fun _ _ _ h1 h2=>h2.stab h1)<|Stab.nil) ?_ ?_
   ·exact oc (g_ld 0 Tryz.underlying26 Z0)<|oc (g_fd (fun uZ=>fdP0 _ uZ))<|oc (g_lo 4 0 uN iN)<|oc (g_ld 1 uN iN)<|oc (g_ld 2 uN iN)<|oc (g_ld 3 uN iN)<|oc (g_ld 5 uN iN)<|oc (g_ld 6 uN iN)<|oc (g_bR 0 (PFr 0 [b,xu,xk,vv,ww]) [0,1,2,3,4] [NV b,NV xu,NV xk,NV vv,NV ww] (flN [b,xu,xk,vv,ww]) (bsF5 b xu xk vv ww) (fun u hu=>PFr.new 0 [b,xu,xk,vv,ww] u 24 (Nat.zero_le _)))<|oc (g_cWg 0 (PFr 0 [b,xu,xk,vv,ww]) (fun yv=>[GX p q g h,NV c,yv]) ent_Z10 (fun uZ yv bZ hy=>hI.out uZ yv bZ hy))<|oc (g_un (fun uZ=>not_f uZ))<|oc g_as on
   intro u4 v4_8 hv4_8 HB4 sz4 K4
   simp only[sQ] at K4⊢
   clear K3 HB3
   go_upto_region 6 with fail
   refine rgP K4 HB4 HB4.size [] [] [(0,10,(Go.Value.int Go.IntKind.i64 130))] [] [] [] ?_ ?_
   ·exact oc g_as on
   intro u5 HB5 sz5 K5
   simp only[sQ] at K5⊢
   clear K4 HB4
   go_wp2
   refine bodyPost_ret (v:= .int .i64 130) (by simp[results,Tryz.results16,go_sem,]) rfl ⟨by rw[hR.out];rfl,HB5⟩
  ·skip
   go_upto_region 4 with fail
   refine rgF K3 HB3 HB3.size [] [] [(0,45,GX (p) (q) (g) (h)),(1,46,.pointer (some ⟨w.heap.size+1+1+1+1,0,none⟩)),(2,47,NV (c)),(3,48,NV (b)),(4,49,NV (xu)),(5,50,NV (xk)),(6,51,NV (vv)),(7,52,NV (ww)),(9,54,.bool true),(10,55,.bool false),(11,44,.bool false)] [] [] [⟨8,53,some 9,PFr 0 [b,xu,xk,vv,ww]⟩] [] (.cons (fun _ _ _ h1 h2=>h2.stab h1)<|Stab.nil) ?_ ?_
   ·exact oc (g_ld 0 Tryz.underlying26 Z0)<|oc (g_fd (fun uZ=>fdP0 _ uZ))<|oc (g_lo 4 0 uN iN)<|oc (g_ld 1 uN iN)<|oc (g_ld 2 uN iN)<|oc (g_ld 3 uN iN)<|oc (g_ld 5 uN iN)<|oc (g_ld 6 uN iN)<|oc (g_bR 0 (PFr 0 [b,xu,xk,vv,ww]) [0,1,2,3,4] [NV b,NV xu,NV xk,NV vv,NV ww] (flN [b,xu,xk,vv,ww]) (bsF5 b xu xk vv ww) (fun u hu=>PFr.new 0 [b,xu,xk,vv,ww] u 24 (Nat.zero_le _)))<|oc (g_cWg 0 (PFr 0 [b,xu,xk,vv,ww]) (fun yv=>[GX p q g h,NV c,yv]) ent_Z10 (fun uZ yv bZ hy=>hI.out uZ yv bZ hy))<|oc (g_un (fun uZ=>not_t uZ))<|oc g_as on
   intro u4 v4_8 hv4_8 HB4 sz4 K4
   simp only[sQ] at K4⊢
   clear K3 HB3
   go_upto_region 7 with fail
   refine rgP K4 HB4 HB4.size [] [] [(0,10,(Go.Value.int Go.IntKind.i64 0))] [] [] [] ?_ ?_
   ·exact oc g_as on
   intro u5 HB5 sz5 K5
   simp only[sQ] at K5⊢
   clear K4 HB4
   go_wp2
   refine bodyPost_ret (v:= .int .i64 0) (by simp[results,Tryz.results16,go_sem,]) rfl ⟨by rw[hR.out];rfl,HB5⟩
theorem pCheck (p q g h b xu xk c y z:Int) (w:World) (hK:GK w) (hp:In p) (hq:In q) (hg:In g) (hh:In h) (hb:In b) (hu:In xu) (hk:In xk) (hc:In c) (hy:In y) (hz:In z):CC 16 #[GX p q g h,NV b,NV xu,NV xk,CX c y z] w (.int .i64 (ckE p q g h b xu xk c y z)):=by
 unfold ckE
 cases hm:mbL p q [g,h,b,xu,xk] with
 | false=>exact pck_n p q g h b xu xk c y z w fun u hB=>pForge_n p q g h b xu xk c y z u (hK.up hB) hp hq hg hh hb hu hk hc hy hz hm
 | true=>
  have hgk:=mbL_g hm
  refine pck_k p q g h b xu xk c y z _ _ _ _ _ w (fun u hB=>pForge p q g h b xu xk c y z u (hK.up hB) hp hq hg hh hb hu hk hc hy hz hm) (fun u v hB hv=>pBel q [c,y,z] v u hq hv.nl (by simp;exact⟨hc,hy,hz⟩) (by simp)) (fun u v hB hv=>pIsCh p q g h c [b,xu,xk,_,_] v u (hK.up hB) hp hq hc hgk (by simp) hv.nl) ?_
  show _=_
  rw[if_pos rfl,ckB]
  simp only[List.all_cons,List.all_nil,Bool.and_true,Bool.and_assoc]
theorem ppv_n (p q g h b s t x y:Int) (w:World) (hP:Hid (∀u,Bw w u->CC 27 #[GX p q g h,NV b,NV s,NV t] u (.tuple #[A4 0 0 0 0,A4 0 0 0 0,.int .i64 90]))):
 CC 9 #[GX p q g h,NV b,NV s,NV t,NV x,NV y] w (.tuple #[A4 0 0 0 0,.agg L0c.toArray,.int .i64 90]):=by
 go_enter Tryz.func9,Tryz.ntmps9
 go_upto_region 1 with fail
 generalize hC:((((((((w.alloc (.cells (GE (p) (q) (g) (h):List Value).toArray 26)).alloc (.cells (LN (b):List Value).toArray 24)).alloc (.cells (LN (s):List Value).toArray 24)).alloc (.cells (LN (t):List Value).toArray 24)).alloc (.cells (LN (x):List Value).toArray 24)).alloc (.cells (LN (y):List Value).toArray 24)).alloc (.cells (L0s:List Value).toArray 24)).alloc (.cells (L0c:List Value).toArray 30))=v0 at *
 have HB0:Bw w v0:=by rw[<-hC];exact Z1 (Z1 (Z1 (Z1 (Z1 (Z1 (Z1 (Z1 (Zh w) _) _) _) _) _) _) _) _
 have K0:Bk w.heap.size v0 [(true,w.heap.size,GE (p) (q) (g) (h)),(true,w.heap.size+1,LN (b)),(true,w.heap.size+1+1,LN (s)),(true,w.heap.size+1+1+1,LN (t)),(true,w.heap.size+1+1+1+1,LN (x)),(true,w.heap.size+1+1+1+1+1,LN (y)),(true,w.heap.size+1+1+1+1+1+1,L0s),(true,w.heap.size+1+1+1+1+1+1+1,L0c)]:=by rw[<-hC];exact(Bk.nil _ w).ad.ad.ad.ad.ad.ad.ad.ad
 clear hC
 refine rgP K0 HB0 HB0.size [] [(9,15,L0s,some (11,[.int .u64 (0),.int .u64 (0),.int .u64 (0),.int .u64 (0)])),(10,16,L0s,some (12,[.int .u64 (0),.int .u64 (0),.int .u64 (0),.int .u64 (0)]))] [(0,24,GX (p) (q) (g) (h)),(1,25,NV (b)),(2,26,NV (s)),(3,27,NV (t)),(4,28,.tuple #[A4 (0) (0) (0) (0),A4 (0) (0) (0) (0),.int .i64 90]),(5,23,.tuple #[A4 (0) (0) (0) (0),A4 (0) (0) (0) (0),.int .i64 90]),(6,29,A4 (0) (0) (0) (0)),(7,30,A4 (0) (0) (0) (0)),(8,31,.int .i64 90),(13,17,.int .i64 90)] [(11,9),(12,10)] [] [] ?_ ?_
 ·exact oc (g_ld 0 Tryz.underlying26 Z0)<|oc (g_ld 1 uN iN)<|oc (g_ld 2 uN iN)<|oc (g_ld 3 uN iN)<|oc (g_cb ent_Z6 (fun uZ bZ=>hP.out uZ bZ))<|oc g_mv<|oc g_ex<|oc g_ex<|oc g_ex<|oc (g_al 0 aN)<|oc (g_al 1 aN)<|oc (g_sn 0 iN)<|oc (g_sn 1 iN)<|oc g_as on
 intro u1 b1_9 b1_10 HB1 sz1 K1
 simp only[sQ] at K1⊢
 clear K0 HB0
 go_upto_region 2 with fail
 refine rgP K1 HB1 HB1.size [] [] [(0,32,.int .i64 90),(1,33,.bool true)] [] [] [] ?_ ?_
 ·exact oc g_mv<|oc (g_bn (fun uZ=>X6 _ _ _ 90 0 _ uZ rfl)) on
 intro u2 HB2 sz2 K2
 simp only[sQ] at K2⊢
 clear K1 HB1
 go_upto_region 3 with fail
 refine rgP K2 HB2 HB2.size [.no,.no,.no,.no,.no,.no,.all 3 ([.int .u64 (0),.int .u64 (0),.int .u64 (0),.int .u64 (0)]),.all 4 (L0c)] [] [(0,34,A4 (0) (0) (0) (0)),(1,35,.agg L0c.toArray),(2,36,.int .i64 90),(5,14,.int .i64 90)] [] [] [] ?_ ?_
 ·exact oc (g_bd zN)<|oc (g_bd (fun uZ=>zPf uZ))<|oc g_mv<|oc (g_st 6 iN)<|oc (g_st 7 Zd)<|oc g_as on
 intro u3 HB3 sz3 K3
 simp only[sQ] at K3⊢
 clear K2 HB2
 have c12:=(K3.cv 6).n4
 have c13_0:=((K3.cv 7) 0 _ rfl).1
 have c13_1:=((K3.cv 7) 1 _ rfl).1
 have c13_2:=((K3.cv 7) 2 _ rfl).1
 have c13_3:=((K3.cv 7) 3 _ rfl).1
 have c13_4:=((K3.cv 7) 4 _ rfl).1
 have c13_5:=((K3.cv 7) 5 _ rfl).1
 have c13_6:=((K3.cv 7) 6 _ rfl).1
 have c13_7:=((K3.cv 7) 7 _ rfl).1
 have c13_8:=((K3.cv 7) 8 _ rfl).1
 have c13_9:=((K3.cv 7) 9 _ rfl).1
 have c13_10:=((K3.cv 7) 10 _ rfl).1
 have c13_11:=((K3.cv 7) 11 _ rfl).1
 go_wp2
 refine bodyPost_ret (v:= .tuple #[A4 0 0 0 0,.agg L0c.toArray,.int .i64 90]) (by simp[results,Tryz.results9,go_sem,c12,c13_0,c13_1,c13_2,c13_3,c13_4,c13_5,c13_6,c13_7,c13_8,c13_9,c13_10,c13_11]) rfl ⟨rfl,HB3⟩
theorem ent_P2:EnT 28:=fun _ _=>by kernel_rfl
theorem ppv_k (p q g h b s t x y xu xk vv ww c c1 c2:Int) (w:World) (hP:Hid (∀u,Bw w u->CC 27 #[GX p q g h,NV b,NV s,NV t] u (.tuple #[NV xu,NV xk,.int .i64 0])))(hQ:Hid (∀u,Bw w u->CC 27 #[GX p q g h,NV b,NV x,NV y] u (.tuple #[NV vv,NV ww,.int .i64 0])))(hC:Hid (∀u v,Bw w u->PFr 0 [b,xu,xk,vv,ww] u v->CC 11 #[GX p q g h,v] u (.tuple #[NV c,.int .i64 0])))(hL:Hid (∀u,CC 28 #[NV q,NV x,NV c,NV s] u (NV c1)))(hM:Hid (∀u,CC 28 #[NV q,NV y,NV c,NV t] u (NV c2))):
 CC 9 #[GX p q g h,NV b,NV s,NV t,NV x,NV y] w (.tuple #[NV xu,CX c c1 c2,.int .i64 0]):=by
 go_enter Tryz.func9,Tryz.ntmps9
 go_upto_region 1 with fail
 generalize hC:((((((((w.alloc (.cells (GE (p) (q) (g) (h):List Value).toArray 26)).alloc (.cells (LN (b):List Value).toArray 24)).alloc (.cells (LN (s):List Value).toArray 24)).alloc (.cells (LN (t):List Value).toArray 24)).alloc (.cells (LN (x):List Value).toArray 24)).alloc (.cells (LN (y):List Value).toArray 24)).alloc (.cells (L0s:List Value).toArray 24)).alloc (.cells (L0c:List Value).toArray 30))=v0 at *
 have HB0:Bw w v0:=by rw[<-hC];exact Z1 (Z1 (Z1 (Z1 (Z1 (Z1 (Z1 (Z1 (Zh w) _) _) _) _) _) _) _) _
 have K0:Bk w.heap.size v0 [(true,w.heap.size,GE (p) (q) (g) (h)),(true,w.heap.size+1,LN (b)),(true,w.heap.size+1+1,LN (s)),(true,w.heap.size+1+1+1,LN (t)),(true,w.heap.size+1+1+1+1,LN (x)),(true,w.heap.size+1+1+1+1+1,LN (y)),(true,w.heap.size+1+1+1+1+1+1,L0s),(true,w.heap.size+1+1+1+1+1+1+1,L0c)]:=by rw[<-hC];exact(Bk.nil _ w).ad.ad.ad.ad.ad.ad.ad.ad
 clear hC
 refine rgP K0 HB0 HB0.size [] [(9,15,L0s,some (11,LN (xu))),(10,16,L0s,some (12,LN (xk)))] [(0,24,GX (p) (q) (g) (h)),(1,25,NV (b)),(2,26,NV (s)),(3,27,NV (t)),(4,28,.tuple #[NV (xu),NV (xk),.int .i64 0]),(5,23,.tuple #[NV (xu),NV (xk),.int .i64 0]),(6,29,NV (xu)),(7,30,NV (xk)),(8,31,.int .i64 0),(13,17,.int .i64 0)] [(11,9),(12,10)] [] [] ?_ ?_
 ·exact oc (g_ld 0 Tryz.underlying26 Z0)<|oc (g_ld 1 uN iN)<|oc (g_ld 2 uN iN)<|oc (g_ld 3 uN iN)<|oc (g_cb ent_Z6 (fun uZ bZ=>hP.out uZ bZ))<|oc g_mv<|oc g_ex<|oc g_ex<|oc g_ex<|oc (g_al 0 aN)<|oc (g_al 1 aN)<|oc (g_sn 0 iN)<|oc (g_sn 1 iN)<|oc g_as on
 intro u1 b1_9 b1_10 HB1 sz1 K1
 simp only[sQ] at K1⊢
 clear K0 HB0
 go_upto_region 2 with fail
 refine rgP K1 HB1 HB1.size [] [] [(0,32,.int .i64 0),(1,33,.bool false)] [] [] [] ?_ ?_
 ·exact oc g_mv<|oc (g_bn (fun uZ=>X6 _ _ _ 0 0 _ uZ rfl)) on
 intro u2 HB2 sz2 K2
 simp only[sQ] at K2⊢
 clear K1 HB1
 go_upto_region 4 with fail
 refine rgP K2 HB2 HB2.size [] [(9,18,L0s,some (11,LN (vv))),(10,19,L0s,some (12,LN (ww)))] [(0,38,GX (p) (q) (g) (h)),(1,39,NV (b)),(2,40,NV (x)),(3,41,NV (y)),(4,42,.tuple #[NV (vv),NV (ww),.int .i64 0]),(5,37,.tuple #[NV (vv),NV (ww),.int .i64 0]),(6,43,NV (vv)),(7,44,NV (ww)),(8,45,.int .i64 0),(13,20,.int .i64 0)] [(11,9),(12,10)] [] [] ?_ ?_
 ·exact oc (g_ld 0 Tryz.underlying26 Z0)<|oc (g_ld 1 uN iN)<|oc (g_ld 4 uN iN)<|oc (g_ld 5 uN iN)<|oc (g_cb ent_Z6 (fun uZ bZ=>hQ.out uZ bZ))<|oc g_mv<|oc g_ex<|oc g_ex<|oc g_ex<|oc (g_al 0 aN)<|oc (g_al 1 aN)<|oc (g_sn 0 iN)<|oc (g_sn 1 iN)<|oc g_as on
 intro u3 b3_9 b3_10 HB3 sz3 K3
 simp only[sQ] at K3⊢
 clear K2 HB2
 go_upto_region 5 with fail
 refine rgF K3 HB3 HB3.size [] [(11,21,L0s,some (12,LN (c)))] [(0,47,GX (p) (q) (g) (h)),(1,48,NV (b)),(2,49,NV (xu)),(3,50,NV (xk)),(4,51,NV (vv)),(5,52,NV (ww)),(7,54,.tuple #[NV (c),.int .i64 0]),(8,46,.tuple #[NV (c),.int .i64 0]),(9,55,NV (c)),(10,56,.int .i64 0),(13,22,.int .i64 0)] [(12,11)] [] [⟨6,53,some 7,PFr 0 [b,xu,xk,vv,ww]⟩] [] (.cons (fun _ _ _ h1 h2=>h2.stab h1)<|Stab.nil) ?_ ?_
 ·exact oc (g_ld 0 Tryz.underlying26 Z0)<|oc (g_ld 1 uN iN)<|oc (g_ld 8 uN iN)<|oc (g_ld 9 uN iN)<|oc (g_ld 10 uN iN)<|oc (g_ld 11 uN iN)<|oc (g_bR 0 (PFr 0 [b,xu,xk,vv,ww]) [0,1,2,3,4] [NV b,NV xu,NV xk,NV vv,NV ww] (flN [b,xu,xk,vv,ww]) (bsF5 b xu xk vv ww) (fun u hu=>PFr.new 0 [b,xu,xk,vv,ww] u 24 (Nat.zero_le _)))<|oc (g_c2 0 (PFr 0 [b,xu,xk,vv,ww]) ent_Z9 (fun uZ yv bZ hy=>hC.out uZ yv bZ hy))<|oc g_mv<|oc g_ex<|oc g_ex<|oc (g_al 0 aN)<|oc (g_sn 0 iN)<|oc g_as on
 intro u4 b4_11 v4_6 hv4_6 HB4 sz4 K4
 simp only[sQ] at K4⊢
 clear K3 HB3
 go_upto_region 6 with fail
 refine rgD K4 HB4 HB4.size [.no,.no,.no,.no,.no,.no,.all 15 (LN (xu)),.all 16 (CE (c) (c1) (c2))] [] [(0,57,NV (xu)),(1,58,NV (c)),(2,59,.pointer (some ⟨w.heap.size,4,none⟩)),(3,60,NV (q)),(4,61,NV (x)),(5,62,NV (c)),(6,63,NV (s)),(7,64,NV (c1)),(8,65,.pointer (some ⟨w.heap.size,4,none⟩)),(9,66,NV (q)),(10,67,NV (y)),(11,68,NV (c)),(12,69,NV (t)),(13,70,NV (c2)),(14,71,CX (c) (c1) (c2)),(17,14,(Go.Value.int Go.IntKind.i64 0))] [] [] [] ?_ ?_
 ·exact oc (g_ld 8 uN iN)<|oc (g_ld 12 uN iN)<|oc (g_fd (fun uZ=>fdG1 _ uZ))<|oc (g_lo 0 4 uN iN)<|oc (g_ld 4 uN iN)<|oc (g_ld 12 uN iN)<|oc (g_ld 2 uN iN)<|oc (g_cl ent_P2 (fun uZ=>hL.out uZ))<|oc (g_fd (fun uZ=>fdG1 _ uZ))<|oc (g_lo 0 4 uN iN)<|oc (g_ld 5 uN iN)<|oc (g_ld 12 uN iN)<|oc (g_ld 3 uN iN)<|oc (g_cl ent_P2 (fun uZ=>hM.out uZ))<|oc (g_bd (fun uZ=>bdPf c c1 c2 uZ))<|oc (g_st 6 iN)<|oc (g_st 7 Zd)<|oc g_as on
 intro u5 HB5 sz5 K5
 simp only[sQ] at K5⊢
 clear K4 HB4
 have c12:=(K5.cv 6).n4
 have c13_0:=((K5.cv 7) 0 _ rfl).1
 have c13_1:=((K5.cv 7) 1 _ rfl).1
 have c13_2:=((K5.cv 7) 2 _ rfl).1
 have c13_3:=((K5.cv 7) 3 _ rfl).1
 have c13_4:=((K5.cv 7) 4 _ rfl).1
 have c13_5:=((K5.cv 7) 5 _ rfl).1
 have c13_6:=((K5.cv 7) 6 _ rfl).1
 have c13_7:=((K5.cv 7) 7 _ rfl).1
 have c13_8:=((K5.cv 7) 8 _ rfl).1
 have c13_9:=((K5.cv 7) 9 _ rfl).1
 have c13_10:=((K5.cv 7) 10 _ rfl).1
 have c13_11:=((K5.cv 7) 11 _ rfl).1
 go_wp2
 refine bodyPost_ret (v:= .tuple #[NV xu,CX c c1 c2,.int .i64 0]) (by simp[results,Tryz.results9,go_sem,c12,c13_0,c13_1,c13_2,c13_3,c13_4,c13_5,c13_6,c13_7,c13_8,c13_9,c13_10,c13_11]) rfl ⟨rfl,HB5⟩
theorem pProve_n (p q g h b s t x y:Int) (w:World) (hK:GK w) (hp:In p) (hq:In q) (hg:In g) (hh:In h) (hb:In b) (hs:In s) (ht:In t) (hm:mbL p q [g,h,b]=false):CC 9 #[GX p q g h,NV b,NV s,NV t,NV x,NV y] w (.tuple #[A4 0 0 0 0,.agg L0c.toArray,.int .i64 90]):=
 ppv_n p q g h b s t x y w fun u hB=>pPair_n p q g h b s t u (hK.up hB) hp hq hg hh hb hs ht hm
theorem pProve (p q g h b s t x y:Int) (w:World) (hK:GK w) (hp:In p) (hq:In q) (hg:In g) (hh:In h) (hb:In b) (hs:In s) (ht:In t) (hx:In x) (hy:In y) (hm:mbL p q [g,h,b]=true):CC 9 #[GX p q g h,NV b,NV s,NV t,NV x,NV y] w (.tuple #[NV (pwZ p q b s),CX (pvC p q g h b s t x y) (pvY q x (pvC p q g h b s t x y) s) (pvY q y (pvC p q g h b s t x y) t),.int .i64 0]):=by
 have hgk:=mbL_g hm
 have h3:=hgk.q3
 have hcb:=chZ_bd hgk [g,h,b,pwZ p q b s,cmN p q g h s t,pwZ p q b x,cmN p q g h x y]
 refine ppv_k p q g h b s t x y _ _ _ _ (pvC p q g h b s t x y) _ _ w (fun u hB=>pPair p q g h b s t u (hK.up hB) hp hq hg hh hb hs ht hm) (fun u hB=>pPair p q g h b x y u (hK.up hB) hp hq hg hh hb hx hy hm) (fun u v hB hv=>?_) (fun u=>pLine q x _ s u hq (hgk.in2 hp) hx (by omega) hs hcb.1 hcb.2) (fun u=>pLine q y _ t u hq (hgk.in2 hp) hy (by omega) ht hcb.1 hcb.2)
 have:=pChal p q g h [b,pwZ p q b s,cmN p q g h s t,pwZ p q b x,cmN p q g h x y] v u (hK.up hB) hp hq (by simp) hv.nl
 rwa [show chE p q=0 from if_pos hgk] at this
theorem ent_Y1:EnT 29:=fun _ _=>by kernel_rfl
theorem ent_Y2:EnT 12:=fun _ _=>by kernel_rfl
theorem ent_Y3:EnT 15:=fun _ _=>by kernel_rfl
theorem ent_Y4:EnT 30:=fun _ _=>by kernel_rfl
theorem ent_Y5:EnT 31:=fun _ _=>by kernel_rfl
theorem ent_Y6:EnT 32:=fun _ _=>by kernel_rfl
theorem ent_Y7:EnT 25:=fun _ _=>by kernel_rfl
theorem ent_Y8:EnT 38:=fun _ _=>by kernel_rfl
theorem Ui:EnT 22:=fun _ _=>by kernel_rfl
theorem bdP1z (c:Int) (w:World):(Instr.build 30 [(0,NV c)].toArray).run Tryz.prog w= .ok (CX c 0 0) w:=by kernel_rfl
theorem xpv_n (p q g h b s t x y:Int) (w:World) (hM:Hid (∀u v,Bw w u->PFr 0 [b] u v->CC 29 #[GX p q g h,v] u (.bool false))):
 CC 10 #[GX p q g h,NV b,NV s,NV t,NV x,NV y] w (.tuple #[A4 0 0 0 0,.agg L0c.toArray,.int .i64 90]):=by
 go_enter Tryz.func10,Tryz.ntmps10
 go_upto_region 1 with fail
 generalize hC:((((((((w.alloc (.cells (GE (p) (q) (g) (h):List Value).toArray 26)).alloc (.cells (LN (b):List Value).toArray 24)).alloc (.cells (LN (s):List Value).toArray 24)).alloc (.cells (LN (t):List Value).toArray 24)).alloc (.cells (LN (x):List Value).toArray 24)).alloc (.cells (LN (y):List Value).toArray 24)).alloc (.cells (L0s:List Value).toArray 24)).alloc (.cells (L0c:List Value).toArray 30))=v0 at *
 have HB0:Bw w v0:=by rw[<-hC];exact Z1 (Z1 (Z1 (Z1 (Z1 (Z1 (Z1 (Z1 (Zh w) _) _) _) _) _) _) _) _
 have K0:Bk w.heap.size v0 [(true,w.heap.size,GE (p) (q) (g) (h)),(true,w.heap.size+1,LN (b)),(true,w.heap.size+1+1,LN (s)),(true,w.heap.size+1+1+1,LN (t)),(true,w.heap.size+1+1+1+1,LN (x)),(true,w.heap.size+1+1+1+1+1,LN (y)),(true,w.heap.size+1+1+1+1+1+1,L0s),(true,w.heap.size+1+1+1+1+1+1+1,L0c)]:=by rw[<-hC];exact(Bk.nil _ w).ad.ad.ad.ad.ad.ad.ad.ad
 clear hC
 refine rgF K0 HB0 HB0.size [] [] [(0,26,GX (p) (q) (g) (h)),(1,27,NV (b)),(3,29,.bool false),(4,30,.bool true)] [] [] [⟨2,28,some 3,PFr 0 [b]⟩] [] (.cons (fun _ _ _ h1 h2=>h2.stab h1)<|Stab.nil) ?_ ?_
 ·exact oc (g_ld 0 Tryz.underlying26 Z0)<|oc (g_ld 1 uN iN)<|oc (g_bR 0 (PFr 0 [b]) [0] [NV b] (flN [b]) (bsF1 b) (fun u hu=>PFr.new 0 [b] u 24 (Nat.zero_le _)))<|oc (g_c2 0 (PFr 0 [b]) ent_Y1 (fun uZ yv bZ hy=>hM.out uZ yv bZ hy))<|oc (g_un (fun uZ=>not_f uZ)) on
 intro u1 v1_2 hv1_2 HB1 sz1 K1
 simp only[sQ] at K1⊢
 clear K0 HB0
 go_upto_region 2 with fail
 refine rgP K1 HB1 HB1.size [.no,.no,.no,.no,.no,.no,.all 2 ([.int .u64 (0),.int .u64 (0),.int .u64 (0),.int .u64 (0)]),.all 3 (L0c)] [] [(0,31,A4 (0) (0) (0) (0)),(1,32,.agg L0c.toArray),(4,14,(Go.Value.int Go.IntKind.i64 90))] [] [] [] ?_ ?_
 ·exact oc (g_bd zN)<|oc (g_bd (fun uZ=>zPf uZ))<|oc (g_st 6 iN)<|oc (g_st 7 Zd)<|oc g_as on
 intro u2 HB2 sz2 K2
 simp only[sQ] at K2⊢
 clear K1 HB1
 have c12:=(K2.cv 6).n4
 have c13_0:=((K2.cv 7) 0 _ rfl).1
 have c13_1:=((K2.cv 7) 1 _ rfl).1
 have c13_2:=((K2.cv 7) 2 _ rfl).1
 have c13_3:=((K2.cv 7) 3 _ rfl).1
 have c13_4:=((K2.cv 7) 4 _ rfl).1
 have c13_5:=((K2.cv 7) 5 _ rfl).1
 have c13_6:=((K2.cv 7) 6 _ rfl).1
 have c13_7:=((K2.cv 7) 7 _ rfl).1
 have c13_8:=((K2.cv 7) 8 _ rfl).1
 have c13_9:=((K2.cv 7) 9 _ rfl).1
 have c13_10:=((K2.cv 7) 10 _ rfl).1
 have c13_11:=((K2.cv 7) 11 _ rfl).1
 go_wp2
 refine bodyPost_ret (v:= .tuple #[A4 0 0 0 0,.agg L0c.toArray,.int .i64 90]) (by simp[results,Tryz.results10,go_sem,c12,c13_0,c13_1,c13_2,c13_3,c13_4,c13_5,c13_6,c13_7,c13_8,c13_9,c13_10,c13_11]) rfl ⟨rfl,HB2⟩
theorem xpv_k (p q g h b s t x y xu xk vv ww c' er cs ct y1 z1:Int) (w:World) (hM:Hid (∀u v,Bw w u->PFr 0 [b] u v->CC 29 #[GX p q g h,v] u (.bool true)))(hC:Hid (∀u v,Bw w u->PFr 0 [b,xu,xk,vv,ww] u v->CC 12 #[GX p q g h,v] u (.tuple #[NV c',.int .i64 er])))(h1:Hid (∀u,CC 30 #[GX p q g h,NV b,NV s] u (NV xu)))(h2:Hid (∀u,CC 31 #[GX p q g h,NV s,NV t] u (NV xk)))(h3:Hid (∀u,CC 30 #[GX p q g h,NV b,NV x] u (NV vv)))(h4:Hid (∀u,CC 31 #[GX p q g h,NV x,NV y] u (NV ww)))(h5:Hid (∀u,CC 32 #[NV c',NV s,NV q] u (.tuple #[NV cs,.int .i64 0])))(h6:Hid (∀u,CC 32 #[NV c',NV t,NV q] u (.tuple #[NV ct,.int .i64 0])))(h7:Hid (∀u,CC 25 #[NV x,NV cs,NV q] u (.tuple #[NV y1,.int .i64 0])))(h8:Hid (∀u,CC 25 #[NV y,NV ct,NV q] u (.tuple #[NV z1,.int .i64 0]))):
 CC 10 #[GX p q g h,NV b,NV s,NV t,NV x,NV y] w (.tuple #[NV xu,CX c' y1 z1,.int .i64 0]):=by
 go_enter Tryz.func10,Tryz.ntmps10
 go_upto_region 1 with fail
 generalize hC:((((((((w.alloc (.cells (GE (p) (q) (g) (h):List Value).toArray 26)).alloc (.cells (LN (b):List Value).toArray 24)).alloc (.cells (LN (s):List Value).toArray 24)).alloc (.cells (LN (t):List Value).toArray 24)).alloc (.cells (LN (x):List Value).toArray 24)).alloc (.cells (LN (y):List Value).toArray 24)).alloc (.cells (L0s:List Value).toArray 24)).alloc (.cells (L0c:List Value).toArray 30))=v0 at *
 have HB0:Bw w v0:=by rw[<-hC];exact Z1 (Z1 (Z1 (Z1 (Z1 (Z1 (Z1 (Z1 (Zh w) _) _) _) _) _) _) _) _
 have K0:Bk w.heap.size v0 [(true,w.heap.size,GE (p) (q) (g) (h)),(true,w.heap.size+1,LN (b)),(true,w.heap.size+1+1,LN (s)),(true,w.heap.size+1+1+1,LN (t)),(true,w.heap.size+1+1+1+1,LN (x)),(true,w.heap.size+1+1+1+1+1,LN (y)),(true,w.heap.size+1+1+1+1+1+1,L0s),(true,w.heap.size+1+1+1+1+1+1+1,L0c)]:=by rw[<-hC];exact(Bk.nil _ w).ad.ad.ad.ad.ad.ad.ad.ad
 clear hC
 refine rgF K0 HB0 HB0.size [] [] [(0,26,GX (p) (q) (g) (h)),(1,27,NV (b)),(3,29,.bool true),(4,30,.bool false)] [] [] [⟨2,28,some 3,PFr 0 [b]⟩] [] (.cons (fun _ _ _ h1 h2=>h2.stab h1)<|Stab.nil) ?_ ?_
 ·exact oc (g_ld 0 Tryz.underlying26 Z0)<|oc (g_ld 1 uN iN)<|oc (g_bR 0 (PFr 0 [b]) [0] [NV b] (flN [b]) (bsF1 b) (fun u hu=>PFr.new 0 [b] u 24 (Nat.zero_le _)))<|oc (g_c2 0 (PFr 0 [b]) ent_Y1 (fun uZ yv bZ hy=>hM.out uZ yv bZ hy))<|oc (g_un (fun uZ=>not_t uZ)) on
 intro u1 v1_2 hv1_2 HB1 sz1 K1
 simp only[sQ] at K1⊢
 clear K0 HB0
 go_upto_region 3 with fail
 refine rgD K1 HB1 HB1.size [] [(8,15,L0s,some (10,LN (xu))),(9,16,L0s,some (11,LN (xk)))] [(0,33,GX (p) (q) (g) (h)),(1,34,NV (b)),(2,35,NV (s)),(3,36,NV (xu)),(4,37,GX (p) (q) (g) (h)),(5,38,NV (s)),(6,39,NV (t)),(7,40,NV (xk))] [(10,8),(11,9)] [] [] ?_ ?_
 ·exact oc (g_ld 0 Tryz.underlying26 Z0)<|oc (g_ld 1 uN iN)<|oc (g_ld 2 uN iN)<|oc (g_cl ent_Y4 (fun uZ=>h1.out uZ))<|oc (g_ld 0 Tryz.underlying26 Z0)<|oc (g_ld 2 uN iN)<|oc (g_ld 3 uN iN)<|oc (g_cl ent_Y5 (fun uZ=>h2.out uZ))<|oc (g_al 0 aN)<|oc (g_al 1 aN)<|oc (g_sn 0 iN)<|oc (g_sn 1 iN) on
 intro u2 b2_8 b2_9 HB2 sz2 K2
 simp only[sQ] at K2⊢
 clear K1 HB1
 go_upto_region 4 with fail
 refine rgD K2 HB2 HB2.size [] [(8,17,L0s,some (10,LN (vv))),(9,18,L0s,some (11,LN (ww)))] [(0,41,GX (p) (q) (g) (h)),(1,42,NV (b)),(2,43,NV (x)),(3,44,NV (vv)),(4,45,GX (p) (q) (g) (h)),(5,46,NV (x)),(6,47,NV (y)),(7,48,NV (ww))] [(10,8),(11,9)] [] [] ?_ ?_
 ·exact oc (g_ld 0 Tryz.underlying26 Z0)<|oc (g_ld 1 uN iN)<|oc (g_ld 4 uN iN)<|oc (g_cl ent_Y4 (fun uZ=>h3.out uZ))<|oc (g_ld 0 Tryz.underlying26 Z0)<|oc (g_ld 4 uN iN)<|oc (g_ld 5 uN iN)<|oc (g_cl ent_Y5 (fun uZ=>h4.out uZ))<|oc (g_al 0 aN)<|oc (g_al 1 aN)<|oc (g_sn 0 iN)<|oc (g_sn 1 iN) on
 intro u3 b3_8 b3_9 HB3 sz3 K3
 simp only[sQ] at K3⊢
 clear K2 HB2
 go_upto_region 5 with fail
 refine rgF K3 HB3 HB3.size [] [(11,19,L0s,some (12,LN (c')))] [(0,50,GX (p) (q) (g) (h)),(1,51,NV (b)),(2,52,NV (xu)),(3,53,NV (xk)),(4,54,NV (vv)),(5,55,NV (ww)),(7,57,.tuple #[NV (c'),.int .i64 er]),(8,49,.tuple #[NV (c'),.int .i64 er]),(9,58,NV (c')),(10,59,.int .i64 er),(13,20,.int .i64 er)] [(12,11)] [] [⟨6,56,some 7,PFr 0 [b,xu,xk,vv,ww]⟩] [] (.cons (fun _ _ _ h1 h2=>h2.stab h1)<|Stab.nil) ?_ ?_
 ·exact oc (g_ld 0 Tryz.underlying26 Z0)<|oc (g_ld 1 uN iN)<|oc (g_ld 8 uN iN)<|oc (g_ld 9 uN iN)<|oc (g_ld 10 uN iN)<|oc (g_ld 11 uN iN)<|oc (g_bR 0 (PFr 0 [b,xu,xk,vv,ww]) [0,1,2,3,4] [NV b,NV xu,NV xk,NV vv,NV ww] (flN [b,xu,xk,vv,ww]) (bsF5 b xu xk vv ww) (fun u hu=>PFr.new 0 [b,xu,xk,vv,ww] u 24 (Nat.zero_le _)))<|oc (g_c2 0 (PFr 0 [b,xu,xk,vv,ww]) ent_Y2 (fun uZ yv bZ hy=>hC.out uZ yv bZ hy))<|oc g_mv<|oc g_ex<|oc g_ex<|oc (g_al 0 aN)<|oc (g_sn 0 iN)<|oc g_as on
 intro u4 b4_11 v4_6 hv4_6 HB4 sz4 K4
 simp only[sQ] at K4⊢
 clear K3 HB3
 go_upto_region 6 with fail
 refine rgP K4 HB4 HB4.size [] [(8,21,L0s,some (9,LN (cs)))] [(0,61,NV (c')),(1,62,NV (s)),(2,63,.pointer (some ⟨w.heap.size,4,none⟩)),(3,64,NV (q)),(4,65,.tuple #[NV (cs),.int .i64 0]),(5,60,.tuple #[NV (cs),.int .i64 0]),(6,66,NV (cs)),(7,67,.int .i64 0),(10,22,.int .i64 0)] [(9,8)] [] [] ?_ ?_
 ·exact oc (g_ld 12 uN iN)<|oc (g_ld 2 uN iN)<|oc (g_fd (fun uZ=>fdG1 _ uZ))<|oc (g_lo 0 4 uN iN)<|oc (g_cl ent_Y6 (fun uZ=>h5.out uZ))<|oc g_mv<|oc g_ex<|oc g_ex<|oc (g_al 0 aN)<|oc (g_sn 0 iN)<|oc g_as on
 intro u5 b5_8 HB5 sz5 K5
 simp only[sQ] at K5⊢
 clear K4 HB4
 go_upto_region 7 with fail
 refine rgP K5 HB5 HB5.size [] [(8,23,L0s,some (9,LN (ct)))] [(0,69,NV (c')),(1,70,NV (t)),(2,71,.pointer (some ⟨w.heap.size,4,none⟩)),(3,72,NV (q)),(4,73,.tuple #[NV (ct),.int .i64 0]),(5,68,.tuple #[NV (ct),.int .i64 0]),(6,74,NV (ct)),(7,75,.int .i64 0),(10,24,.int .i64 0)] [(9,8)] [] [] ?_ ?_
 ·exact oc (g_ld 12 uN iN)<|oc (g_ld 3 uN iN)<|oc (g_fd (fun uZ=>fdG1 _ uZ))<|oc (g_lo 0 4 uN iN)<|oc (g_cl ent_Y6 (fun uZ=>h6.out uZ))<|oc g_mv<|oc g_ex<|oc g_ex<|oc (g_al 0 aN)<|oc (g_sn 0 iN)<|oc g_as on
 intro u6 b6_8 HB6 sz6 K6
 simp only[sQ] at K6⊢
 clear K5 HB5
 go_upto_region 8 with fail
 refine rgP K6 HB6 HB6.size [] [(2,25,L0c,some (3,CE (c') (0) (0)))] [(0,76,NV (c')),(1,77,CX (c') (0) (0))] [(3,2)] [] [] ?_ ?_
 ·exact oc (g_ld 12 uN iN)<|oc (g_bd (fun uZ=>bdP1z c' uZ))<|oc (g_al 0 W1)<|oc (g_sn 0 Zd) on
 intro u7 b7_2 HB7 sz7 K7
 simp only[sQ] at K7⊢
 clear K6 HB6
 go_upto_region 9 with fail
 refine rgP K7 HB7 HB7.size [.no,.no,.no,.no,.no,.no,.no,.no,.no,.no,.no,.no,.no,.no,.no,.all 9 (CE (c') (y1) (0))] [] [(0,79,NV (x)),(1,80,NV (cs)),(2,81,.pointer (some ⟨w.heap.size,4,none⟩)),(3,82,NV (q)),(4,83,.tuple #[NV (y1),.int .i64 0]),(5,78,.tuple #[NV (y1),.int .i64 0]),(6,84,NV (y1)),(7,85,.int .i64 0),(8,86,.pointer (some ⟨b7_2,4,none⟩))] [] [] [] ?_ ?_
 ·exact oc (g_ld 4 uN iN)<|oc (g_ld 13 uN iN)<|oc (g_fd (fun uZ=>fdG1 _ uZ))<|oc (g_lo 0 4 uN iN)<|oc (g_cl ent_Y7 (fun uZ=>h7.out uZ))<|oc g_mv<|oc g_ex<|oc g_ex<|oc (g_fd (fun uZ=>fdP1 _ uZ))<|oc (g_sm 15 4 (LN c') (LN 0) (LN 0) (post:=LN y1) iN) on
 intro u8 HB8 sz8 K8
 simp only[sQ] at K8⊢
 clear K7 HB7
 go_upto_region 10 with fail
 refine rgP K8 HB8 HB8.size [.no,.no,.no,.no,.no,.no,.no,.no,.no,.no,.no,.no,.no,.no,.no,.all 9 (CE (c') (y1) (z1))] [] [(0,88,NV (y)),(1,89,NV (ct)),(2,90,.pointer (some ⟨w.heap.size,4,none⟩)),(3,91,NV (q)),(4,92,.tuple #[NV (z1),.int .i64 0]),(5,87,.tuple #[NV (z1),.int .i64 0]),(6,93,NV (z1)),(7,94,.int .i64 0),(8,95,.pointer (some ⟨b7_2,8,none⟩))] [] [] [] ?_ ?_
 ·exact oc (g_ld 5 uN iN)<|oc (g_ld 14 uN iN)<|oc (g_fd (fun uZ=>fdG1 _ uZ))<|oc (g_lo 0 4 uN iN)<|oc (g_cl ent_Y7 (fun uZ=>h8.out uZ))<|oc g_mv<|oc g_ex<|oc g_ex<|oc (g_fd (fun uZ=>fdP2 _ uZ))<|oc (g_sm 15 8 (LN c'++LN y1) (LN 0) ([]) (post:=LN z1) iN) on
 intro u9 HB9 sz9 K9
 simp only[sQ] at K9⊢
 clear K8 HB8
 go_upto_region 11 with fail
 refine rgD K9 HB9 HB9.size [.no,.no,.no,.no,.no,.no,.all 2 (LN (xu)),.all 3 (CE (c') (y1) (z1))] [] [(0,96,NV (xu)),(1,97,CX (c') (y1) (z1)),(4,14,(Go.Value.int Go.IntKind.i64 0))] [] [] [] ?_ ?_
 ·exact oc (g_ld 8 uN iN)<|oc (g_ld 15 Tryz.underlying30 Zd)<|oc (g_st 6 iN)<|oc (g_st 7 Zd)<|oc g_as on
 intro u10 HB10 sz10 K10
 simp only[sQ] at K10⊢
 clear K9 HB9
 have c12:=(K10.cv 6).n4
 have c13_0:=((K10.cv 7) 0 _ rfl).1
 have c13_1:=((K10.cv 7) 1 _ rfl).1
 have c13_2:=((K10.cv 7) 2 _ rfl).1
 have c13_3:=((K10.cv 7) 3 _ rfl).1
 have c13_4:=((K10.cv 7) 4 _ rfl).1
 have c13_5:=((K10.cv 7) 5 _ rfl).1
 have c13_6:=((K10.cv 7) 6 _ rfl).1
 have c13_7:=((K10.cv 7) 7 _ rfl).1
 have c13_8:=((K10.cv 7) 8 _ rfl).1
 have c13_9:=((K10.cv 7) 9 _ rfl).1
 have c13_10:=((K10.cv 7) 10 _ rfl).1
 have c13_11:=((K10.cv 7) 11 _ rfl).1
 go_wp2
 refine bodyPost_ret (v:= .tuple #[NV xu,CX c' y1 z1,.int .i64 0]) (by simp[results,Tryz.results10,go_sem,c12,c13_0,c13_1,c13_2,c13_3,c13_4,c13_5,c13_6,c13_7,c13_8,c13_9,c13_10,c13_11]) rfl ⟨rfl,HB10⟩
theorem xfg_n (p q g h b xu xk c y z:Int) (w:World) (hM:Hid (∀u v,Bw w u->PFr 0 [b,xu,xk] u v->CC 29 #[GX p q g h,v] u (.bool false))):
 CC 15 #[GX p q g h,NV b,NV xu,NV xk,NV c,NV y,NV z] w (.tuple #[A4 0 0 0 0,A4 0 0 0 0,.int .i64 90]):=by
 go_enter Tryz.func15,Tryz.ntmps15
 go_upto_region 1 with fail
 generalize hC:(((((((((w.alloc (.cells (GE (p) (q) (g) (h):List Value).toArray 26)).alloc (.cells (LN (b):List Value).toArray 24)).alloc (.cells (LN (xu):List Value).toArray 24)).alloc (.cells (LN (xk):List Value).toArray 24)).alloc (.cells (LN (c):List Value).toArray 24)).alloc (.cells (LN (y):List Value).toArray 24)).alloc (.cells (LN (z):List Value).toArray 24)).alloc (.cells (L0s:List Value).toArray 24)).alloc (.cells (L0s:List Value).toArray 24))=v0 at *
 have HB0:Bw w v0:=by rw[<-hC];exact Z1 (Z1 (Z1 (Z1 (Z1 (Z1 (Z1 (Z1 (Z1 (Zh w) _) _) _) _) _) _) _) _) _
 have K0:Bk w.heap.size v0 [(true,w.heap.size,GE (p) (q) (g) (h)),(true,w.heap.size+1,LN (b)),(true,w.heap.size+1+1,LN (xu)),(true,w.heap.size+1+1+1,LN (xk)),(true,w.heap.size+1+1+1+1,LN (c)),(true,w.heap.size+1+1+1+1+1,LN (y)),(true,w.heap.size+1+1+1+1+1+1,LN (z)),(true,w.heap.size+1+1+1+1+1+1+1,L0s),(true,w.heap.size+1+1+1+1+1+1+1+1,L0s)]:=by rw[<-hC];exact(Bk.nil _ w).ad.ad.ad.ad.ad.ad.ad.ad.ad
 clear hC
 refine rgF K0 HB0 HB0.size [] [] [(0,23,GX (p) (q) (g) (h)),(1,24,NV (b)),(2,25,NV (xu)),(3,26,NV (xk)),(5,28,.bool false),(6,29,.bool true)] [] [] [⟨4,27,some 5,PFr 0 [b,xu,xk]⟩] [] (.cons (fun _ _ _ h1 h2=>h2.stab h1)<|Stab.nil) ?_ ?_
 ·exact oc (g_ld 0 Tryz.underlying26 Z0)<|oc (g_ld 1 uN iN)<|oc (g_ld 2 uN iN)<|oc (g_ld 3 uN iN)<|oc (g_bR 0 (PFr 0 [b,xu,xk]) [0,1,2] [NV b,NV xu,NV xk] (flN [b,xu,xk]) (bsF3 b xu xk) (fun u hu=>PFr.new 0 [b,xu,xk] u 24 (Nat.zero_le _)))<|oc (g_c2 0 (PFr 0 [b,xu,xk]) ent_Y1 (fun uZ yv bZ hy=>hM.out uZ yv bZ hy))<|oc (g_un (fun uZ=>not_f uZ)) on
 intro u1 v1_4 hv1_4 HB1 sz1 K1
 simp only[sQ] at K1⊢
 clear K0 HB0
 go_upto_region 2 with fail
 refine rgP K1 HB1 HB1.size [.no,.no,.no,.no,.no,.no,.no,.all 2 ([.int .u64 (0),.int .u64 (0),.int .u64 (0),.int .u64 (0)]),.all 3 ([.int .u64 (0),.int .u64 (0),.int .u64 (0),.int .u64 (0)])] [] [(0,30,A4 (0) (0) (0) (0)),(1,31,A4 (0) (0) (0) (0)),(4,16,(Go.Value.int Go.IntKind.i64 90))] [] [] [] ?_ ?_
 ·exact oc (g_bd zN)<|oc (g_bd zN)<|oc (g_st 7 iN)<|oc (g_st 8 iN)<|oc g_as on
 intro u2 HB2 sz2 K2
 simp only[sQ] at K2⊢
 clear K1 HB1
 have c14:=(K2.cv 7).n4
 have c15:=(K2.cv 8).n4
 go_wp2
 refine bodyPost_ret (v:= .tuple #[A4 0 0 0 0,A4 0 0 0 0,.int .i64 90]) (by simp[results,Tryz.results15,go_sem,c14,c15]) rfl ⟨rfl,HB2⟩
theorem xfg_k (p q g h b xu xk c y z m fv gv fw gw vv ww:Int) (w:World) (hM:Hid (∀u v,Bw w u->PFr 0 [b,xu,xk] u v->CC 29 #[GX p q g h,v] u (.bool true)))(h1:Hid (∀u,CC 38 #[A4 0 0 0 0,NV c,NV q] u (.tuple #[NV m,.int .i64 0])))(h2:Hid (∀u,CC 30 #[GX p q g h,NV b,NV y] u (NV fv)))(h3:Hid (∀u,CC 30 #[GX p q g h,NV xu,NV m] u (NV gv)))(h4:Hid (∀u,CC 32 #[NV fv,NV gv,NV p] u (.tuple #[NV vv,.int .i64 0])))(h5:Hid (∀u,CC 31 #[GX p q g h,NV y,NV z] u (NV fw)))(h6:Hid (∀u,CC 30 #[GX p q g h,NV xk,NV m] u (NV gw)))(h7:Hid (∀u,CC 32 #[NV fw,NV gw,NV p] u (.tuple #[NV ww,.int .i64 0]))):
 CC 15 #[GX p q g h,NV b,NV xu,NV xk,NV c,NV y,NV z] w (.tuple #[NV vv,NV ww,.int .i64 0]):=by
 go_enter Tryz.func15,Tryz.ntmps15
 go_upto_region 1 with fail
 generalize hC:(((((((((w.alloc (.cells (GE (p) (q) (g) (h):List Value).toArray 26)).alloc (.cells (LN (b):List Value).toArray 24)).alloc (.cells (LN (xu):List Value).toArray 24)).alloc (.cells (LN (xk):List Value).toArray 24)).alloc (.cells (LN (c):List Value).toArray 24)).alloc (.cells (LN (y):List Value).toArray 24)).alloc (.cells (LN (z):List Value).toArray 24)).alloc (.cells (L0s:List Value).toArray 24)).alloc (.cells (L0s:List Value).toArray 24))=v0 at *
 have HB0:Bw w v0:=by rw[<-hC];exact Z1 (Z1 (Z1 (Z1 (Z1 (Z1 (Z1 (Z1 (Z1 (Zh w) _) _) _) _) _) _) _) _) _
 have K0:Bk w.heap.size v0 [(true,w.heap.size,GE (p) (q) (g) (h)),(true,w.heap.size+1,LN (b)),(true,w.heap.size+1+1,LN (xu)),(true,w.heap.size+1+1+1,LN (xk)),(true,w.heap.size+1+1+1+1,LN (c)),(true,w.heap.size+1+1+1+1+1,LN (y)),(true,w.heap.size+1+1+1+1+1+1,LN (z)),(true,w.heap.size+1+1+1+1+1+1+1,L0s),(true,w.heap.size+1+1+1+1+1+1+1+1,L0s)]:=by rw[<-hC];exact(Bk.nil _ w).ad.ad.ad.ad.ad.ad.ad.ad.ad
 clear hC
 refine rgF K0 HB0 HB0.size [] [] [(0,23,GX (p) (q) (g) (h)),(1,24,NV (b)),(2,25,NV (xu)),(3,26,NV (xk)),(5,28,.bool true),(6,29,.bool false)] [] [] [⟨4,27,some 5,PFr 0 [b,xu,xk]⟩] [] (.cons (fun _ _ _ h1 h2=>h2.stab h1)<|Stab.nil) ?_ ?_
 ·exact oc (g_ld 0 Tryz.underlying26 Z0)<|oc (g_ld 1 uN iN)<|oc (g_ld 2 uN iN)<|oc (g_ld 3 uN iN)<|oc (g_bR 0 (PFr 0 [b,xu,xk]) [0,1,2] [NV b,NV xu,NV xk] (flN [b,xu,xk]) (bsF3 b xu xk) (fun u hu=>PFr.new 0 [b,xu,xk] u 24 (Nat.zero_le _)))<|oc (g_c2 0 (PFr 0 [b,xu,xk]) ent_Y1 (fun uZ yv bZ hy=>hM.out uZ yv bZ hy))<|oc (g_un (fun uZ=>not_t uZ)) on
 intro u1 v1_4 hv1_4 HB1 sz1 K1
 simp only[sQ] at K1⊢
 clear K0 HB0
 go_upto_region 3 with fail
 refine rgP K1 HB1 HB1.size [] [(8,17,L0s,some (9,LN (m)))] [(0,33,A4 (0) (0) (0) (0)),(1,34,NV (c)),(2,35,.pointer (some ⟨w.heap.size,4,none⟩)),(3,36,NV (q)),(4,37,.tuple #[NV (m),.int .i64 0]),(5,32,.tuple #[NV (m),.int .i64 0]),(6,38,NV (m)),(7,39,.int .i64 0),(10,18,.int .i64 0)] [(9,8)] [] [] ?_ ?_
 ·exact oc (g_bd zN)<|oc (g_ld 4 uN iN)<|oc (g_fd (fun uZ=>fdG1 _ uZ))<|oc (g_lo 0 4 uN iN)<|oc (g_cl ent_Y8 (fun uZ=>h1.out uZ))<|oc g_mv<|oc g_ex<|oc g_ex<|oc (g_al 0 aN)<|oc (g_sn 0 iN)<|oc g_as on
 intro u2 b2_8 HB2 sz2 K2
 simp only[sQ] at K2⊢
 clear K1 HB1
 go_upto_region 4 with fail
 refine rgD K2 HB2 HB2.size [] [(14,19,L0s,some (15,LN (vv)))] [(0,41,GX (p) (q) (g) (h)),(1,42,NV (b)),(2,43,NV (y)),(3,44,NV (fv)),(4,45,GX (p) (q) (g) (h)),(5,46,NV (xu)),(6,47,NV (m)),(7,48,NV (gv)),(8,49,.pointer (some ⟨w.heap.size,0,none⟩)),(9,50,NV (p)),(10,51,.tuple #[NV (vv),.int .i64 0]),(11,40,.tuple #[NV (vv),.int .i64 0]),(12,52,NV (vv)),(13,53,.int .i64 0),(16,20,.int .i64 0)] [(15,14)] [] [] ?_ ?_
 ·exact oc (g_ld 0 Tryz.underlying26 Z0)<|oc (g_ld 1 uN iN)<|oc (g_ld 5 uN iN)<|oc (g_cl ent_Y4 (fun uZ=>h2.out uZ))<|oc (g_ld 0 Tryz.underlying26 Z0)<|oc (g_ld 2 uN iN)<|oc (g_ld 9 uN iN)<|oc (g_cl ent_Y4 (fun uZ=>h3.out uZ))<|oc (g_fd (fun uZ=>fdG0 _ uZ))<|oc (g_lo 0 0 uN iN)<|oc (g_cl ent_Y6 (fun uZ=>h4.out uZ))<|oc g_mv<|oc g_ex<|oc g_ex<|oc (g_al 0 aN)<|oc (g_sn 0 iN)<|oc g_as on
 intro u3 b3_14 HB3 sz3 K3
 simp only[sQ] at K3⊢
 clear K2 HB2
 go_upto_region 5 with fail
 refine rgD K3 HB3 HB3.size [] [(14,21,L0s,some (15,LN (ww)))] [(0,55,GX (p) (q) (g) (h)),(1,56,NV (y)),(2,57,NV (z)),(3,58,NV (fw)),(4,59,GX (p) (q) (g) (h)),(5,60,NV (xk)),(6,61,NV (m)),(7,62,NV (gw)),(8,63,.pointer (some ⟨w.heap.size,0,none⟩)),(9,64,NV (p)),(10,65,.tuple #[NV (ww),.int .i64 0]),(11,54,.tuple #[NV (ww),.int .i64 0]),(12,66,NV (ww)),(13,67,.int .i64 0),(16,22,.int .i64 0)] [(15,14)] [] [] ?_ ?_
 ·exact oc (g_ld 0 Tryz.underlying26 Z0)<|oc (g_ld 5 uN iN)<|oc (g_ld 6 uN iN)<|oc (g_cl ent_Y5 (fun uZ=>h5.out uZ))<|oc (g_ld 0 Tryz.underlying26 Z0)<|oc (g_ld 3 uN iN)<|oc (g_ld 9 uN iN)<|oc (g_cl ent_Y4 (fun uZ=>h6.out uZ))<|oc (g_fd (fun uZ=>fdG0 _ uZ))<|oc (g_lo 0 0 uN iN)<|oc (g_cl ent_Y6 (fun uZ=>h7.out uZ))<|oc g_mv<|oc g_ex<|oc g_ex<|oc (g_al 0 aN)<|oc (g_sn 0 iN)<|oc g_as on
 intro u4 b4_14 HB4 sz4 K4
 simp only[sQ] at K4⊢
 clear K3 HB3
 go_upto_region 6 with fail
 refine rgD K4 HB4 HB4.size [.no,.no,.no,.no,.no,.no,.no,.all 2 (LN (vv)),.all 3 (LN (ww))] [] [(0,68,NV (vv)),(1,69,NV (ww)),(4,16,(Go.Value.int Go.IntKind.i64 0))] [] [] [] ?_ ?_
 ·exact oc (g_ld 10 uN iN)<|oc (g_ld 11 uN iN)<|oc (g_st 7 iN)<|oc (g_st 8 iN)<|oc g_as on
 intro u5 HB5 sz5 K5
 simp only[sQ] at K5⊢
 clear K4 HB4
 have c14:=(K5.cv 7).n4
 have c15:=(K5.cv 8).n4
 go_wp2
 refine bodyPost_ret (v:= .tuple #[NV vv,NV ww,.int .i64 0]) (by simp[results,Tryz.results15,go_sem,c14,c15]) rfl ⟨rfl,HB5⟩
theorem xck_n (p q g h b xu xk c y z:Int) (w:World) (hF:Hid (∀u,Bw w u->CC 15 #[GX p q g h,NV b,NV xu,NV xk,NV c,NV y,NV z] u (.tuple #[A4 0 0 0 0,A4 0 0 0 0,.int .i64 90]))):
 CC 17 #[GX p q g h,NV b,NV xu,NV xk,CX c y z] w (.int .i64 90):=by
 go_enter Tryz.func17,Tryz.ntmps17
 go_upto_region 1 with fail
 obtain⟨v0,hC,HB0,K0⟩:=bx5 w (GE (p) (q) (g) (h)) 26 (LN (b)) 24 (LN (xu)) 24 (LN (xk)) 24 (CE (c) (y) (z)) 30
 rw[hC]
 clear hC
 refine rgP K0 HB0 HB0.size [] [(15,11,L0s,some (17,[.int .u64 (0),.int .u64 (0),.int .u64 (0),.int .u64 (0)])),(16,12,L0s,some (18,[.int .u64 (0),.int .u64 (0),.int .u64 (0),.int .u64 (0)]))] [(0,17,GX (p) (q) (g) (h)),(1,18,NV (b)),(2,19,NV (xu)),(3,20,NV (xk)),(4,21,.pointer (some ⟨w.heap.size+1+1+1+1,0,none⟩)),(5,22,NV (c)),(6,23,.pointer (some ⟨w.heap.size+1+1+1+1,4,none⟩)),(7,24,NV (y)),(8,25,.pointer (some ⟨w.heap.size+1+1+1+1,8,none⟩)),(9,26,NV (z)),(10,27,.tuple #[A4 (0) (0) (0) (0),A4 (0) (0) (0) (0),.int .i64 90]),(11,16,.tuple #[A4 (0) (0) (0) (0),A4 (0) (0) (0) (0),.int .i64 90]),(12,28,A4 (0) (0) (0) (0)),(13,29,A4 (0) (0) (0) (0)),(14,30,.int .i64 90),(19,13,.int .i64 90)] [(17,15),(18,16)] [] [] ?_ ?_
 ·exact oc (g_ld 0 Tryz.underlying26 Z0)<|oc (g_ld 1 uN iN)<|oc (g_ld 2 uN iN)<|oc (g_ld 3 uN iN)<|oc (g_fd (fun uZ=>fdP0 _ uZ))<|oc (g_lo 4 0 uN iN)<|oc (g_fd (fun uZ=>fdP1 _ uZ))<|oc (g_lo 4 4 uN iN)<|oc (g_fd (fun uZ=>fdP2 _ uZ))<|oc (g_lo 4 8 uN iN)<|oc (g_cb ent_Y3 (fun uZ bZ=>hF.out uZ bZ))<|oc g_mv<|oc g_ex<|oc g_ex<|oc g_ex<|oc (g_al 0 aN)<|oc (g_al 1 aN)<|oc (g_sn 0 iN)<|oc (g_sn 1 iN)<|oc g_as on
 intro u1 b1_15 b1_16 HB1 sz1 K1
 simp only[sQ] at K1⊢
 clear K0 HB0
 go_upto_region 2 with fail
 refine rgP K1 HB1 HB1.size [] [] [(0,31,.int .i64 90),(1,32,.bool true)] [] [] [] ?_ ?_
 ·exact oc g_mv<|oc (g_bn (fun uZ=>X6 _ _ _ 90 0 _ uZ rfl)) on
 intro u2 HB2 sz2 K2
 simp only[sQ] at K2⊢
 clear K1 HB1
 go_upto_region 3 with fail
 refine rgP K2 HB2 HB2.size [] [] [(0,33,.int .i64 90),(1,10,.int .i64 90)] [] [] [] ?_ ?_
 ·exact oc g_mv<|oc g_as on
 intro u3 HB3 sz3 K3
 simp only[sQ] at K3⊢
 clear K2 HB2
 go_wp2
 refine bodyPost_ret (v:= .int .i64 90) (by simp[results,Tryz.results17,go_sem,]) rfl ⟨rfl,HB3⟩
theorem xck_k (p q g h b xu xk c y z vv ww c' er re:Int) (b1 b2 b3 b4:Bool) (w:World) (hF:Hid (∀u,Bw w u->CC 15 #[GX p q g h,NV b,NV xu,NV xk,NV c,NV y,NV z] u (.tuple #[NV vv,NV ww,.int .i64 0])))(hK1:Hid (∀u,CC 22 #[NV c,NV q] u (.int .i64 (cmpI c q))))(hK2:Hid (∀u,CC 22 #[NV y,NV q] u (.int .i64 (cmpI y q))))(hK3:Hid (∀u,CC 22 #[NV z,NV q] u (.int .i64 (cmpI z q))))(hC:Hid (∀u v,Bw w u->PFr 0 [b,xu,xk,vv,ww] u v->CC 12 #[GX p q g h,v] u (.tuple #[NV c',.int .i64 er])))(ic:In c) (ic':In c') (e1:decide (0<=cmpI c q)=b1) (e2:decide (0<=cmpI y q)=b2) (e3:decide (0<=cmpI z q)=b3) (e4:decide (c'=c)=!b4) (hR:Hid (re=if b1 || (b2 || (b3 || b4)) then 130 else 0)):
 CC 17 #[GX p q g h,NV b,NV xu,NV xk,CX c y z] w (.int .i64 re):=by
 go_enter Tryz.func17,Tryz.ntmps17
 go_upto_region 1 with fail
 obtain⟨v0,hC,HB0,K0⟩:=bx5 w (GE (p) (q) (g) (h)) 26 (LN (b)) 24 (LN (xu)) 24 (LN (xk)) 24 (CE (c) (y) (z)) 30
 rw[hC]
 clear hC
 refine rgP K0 HB0 HB0.size [] [(15,11,L0s,some (17,LN (vv))),(16,12,L0s,some (18,LN (ww)))] [(0,17,GX (p) (q) (g) (h)),(1,18,NV (b)),(2,19,NV (xu)),(3,20,NV (xk)),(4,21,.pointer (some ⟨w.heap.size+1+1+1+1,0,none⟩)),(5,22,NV (c)),(6,23,.pointer (some ⟨w.heap.size+1+1+1+1,4,none⟩)),(7,24,NV (y)),(8,25,.pointer (some ⟨w.heap.size+1+1+1+1,8,none⟩)),(9,26,NV (z)),(10,27,.tuple #[NV (vv),NV (ww),.int .i64 0]),(11,16,.tuple #[NV (vv),NV (ww),.int .i64 0]),(12,28,NV (vv)),(13,29,NV (ww)),(14,30,.int .i64 0),(19,13,.int .i64 0)] [(17,15),(18,16)] [] [] ?_ ?_
 ·exact oc (g_ld 0 Tryz.underlying26 Z0)<|oc (g_ld 1 uN iN)<|oc (g_ld 2 uN iN)<|oc (g_ld 3 uN iN)<|oc (g_fd (fun uZ=>fdP0 _ uZ))<|oc (g_lo 4 0 uN iN)<|oc (g_fd (fun uZ=>fdP1 _ uZ))<|oc (g_lo 4 4 uN iN)<|oc (g_fd (fun uZ=>fdP2 _ uZ))<|oc (g_lo 4 8 uN iN)<|oc (g_cb ent_Y3 (fun uZ bZ=>hF.out uZ bZ))<|oc g_mv<|oc g_ex<|oc g_ex<|oc g_ex<|oc (g_al 0 aN)<|oc (g_al 1 aN)<|oc (g_sn 0 iN)<|oc (g_sn 1 iN)<|oc g_as on
 intro u1 b1_15 b1_16 HB1 sz1 K1
 simp only[sQ] at K1⊢
 clear K0 HB0
 go_upto_region 2 with fail
 refine rgP K1 HB1 HB1.size [] [] [(0,31,.int .i64 0),(1,32,.bool false)] [] [] [] ?_ ?_
 ·exact oc g_mv<|oc (g_bn (fun uZ=>X6 _ _ _ 0 0 _ uZ rfl)) on
 intro u2 HB2 sz2 K2
 simp only[sQ] at K2⊢
 clear K1 HB1
 cases b1
 ·skip
  cases b2
  ·skip
   cases b3
   ·skip
    go_upto_region 4 with fail
    refine rgP K2 HB2 HB2.size [] [] [(0,34,.pointer (some ⟨w.heap.size+1+1+1+1,0,none⟩)),(1,35,NV (c)),(2,36,.pointer (some ⟨w.heap.size,4,none⟩)),(3,37,NV (q)),(4,38,.int .i64 (cmpI c q)),(5,39,.bool false),(6,40,.bool false),(7,41,.pointer (some ⟨w.heap.size+1+1+1+1,4,none⟩)),(8,42,NV (y)),(9,43,.pointer (some ⟨w.heap.size,4,none⟩)),(10,44,NV (q)),(11,45,.int .i64 (cmpI y q)),(12,46,.bool false),(13,47,.bool false),(14,48,.bool false),(15,49,.pointer (some ⟨w.heap.size+1+1+1+1,8,none⟩)),(16,50,NV (z)),(17,51,.pointer (some ⟨w.heap.size,4,none⟩)),(18,52,NV (q)),(19,53,.int .i64 (cmpI z q)),(20,54,.bool false),(21,55,.bool false)] [] [] [] ?_ ?_
    ·exact oc (g_fd (fun uZ=>fdP0 _ uZ))<|oc (g_lo 4 0 uN iN)<|oc (g_fd (fun uZ=>fdG1 _ uZ))<|oc (g_lo 0 4 uN iN)<|oc (g_cl Ui (fun uZ=>hK1.out uZ))<|oc (g_bn (fun uZ=>W6 _ _ (cmpI c q) 0 false uZ e1))<|oc g_mv<|oc (g_fd (fun uZ=>fdP1 _ uZ))<|oc (g_lo 4 4 uN iN)<|oc (g_fd (fun uZ=>fdG1 _ uZ))<|oc (g_lo 0 4 uN iN)<|oc (g_cl Ui (fun uZ=>hK2.out uZ))<|oc (g_bn (fun uZ=>W6 _ _ (cmpI y q) 0 false uZ e2))<|oc g_pk<|oc g_mv<|oc (g_fd (fun uZ=>fdP2 _ uZ))<|oc (g_lo 4 8 uN iN)<|oc (g_fd (fun uZ=>fdG1 _ uZ))<|oc (g_lo 0 4 uN iN)<|oc (g_cl Ui (fun uZ=>hK3.out uZ))<|oc (g_bn (fun uZ=>W6 _ _ (cmpI z q) 0 false uZ e3))<|oc g_pk on
    intro u3 HB3 sz3 K3
    simp only[sQ] at K3⊢
    clear K2 HB2
    go_upto_region 6 with fail
    refine rgF K3 HB3 HB3.size [] [(11,14,L0s,some (12,LN (c')))] [(0,57,GX (p) (q) (g) (h)),(1,58,NV (b)),(2,59,NV (xu)),(3,60,NV (xk)),(4,61,NV (vv)),(5,62,NV (ww)),(7,64,.tuple #[NV (c'),.int .i64 er]),(8,56,.tuple #[NV (c'),.int .i64 er]),(9,65,NV (c')),(10,66,.int .i64 er),(13,15,.int .i64 er)] [(12,11)] [] [⟨6,63,some 7,PFr 0 [b,xu,xk,vv,ww]⟩] [] (.cons (fun _ _ _ h1 h2=>h2.stab h1)<|Stab.nil) ?_ ?_
    ·exact oc (g_ld 0 Tryz.underlying26 Z0)<|oc (g_ld 1 uN iN)<|oc (g_ld 2 uN iN)<|oc (g_ld 3 uN iN)<|oc (g_ld 5 uN iN)<|oc (g_ld 6 uN iN)<|oc (g_bR 0 (PFr 0 [b,xu,xk,vv,ww]) [0,1,2,3,4] [NV b,NV xu,NV xk,NV vv,NV ww] (flN [b,xu,xk,vv,ww]) (bsF5 b xu xk vv ww) (fun u hu=>PFr.new 0 [b,xu,xk,vv,ww] u 24 (Nat.zero_le _)))<|oc (g_c2 0 (PFr 0 [b,xu,xk,vv,ww]) ent_Y2 (fun uZ yv bZ hy=>hC.out uZ yv bZ hy))<|oc g_mv<|oc g_ex<|oc g_ex<|oc (g_al 0 aN)<|oc (g_sn 0 iN)<|oc g_as on
    intro u4 b4_11 v4_6 hv4_6 HB4 sz4 K4
    simp only[sQ] at K4⊢
    clear K3 HB3
    cases b4
    ·skip
     go_upto_region 7 with fail
     refine rgP K4 HB4 HB4.size [] [] [(0,67,NV (c')),(1,68,.pointer (some ⟨w.heap.size+1+1+1+1,0,none⟩)),(2,69,NV (c)),(3,70,.bool false)] [] [] [] ?_ ?_
     ·exact oc (g_ld 7 uN iN)<|oc (g_fd (fun uZ=>fdP0 _ uZ))<|oc (g_lo 4 0 uN iN)<|oc (g_bn (fun uZ=>neq_n _ _ ic' ic false e4 uZ)) on
     intro u5 HB5 sz5 K5
     simp only[sQ] at K5⊢
     clear K4 HB4
     go_upto_region 9 with fail
     refine rgP K5 HB5 HB5.size [] [] [(0,10,(Go.Value.int Go.IntKind.i64 0))] [] [] [] ?_ ?_
     ·exact oc g_as on
     intro u6 HB6 sz6 K6
     simp only[sQ] at K6⊢
     clear K5 HB5
     go_wp2
     refine bodyPost_ret (v:= .int .i64 0) (by simp[results,Tryz.results17,go_sem,]) rfl ⟨by rw[hR.out];rfl,HB6⟩
    ·skip
     go_upto_region 7 with fail
     refine rgP K4 HB4 HB4.size [] [] [(0,67,NV (c')),(1,68,.pointer (some ⟨w.heap.size+1+1+1+1,0,none⟩)),(2,69,NV (c)),(3,70,.bool true)] [] [] [] ?_ ?_
     ·exact oc (g_ld 7 uN iN)<|oc (g_fd (fun uZ=>fdP0 _ uZ))<|oc (g_lo 4 0 uN iN)<|oc (g_bn (fun uZ=>neq_n _ _ ic' ic true e4 uZ)) on
     intro u5 HB5 sz5 K5
     simp only[sQ] at K5⊢
     clear K4 HB4
     go_upto_region 8 with fail
     refine rgP K5 HB5 HB5.size [] [] [(0,10,(Go.Value.int Go.IntKind.i64 130))] [] [] [] ?_ ?_
     ·exact oc g_as on
     intro u6 HB6 sz6 K6
     simp only[sQ] at K6⊢
     clear K5 HB5
     go_wp2
     refine bodyPost_ret (v:= .int .i64 130) (by simp[results,Tryz.results17,go_sem,]) rfl ⟨by rw[hR.out];rfl,HB6⟩
   ·skip
    go_upto_region 4 with fail
    refine rgP K2 HB2 HB2.size [] [] [(0,34,.pointer (some ⟨w.heap.size+1+1+1+1,0,none⟩)),(1,35,NV (c)),(2,36,.pointer (some ⟨w.heap.size,4,none⟩)),(3,37,NV (q)),(4,38,.int .i64 (cmpI c q)),(5,39,.bool false),(6,40,.bool false),(7,41,.pointer (some ⟨w.heap.size+1+1+1+1,4,none⟩)),(8,42,NV (y)),(9,43,.pointer (some ⟨w.heap.size,4,none⟩)),(10,44,NV (q)),(11,45,.int .i64 (cmpI y q)),(12,46,.bool false),(13,47,.bool false),(14,48,.bool false),(15,49,.pointer (some ⟨w.heap.size+1+1+1+1,8,none⟩)),(16,50,NV (z)),(17,51,.pointer (some ⟨w.heap.size,4,none⟩)),(18,52,NV (q)),(19,53,.int .i64 (cmpI z q)),(20,54,.bool true),(21,55,.bool true)] [] [] [] ?_ ?_
    ·exact oc (g_fd (fun uZ=>fdP0 _ uZ))<|oc (g_lo 4 0 uN iN)<|oc (g_fd (fun uZ=>fdG1 _ uZ))<|oc (g_lo 0 4 uN iN)<|oc (g_cl Ui (fun uZ=>hK1.out uZ))<|oc (g_bn (fun uZ=>W6 _ _ (cmpI c q) 0 false uZ e1))<|oc g_mv<|oc (g_fd (fun uZ=>fdP1 _ uZ))<|oc (g_lo 4 4 uN iN)<|oc (g_fd (fun uZ=>fdG1 _ uZ))<|oc (g_lo 0 4 uN iN)<|oc (g_cl Ui (fun uZ=>hK2.out uZ))<|oc (g_bn (fun uZ=>W6 _ _ (cmpI y q) 0 false uZ e2))<|oc g_pk<|oc g_mv<|oc (g_fd (fun uZ=>fdP2 _ uZ))<|oc (g_lo 4 8 uN iN)<|oc (g_fd (fun uZ=>fdG1 _ uZ))<|oc (g_lo 0 4 uN iN)<|oc (g_cl Ui (fun uZ=>hK3.out uZ))<|oc (g_bn (fun uZ=>W6 _ _ (cmpI z q) 0 true uZ e3))<|oc g_pk on
    intro u3 HB3 sz3 K3
    simp only[sQ] at K3⊢
    clear K2 HB2
    go_upto_region 5 with fail
    refine rgP K3 HB3 HB3.size [] [] [(0,10,(Go.Value.int Go.IntKind.i64 130))] [] [] [] ?_ ?_
    ·exact oc g_as on
    intro u4 HB4 sz4 K4
    simp only[sQ] at K4⊢
    clear K3 HB3
    go_wp2
    refine bodyPost_ret (v:= .int .i64 130) (by simp[results,Tryz.results17,go_sem,]) rfl ⟨by rw[hR.out];rfl,HB4⟩
  ·skip
   go_upto_region 4 with fail
   refine rgP K2 HB2 HB2.size [] [] [(0,34,.pointer (some ⟨w.heap.size+1+1+1+1,0,none⟩)),(1,35,NV (c)),(2,36,.pointer (some ⟨w.heap.size,4,none⟩)),(3,37,NV (q)),(4,38,.int .i64 (cmpI c q)),(5,39,.bool false),(6,40,.bool false),(7,41,.pointer (some ⟨w.heap.size+1+1+1+1,4,none⟩)),(8,42,NV (y)),(9,43,.pointer (some ⟨w.heap.size,4,none⟩)),(10,44,NV (q)),(11,45,.int .i64 (cmpI y q)),(12,46,.bool true),(13,47,.bool true),(14,48,.bool true),(15,49,undef),(16,50,undef),(17,51,undef),(18,52,undef),(19,53,undef),(20,54,undef),(21,55,(Go.Value.bool Bool.true))] [] [] [] ?_ ?_
   ·exact oc (g_fd (fun uZ=>fdP0 _ uZ))<|oc (g_lo 4 0 uN iN)<|oc (g_fd (fun uZ=>fdG1 _ uZ))<|oc (g_lo 0 4 uN iN)<|oc (g_cl Ui (fun uZ=>hK1.out uZ))<|oc (g_bn (fun uZ=>W6 _ _ (cmpI c q) 0 false uZ e1))<|oc g_mv<|oc (g_fd (fun uZ=>fdP1 _ uZ))<|oc (g_lo 4 4 uN iN)<|oc (g_fd (fun uZ=>fdG1 _ uZ))<|oc (g_lo 0 4 uN iN)<|oc (g_cl Ui (fun uZ=>hK2.out uZ))<|oc (g_bn (fun uZ=>W6 _ _ (cmpI y q) 0 true uZ e2))<|oc g_pk<|oc g_mv<|oc g_sk<|oc g_sk<|oc g_sk<|oc g_sk<|oc g_sk<|oc g_sk<|oc g_pk on
   intro u3 HB3 sz3 K3
   simp only[sQ] at K3⊢
   clear K2 HB2
   go_upto_region 5 with fail
   refine rgP K3 HB3 HB3.size [] [] [(0,10,(Go.Value.int Go.IntKind.i64 130))] [] [] [] ?_ ?_
   ·exact oc g_as on
   intro u4 HB4 sz4 K4
   simp only[sQ] at K4⊢
   clear K3 HB3
   go_wp2
   refine bodyPost_ret (v:= .int .i64 130) (by simp[results,Tryz.results17,go_sem,]) rfl ⟨by rw[hR.out];rfl,HB4⟩
 ·skip
  go_upto_region 4 with fail
  refine rgP K2 HB2 HB2.size [] [] [(0,34,.pointer (some ⟨w.heap.size+1+1+1+1,0,none⟩)),(1,35,NV (c)),(2,36,.pointer (some ⟨w.heap.size,4,none⟩)),(3,37,NV (q)),(4,38,.int .i64 (cmpI c q)),(5,39,.bool true),(6,40,.bool true),(7,41,undef),(8,42,undef),(9,43,undef),(10,44,undef),(11,45,undef),(12,46,undef),(13,47,(Go.Value.bool Bool.true)),(14,48,(Go.Value.bool Bool.true)),(15,49,undef),(16,50,undef),(17,51,undef),(18,52,undef),(19,53,undef),(20,54,undef),(21,55,(Go.Value.bool Bool.true))] [] [] [] ?_ ?_
  ·exact oc (g_fd (fun uZ=>fdP0 _ uZ))<|oc (g_lo 4 0 uN iN)<|oc (g_fd (fun uZ=>fdG1 _ uZ))<|oc (g_lo 0 4 uN iN)<|oc (g_cl Ui (fun uZ=>hK1.out uZ))<|oc (g_bn (fun uZ=>W6 _ _ (cmpI c q) 0 true uZ e1))<|oc g_mv<|oc g_sk<|oc g_sk<|oc g_sk<|oc g_sk<|oc g_sk<|oc g_sk<|oc g_pk<|oc g_mv<|oc g_sk<|oc g_sk<|oc g_sk<|oc g_sk<|oc g_sk<|oc g_sk<|oc g_pk on
  intro u3 HB3 sz3 K3
  simp only[sQ] at K3⊢
  clear K2 HB2
  go_upto_region 5 with fail
  refine rgP K3 HB3 HB3.size [] [] [(0,10,(Go.Value.int Go.IntKind.i64 130))] [] [] [] ?_ ?_
  ·exact oc g_as on
  intro u4 HB4 sz4 K4
  simp only[sQ] at K4⊢
  clear K3 HB3
  go_wp2
  refine bodyPost_ret (v:= .int .i64 130) (by simp[results,Tryz.results17,go_sem,]) rfl ⟨by rw[hR.out];rfl,HB4⟩
theorem xProve_n (p q g h b s t x y:Int) (w:World) (hp:In p) (hq:In q) (hg:In g) (hh:In h) (hb:In b) (hm:mbL p q [g,h,b]=false):CC 10 #[GX p q g h,NV b,NV s,NV t,NV x,NV y] w (.tuple #[A4 0 0 0 0,.agg L0c.toArray,.int .i64 90]):=
 xpv_n p q g h b s t x y w fun u v hB hv=>by
  have:=xMem p q g h [b] v u hp hq (by simp) (by simpa using hb) hg hh hv.nl
  rwa [hm] at this
theorem In_md {a m:Int} (hm:In m) (h:m≠0):In (a%m):=⟨Int.emod_nonneg _ h,Int.lt_of_lt_of_le (Int.emod_lt_of_pos _ (by have:=hm.1;omega)) (Int.le_of_lt hm.2)⟩
theorem xProve (p q g h b s t x y:Int) (w:World) (hp:In p) (hq:In q) (hg:In g) (hh:In h) (hb:In b) (hs:In s) (ht:In t) (hx:In x) (hy:In y) (hm:mbL p q [g,h,b]=true):CC 10 #[GX p q g h,NV b,NV s,NV t,NV x,NV y] w (.tuple #[NV (pwZ p q b s),CX (pvC p q g h b s t x y) (pvY q x (pvC p q g h b s t x y) s) (pvY q y (pvC p q g h b s t x y) t),.int .i64 0]):=by
 have hgk:=mbL_g hm
 have h3:=hgk.q3
 have h7:=hgk.2
 have hp0:p≠0:=by omega
 have hq0:q≠0:=by omega
 have hc:In (pvC p q g h b s t x y):=In_ch hq _
 have ad: ∀(a c s:Int) (u:World),In a->CC 25 #[NV a,NV (c*s%q),NV q] u (.tuple #[NV (pvY q a c s),.int .i64 0]):=fun a c s u ha=>by
  have:=xAdd a (c*s%q) q u ha (In_md hq hq0) hq hq0
  rwa [Int.add_emod,Int.emod_emod,<-Int.add_emod] at this
 refine xpv_k p q g h b s t x y _ _ _ _ (pvC p q g h b s t x y) _ _ _ _ _ w (fun u v hB hv=>?_) (fun u v hB hv=>xChal p q g h [b,pwZ p q b s,cmN p q g h s t,pwZ p q b x,cmN p q g h x y] v u hp hq (by simp) hv.nl) (fun u=>xPower p q g h b s u hp hq hb hs hp0 hq0) (fun u=>xPair p q g h s t u hp hq hg hh hs ht hp0 hq0) (fun u=>xPower p q g h b x u hp hq hb hx hp0 hq0) (fun u=>xPair p q g h x y u hp hq hg hh hx hy hp0 hq0) (fun u=>xMul _ s q u hc hs hq hq0) (fun u=>xMul _ t q u hc ht hq hq0) (fun u=>ad x _ s u hx) (fun u=>ad y _ t u hy)
 have:=xMem p q g h [b] v u hp hq (by simp) (by simpa using hb) hg hh hv.nl
 rwa [hm] at this
theorem xForge_n (p q g h b xu xk c y z:Int) (w:World) (hp:In p) (hq:In q) (hg:In g) (hh:In h) (hb:In b) (hu:In xu) (hk:In xk) (hm:mbL p q [g,h,b,xu,xk]=false):CC 15 #[GX p q g h,NV b,NV xu,NV xk,NV c,NV y,NV z] w (.tuple #[A4 0 0 0 0,A4 0 0 0 0,.int .i64 90]):=
 xfg_n p q g h b xu xk c y z w fun u v hB hv=>by
  have:=xMem p q g h [b,xu,xk] v u hp hq (by simp) (by simp;exact⟨hb,hu,hk⟩) hg hh hv.nl
  rwa [hm] at this
theorem xForge (p q g h b xu xk c y z:Int) (w:World) (hp:In p) (hq:In q) (hg:In g) (hh:In h) (hb:In b) (hu:In xu) (hk:In xk) (hc:In c) (hy:In y) (hz:In z) (hm:mbL p q [g,h,b,xu,xk]=true):CC 15 #[GX p q g h,NV b,NV xu,NV xk,NV c,NV y,NV z] w (.tuple #[NV (fgV p q b xu c y),NV (fgW p q g h xk c y z),.int .i64 0]):=by
 have hgk:=mbL_g hm
 have hq3:=hgk.q3
 have h7:=hgk.2
 have hp0:p≠0:=by omega
 have hq0:q≠0:=by omega
 have hmi:In ((0 -c)%q):=In_md hq hq0
 have pw: ∀x (u:World),In x->CC 30 #[GX p q g h,NV x,NV ((0 -c)%q)] u (NV (pwZ p q x (0 -c))):=fun x u hx=>by
  have:=xPower p q g h x ((0 -c)%q) u hp hq hx hmi hp0 hq0
  rwa [Int.emod_emod] at this
 refine xfg_k p q g h b xu xk c y z ((0 -c)%q) _ _ _ _ _ _ w (fun u v hB hv=>?_) (fun u=>?_) (fun u=>xPower p q g h b y u hp hq hb hy hp0 hq0) (fun u=>pw xu u hu) (fun u=>xMul _ _ p u (In_md hp hp0) (In_md hp hp0) hp hp0) (fun u=>xPair p q g h y z u hp hq hg hh hy hz hp0 hq0) (fun u=>pw xk u hk) (fun u=>xMul _ _ p u (In_md hp hp0) (In_md hp hp0) hp hp0)
 ·have:=xMem p q g h [b,xu,xk] v u hp hq (by simp) (by simp;exact⟨hb,hu,hk⟩) hg hh hv.nl
  rwa [hm] at this
 ·have:=xSub 0 c q u ⟨by decide,by decide⟩ hc hq hq0
  rwa [NV_0] at this
theorem xCheckP (p q g h b xu xk c y z:Int) (w:World) (hp:In p) (hq:In q) (hg:In g) (hh:In h) (hb:In b) (hu:In xu) (hk:In xk) (hc:In c) (hy:In y) (hz:In z):CC 17 #[GX p q g h,NV b,NV xu,NV xk,CX c y z] w (.int .i64 (ckE p q g h b xu xk c y z)):=by
 unfold ckE
 cases hm:mbL p q [g,h,b,xu,xk] with
 | false=>exact xck_n p q g h b xu xk c y z w fun u hB=>xForge_n p q g h b xu xk c y z u hp hq hg hh hb hu hk hm
 | true=>
  have cm: ∀a:Int,decide (0<=cmpI a q)=!decide (a<q):=fun a=>by
   unfold cmpI
   by_cases h:a<q
   ·rw[if_pos h,decide_eq_true h];rfl
   ·rw[if_neg h,decide_eq_false h];split<;>rfl
  refine xck_k p q g h b xu xk c y z _ _ (chZ p q [g,h,b,xu,xk,fgV p q b xu c y,fgW p q g h xk c y z]) _ _ (!decide (c<q)) (!decide (y<q)) (!decide (z<q)) (!decide (c=chZ p q [g,h,b,xu,xk,fgV p q b xu c y,fgW p q g h xk c y z])) w (fun u hB=>xForge p q g h b xu xk c y z u hp hq hg hh hb hu hk hc hy hz hm) (fun u=>Xe c q u hc hq) (fun u=>Xe y q u hy hq) (fun u=>Xe z q u hz hq) (fun u v hB hv=>xChal p q g h [b,xu,xk,fgV p q b xu c y,fgW p q g h xk c y z] v u hp hq (by simp) hv.nl) hc (In_ch hq _) (cm c) (cm y) (cm z) ?_ ?_
  ·rw[Bool.not_not,decide_eq_decide];exact eq_comm
  ·show _=_
   rw[if_pos rfl,ckB]
   cases decide (c<q)<;>cases decide (y<q)<;>cases decide (z<q)<;>cases decide (c=chZ p q [g,h,b,xu,xk,fgV p q b xu c y,fgW p q g h xk c y z])<;>rfl
end Go.Proofs.YtofcppgfaelloaaGreatDoor
