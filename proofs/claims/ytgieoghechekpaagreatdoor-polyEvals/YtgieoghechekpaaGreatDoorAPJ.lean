import Derived.Test.YtgieoghechekpaaGreatDoorAPD
namespace Go.Proofs.YtgieoghechekpaaGreatDoor
set_option linter.unusedVariables false
set_option linter.unusedSimpArgs false
set_option maxRecDepth 100000
set_option maxHeartbeats 4000000
open Go.RowKit
section
variable {R:Rg} {P:Program} {ops:Array Oper} {Q:Exit->Act->World->Prop} {f:Nat->Bool} {t:Nat->Value} {u:World} {a:Act} {i:Nat} {o:Oper}
theorem g_cD(m m2 n:Nat)(p p2 p':World->Value->Prop){N:FuncId}{j d j2 d2:Nat}{x:Operand}{vx:Value}{tys:Array TypeId}(hr: ∀(vs:Array Value) (w:World),(callFunc N vs).run P w= .ok (.enter N vs) w)
 (hcall: ∀(u:World) (y z:Value),Below R.lo R.w u->R.base<=u.heap.size->p u y->p2 u z->Calls P N #[vx,y,z] u fun e u'=> ∃v,e= .returned v/\p' u' v/\Bw u u')(hop:o.op= .call {callee:= .value (.func N),args:=[x,.tmp d,.tmp d2].toArray,argTypes:=tys}:=by rfl)(hx:evR R i o x=some vx:=by rfl)(hm:R.E[m]?=some ⟨j,d,some i,p⟩:=by rfl)(hm2:R.E[m2]?=some ⟨j2,d2,some i,p2⟩:=by rfl)(hd:(Zo o j&&R.S.contains d&&(Zo o j2&&R.S.contains d2))=true:=by rfl)(hn:(R.E[n]?).map (·.p)=some p':=by rfl)(hc:R.chkE ops n i o=true:=by rfl):OG R P ops Q i o:=fun f t u a X=>by
 simp only[Bool.and_eq_true,List.contains_iff_mem] at hd
 obtain⟨⟨h2,h4⟩,h5,h6⟩:=hd
 obtain⟨d',q,hd',hq,_,_,_,_,_,_,_,_,hw⟩:=Zk hc
 have e1:p u (t d):=X.val hm h2 rfl
 have e2:p2 u (t d2):=X.val hm2 h5 rfl
 exact X.go hw fun K hK=>wp_callP (vs:=[vx,t d,t d2]) hop (by rw[List.map_cons,List.map_cons,List.map_cons,List.map_nil,X.ev hx,X.inS h4,X.inS h6]) hr (hcall u (t d) (t d2) X.I.1.bel X.I.1.sz e1 e2) fun v w' h1 hB=>hK _ _ (X.putE hc (fun q hq=>by rw[hq] at hn;cases hn;exact h1) hB)
theorem g_cO(m:Nat)(p:World->Value->Prop){N:FuncId}{j d:Nat}{args:List Operand}{tys:Array TypeId}{v:Value}(vs:Value->List Value)(hr: ∀(vs:Array Value) (w:World),(callFunc N vs).run P w= .ok (.enter N vs) w)
 (hcall: ∀(u:World) (y:Value),Below R.lo R.w u->p u y->Calls P N (vs y).toArray u fun e u'=>e= .returned v/\Bw u u')(hop:o.op= .call {callee:= .value (.func N),args:=args.toArray,argTypes:=tys}:=by rfl)(hm:R.E[m]?=some ⟨j,d,some i,p⟩:=by rfl)(hx: ∀y,args.mapM (ev1 R i o d y)=some (vs y):=by intro y;rfl)(hd:(Zo o j&&R.S.contains d)=true:=by rfl)(hv:some v=Zn i R.G:=by rfl)(hc:R.chk ops i o=true:=by rfl):OG R P ops Q i o:=fun f t u a X=>by
 rw[Bool.and_eq_true,List.contains_iff_mem] at hd
 obtain⟨h2,h4⟩:=hd
 have hy:p u (t d):=X.val hm h2 rfl
 exact X.go (Yf hc).choose_spec.2.2.2.2.2.2.2 fun K hK=>wp_callF hop (evs1 X h4 (hx (t d))) hr (hcall u (t d) X.I.1.bel hy) fun w' hB=>hK _ _ (X.put hv hc (X.I.1.call hB) (X.I.2.1.below hB X.I.1.sz) hB)
end
def PNe(ns:List Int)(u:World)(v:Value):Prop:=NL u v ns
theorem PNe.stab{ns:List Int}{u u2:World}{x:Value}(hB:Bw u u2)(h:PNe ns u x):PNe ns u2 x:=NL.up h hB
def PIe(xs:List Int)(u:World)(v:Value):Prop:=IL u v xs
theorem PIe.stab{xs:List Int}{u u2:World}{x:Value}(hB:Bw u u2)(h:PIe xs u x):PIe xs u2 x:=IL.up h hB
def PPe(ps:List (Int×Int))(u:World)(v:Value):Prop:=PtL u v ps
theorem PPe.stab{ps:List (Int×Int)}{u u2:World}{x:Value}(hB:Bw u u2)(h:PPe ps u x):PPe ps u2 x:=PtL.up h hB
def PTn(c:Int)(ns:List Int)(u:World)(v:Value):Prop:= ∃y,v= .tuple #[y,.int .i64 c]/\PNe ns u y
theorem PTn.stab{c:Int}{ns:List Int}{u u2:World}{x:Value}(hB:Bw u u2)(h:PTn c ns u x):PTn c ns u2 x:=by
 obtain⟨y,e,h⟩:=h
 exact⟨y,e,h.stab hB⟩
def PTp(c:Int)(ps:List (Int×Int))(u:World)(v:Value):Prop:= ∃y,v= .tuple #[y,.int .i64 c]/\PPe ps u y
theorem PTp.stab{c:Int}{ps:List (Int×Int)}{u u2:World}{x:Value}(hB:Bw u u2)(h:PTp c ps u x):PTp c ps u2 x:=by
 obtain⟨y,e,h⟩:=h
 exact⟨y,e,h.stab hB⟩
theorem slI(sl:Option Addr)(n cap k:Nat)(h:k<=n)(hc:n<=cap)(hn:sl=none->cap=0)(w:World):(Instr.sliceAt 26 (.slice sl n cap) none (some (.int .i64 k)) none).run Tryz.prog w= .ok (.slice sl k cap) w:=by
 cases sl with
 | none=>
  have e0:=hn rfl
  have e1:n=0:=by omega
  have e2:k=0:=by omega
  subst e0 e1 e2
  show (Instr.sliceAt 26 (.slice none 0 0) none (some (.int .i64 0)) none).run Tryz.prog w=_
  kernel_rfl
 | some a=>
  have h3:k<=cap:=by omega
  simp[Instr.sliceAt,Instr.slice,go_sem,Tryz.underlying26,h3]
theorem ixR(g o n cap j:Nat)(h:j<n)(w:World):(Instr.indexAt 35 (.slice (some ⟨g,o,none⟩) n cap) (.int .i64 j)).run Tryz.prog w= .ok (.pointer (some ⟨g,o+8*j,none⟩)) w:=by
 have hj:(j:Int)<n:=by omega
 go_simp
 all_goals first | omega | (simp[Addr.add];omega) | simp[Addr.add,Nat.mul_comm]
theorem fdJ0(b x:Nat)(w:World):(Instr.fieldAt 41 (.pointer (some ⟨b,x,none⟩)) 0).run Tryz.prog w= .ok (.pointer (some ⟨b,x,none⟩)) w:=by go_simp
theorem fdJ1(b x:Nat)(w:World):(Instr.fieldAt 41 (.pointer (some ⟨b,x,none⟩)) 1).run Tryz.prog w= .ok (.pointer (some ⟨b,x+4,none⟩)) w:=by go_simp
theorem fdR0(b x:Nat)(w:World):(Instr.fieldAt 42 (.pointer (some ⟨b,x,none⟩)) 0).run Tryz.prog w= .ok (.pointer (some ⟨b,x,none⟩)) w:=by go_simp
theorem fdR1(b x:Nat)(w:World):(Instr.fieldAt 42 (.pointer (some ⟨b,x,none⟩)) 1).run Tryz.prog w= .ok (.pointer (some ⟨b,x+4,none⟩)) w:=by go_simp
theorem eqlJ(p q:Operand)(x:Int)(w:World):(do eqGuard .eql 28 p q (.int .i64 x) (.int .i64 x);binOp .eql 28 (.int .i64 x) (.int .i64 x):Sem Value).run Tryz.prog w= .ok (.bool true) w:=by go_simp
theorem flt_g0: ∀(ps:List (Int×Int)) (j:Nat),j<ps.length->(flt ps).getD (2*j) 0=(ps.getD j (0,0)).1/\(flt ps).getD (2*j+1) 0=(ps.getD j (0,0)).2
 | [],j,h=>by simp at h
 | p::l,0,h=>by simp[flt]
 | p::l,j+1,h=>by
  have:=flt_g0 l j (by simpa using h)
  rw[show 2*(j+1)=2*j+1+1 by omega]
  simpa [flt] using this
theorem pt_at{u:World}{sl:Option Addr}{cap j:Nat}{ps:List (Int×Int)}(h:PtL u (.slice sl ps.length cap) ps)(hj:j<ps.length): ∃g o,g<u.heap.size/\sl=some ⟨g,o,none⟩/\u.rangeAt g (o+8*j) (LN (ps.getD j (0,0)).1)/\u.rangeAt g (o+8*j+4) (LN (ps.getD j (0,0)).2):=by
 obtain⟨sl',gb,go,cap',e,h2,h3,h4,h5,h6⟩:=h
 cases e
 have h4:=h4.resolve_left (fun e=>by subst e;simp at hj)
 have hl:=flt_len ps
 obtain⟨e1,e2⟩:=flt_g0 ps j hj
 have a1:=h6.at (2*j) (by omega)
 have a2:=h6.at (2*j+1) (by omega)
 rw[e1,show go+4*(2*j)=go+8*j by omega] at a1
 rw[e2,show go+4*(2*j+1)=go+8*j+4 by omega] at a2
 exact⟨gb,go,h5.resolve_left (by omega),h4,a1,a2⟩
theorem evX_In{q x:Int}{ns:List Int}(hq:In q):In (evX q ns x):=by
 unfold evX;split
 ·exact hoN_In hq (by omega) _
 ·exact In_0
theorem ptX_In{q:Int}{ns xs:List Int}(hq:In q)(hx: ∀x∈xs,-9223372036854775808<=x/\x<=9223372036854775807)(hl:xs.length<=12):(ptX q ns xs).length<=12/\ ∀p∈ptX q ns xs,In p.1/\In p.2:=by
 unfold ptX;split
 ·rename_i h
  refine⟨by rw[pts_len];exact hl,fun p hp=>?_⟩
  simp only[pts,List.mem_map] at hp
  obtain⟨x,hm,rfl⟩:=hp
  have h2:=h.2
  unfold poS at h2
  rw[List.all_eq_true] at h2
  have h0:0<=x:=by simpa using h2 x hm
  exact⟨⟨h0,by have:=(hx x hm).2;omega⟩,hoN_In hq (by have:=h.1.1;omega) _⟩
 ·exact⟨by simp,fun p hp=>by cases hp⟩
theorem adX_In{q:Int}{aa bs:List Int}(hq:In q)(ha:aa.length<=12)(hb:bs.length<=12):(adX q aa bs).length<=12/\ ∀z∈adX q aa bs,In z:=by
 unfold adX;split
 ·rename_i h
  unfold adS
  refine⟨by rw[Yi];omega,fun z hz=>?_⟩
  simp only[tab,List.mem_map] at hz
  obtain⟨j,_,rfl⟩:=hz
  exact Zl hq (by have:=h.1.1;omega)
 ·exact⟨by simp,fun p hp=>by cases hp⟩
theorem ent_J1:EnT 7:=fun _ _=>by kernel_rfl
theorem ent_J2:EnT 8:=fun _ _=>by kernel_rfl
theorem ent_J3:EnT 11:=fun _ _=>by kernel_rfl
theorem ent_J4:EnT 10:=fun _ _=>by kernel_rfl
theorem ent_J5:EnT 12:=fun _ _=>by kernel_rfl
theorem ent_J6:EnT 13:=fun _ _=>by kernel_rfl
theorem ent_J7:EnT 14:=fun _ _=>by kernel_rfl
theorem Y7:EnT 15:=fun _ _=>by kernel_rfl
theorem polyEvals_core(q x:Int)(s0 s1 si:Option Addr)(L0_ c0_ L1_ c1_ Li ci k:Nat)(aa bs xs:List Int)(w:World)(hG:GP w)(hq:In q)(hx:In x)(haI: ∀z∈aa,In z)(hbI: ∀z∈bs,In z)(ha12:aa.length<=12)(hb12:bs.length<=12)(hx12:xs.length<=12)(hxb: ∀x∈xs,-9223372036854775808<=x/\x<=9223372036854775807)(hmin:min (Li:Int) 12=(k:Int))(hkl:k<=Li)(hlc:Li<=ci)(hsn:si=none->ci=0)(hxi:Hid (IL w (.slice si k ci) xs))
 (hFa:Hid (∀u,Bw w u->Calls Tryz.prog 7 #[.slice s0 L0_ c0_] u fun e u'=> ∃y,e= .returned y/\PNe aa u' y/\Bw u u'))(hFb:Hid (∀u,Bw w u->Calls Tryz.prog 7 #[.slice s1 L1_ c1_] u fun e u'=> ∃y,e= .returned y/\PNe bs u' y/\Bw u u')):
 CC 3 #[NV q,.slice s0 L0_ c0_,.slice s1 L1_ c1_,NV x,.slice si Li ci] w (.bool true):=by
 go_enter Tryz.func3,Tryz.ntmps3
 go_upto_region 1 with fail
 generalize hC:((w.alloc (.cells (LN q:List Value).toArray 24)).alloc (.cells (LN x:List Value).toArray 24))=v0 at *
 have HB0:Bw w v0:=by rw[<-hC];exact Z0 (Z0 (Z1 w) _) _
 have K0:Bk w.heap.size v0 [(true,w.heap.size,LN q),(true,w.heap.size+1,LN x)]:=by rw[<-hC];exact(Bk.nil _ w).ad.ad
 clear hC
 refine rgE K0 HB0 HB0.size [] [] [(0,24,.slice s0 L0_ c0_),(2,26,.slice s1 L1_ c1_),(4,28,.slice si Li ci),(5,29,.slice si Li ci),(6,30,.int .i64 (Li:Int)),(7,31,.int .i64 (k:Int)),(8,32,.slice si k ci),(11,4,.slice si k ci)] [(9,0),(10,2),(11,4),(11,5)] [(9,1),(10,2),(11,4)] [⟨1,25,some 9,PNe aa⟩,⟨3,27,some 10,PNe bs⟩,⟨9,1,none,PNe aa⟩,⟨10,2,none,PNe bs⟩] [] (.cons (fun _ _ _ h1 h2=>h2.stab h1)<| .cons (fun _ _ _ h1 h2=>h2.stab h1)<| .cons (fun _ _ _ h1 h2=>h2.stab h1)<| .cons (fun _ _ _ h1 h2=>h2.stab h1)<|Stab.nil) ?_ ?_
 ·exact oc g_mv<|oc (g_cE 0 (PNe aa) ent_J1 (fun u hB hs=>hFa.out u hB))<|oc g_mv<|oc (g_cE 1 (PNe bs) ent_J1 (fun u hB hs=>hFb.out u hB))<|oc g_mv<|oc g_mv<|oc (g_ln Tryz.underlying26)<|oc (g_mn hmin)<|oc (g_sl (fun uZ=>slI si Li ci k hkl hlc hsn uZ))<|oc (g_sE 0 2 (PNe aa))<|oc (g_sE 1 3 (PNe bs))<|oc g_as on
 intro u1 v1_1 hv1_1 v1_3 hv1_3 v1_9 hv1_9 v1_10 hv1_10 HB1 sz1 K1
 simp only[sQ] at K1⊢
 clear K0 HB0
 have hl0:NL u1 _ aa:=hv1_9 rfl
 have hl1:NL u1 _ bs:=hv1_10 rfl
 have nl_0:=hl0
 have nm_0:=hl1
 obtain⟨sa,ga,oa,ca,rfl,_⟩:=hl0
 obtain⟨sb,gb,ob,cb,rfl,_⟩:=hl1
 have xi_0:IL u1 (.slice si k ci) xs:=hxi.out.up HB1
 have hnK1:=K1.n
 simp at hnK1
 have hT1:Bw w u1:=Z4 (Below.refl w.heap.size w) HB1
 have nl_1:NL u1 (.slice sa aa.length ca) aa:=nl_0
 have nm_1:NL u1 (.slice sb bs.length cb) bs:=nm_0
 have xi_1:IL u1 (.slice si k ci) xs:=xi_0
 have HBz1:Bw u1 u1:=Below.refl _ _
 obtain⟨r,er⟩: ∃r,evX q aa x=r:=⟨_,rfl⟩
 obtain⟨e0,ee⟩: ∃r,evE q aa=r:=⟨_,rfl⟩
 have hre:Hid (evX q aa x=r):=er
 have hee:Hid (evE q aa=e0):=ee
 have ir:In r:=by rw[<-er];exact evX_In hq
 clear er ee
 have K1_1:Bk u1.heap.size u1 [(false,w.heap.size,LN q),(false,w.heap.size+1,LN x)]:=⟨.c (K1.lt 0) (K1.cv 0)<| .c (K1.lt 1) (K1.cv 1)<|trivial,by simp<;>omega⟩
 go_upto_region 2 with fail
 refine rgE K1_1 HBz1 HBz1.size [] [(8,11,L0s,some (9,LN r))] [(0,34,NV q),(1,35,.slice sa aa.length ca),(3,37,NV x),(4,38,.tuple #[NV r,.int .i64 e0]),(5,33,.tuple #[NV r,.int .i64 e0]),(6,39,NV r),(7,40,.int .i64 e0),(10,12,.int .i64 e0)] [(9,8)] [] [⟨2,36,some 4,PNe aa⟩] [] (.cons (fun _ _ _ h1 h2=>h2.stab h1)<|Stab.nil) ?_ ?_
 ·exact oc (g_ld 0 uN iN)<|oc g_mv<|oc (g_cE 0 (PNe aa) ent_J1 (fun u hB hs=>cFewN aa _ u (nl_1.up hB) ha12))<|oc (g_ld 1 uN iN)<|oc (g_cO 0 (PNe aa) (fun y=>[NV q,y,NV x]) ent_J2 (fun u y bZ hy=>by have h:=cEvalA q x aa y u ((hG.below hT1).below bZ) hq hx hy haI (by omega);rw[hre.out,hee.out] at h;exact h))<|oc g_mv<|oc g_ex<|oc g_ex<|oc (g_al 0 aN)<|oc (g_sn 0 iN)<|oc g_as on
 intro u2 b2_8 v2_2 hv2_2 HB2 sz2 K2
 simp only[sQ] at K2⊢
 go_upto_region 3 with fail
 refine rgP K2 HB2 HB2.size [] [(7,13,L0s,some (8,LN r))] [(0,42,NV q),(1,43,.slice sa aa.length ca),(2,44,NV x),(3,45,.tuple #[NV r,.int .i64 e0]),(4,41,.tuple #[NV r,.int .i64 e0]),(5,46,NV r),(6,47,.int .i64 e0),(9,14,.int .i64 e0)] [(8,7)] [] [] ?_ ?_
 ·exact oc (g_ld 0 uN iN)<|oc g_mv<|oc (g_ld 1 uN iN)<|oc (g_cb Zu (fun uZ bZ=>by have h:=xEvalR q x aa _ uZ hq hx (nl_1.up bZ) haI (by omega);rw[hre.out,hee.out] at h;exact h))<|oc g_mv<|oc g_ex<|oc g_ex<|oc (g_al 0 aN)<|oc (g_sn 0 iN)<|oc g_as on
 intro u3 b3_7 HB3 sz3 K3
 simp only[sQ] at K3⊢
 clear K2 HB2
 have hnK3:=K3.n
 simp at hnK3
 have hT3:Bw w u3:=Z4 hT1 HB3
 have nl_3:NL u3 (.slice sa aa.length ca) aa:=nl_1.up HB3
 have nm_3:NL u3 (.slice sb bs.length cb) bs:=nm_1.up HB3
 have xi_3:IL u3 (.slice si k ci) xs:=xi_1.up HB3
 have HBz3:Bw u3 u3:=Below.refl _ _
 obtain⟨ps,eps⟩: ∃r,ptX q aa xs=r:=⟨_,rfl⟩
 obtain⟨e1,ee1⟩: ∃r,ptY q aa xs=r:=⟨_,rfl⟩
 have hps:Hid (ptX q aa xs=ps):=eps
 have he1:Hid (ptY q aa xs=e1):=ee1
 have hpI:Hid (ps.length<=12/\ ∀p∈ps,In p.1/\In p.2):=by rw[<-eps];exact ptX_In hq hxb hx12
 clear eps ee1
 have K3_2:Bk u3.heap.size u3 [(false,w.heap.size,LN q),(false,w.heap.size+1,LN x),(false,b2_8,LN r),(false,b3_7,LN r)]:=⟨.c (K3.lt 0) (K3.cv 0)<| .c (K3.lt 1) (K3.cv 1)<| .c (K3.lt 2) (K3.cv 2)<| .c (K3.lt 3) (K3.cv 3)<|trivial,by simp<;>omega⟩
 go_upto_region 4 with fail
 refine rgE K3_2 HBz3 HBz3.size [] [] [(0,49,NV q),(1,50,.slice sa aa.length ca),(3,52,.slice si k ci),(8,56,.int .i64 e1),(10,16,.int .i64 e1)] [] [] [⟨2,51,some 5,PNe aa⟩,⟨4,53,some 5,PIe xs⟩,⟨5,54,none,PTp e1 ps⟩,⟨6,48,none,PTp e1 ps⟩,⟨7,55,some 9,PPe ps⟩,⟨9,15,none,PPe ps⟩] [] (.cons (fun _ _ _ h1 h2=>h2.stab h1)<| .cons (fun _ _ _ h1 h2=>h2.stab h1)<| .cons (fun _ _ _ h1 h2=>h2.stab h1)<| .cons (fun _ _ _ h1 h2=>h2.stab h1)<| .cons (fun _ _ _ h1 h2=>h2.stab h1)<| .cons (fun _ _ _ h1 h2=>h2.stab h1)<|Stab.nil) ?_ ?_
 ·exact oc (g_ld 0 uN iN)<|oc g_mv<|oc (g_cE 0 (PNe aa) ent_J1 (fun u hB hs=>cFewN aa _ u (nl_3.up hB) ha12))<|oc g_mv<|oc (g_cE 1 (PIe xs) ent_J3 (fun u hB hs=>cInts xs _ u (xi_3.up hB) (by omega)))<|oc (g_cD 0 1 2 (PNe aa) (PIe xs) (PTp e1 ps) ent_J4 (fun u y z bZ hs hy hz=>by have h:=cPointsA q aa xs y z u ((hG.below hT3).below bZ) hq hy haI (by omega) hz hxb (by omega);rw[hps.out,he1.out] at h;exact h.mono fun e u2 ⟨v,h1,h2,h3⟩=>⟨_,h1,⟨v,rfl,h2⟩,h3⟩))<|oc (g_mE 2 3 (PTp e1 ps))<|oc (g_xE 3 4 (PTp e1 ps) (PPe ps) (fun u v ⟨y,e,h⟩=>⟨_,y,e,rfl,h⟩))<|oc (g_xV 3 (PTp e1 ps) (fun u v ⟨y,e,h⟩=>⟨_,e,rfl⟩))<|oc (g_sE 4 5 (PPe ps))<|oc g_as on
 intro u4 v4_2 hv4_2 v4_4 hv4_4 v4_5 hv4_5 v4_6 hv4_6 v4_7 hv4_7 v4_9 hv4_9 HB4 sz4 K4
 simp only[sQ] at K4⊢
 have hp0:PtL u4 _ ps:=hv4_9 rfl
 have pa_0:=hp0
 obtain⟨sp,gp,op,cp,rfl,_⟩:=hp0
 have hnK4:=K4.n
 simp at hnK4
 have hT4:Bw w u4:=Z4 hT3 HB4
 have nl_4:NL u4 (.slice sa aa.length ca) aa:=nl_3.up HB4
 have nm_4:NL u4 (.slice sb bs.length cb) bs:=nm_3.up HB4
 have xi_4:IL u4 (.slice si k ci) xs:=xi_3.up HB4
 have pa_4:PtL u4 (.slice sp ps.length cp) ps:=pa_0
 have HBz4:Bw u4 u4:=Below.refl _ _
 have K4_3:Bk u4.heap.size u4 [(false,w.heap.size,LN q),(false,w.heap.size+1,LN x),(false,b2_8,LN r),(false,b3_7,LN r)]:=⟨.c (K4.lt 0) (K4.cv 0)<| .c (K4.lt 1) (K4.cv 1)<| .c (K4.lt 2) (K4.cv 2)<| .c (K4.lt 3) (K4.cv 3)<|trivial,by simp<;>omega⟩
 go_upto_region 5 with fail
 refine rgF K4_3 HBz4 HBz4.size [] [] [(0,58,NV q),(1,59,.slice sa aa.length ca),(2,60,.slice si k ci),(6,63,.int .i64 e1),(8,18,.int .i64 e1)] [] [] [⟨3,61,none,PTp e1 ps⟩,⟨4,57,none,PTp e1 ps⟩,⟨5,62,some 7,PPe ps⟩,⟨7,17,none,PPe ps⟩] [] (.cons (fun _ _ _ h1 h2=>h2.stab h1)<| .cons (fun _ _ _ h1 h2=>h2.stab h1)<| .cons (fun _ _ _ h1 h2=>h2.stab h1)<| .cons (fun _ _ _ h1 h2=>h2.stab h1)<|Stab.nil) ?_ ?_
 ·exact oc (g_ld 0 uN iN)<|oc g_mv<|oc g_mv<|oc (g_cE 0 (PTp e1 ps) ent_J5 (fun u bZ hs=>by have h:=xPointsA q aa xs _ _ u hq (nl_4.up bZ) haI (by omega) (xi_4.up bZ) hxb (by omega);rw[hps.out,he1.out] at h;exact h.mono fun e u2 ⟨v,h1,h2,h3⟩=>⟨_,h1,⟨v,rfl,h2⟩,h3⟩))<|oc (g_mE 0 1 (PTp e1 ps))<|oc (g_xE 1 2 (PTp e1 ps) (PPe ps) (fun u v ⟨y,e,h⟩=>⟨_,y,e,rfl,h⟩))<|oc (g_xV 1 (PTp e1 ps) (fun u v ⟨y,e,h⟩=>⟨_,e,rfl⟩))<|oc (g_sE 2 3 (PPe ps))<|oc g_as on
 intro u5 v5_3 hv5_3 v5_4 hv5_4 v5_5 hv5_5 v5_7 hv5_7 HB5 sz5 K5
 simp only[sQ] at K5⊢
 have hp1:PtL u5 _ ps:=hv5_7 rfl
 have pb_0:=hp1
 obtain⟨sr,gr,or,cr,rfl,_⟩:=hp1
 have hnK5:=K5.n
 simp at hnK5
 have hT5:Bw w u5:=Z4 hT4 HB5
 have nl_5:NL u5 (.slice sa aa.length ca) aa:=nl_4.up HB5
 have nm_5:NL u5 (.slice sb bs.length cb) bs:=nm_4.up HB5
 have xi_5:IL u5 (.slice si k ci) xs:=xi_4.up HB5
 have pa_5:PtL u5 (.slice sp ps.length cp) ps:=pa_4.up HB5
 have pb_5:PtL u5 (.slice sr ps.length cr) ps:=pb_0
 have HBz5:Bw u5 u5:=Below.refl _ _
 obtain⟨cs,ecs⟩: ∃r,adX q aa bs=r:=⟨_,rfl⟩
 obtain⟨e2,ee2⟩: ∃r,adY q aa bs=r:=⟨_,rfl⟩
 have hcs:Hid (adX q aa bs=cs):=ecs
 have he2:Hid (adY q aa bs=e2):=ee2
 have hcI:Hid (cs.length<=12/\ ∀z∈cs,In z):=by rw[<-ecs];exact adX_In hq ha12 hb12
 clear ecs ee2
 have K5_4:Bk u5.heap.size u5 [(false,w.heap.size,LN q),(false,w.heap.size+1,LN x),(false,b2_8,LN r),(false,b3_7,LN r)]:=⟨.c (K5.lt 0) (K5.cv 0)<| .c (K5.lt 1) (K5.cv 1)<| .c (K5.lt 2) (K5.cv 2)<| .c (K5.lt 3) (K5.cv 3)<|trivial,by simp<;>omega⟩
 go_upto_region 6 with fail
 refine rgE K5_4 HBz5 HBz5.size [] [] [(0,65,NV q),(1,66,.slice sa aa.length ca),(3,68,.slice sb bs.length cb),(8,72,.int .i64 e2),(10,20,.int .i64 e2)] [] [] [⟨2,67,some 5,PNe aa⟩,⟨4,69,some 5,PNe bs⟩,⟨5,70,none,PTn e2 cs⟩,⟨6,64,none,PTn e2 cs⟩,⟨7,71,some 9,PNe cs⟩,⟨9,19,none,PNe cs⟩] [] (.cons (fun _ _ _ h1 h2=>h2.stab h1)<| .cons (fun _ _ _ h1 h2=>h2.stab h1)<| .cons (fun _ _ _ h1 h2=>h2.stab h1)<| .cons (fun _ _ _ h1 h2=>h2.stab h1)<| .cons (fun _ _ _ h1 h2=>h2.stab h1)<| .cons (fun _ _ _ h1 h2=>h2.stab h1)<|Stab.nil) ?_ ?_
 ·exact oc (g_ld 0 uN iN)<|oc g_mv<|oc (g_cE 0 (PNe aa) ent_J1 (fun u hB hs=>cFewN aa _ u (nl_5.up hB) ha12))<|oc g_mv<|oc (g_cE 1 (PNe bs) ent_J1 (fun u hB hs=>cFewN bs _ u (nm_5.up hB) hb12))<|oc (g_cD 0 1 2 (PNe aa) (PNe bs) (PTn e2 cs) ent_J6 (fun u y z bZ hs hy hz=>by have h:=cAddA q aa bs y z u ((hG.below hT5).below bZ) hq hy haI (by omega) hz hbI (by omega);rw[hcs.out,he2.out] at h;exact h.mono fun e u2 ⟨v,h1,h2,h3⟩=>⟨_,h1,⟨v,rfl,h2⟩,h3⟩))<|oc (g_mE 2 3 (PTn e2 cs))<|oc (g_xE 3 4 (PTn e2 cs) (PNe cs) (fun u v ⟨y,e,h⟩=>⟨_,y,e,rfl,h⟩))<|oc (g_xV 3 (PTn e2 cs) (fun u v ⟨y,e,h⟩=>⟨_,e,rfl⟩))<|oc (g_sE 4 5 (PNe cs))<|oc g_as on
 intro u6 v6_2 hv6_2 v6_4 hv6_4 v6_5 hv6_5 v6_6 hv6_6 v6_7 hv6_7 v6_9 hv6_9 HB6 sz6 K6
 simp only[sQ] at K6⊢
 have hc0:NL u6 _ cs:=hv6_9 rfl
 have na_0:=hc0
 obtain⟨sc,gc,oc_,cc,rfl,_⟩:=hc0
 have hnK6:=K6.n
 simp at hnK6
 have hT6:Bw w u6:=Z4 hT5 HB6
 have nl_6:NL u6 (.slice sa aa.length ca) aa:=nl_5.up HB6
 have nm_6:NL u6 (.slice sb bs.length cb) bs:=nm_5.up HB6
 have xi_6:IL u6 (.slice si k ci) xs:=xi_5.up HB6
 have pa_6:PtL u6 (.slice sp ps.length cp) ps:=pa_5.up HB6
 have pb_6:PtL u6 (.slice sr ps.length cr) ps:=pb_5.up HB6
 have na_6:NL u6 (.slice sc cs.length cc) cs:=na_0
 have HBz6:Bw u6 u6:=Below.refl _ _
 have K6_5:Bk u6.heap.size u6 [(false,w.heap.size,LN q),(false,w.heap.size+1,LN x),(false,b2_8,LN r),(false,b3_7,LN r)]:=⟨.c (K6.lt 0) (K6.cv 0)<| .c (K6.lt 1) (K6.cv 1)<| .c (K6.lt 2) (K6.cv 2)<| .c (K6.lt 3) (K6.cv 3)<|trivial,by simp<;>omega⟩
 go_upto_region 7 with fail
 refine rgF K6_5 HBz6 HBz6.size [] [] [(0,74,NV q),(1,75,.slice sa aa.length ca),(2,76,.slice sb bs.length cb),(6,79,.int .i64 e2),(8,22,.int .i64 e2)] [] [] [⟨3,77,none,PTn e2 cs⟩,⟨4,73,none,PTn e2 cs⟩,⟨5,78,some 7,PNe cs⟩,⟨7,21,none,PNe cs⟩] [] (.cons (fun _ _ _ h1 h2=>h2.stab h1)<| .cons (fun _ _ _ h1 h2=>h2.stab h1)<| .cons (fun _ _ _ h1 h2=>h2.stab h1)<| .cons (fun _ _ _ h1 h2=>h2.stab h1)<|Stab.nil) ?_ ?_
 ·exact oc (g_ld 0 uN iN)<|oc g_mv<|oc g_mv<|oc (g_cE 0 (PTn e2 cs) ent_J7 (fun u bZ hs=>by have h:=xAddA q aa bs _ _ u hq (nl_6.up bZ) haI (by omega) (nm_6.up bZ) hbI (by omega);rw[hcs.out,he2.out] at h;exact h.mono fun e u2 ⟨v,h1,h2,h3⟩=>⟨_,h1,⟨v,rfl,h2⟩,h3⟩))<|oc (g_mE 0 1 (PTn e2 cs))<|oc (g_xE 1 2 (PTn e2 cs) (PNe cs) (fun u v ⟨y,e,h⟩=>⟨_,y,e,rfl,h⟩))<|oc (g_xV 1 (PTn e2 cs) (fun u v ⟨y,e,h⟩=>⟨_,e,rfl⟩))<|oc (g_sE 2 3 (PNe cs))<|oc g_as on
 intro u7 v7_3 hv7_3 v7_4 hv7_4 v7_5 hv7_5 v7_7 hv7_7 HB7 sz7 K7
 simp only[sQ] at K7⊢
 have hc1:NL u7 _ cs:=hv7_7 rfl
 have nb_0:=hc1
 obtain⟨sd,gd,od,cd,rfl,_⟩:=hc1
 have hnK7:=K7.n
 simp at hnK7
 have hT7:Bw w u7:=Z4 hT6 HB7
 have nl_7:NL u7 (.slice sa aa.length ca) aa:=nl_6.up HB7
 have nm_7:NL u7 (.slice sb bs.length cb) bs:=nm_6.up HB7
 have xi_7:IL u7 (.slice si k ci) xs:=xi_6.up HB7
 have pa_7:PtL u7 (.slice sp ps.length cp) ps:=pa_6.up HB7
 have pb_7:PtL u7 (.slice sr ps.length cr) ps:=pb_6.up HB7
 have na_7:NL u7 (.slice sc cs.length cc) cs:=na_6.up HB7
 have nb_7:NL u7 (.slice sd cs.length cd) cs:=nb_0
 have HBz7:Bw u7 u7:=Below.refl _ _
 have hne:(((ps.length:Nat):Int) !=((ps.length:Nat):Int))=false:=by simp
 have K7_6:Bk u7.heap.size u7 [(false,w.heap.size,LN q),(false,w.heap.size+1,LN x),(false,b2_8,LN r),(false,b3_7,LN r)]:=⟨.c (K7.lt 0) (K7.cv 0)<| .c (K7.lt 1) (K7.cv 1)<| .c (K7.lt 2) (K7.cv 2)<| .c (K7.lt 3) (K7.cv 3)<|trivial,by simp<;>omega⟩
 go_upto_region 8 with fail
 refine rgP K7_6 HBz7 HBz7.size [] [] [(0,80,.slice sp ps.length cp),(1,81,.int .i64 (ps.length:Int)),(2,82,.slice sr ps.length cr),(3,83,.int .i64 (ps.length:Int)),(4,84,.bool false)] [] [] [] ?_ ?_
 ·exact oc g_mv<|oc (g_ln Tryz.underlying31)<|oc g_mv<|oc (g_ln Tryz.underlying35)<|oc (g_bn (fun uZ=>neq_i _ _ _ (ps.length:Int) (ps.length:Int) _ uZ hne)) on
 intro u8 HB8 sz8 K8
 simp only[sQ] at K8⊢
 go_upto_region 10 with fail
 refine rgP K8 HB8 HB8.size [] [] [(0,23,(Go.Value.int Go.IntKind.i64 0))] [] [] [] ?_ ?_
 ·exact oc g_as on
 intro u9 HB9 sz9 K9
 simp only[sQ] at K9⊢
 clear K8 HB8
 have hnK9:=K9.n
 simp at hnK9
 have hT9:Bw w u9:=Z4 hT7 HB9
 have nl_9:NL u9 (.slice sa aa.length ca) aa:=nl_7.up HB9
 have nm_9:NL u9 (.slice sb bs.length cb) bs:=nm_7.up HB9
 have xi_9:IL u9 (.slice si k ci) xs:=xi_7.up HB9
 have pa_9:PtL u9 (.slice sp ps.length cp) ps:=pa_7.up HB9
 have pb_9:PtL u9 (.slice sr ps.length cr) ps:=pb_7.up HB9
 have na_9:NL u9 (.slice sc cs.length cc) cs:=na_7.up HB9
 have nb_9:NL u9 (.slice sd cs.length cd) cs:=nb_7.up HB9
 have HBz9:Bw u9 u9:=Below.refl _ _
 go_wp2_with fail
 go_loopw [23] (fun s23 wr=> ∃(i:Nat),i<=ps.length/\s23= .int .i64 (i:Int)/\Bw u9 wr) (fun s23 _=>ps.length -(intOf s23).toNat)
 case atStart=>exact⟨0,by omega,rfl,Below.refl _ _⟩
 case round=>
  obtain⟨i,hi,rfl,HBr⟩:=hrel
  obtain⟨wo,rfl⟩: ∃x,x=wr:=⟨_,rfl⟩
  have Kx:CV wo b2_8 (LN r):=CV.below (K9.cv 2) HBr (K9.lt 2)
  have lx:b2_8<wo.heap.size:=Nat.lt_of_lt_of_le (K9.lt 2) HBr.size
  have Ky:CV wo b3_7 (LN r):=CV.below (K9.cv 3) HBr (K9.lt 3)
  have ly:b3_7<wo.heap.size:=Nat.lt_of_lt_of_le (K9.lt 3) HBr.size
  have hTw:Bw w wo:=Z4 hT9 HBr
  have HBw:Bw wo wo:=Below.refl _ _
  have pa_w:PtL wo (.slice sp ps.length cp) ps:=pa_9.up HBr
  have pb_w:PtL wo (.slice sr ps.length cr) ps:=pb_9.up HBr
  have na_w:NL wo (.slice sc cs.length cc) cs:=na_9.up HBr
  have nb_w:NL wo (.slice sd cs.length cd) cs:=nb_9.up HBr
  by_cases hj:i<ps.length
  ·have hl:decide ((i:Int)<(ps.length:Int))=true:=by simp;omega
   have hp12:=hpI.out.1
   obtain⟨ga,oa,hga,rfl,hRa,hRa2⟩:=pt_at pa_w hj
   obtain⟨gb,ob,hgb,rfl,hRb,hRb2⟩:=pt_at pb_w hj
   have hIp:=hpI.out.2 (ps.getD i (0,0)) (by simp[List.getElem?_eq_getElem hj])
   obtain⟨px,ex⟩: ∃z,(ps.getD i (0,0)).1=z:=⟨_,rfl⟩
   obtain⟨py,ey⟩: ∃z,(ps.getD i (0,0)).2=z:=⟨_,rfl⟩
   rw[ex,ey] at hIp
   rw[ex] at hRa hRb
   rw[ey] at hRa2 hRb2
   clear ex ey
   have hRa:Hid _:=hRa
   have hRb:Hid _:=hRb
   have hRa2:Hid _:=hRa2
   have hRb2:Hid _:=hRb2
   have K9_7:Bk wo.heap.size wo [(false,b2_8,LN r),(false,b3_7,LN r)]:=⟨.c lx Kx<| .c ly Ky<|trivial,by simp<;>omega⟩
   go_upto_region 11 with fail
   refine rgP K9_7 HBw HBw.size [] [] [(0,85,.int .i64 (i:Int)),(1,86,.slice (some ⟨ga,oa,none⟩) ps.length cp),(2,87,.int .i64 (ps.length:Int)),(3,88,.bool true)] [] [] [] ?_ ?_
   ·exact oc g_mv<|oc g_mv<|oc (g_ln Tryz.underlying31)<|oc (g_bn (fun uZ=>Z7 _ _ (i:Int) (ps.length:Int) _ uZ hl)) on
   intro u10 HB10 sz10 K10
   simp only[sQ] at K10⊢
   go_upto_region 13 with fail
   refine rgD K10 HB10 HB10.size [] [] [(0,91,.slice (some ⟨ga,oa,none⟩) ps.length cp),(1,92,.int .i64 (i:Int)),(2,93,.pointer (some ⟨ga,oa+8*i,none⟩)),(3,94,.pointer (some ⟨ga,oa+8*i,none⟩)),(4,95,NV px),(5,96,.slice (some ⟨gb,ob,none⟩) ps.length cr),(6,97,.int .i64 (i:Int)),(7,98,.pointer (some ⟨gb,ob+8*i,none⟩)),(8,99,.pointer (some ⟨gb,ob+8*i,none⟩)),(9,100,NV px),(10,101,.bool false),(11,102,.bool false),(12,103,.slice (some ⟨ga,oa,none⟩) ps.length cp),(13,104,.int .i64 (i:Int)),(14,105,.pointer (some ⟨ga,oa+8*i,none⟩)),(15,106,.pointer (some ⟨ga,oa+8*i+4,none⟩)),(16,107,NV py),(17,108,.slice (some ⟨gb,ob,none⟩) ps.length cr),(18,109,.int .i64 (i:Int)),(19,110,.pointer (some ⟨gb,ob+8*i,none⟩)),(20,111,.pointer (some ⟨gb,ob+8*i+4,none⟩)),(21,112,NV py),(22,113,.bool false),(23,114,.bool false)] [] [] [] ?_ ?_
   ·exact oc g_mv<|oc g_mv<|oc (g_ix (fun uZ=>ixP _ _ _ _ i hj uZ))<|oc (g_fd (fun uZ=>fdJ0 _ _ uZ))<|oc (g_lf hRa.out hga uN iN)<|oc g_mv<|oc g_mv<|oc (g_ix (fun uZ=>ixR _ _ _ _ i hj uZ))<|oc (g_fd (fun uZ=>fdR0 _ _ uZ))<|oc (g_lf hRb.out hgb uN iN)<|oc (g_bn (fun uZ=>neq_n _ _ hIp.1 hIp.1 false (by simp) uZ))<|oc g_mv<|oc g_mv<|oc g_mv<|oc (g_ix (fun uZ=>ixP _ _ _ _ i hj uZ))<|oc (g_fd (fun uZ=>fdJ1 _ _ uZ))<|oc (g_lf hRa2.out hga uN iN)<|oc g_mv<|oc g_mv<|oc (g_ix (fun uZ=>ixR _ _ _ _ i hj uZ))<|oc (g_fd (fun uZ=>fdR1 _ _ uZ))<|oc (g_lf hRb2.out hgb uN iN)<|oc (g_bn (fun uZ=>neq_n _ _ hIp.2 hIp.2 false (by simp) uZ))<|oc g_pk on
   intro u11 HB11 sz11 K11
   simp only[sQ] at K11⊢
   clear K10 HB10
   go_upto_region 12 with fail
   refine rgP K11 HB11 HB11.size [] [] [(0,89,.int .i64 (i:Int)),(1,90,.int .i64 ((i+1:Nat):Int)),(2,23,.int .i64 ((i+1:Nat):Int))] [(2,0)] [(2,23)] [] ?_ ?_
   ·exact oc g_mv<|oc (g_bn (fun uZ=>Yy _ _ (i:Int) 1 ((i+1:Nat):Int) uZ (by omega) (by omega) (by omega)))<|oc g_as on
   intro u12 HB12 sz12 K12
   simp only[sQ] at K12⊢
   clear K11 HB11
   go_wp2
   exact⟨⟨i+1,by omega,rfl,Z4 HBr HB12⟩,by simp[intOf]<;>omega⟩
  ·have hl:decide ((i:Int)<(ps.length:Int))=false:=by simp;omega
   have K9_7:Bk wo.heap.size wo [(false,b2_8,LN r),(false,b3_7,LN r)]:=⟨.c lx Kx<| .c ly Ky<|trivial,by simp<;>omega⟩
   go_upto_region 11 with fail
   refine rgP K9_7 HBw HBw.size [] [] [(0,85,.int .i64 (i:Int)),(1,86,.slice sp ps.length cp),(2,87,.int .i64 (ps.length:Int)),(3,88,.bool false)] [] [] [] ?_ ?_
   ·exact oc g_mv<|oc g_mv<|oc (g_ln Tryz.underlying31)<|oc (g_bn (fun uZ=>Z7 _ _ (i:Int) (ps.length:Int) _ uZ hl)) on
   intro u10 HB10 sz10 K10
   simp only[sQ] at K10⊢
   go_upto_region 15 with fail
   refine rgP K10 HB10 HB10.size [] [] [(0,115,NV r),(1,116,NV r),(2,117,.bool true),(3,118,.bool true),(4,119,.int .i64 e0),(5,120,.int .i64 e0),(6,121,.bool true),(7,122,.bool true),(8,123,.bool true),(9,124,.int .i64 e1),(10,125,.int .i64 e1),(11,126,.bool true),(12,127,.bool true),(13,128,.bool true),(14,129,.slice sc cs.length cc),(15,130,.slice sd cs.length cd),(16,131,.bool true),(17,132,.bool true),(18,133,.bool true),(19,134,.int .i64 e2),(20,135,.int .i64 e2),(21,136,.bool true),(22,137,.bool true),(23,138,.bool true),(24,139,.bool true),(25,140,.bool true),(26,10,.bool true)] [] [] [] ?_ ?_
   ·exact oc (g_ld 0 uN iN)<|oc (g_ld 1 uN iN)<|oc (g_bn (fun uZ=>eql_n _ _ ir ir true (by simp) uZ))<|oc g_mv<|oc g_mv<|oc g_mv<|oc (g_bn (fun uZ=>eqlJ _ _ e0 uZ))<|oc g_pk<|oc g_mv<|oc g_mv<|oc g_mv<|oc (g_bn (fun uZ=>eqlJ _ _ e1 uZ))<|oc g_pk<|oc g_mv<|oc g_mv<|oc g_mv<|oc (g_cb Y7 (fun uZ bZ=>cSameN cs _ _ uZ (na_w.up bZ) (nb_w.up bZ) hcI.out.2 (by have:=hcI.out.1;omega)))<|oc g_pk<|oc g_mv<|oc g_mv<|oc g_mv<|oc (g_bn (fun uZ=>eqlJ _ _ e2 uZ))<|oc g_pk<|oc g_mv<|oc (g_cb Ye (fun uZ bZ=>cWorks uZ (hG.below (Z4 hTw bZ))))<|oc g_pk<|oc g_as on
   intro u11 HB11 sz11 K11
   simp only[sQ] at K11⊢
   clear K10 HB10
   go_wp2
   exact bodyPost_ret (v:= .bool true) (by simp[results,Tryz.results3,go_sem]) rfl ⟨rfl,Z4 hTw HB11⟩
theorem cFewE(sl:Option Addr)(len cap gb go:Nat)(ns:List Int)(w:World)(n1:min len 12=ns.length)(n2:len<=cap)(n3:sl=none->cap=0)(n4:cap=0\/sl=some ⟨gb,go,none⟩)(n5:ns.length=0\/gb<w.heap.size)(n6:SN w gb go ns): ∀u,Bw w u->Calls Tryz.prog 7 #[.slice sl len cap] u fun e u'=> ∃y,e= .returned y/\PNe ns u' y/\Bw u u':=fun u hB=>
 few_core sl len cap ns.length gb go ns u (by omega) rfl (by omega) n2 n3 (by omega) (n4.imp (fun e=>by omega) id) (n5.imp id fun e=>Nat.lt_of_lt_of_le e hB.size) (n6.below2 hB n5)
theorem polyEvals_any(q x:Int)(s0 s1 si:Option Addr)(L0_ c0_ g0 o0 L1_ c1_ g1 o1 Li ci gi oi:Nat)(aa bs:List Int)(fx:Nat->Int)(w:World)(hG:GP w)(hq:In q)(hx:In x)(haI: ∀z∈aa,In z)(hbI: ∀z∈bs,In z)(n1:min L0_ 12=aa.length)(n2:L0_<=c0_)(n3:s0=none->c0_=0)(n4:c0_=0\/s0=some ⟨g0,o0,none⟩)(n5:aa.length=0\/g0<w.heap.size)(n6:SN w g0 o0 aa)(m1:min L1_ 12=bs.length)(m2:L1_<=c1_)(m3:s1=none->c1_=0)(m4:c1_=0\/s1=some ⟨g1,o1,none⟩)(m5:bs.length=0\/g1<w.heap.size)(m6:SN w g1 o1 bs)(k2:Li<=ci)(k3:si=none->ci=0)(k4:0<Li->si=some ⟨gi,oi,none⟩/\gi<w.heap.size)(k5: ∀j,j<Li->w.cell? ⟨gi,oi+j,none⟩=some (.int .i64 (fx j)))(k6: ∀j,j<Li-> -9223372036854775808<=fx j/\fx j<9223372036854775808):
 CC 3 #[NV q,.slice s0 L0_ c0_,.slice s1 L1_ c1_,NV x,.slice si Li ci] w (.bool true):=by
 obtain⟨k,hk⟩: ∃k,min Li 12=k:=⟨_,rfl⟩
 have hlen:(tab k fx).length=k:=Yi _ _
 refine polyEvals_core q x s0 s1 si L0_ c0_ L1_ c1_ Li ci k aa bs (tab k fx) w hG hq hx haI hbI (by omega) (by omega) (by omega) (fun z hz=>?_) (by omega) (by omega) k2 k3 ⟨si,gi,oi,ci,by rw[hlen],by rw[hlen];omega,k3,?_,?_,fun j hj=>?_⟩ (cFewE s0 L0_ c0_ g0 o0 aa w n1 n2 n3 n4 n5 n6) (cFewE s1 L1_ c1_ g1 o1 bs w m1 m2 m3 m4 m5 m6)
 ·simp only[tab,List.mem_map,List.mem_range] at hz
  obtain⟨j,hj,rfl⟩:=hz
  have:=k6 j (by omega)
  omega
 ·by_cases h:0<Li
  ·exact .inr (k4 h).1
  ·left;have:k=0:=by omega
   subst this;rfl
 ·by_cases h:0<Li
  ·exact .inr (k4 h).2
  ·left;rw[hlen];omega
 ·rw[hlen] at hj
  rw[X7 hj];exact k5 j (by omega)
end Go.Proofs.YtgieoghechekpaaGreatDoor
