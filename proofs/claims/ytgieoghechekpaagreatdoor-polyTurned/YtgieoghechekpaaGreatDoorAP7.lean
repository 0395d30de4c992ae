import Derived.Test.YtgieoghechekpaaGreatDoorAP2
namespace Go.Proofs.YtgieoghechekpaaGreatDoor
set_option linter.unusedVariables false
set_option linter.unusedSimpArgs false
set_option maxRecDepth 100000
set_option maxHeartbeats 4000000
open Go.RowKit
section
theorem neq_no(p:Operand)(c:Value)(w:World):(do eqGuard .neq 63 p (.const c) .nilIface .nilIface;binOp .neq 63 .nilIface .nilIface:Sem Value).run Tryz.prog w= .ok (.bool false) w:=by go_simp
theorem cviP{o:Oper}{ev:Operand->Value}{x:Operand}{n:Int}(u:World)(h0:0<=n)(h1:n<=9223372036854775807)(ho:o.op= .convert 3 22 x)(hx:ev x= .int .i64 n):(execOp ev o).run Tryz.prog u= .ok (.value (.int .u64 n)) u:=by
 have e1:IntKind.u64.wrap n=n:=by simp[IntKind.wrap,IntKind.signed,IntKind.bits];omega
 unfold execOp;rw[ho];simp only[hx];go_simp
theorem lIp{b c:Nat}{v:Int}(w:World)(h:w.cell? ⟨b,c,none⟩=some (.int .i64 v)):(Instr.loadAt 3 (.pointer (some ⟨b,c,none⟩))).run Tryz.prog w= .ok (.int .i64 v) w:=by go_simp
theorem ixI(g o n cap j:Nat)(h:j<n)(w:World):(Instr.indexAt 26 (.slice (some ⟨g,o,none⟩) n cap) (.int .i64 j)).run Tryz.prog w= .ok (.pointer (some ⟨g,o+j,none⟩)) w:=by
 have hj:(j:Int)<n:=by omega
 go_simp
def PE0(u:World)(v:Value):Prop:= ∃b,v= .slice (some ⟨b,0,none⟩) 2 2/\b<u.heap.size/\u.cell? ⟨b,0,none⟩=some .nilIface/\u.cell? ⟨b,1,none⟩=some .nilIface
theorem PE0.stab{u u2:World}{x:Value}(hB:Bw u u2)(h:PE0 u x):PE0 u2 x:=by
 obtain⟨b,e,h1,h2,h3⟩:=h
 exact⟨b,e,Nat.lt_of_lt_of_le h1 hB.size,(hB.cell (p:=⟨b,0,none⟩) h1).trans h2,(hB.cell (p:=⟨b,1,none⟩) h1).trans h3⟩
theorem bsE00(w:World):(Instr.buildSlice 98 2 ([0,1].zip [.nilIface,.nilIface]).toArray).run Tryz.prog w= .ok (.slice (some ⟨w.heap.size,0,none⟩) 2 2) (w.alloc (.cells [Value.nilIface,.nilIface].toArray 63)):=by kernel_rfl
theorem PE0.new(u:World):PE0 (u.alloc (.cells [Value.nilIface,.nilIface].toArray 63)) (.slice (some ⟨u.heap.size,0,none⟩) 2 2):=⟨_,rfl,by simp,by simp,by simp⟩
theorem cJoin0(y:Value)(w:World)(h:PE0 w y):CC 33 #[y] w .nilIface:=by
 obtain⟨b,rfl,h1,h2,h3⟩:=h
 refine(X7 b 2 .nilIface .nilIface false false w h1 h2 h3 (.inl ⟨rfl,rfl⟩) (.inl ⟨rfl,rfl⟩)).mono ?_
 rintro e u ⟨y,rfl,hy,hB⟩
 obtain rfl:=hy.no
 exact⟨rfl,hB⟩
def rowP(ps:List (Int×Int))(k:Nat):List Int:=flt (ps.take k)++List.replicate (2*(ps.length -k)) 0
theorem rowP_0(ps:List (Int×Int)):rowP ps 0=List.replicate (2*ps.length) 0:=by simp[rowP,flt]
theorem rowP_end(ps:List (Int×Int)):rowP ps ps.length=flt ps:=by simp[rowP]
theorem rowP_split{ps:List (Int×Int)}{k:Nat}(h:k<ps.length):flN (rowP ps k)=flN (flt (ps.take k))++PtE 0 0++flN (List.replicate (2*(ps.length -(k+1))) 0):=by
 rw[rowP,show 2*(ps.length -k)=(2*(ps.length -(k+1)))+1+1 by omega,List.replicate_succ,List.replicate_succ,Y1,flN,flN,List.append_assoc];rfl
theorem rowP_next{ps:List (Int×Int)}{k:Nat}(h:k<ps.length):flN (rowP ps (k+1))=flN (flt (ps.take k))++PtE (ps.getD k (0,0)).1 (ps.getD k (0,0)).2++flN (List.replicate (2*(ps.length -(k+1))) 0):=by
 rw[rowP,Y1,List.take_add_one,List.getElem?_eq_getElem h,flt_app,Y1]
 simp[flt,flN,List.getElem?_eq_getElem h]
def PRy(lo n:Nat)(u:World)(v:Value):Prop:= ∃b,v= .slice (some ⟨b,0,none⟩) n n/\lo<=b/\b<u.heap.size/\CV u b (flN (List.replicate (2*n) 0))
theorem PRy.stab{lo n:Nat}{u u2:World}{x:Value}(hB:Bw u u2)(h:PRy lo n u x):PRy lo n u2 x:=by
 obtain⟨b,e,h1,h2,h3⟩:=h
 exact⟨b,e,h1,Nat.lt_of_lt_of_le h2 hB.size,h3.below hB h2⟩
theorem PRy.new{lo n:Nat}{T:TypeId}(u:World)(h:lo<=u.heap.size):PRy lo n (u.alloc (.cells (flN (List.replicate (2*n) 0)).toArray T)) (.slice (some ⟨u.heap.size,0,none⟩) n n):=
 ⟨_,rfl,h,by simp,CV.new u _ _⟩
theorem ixPZ(g n cap j:Nat)(h:j<n)(w:World):(Instr.indexAt 31 (.slice (some ⟨g,0,none⟩) n cap) (.int .i64 j)).run Tryz.prog w= .ok (.pointer (some ⟨g,8*j,none⟩)) w:=by
 have:=ixP g 0 n cap j h w
 rwa [Nat.zero_add] at this
section
variable {R:Rg} {P:Program} {Q:Exit->Act->World->Prop} {ops:Array Oper} {i:Nat} {o:Oper}
theorem g_lgp(gb c:Nat){T:TypeId}{x:Operand}{v:Value}(hr: ∀w,w.cell? ⟨gb,c,none⟩=some v->(Instr.loadAt T (.pointer (some ⟨gb,c,none⟩))).run P w= .ok v w)(hc0:R.w.cell? ⟨gb,c,none⟩=some v)(hb:gb<R.lo)(hop:o.op= .load T x:=by rfl)(hx:evR R i o x=some (.pointer (some ⟨gb,c,none⟩)):=by rfl)(hv:some v=Zl i R.G:=by rfl)(hc:R.chk ops i o=true:=by rfl):OG R P ops Q i o:=
 Zm hv hc fun f t u a X K hK=>wp_load hop (X.ev hx) (hr u ((X.I.1.bel.cell (p:=⟨gb,c,none⟩) hb).trans hc0)) hK
end
theorem Zx:EnT 27:=fun _ _=>by kernel_rfl
theorem Yt:EnT 29:=fun _ _=>by kernel_rfl
theorem ent_poly_places:EnT 34:=fun _ _=>by kernel_rfl
theorem Yo:EnT 33:=fun _ _=>by kernel_rfl
theorem eval_ok(q x r:Int)(sl:Option Addr)(n cap:Nat)(w:World)(hP:Hid (∀u,Bw w u->CC 27 #[NV q,.slice sl n cap] u (.nilIface)))(hV:Hid (∀u,Bw w u->CC 29 #[NV q,.slice sl n cap,NV x] u (NV r))):
 CC 8 #[NV q,.slice sl n cap,NV x] w (.tuple #[NV r,.int .i64 0]):=by
 go_enter Tryz.func8,Tryz.ntmps8
 go_upto_region 1 with fail
 generalize hC:(((w.alloc (.cells (LN q:List Value).toArray 24)).alloc (.cells (LN x:List Value).toArray 24)).alloc (.cells (L0s:List Value).toArray 24))=v0 at *
 have HB0:Bw w v0:=by rw[<-hC];exact Z0 (Z0 (Z0 (Z2 w) _) _) _
 have K0:Bk w.heap.size v0 [(true,w.heap.size,LN q),(true,w.heap.size+1,LN x),(true,w.heap.size+1+1,L0s)]:=by rw[<-hC];exact(Bk.nil _ w).ad.ad.ad
 clear hC
 refine rgP K0 HB0 HB0.size [] [] [(0,9,NV q),(1,10,.slice sl n cap),(2,11,.nilIface),(3,8,.nilIface)] [] [] [] ?_ ?_
 ·exact oc (g_ld 0 uN iN)<|oc g_mv<|oc (g_cb Zx (fun uZ bZ=>hP.out uZ bZ))<|oc g_as on
 intro u1 HB1 sz1 K1
 simp only[sQ] at K1⊢
 clear K0 HB0
 go_upto_region 2 with fail
 refine rgP K1 HB1 HB1.size [] [] [(0,12,.nilIface),(1,13,.bool false)] [] [] [] ?_ ?_
 ·exact oc g_mv<|oc (g_bn (fun uZ=>neq_no _ _ uZ)) on
 intro u2 HB2 sz2 K2
 simp only[sQ] at K2⊢
 clear K1 HB1
 go_upto_region 4 with fail
 refine rgP K2 HB2 HB2.size [.no,.no,.all 4 (LN r)] [] [(0,17,NV q),(1,18,.slice sl n cap),(2,19,NV x),(3,20,NV r),(5,7,(Go.Value.int Go.IntKind.i64 0))] [] [] [false,false] ?_ ?_
 ·exact oc (g_ld 0 uN iN)<|oc g_mv<|oc (g_ld 1 uN iN)<|oc (g_cb Yt (fun uZ bZ=>hV.out uZ bZ))<|oc (g_st 2 iN)<|oc g_as on
 intro u3 HB3 sz3 K3
 simp only[sQ] at K3⊢
 clear K2 HB2
 have c6:=(K3.cv 0).n4
 go_wp2
 refine bodyPost_ret (v:= .tuple #[NV r,.int .i64 0]) (by simp[results,Tryz.results8,go_sem,c6]) rfl ⟨rfl,HB3⟩
theorem points_ok(q:Int)(sl si:Option Addr)(n cap gi oi ci:Nat)(xs:List Int)(ps:List (Int×Int))(fy:Nat->Int)(w:World)(hns:xs.length<=1000)(hP:Hid (∀u,Bw w u->CC 27 #[NV q,.slice sl n cap] u (.nilIface)))(hL:Hid (∀u,Bw w u->CC 34 #[.slice si xs.length ci] u (.nilIface)))(hpl:Hid (ps.length=xs.length))(hpp:Hid (∀k,k<xs.length->ps.getD k (0,0)=(xs.getD k 0,fy k)))(hsi:Hid (0<xs.length->si=some ⟨gi,oi,none⟩/\gi<w.heap.size))(hci:Hid (∀k,k<xs.length->w.cell? ⟨gi,oi+k,none⟩=some (.int .i64 (xs.getD k 0))))(hxb:Hid (∀k,k<xs.length->0<=xs.getD k 0/\xs.getD k 0<=9223372036854775807))(hv:Hid (∀k u,k<xs.length->Bw w u->CC 29 #[NV q,.slice sl n cap,NV (xs.getD k 0)] u (NV (fy k)))):
 Calls Tryz.prog 10 #[NV q,.slice sl n cap,.slice si xs.length ci] w fun e' w'=> ∃y,e'= .returned (.tuple #[y,.int .i64 0])/\PRp w.heap.size ps w' y/\Bw w w':=by
 go_enter Tryz.func10,Tryz.ntmps10
 go_upto_region 1 with fail
 generalize hC:(w.alloc (.cells (LN q:List Value).toArray 24))=v0 at *
 have HB0:Bw w v0:=by rw[<-hC];exact Z0 (Z2 w) _
 have K0:Bk w.heap.size v0 [(true,w.heap.size,LN q)]:=by rw[<-hC];exact(Bk.nil _ w).ad
 clear hC
 refine rgF K0 HB0 HB0.size [] [] [(0,13,NV q),(1,14,.slice sl n cap),(2,15,.nilIface),(3,16,.slice si xs.length ci),(4,17,.nilIface),(6,19,.nilIface),(7,8,.nilIface)] [] [] [⟨5,18,some 6,PE0⟩] [] (.cons (fun _ _ _ h1 h2=>h2.stab h1)<|Stab.nil) ?_ ?_
 ·exact oc (g_ld 0 uN iN)<|oc g_mv<|oc (g_cb Zx (fun uZ bZ=>hP.out uZ bZ))<|oc g_mv<|oc (g_cb ent_poly_places (fun uZ bZ=>hL.out uZ bZ))<|oc (g_bR 0 PE0 [0,1] [.nilIface,.nilIface] [.nilIface,.nilIface] bsE00 (fun u hu=>PE0.new u))<|oc (g_c1 0 PE0 Yo (fun uZ yZ _ hZ=>cJoin0 yZ uZ hZ))<|oc g_as on
 intro u1 v1_5 hv1_5 HB1 sz1 K1
 simp only[sQ] at K1⊢
 clear K0 HB0
 go_upto_region 2 with fail
 refine rgP K1 HB1 HB1.size [] [] [(0,20,.nilIface),(1,21,.bool false)] [] [] [] ?_ ?_
 ·exact oc g_mv<|oc (g_bn (fun uZ=>neq_no _ _ uZ)) on
 intro u2 HB2 sz2 K2
 simp only[sQ] at K2⊢
 clear K1 HB1
 have hvv:w.heap.size<=u2.heap.size:=HB2.size
 go_upto_region 4 with fail
 refine rgF K2 HB2 HB2.size [] [] [(0,24,.slice si xs.length ci),(1,25,.int .i64 (xs.length:Int))] [] [] [⟨2,26,some 3,PRy u2.heap.size xs.length⟩,⟨3,9,none,PRy u2.heap.size xs.length⟩] [] (.cons (fun _ _ _ h1 h2=>h2.stab h1)<| .cons (fun _ _ _ h1 h2=>h2.stab h1)<|Stab.nil) ?_ ?_
 ·exact oc g_mv<|oc (g_ln Tryz.underlying26)<|oc (g_mS 0 (PRy u2.heap.size xs.length) xs.length (flN (List.replicate (2*xs.length) 0)) (mkPt _ hns) (fun u h=>PRy.new u h))<|oc (g_sE 0 1 (PRy u2.heap.size xs.length)) on
 intro u3 v3_2 hv3_2 v3_3 hv3_3 HB3 sz3 K3
 simp only[sQ] at K3⊢
 clear HB2
 obtain⟨bo,rfl,o1,o2,o3⟩:=hv3_3 rfl
 have K3xo:=Bk.more3 K2 K3 o1 o2 o3 (by intro x hx;first | (simp at hx;done) | (simp at hx⊢;omega))
 simp only[aK] at K3xo
 clear K3
 have hbo:w.heap.size<=bo:=Nat.le_trans hvv o1
 go_upto_region 5 with fail
 refine rgP K3xo HB3 HB3.size [] [] [(0,27,.slice si xs.length ci),(1,28,.int .i64 (xs.length:Int)),(2,29,(Go.Value.int Go.IntKind.i64 0))] [] [] [] ?_ ?_
 ·exact oc g_mv<|oc (g_ln Tryz.underlying26)<|oc g_mv on
 intro u4 HB4 sz4 K4
 simp only[sQ] at K4⊢
 clear HB3
 go_wp2_with fail
 go_loopw [29] (fun s29 wr=> ∃(k:Nat),k<=xs.length/\s29= .int .i64 (k:Int)/\Bw w wr/\CV wr (w.heap.size) (LN q)/\w.heap.size<wr.heap.size/\CV wr bo (flN (rowP ps k))/\bo<wr.heap.size) (fun s29 _=>xs.length -(intOf s29).toNat)
 case atStart=>exact⟨0,by omega,rfl,HB4,(K4.cv 0),(K4.lt 0),by rw[rowP_0,hpl.out];exact(K4.cv 1),(K4.lt 1)⟩
 case round=>
  obtain⟨k,hk,rfl,HBr,C0,lC0,C1,lC1⟩:=hrel
  clear HB4
  have hnK:=K4.n
  simp at hnK
  by_cases hj:k<xs.length
  ·have hl:decide ((k:Int)<(xs.length:Int))=true:=by simp;omega
   have hjp:k<ps.length:=by rw[hpl.out];exact hj
   obtain⟨rfl,hgi⟩:=hsi.out (by omega)
   have hc:=hci.out k hj
   have hx:=hxb.out k hj
   have hps:=hpp.out k hj
   have hV:=fun u (hB:Bw w u)=>hv.out k u hj hB
   have hXL:=flt_pre (ps:=ps) (j:=k) (by omega)
   have hNx:=rowP_next hjp
   rw[rowP_split hjp] at C1
   obtain⟨X,eX⟩: ∃X,flN (flt (ps.take k))=X:=⟨_,rfl⟩
   obtain⟨Z,eZ⟩: ∃Z,flN (List.replicate (2*(ps.length -(k+1))) 0)=Z:=⟨_,rfl⟩
   rw[eX] at hXL hNx C1
   rw[eZ] at hNx C1
   rw[hps] at hNx
   clear eX eZ hps hjp
   obtain⟨x,ex⟩: ∃x,xs.getD k 0=x:=⟨_,rfl⟩
   rw[ex] at hc hx hV hNx
   clear ex
   obtain⟨y,ey⟩: ∃y,fy k=y:=⟨_,rfl⟩
   rw[ey] at hV hNx
   clear ey
   have hXL:Hid _:=hXL
   have hNx:Hid _:=hNx
   have hV:Hid _:=hV
   have hc:Hid _:=hc
   have K4_1:Bk w.heap.size wr [(false,w.heap.size,LN q),(true,bo,X++PtE (0) (0)++Z)]:=⟨.c lC0 C0<| .o lC1 (by omega) C1<|trivial,by simp<;>omega⟩
   go_upto_region 6 with fail
   refine rgP K4_1 HBr HBr.size [] [] [(0,30,.bool true)] [] [] [] ?_ ?_
   ·exact oc (g_bn (fun uZ=>Zv _ _ (k:Int) (xs.length:Int) _ uZ hl)) on
   intro u5 HB5 sz5 K5
   simp only[sQ] at K5⊢
   go_upto_region 7 with fail
   refine rgP K5 HB5 HB5.size [] [] [(0,31,.int .i64 (k:Int)),(1,32,.pointer (some ⟨gi,oi+k,none⟩)),(2,33,.int .i64 x),(3,10,.int .i64 (k:Int)),(4,11,.int .i64 x)] [] [] [] ?_ ?_
   ·exact oc g_mv<|oc (g_ix (fun uZ=>ixI _ _ _ _ k hj uZ))<|oc (g_lgp gi (oi+k) lIp hc.out hgi)<|oc g_as<|oc g_as on
   intro u6 HB6 sz6 K6
   simp only[sQ] at K6⊢
   clear K5 HB5
   go_upto_region 8 with fail
   refine rgP K6 HB6 HB6.size [] [(3,12,L0s,some (4,LN x))] [(0,34,.int .i64 x),(1,35,.int .u64 x),(2,36,NV x)] [(4,3)] [] [] ?_ ?_
   ·exact oc g_mv<|oc (g_op (fun ev uZ he=>cviP uZ hx.1 hx.2 rfl (he _ _ rfl)))<|oc (g_cl Zf (fun uZ=>nOf x uZ hx.1 (by omega)))<|oc (g_al 0 aN)<|oc (g_sn 0 iN) on
   intro u7 b7_3 HB7 sz7 K7
   simp only[sQ] at K7⊢
   clear K6 HB6
   go_upto_region 9 with fail
   refine rgD K7 HB7 HB7.size [.no,.all 9 (X++PtE x (y)++Z)] [] [(0,37,.slice (some ⟨bo,0,none⟩) xs.length xs.length),(1,38,.int .i64 (k:Int)),(2,39,NV x),(3,40,NV q),(4,41,.slice sl n cap),(5,42,NV x),(6,43,NV y),(7,44,PtX x y),(8,45,.pointer (some ⟨bo,8*k,none⟩))] [] [] [true,true,false] ?_ ?_
   ·exact oc g_mv<|oc g_mv<|oc (g_ld 2 uN iN)<|oc (g_ld 0 uN iN)<|oc g_mv<|oc (g_ld 2 uN iN)<|oc (g_cb Yt (fun uZ bZ=>hV.out uZ bZ))<|oc (g_bd (fun uZ=>bdP x y uZ))<|oc (g_ix (fun uZ=>ixPZ _ _ _ k hj uZ))<|oc (g_sm 1 (8*k) X (PtE 0 0) Z (post:=PtE x y) (hxc:=hXL.out) Zh) on
   intro u8 HB8 sz8 K8
   simp only[sQ] at K8⊢
   clear K7 HB7
   go_upto_region 10 with fail
   refine rgP K8 HB8 HB8.size [] [] [(0,46,.int .i64 ((k+1:Nat):Int)),(1,29,.int .i64 ((k+1:Nat):Int))] [(1,0)] [(1,29)] [] ?_ ?_
   ·exact oc (g_bn (fun uZ=>Xh _ _ (k:Int) 1 ((k+1:Nat):Int) uZ (by omega) (by omega) (by omega)))<|oc g_mv on
   intro u9 HB9 sz9 K9
   simp only[sQ] at K9⊢
   clear K8 HB8
   go_wp2
   refine⟨⟨k+1,by omega,rfl,HB9,(K9.cv 0),(K9.lt 0),by rw[hNx.out];exact(K9.cv 1),(K9.lt 1)⟩,?_⟩
   simp[intOf]<;>omega
  ·have hl:decide ((k:Int)<(xs.length:Int))=false:=by simp;omega
   have hkn:k=ps.length:=by rw[hpl.out];omega
   rw[hkn,rowP_end] at C1
   clear hkn
   have K4_1:Bk w.heap.size wr [(false,w.heap.size,LN q),(true,bo,flN (flt ps))]:=⟨.c lC0 C0<| .o lC1 (by omega) C1<|trivial,by simp<;>omega⟩
   go_upto_region 6 with fail
   refine rgP K4_1 HBr HBr.size [] [] [(0,30,.bool false)] [] [] [] ?_ ?_
   ·exact oc (g_bn (fun uZ=>Zv _ _ (k:Int) (xs.length:Int) _ uZ hl)) on
   intro u5 HB5 sz5 K5
   simp only[sQ] at K5⊢
   go_upto_region 11 with fail
   refine rgP K5 HB5 HB5.size [] [] [(0,47,.slice (some ⟨bo,0,none⟩) xs.length xs.length),(1,6,.slice (some ⟨bo,0,none⟩) xs.length xs.length),(2,7,(Go.Value.int Go.IntKind.i64 0))] [] [] [] ?_ ?_
   ·exact oc g_mv<|oc g_as<|oc g_as on
   intro u6 HB6 sz6 K6
   simp only[sQ] at K6⊢
   clear K5 HB5
   go_wp2
   exact bodyPost_ret (v:= .tuple #[.slice (some ⟨bo,0,none⟩) xs.length xs.length,.int .i64 0]) (by simp[results,Tryz.results10,go_sem]) rfl ⟨_,rfl,⟨bo,by rw[hpl.out],hbo,(K6.lt 1),(K6.cv 1)⟩,HB6⟩
end
theorem set6_K{u:World}{b:Nat}{v0 v1 v2 v3 v4 v5 c0 c1 c2 c3 c4 c5:Value}(h:CV u b [c0,c1,c2,c3,c4,c5]):CV ((((((u.setCell ⟨b,0,none⟩ v0).setCell ⟨b,1,none⟩ v1).setCell ⟨b,2,none⟩ v2).setCell ⟨b,3,none⟩ v3).setCell ⟨b,4,none⟩ v4).setCell ⟨b,5,none⟩ v5) b [v0,v1,v2,v3,v4,v5]:=
 (((((h.setC 0 (by simp) v0).setC 1 (by simp) v1).setC 2 (by simp) v2).setC 3 (by simp) v3).setC 4 (by simp) v4).setC 5 (by simp) v5
theorem CV.oset{u:World}{c:Nat}{l:List Value}(h:CV u c l)(a:Addr)(v:Value)(hne:c≠a.block):CV (u.setCell a v) c l:=h.blk (Below.heap_setCell u a v c hne)
theorem Yl{u:World}{b c:Nat}{v0 v1 v2 v3 v4 v5:Value}{l:List Value}(h:CV u c l)(hne:c≠b):CV ((((((u.setCell ⟨b,0,none⟩ v0).setCell ⟨b,1,none⟩ v1).setCell ⟨b,2,none⟩ v2).setCell ⟨b,3,none⟩ v3).setCell ⟨b,4,none⟩ v4).setCell ⟨b,5,none⟩ v5) c l:=
 (((((h.oset ⟨b,0,none⟩ v0 hne).oset ⟨b,1,none⟩ v1 hne).oset ⟨b,2,none⟩ v2 hne).oset ⟨b,3,none⟩ v3 hne).oset ⟨b,4,none⟩ v4 hne).oset ⟨b,5,none⟩ v5 hne
theorem set6_B{m b:Nat}{w u:World}{v0 v1 v2 v3 v4 v5:Value}(h:Below m w u)(hb:m<=b):Below m w ((((((u.setCell ⟨b,0,none⟩ v0).setCell ⟨b,1,none⟩ v1).setCell ⟨b,2,none⟩ v2).setCell ⟨b,3,none⟩ v3).setCell ⟨b,4,none⟩ v4).setCell ⟨b,5,none⟩ v5):=
 (((((h.setCell hb v0).setCell hb v1).setCell hb v2).setCell hb v3).setCell hb v4).setCell hb v5
set_option maxHeartbeats 8000000 in
theorem combineOk(q t r:Int)(sl:Option Addr)(n cap:Nat)(xs vs:List Int)(w:World)
 (hP:Hid (∀u,Bw w u->CC 39 #[NV q,.int .i64 (n:Int)] u .nilIface))
 (hA:Hid (∀u,Bw w u->Calls Tryz.prog 44 #[.slice sl n cap] u fun e u'=> ∃y,e= .returned y/\PRw u.heap.size xs u' y/\Bw u u'))
 (hO:Hid (∀u bx,Bw w u->bx<u.heap.size->CV u bx (flN xs)->Calls Tryz.prog 40 #[NV q,.slice (some ⟨bx,0,none⟩) xs.length xs.length] u fun e u'=> ∃vd,e= .returned (.tuple #[BX q (.slice (some ⟨bx,0,none⟩) xs.length xs.length) vd,.nilIface])/\PRw u.heap.size vs u' vd/\Bw u u'))
 (hS:Hid (∀u bx bd,Bw w u->bx<u.heap.size->bd<u.heap.size->CV u bx (flN xs)->CV u bd (flN vs)->CC 46 #[BX q (.slice (some ⟨bx,0,none⟩) xs.length xs.length) (.slice (some ⟨bd,0,none⟩) vs.length vs.length),NV t,.slice sl n cap] u (NV r))):
 CC 37 #[NV q,NV t,.slice sl n cap] w (.tuple #[NV r,.int .i64 0]):=by
 go_enter Tryz.func37,Tryz.ntmps37
 go_upto_region 1 with fail
 generalize e2:((w.alloc (.cells (LN q:List Value).toArray 24)).alloc (.cells (LN t:List Value).toArray 24)).alloc (.cells (L0s:List Value).toArray 24)=w2 at *
 have hB2:Bw w w2:=by rw[<-e2];exact Z0 (Z0 (Z0 (Z2 w) _) _) _
 have hs2:w2.heap.size=w.heap.size+3:=by rw[<-e2];simp
 have KQ:CV w2 w.heap.size (LN q):=by rw[<-e2];exact((CV.new w (LN q) 24).below (Z0 (Z2 _) _) (by simp)).below (Z0 (Z2 _) _) (by first | omega | (simp<;>omega))
 have KT:CV w2 (w.heap.size+1) (LN t):=by rw[<-e2];exact(CV.newAt _ _ _ _ (by simp)).below (Z0 (Z2 _) _) (by simp)
 have KR:CV w2 (w.heap.size+2) L0s:=by rw[<-e2];exact CV.newAt _ _ _ _ (by simp)
 clear e2
 have a0:=(KQ 0 _ rfl).1
 have a1:=(KQ 1 _ rfl).1
 have a2:=(KQ 2 _ rfl).1
 have a3:=(KQ 3 _ rfl).1
 have KQ:Hid (CV w2 w.heap.size (LN q)):=KQ
 have KT:Hid (CV w2 (w.heap.size+1) (LN t)):=KT
 have KR:Hid (CV w2 (w.heap.size+2) L0s):=KR
 have hP:=hP.out w2 hB2
 go_upto_region 4 with(go_at_call 39;refine hP.mono ?_;clear hP a0 a1 a2 a3;rintro e ua ⟨rfl,hBa⟩;replace KQ:Hid (CV ua w.heap.size (LN q)):=CV.below KQ.out hBa (by omega);replace KT:Hid (CV ua (w.heap.size+1) (LN t)):=CV.below KT.out hBa (by omega);replace KR:Hid (CV ua (w.heap.size+2) L0s):=CV.below KR.out hBa (by omega);have hsa:=hBa.size;replace hBa:=Z3 hB2 hBa;have a0:=(KQ.out 0 _ rfl).1;have a1:=(KQ.out 1 _ rfl).1;have a2:=(KQ.out 2 _ rfl).1;have a3:=(KQ.out 3 _ rfl).1;have b0:=fun o=>(CV.below KQ.out (Z0 (Z2 ua) o) (by omega) 0 _ rfl).1;have b1:=fun o=>(CV.below KQ.out (Z0 (Z2 ua) o) (by omega) 1 _ rfl).1;have b2:=fun o=>(CV.below KQ.out (Z0 (Z2 ua) o) (by omega) 2 _ rfl).1;have b3:=fun o=>(CV.below KQ.out (Z0 (Z2 ua) o) (by omega) 3 _ rfl).1)
 go_cut [9,10] (fun s9 s10 wx=> ∃b bx bd,s9= .pointer (some ⟨b,0,none⟩)/\s10= .nilIface/\Bw w wx/\b<wx.heap.size/\w.heap.size+2<b/\bx<wx.heap.size/\bd<wx.heap.size/\CV wx b (BE q (.slice (some ⟨bx,0,none⟩) xs.length xs.length) (.slice (some ⟨bd,0,none⟩) vs.length vs.length))/\CV wx bx (flN xs)/\CV wx bd (flN vs)/\CV wx (w.heap.size+1) (LN t)/\CV wx (w.heap.size+2) L0s)
 case first=>
  go_region_with (first | (go_at_call 44;refine(hA.out ua.drew hBa.drew).mono ?_;go_must (clear a0 a1 a2 a3 b0 b1 b2 b3;rintro e ub ⟨y,rfl,⟨bx,rfl,x1,x2,x3⟩,hBb⟩;replace KQ:Hid (CV ub w.heap.size (LN q)):=CV.below (CV.drew KQ.out) hBb (by first | omega | (simp<;>omega));replace KT:Hid (CV ub (w.heap.size+1) (LN t)):=CV.below (CV.drew KT.out) hBb (by first | omega | (simp<;>omega));replace KR:Hid (CV ub (w.heap.size+2) L0s):=CV.below (CV.drew KR.out) hBb (by first | omega | (simp<;>omega));have hsb:ua.heap.size<=ub.heap.size:=(by have:=hBb.size;first | omega | (simp at this;omega));skip;replace hBb:=Z3 hBa.drew hBb;have x3:Hid (CV ub bx (flN xs)):=x3;have a0:=(KQ.out 0 _ rfl).1;have a1:=(KQ.out 1 _ rfl).1;have a2:=(KQ.out 2 _ rfl).1;have a3:=(KQ.out 3 _ rfl).1;have b0:=fun o=>(CV.below KQ.out (Z0 (Z2 ub) o) (by omega) 0 _ rfl).1;have b1:=fun o=>(CV.below KQ.out (Z0 (Z2 ub) o) (by omega) 1 _ rfl).1;have b2:=fun o=>(CV.below KQ.out (Z0 (Z2 ub) o) (by omega) 2 _ rfl).1;have b3:=fun o=>(CV.below KQ.out (Z0 (Z2 ub) o) (by omega) 3 _ rfl).1)) | (go_at_call 44;refine(hA.out (ua.alloc (.cells (L0b:List Value).toArray 76)).drew (Z0 hBa (.cells (L0b:List Value).toArray 76)).drew).mono ?_;go_must (clear a0 a1 a2 a3 b0 b1 b2 b3;rintro e ub ⟨y,rfl,⟨bx,rfl,x1,x2,x3⟩,hBb⟩;replace KQ:=CV.below KQ.out (Z0 (Z2 ua) (.cells (L0b:List Value).toArray 76)) (by omega);replace KT:=CV.below KT.out (Z0 (Z2 ua) (.cells (L0b:List Value).toArray 76)) (by omega);replace KR:=CV.below KR.out (Z0 (Z2 ua) (.cells (L0b:List Value).toArray 76)) (by omega);have KZ:CV ub ua.heap.size L0b:=CV.below (CV.drew (CV.new ua L0b 76)) hBb (by simp);replace KQ:Hid (CV ub w.heap.size (LN q)):=CV.below (CV.drew KQ) hBb (by first | omega | (simp<;>omega));replace KT:Hid (CV ub (w.heap.size+1) (LN t)):=CV.below (CV.drew KT) hBb (by first | omega | (simp<;>omega));replace KR:Hid (CV ub (w.heap.size+2) L0s):=CV.below (CV.drew KR) hBb (by first | omega | (simp<;>omega));have hsb:ua.heap.size<=ub.heap.size:=(by have:=hBb.size;first | omega | (simp at this;omega));have hx0:ua.heap.size<bx:=(by first | omega | (simp at x1;omega));have KZ:Hid (CV ub ua.heap.size L0b):=KZ;replace hBb:=Z3 (Z0 hBa (.cells (L0b:List Value).toArray 76)).drew hBb;have x3:Hid (CV ub bx (flN xs)):=x3;have a0:=(KQ.out 0 _ rfl).1;have a1:=(KQ.out 1 _ rfl).1;have a2:=(KQ.out 2 _ rfl).1;have a3:=(KQ.out 3 _ rfl).1;have b0:=fun o=>(CV.below KQ.out (Z0 (Z2 ub) o) (by omega) 0 _ rfl).1;have b1:=fun o=>(CV.below KQ.out (Z0 (Z2 ub) o) (by omega) 1 _ rfl).1;have b2:=fun o=>(CV.below KQ.out (Z0 (Z2 ub) o) (by omega) 2 _ rfl).1;have b3:=fun o=>(CV.below KQ.out (Z0 (Z2 ub) o) (by omega) 3 _ rfl).1)) | (go_at_call 40;have _:=KZ;refine(hO.out ub bx hBb (by first | omega | (simp<;>omega)) (x3.out)).mono ?_;go_must (clear a0 a1 a2 a3 b0 b1 b2 b3;rintro e uc ⟨vd,rfl,⟨bd,rfl,d1,d2,d3⟩,hBc⟩;replace KZ:Hid (CV uc ua.heap.size L0b):=CV.below KZ.out hBc (by omega);replace KQ:Hid (CV uc w.heap.size (LN q)):=CV.below KQ.out hBc (by omega);replace KT:Hid (CV uc (w.heap.size+1) (LN t)):=CV.below KT.out hBc (by omega);replace KR:Hid (CV uc (w.heap.size+2) L0s):=CV.below KR.out hBc (by omega);replace x3:Hid (CV uc bx (flN xs)):=CV.below x3.out hBc x2;have hsc:ub.heap.size<=uc.heap.size:=(by have:=hBc.size;first | omega | (simp at this;omega));replace hBc:=Z3 hBb hBc;have z0:=(KZ.out 0 _ rfl).1;have zf0:=(KZ.out 0 _ rfl).2;have z1:=(KZ.out 1 _ rfl).1;have zf1:=(KZ.out 1 _ rfl).2;have z2:=(KZ.out 2 _ rfl).1;have zf2:=(KZ.out 2 _ rfl).2;have z3:=(KZ.out 3 _ rfl).1;have zf3:=(KZ.out 3 _ rfl).2;have z4:=(KZ.out 4 _ rfl).1;have zf4:=(KZ.out 4 _ rfl).2;have z5:=(KZ.out 5 _ rfl).1;have zf5:=(KZ.out 5 _ rfl).2;have d3:Hid (CV uc bd (flN vs)):=d3)) | (go_at_call 40;refine(hO.out ub bx hBb (by first | omega | (simp<;>omega)) (x3.out)).mono ?_;go_must (clear a0 a1 a2 a3 b0 b1 b2 b3;rintro e uc ⟨vd,rfl,⟨bd,rfl,d1,d2,d3⟩,hBc⟩;replace KQ:Hid (CV uc w.heap.size (LN q)):=CV.below KQ.out hBc (by omega);replace KT:Hid (CV uc (w.heap.size+1) (LN t)):=CV.below KT.out hBc (by omega);replace KR:Hid (CV uc (w.heap.size+2) L0s):=CV.below KR.out hBc (by omega);replace x3:Hid (CV uc bx (flN xs)):=CV.below x3.out hBc x2;have hsc:ub.heap.size<=uc.heap.size:=(by have:=hBc.size;first | omega | (simp at this;omega));replace hBc:=Z3 hBb hBc;have d3:Hid (CV uc bd (flN vs)):=d3)) | (go_at_call 40;refine(hO.out (ub.alloc (.cells (L0b:List Value).toArray 76)) bx (Z0 hBb (.cells (L0b:List Value).toArray 76)) (by first | omega | (simp<;>omega)) (CV.below x3.out (Z0 (Z2 ub) (.cells (L0b:List Value).toArray 76)) x2)).mono ?_;go_must (clear a0 a1 a2 a3 b0 b1 b2 b3;rintro e uc ⟨vd,rfl,⟨bd,rfl,d1,d2,d3⟩,hBc⟩;have KZ:Hid (CV uc ub.heap.size L0b):=CV.below (CV.new ub L0b 76) hBc (by simp);replace x3:Hid (CV uc bx (flN xs)):=CV.below (CV.below x3.out (Z0 (Z2 ub) (.cells (L0b:List Value).toArray 76)) x2) hBc (by first | omega | (simp<;>omega));replace KT:Hid (CV uc (w.heap.size+1) (LN t)):=CV.below (CV.below KT.out (Z0 (Z2 ub) (.cells (L0b:List Value).toArray 76)) (by omega)) hBc (by first | omega | (simp<;>omega));replace KR:Hid (CV uc (w.heap.size+2) L0s):=CV.below (CV.below KR.out (Z0 (Z2 ub) (.cells (L0b:List Value).toArray 76)) (by omega)) hBc (by first | omega | (simp<;>omega));have hsc:ub.heap.size<=uc.heap.size:=(by have:=hBc.size;first | omega | (simp at this;omega));replace hBc:=Z3 (Z0 hBb (.cells (L0b:List Value).toArray 76)) hBc;have hd0:ub.heap.size<bd:=(by first | omega | (simp at d1;omega));have z0:=(KZ.out 0 _ rfl).1;have zf0:=(KZ.out 0 _ rfl).2;have z1:=(KZ.out 1 _ rfl).1;have zf1:=(KZ.out 1 _ rfl).2;have z2:=(KZ.out 2 _ rfl).1;have zf2:=(KZ.out 2 _ rfl).2;have z3:=(KZ.out 3 _ rfl).1;have zf3:=(KZ.out 3 _ rfl).2;have z4:=(KZ.out 4 _ rfl).1;have zf4:=(KZ.out 4 _ rfl).2;have z5:=(KZ.out 5 _ rfl).1;have zf5:=(KZ.out 5 _ rfl).2;have d3:Hid (CV uc bd (flN vs)):=d3)))
  all_goals (go_wp2_with fail;go_meet;first | (refine⟨uc.heap.size,bx,bd,rfl,rfl,?_⟩;exact⟨Z0 hBc _,by simp,by omega,(by first | omega | (simp<;>omega)),(by first | omega | (simp<;>omega)),CV.new uc _ _,CV.below x3.out (Z0 (Z2 uc) _) (by omega),CV.below d3.out (Z0 (Z2 uc) _) d2,CV.below KT.out (Z0 (Z2 uc) _) (by omega),CV.below KR.out (Z0 (Z2 uc) _) (by omega)⟩) | (refine⟨ua.heap.size,bx,bd,rfl,rfl,?_⟩;exact⟨set6_B hBc (by omega),(by first | omega | (simp<;>omega)),by omega,(by first | omega | (simp<;>omega)),(by first | omega | (simp<;>omega)),set6_K KZ.out,Yl x3.out (by omega),Yl d3.out (by omega),Yl KT.out (by omega),Yl KR.out (by omega)⟩) | (refine⟨ub.heap.size,bx,bd,rfl,rfl,?_⟩;exact⟨set6_B hBc (by omega),(by first | omega | (simp<;>omega)),by omega,(by first | omega | (simp<;>omega)),(by first | omega | (simp<;>omega)),set6_K KZ.out,Yl x3.out (by omega),Yl d3.out (by omega),Yl KT.out (by omega),Yl KR.out (by omega)⟩))
 case rest=>
  obtain⟨b,bx,bd,rfl,rfl,hBw,hb,hbw,hbx,hbd,KB,KX,KD,KT,KR⟩:=hcut
  have hS:=hS.out wc bx bd hBw hbx hbd KX KD
  have c0:=(KB 0 _ rfl).1
  have c1:=(KB 1 _ rfl).1
  have c2:=(KB 2 _ rfl).1
  have c3:=(KB 3 _ rfl).1
  have c4:=(KB 4 _ rfl).1
  have c5:=(KB 5 _ rfl).1
  have t0:=(KT 0 _ rfl).1
  have t1:=(KT 1 _ rfl).1
  have t2:=(KT 2 _ rfl).1
  have t3:=(KT 3 _ rfl).1
  have KR:Hid (CV wc (w.heap.size+2) L0s):=KR
  clear KB KX KD KT
  go_wp2_with (go_at_call 46;refine hS.mono ?_;go_must (clear hS c0 c1 c2 c3 c4 c5 t0 t1 t2 t3;rintro e ue ⟨rfl,hBe⟩;have KR:=CV.below KR.out hBe (by omega);have r0:=KR 0 _ rfl;have r1:=KR 1 _ rfl;have r2:=KR 2 _ rfl;have r3:=KR 3 _ rfl;obtain⟨r0,f0⟩:=r0;obtain⟨r1,f1⟩:=r1;obtain⟨r2,f2⟩:=r2;obtain⟨r3,f3⟩:=r3;replace hBe:=Z3 hBw hBe))
  exact bodyPost_ret (v:= .tuple #[NV r,.int .i64 0]) (by simp[results,Tryz.results37,go_sem,r0,r1,r2,r3]) rfl ⟨rfl,(((hBe.setCell (by simp;omega) _).setCell (by simp;omega) _).setCell (by simp;omega) _).setCell (by simp;omega) _⟩
end Go.Proofs.YtgieoghechekpaaGreatDoor
