import Derived.Test.YtgieoghechekpaaGreatDoorAP2
namespace Go.Proofs.YtgieoghechekpaaGreatDoor
set_option linter.unusedVariables false
set_option linter.unusedSimpArgs false
set_option maxRecDepth 100000
set_option maxHeartbeats 4000000
open Go.RowKit
theorem neq_no(p:Operand)(c:Value)(w:World):(do eqGuard .neq 63 p (.const c) .nilIface .nilIface;binOp .neq 63 .nilIface .nilIface:Sem Value).run Tryz.prog w= .ok (.bool false) w:=by go_simp
theorem cviP{o:Oper}{ev:Operand->Value}{x:Operand}{n:Int}(u:World)(h0:0<=n)(h1:n<=9223372036854775807)(ho:o.op= .convert 3 22 x)(hx:ev x= .int .i64 n):(execOp ev o).run Tryz.prog u= .ok (.value (.int .u64 n)) u:=by
 have e1:IntKind.u64.wrap n=n:=by simp[IntKind.wrap,IntKind.signed,IntKind.bits];omega
 unfold execOp;rw[ho];simp only[hx];go_simp
theorem lIp{b c:Nat}{v:Int}(w:World)(h:w.cell? ⟨b,c,none⟩=some (.int .i64 v)):(Instr.loadAt 3 (.pointer (some ⟨b,c,none⟩))).run Tryz.prog w= .ok (.int .i64 v) w:=by go_simp
theorem ixI(g o n cap j:Nat)(h:j<n)(w:World):(Instr.indexAt 26 (.slice (some ⟨g,o,none⟩) n cap) (.int .i64 j)).run Tryz.prog w= .ok (.pointer (some ⟨g,o+j,none⟩)) w:=by
 have hj:(j:Int)<n:=by omega
 go_simp
def PE0(u:World)(v:Value):Prop:= ∃b,v= .slice (some ⟨b,0,none⟩) 2 2/\b<u.heap.size/\u.cell? ⟨b,0,none⟩=some .nilIface/\u.cell? ⟨b,1,none⟩=some .nilIface
theorem PE0.stab{u u2:World}{x:Value}(hB:Bw u u2)(h:PE0 u x):PE0 u2 x:=by
 obtain⟨b,e,h1,h2,h3⟩:=h
 exact⟨b,e,Nat.lt_of_lt_of_le h1 hB.size,(hB.cell (p:=⟨b,0,none⟩) h1).trans h2,(hB.cell (p:=⟨b,1,none⟩) h1).trans h3⟩
theorem bsE00(w:World):(Instr.buildSlice 98 2 ([0,1].zip [.nilIface,.nilIface]).toArray).run Tryz.prog w= .ok (.slice (some ⟨w.heap.size,0,none⟩) 2 2) (w.alloc (.cells [Value.nilIface,.nilIface].toArray 63)):=by kernel_rfl
theorem PE0.new(u:World):PE0 (u.alloc (.cells [Value.nilIface,.nilIface].toArray 63)) (.slice (some ⟨u.heap.size,0,none⟩) 2 2):=⟨_,rfl,by simp,by simp,by simp⟩
theorem cJoin0(y:Value)(w:World)(h:PE0 w y):CC 33 #[y] w .nilIface:=by
 obtain⟨b,rfl,h1,h2,h3⟩:=h
 refine(X9 b 2 .nilIface .nilIface false false w h1 h2 h3 (.inl ⟨rfl,rfl⟩) (.inl ⟨rfl,rfl⟩)).mono ?_
 rintro e u ⟨y,rfl,hy,hB⟩
 obtain rfl:=hy.no
 exact⟨rfl,hB⟩
def rowP(ps:List (Int×Int))(k:Nat):List Int:=flt (ps.take k)++List.replicate (2*(ps.length -k)) 0
theorem rowP_0(ps:List (Int×Int)):rowP ps 0=List.replicate (2*ps.length) 0:=by simp[rowP,flt]
theorem rowP_end(ps:List (Int×Int)):rowP ps ps.length=flt ps:=by simp[rowP]
theorem rowP_split{ps:List (Int×Int)}{k:Nat}(h:k<ps.length):flN (rowP ps k)=flN (flt (ps.take k))++PtE 0 0++flN (List.replicate (2*(ps.length -(k+1))) 0):=by
 rw[rowP,show 2*(ps.length -k)=(2*(ps.length -(k+1)))+1+1 by omega,List.replicate_succ,List.replicate_succ,Y4,flN,flN,List.append_assoc];rfl
theorem rowP_next{ps:List (Int×Int)}{k:Nat}(h:k<ps.length):flN (rowP ps (k+1))=flN (flt (ps.take k))++PtE (ps.getD k (0,0)).1 (ps.getD k (0,0)).2++flN (List.replicate (2*(ps.length -(k+1))) 0):=by
 rw[rowP,Y4,List.take_add_one,List.getElem?_eq_getElem h,flt_app,Y4]
 simp[flt,flN,List.getElem?_eq_getElem h]
def PRy(lo n:Nat)(u:World)(v:Value):Prop:= ∃b,v= .slice (some ⟨b,0,none⟩) n n/\lo<=b/\b<u.heap.size/\CV u b (flN (List.replicate (2*n) 0))
theorem PRy.stab{lo n:Nat}{u u2:World}{x:Value}(hB:Bw u u2)(h:PRy lo n u x):PRy lo n u2 x:=by
 obtain⟨b,e,h1,h2,h3⟩:=h
 exact⟨b,e,h1,Nat.lt_of_lt_of_le h2 hB.size,h3.below hB h2⟩
theorem PRy.new{lo n:Nat}{T:TypeId}(u:World)(h:lo<=u.heap.size):PRy lo n (u.alloc (.cells (flN (List.replicate (2*n) 0)).toArray T)) (.slice (some ⟨u.heap.size,0,none⟩) n n):=
 ⟨_,rfl,h,by simp,CV.new u _ _⟩
theorem ixPZ(g n cap j:Nat)(h:j<n)(w:World):(Instr.indexAt 31 (.slice (some ⟨g,0,none⟩) n cap) (.int .i64 j)).run Tryz.prog w= .ok (.pointer (some ⟨g,8*j,none⟩)) w:=by
 have:=ixP g 0 n cap j h w
 rwa [Nat.zero_add] at this
section
variable {R:Rg} {P:Program} {Q:Exit->Act->World->Prop} {ops:Array Oper} {i:Nat} {o:Oper}
theorem g_lgp(gb c:Nat){T:TypeId}{x:Operand}{v:Value}(hr: ∀w,w.cell? ⟨gb,c,none⟩=some v->(Instr.loadAt T (.pointer (some ⟨gb,c,none⟩))).run P w= .ok v w)(hc0:R.w.cell? ⟨gb,c,none⟩=some v)(hb:gb<R.lo)(hop:o.op= .load T x:=by rfl)(hx:evR R i o x=some (.pointer (some ⟨gb,c,none⟩)):=by rfl)(hv:some v=Zk i R.G:=by rfl)(hc:R.chk ops i o=true:=by rfl):OG R P ops Q i o:=
 Zl hv hc fun f t u a X K hK=>wp_load hop (X.ev hx) (hr u ((X.I.1.bel.cell (p:=⟨gb,c,none⟩) hb).trans hc0)) hK
end
theorem Z8:EnT 27:=fun _ _=>by kernel_rfl
theorem Yu:EnT 29:=fun _ _=>by kernel_rfl
theorem ent_poly_places:EnT 34:=fun _ _=>by kernel_rfl
theorem Zr:EnT 33:=fun _ _=>by kernel_rfl
theorem eval_ok(q x r:Int)(sl:Option Addr)(n cap:Nat)(w:World)(hP:Hid (∀u,Bw w u->CC 27 #[NV q,.slice sl n cap] u (.nilIface)))(hV:Hid (∀u,Bw w u->CC 29 #[NV q,.slice sl n cap,NV x] u (NV r))):
 CC 8 #[NV q,.slice sl n cap,NV x] w (.tuple #[NV r,.int .i64 0]):=by
 go_enter Tryz.func8,Tryz.ntmps8
 go_upto_region 1 with fail
 generalize hC:(((w.alloc (.cells (LN q:List Value).toArray 24)).alloc (.cells (LN x:List Value).toArray 24)).alloc (.cells (L0s:List Value).toArray 24))=v0 at *
 have HB0:Bw w v0:=by rw[<-hC];exact Z0 (Z0 (Z0 (Z2 w) _) _) _
 have K0:Bk w.heap.size v0 [(true,w.heap.size,LN q),(true,w.heap.size+1,LN x),(true,w.heap.size+1+1,L0s)]:=by rw[<-hC];exact(Bk.nil _ w).ad.ad.ad
 clear hC
 refine rgP K0 HB0 HB0.size [] [] [(0,9,NV q),(1,10,.slice sl n cap),(2,11,.nilIface),(3,8,.nilIface)] [] [] [] ?_ ?_
 ·exact oc (g_ld 0 uN iN)<|oc g_mv<|oc (g_cb Z8 (fun uZ bZ=>hP.out uZ bZ))<|oc g_as on
 intro u1 HB1 sz1 K1
 simp only[sQ] at K1⊢
 clear K0 HB0
 go_upto_region 2 with fail
 refine rgP K1 HB1 HB1.size [] [] [(0,12,.nilIface),(1,13,.bool false)] [] [] [] ?_ ?_
 ·exact oc g_mv<|oc (g_bn (fun uZ=>neq_no _ _ uZ)) on
 intro u2 HB2 sz2 K2
 simp only[sQ] at K2⊢
 clear K1 HB1
 go_upto_region 4 with fail
 refine rgP K2 HB2 HB2.size [.no,.no,.all 4 (LN r)] [] [(0,17,NV q),(1,18,.slice sl n cap),(2,19,NV x),(3,20,NV r),(5,7,(Go.Value.int Go.IntKind.i64 0))] [] [] [false,false] ?_ ?_
 ·exact oc (g_ld 0 uN iN)<|oc g_mv<|oc (g_ld 1 uN iN)<|oc (g_cb Yu (fun uZ bZ=>hV.out uZ bZ))<|oc (g_st 2 iN)<|oc g_as on
 intro u3 HB3 sz3 K3
 simp only[sQ] at K3⊢
 clear K2 HB2
 have c6:=(K3.cv 0).n4
 go_wp2
 refine bodyPost_ret (v:= .tuple #[NV r,.int .i64 0]) (by simp[results,Tryz.results8,go_sem,c6]) rfl ⟨rfl,HB3⟩
theorem points_ok(q:Int)(sl si:Option Addr)(n cap gi oi ci:Nat)(xs:List Int)(ps:List (Int×Int))(fy:Nat->Int)(w:World)(hns:xs.length<=1000)(hP:Hid (∀u,Bw w u->CC 27 #[NV q,.slice sl n cap] u (.nilIface)))(hL:Hid (∀u,Bw w u->CC 34 #[.slice si xs.length ci] u (.nilIface)))(hpl:Hid (ps.length=xs.length))(hpp:Hid (∀k,k<xs.length->ps.getD k (0,0)=(xs.getD k 0,fy k)))(hsi:Hid (0<xs.length->si=some ⟨gi,oi,none⟩/\gi<w.heap.size))(hci:Hid (∀k,k<xs.length->w.cell? ⟨gi,oi+k,none⟩=some (.int .i64 (xs.getD k 0))))(hxb:Hid (∀k,k<xs.length->0<=xs.getD k 0/\xs.getD k 0<=9223372036854775807))(hv:Hid (∀k u,k<xs.length->Bw w u->CC 29 #[NV q,.slice sl n cap,NV (xs.getD k 0)] u (NV (fy k)))):
 Calls Tryz.prog 10 #[NV q,.slice sl n cap,.slice si xs.length ci] w fun e' w'=> ∃y,e'= .returned (.tuple #[y,.int .i64 0])/\PRp w.heap.size ps w' y/\Bw w w':=by
 go_enter Tryz.func10,Tryz.ntmps10
 go_upto_region 1 with fail
 generalize hC:(w.alloc (.cells (LN q:List Value).toArray 24))=v0 at *
 have HB0:Bw w v0:=by rw[<-hC];exact Z0 (Z2 w) _
 have K0:Bk w.heap.size v0 [(true,w.heap.size,LN q)]:=by rw[<-hC];exact(Bk.nil _ w).ad
 clear hC
 refine rgF K0 HB0 HB0.size [] [] [(0,13,NV q),(1,14,.slice sl n cap),(2,15,.nilIface),(3,16,.slice si xs.length ci),(4,17,.nilIface),(6,19,.nilIface),(7,8,.nilIface)] [] [] [⟨5,18,some 6,PE0⟩] [] (.cons (fun _ _ _ h1 h2=>h2.stab h1)<|Stab.nil) ?_ ?_
 ·exact oc (g_ld 0 uN iN)<|oc g_mv<|oc (g_cb Z8 (fun uZ bZ=>hP.out uZ bZ))<|oc g_mv<|oc (g_cb ent_poly_places (fun uZ bZ=>hL.out uZ bZ))<|oc (g_bR 0 PE0 [0,1] [.nilIface,.nilIface] [.nilIface,.nilIface] bsE00 (fun u hu=>PE0.new u))<|oc (g_c1 0 PE0 Zr (fun uZ yZ _ hZ=>cJoin0 yZ uZ hZ))<|oc g_as on
 intro u1 v1_5 hv1_5 HB1 sz1 K1
 simp only[sQ] at K1⊢
 clear K0 HB0
 go_upto_region 2 with fail
 refine rgP K1 HB1 HB1.size [] [] [(0,20,.nilIface),(1,21,.bool false)] [] [] [] ?_ ?_
 ·exact oc g_mv<|oc (g_bn (fun uZ=>neq_no _ _ uZ)) on
 intro u2 HB2 sz2 K2
 simp only[sQ] at K2⊢
 clear K1 HB1
 have hvv:w.heap.size<=u2.heap.size:=HB2.size
 go_upto_region 4 with fail
 refine rgF K2 HB2 HB2.size [] [] [(0,24,.slice si xs.length ci),(1,25,.int .i64 (xs.length:Int))] [] [] [⟨2,26,some 3,PRy u2.heap.size xs.length⟩,⟨3,9,none,PRy u2.heap.size xs.length⟩] [] (.cons (fun _ _ _ h1 h2=>h2.stab h1)<| .cons (fun _ _ _ h1 h2=>h2.stab h1)<|Stab.nil) ?_ ?_
 ·exact oc g_mv<|oc (g_ln Tryz.underlying26)<|oc (g_mS 0 (PRy u2.heap.size xs.length) xs.length (flN (List.replicate (2*xs.length) 0)) (mkPt _ hns) (fun u h=>PRy.new u h))<|oc (g_sE 0 1 (PRy u2.heap.size xs.length)) on
 intro u3 v3_2 hv3_2 v3_3 hv3_3 HB3 sz3 K3
 simp only[sQ] at K3⊢
 clear HB2
 obtain⟨bo,rfl,o1,o2,o3⟩:=hv3_3 rfl
 have K3xo:=Bk.more3 K2 K3 o1 o2 o3 (by intro x hx;first | (simp at hx;done) | (simp at hx⊢;omega))
 simp only[aK] at K3xo
 clear K3
 have hbo:w.heap.size<=bo:=Nat.le_trans hvv o1
 go_upto_region 5 with fail
 refine rgP K3xo HB3 HB3.size [] [] [(0,27,.slice si xs.length ci),(1,28,.int .i64 (xs.length:Int)),(2,29,(Go.Value.int Go.IntKind.i64 0))] [] [] [] ?_ ?_
 ·exact oc g_mv<|oc (g_ln Tryz.underlying26)<|oc g_mv on
 intro u4 HB4 sz4 K4
 simp only[sQ] at K4⊢
 clear HB3
 go_wp2_with fail
 go_loopw [29] (fun s29 wr=> ∃(k:Nat),k<=xs.length/\s29= .int .i64 (k:Int)/\Bw w wr/\CV wr (w.heap.size) (LN q)/\w.heap.size<wr.heap.size/\CV wr bo (flN (rowP ps k))/\bo<wr.heap.size) (fun s29 _=>xs.length -(intOf s29).toNat)
 case atStart=>exact⟨0,by omega,rfl,HB4,(K4.cv 0),(K4.lt 0),by rw[rowP_0,hpl.out];exact(K4.cv 1),(K4.lt 1)⟩
 case round=>
  obtain⟨k,hk,rfl,HBr,C0,lC0,C1,lC1⟩:=hrel
  clear HB4
  have hnK:=K4.n
  simp at hnK
  by_cases hj:k<xs.length
  ·have hl:decide ((k:Int)<(xs.length:Int))=true:=by simp;omega
   have hjp:k<ps.length:=by rw[hpl.out];exact hj
   obtain⟨rfl,hgi⟩:=hsi.out (by omega)
   have hc:=hci.out k hj
   have hx:=hxb.out k hj
   have hps:=hpp.out k hj
   have hV:=fun u (hB:Bw w u)=>hv.out k u hj hB
   have hXL:=flt_pre (ps:=ps) (j:=k) (by omega)
   have hNx:=rowP_next hjp
   rw[rowP_split hjp] at C1
   obtain⟨X,eX⟩: ∃X,flN (flt (ps.take k))=X:=⟨_,rfl⟩
   obtain⟨Z,eZ⟩: ∃Z,flN (List.replicate (2*(ps.length -(k+1))) 0)=Z:=⟨_,rfl⟩
   rw[eX] at hXL hNx C1
   rw[eZ] at hNx C1
   rw[hps] at hNx
   clear eX eZ hps hjp
   obtain⟨x,ex⟩: ∃x,xs.getD k 0=x:=⟨_,rfl⟩
   rw[ex] at hc hx hV hNx
   clear ex
   obtain⟨y,ey⟩: ∃y,fy k=y:=⟨_,rfl⟩
   rw[ey] at hV hNx
   clear ey
   have hXL:Hid _:=hXL
   have hNx:Hid _:=hNx
   have hV:Hid _:=hV
   have hc:Hid _:=hc
   have K4_1:Bk w.heap.size wr [(false,w.heap.size,LN q),(true,bo,X++PtE (0) (0)++Z)]:=⟨.c lC0 C0<| .o lC1 (by omega) C1<|trivial,by simp<;>omega⟩
   go_upto_region 6 with fail
   refine rgP K4_1 HBr HBr.size [] [] [(0,30,.bool true)] [] [] [] ?_ ?_
   ·exact oc (g_bn (fun uZ=>Zc _ _ (k:Int) (xs.length:Int) _ uZ hl)) on
   intro u5 HB5 sz5 K5
   simp only[sQ] at K5⊢
   go_upto_region 7 with fail
   refine rgP K5 HB5 HB5.size [] [] [(0,31,.int .i64 (k:Int)),(1,32,.pointer (some ⟨gi,oi+k,none⟩)),(2,33,.int .i64 x),(3,10,.int .i64 (k:Int)),(4,11,.int .i64 x)] [] [] [] ?_ ?_
   ·exact oc g_mv<|oc (g_ix (fun uZ=>ixI _ _ _ _ k hj uZ))<|oc (g_lgp gi (oi+k) lIp hc.out hgi)<|oc g_as<|oc g_as on
   intro u6 HB6 sz6 K6
   simp only[sQ] at K6⊢
   clear K5 HB5
   go_upto_region 8 with fail
   refine rgP K6 HB6 HB6.size [] [(3,12,L0s,some (4,LN x))] [(0,34,.int .i64 x),(1,35,.int .u64 x),(2,36,NV x)] [(4,3)] [] [] ?_ ?_
   ·exact oc g_mv<|oc (g_op (fun ev uZ he=>cviP uZ hx.1 hx.2 rfl (he _ _ rfl)))<|oc (g_cl Zf (fun uZ=>nOf x uZ hx.1 (by omega)))<|oc (g_al 0 aN)<|oc (g_sn 0 iN) on
   intro u7 b7_3 HB7 sz7 K7
   simp only[sQ] at K7⊢
   clear K6 HB6
   go_upto_region 9 with fail
   refine rgD K7 HB7 HB7.size [.no,.all 9 (X++PtE x (y)++Z)] [] [(0,37,.slice (some ⟨bo,0,none⟩) xs.length xs.length),(1,38,.int .i64 (k:Int)),(2,39,NV x),(3,40,NV q),(4,41,.slice sl n cap),(5,42,NV x),(6,43,NV y),(7,44,PtX x y),(8,45,.pointer (some ⟨bo,8*k,none⟩))] [] [] [true,true,false] ?_ ?_
   ·exact oc g_mv<|oc g_mv<|oc (g_ld 2 uN iN)<|oc (g_ld 0 uN iN)<|oc g_mv<|oc (g_ld 2 uN iN)<|oc (g_cb Yu (fun uZ bZ=>hV.out uZ bZ))<|oc (g_bd (fun uZ=>bdP x y uZ))<|oc (g_ix (fun uZ=>ixPZ _ _ _ k hj uZ))<|oc (g_sm 1 (8*k) X (PtE 0 0) Z (post:=PtE x y) (hxc:=hXL.out) Zi) on
   intro u8 HB8 sz8 K8
   simp only[sQ] at K8⊢
   clear K7 HB7
   go_upto_region 10 with fail
   refine rgP K8 HB8 HB8.size [] [] [(0,46,.int .i64 ((k+1:Nat):Int)),(1,29,.int .i64 ((k+1:Nat):Int))] [(1,0)] [(1,29)] [] ?_ ?_
   ·exact oc (g_bn (fun uZ=>Yt _ _ (k:Int) 1 ((k+1:Nat):Int) uZ (by omega) (by omega) (by omega)))<|oc g_mv on
   intro u9 HB9 sz9 K9
   simp only[sQ] at K9⊢
   clear K8 HB8
   go_wp2
   refine⟨⟨k+1,by omega,rfl,HB9,(K9.cv 0),(K9.lt 0),by rw[hNx.out];exact(K9.cv 1),(K9.lt 1)⟩,?_⟩
   simp[intOf]<;>omega
  ·have hl:decide ((k:Int)<(xs.length:Int))=false:=by simp;omega
   have hkn:k=ps.length:=by rw[hpl.out];omega
   rw[hkn,rowP_end] at C1
   clear hkn
   have K4_1:Bk w.heap.size wr [(false,w.heap.size,LN q),(true,bo,flN (flt ps))]:=⟨.c lC0 C0<| .o lC1 (by omega) C1<|trivial,by simp<;>omega⟩
   go_upto_region 6 with fail
   refine rgP K4_1 HBr HBr.size [] [] [(0,30,.bool false)] [] [] [] ?_ ?_
   ·exact oc (g_bn (fun uZ=>Zc _ _ (k:Int) (xs.length:Int) _ uZ hl)) on
   intro u5 HB5 sz5 K5
   simp only[sQ] at K5⊢
   go_upto_region 11 with fail
   refine rgP K5 HB5 HB5.size [] [] [(0,47,.slice (some ⟨bo,0,none⟩) xs.length xs.length),(1,6,.slice (some ⟨bo,0,none⟩) xs.length xs.length),(2,7,(Go.Value.int Go.IntKind.i64 0))] [] [] [] ?_ ?_
   ·exact oc g_mv<|oc g_as<|oc g_as on
   intro u6 HB6 sz6 K6
   simp only[sQ] at K6⊢
   clear K5 HB5
   go_wp2
   exact bodyPost_ret (v:= .tuple #[.slice (some ⟨bo,0,none⟩) xs.length xs.length,.int .i64 0]) (by simp[results,Tryz.results10,go_sem]) rfl ⟨_,rfl,⟨bo,by rw[hpl.out],hbo,(K6.lt 1),(K6.cv 1)⟩,HB6⟩
theorem mAddZ(x q:Int)(w:World)(hx:In x)(hq:In q)(hq0:q≠0):CC 36 #[NV x,A4 0 0 0 0,NV q] w (.tuple #[NV ((x+0)%q),.int .i64 0]):=by
 have:=mAdd x 0 q w hx In_0 hq hq0
 rwa [NV_0] at this
theorem add_ok(q:Int)(sa sb:Option Addr)(ga oa ca gb ob cb:Nat)(aa bs cs:List Int)(w:World)(hq:In q)(hq0:q≠0)(hns:aa.length<=1000)(hsw:decide ((aa.length:Int)<(bs.length:Int))=false)(hP:Hid (∀u,Bw w u->CC 27 #[NV q,.slice sa aa.length ca] u (.nilIface)))(hP2:Hid (∀u,Bw w u->CC 27 #[NV q,.slice sb bs.length cb] u (.nilIface)))(hixa:Hid (∀j,j<aa.length-> ∀W,(Instr.indexAt 25 (.slice sa aa.length ca) (.int .i64 j)).run Tryz.prog W= .ok (.pointer (some ⟨ga,oa+4*j,none⟩)) W))(hga:aa.length=0\/ga<w.heap.size)(hSa:Hid (SN w ga oa aa))(hna:Hid (∀k,k<aa.length->In (aa.getD k 0)))(hixb:Hid (∀j,j<bs.length-> ∀W,(Instr.indexAt 25 (.slice sb bs.length cb) (.int .i64 j)).run Tryz.prog W= .ok (.pointer (some ⟨gb,ob+4*j,none⟩)) W))(hgb:bs.length=0\/gb<w.heap.size)(hSb:Hid (SN w gb ob bs))(hnb:Hid (∀k,k<bs.length->In (bs.getD k 0)))(hbl:bs.length<=aa.length)(hcl:Hid (cs.length=aa.length))(hcs:Hid (∀k,k<aa.length->cs.getD k 0=(aa.getD k 0+bs.getD k 0)%q)):
 Calls Tryz.prog 13 #[NV q,.slice sa aa.length ca,.slice sb bs.length cb] w fun e' w'=> ∃y,e'= .returned (.tuple #[y,.int .i64 0])/\PRw w.heap.size cs w' y/\Bw w w':=by
 go_enter Tryz.func13,Tryz.ntmps13
 go_upto_region 1 with fail
 generalize hC:(w.alloc (.cells (LN q:List Value).toArray 24))=v0 at *
 have HB0:Bw w v0:=by rw[<-hC];exact Z0 (Z2 w) _
 have K0:Bk w.heap.size v0 [(true,w.heap.size,LN q)]:=by rw[<-hC];exact(Bk.nil _ w).ad
 clear hC
 refine rgE K0 HB0 HB0.size [] [] [(0,12,NV q),(1,13,.slice sa aa.length ca),(2,14,.nilIface),(3,15,NV q),(4,16,.slice sb bs.length cb),(5,17,.nilIface),(7,19,.nilIface),(8,8,.nilIface)] [] [] [⟨6,18,some 7,PE0⟩] [] (.cons (fun _ _ _ h1 h2=>h2.stab h1)<|Stab.nil) ?_ ?_
 ·exact oc (g_ld 0 uN iN)<|oc g_mv<|oc (g_cb Z8 (fun uZ bZ=>hP.out uZ bZ))<|oc (g_ld 0 uN iN)<|oc g_mv<|oc (g_cb Z8 (fun uZ bZ=>hP2.out uZ bZ))<|oc (g_bR 0 PE0 [0,1] [.nilIface,.nilIface] [.nilIface,.nilIface] bsE00 (fun u hu=>PE0.new u))<|oc (g_c1 0 PE0 Zr (fun uZ yZ _ hZ=>cJoin0 yZ uZ hZ))<|oc g_as on
 intro u1 v1_6 hv1_6 HB1 sz1 K1
 simp only[sQ] at K1⊢
 clear K0 HB0
 go_upto_region 2 with fail
 refine rgP K1 HB1 HB1.size [] [] [(0,20,.nilIface),(1,21,.bool false)] [] [] [] ?_ ?_
 ·exact oc g_mv<|oc (g_bn (fun uZ=>neq_no _ _ uZ)) on
 intro u2 HB2 sz2 K2
 simp only[sQ] at K2⊢
 clear K1 HB1
 go_upto_region 4 with fail
 refine rgP K2 HB2 HB2.size [] [] [(0,24,.slice sa aa.length ca),(1,25,.int .i64 (aa.length:Int)),(2,26,.slice sb bs.length cb),(3,27,.int .i64 (bs.length:Int)),(4,28,.bool false)] [] [] [] ?_ ?_
 ·exact oc g_mv<|oc (g_ln Tryz.underlying25)<|oc g_mv<|oc (g_ln Tryz.underlying25)<|oc (g_bn (fun uZ=>Zc _ _ (aa.length:Int) (bs.length:Int) _ uZ hsw)) on
 intro u3 HB3 sz3 K3
 simp only[sQ] at K3⊢
 clear K2 HB2
 have hvv:w.heap.size<=u3.heap.size:=HB3.size
 go_upto_region 6 with fail
 refine rgF K3 HB3 HB3.size [] [] [(0,31,.slice sa aa.length ca),(1,32,.int .i64 (aa.length:Int))] [] [] [⟨2,33,some 3,PRz u3.heap.size aa.length⟩,⟨3,9,none,PRz u3.heap.size aa.length⟩] [] (.cons (fun _ _ _ h1 h2=>h2.stab h1)<| .cons (fun _ _ _ h1 h2=>h2.stab h1)<|Stab.nil) ?_ ?_
 ·exact oc g_mv<|oc (g_ln Tryz.underlying25)<|oc (g_mS 0 (PRz u3.heap.size aa.length) aa.length (flN (List.replicate aa.length 0)) (mkNt _ hns) (fun u h=>PRz.new u h))<|oc (g_sE 0 1 (PRz u3.heap.size aa.length)) on
 intro u4 v4_2 hv4_2 v4_3 hv4_3 HB4 sz4 K4
 simp only[sQ] at K4⊢
 clear HB3
 obtain⟨bo,rfl,o1,o2,o3⟩:=hv4_3 rfl
 have K4xo:=Bk.more3 K3 K4 o1 o2 o3 (by intro x hx;first | (simp at hx;done) | (simp at hx⊢;omega))
 simp only[aK] at K4xo
 clear K4
 have hbo:w.heap.size<=bo:=Nat.le_trans hvv o1
 go_upto_region 7 with fail
 refine rgP K4xo HB4 HB4.size [] [] [(0,34,.slice sa aa.length ca),(1,35,.int .i64 (aa.length:Int)),(2,36,(Go.Value.int Go.IntKind.i64 0))] [] [] [] ?_ ?_
 ·exact oc g_mv<|oc (g_ln Tryz.underlying25)<|oc g_mv on
 intro u5 HB5 sz5 K5
 simp only[sQ] at K5⊢
 clear HB4
 go_wp2_with fail
 go_loopw [36] (fun s36 wr=> ∃(k:Nat),k<=aa.length/\s36= .int .i64 (k:Int)/\Bw w wr/\CV wr (w.heap.size) (LN q)/\w.heap.size<wr.heap.size/\CV wr bo (flN (rowN cs k))/\bo<wr.heap.size) (fun s36 _=>aa.length -(intOf s36).toNat)
 case atStart=>exact⟨0,by omega,rfl,HB5,(K5.cv 0),(K5.lt 0),by rw[rowN_0,hcl.out];exact(K5.cv 1),(K5.lt 1)⟩
 case round=>
  obtain⟨k,hk,rfl,HBr,C0,lC0,C1,lC1⟩:=hrel
  clear HB5
  have hnK:=K5.n
  simp at hnK
  by_cases hj:k<aa.length
  ·have hl:decide ((k:Int)<(aa.length:Int))=true:=by simp;omega
   have hjp:k<cs.length:=by rw[hcl.out];exact hj
   have hX:=hixa.out _ hj
   have hX:Hid _:=hX
   have hR:=hSa.out.at _ hj
   have hR:Hid _:=hR
   have ix:=hna.out k hj
   have hv:=hcs.out k hj
   have hXL:=X0 (vs:=cs) (k:=k) (by omega)
   have hNx:=Yo (vs:=cs) (k:=k) (by omega)
   rw[Y7 (vs:=cs) (k:=k) (by omega)] at C1
   obtain⟨X,eX⟩: ∃X,flN (List.take k cs)=X:=⟨_,rfl⟩
   obtain⟨Z,eZ⟩: ∃Z,flN (List.replicate (List.length cs -(k+1)) 0)=Z:=⟨_,rfl⟩
   rw[eX] at hXL hNx C1
   rw[eZ] at hNx C1
   clear eX eZ
   rw[hv] at hNx
   clear hv hjp
   have hXL:Hid _:=hXL
   have hNx:Hid _:=hNx
   obtain⟨x,ex⟩: ∃x,aa.getD k 0=x:=⟨_,rfl⟩
   rw[ex] at hR ix hNx
   clear ex
   by_cases hb:k<bs.length
   ·have hlb:decide ((k:Int)<(bs.length:Int))=true:=by simp;omega
    have hXb:=hixb.out _ hb
    have hXb:Hid _:=hXb
    have hRb:=hSb.out.at _ hb
    have hRb:Hid _:=hRb
    have iy:=hnb.out k hb
    have hgb2:=hgb.resolve_left (by omega)
    obtain⟨y,ey⟩: ∃y,bs.getD k 0=y:=⟨_,rfl⟩
    rw[ey] at hRb iy hNx
    clear ey
    have K5_1:Bk w.heap.size wr [(false,w.heap.size,LN q),(true,bo,X++LN 0++Z)]:=⟨.c lC0 C0<| .o lC1 (by omega) C1<|trivial,by simp<;>omega⟩
    go_upto_region 8 with fail
    refine rgP K5_1 HBr HBr.size [] [] [(0,37,.bool true)] [] [] [] ?_ ?_
    ·exact oc (g_bn (fun uZ=>Zc _ _ (k:Int) (aa.length:Int) _ uZ hl)) on
    intro u6 HB6 sz6 K6
    simp only[sQ] at K6⊢
    go_upto_region 9 with fail
    refine rgP K6 HB6 HB6.size [] [] [(0,38,.int .i64 (k:Int)),(1,10,.int .i64 (k:Int))] [] [] [] ?_ ?_
    ·exact oc g_mv<|oc g_as on
    intro u7 HB7 sz7 K7
    simp only[sQ] at K7⊢
    clear K6 HB6
    go_upto_region 10 with fail
    refine rgP K7 HB7 HB7.size [] [(1,11,L0s,some (2,[.int .u64 (0),.int .u64 (0),.int .u64 (0),.int .u64 (0)]))] [(0,39,A4 (0) (0) (0) (0))] [(2,1)] [] [] ?_ ?_
    ·exact oc (g_bd zN)<|oc (g_al 0 aN)<|oc (g_sn 0 iN) on
    intro u8 b8_1 HB8 sz8 K8
    simp only[sQ] at K8⊢
    clear K7 HB7
    go_upto_region 11 with fail
    refine rgP K8 HB8 HB8.size [] [] [(0,40,.int .i64 (k:Int)),(1,41,.slice sb bs.length cb),(2,42,.int .i64 (bs.length:Int)),(3,43,.bool true)] [] [] [] ?_ ?_
    ·exact oc g_mv<|oc g_mv<|oc (g_ln Tryz.underlying25)<|oc (g_bn (fun uZ=>Zc _ _ (k:Int) (bs.length:Int) _ uZ hlb)) on
    intro u9 HB9 sz9 K9
    simp only[sQ] at K9⊢
    clear K8 HB8
    go_upto_region 12 with fail
    refine rgP K9 HB9 HB9.size [.no,.no,.all 4 (LN y)] [] [(0,44,.slice sb bs.length cb),(1,45,.int .i64 (k:Int)),(2,46,.pointer (some ⟨gb,ob+4*k,none⟩)),(3,47,NV y)] [] [] [] ?_ ?_
    ·exact oc g_mv<|oc g_mv<|oc (g_ix (fun uZ=>hXb.out uZ))<|oc (g_lf hRb.out hgb2 uN iN)<|oc (g_st 2 iN) on
    intro u10 HB10 sz10 K10
    simp only[sQ] at K10⊢
    clear K9 HB9
    go_upto_region 13 with fail
    refine rgD K10 HB10 HB10.size [.no,.all 13 (X++LN ((x+y)%q)++Z)] [] [(0,49,.slice (some ⟨bo,0,none⟩) aa.length aa.length),(1,50,.int .i64 (k:Int)),(2,51,.slice sa aa.length ca),(3,52,.int .i64 (k:Int)),(4,53,.pointer (some ⟨ga,oa+4*k,none⟩)),(5,54,NV x),(6,55,NV y),(7,56,NV q),(8,57,.tuple #[NV ((x+y)%q),.int .i64 0]),(9,48,.tuple #[NV ((x+y)%q),.int .i64 0]),(10,58,NV ((x+y)%q)),(11,59,.int .i64 0),(12,60,.pointer (some ⟨bo,4*k,none⟩))] [] [] [true,true,false] ?_ ?_
    ·exact oc g_mv<|oc g_mv<|oc g_mv<|oc g_mv<|oc (g_ix (fun uZ=>hX.out uZ))<|oc (g_lf hR.out (hga.resolve_left (by omega)) uN iN)<|oc (g_ld 2 uN iN)<|oc (g_ld 0 uN iN)<|oc (g_cl Zv (fun uZ=>mAdd x y q uZ ix iy hq hq0))<|oc g_mv<|oc g_ex<|oc g_ex<|oc (g_ix (fun uZ=>ixZ _ _ _ k hj uZ))<|oc (g_sm 1 (4*k) X (LN 0) Z (post:=LN ((x+y)%q)) (hxc:=hXL.out) iN) on
    intro u11 HB11 sz11 K11
    simp only[sQ] at K11⊢
    clear K10 HB10
    go_upto_region 14 with fail
    refine rgP K11 HB11 HB11.size [] [] [(0,61,.int .i64 ((k+1:Nat):Int)),(1,36,.int .i64 ((k+1:Nat):Int))] [(1,0)] [(1,36)] [] ?_ ?_
    ·exact oc (g_bn (fun uZ=>Yt _ _ (k:Int) 1 ((k+1:Nat):Int) uZ (by omega) (by omega) (by omega)))<|oc g_mv on
    intro u12 HB12 sz12 K12
    simp only[sQ] at K12⊢
    clear K11 HB11
    go_wp2
    refine⟨⟨k+1,by omega,rfl,HB12,(K12.cv 0),(K12.lt 0),by rw[hNx.out];exact(K12.cv 1),(K12.lt 1)⟩,?_⟩
    simp[intOf]<;>omega
   ·have hlb:decide ((k:Int)<(bs.length:Int))=false:=by simp;omega
    have e0:bs.getD k 0=0:=by simp[List.getElem?_eq_none (show bs.length<=k by omega)]
    rw[e0] at hNx
    clear e0
    have K5_1:Bk w.heap.size wr [(false,w.heap.size,LN q),(true,bo,X++LN 0++Z)]:=⟨.c lC0 C0<| .o lC1 (by omega) C1<|trivial,by simp<;>omega⟩
    go_upto_region 8 with fail
    refine rgP K5_1 HBr HBr.size [] [] [(0,37,.bool true)] [] [] [] ?_ ?_
    ·exact oc (g_bn (fun uZ=>Zc _ _ (k:Int) (aa.length:Int) _ uZ hl)) on
    intro u6 HB6 sz6 K6
    simp only[sQ] at K6⊢
    go_upto_region 9 with fail
    refine rgP K6 HB6 HB6.size [] [] [(0,38,.int .i64 (k:Int)),(1,10,.int .i64 (k:Int))] [] [] [] ?_ ?_
    ·exact oc g_mv<|oc g_as on
    intro u7 HB7 sz7 K7
    simp only[sQ] at K7⊢
    clear K6 HB6
    go_upto_region 10 with fail
    refine rgP K7 HB7 HB7.size [] [(1,11,L0s,some (2,[.int .u64 (0),.int .u64 (0),.int .u64 (0),.int .u64 (0)]))] [(0,39,A4 (0) (0) (0) (0))] [(2,1)] [] [] ?_ ?_
    ·exact oc (g_bd zN)<|oc (g_al 0 aN)<|oc (g_sn 0 iN) on
    intro u8 b8_1 HB8 sz8 K8
    simp only[sQ] at K8⊢
    clear K7 HB7
    go_upto_region 11 with fail
    refine rgP K8 HB8 HB8.size [] [] [(0,40,.int .i64 (k:Int)),(1,41,.slice sb bs.length cb),(2,42,.int .i64 (bs.length:Int)),(3,43,.bool false)] [] [] [] ?_ ?_
    ·exact oc g_mv<|oc g_mv<|oc (g_ln Tryz.underlying25)<|oc (g_bn (fun uZ=>Zc _ _ (k:Int) (bs.length:Int) _ uZ hlb)) on
    intro u9 HB9 sz9 K9
    simp only[sQ] at K9⊢
    clear K8 HB8
    go_upto_region 13 with fail
    refine rgD K9 HB9 HB9.size [.no,.all 13 (X++LN ((x+0)%q)++Z)] [] [(0,49,.slice (some ⟨bo,0,none⟩) aa.length aa.length),(1,50,.int .i64 (k:Int)),(2,51,.slice sa aa.length ca),(3,52,.int .i64 (k:Int)),(4,53,.pointer (some ⟨ga,oa+4*k,none⟩)),(5,54,NV x),(6,55,.agg #[.int .u64 (0),.int .u64 (0),.int .u64 (0),.int .u64 (0)]),(7,56,NV q),(8,57,.tuple #[NV ((x+0)%q),.int .i64 0]),(9,48,.tuple #[NV ((x+0)%q),.int .i64 0]),(10,58,NV ((x+0)%q)),(11,59,.int .i64 0),(12,60,.pointer (some ⟨bo,4*k,none⟩))] [] [] [true,true,false] ?_ ?_
    ·exact oc g_mv<|oc g_mv<|oc g_mv<|oc g_mv<|oc (g_ix (fun uZ=>hX.out uZ))<|oc (g_lf hR.out (hga.resolve_left (by omega)) uN iN)<|oc (g_ld 2 uN iN)<|oc (g_ld 0 uN iN)<|oc (g_cl Zv (fun uZ=>mAddZ x q uZ ix hq hq0))<|oc g_mv<|oc g_ex<|oc g_ex<|oc (g_ix (fun uZ=>ixZ _ _ _ k hj uZ))<|oc (g_sm 1 (4*k) X (LN 0) Z (post:=LN ((x+0)%q)) (hxc:=hXL.out) iN) on
    intro u10 HB10 sz10 K10
    simp only[sQ] at K10⊢
    clear K9 HB9
    go_upto_region 14 with fail
    refine rgP K10 HB10 HB10.size [] [] [(0,61,.int .i64 ((k+1:Nat):Int)),(1,36,.int .i64 ((k+1:Nat):Int))] [(1,0)] [(1,36)] [] ?_ ?_
    ·exact oc (g_bn (fun uZ=>Yt _ _ (k:Int) 1 ((k+1:Nat):Int) uZ (by omega) (by omega) (by omega)))<|oc g_mv on
    intro u11 HB11 sz11 K11
    simp only[sQ] at K11⊢
    clear K10 HB10
    go_wp2
    refine⟨⟨k+1,by omega,rfl,HB11,(K11.cv 0),(K11.lt 0),by rw[hNx.out];exact(K11.cv 1),(K11.lt 1)⟩,?_⟩
    simp[intOf]<;>omega
  ·have hl:decide ((k:Int)<(aa.length:Int))=false:=by simp;omega
   have hkn:k=cs.length:=by rw[hcl.out];omega
   rw[hkn,X1] at C1
   clear hkn
   have K5_1:Bk w.heap.size wr [(false,w.heap.size,LN q),(true,bo,flN cs)]:=⟨.c lC0 C0<| .o lC1 (by omega) C1<|trivial,by simp<;>omega⟩
   go_upto_region 8 with fail
   refine rgP K5_1 HBr HBr.size [] [] [(0,37,.bool false)] [] [] [] ?_ ?_
   ·exact oc (g_bn (fun uZ=>Zc _ _ (k:Int) (aa.length:Int) _ uZ hl)) on
   intro u6 HB6 sz6 K6
   simp only[sQ] at K6⊢
   go_upto_region 15 with fail
   refine rgP K6 HB6 HB6.size [] [] [(0,62,.slice (some ⟨bo,0,none⟩) aa.length aa.length),(1,6,.slice (some ⟨bo,0,none⟩) aa.length aa.length),(2,7,(Go.Value.int Go.IntKind.i64 0))] [] [] [] ?_ ?_
   ·exact oc g_mv<|oc g_as<|oc g_as on
   intro u7 HB7 sz7 K7
   simp only[sQ] at K7⊢
   clear K6 HB6
   go_wp2
   exact bodyPost_ret (v:= .tuple #[.slice (some ⟨bo,0,none⟩) aa.length aa.length,.int .i64 0]) (by simp[results,Tryz.results13,go_sem]) rfl ⟨_,rfl,⟨bo,by rw[hcl.out],hbo,(K7.lt 1),(K7.cv 1)⟩,HB7⟩
theorem add_sw(q:Int)(sa sb:Option Addr)(ga oa ca gb ob cb:Nat)(aa bs cs:List Int)(w:World)(hq:In q)(hq0:q≠0)(hns:aa.length<=1000)(hsw:decide ((bs.length:Int)<(aa.length:Int))=true)(hP:Hid (∀u,Bw w u->CC 27 #[NV q,.slice sb bs.length cb] u (.nilIface)))(hP2:Hid (∀u,Bw w u->CC 27 #[NV q,.slice sa aa.length ca] u (.nilIface)))(hixa:Hid (∀j,j<aa.length-> ∀W,(Instr.indexAt 25 (.slice sa aa.length ca) (.int .i64 j)).run Tryz.prog W= .ok (.pointer (some ⟨ga,oa+4*j,none⟩)) W))(hga:aa.length=0\/ga<w.heap.size)(hSa:Hid (SN w ga oa aa))(hna:Hid (∀k,k<aa.length->In (aa.getD k 0)))(hixb:Hid (∀j,j<bs.length-> ∀W,(Instr.indexAt 25 (.slice sb bs.length cb) (.int .i64 j)).run Tryz.prog W= .ok (.pointer (some ⟨gb,ob+4*j,none⟩)) W))(hgb:bs.length=0\/gb<w.heap.size)(hSb:Hid (SN w gb ob bs))(hnb:Hid (∀k,k<bs.length->In (bs.getD k 0)))(hbl:bs.length<=aa.length)(hcl:Hid (cs.length=aa.length))(hcs:Hid (∀k,k<aa.length->cs.getD k 0=(aa.getD k 0+bs.getD k 0)%q)):
 Calls Tryz.prog 13 #[NV q,.slice sb bs.length cb,.slice sa aa.length ca] w fun e' w'=> ∃y,e'= .returned (.tuple #[y,.int .i64 0])/\PRw w.heap.size cs w' y/\Bw w w':=by
 go_enter Tryz.func13,Tryz.ntmps13
 go_upto_region 1 with fail
 generalize hC:(w.alloc (.cells (LN q:List Value).toArray 24))=v0 at *
 have HB0:Bw w v0:=by rw[<-hC];exact Z0 (Z2 w) _
 have K0:Bk w.heap.size v0 [(true,w.heap.size,LN q)]:=by rw[<-hC];exact(Bk.nil _ w).ad
 clear hC
 refine rgE K0 HB0 HB0.size [] [] [(0,12,NV q),(1,13,.slice sb bs.length cb),(2,14,.nilIface),(3,15,NV q),(4,16,.slice sa aa.length ca),(5,17,.nilIface),(7,19,.nilIface),(8,8,.nilIface)] [] [] [⟨6,18,some 7,PE0⟩] [] (.cons (fun _ _ _ h1 h2=>h2.stab h1)<|Stab.nil) ?_ ?_
 ·exact oc (g_ld 0 uN iN)<|oc g_mv<|oc (g_cb Z8 (fun uZ bZ=>hP.out uZ bZ))<|oc (g_ld 0 uN iN)<|oc g_mv<|oc (g_cb Z8 (fun uZ bZ=>hP2.out uZ bZ))<|oc (g_bR 0 PE0 [0,1] [.nilIface,.nilIface] [.nilIface,.nilIface] bsE00 (fun u hu=>PE0.new u))<|oc (g_c1 0 PE0 Zr (fun uZ yZ _ hZ=>cJoin0 yZ uZ hZ))<|oc g_as on
 intro u1 v1_6 hv1_6 HB1 sz1 K1
 simp only[sQ] at K1⊢
 clear K0 HB0
 go_upto_region 2 with fail
 refine rgP K1 HB1 HB1.size [] [] [(0,20,.nilIface),(1,21,.bool false)] [] [] [] ?_ ?_
 ·exact oc g_mv<|oc (g_bn (fun uZ=>neq_no _ _ uZ)) on
 intro u2 HB2 sz2 K2
 simp only[sQ] at K2⊢
 clear K1 HB1
 go_upto_region 4 with fail
 refine rgP K2 HB2 HB2.size [] [] [(0,24,.slice sb bs.length cb),(1,25,.int .i64 (bs.length:Int)),(2,26,.slice sa aa.length ca),(3,27,.int .i64 (aa.length:Int)),(4,28,.bool true)] [] [] [] ?_ ?_
 ·exact oc g_mv<|oc (g_ln Tryz.underlying25)<|oc g_mv<|oc (g_ln Tryz.underlying25)<|oc (g_bn (fun uZ=>Zc _ _ (bs.length:Int) (aa.length:Int) _ uZ hsw)) on
 intro u3 HB3 sz3 K3
 simp only[sQ] at K3⊢
 clear K2 HB2
 go_upto_region 5 with fail
 refine rgP K3 HB3 HB3.size [] [] [(0,29,.slice sa aa.length ca),(1,30,.slice sb bs.length cb),(2,1,.slice sa aa.length ca),(3,2,.slice sb bs.length cb)] [(3,0),(2,1)] [(3,2),(2,1)] [] ?_ ?_
 ·exact oc g_mv<|oc g_mv<|oc g_as<|oc g_as on
 intro u4 HB4 sz4 K4
 simp only[sQ] at K4⊢
 clear K3 HB3
 have hvv:w.heap.size<=u4.heap.size:=HB4.size
 go_upto_region 6 with fail
 refine rgF K4 HB4 HB4.size [] [] [(0,31,.slice sa aa.length ca),(1,32,.int .i64 (aa.length:Int))] [] [] [⟨2,33,some 3,PRz u4.heap.size aa.length⟩,⟨3,9,none,PRz u4.heap.size aa.length⟩] [] (.cons (fun _ _ _ h1 h2=>h2.stab h1)<| .cons (fun _ _ _ h1 h2=>h2.stab h1)<|Stab.nil) ?_ ?_
 ·exact oc g_mv<|oc (g_ln Tryz.underlying25)<|oc (g_mS 0 (PRz u4.heap.size aa.length) aa.length (flN (List.replicate aa.length 0)) (mkNt _ hns) (fun u h=>PRz.new u h))<|oc (g_sE 0 1 (PRz u4.heap.size aa.length)) on
 intro u5 v5_2 hv5_2 v5_3 hv5_3 HB5 sz5 K5
 simp only[sQ] at K5⊢
 clear HB4
 obtain⟨bo,rfl,o1,o2,o3⟩:=hv5_3 rfl
 have K5xo:=Bk.more3 K4 K5 o1 o2 o3 (by intro x hx;first | (simp at hx;done) | (simp at hx⊢;omega))
 simp only[aK] at K5xo
 clear K5
 have hbo:w.heap.size<=bo:=Nat.le_trans hvv o1
 go_upto_region 7 with fail
 refine rgP K5xo HB5 HB5.size [] [] [(0,34,.slice sa aa.length ca),(1,35,.int .i64 (aa.length:Int)),(2,36,(Go.Value.int Go.IntKind.i64 0))] [] [] [] ?_ ?_
 ·exact oc g_mv<|oc (g_ln Tryz.underlying25)<|oc g_mv on
 intro u6 HB6 sz6 K6
 simp only[sQ] at K6⊢
 clear HB5
 go_wp2_with fail
 go_loopw [36] (fun s36 wr=> ∃(k:Nat),k<=aa.length/\s36= .int .i64 (k:Int)/\Bw w wr/\CV wr (w.heap.size) (LN q)/\w.heap.size<wr.heap.size/\CV wr bo (flN (rowN cs k))/\bo<wr.heap.size) (fun s36 _=>aa.length -(intOf s36).toNat)
 case atStart=>exact⟨0,by omega,rfl,HB6,(K6.cv 0),(K6.lt 0),by rw[rowN_0,hcl.out];exact(K6.cv 1),(K6.lt 1)⟩
 case round=>
  obtain⟨k,hk,rfl,HBr,C0,lC0,C1,lC1⟩:=hrel
  clear HB6
  have hnK:=K6.n
  simp at hnK
  by_cases hj:k<aa.length
  ·have hl:decide ((k:Int)<(aa.length:Int))=true:=by simp;omega
   have hjp:k<cs.length:=by rw[hcl.out];exact hj
   have hX:=hixa.out _ hj
   have hX:Hid _:=hX
   have hR:=hSa.out.at _ hj
   have hR:Hid _:=hR
   have ix:=hna.out k hj
   have hv:=hcs.out k hj
   have hXL:=X0 (vs:=cs) (k:=k) (by omega)
   have hNx:=Yo (vs:=cs) (k:=k) (by omega)
   rw[Y7 (vs:=cs) (k:=k) (by omega)] at C1
   obtain⟨X,eX⟩: ∃X,flN (List.take k cs)=X:=⟨_,rfl⟩
   obtain⟨Z,eZ⟩: ∃Z,flN (List.replicate (List.length cs -(k+1)) 0)=Z:=⟨_,rfl⟩
   rw[eX] at hXL hNx C1
   rw[eZ] at hNx C1
   clear eX eZ
   rw[hv] at hNx
   clear hv hjp
   have hXL:Hid _:=hXL
   have hNx:Hid _:=hNx
   obtain⟨x,ex⟩: ∃x,aa.getD k 0=x:=⟨_,rfl⟩
   rw[ex] at hR ix hNx
   clear ex
   by_cases hb:k<bs.length
   ·have hlb:decide ((k:Int)<(bs.length:Int))=true:=by simp;omega
    have hXb:=hixb.out _ hb
    have hXb:Hid _:=hXb
    have hRb:=hSb.out.at _ hb
    have hRb:Hid _:=hRb
    have iy:=hnb.out k hb
    have hgb2:=hgb.resolve_left (by omega)
    obtain⟨y,ey⟩: ∃y,bs.getD k 0=y:=⟨_,rfl⟩
    rw[ey] at hRb iy hNx
    clear ey
    have K6_1:Bk w.heap.size wr [(false,w.heap.size,LN q),(true,bo,X++LN 0++Z)]:=⟨.c lC0 C0<| .o lC1 (by omega) C1<|trivial,by simp<;>omega⟩
    go_upto_region 8 with fail
    refine rgP K6_1 HBr HBr.size [] [] [(0,37,.bool true)] [] [] [] ?_ ?_
    ·exact oc (g_bn (fun uZ=>Zc _ _ (k:Int) (aa.length:Int) _ uZ hl)) on
    intro u7 HB7 sz7 K7
    simp only[sQ] at K7⊢
    go_upto_region 9 with fail
    refine rgP K7 HB7 HB7.size [] [] [(0,38,.int .i64 (k:Int)),(1,10,.int .i64 (k:Int))] [] [] [] ?_ ?_
    ·exact oc g_mv<|oc g_as on
    intro u8 HB8 sz8 K8
    simp only[sQ] at K8⊢
    clear K7 HB7
    go_upto_region 10 with fail
    refine rgP K8 HB8 HB8.size [] [(1,11,L0s,some (2,[.int .u64 (0),.int .u64 (0),.int .u64 (0),.int .u64 (0)]))] [(0,39,A4 (0) (0) (0) (0))] [(2,1)] [] [] ?_ ?_
    ·exact oc (g_bd zN)<|oc (g_al 0 aN)<|oc (g_sn 0 iN) on
    intro u9 b9_1 HB9 sz9 K9
    simp only[sQ] at K9⊢
    clear K8 HB8
    go_upto_region 11 with fail
    refine rgP K9 HB9 HB9.size [] [] [(0,40,.int .i64 (k:Int)),(1,41,.slice sb bs.length cb),(2,42,.int .i64 (bs.length:Int)),(3,43,.bool true)] [] [] [] ?_ ?_
    ·exact oc g_mv<|oc g_mv<|oc (g_ln Tryz.underlying25)<|oc (g_bn (fun uZ=>Zc _ _ (k:Int) (bs.length:Int) _ uZ hlb)) on
    intro u10 HB10 sz10 K10
    simp only[sQ] at K10⊢
    clear K9 HB9
    go_upto_region 12 with fail
    refine rgP K10 HB10 HB10.size [.no,.no,.all 4 (LN y)] [] [(0,44,.slice sb bs.length cb),(1,45,.int .i64 (k:Int)),(2,46,.pointer (some ⟨gb,ob+4*k,none⟩)),(3,47,NV y)] [] [] [] ?_ ?_
    ·exact oc g_mv<|oc g_mv<|oc (g_ix (fun uZ=>hXb.out uZ))<|oc (g_lf hRb.out hgb2 uN iN)<|oc (g_st 2 iN) on
    intro u11 HB11 sz11 K11
    simp only[sQ] at K11⊢
    clear K10 HB10
    go_upto_region 13 with fail
    refine rgD K11 HB11 HB11.size [.no,.all 13 (X++LN ((x+y)%q)++Z)] [] [(0,49,.slice (some ⟨bo,0,none⟩) aa.length aa.length),(1,50,.int .i64 (k:Int)),(2,51,.slice sa aa.length ca),(3,52,.int .i64 (k:Int)),(4,53,.pointer (some ⟨ga,oa+4*k,none⟩)),(5,54,NV x),(6,55,NV y),(7,56,NV q),(8,57,.tuple #[NV ((x+y)%q),.int .i64 0]),(9,48,.tuple #[NV ((x+y)%q),.int .i64 0]),(10,58,NV ((x+y)%q)),(11,59,.int .i64 0),(12,60,.pointer (some ⟨bo,4*k,none⟩))] [] [] [true,true,false] ?_ ?_
    ·exact oc g_mv<|oc g_mv<|oc g_mv<|oc g_mv<|oc (g_ix (fun uZ=>hX.out uZ))<|oc (g_lf hR.out (hga.resolve_left (by omega)) uN iN)<|oc (g_ld 2 uN iN)<|oc (g_ld 0 uN iN)<|oc (g_cl Zv (fun uZ=>mAdd x y q uZ ix iy hq hq0))<|oc g_mv<|oc g_ex<|oc g_ex<|oc (g_ix (fun uZ=>ixZ _ _ _ k hj uZ))<|oc (g_sm 1 (4*k) X (LN 0) Z (post:=LN ((x+y)%q)) (hxc:=hXL.out) iN) on
    intro u12 HB12 sz12 K12
    simp only[sQ] at K12⊢
    clear K11 HB11
    go_upto_region 14 with fail
    refine rgP K12 HB12 HB12.size [] [] [(0,61,.int .i64 ((k+1:Nat):Int)),(1,36,.int .i64 ((k+1:Nat):Int))] [(1,0)] [(1,36)] [] ?_ ?_
    ·exact oc (g_bn (fun uZ=>Yt _ _ (k:Int) 1 ((k+1:Nat):Int) uZ (by omega) (by omega) (by omega)))<|oc g_mv on
    intro u13 HB13 sz13 K13
    simp only[sQ] at K13⊢
    clear K12 HB12
    go_wp2
    refine⟨⟨k+1,by omega,rfl,HB13,(K13.cv 0),(K13.lt 0),by rw[hNx.out];exact(K13.cv 1),(K13.lt 1)⟩,?_⟩
    simp[intOf]<;>omega
   ·have hlb:decide ((k:Int)<(bs.length:Int))=false:=by simp;omega
    have e0:bs.getD k 0=0:=by simp[List.getElem?_eq_none (show bs.length<=k by omega)]
    rw[e0] at hNx
    clear e0
    have K6_1:Bk w.heap.size wr [(false,w.heap.size,LN q),(true,bo,X++LN 0++Z)]:=⟨.c lC0 C0<| .o lC1 (by omega) C1<|trivial,by simp<;>omega⟩
    go_upto_region 8 with fail
    refine rgP K6_1 HBr HBr.size [] [] [(0,37,.bool true)] [] [] [] ?_ ?_
    ·exact oc (g_bn (fun uZ=>Zc _ _ (k:Int) (aa.length:Int) _ uZ hl)) on
    intro u7 HB7 sz7 K7
    simp only[sQ] at K7⊢
    go_upto_region 9 with fail
    refine rgP K7 HB7 HB7.size [] [] [(0,38,.int .i64 (k:Int)),(1,10,.int .i64 (k:Int))] [] [] [] ?_ ?_
    ·exact oc g_mv<|oc g_as on
    intro u8 HB8 sz8 K8
    simp only[sQ] at K8⊢
    clear K7 HB7
    go_upto_region 10 with fail
    refine rgP K8 HB8 HB8.size [] [(1,11,L0s,some (2,[.int .u64 (0),.int .u64 (0),.int .u64 (0),.int .u64 (0)]))] [(0,39,A4 (0) (0) (0) (0))] [(2,1)] [] [] ?_ ?_
    ·exact oc (g_bd zN)<|oc (g_al 0 aN)<|oc (g_sn 0 iN) on
    intro u9 b9_1 HB9 sz9 K9
    simp only[sQ] at K9⊢
    clear K8 HB8
    go_upto_region 11 with fail
    refine rgP K9 HB9 HB9.size [] [] [(0,40,.int .i64 (k:Int)),(1,41,.slice sb bs.length cb),(2,42,.int .i64 (bs.length:Int)),(3,43,.bool false)] [] [] [] ?_ ?_
    ·exact oc g_mv<|oc g_mv<|oc (g_ln Tryz.underlying25)<|oc (g_bn (fun uZ=>Zc _ _ (k:Int) (bs.length:Int) _ uZ hlb)) on
    intro u10 HB10 sz10 K10
    simp only[sQ] at K10⊢
    clear K9 HB9
    go_upto_region 13 with fail
    refine rgD K10 HB10 HB10.size [.no,.all 13 (X++LN ((x+0)%q)++Z)] [] [(0,49,.slice (some ⟨bo,0,none⟩) aa.length aa.length),(1,50,.int .i64 (k:Int)),(2,51,.slice sa aa.length ca),(3,52,.int .i64 (k:Int)),(4,53,.pointer (some ⟨ga,oa+4*k,none⟩)),(5,54,NV x),(6,55,.agg #[.int .u64 (0),.int .u64 (0),.int .u64 (0),.int .u64 (0)]),(7,56,NV q),(8,57,.tuple #[NV ((x+0)%q),.int .i64 0]),(9,48,.tuple #[NV ((x+0)%q),.int .i64 0]),(10,58,NV ((x+0)%q)),(11,59,.int .i64 0),(12,60,.pointer (some ⟨bo,4*k,none⟩))] [] [] [true,true,false] ?_ ?_
    ·exact oc g_mv<|oc g_mv<|oc g_mv<|oc g_mv<|oc (g_ix (fun uZ=>hX.out uZ))<|oc (g_lf hR.out (hga.resolve_left (by omega)) uN iN)<|oc (g_ld 2 uN iN)<|oc (g_ld 0 uN iN)<|oc (g_cl Zv (fun uZ=>mAddZ x q uZ ix hq hq0))<|oc g_mv<|oc g_ex<|oc g_ex<|oc (g_ix (fun uZ=>ixZ _ _ _ k hj uZ))<|oc (g_sm 1 (4*k) X (LN 0) Z (post:=LN ((x+0)%q)) (hxc:=hXL.out) iN) on
    intro u11 HB11 sz11 K11
    simp only[sQ] at K11⊢
    clear K10 HB10
    go_upto_region 14 with fail
    refine rgP K11 HB11 HB11.size [] [] [(0,61,.int .i64 ((k+1:Nat):Int)),(1,36,.int .i64 ((k+1:Nat):Int))] [(1,0)] [(1,36)] [] ?_ ?_
    ·exact oc (g_bn (fun uZ=>Yt _ _ (k:Int) 1 ((k+1:Nat):Int) uZ (by omega) (by omega) (by omega)))<|oc g_mv on
    intro u12 HB12 sz12 K12
    simp only[sQ] at K12⊢
    clear K11 HB11
    go_wp2
    refine⟨⟨k+1,by omega,rfl,HB12,(K12.cv 0),(K12.lt 0),by rw[hNx.out];exact(K12.cv 1),(K12.lt 1)⟩,?_⟩
    simp[intOf]<;>omega
  ·have hl:decide ((k:Int)<(aa.length:Int))=false:=by simp;omega
   have hkn:k=cs.length:=by rw[hcl.out];omega
   rw[hkn,X1] at C1
   clear hkn
   have K6_1:Bk w.heap.size wr [(false,w.heap.size,LN q),(true,bo,flN cs)]:=⟨.c lC0 C0<| .o lC1 (by omega) C1<|trivial,by simp<;>omega⟩
   go_upto_region 8 with fail
   refine rgP K6_1 HBr HBr.size [] [] [(0,37,.bool false)] [] [] [] ?_ ?_
   ·exact oc (g_bn (fun uZ=>Zc _ _ (k:Int) (aa.length:Int) _ uZ hl)) on
   intro u7 HB7 sz7 K7
   simp only[sQ] at K7⊢
   go_upto_region 15 with fail
   refine rgP K7 HB7 HB7.size [] [] [(0,62,.slice (some ⟨bo,0,none⟩) aa.length aa.length),(1,6,.slice (some ⟨bo,0,none⟩) aa.length aa.length),(2,7,(Go.Value.int Go.IntKind.i64 0))] [] [] [] ?_ ?_
   ·exact oc g_mv<|oc g_as<|oc g_as on
   intro u8 HB8 sz8 K8
   simp only[sQ] at K8⊢
   clear K7 HB7
   go_wp2
   exact bodyPost_ret (v:= .tuple #[.slice (some ⟨bo,0,none⟩) aa.length aa.length,.int .i64 0]) (by simp[results,Tryz.results13,go_sem]) rfl ⟨_,rfl,⟨bo,by rw[hcl.out],hbo,(K8.lt 1),(K8.cv 1)⟩,HB8⟩
end Go.Proofs.YtgieoghechekpaaGreatDoor
