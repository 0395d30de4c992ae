import Derived.Test.YtbbohmgjphpfeaaGreatDoorAKQ
namespace Go.Proofs.YtbbohmgjphpfeaaGreatDoor
set_option linter.unusedVariables false
set_option linter.unusedSimpArgs false
set_option maxRecDepth 100000
set_option maxHeartbeats 4000000
section
open Go.RowKit
theorem ent_Q1:EnT 25:=fun _ _=>by kernel_rfl
theorem ent_Q2:EnT 31:=fun _ _=>by kernel_rfl
theorem ent_Q3:EnT 23:=fun _ _=>by kernel_rfl
theorem nl_cut{u:World}{sl:Option Addr}{cap n k:Nat}{ns:List Int}(h:NL u (.slice sl n cap) ns)(hk:k<=ns.length):NL u (.slice sl k cap) (ns.take k):=by
 obtain⟨sl',gb,go,cap',e,h2,h3,h4,h5,h6⟩:=h
 cases e
 have hl:(ns.take k).length=k:=by rw[List.length_take];omega
 refine⟨sl,gb,go,cap,by rw[hl],by omega,h3,?_,?_,fun j v hj=>?_⟩
 ·rcases h4 with h4 | h4
  ·subst h4;exact .inl (by simp)
  ·exact .inr h4
 ·exact h5.imp (fun e=>by omega) id
 ·refine h6 j v ?_
  have e:flN ns=flN (ns.take k)++flN (ns.drop k):=by rw[<-Va,List.take_append_drop]
  rw[e,List.getElem?_append_left (List.getElem?_eq_some_iff.1 hj).1];exact hj
theorem xSumN(m x:Int)(v:Value)(w:World)(hm:In m)(h:m≠0)(hx:In x)(hv:NL w v [x]):CC 31 #[NV m,v] w (.tuple #[NV (x%m),.int .i64 0]):=by
 obtain⟨sl,gb,go,cap,rfl,h2,h3,h4,h5,h6⟩:=hv
 have h7:=xSum m sl gb go cap [x] w (by simp) hm h (Y0 (by intro z hz;simp at hz;subst hz;exact hx)) (NL.ix (u:=w) h4) h5 h6
 rw[show ([x]:List Int).length=1 from rfl,gat_1] at h7
 exact h7
theorem take_1{ns:List Int}(h:1<=ns.length):ns.take 1=[ns.getD 0 0]:=by
 match ns,h with
 | x::l,_=>simp
theorem cm_0{p q g h:Int}{ss ts:List Int}(h1:1<=ss.length):(cmS p q g h ss ts).getD 0 0=coX p q g h (ss.getD 0 0) (ts.getD 0 0):=W0 (by omega)
theorem nl_at0{u:World}{sl:Option Addr}{n c:Nat}{ns:List Int}(h:NL u (.slice sl n c) ns)(hj:1<=ns.length): ∃gb go,sl=some ⟨gb,go,none⟩/\gb<u.heap.size/\u.rangeAt gb go (LN (ns.getD 0 0))/\ ∀W,(Instr.indexAt 27 (.slice sl n c) (.int .i64 0)).run Tryz.prog W= .ok (.pointer (some ⟨gb,go,none⟩)) W:=by
 obtain⟨sl',gb,go,cap,e,h2,h3,h4,h5,h6⟩:=h
 cases e
 have hX:=NL.ix (u:=u) (cap:=c) h4 0 (by omega)
 have hR:=h6.at 0 (by omega)
 have h4:=h4.resolve_left (fun e=>by subst e;simp at hj)
 rw[Nat.mul_zero,Nat.add_zero] at hX hR
 exact⟨gb,go,h4,h5.resolve_left (by omega),hR,hX⟩
set_option maxHeartbeats 700000 in
theorem vssSecret_core(fr:Int)(sa sb:Option Addr)(n m k ca cb:Nat)(ss ts:List Int)(w:World)(hV:VOK w)(hW:VOP w)(hk:min (min (n:Int) (m:Int)) 6=(k:Int))(h1:k<=n)(h2:n<=ca)(h3:sa=none->ca=0)(h4:k<=m)(h5:m<=cb)(h6:sb=none->cb=0)(hA:NL w (.slice sa k ca) ss)(hB:NL w (.slice sb k cb) ts)(hsl:ss.length=k)(htl:ts.length=k)(hss: ∀z∈ss,In z)(hts: ∀z∈ts,In z)(hff:Hid (1<=k-> ∃f:Nat,f+k<16/\Hid (∀u,CC 29 #[.int .i64 fr,.int .i64 ((16 -k:Nat):Int)] u (.int .i64 (f:Int))))):
 CC 8 #[.slice sa n ca,.slice sb m cb,.int .i64 fr] w (.bool true):=by
 go_enter Tryz.func8,Tryz.ntmps8
 have HB0:Bw w w:=Below.refl _ _
 have K0_1:=Bk.nil (w.heap.size) w
 go_upto_region 1 with fail
 refine Rn K0_1 HB0 [(0,22,.bool true),(1,23,.bool false)] ?_ ?_
 ·exact oc (g_cb ent_O2 (fun uZ bZ=>works11 uZ (hV.up bZ)))<|oc (g_un Uj) on
 intro u1 HB1 sz1 K1
 simp only[sQ] at K1⊢
 clear HB0
 go_upto_region 3 with fail
 refine Rp K1 HB1 [] [] [(0,25,.slice sa n ca),(1,26,.slice sb m cb),(2,27,.tuple #[.slice sa k ca,.slice sb k cb]),(3,24,.tuple #[.slice sa k ca,.slice sb k cb]),(4,28,.slice sa k ca),(5,29,.slice sb k cb),(6,0,.slice sa k ca),(7,1,.slice sb k cb)] [(6,0),(7,1)] [(6,0),(7,1)] [] ?_ ?_
 ·exact oc g_mv<|oc g_mv<|oc (g_cl ent_O3 (fun uZ=>two_core sa sb n m k ca cb uZ hk h1 h2 h3 h4 h5 h6))<|oc g_mv<|oc g_ex<|oc g_ex<|oc g_as<|oc g_as on
 intro u2 HB2 sz2 K2
 simp only[sQ] at K2⊢
 clear K1 HB1
 by_cases hz:k=0
 ·have hk0:((k:Int)==0)=true:=by rw[beq_iff_eq];omega
  clear hz
  go_upto_region 4 with fail
  refine Rn K2 HB2 [(0,30,.slice sa k ca),(1,31,.int .i64 (k:Int)),(2,32,.bool true)] ?_ ?_
  ·exact oc g_mv<|oc (g_ln Tryz.underlying27)<|oc (g_bn (fun uZ=>Tw _ _ _ (k:Int) 0 _ uZ hk0)) on
  intro u3 HB3 sz3 K3
  simp only[sQ] at K3⊢
  clear K2 HB2
  go_upto_region 5 with fail
  refine Rn K3 HB3 [(0,6,(Go.Value.bool Bool.true))] ?_ ?_
  ·exact oc g_as on
  intro u4 HB4 sz4 K4
  simp only[sQ] at K4⊢
  clear K3 HB3
  go_wp2
  exact bodyPost_ret (v:= .bool true) (by simp[results,Tryz.results8,go_sem]) rfl ⟨rfl,HB4⟩
 ·have hk0:((k:Int)==0)=false:=by rw[beq_eq_false_iff_ne];omega
  have hk1:1<=k:=by omega
  have hk6:k<=6:=by omega
  have hsh:shB ss.length ts.length=true:=shB_iff.2 ⟨by omega,by omega,by omega⟩
  have hde:dlE P0 Q0 4 H0 1 ss ts=0:=dl_0 (by decide) hsh
  have hfk:=hff.out hk1
  obtain⟨f,hf1,hAm⟩:=hfk
  clear hz
  go_upto_region 4 with fail
  refine Rn K2 HB2 [(0,30,.slice sa k ca),(1,31,.int .i64 (k:Int)),(2,32,.bool false)] ?_ ?_
  ·exact oc g_mv<|oc (g_ln Tryz.underlying27)<|oc (g_bn (fun uZ=>Tw _ _ _ (k:Int) 0 _ uZ hk0)) on
  intro u3 HB3 sz3 K3
  simp only[sQ] at K3⊢
  clear K2 HB2
  go_upto_region 6 with fail
  have hTu:=HB3
  have hA:Hid _:=hA
  have hB:Hid _:=hB
  go_cut [7,8] (fun s7 s8 wx=> ∃b y,s7= .pointer (some ⟨b,0,none⟩)/\s8= .int .i64 0/\Bw u3 wx/\b<wx.heap.size/\CV wx b (DE 1 y)/\NL wx y (cmS P0 Q0 4 H0 ss ts))
  case first=>
   replace hA:=hA.out
   replace hB:=hB.out
   go_wp2_with (first
    | (go_at_call 28;refine(cThe u3).mono ?_;rintro e u6 ⟨rfl,hB6⟩)
    | (go_at_call 10;refine(hV.deal u6 (Z6 hTu hB6) P0 Q0 4 H0 1 ss ts _ _ Wd Xj In_n4 In_H0 (by omega) (NL.up hA (Z6 hTu hB6)) (NL.up hB (Z6 hTu hB6)) hss hts (by omega) (by omega)).mono ?_;rw[hde,dlD,dlC,hde,if_pos rfl,if_pos rfl];rintro e u7 ⟨y,rfl,hy,hB7⟩;obtain⟨sy,cy,ey⟩:=lt_NL hy;subst ey;have hy:Hid _:=hy))
   go_meet
   exact⟨u7.heap.size,_,rfl,rfl,Z1 (Z6 hB6 hB7) _,by simp,CV.new u7 _ _,NL.up hy.out (Z1 (Z9 u7) _)⟩
  case rest=>
   obtain⟨b7,y,rfl,rfl,hBw,l7,K7,ny_0⟩:=hcut
   obtain⟨sy,cy,ey⟩:=lt_NL ny_0
   subst ey
   have hTw:Bw w wc:=Z6 hTu hBw
   have fa_0:=NL.up hA.out hTw
   have fb_0:=NL.up hB.out hTw
   have HBc:Bw wc wc:=Below.refl _ _
   have K3_2:Bk wc.heap.size wc [(false,b7,DE (1) (.slice sy (cmS P0 Q0 4 H0 ss ts).length cy))]:=⟨.c l7 K7<|trivial,by simp⟩
   go_upto_region 7 with fail
   refine Rp K3_2 HBc [] [] [(0,40,.int .i64 fr),(1,41,.slice sa k ca),(2,42,.int .i64 (k:Int)),(3,43,.int .i64 ((16 -k:Nat):Int)),(4,44,.int .i64 (f:Int)),(5,2,.int .i64 (f:Int))] [(5,0)] [(5,2)] [] ?_ ?_
   ·exact oc g_mv<|oc g_mv<|oc (g_ln Tryz.underlying27)<|oc (g_bn (fun uZ=>Xt _ _ 16 (k:Int) ((16 -k:Nat):Int) uZ (by omega) (by omega) (by omega)))<|oc (g_cl ent_P2 hAm.out)<|oc g_as on
   intro u4 HB4 sz4 K4
   simp only[sQ] at K4⊢
   have hSh:=fun(x:Int) (hx:1<=x/\x<=16) u (hB:Bw wc u)=>(by
    have h:=hV.share u (Z6 hTw hB) P0 Q0 4 H0 x ss ts _ _ Wd Xj In_n4 In_H0 (by omega) (NL.up fa_0 hB) (NL.up fb_0 hB) hss hts (by omega) (by omega)
    rw[(sh_ok (ndB_iff.2 hx) hsh).1,(sh_ok (ndB_iff.2 hx) hsh).2] at h
    exact h:CC 12 #[GX P0 Q0 4 H0,.int .i64 x,.slice sa k ca,.slice sb k cb] u (.tuple #[SX x (hoN Q0 x ss ss.length) (hoN Q0 x ts ts.length),.int .i64 0]))
   have hSh:Hid _:=hSh
   have hbs:=bsS0
   have hb1:=bsS1
   have hHu:=HB4
   have fa_0:Hid _:=fa_0
   have fb_0:Hid _:=fb_0
   have ny_0:Hid _:=ny_0
   go_wp2_with fail
   go_loopw [10,9] (fun s10 s9 wr=> ∃(i bo co:Nat) (zs:List Value),i<=k/\s10= .int .i64 (i:Int)/\s9= .slice (some ⟨bo,0,none⟩) i co/\i<=co/\zs.length=9*(co -i)/\u4.heap.size<=bo/\bo<wr.heap.size/\Hid (CV wr bo (flS (shs Q0 ss ts f i)++zs))/\Bw u4 wr) (fun s10 _ _=>k -(intOf s10).toNat)
   case atStart=>exact⟨0,u4.heap.size,0,[],by omega,rfl,rfl,by omega,rfl,Nat.le_refl _,by simp,(fun j v h=>by simp[flS,shs] at h),Z1 (Z9 u4) _⟩
   case round=>
    obtain⟨i,bo,co,zs,hi,rfl,rfl,hic,hzl,hlo,hlt,KV,HBr⟩:=hrel
    by_cases hj:i<k
    ·have hl2:(i:Int)<(k:Int):=by omega
     have e1:IntKind.i64.wrap ((i:Int)+1)=((i+1:Nat):Int):=by rw[IntKind.wrap_i64];omega
     obtain⟨nf,enf⟩: ∃x:Int,1+(f:Int)=x:=⟨_,rfl⟩
     have e2:IntKind.i64.wrap (1+(f:Int))=nf:=by rw[IntKind.wrap_i64];omega
     have e3:IntKind.i64.wrap (nf+(i:Int))=((1+f+i:Nat):Int):=by rw[IntKind.wrap_i64];omega
     clear enf
     have hnx:Hid _:=shs_snoc Q0 ss ts f i
     have hln:Hid _:=shs_len Q0 ss ts f i
     have hS:=hSh.out ((1+f+i:Nat):Int) (by omega)
     obtain⟨x,ex⟩: ∃x,hoN Q0 ((1+f+i:Nat):Int) ss ss.length=x:=⟨_,rfl⟩
     obtain⟨z,ez⟩: ∃x,hoN Q0 ((1+f+i:Nat):Int) ts ts.length=x:=⟨_,rfl⟩
     rw[ex,ez] at hS hnx
     clear ex ez
     obtain⟨nd,en⟩: ∃x:Int,((1+f+i:Nat):Int)=x:=⟨_,rfl⟩
     rw[en] at hS hnx e3
     clear en
     have hS:Hid _:=hS
     have esz0: ∀u:World,(u.alloc (.cells (SE nd x z:List Value).toArray 35)).heap.size=u.heap.size+1:=fun u=>by simp
     have esz0:Hid _:=esz0
     go_wp2_with (first
      | (go_at_call 28;refine(cThe wr).mono ?_;rintro e ua ⟨rfl,hBa⟩;replace KV:Hid (CV ua bo (flS (shs Q0 ss ts f i)++zs)):=CV.below KV.out hBa hlt;have hsa:=hBa.size;replace HBr:=Z6 HBr hBa)
      | (go_at_call 12;refine(hS.out ua (Z6 hHu HBr)).mono ?_;rintro e ub ⟨rfl,hBb⟩;have hsb:=hBb.size;replace KV:Hid (CV ub bo (flS (shs Q0 ss ts f i)++zs)):=CV.below KV.out hBb (by omega);replace HBr:=Z6 HBr hBb;have KV2:=CV.below KV.out (Z1 (Z9 ub) (.cells (SE nd x z:List Value).toArray 35)) (by omega);obtain⟨v2,uc,r2,rg2,b5,c5,z5,rfl,f1,f2,f3,f4,f5⟩:=app_ss (ty:=48) (n:=nd) (s:=x) (t:=z) KV2 (by simp;omega) hln.out hic hzl (by omega);rw[esz0.out ub] at r2;have f5:Hid _:=f5;have rg2:Hid _:=rg2;clear KV2)
      | (at_builtin;refine Ye rfl _ _ 48 rfl _ _ _ rfl rfl r2 ?_;clear r2))
     have hBa2:Bw u4 ((ub.alloc (.cells (SE nd x z:List Value).toArray 35)).alloc (.cells (SE nd x z:List Value).toArray 35)):=Z1 (Z1 HBr _) _
     have hBc:Bw u4 uc:=hBa2.grown rg2.out hBa2.size (fun k e=>by cases e;exact hlo)
     refine⟨⟨i+1,b5,c5,z5,by omega,by simp,rfl,f3,by rw[f4];omega,by have:=hBa2.size;rcases f1 with h | h<;>omega,f2,by rw[hnx.out];exact f5,hBc⟩,?_⟩
     simp[intOf];omega
    ·have hik:i=k:=by omega
     have hlx:decide ((i:Int)<(k:Int))=false:=by simp;omega
     obtain⟨wo,rfl⟩: ∃x,x=wr:=⟨_,rfl⟩
     have hBo:Bw wc wo:=Z6 hHu HBr
     have hTo:Bw w wo:=Z6 hTw hBo
     have Ko:=CV.below K7 hBo l7
     have lo_:=Nat.lt_of_lt_of_le l7 hBo.size
     have sl_0:ShL wo (.slice (some ⟨bo,0,none⟩) i co) (shs Q0 ss ts f k):=sh_row hlt (by have:=KV.out;rwa [hik] at this) (by rw[shs_len,hik]) hic
     have fa_1:=NL.up fa_0.out hBo
     have fb_1:=NL.up fb_0.out hBo
     have ny_1:=NL.up ny_0.out hBo
     have HBo:Bw wo wo:=Below.refl _ _
     obtain⟨vs,hvs⟩:=(shs_apart (f:=f) (i:=k) (by omega)).invs
     have hop:=shs_op hsl htl hk1 hvs
     have hOp:Hid (∀u,Bw wo u->CC 25 #[GX P0 Q0 4 H0,.slice (some ⟨bo,0,none⟩) i co] u (.tuple #[NV (ss.getD 0 0%Q0),NV (ts.getD 0 0%Q0),.int .i64 0])):=fun u hB=>by
      have h:=hW.opn u (Z6 hTo hB) P0 Q0 4 H0 (shs Q0 ss ts f k) _ vs g0_ok Wd Xj In_n4 In_H0 (sl_0.up hB) (by rw[shs_len];omega) (by rw[shs_len];omega) (fun x hx=>by
       obtain⟨j,hj,rfl⟩:=List.mem_map.1 hx
       have:=List.mem_range.1 hj
       exact⟨⟨by omega,by omega⟩,hoN_In Xj (by decide) _,hoN_In Xj (by decide) _⟩) (by rw[shs_fst];exact hvs)
      rw[shs_fst,shs_len,hop.1,hop.2] at h
      exact h
     have f1_:=nl_cut (k:=1) fa_1 (by omega)
     have g1_:=nl_cut (k:=1) fb_1 (by omega)
     rw[take_1 (by omega)] at f1_ g1_
     have is0:In (ss.getD 0 0):=Y0 hss 0 (by omega)
     have it0:In (ts.getD 0 0):=Y0 hts 0 (by omega)
     have hSu1:Hid (∀u,Bw wo u->CC 31 #[NV Q0,.slice sa 1 ca] u (.tuple #[NV (ss.getD 0 0%Q0),.int .i64 0])):=fun u hB=>xSumN Q0 _ _ u Xj (by decide) is0 (NL.up f1_ hB)
     have hSu2:Hid (∀u,Bw wo u->CC 31 #[NV Q0,.slice sb 1 cb] u (.tuple #[NV (ts.getD 0 0%Q0),.int .i64 0])):=fun u hB=>xSumN Q0 _ _ u Xj (by decide) it0 (NL.up g1_ hB)
     have hCo:Hid (∀u,CC 32 #[GX P0 Q0 4 H0,NV (ss.getD 0 0%Q0),NV (ts.getD 0 0%Q0)] u (.tuple #[NV (coX P0 Q0 4 H0 (ss.getD 0 0) (ts.getD 0 0)),.int .i64 0])):=fun u=>by
      have h:=xCommit P0 Q0 4 H0 (ss.getD 0 0%Q0) (ts.getD 0 0%Q0) u Wd Xj In_n4 In_H0 (Ze Xj (by decide)) (Ze Xj (by decide))
      rw[co_mod (by decide),show coE P0 Q0 4 H0=0 by unfold coE;rw[is4,isH0];rfl] at h
      exact h
     have hNo:Hid (∀u,Bw wo u->CC 23 #[DX 1 (.slice sy (cmS P0 Q0 4 H0 ss ts).length cy)] u (.bool (decide (coX P0 Q0 4 H0 (ss.getD 0 0) (ts.getD 0 0)=1)))):=fun u hB=>by
      have h:=hW.nought u (Z6 hTo hB) 1 (cmS P0 Q0 4 H0 ss ts) _ (NL.up ny_1 hB) (cm_In Wd is4 isH0) (by rw[W7];omega)
      rw[show noB (cmS P0 Q0 4 H0 ss ts)=decide (coX P0 Q0 4 H0 (ss.getD 0 0) (ts.getD 0 0)=1) by unfold noB;rw[cm_0 (by omega),decide_eq_decide];exact⟨fun h=>h.2,fun h=>⟨by rw[W7];omega,h⟩⟩] at h
      exact h
     have ico:In (coX P0 Q0 4 H0 (ss.getD 0 0) (ts.getD 0 0)):=In_Mb Wd (coX_Mb is4 isH0 _ _)
     obtain⟨gy,oy,rfl,hgy,hRy,hXy⟩:=nl_at0 ny_1 (by rw[W7];omega)
     rw[cm_0 (by omega)] at hRy
     have ecl:(cmS P0 Q0 4 H0 ss ts).length=k:=by rw[W7];omega
     have ix:In (ss.getD 0 0%Q0):=Ze Xj (by decide)
     have iy:In (ts.getD 0 0%Q0):=Ze Xj (by decide)
     obtain⟨x,ex⟩: ∃x,ss.getD 0 0%Q0=x:=⟨_,rfl⟩
     obtain⟨z,ez⟩: ∃x,ts.getD 0 0%Q0=x:=⟨_,rfl⟩
     obtain⟨o,eo⟩: ∃x,coX P0 Q0 4 H0 (ss.getD 0 0) (ts.getD 0 0)=x:=⟨_,rfl⟩
     rw[ex] at hOp hSu1 hCo ix
     rw[ez] at hOp hSu2 hCo iy
     rw[eo] at hCo hNo ico hRy
     have hRy:Hid _:=hRy
     have hXy:Hid _:=hXy
     clear ex ez eo hop hvs
     obtain⟨r,er⟩: ∃r,decide (o=1)=r:=⟨_,rfl⟩
     have ecl:Hid _:=ecl
     obtain⟨L,eL⟩: ∃L,(cmS P0 Q0 4 H0 ss ts).length=L:=⟨_,rfl⟩
     rw[eL] at Ko hNo hXy ecl
     have heq:(((L:Nat):Int)==((k:Nat):Int))=true:=by rw[beq_iff_eq];have:=ecl.out;omega
     clear eL
     rw[er] at hNo
     have K4_3:Bk wo.heap.size wo [(false,b7,DE (1) (.slice (some ⟨gy,oy,none⟩) L cy))]:=⟨.c lo_ Ko<|trivial,by simp⟩
     go_upto_region 10 with fail
     refine Rn K4_3 HBo [(0,46,.int .i64 (i:Int)),(1,47,.slice sa k ca),(2,48,.int .i64 (k:Int)),(3,49,.bool false)] ?_ ?_
     ·exact oc g_mv<|oc g_mv<|oc (g_ln Tryz.underlying27)<|oc (g_bn (fun uZ=>Zk _ _ (i:Int) (k:Int) _ uZ hlx)) on
     intro u5 HB5 sz5 K5
     simp only[sQ] at K5⊢
     go_upto_region 14 with fail
     refine Rp K5 HB5 [] [(7,13,L0s,some (9,LN x)),(8,14,L0s,some (10,LN z))] [(0,68,GX P0 Q0 (4) H0),(1,69,.slice (some ⟨bo,0,none⟩) i co),(2,70,.tuple #[NV x,NV z,.int .i64 0]),(3,67,.tuple #[NV x,NV z,.int .i64 0]),(4,71,NV x),(5,72,NV z),(6,73,.int .i64 0),(11,15,.int .i64 0)] [(9,7),(10,8)] [] [] ?_ ?_
     ·exact oc (g_cl ent_N1 cThe)<|oc g_mv<|oc (g_cb ent_Q1 hOp.out)<|oc g_mv<|oc g_ex<|oc g_ex<|oc g_ex<|oc (g_al 0 aN)<|oc (g_al 1 aN)<|oc (g_sn 0 iN)<|oc (g_sn 1 iN)<|oc g_as on
     intro u6 b6_7 b6_8 HB6 sz6 K6
     simp only[sQ] at K6⊢
     clear K5 HB5
     go_upto_region 15 with fail
     refine Rd K6 HB6 [] [(8,16,L0s,some (9,LN x))] [(0,75,GX P0 Q0 (4) H0),(1,76,NV Q0),(2,77,.slice sa k ca),(3,78,.slice sa 1 ca),(4,79,.tuple #[NV x,.int .i64 0]),(5,74,.tuple #[NV x,.int .i64 0]),(6,80,NV x),(7,81,.int .i64 0),(10,17,.int .i64 0)] [(9,8)] [] [] ?_ ?_
     ·exact oc (g_cl ent_N1 cThe)<|oc (g_op (fun ev uZ he=>fldQ uZ rfl (he _ _ rfl)))<|oc g_mv<|oc (g_sl (fun uZ=>slNt sa k ca 1 hk1 (by omega) h3 uZ))<|oc (g_cb ent_Q2 hSu1.out)<|oc g_mv<|oc g_ex<|oc g_ex<|oc (g_al 0 aN)<|oc (g_sn 0 iN)<|oc g_as on
     intro u7 b7_8 HB7 sz7 K7
     simp only[sQ] at K7⊢
     clear K6 HB6
     go_upto_region 16 with fail
     refine Rd K7 HB7 [] [(8,18,L0s,some (9,LN z))] [(0,83,GX P0 Q0 (4) H0),(1,84,NV Q0),(2,85,.slice sb k cb),(3,86,.slice sb 1 cb),(4,87,.tuple #[NV z,.int .i64 0]),(5,82,.tuple #[NV z,.int .i64 0]),(6,88,NV z),(7,89,.int .i64 0),(10,19,.int .i64 0)] [(9,8)] [] [] ?_ ?_
     ·exact oc (g_cl ent_N1 cThe)<|oc (g_op (fun ev uZ he=>fldQ uZ rfl (he _ _ rfl)))<|oc g_mv<|oc (g_sl (fun uZ=>slNt sb k cb 1 hk1 (by omega) h6 uZ))<|oc (g_cb ent_Q2 hSu2.out)<|oc g_mv<|oc g_ex<|oc g_ex<|oc (g_al 0 aN)<|oc (g_sn 0 iN)<|oc g_as on
     intro u8 b8_8 HB8 sz8 K8
     simp only[sQ] at K8⊢
     clear K7 HB7
     go_upto_region 17 with fail
     refine Rd K8 HB8 [] [(7,20,L0s,some (8,LN o))] [(0,91,GX P0 Q0 (4) H0),(1,92,NV x),(2,93,NV z),(3,94,.tuple #[NV o,.int .i64 0]),(4,90,.tuple #[NV o,.int .i64 0]),(5,95,NV o),(6,96,.int .i64 0),(9,21,.int .i64 0)] [(8,7)] [] [] ?_ ?_
     ·exact oc (g_cl ent_N1 cThe)<|oc (g_ld 1 uN iN)<|oc (g_ld 2 uN iN)<|oc (g_cl ent_K3 hCo.out)<|oc g_mv<|oc g_ex<|oc g_ex<|oc (g_al 0 aN)<|oc (g_sn 0 iN)<|oc g_as on
     intro u9 b9_7 HB9 sz9 K9
     simp only[sQ] at K9⊢
     clear K8 HB8
     go_upto_region 18 with fail
     refine Rm K9 HB9 [(0,97,.int .i64 0),(1,98,.bool true),(2,99,.bool true),(3,100,NV x),(4,101,NV x),(5,102,.bool true),(6,103,.bool true),(7,104,.bool true),(8,105,NV z),(9,106,NV z),(10,107,.bool true),(11,108,.bool true),(12,109,.bool true),(13,110,.pointer (some ⟨b7,1,none⟩)),(14,111,.slice (some ⟨gy,oy,none⟩) L cy),(15,112,.int .i64 ((L:Nat):Int)),(16,113,.slice sa k ca),(17,114,.int .i64 ((k:Nat):Int)),(18,115,.bool true),(19,116,.bool true),(20,117,.bool true),(21,118,NV o),(22,119,.pointer (some ⟨b7,1,none⟩)),(23,120,.slice (some ⟨gy,oy,none⟩) L cy),(24,121,.pointer (some ⟨gy,oy,none⟩)),(25,122,NV o),(26,123,.bool true),(27,124,.bool true),(28,125,.bool true),(29,126,DX (1) (.slice (some ⟨gy,oy,none⟩) L cy)),(30,127,.bool r),(31,128,NV o),(32,129,NV 1),(33,130,.bool r),(34,131,.bool true),(35,132,.bool true),(36,6,.bool true)] ?_ ?_
     ·exact oc g_mv<|oc (g_bn (fun uZ=>Tw _ _ _ 0 0 _ uZ rfl))<|oc g_mv<|oc (g_ld 1 uN iN)<|oc (g_ld 3 uN iN)<|oc (g_bn (fun uZ=>eql_n _ _ ix ix true (by simp) uZ))<|oc g_pk<|oc g_mv<|oc (g_ld 2 uN iN)<|oc (g_ld 4 uN iN)<|oc (g_bn (fun uZ=>eql_n _ _ iy iy true (by simp) uZ))<|oc g_pk<|oc g_mv<|oc (g_fd (fdD1 _))<|oc (g_lc 0 1 lSN)<|oc (g_ln Tryz.underlying27)<|oc g_mv<|oc (g_ln Tryz.underlying27)<|oc (g_bn (fun uZ=>Tw _ _ _ ((L:Nat):Int) ((k:Nat):Int) _ uZ heq))<|oc g_pk<|oc g_mv<|oc (g_ld 5 uN iN)<|oc (g_fd (fdD1 _))<|oc (g_lc 0 1 lSN)<|oc (g_ix hXy.out)<|oc (g_lf hRy.out hgy uN iN)<|oc (g_bn (fun uZ=>eql_n _ _ ico ico true (by simp) uZ))<|oc g_pk<|oc g_mv<|oc (g_ld 0 Tryz.underlying30 Zi)<|oc (g_cb ent_Q3 hNo.out)<|oc (g_ld 5 uN iN)<|oc (g_cl ent_N4 (fun uZ=>Xn 1 uZ (by omega) (by omega)))<|oc (g_bn (eql_n _ _ ico In_1 r er))<|oc (g_bn (eql_b _ _ r))<|oc g_pk<|oc g_as on
     intro u10 HB10 sz10 K10
     simp only[sQ] at K10⊢
     clear K9 HB9
     go_wp2
     exact bodyPost_ret (v:= .bool true) (by simp[results,Tryz.results8,go_sem]) rfl ⟨rfl,Z6 hTo HB10⟩
def PDl(lo:Nat)(d:Int)(ns:List Int)(u:World)(v:Value):Prop:= ∃y,v=DX d y/\NL u y ns/\ ∃b c,y= .slice (some ⟨b,0,none⟩) ns.length c/\lo<=b
theorem PDl.stab{lo:Nat}{d:Int}{ns:List Int}{u u2:World}{x:Value}(hB:Bw u u2)(h:PDl lo d ns u x):PDl lo d ns u2 x:=by
 obtain⟨y,e,h,h2⟩:=h
 exact⟨y,e,NL.up h hB,h2⟩
theorem GP.gt{w:World}(h:GP w):GT w:=⟨by have:=h.sz;omega,h.tab⟩
theorem vOK{w:World}(hG:GP w):VOK w where
 share:=fun u hB p q g h nd ss ts v v2 hp hq _ _ _ hv hv2 hs ht _ _=>vShare p q g h nd ss ts v v2 u (hG.below hB) hp hq hv hv2 hs ht
 deal:=fun u hB p q g h d ss ts v v2 hp hq hg hh _ hv hv2 hs ht _ _=>vDeal p q g h d ss ts v v2 u (hG.below hB).gt hp hq hg hh hv hv2 hs ht
 check:=fun u hB p q g h d ns v hp hq _ _ _ hv hns hl=>vCheck p q g h d ns v u (hG.below hB).gt hp hq hv hns (by omega)
 verify:=fun u hB p q g h d nd s t ns v hp hq hg hh _ _ hs ht hv hns hl=>vVerify p q g h d nd s t ns v u (hG.below hB).gt hp hq hg hh hs ht hv hns hl
theorem op_len{l:List (Int×Int×Int)}:(opS l).length=l.length/\(opT l).length=l.length:=⟨by simp[opS],by simp[opT]⟩
theorem op_fst{l:List (Int×Int×Int)}:(opS l).map Prod.fst=l.map (·.1)/\(opT l).map Prod.fst=l.map (·.1):=⟨by simp[opS,Function.comp_def],by simp[opT,Function.comp_def]⟩
theorem op_In{l:List (Int×Int×Int)}(h: ∀x∈l,(1<=x.1/\x.1<=16)/\In x.2.1/\In x.2.2):(∀p∈opS l,In p.1/\In p.2)/\ ∀p∈opT l,In p.1/\In p.2:=by
 constructor<;>intro p hp
 ·obtain⟨x,hx,rfl⟩:=List.mem_map.1 hp
  exact⟨⟨by have:=(h x hx).1;omega,by have:=(h x hx).1;show x.1<_;omega⟩,(h x hx).2.1⟩
 ·obtain⟨x,hx,rfl⟩:=List.mem_map.1 hp
  exact⟨⟨by have:=(h x hx).1;omega,by have:=(h x hx).1;show x.1<_;omega⟩,(h x hx).2.2⟩
theorem vOP{w:World}(hG:GP w):VOP w where
 opn:=fun u hB p q g h l v vs hgk hp hq _ _ hv h1 h16 hl hi=>by
  have a':=hv
  obtain⟨sl,gb,go,cap,rfl,_⟩:=hv
  have hn:ndsB l=true:=List.all_eq_true.2 fun x hx=>ndB_iff.2 (hl x hx).1
  have hq3:=hgk.q3
  have hC:=fun u=>cCheckG p q g h u hp hq
  simp only[chE,if_pos hgk] at hC
  have hH:=fun u' (hB':Bw u u')=>vHave l _ u' (a'.up hB') (by omega)
  rw[hn] at hH
  refine vopn_k p q g h _ _ 0 sl cap l u (by rw[beq_eq_false_iff_ne];omega) (by simp;omega) hC hH (fun u' hB'=>vPoints sl cap l u' (a'.up hB') (by omega) h1 hn) (fun u' c o z hB' hc ho hcv=>?_) (fun u' c o z hB' hc ho hcv=>?_)
  ·have h:=cCombine q 0 vs (opS l) _ u' (hG.below (Z6 hB hB')) hq (by omega) In_0 (pl_rw hc hcv op_len.1 ho) (op_In hl).1 (by rw[op_len.1];omega) (by rw[op_len.1];omega) (by rw[op_fst.1];exact hi)
   rw[NV_0,op_fst.1,op_len.1] at h
   exact h
  ·have h:=cCombine q 0 vs (opT l) _ u' (hG.below (Z6 hB hB')) hq (by omega) In_0 (pl_rw hc hcv op_len.2 ho) (op_In hl).2 (by rw[op_len.2];omega) (by rw[op_len.2];omega) (by rw[op_fst.2];exact hi)
   rw[NV_0,op_fst.2,op_len.2] at h
   exact h
 nought:=fun u hB d ns v hv hns _=>vNought d ns v u hv hns
end
section
open Go.ChangeShapes Go.WideShapes Go.ChangeAt Go.RowKit
theorem int_of{x:Int}(h:(Lit.int .i64 x).wf=true): -9223372036854775808<=x/\x<9223372036854775808:=by
 simp[Lit.wf,IntKind.min,IntKind.max,IntKind.signed,IntKind.bits] at h;omega
theorem nl_of{L:Nat}{sl:Option Addr}{len cap gb go:Nat}{ns:List Int}{w:World}(n1:min len L=ns.length)(n2:len<=cap)(n3:sl=none->cap=0)(n4:cap=0\/sl=some ⟨gb,go,none⟩)(n5:ns.length=0\/gb<w.heap.size)(n6:SN w gb go ns):NL w (.slice sl ns.length cap) ns:=
 ⟨sl,gb,go,cap,rfl,by omega,n3,n4.imp (fun e=>List.eq_nil_of_length_eq_zero (by omega)) id,n5,n6⟩
theorem vssSecret_any(fr:Int)(sa sb:Option Addr)(la ca ga oa:Nat)(na:List Int)(lb cb gb ob:Nat)(nb:List Int)(w:World)(hG:GP w)(rfr: -9223372036854775808<=fr/\fr<9223372036854775808)(a1:min la 6=na.length)(a2:la<=ca)(a3:sa=none->ca=0)(a4:ca=0\/sa=some ⟨ga,oa,none⟩)(a5:na.length=0\/ga<w.heap.size)(a6:SN w ga oa na)(a7: ∀z∈na,In z)(b1:min lb 6=nb.length)(b2:lb<=cb)(b3:sb=none->cb=0)(b4:cb=0\/sb=some ⟨gb,ob,none⟩)(b5:nb.length=0\/gb<w.heap.size)(b6:SN w gb ob nb)(b7: ∀z∈nb,In z):
 CC 8 #[.slice sa la ca,.slice sb lb cb,.int .i64 fr] w (.bool true):=by
 obtain⟨k,hk⟩: ∃k,min na.length nb.length=k:=⟨_,rfl⟩
 have fa:=nl_cut (k:=k) (nl_of a1 a2 a3 a4 a5 a6) (by omega)
 have fb:=nl_cut (k:=k) (nl_of b1 b2 b3 b4 b5 b6) (by omega)
 have la':(na.take k).length=k:=by rw[List.length_take];omega
 have lb':(nb.take k).length=k:=by rw[List.length_take];omega
 have ia: ∀z∈na.take k,In z:=fun z hz=>a7 z (List.mem_of_mem_take hz)
 have ib: ∀z∈nb.take k,In z:=fun z hz=>b7 z (List.mem_of_mem_take hz)
 refine vssSecret_core fr sa sb la lb k ca cb (na.take k) (nb.take k) w (vOK hG) (vOP hG) (by omega) (by omega) a2 a3 (by omega) b2 b3 fa fb la' lb' ia ib (fun h1=>?_)
 obtain⟨j,hj,hA⟩:=among_any fr ((16 -k:Nat):Int) (by omega) (by omega) rfr
 exact⟨j,by omega,hA⟩
end
end Go.Proofs.YtbbohmgjphpfeaaGreatDoor
