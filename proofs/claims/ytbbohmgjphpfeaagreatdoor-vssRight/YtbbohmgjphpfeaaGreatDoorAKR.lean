import Derived.Test.YtbbohmgjphpfeaaGreatDoorLC5
namespace Go.Proofs.YtbbohmgjphpfeaaGreatDoor
set_option linter.unusedVariables false
set_option linter.unusedSimpArgs false
set_option maxRecDepth 100000
set_option maxHeartbeats 4000000
section
open Go.RowKit
theorem CV.grow {u u2:World} {r:Option Nat} {c:Nat} {l:List Value} (h:CV u c l) (hg:u.grownBy u2 r) (hc:c<u.heap.size) (hne:some c≠r):CV u2 c l:=fun j v hj=>by
 have e:=hg.block c hc hne
 rw[World.cell?_of_block (a:=⟨c,j,none⟩) e,World.frozen?_of_block (a:=⟨c,j,none⟩) e]
 exact h j v hj
def QP (lo m:Nat) (ps:List (Int×Int)) (b:Nat) (u:World) (v:Value):Prop:=ps.length=m/\((m=0/\v= .slice none 0 0)\/(0<m/\lo<=b/\ ∃co zs,v= .slice (some ⟨b,0,none⟩) m co/\b<u.heap.size/\m<=co/\zs.length=8*(co -m)/\CV u b (flN (flt ps)++zs)))
theorem QP.stab {lo m b:Nat} {ps:List (Int×Int)} {u u2:World} {v:Value} (h:QP lo m ps b u v) (hB:Bw u u2):QP lo m ps b u2 v:=by
 obtain⟨h1,h3⟩:=h
 refine⟨h1,h3.imp id ?_⟩
 rintro⟨h0,h2,co,zs,e,g1,g2,g3,g4⟩
 exact⟨h0,h2,co,zs,e,Nat.lt_of_lt_of_le g1 hB.size,g2,g3,g4.below hB g1⟩
theorem QP.grow {lo m c:Nat} {r:Option Nat} {ps:List (Int×Int)} {u u2:World} {v:Value} (h:QP lo m ps c u v) (hg:u.grownBy u2 r) (hne:0<m->some c≠r):QP lo m ps c u2 v:=by
 obtain⟨h1,h3⟩:=h
 refine⟨h1,h3.imp id ?_⟩
 rintro⟨h0,h2,co,zs,e,g1,g2,g3,g4⟩
 exact⟨h0,h2,co,zs,e,Nat.lt_of_lt_of_le g1 hg.size,g2,g3,g4.grow hg g1 (hne h0)⟩
theorem QP.lt {lo m c:Nat} {ps:List (Int×Int)} {u:World} {v:Value} (h:QP lo m ps c u v) (h0:0<m):lo<=c/\c<u.heap.size:=by
 rcases h.2 with⟨h1,_⟩ | ⟨_,h2,_,_,_,h3,_⟩
 ·omega
 ·exact⟨h2,h3⟩
theorem QP.pl {lo m c:Nat} {ps:List (Int×Int)} {u:World} {v:Value} (h:QP lo m ps c u v):PtL u v ps:=by
 obtain⟨h1,h3⟩:=h
 rcases h3 with⟨h0,rfl⟩ | ⟨h0,h2,co,zs,rfl,g1,g2,g3,g4⟩
 ·obtain rfl:ps=[]:=List.eq_nil_of_length_eq_zero (by omega)
  exact⟨none,0,0,0,rfl,Nat.le_refl _,fun _=>rfl,.inl rfl,.inl rfl,SN.empty rfl⟩
 ·subst h1
  exact⟨_,c,0,co,rfl,g2,(by simp),.inr rfl,.inr g1,fun j v hj=>by
   rw[Nat.zero_add]
   exact(g4 j v (by rw[List.getElem?_append_left (List.getElem?_eq_some_iff.1 hj).1];exact hj)).1⟩
theorem ent_P1:EnT 30:=fun _ _=>by kernel_rfl
theorem ent_P2:EnT 29:=fun _ _=>by kernel_rfl
theorem ve_s {d nd a b c:Int} {ss ts:List Int} (hd:ndB d=true) (hn:ndB nd=true) (hs:shB ss.length ts.length=true) (ea:hoN Q0 nd ss ss.length=a) (eb:hoN Q0 nd ts ts.length=b) (hc:0<=c/\c<Q0):veE P0 Q0 4 H0 d nd c b (cmS P0 Q0 4 H0 ss ts)=if c=a then 0 else 100:=by
 have ra:=hoN_rng (q:=Q0) (by decide) (x:=nd) (ns:=ss) ss.length
 rw[ea] at ra
 rw[W8 is4 isH0 hd hn hs,ea,eb]
 have h:=co_inj1 (s:=c) (s':=a) (t:=b) prQ is4 isH0 (by decide)
 rw[Int.emod_eq_of_lt hc.1 hc.2,Int.emod_eq_of_lt ra.1 ra.2] at h
 by_cases e:c=a
 ·rw[if_pos e,if_pos (h.2 e)]
 ·rw[if_neg e,if_neg (fun e2=>e (h.1 e2))]
theorem ve_t {d nd a b c:Int} {ss ts:List Int} (hd:ndB d=true) (hn:ndB nd=true) (hs:shB ss.length ts.length=true) (ea:hoN Q0 nd ss ss.length=a) (eb:hoN Q0 nd ts ts.length=b) (hc:0<=c/\c<Q0):veE P0 Q0 4 H0 d nd a c (cmS P0 Q0 4 H0 ss ts)=if c=b then 0 else 100:=by
 have rb:=hoN_rng (q:=Q0) (by decide) (x:=nd) (ns:=ts) ts.length
 rw[eb] at rb
 rw[W8 is4 isH0 hd hn hs,ea,eb]
 have h:=co_inj2 (s:=a) (t:=c) (t':=b) prQ is4 isH0 H0_1
 rw[Int.emod_eq_of_lt hc.1 hc.2,Int.emod_eq_of_lt rb.1 rb.2] at h
 by_cases e:c=b
 ·rw[if_pos e,if_pos (h.2 e)]
 ·rw[if_neg e,if_neg (fun e2=>e (h.1 e2))]
theorem if_e {p:Prop} [Decidable p]:(((if p then 0 else 100:Int))==0)=decide p:=by
 by_cases h:p<;>simp[h]
theorem mod_rng (x:Int):0<=x%Q0/\x%Q0<Q0:=⟨Int.emod_nonneg _ (by decide),Int.emod_lt_of_pos _ (by decide)⟩
theorem vssTurned_core (nn no bb nd ot kd ke:Int) (sa sb:Option Addr) (n m k ca cb:Nat) (ss ts:List Int) (w:World) (hV:VOK w) (hk:min (min (n:Int) (m:Int)) 6=(k:Int)) (h1:k<=n) (h2:n<=ca) (h3:sa=none->ca=0) (h4:k<=m) (h5:m<=cb) (h6:sb=none->cb=0) (hA:NL w (.slice sa k ca) ss) (hB:NL w (.slice sb k cb) ts) (hsl:ss.length=k) (htl:ts.length=k) (hss: ∀z∈ss,In z) (hts: ∀z∈ts,In z) (hb0:0<=bb) (hb1:bb<18446744073709551616) (ibb:In bb) (hnd1:1+kd=nd) (hot1:1+ke=ot) (hnd:1<=nd/\nd<=16) (hot:1<=ot/\ot<=16) (hA1:Hid (∀u,CC 29 #[.int .i64 nn,.int .i64 16] u (.int .i64 kd)))(hA2:Hid (∀u,CC 29 #[.int .i64 no,.int .i64 16] u (.int .i64 ke))):
 CC 7 #[.slice sa n ca,.slice sb m cb,.int .i64 nn,.int .i64 no,.int .u64 bb] w (.bool true):=by
 go_enter Tryz.func7,Tryz.ntmps7
 have HB0:Bw w w:=Below.refl _ _
 have K0_1:=Bk.nil (w.heap.size) w
 go_upto_region 1 with fail
 apply Rn K0_1 HB0 [(0,23,_),(1,24,_)]
 ·exact oc (g_cb ent_O2 (fun uZ bZ=>works11 uZ (hV.up bZ)))<|oc (g_un Wp) on
 intro u1 HB1 sz1 K1
 simp only[sQ] at K1⊢
 clear HB0
 go_upto_region 3 with fail
 apply Rp K1 HB1 [] [] [(0,26,_),(1,27,_),(2,28,_),(3,25,_),(4,29,_),(5,30,_),(6,0,_),(7,1,_)] [(6,0),(7,1)] [(6,0),(7,1)] []
 ·exact oc g_mv<|oc g_mv<|oc (g_cl ent_O3 (fun uZ=>two_core sa sb n m k ca cb uZ hk h1 h2 h3 h4 h5 h6))<|oc g_mv<|oc g_ex<|oc g_ex<|oc g_as<|oc g_as on
 intro u2 HB2 sz2 K2
 simp only[sQ] at K2⊢
 clear K1 HB1
 by_cases hz:k=0
 ·have hk0:((k:Int)==0)=true:=by rw[beq_iff_eq];omega
  clear hz
  go_upto_region 4 with fail
  apply Rn K2 HB2 [(0,31,_),(1,32,_),(2,33,_)]
  ·exact oc g_mv<|oc (g_ln Tryz.underlying27)<|oc (g_bn (fun uZ=>Xh _ _ _ (k:Int) 0 _ uZ hk0)) on
  intro u3 HB3 sz3 K3
  simp only[sQ] at K3⊢
  clear K2 HB2
  go_upto_region 5 with fail
  apply Rn K3 HB3 [(0,10,_)]
  ·exact oc g_as on
  intro u4 HB4 sz4 K4
  simp only[sQ] at K4⊢
  clear K3 HB3
  go_wp2
  exact bodyPost_ret (v:= .bool true) (by simp[results,Tryz.results7,go_sem]) rfl ⟨rfl,HB4⟩
 ·have hk0:((k:Int)==0)=false:=by rw[beq_eq_false_iff_ne];omega
  have hsh:shB ss.length ts.length=true:=shB_iff.2 ⟨by omega,by omega,by omega⟩
  have hde:dlE P0 Q0 4 H0 1 ss ts=0:=dl_0 (by decide) hsh
  clear hz
  go_upto_region 4 with fail
  apply Rn K2 HB2 [(0,31,_),(1,32,_),(2,33,_)]
  ·exact oc g_mv<|oc (g_ln Tryz.underlying27)<|oc (g_bn (fun uZ=>Xh _ _ _ (k:Int) 0 _ uZ hk0)) on
  intro u3 HB3 sz3 K3
  simp only[sQ] at K3⊢
  clear K2 HB2
  go_upto_region 6 with fail
  apply Rp K3 HB3 [] [] [(0,34,_),(1,35,_),(2,36,_),(3,37,_),(4,38,_),(5,39,_),(6,2,_),(7,3,_)] [(6,0),(7,3)] [(6,2),(7,3)] []
  ·exact oc g_mv<|oc (g_cl ent_P2 hA1.out)<|oc (g_bn (fun uZ=>Yq _ _ 1 kd nd uZ hnd1 (by omega) (by omega)))<|oc g_mv<|oc (g_cl ent_P2 hA2.out)<|oc (g_bn (fun uZ=>Yq _ _ 1 ke ot uZ hot1 (by omega) (by omega)))<|oc g_as<|oc g_as on
  intro u4 HB4 sz4 K4
  simp only[sQ] at K4⊢
  clear K3 HB3
  go_upto_region 7 with fail
  have hTu:=HB4
  have hA:Hid _:=hA
  have hB:Hid _:=hB
  go_cut [11,12] (fun s11 s12 wx=> ∃b y,s11= .pointer (some ⟨b,0,none⟩)/\s12= .int .i64 0/\Bw u4 wx/\b<wx.heap.size/\CV wx b (DE 1 y)/\NL wx y (cmS P0 Q0 4 H0 ss ts))
  case first=>
   replace hA:=hA.out
   replace hB:=hB.out
   go_wp2_with (first
    | (go_at_call 28;refine(cThe u4).mono ?_;rintro e u6 ⟨rfl,hB6⟩)
    | (go_at_call 10;refine(hV.deal u6 (Z7 hTu hB6) P0 Q0 4 H0 1 ss ts _ _ X9 In_Q0' Tk Tl (by omega) (NL.up hA (Z7 hTu hB6)) (NL.up hB (Z7 hTu hB6)) hss hts (by omega) (by omega)).mono ?_;rw[hde,dlD,dlC,hde,if_pos rfl,if_pos rfl];rintro e u7 ⟨y,rfl,hy,hB7⟩;obtain⟨sy,cy,ey⟩:=lt_NL hy;subst ey;have hy:Hid _:=hy))
   go_meet
   exact⟨u7.heap.size,_,rfl,rfl,Z3 (Z7 hB6 hB7) _,by simp,CV.new u7 _ _,NL.up hy.out (Z3 (Zp u7) _)⟩
  case rest=>
   obtain⟨b7,y,rfl,rfl,hBw,l7,K7,ny_0⟩:=hcut
   obtain⟨sy,cy,ey⟩:=lt_NL ny_0
   subst ey
   have hTw:Bw w wc:=Z7 hTu hBw
   have fa_0:=NL.up hA.out hTw
   have fb_0:=NL.up hB.out hTw
   have HBc:Bw wc wc:=Below.refl _ _
   have hnj:ndB nd=true:=ndB_iff.2 hnd
   have hoj:ndB ot=true:=ndB_iff.2 hot
   have hSh:=fun(x:Int) (hx:1<=x/\x<=16) (hxj:ndB x=true) u (hB:Bw wc u)=>(by
    have h:=hV.share u (Z7 hTw hB) P0 Q0 4 H0 x ss ts _ _ X9 In_Q0' Tk Tl (by omega) (NL.up fa_0 hB) (NL.up fb_0 hB) hss hts (by omega) (by omega)
    rw[(sh_ok hxj hsh).1,(sh_ok hxj hsh).2] at h
    exact h:CC 12 #[GX P0 Q0 4 H0,.int .i64 x,.slice sa k ca,.slice sb k cb] u (.tuple #[SX x (hoN Q0 x ss ss.length) (hoN Q0 x ts ts.length),.int .i64 0]))
   have hS1:=hSh nd hnd hnj
   have hS2:=hSh ot hot hoj
   have hVf:=fun(x s t:Int) (hx:1<=x/\x<=16) (is:In s) (it:In t) u (hB:Bw wc u)=>hV.verify u (Z7 hTw hB) P0 Q0 4 H0 1 x s t (cmS P0 Q0 4 H0 ss ts) _ X9 In_Q0' Tk Tl (by omega) (by omega) is it (NL.up ny_0 hB) (cm_In X9 is4 isH0) (by rw[Wm];omega)
   obtain⟨a,ea⟩: ∃x,hoN Q0 nd ss ss.length=x:=⟨_,rfl⟩
   obtain⟨b,eb⟩: ∃x,hoN Q0 nd ts ts.length=x:=⟨_,rfl⟩
   obtain⟨a2,ea2⟩: ∃x,hoN Q0 ot ss ss.length=x:=⟨_,rfl⟩
   obtain⟨b2,eb2⟩: ∃x,hoN Q0 ot ts ts.length=x:=⟨_,rfl⟩
   rw[ea,eb] at hS1
   rw[ea2,eb2] at hS2
   have ia:In a:=by rw[<-ea];exact hoN_In In_Q0' (by decide) _
   have ib:In b:=by rw[<-eb];exact hoN_In In_Q0' (by decide) _
   have ia2:In a2:=by rw[<-ea2];exact hoN_In In_Q0' (by decide) _
   have ib2:In b2:=by rw[<-eb2];exact hoN_In In_Q0' (by decide) _
   have hAd1:Hid (∀u,CC 30 #[NV a,NV bb,NV Q0] u (.tuple #[NV ((a+bb)%Q0),.int .i64 0])):=fun u=>xAdd a bb Q0 u ia ibb In_Q0' (by decide)
   have hAd2:Hid (∀u,CC 30 #[NV b,NV bb,NV Q0] u (.tuple #[NV ((b+bb)%Q0),.int .i64 0])):=fun u=>xAdd b bb Q0 u ib ibb In_Q0' (by decide)
   have rc:=mod_rng (a+bb)
   have rd:=mod_rng (b+bb)
   obtain⟨c,ec⟩: ∃x,(a+bb)%Q0=x:=⟨_,rfl⟩
   obtain⟨d,ed⟩: ∃x,(b+bb)%Q0=x:=⟨_,rfl⟩
   rw[ec] at hAd1 rc
   rw[ed] at hAd2 rd
   clear ec ed
   have ic:In c:=⟨rc.1,Int.lt_trans rc.2 In_Q0'.2⟩
   have id_:In d:=⟨rd.1,Int.lt_trans rd.2 In_Q0'.2⟩
   have hv1:=hVf nd c b hnd ic ib
   have hv2:=hVf nd a d hnd ia id_
   have hv3:=hVf ot a b hot ia ib
   rw[ve_s (by decide) hnj hsh ea eb rc] at hv1
   rw[ve_t (by decide) hnj hsh ea eb rd] at hv2
   rw[W8 is4 isH0 (by decide) hoj hsh,ea2,eb2] at hv3
   have he1:=if_e (p:=c=a)
   have he2:=if_e (p:=d=b)
   obtain⟨e1,ee1⟩: ∃x,(if c=a then 0 else 100:Int)=x:=⟨_,rfl⟩
   obtain⟨e2,ee2⟩: ∃x,(if d=b then 0 else 100:Int)=x:=⟨_,rfl⟩
   rw[ee1] at hv1 he1
   rw[ee2] at hv2 he2
   clear ee1 ee2
   have hc1:decide (nd=nd/\c=a/\b=b)=decide (c=a):=by simp
   have hc2:decide (nd=nd/\a=a/\d=b)=decide (d=b):=by simp
   obtain⟨r1,er1⟩: ∃x,decide (c=a)=x:=⟨_,rfl⟩
   obtain⟨r2,er2⟩: ∃x,decide (d=b)=x:=⟨_,rfl⟩
   rw[er1] at he1 hc1
   rw[er2] at he2 hc2
   clear er1 er2 hVf hSh
   have h3:(coX P0 Q0 4 H0 a b=coX P0 Q0 4 H0 a2 b2)\/(¬coX P0 Q0 4 H0 a b=coX P0 Q0 4 H0 a2 b2/\(a2≠a\/b2≠b)):=by
    by_cases h:coX P0 Q0 4 H0 a b=coX P0 Q0 4 H0 a2 b2
    ·exact .inl h
    ·refine .inr ⟨h,?_⟩
     by_cases h9:a2=a
     ·exact .inr fun h8=>h (by rw[h9,h8])
     ·exact .inl h9
   have hS1:Hid _:=hS1
   have hS2:Hid _:=hS2
   have hv1:Hid _:=hv1
   have hv2:Hid _:=hv2
   clear ea eb ea2 eb2
   have K4_2:Bk wc.heap.size wc [(false,b7,DE (1) (.slice sy (cmS P0 Q0 4 H0 ss ts).length cy))]:=⟨.c l7 K7<|trivial,by simp⟩
   go_upto_region 8 with fail
   apply Rp K4_2 HBc [] [(8,13,L0h,some (9,SE (nd) (a) (b)))] [(0,48,_),(1,49,_),(2,50,_),(3,51,_),(4,52,_),(5,47,_),(6,53,_),(7,54,_),(10,14,_)] [(9,8)] [] []
   ·exact oc (g_cl Xu cThe)<|oc g_mv<|oc g_mv<|oc g_mv<|oc (g_cb ent_N2 hS1.out)<|oc g_mv<|oc g_ex<|oc g_ex<|oc (g_al 0 Yh)<|oc (g_sn 0 Z1)<|oc g_as on
   intro u5 b5_8 HB5 sz5 K5
   simp only[sQ] at K5⊢
   go_upto_region 9 with fail
   apply Rp K5 HB5 [] [(8,15,L0h,some (9,SE (ot) (a2) (b2)))] [(0,56,_),(1,57,_),(2,58,_),(3,59,_),(4,60,_),(5,55,_),(6,61,_),(7,62,_),(10,16,_)] [(9,8)] [] []
   ·exact oc (g_cl Xu cThe)<|oc g_mv<|oc g_mv<|oc g_mv<|oc (g_cb ent_N2 hS2.out)<|oc g_mv<|oc g_ex<|oc g_ex<|oc (g_al 0 Yh)<|oc (g_sn 0 Z1)<|oc g_as on
   intro u6 b6_8 HB6 sz6 K6
   simp only[sQ] at K6⊢
   clear K5 HB5
   go_upto_region 10 with fail
   apply Rp K6 HB6 [] [(1,17,L0h,some (2,SE (nd) (a) (b)))] [(0,63,_)] [(2,1)] [] []
   ·exact oc (g_ld 1 Tryz.underlying35 Z1)<|oc (g_al 0 Yh)<|oc (g_sn 0 Z1) on
   intro u7 b7_1 HB7 sz7 K7
   simp only[sQ] at K7⊢
   clear K6 HB6
   go_upto_region 11 with fail
   apply Rd K7 HB7 [.no,.no,.no,.all 11 (SE (nd) (c) (b))] [] [(0,65,_),(1,66,_),(2,67,_),(3,68,_),(4,69,_),(5,70,_),(6,71,_),(7,64,_),(8,72,_),(9,73,_),(10,74,_)] [] [] []
   ·exact oc (g_fd (fdS1 _))<|oc (g_lo 1 1 uN iN)<|oc g_mv<|oc (g_bd (bdNk bb hb0 hb1))<|oc (g_cl Xu cThe)<|oc (g_op (fun ev uZ he=>fldQ uZ rfl (he _ _ rfl)))<|oc (g_cl ent_P1 hAd1.out)<|oc g_mv<|oc g_ex<|oc g_ex<|oc (g_fd (fdS1 _))<|oc (g_sm 3 1 ([.int .i64 nd]) (LN a) (LN b) (post:=LN c) iN) on
   intro u8 HB8 sz8 K8
   simp only[sQ] at K8⊢
   clear K7 HB7
   go_upto_region 12 with fail
   apply Rp K8 HB8 [] [(1,18,L0h,some (2,SE (nd) (a) (b)))] [(0,75,_)] [(2,1)] [] []
   ·exact oc (g_ld 1 Tryz.underlying35 Z1)<|oc (g_al 0 Yh)<|oc (g_sn 0 Z1) on
   intro u9 b9_1 HB9 sz9 K9
   simp only[sQ] at K9⊢
   clear K8 HB8
   go_upto_region 13 with fail
   apply Rd K9 HB9 [.no,.no,.no,.no,.all 11 (SE (nd) (a) (d))] [] [(0,77,_),(1,78,_),(2,79,_),(3,80,_),(4,81,_),(5,82,_),(6,83,_),(7,76,_),(8,84,_),(9,85,_),(10,86,_)] [] [] []
   ·exact oc (g_fd (fdS2 _))<|oc (g_lo 1 5 uN iN)<|oc g_mv<|oc (g_bd (bdNk bb hb0 hb1))<|oc (g_cl Xu cThe)<|oc (g_op (fun ev uZ he=>fldQ uZ rfl (he _ _ rfl)))<|oc (g_cl ent_P1 hAd2.out)<|oc g_mv<|oc g_ex<|oc g_ex<|oc (g_fd (fdS2 _))<|oc (g_sm 4 5 ((.int .i64 nd::LN a)) (LN b) ([]) (post:=LN d) iN) on
   intro u10 HB10 sz10 K10
   simp only[sQ] at K10⊢
   clear K9 HB9
   go_upto_region 14 with fail
   apply Rp K10 HB10 [] [(1,19,L0h,some (2,SE (nd) (a) (b)))] [(0,87,_)] [(2,1)] [] []
   ·exact oc (g_ld 1 Tryz.underlying35 Z1)<|oc (g_al 0 Yh)<|oc (g_sn 0 Z1) on
   intro u11 b11_1 HB11 sz11 K11
   simp only[sQ] at K11⊢
   clear K10 HB10
   go_upto_region 15 with fail
   apply Rp K11 HB11 [.no,.no,.no,.no,.no,.all 2 (SE (ot) (a) (b))] [] [(0,88,_),(1,89,_)] [] [] []
   ·exact oc g_mv<|oc (g_fd (fdS0 _))<|oc (g_sw 5 0 sIc rfl rfl) on
   intro u12 HB12 sz12 K12
   simp only[sQ] at K12⊢
   clear K11 HB11
   go_upto_region 16 with fail
   apply Rm K12 HB12 [(0,90,_),(1,91,_),(2,92,_),(3,93,_),(4,94,_),(5,95,_),(6,96,_),(7,97,_),(8,20,_),(9,21,_)]
   ·exact oc (g_cl Xu cThe)<|oc (g_ld 0 Tryz.underlying30 Z2)<|oc (g_ld 3 Tryz.underlying35 Z1)<|oc (g_cb Ud hv1.out)<|oc (g_cl Xu cThe)<|oc (g_ld 0 Tryz.underlying30 Z2)<|oc (g_ld 4 Tryz.underlying35 Z1)<|oc (g_cb Ud hv2.out)<|oc g_as<|oc g_as on
   intro u13 HB13 sz13 K13
   simp only[sQ] at K13⊢
   clear K12 HB12
   rcases h3 with h3 | ⟨h3,h9⟩
   ·rw[if_pos h3] at hv3
    have hv3:Hid _:=hv3
    go_upto_region 17 with fail
    apply Rm K13 HB13 [(0,98,_),(1,99,_),(2,100,_),(3,101,_),(4,22,_)]
    ·exact oc (g_cl Xu cThe)<|oc (g_ld 0 Tryz.underlying30 Z2)<|oc (g_ld 5 Tryz.underlying35 Z1)<|oc (g_cb Ud hv3.out)<|oc g_as on
    intro u14 HB14 sz14 K14
    simp only[sQ] at K14⊢
    clear K13 HB13
    go_upto_region 18 with fail
    apply Rn K14 HB14 [(0,102,_),(1,103,_),(2,104,_),(3,105,_),(4,106,_),(5,107,_),(6,108,_),(7,109,_),(8,110,_),(9,111,_),(10,112,_),(11,113,_),(12,114,_),(13,115,_),(14,116,_),(15,117,_),(16,118,_),(17,119,_),(18,120,undef),(19,121,undef),(20,122,undef),(21,123,undef),(22,124,undef),(23,125,_),(24,126,_),(25,127,undef),(26,128,undef),(27,129,undef),(28,130,undef),(29,131,undef),(30,132,_),(31,133,_),(32,10,_)]
    ·exact oc g_mv<|oc (g_bn (fun uZ=>Xh _ _ _ e1 0 r1 uZ he1))<|oc (g_ld 3 Tryz.underlying35 Z1)<|oc (g_ld 1 Tryz.underlying35 Z1)<|oc (g_bn (eqS _ _ ic ia ib ib r1 hc1))<|oc (g_bn (eql_b _ _ r1))<|oc g_mv<|oc g_mv<|oc (g_bn (fun uZ=>Xh _ _ _ e2 0 r2 uZ he2))<|oc (g_ld 4 Tryz.underlying35 Z1)<|oc (g_ld 1 Tryz.underlying35 Z1)<|oc (g_bn (eqS _ _ ia ia id_ ib r2 hc2))<|oc (g_bn (eql_b _ _ r2))<|oc g_pk<|oc g_mv<|oc g_mv<|oc (g_bn (fun uZ=>Xh _ _ _ 0 0 _ uZ rfl))<|oc g_mv<|oc g_sk<|oc g_sk<|oc g_sk<|oc g_sk<|oc g_sk<|oc g_pk<|oc g_mv<|oc g_sk<|oc g_sk<|oc g_sk<|oc g_sk<|oc g_sk<|oc g_pk<|oc g_pk<|oc g_as on
    intro u15 HB15 sz15 K15
    simp only[sQ] at K15⊢
    clear K14 HB14
    go_wp2
    exact bodyPost_ret (v:= .bool true) (by simp[results,Tryz.results7,go_sem]) rfl ⟨rfl,Z7 hTw HB15⟩
   ·rw[if_neg h3] at hv3
    by_cases h8:a2=a
    ·have h9:=h9.resolve_left (fun h=>h h8)
     have n8:decide (a2=a)=!false:=by simp[h8]
     have n9:decide (b2=b)=!true:=by simp[h9]
     have hv3:Hid _:=hv3
     go_upto_region 17 with fail
     apply Rm K13 HB13 [(0,98,_),(1,99,_),(2,100,_),(3,101,_),(4,22,_)]
     ·exact oc (g_cl Xu cThe)<|oc (g_ld 0 Tryz.underlying30 Z2)<|oc (g_ld 5 Tryz.underlying35 Z1)<|oc (g_cb Ud hv3.out)<|oc g_as on
     intro u14 HB14 sz14 K14
     simp only[sQ] at K14⊢
     clear K13 HB13
     go_upto_region 18 with fail
     apply Rn K14 HB14 [(0,102,_),(1,103,_),(2,104,_),(3,105,_),(4,106,_),(5,107,_),(6,108,_),(7,109,_),(8,110,_),(9,111,_),(10,112,_),(11,113,_),(12,114,_),(13,115,_),(14,116,_),(15,117,_),(16,118,_),(17,119,_),(18,120,_),(19,121,_),(20,122,_),(21,123,_),(22,124,_),(23,125,_),(24,126,_),(25,127,_),(26,128,_),(27,129,_),(28,130,_),(29,131,_),(30,132,_),(31,133,_),(32,10,_)]
     ·exact oc g_mv<|oc (g_bn (fun uZ=>Xh _ _ _ e1 0 r1 uZ he1))<|oc (g_ld 3 Tryz.underlying35 Z1)<|oc (g_ld 1 Tryz.underlying35 Z1)<|oc (g_bn (eqS _ _ ic ia ib ib r1 hc1))<|oc (g_bn (eql_b _ _ r1))<|oc g_mv<|oc g_mv<|oc (g_bn (fun uZ=>Xh _ _ _ e2 0 r2 uZ he2))<|oc (g_ld 4 Tryz.underlying35 Z1)<|oc (g_ld 1 Tryz.underlying35 Z1)<|oc (g_bn (eqS _ _ ia ia id_ ib r2 hc2))<|oc (g_bn (eql_b _ _ r2))<|oc g_pk<|oc g_mv<|oc g_mv<|oc (g_bn (fun uZ=>Xh _ _ _ 100 0 _ uZ rfl))<|oc g_mv<|oc (g_fd (fdS1 _))<|oc (g_lo 2 1 uN iN)<|oc (g_fd (fdS1 _))<|oc (g_lo 1 1 uN iN)<|oc (g_bn (U4 _ _ ia2 ia false n8))<|oc g_pk<|oc g_mv<|oc (g_fd (fdS2 _))<|oc (g_lo 2 5 uN iN)<|oc (g_fd (fdS2 _))<|oc (g_lo 1 5 uN iN)<|oc (g_bn (U4 _ _ ib2 ib true n9))<|oc g_pk<|oc g_pk<|oc g_as on
     intro u15 HB15 sz15 K15
     simp only[sQ] at K15⊢
     clear K14 HB14
     go_wp2
     exact bodyPost_ret (v:= .bool true) (by simp[results,Tryz.results7,go_sem]) rfl ⟨rfl,Z7 hTw HB15⟩
    ·have n8:decide (a2=a)=!true:=by simp[h8]
     have hv3:Hid _:=hv3
     go_upto_region 17 with fail
     apply Rm K13 HB13 [(0,98,_),(1,99,_),(2,100,_),(3,101,_),(4,22,_)]
     ·exact oc (g_cl Xu cThe)<|oc (g_ld 0 Tryz.underlying30 Z2)<|oc (g_ld 5 Tryz.underlying35 Z1)<|oc (g_cb Ud hv3.out)<|oc g_as on
     intro u14 HB14 sz14 K14
     simp only[sQ] at K14⊢
     clear K13 HB13
     go_upto_region 18 with fail
     apply Rn K14 HB14 [(0,102,_),(1,103,_),(2,104,_),(3,105,_),(4,106,_),(5,107,_),(6,108,_),(7,109,_),(8,110,_),(9,111,_),(10,112,_),(11,113,_),(12,114,_),(13,115,_),(14,116,_),(15,117,_),(16,118,_),(17,119,_),(18,120,_),(19,121,_),(20,122,_),(21,123,_),(22,124,_),(23,125,_),(24,126,_),(25,127,undef),(26,128,undef),(27,129,undef),(28,130,undef),(29,131,undef),(30,132,_),(31,133,_),(32,10,_)]
     ·exact oc g_mv<|oc (g_bn (fun uZ=>Xh _ _ _ e1 0 r1 uZ he1))<|oc (g_ld 3 Tryz.underlying35 Z1)<|oc (g_ld 1 Tryz.underlying35 Z1)<|oc (g_bn (eqS _ _ ic ia ib ib r1 hc1))<|oc (g_bn (eql_b _ _ r1))<|oc g_mv<|oc g_mv<|oc (g_bn (fun uZ=>Xh _ _ _ e2 0 r2 uZ he2))<|oc (g_ld 4 Tryz.underlying35 Z1)<|oc (g_ld 1 Tryz.underlying35 Z1)<|oc (g_bn (eqS _ _ ia ia id_ ib r2 hc2))<|oc (g_bn (eql_b _ _ r2))<|oc g_pk<|oc g_mv<|oc g_mv<|oc (g_bn (fun uZ=>Xh _ _ _ 100 0 _ uZ rfl))<|oc g_mv<|oc (g_fd (fdS1 _))<|oc (g_lo 2 1 uN iN)<|oc (g_fd (fdS1 _))<|oc (g_lo 1 1 uN iN)<|oc (g_bn (U4 _ _ ia2 ia true n8))<|oc g_pk<|oc g_mv<|oc g_sk<|oc g_sk<|oc g_sk<|oc g_sk<|oc g_sk<|oc g_pk<|oc g_pk<|oc g_as on
     intro u15 HB15 sz15 K15
     simp only[sQ] at K15⊢
     clear K14 HB14
     go_wp2
     exact bodyPost_ret (v:= .bool true) (by simp[results,Tryz.results7,go_sem]) rfl ⟨rfl,Z7 hTw HB15⟩
theorem ent_Q3:EnT 23:=fun _ _=>by kernel_rfl
theorem nl_cut {u:World} {sl:Option Addr} {cap n k:Nat} {ns:List Int} (h:NL u (.slice sl n cap) ns) (hk:k<=ns.length):NL u (.slice sl k cap) (ns.take k):=by
 obtain⟨sl',gb,go,cap',e,h2,h3,h4,h5,h6⟩:=h
 cases e
 have hl:(ns.take k).length=k:=by rw[List.length_take];omega
 refine⟨sl,gb,go,cap,by rw[hl],by omega,h3,?_,?_,fun j v hj=>?_⟩
 ·rcases h4 with h4 | h4
  ·subst h4;exact .inl (by simp)
  ·exact .inr h4
 ·exact h5.imp (fun e=>by omega) id
 ·refine h6 j v ?_
  have e:flN ns=flN (ns.take k)++flN (ns.drop k):=by rw[<-flN_app,List.take_append_drop]
  rw[e,List.getElem?_append_left (List.getElem?_eq_some_iff.1 hj).1];exact hj
theorem bsK0 (w:World):(Instr.buildSlice 27 0 #[]).run Tryz.prog w= .ok (.slice (some ⟨w.heap.size,0,none⟩) 0 0) (w.alloc (.cells #[] 24)):=by kernel_rfl
theorem app_k0 {u:World} {lo b m c:Nat} {sl:Option Addr} {gb go:Nat} {ns:List Int} {ty:TypeId} (hlo:lo<=b) (hlu:lo<=u.heap.size) (hb:b<u.heap.size) (hc:CV u b []) (hm:ns.length=m) (hl:m<=100000) (hs:m=0\/sl=some ⟨gb,go,none⟩) (hS:SN u gb go ns):
 ∃v u',(Builtin.append_ #[27,27] ty #[.slice (some ⟨b,0,none⟩) 0 0,.slice sl m c]).run Tryz.prog u= .ok v u'/\Bw u u'/\(∃b2 c2,v= .slice (some ⟨b2,0,none⟩) m c2/\lo<=b2)/\NL u' v ns:=by
 obtain⟨ti,hti,htm⟩:=Option.map_eq_some_iff.1 infoNt
 simp only[Prod.mk.injEq] at htm
 obtain⟨hzv,hsz,hby⟩:=htm
 obtain⟨v',u',hr,hB,hg⟩:=run_appF (P:=Tryz.prog) u (ty:=ty) Tryz.underlying27 hti hzv (by rw[hsz];rfl) (lo:=lo) (n:=0) (m:=m) (xs:=[]) (news:=flN ns) (y:= .slice sl m c) hc hlo hlu hb (by rw[hsz];rfl) ⟨sl,c,rfl,hs.imp id fun e=>⟨_,e,SN.news hS⟩⟩ (by rw[hsz,flN_len];omega) (by rw[hby];omega) (by omega)
 rw[hsz,List.nil_append,Nat.zero_add] at hg
 obtain⟨b2,c2,zs,rfl,h1,h2,h3,h4,h5⟩:=hg
 refine⟨_,u',hr,hB,⟨b2,c2,rfl,h1⟩,⟨_,b2,0,c2,by rw[hm],by omega,(by simp),.inr rfl,.inr h2,fun j v hj=>?_⟩⟩
 rw[Nat.zero_add]
 exact(h5 j v (by rw[List.getElem?_append_left (List.getElem?_eq_some_iff.1 hj).1];exact hj)).1
theorem few11 (sl:Option Addr) (len cap m:Nat) (gb go:Nat) (ns:List Int) (w:World) (hm:min ((len:Nat):Int) 7=((m:Nat):Int)) (hml:Hid (ns.length=m)) (hmn:m<=len) (hlc:len<=cap) (hsn:sl=none->cap=0) (hm12:m<=12) (hs:Hid (m=0\/sl=some ⟨gb,go,none⟩)) (hg:Hid (m=0\/gb<w.heap.size)) (hS:Hid (SN w gb go ns)):
 Calls Tryz.prog 9 #[.slice sl len cap] w fun e u=> ∃y,e= .returned y/\(NL u y ns/\ ∃b c,y= .slice (some ⟨b,0,none⟩) ns.length c/\w.heap.size<=b)/\Bw w u:=by
 have hbs:=bsK0
 have hsl:=slNt sl len cap m hmn hlc hsn
 obtain⟨v',u',r,hB,⟨b2,c2,rfl,hlo2⟩,hN⟩:=app_k0 (lo:=w.heap.size) (u:=w.alloc (.cells #[] 24)) (b:=w.heap.size) (m:=m) (c:=cap) (sl:=sl) (gb:=gb) (go:=go) (ns:=ns) (ty:=27) (Nat.le_refl _) (by simp) (by simp) (CV.new w [] 24) hml.out (by omega) hs.out (SN.below2 (m:=w.heap.size) hS.out (Z3 (Zp w) _) (hg.out.imp (fun e=>hml.out.trans e) id))
 have hB2:Bw w u':=Z7 (Z3 (Zp w) (.cells #[] 24)) hB
 have hN:Hid (NL u' (.slice (some ⟨b2,0,none⟩) m c2) ns):=hN
 clear hsn hB
 go_enter Tryz.func9,Tryz.ntmps9
 go_wp2_with (at_builtin;refine Yw rfl _ _ 27 rfl _ _ _ rfl rfl r ?_;clear r)
 exact bodyPost_ret (v:= .slice (some ⟨b2,0,none⟩) m c2) (by simp[results,Tryz.results9,go_sem]) rfl ⟨_,rfl,⟨hN.out,b2,c2,by rw[hml.out],hlo2⟩,hB2⟩
theorem ent_R1:EnT 16:=fun _ _=>by kernel_rfl
theorem ent_R2:EnT 17:=fun _ _=>by kernel_rfl
theorem ent_R3:EnT 18:=fun _ _=>by kernel_rfl
theorem ent_R4:EnT 20:=fun _ _=>by kernel_rfl
theorem ent_R5:EnT 22:=fun _ _=>by kernel_rfl
theorem ent_R6:EnT 24:=fun _ _=>by kernel_rfl
def PDl (lo:Nat) (d:Int) (ns:List Int) (u:World) (v:Value):Prop:= ∃y,v=DX d y/\NL u y ns/\ ∃b c,y= .slice (some ⟨b,0,none⟩) ns.length c/\lo<=b
theorem PDl.stab {lo:Nat} {d:Int} {ns:List Int} {u u2:World} {x:Value} (hB:Bw u u2) (h:PDl lo d ns u x):PDl lo d ns u2 x:=by
 obtain⟨y,e,h,h2⟩:=h
 exact⟨y,e,NL.up h hB,h2⟩
theorem set2_K {u:World} {b:Nat} {v0 v1 c0 c1:Value} (h:CV u b [c0,c1]):CV ((u.setCell ⟨b,0,none⟩ v0).setCell ⟨b,1,none⟩ v1) b [v0,v1]:=(h.setC 0 (by simp) v0).setC 1 (by simp) v1
theorem set2_O {u:World} {b c:Nat} {v0 v1:Value} {l:List Value} (h:CV u c l) (hne:c≠b):CV ((u.setCell ⟨b,0,none⟩ v0).setCell ⟨b,1,none⟩ v1) c l:=(h.oset ⟨b,0,none⟩ v0 hne).oset ⟨b,1,none⟩ v1 hne
theorem set2_B {m b:Nat} {w u:World} {v0 v1:Value} (h:Below m w u) (hb:m<=b):Below m w ((u.setCell ⟨b,0,none⟩ v0).setCell ⟨b,1,none⟩ v1):=(h.setCell hb v0).setCell hb v1
theorem set2_N {u:World} {b:Nat} {v0 v1:Value} {y:Value} {ns:List Int} (h:NL u y ns) (hb: ∀sl gb go cap,y= .slice sl ns.length cap->sl=some ⟨gb,go,none⟩->ns≠[]->gb≠b):NL ((u.setCell ⟨b,0,none⟩ v0).setCell ⟨b,1,none⟩ v1) y ns:=by
 obtain⟨sl,gb,go,cap,h1,h2,h3,h4,h5,h6⟩:=h
 refine⟨sl,gb,go,cap,h1,h2,h3,h4,h5.imp id fun e=>by simpa using e,fun j v hj=>?_⟩
 by_cases e:ns=[]
 ·subst e;simp[flN] at hj
 ·have hne:=hb sl gb go cap h1 (h4.resolve_left e) e
  have hg:gb<u.heap.size:=h5.resolve_left (fun e2=>e (List.eq_nil_of_length_eq_zero e2))
  have:=h6 j v hj
  have k1:=Below.heap_setCell u ⟨b,0,none⟩ v0 gb hne
  have k2:=Below.heap_setCell (u.setCell ⟨b,0,none⟩ v0) ⟨b,1,none⟩ v1 gb hne
  have e3:((u.setCell ⟨b,0,none⟩ v0).setCell ⟨b,1,none⟩ v1).cell? ⟨gb,go+j,none⟩=u.cell? ⟨gb,go+j,none⟩:=by
   simp only[World.cell?,k2,k1]
  rw[e3];exact this
theorem cut_core (d:Int) (sl:Option Addr) (len cap:Nat) (ns:List Int) (w:World)
 (hF:Hid (∀u,Bw w u->Calls Tryz.prog 9 #[.slice sl len cap] u fun e u'=> ∃y,e= .returned y/\(NL u' y ns/\ ∃b c,y= .slice (some ⟨b,0,none⟩) ns.length c/\u.heap.size<=b)/\Bw u u')):
 Calls Tryz.prog 16 #[DX d (.slice sl len cap)] w fun e u=> ∃v,e= .returned v/\PDl w.heap.size d ns u v/\Bw w u:=by
 go_enter Tryz.func16,Tryz.ntmps16
 go_upto_region 1 with fail
 generalize e2:(w.alloc (.cells (DE d (.slice sl len cap):List Value).toArray 30)).alloc (.cells (L0d:List Value).toArray 30)=w2 at *
 have hB2:Bw w w2:=by rw[<-e2];exact Z3 (Z3 (Zp w) _) _
 have hs2:w2.heap.size=w.heap.size+2:=by rw[<-e2];simp
 have K1:CV w2 w.heap.size (DE d (.slice sl len cap)):=by rw[<-e2];exact(CV.new w _ _).below (Z3 (Zp _) _) (by simp)
 have K2:CV w2 (w.heap.size+1) L0d:=by rw[<-e2];exact CV.newAt _ _ _ _ (by simp)
 clear e2
 have a0:=(K1 0 _ rfl).1
 have a1:=(K1 1 _ rfl).1
 have K2:Hid _:=K2
 have K1:Hid _:=K1
 go_region_with (go_at_call 9;refine(hF.out w2.drew hB2.drew).mono ?_;go_must (rintro e ub ⟨y,rfl,⟨hy,b5,cy,rfl,h5⟩,hBb⟩;have hy:Hid _:=hy;have h5:w.heap.size+1<b5:=(by first | omega | (simp at h5;omega));have K3:=CV.below (CV.drew K2.out) hBb (by first | omega | (simp<;>omega));have K1b:=CV.below (CV.drew K1.out) hBb (by first | omega | (simp<;>omega));have b0:=(K1b 0 _ rfl).1;have b1:=(K1b 1 _ rfl).1;clear K1b;have z0:=(K3 0 _ rfl).1;have zf0:=(K3 0 _ rfl).2;have z1:=(K3 1 _ rfl).1;have zf1:=(K3 1 _ rfl).2;replace hBb:=Z7 hB2.drew hBb;have K3:Hid _:=K3;clear a0 a1))
 all_goals (go_wp2_with fail)
 all_goals (have K4:=set2_K (v0:= .int .i64 d) (v1:= .slice (some ⟨b5,0,none⟩) ns.length cy) K3.out;have c0:=(K4 0 _ rfl).1;have c1:=(K4 1 _ rfl).1;exact bodyPost_ret (v:=DX d (.slice (some ⟨b5,0,none⟩) ns.length cy)) (by simp[results,Tryz.results16,go_sem,c0,c1]) rfl ⟨_,rfl,⟨_,rfl,set2_N hy.out (fun sl gb go cap e1 e2 _=>by cases e1;cases e2;omega),b5,cy,rfl,by omega⟩,set2_B hBb (by omega)⟩)
theorem cFew7 (ns:List Int) (v:Value) (w:World) (hv:NL w v ns) (hl:ns.length<=7):Calls Tryz.prog 9 #[v] w fun e u=> ∃y,e= .returned y/\(NL u y ns/\ ∃b c,y= .slice (some ⟨b,0,none⟩) ns.length c/\w.heap.size<=b)/\Bw w u:=by
 obtain⟨sl,gb,go,cap,rfl,h2,h3,h4,h5,h6⟩:=hv
 exact few11 sl ns.length cap ns.length gb go ns w (by omega) rfl (Nat.le_refl _) h2 h3 (by omega) (h4.imp (fun e=>by rw[e];rfl) id) h5 h6
theorem cCutN (d:Int) (ns:List Int) (v:Value) (w:World) (hv:NL w v ns) (hl:ns.length<=7):Calls Tryz.prog 16 #[DX d v] w fun e u=> ∃y,e= .returned y/\PDl w.heap.size d ns u y/\Bw w u:=by
 have hv':=hv
 obtain⟨sl,gb,go,cap,rfl,_⟩:=hv
 exact cut_core d sl _ cap ns w fun u hB=>cFew7 ns _ u (NL.up hv' hB) hl
structure VON (w:World):Prop where
 nought: ∀u,Bw w u-> ∀(d:Int) (ns:List Int) (v:Value),NL u v ns->(∀z∈ns,In z)->ns.length<=7->CC 23 #[DX d v] u (.bool (noB ns))
structure VOA (w:World):Prop where
 at_: ∀u,Bw w u-> ∀(p q g h d nd:Int) (ns:List Int) (v:Value),In p->In q->In g->In h-> -9223372036854775808<=d/\d<9223372036854775808-> -9223372036854775808<=nd/\nd<9223372036854775808->NL u v ns->(∀z∈ns,In z)->ns.length<=7->CC 17 #[GX p q g h,DX d v,.int .i64 nd] u (.tuple #[NV (atX p q d nd ns),.int .i64 (atE p q d nd ns)])
theorem atX_In {p q d nd:Int} {ns:List Int} (hp:In p):In (atX p q d nd ns):=by
 unfold atX;split
 ·rename_i c
  have c3:dcE p q d ns=0:=by
   unfold atE at c
   by_cases h1:dcE p q d ns=0
   ·exact h1
   ·rw[if_neg h1] at c;exact c
  exact atO_In hp (by have:=(dcE_0 c3).1.2;omega) _
 ·exact In_0
theorem vssChecks_core (p q g h d nd xn xs xt:Int) (sl:Option Addr) (len cap:Nat) (ns:List Int) (w:World) (hV:VOK w) (hW:VON w) (hA:VOA w) (hp:In p) (hq:In q) (hg:In g) (hh:In h) (hd: -9223372036854775808<=d/\d<9223372036854775808) (hnd: -9223372036854775808<=nd/\nd<9223372036854775808) (hxn: -9223372036854775808<=xn/\xn<9223372036854775808) (hxs:In xs) (hxt:In xt) (hns: ∀z∈ns,In z) (h7:ns.length<=7) (hC:Hid (∀u,Bw w u->Calls Tryz.prog 16 #[DX d (.slice sl len cap)] u fun e u'=> ∃v,e= .returned v/\PDl u.heap.size d ns u' v/\Bw u u')):
 CC 4 #[GX p q g h,DX d (.slice sl len cap),SX xn xs xt,.int .i64 nd] w (.bool true):=by
 go_enter Tryz.func4,Tryz.ntmps4
 go_upto_region 1 with fail
 obtain⟨v0,hC,HB0,K0⟩:=bx3 w (GE (p) (q) (g) (h)) 26 (DE (d) (.slice sl len cap)) 30 (SE (xn) (xs) (xt)) 35
 rw[hC]
 clear hC
 have Kp0:CV v0 (w.heap.size) (GE p q g h):=(K0.cv 0)
 have Kp1:CV v0 (w.heap.size+1) (DE d (.slice sl len cap)):=(K0.cv 1)
 have Kp2:CV v0 (w.heap.size+1+1) (SE xn xs xt):=(K0.cv 2)
 have hl2:w.heap.size+1+1<v0.heap.size:=(K0.lt 2)
 have a0:=(Kp1 0 _ rfl).1
 have a1:=(Kp1 1 _ rfl).1
 have Kp0:Hid _:=Kp0
 have Kp1:Hid _:=Kp1
 have Kp2:Hid _:=Kp2
 have hvv:=HB0.size
 clear K0
 go_cut [14] (fun s14 wx=> ∃b5 c5,Bw w wx/\w.heap.size+1+1<wx.heap.size/\CV wx (w.heap.size) (GE p q g h)/\CV wx (w.heap.size+1) (DE d (.slice (some ⟨b5,0,none⟩) ns.length c5))/\CV wx (w.heap.size+1+1) (SE xn xs xt)/\NL wx (.slice (some ⟨b5,0,none⟩) ns.length c5) ns)
 case first=>
  go_wp2_with (go_at_call 16;refine(hC.out v0 HB0).mono ?_;clear a0 a1;rintro e ub ⟨v,rfl,⟨y,rfl,hy,b5,c5,rfl,h5⟩,hBb⟩;have K1b:=CV.below Kp1.out hBb (by omega);have z0:=(K1b 0 _ rfl).1;have zf0:=(K1b 0 _ rfl).2;have z1:=(K1b 1 _ rfl).1;have zf1:=(K1b 1 _ rfl).2;have K1b:Hid _:=K1b;have hy:Hid _:=hy)
  go_meet
  have hsb:=hBb.size
  exact⟨b5,c5,set2_B (Z7 HB0 hBb) (by omega),(by first | omega | (simp<;>omega)),set2_O (CV.below Kp0.out hBb (by omega)) (by omega),set2_K K1b.out,set2_O (CV.below Kp2.out hBb (by omega)) (by omega),set2_N hy.out (fun sl gb go cap e1 e2 _=>by cases e1;cases e2;omega)⟩
 case rest=>
  obtain⟨b5,c5,hTw,l2,C0,C1,C2,ny_0⟩:=hcut
  have l1:w.heap.size+1<wc.heap.size:=by omega
  have l0:w.heap.size<wc.heap.size:=by omega
  have HBc:Bw wc wc:=Below.refl _ _
  have hCt:=fun u (hB:Bw wc u)=>cCutN d ns (.slice (some ⟨b5,0,none⟩) ns.length c5) u (NL.up ny_0 hB) h7
  have hAt:=fun u (hB:Bw wc u) y (hy:NL u y ns)=>hA.at_ u (Z7 hTw hB) p q g h d nd ns y hp hq hg hh hd hnd hy hns h7
  have hAr:=fun u (hB:Bw wc u)=>xAtD p q g h d nd ns _ u hp hq (NL.up ny_0 hB) hns (by omega)
  have hCh:=fun u (hB:Bw wc u) y (hy:NL u y ns)=>hV.check u (Z7 hTw hB) p q g h d ns y hp hq hg hh hd hy hns h7
  have hCr:=fun u (hB:Bw wc u)=>xCheckD p q g h d ns _ u hp hq (NL.up ny_0 hB) hns (by omega)
  have hVe:=fun u (hB:Bw wc u) y (hy:NL u y ns)=>hV.verify u (Z7 hTw hB) p q g h d xn xs xt ns y hp hq hg hh hd hxn hxs hxt hy hns h7
  have hVr:=fun u (hB:Bw wc u)=>xVerify p q g h d xn xs xt ns _ u hp hq hg hh hxs hxt (NL.up ny_0 hB) hns (by omega)
  have hNo:=fun u (hB:Bw wc u)=>hW.nought u (Z7 hTw hB) d ns _ (NL.up ny_0 hB) hns h7
  have hNr:=fun u (hB:Bw wc u)=>xNought d ns _ u (NL.up ny_0 hB) hns
  have ia:=atX_In (q:=q) (d:=d) (nd:=nd) (ns:=ns) hp
  obtain⟨a,ea⟩: ∃x,atX p q d nd ns=x:=⟨_,rfl⟩
  obtain⟨e,ee⟩: ∃x,atE p q d nd ns=x:=⟨_,rfl⟩
  obtain⟨c,ec⟩: ∃x,dcE p q d ns=x:=⟨_,rfl⟩
  obtain⟨ve,ev⟩: ∃x,veE p q g h d xn xs xt ns=x:=⟨_,rfl⟩
  obtain⟨nb,en⟩: ∃x,noB ns=x:=⟨_,rfl⟩
  rw[ea] at ia
  simp only[ea,ee] at hAt hAr
  simp only[ec] at hCh hCr
  simp only[ev] at hVe hVr
  simp only[en] at hNo hNr
  clear ea ee ec ev en
  have hCt:Hid _:=hCt
  have hAt:Hid _:=hAt
  have hAr:Hid _:=hAr
  have hCh:Hid _:=hCh
  have hCr:Hid _:=hCr
  have hVe:Hid _:=hVe
  have hVr:Hid _:=hVr
  have hNo:Hid _:=hNo
  have hNr:Hid _:=hNr
  have K0_1:Bk wc.heap.size wc [(false,w.heap.size,GE (p) (q) (g) (h)),(false,w.heap.size+1,DE (d) (.slice (some ⟨b5,0,none⟩) ns.length c5)),(false,w.heap.size+1+1,SE (xn) (xs) (xt))]:=⟨.c l0 C0<| .c l1 C1<| .c l2 C2<|trivial,by simp<;>omega⟩
  go_upto_region 2 with fail
  apply Re K0_1 HBc [] [(8,9,L0s,some (9,LN a))] [(0,16,_),(1,17,_),(3,19,_),(4,20,_),(5,15,_),(6,21,_),(7,22,_),(10,10,_)] [(9,8)] [] [⟨2,18,some 4,PDl 0 d ns⟩] []
  ·exact oc (g_ld 0 Tryz.underlying26 Z0)<|oc (g_ld 1 Tryz.underlying30 Z2)<|oc (g_cE 0 (PDl 0 d ns) ent_R1 (fun u hB hs=>(hCt.out u hB).mono fun e u2 ⟨v,e1,⟨y,e2,h1,b,c,e3,_⟩,h2⟩=>⟨v,e1,⟨y,e2,h1,b,c,e3,Nat.zero_le _⟩,h2⟩))<|oc g_mv<|oc (g_cWg 0 (PDl 0 d ns) (fun y=>[GX p q g h,y,.int .i64 nd]) ent_R2 (fun u y bZ hy=>by obtain⟨y2,rfl,hy2,_⟩:=hy;exact hAt.out u bZ y2 hy2))<|oc g_mv<|oc g_ex<|oc g_ex<|oc (g_al 0 aN)<|oc (g_sn 0 iN)<|oc g_as on
  intro u1 b1_8 v1_2 hv1_2 HB1 sz1 K1
  simp only[sQ] at K1⊢
  go_upto_region 3 with fail
  apply Rp K1 HB1 [] [(7,11,L0s,some (8,LN a))] [(0,24,_),(1,25,_),(2,26,_),(3,27,_),(4,23,_),(5,28,_),(6,29,_),(9,12,_)] [(8,7)] [] []
  ·exact oc (g_ld 0 Tryz.underlying26 Z0)<|oc (g_ld 1 Tryz.underlying30 Z2)<|oc g_mv<|oc (g_cb ent_R3 hAr.out)<|oc g_mv<|oc g_ex<|oc g_ex<|oc (g_al 0 aN)<|oc (g_sn 0 iN)<|oc g_as on
  intro u2 b2_7 HB2 sz2 K2
  simp only[sQ] at K2⊢
  clear K1 HB1
  go_upto_region 4 with fail
  apply Re K2 HB2 [] [] [(0,30,_),(1,31,_),(2,32,_),(3,33,_),(4,34,_),(5,35,_),(6,36,_),(7,37,_),(8,38,_),(9,39,_),(10,40,_),(12,42,_),(13,43,_),(14,44,_),(15,45,_),(16,46,_),(17,47,_),(18,48,_),(19,49,_),(20,50,_),(22,52,_),(23,53,_),(24,54,_),(25,55,_),(26,56,_),(27,57,_),(28,58,_),(29,59,_),(30,60,_),(31,61,_),(32,62,_),(33,63,_),(34,64,_),(35,65,_),(36,66,_),(37,67,_),(38,68,_),(39,69,_),(40,8,_)] [] [] [⟨11,41,some 12,PDl 0 d ns⟩,⟨21,51,some 23,PDl 0 d ns⟩] []
  ·exact oc (g_ld 3 uN iN)<|oc (g_ld 4 uN iN)<|oc (g_bn (fun uZ=>eql_n _ _ ia ia true (by simp) uZ))<|oc g_mv<|oc g_mv<|oc g_mv<|oc (g_bn (fun uZ=>Xh _ _ _ e e true uZ (by simp)))<|oc g_pk<|oc g_mv<|oc (g_ld 0 Tryz.underlying26 Z0)<|oc (g_ld 1 Tryz.underlying30 Z2)<|oc (g_cE 0 (PDl 0 d ns) ent_R1 (fun u hB hs=>(hCt.out u hB).mono fun e u2 ⟨v,e1,⟨y,e2,h1,b,c,e3,_⟩,h2⟩=>⟨v,e1,⟨y,e2,h1,b,c,e3,Nat.zero_le _⟩,h2⟩))<|oc (g_cWg 0 (PDl 0 d ns) (fun y=>[GX p q g h,y]) ent_O4 (fun u y bZ hy=>by obtain⟨y2,rfl,hy2,_⟩:=hy;exact hCh.out u bZ y2 hy2))<|oc (g_ld 0 Tryz.underlying26 Z0)<|oc (g_ld 1 Tryz.underlying30 Z2)<|oc (g_cb ent_R4 hCr.out)<|oc (g_bn (fun uZ=>Xh _ _ _ c c true uZ (by simp)))<|oc g_pk<|oc g_mv<|oc (g_ld 0 Tryz.underlying26 Z0)<|oc (g_ld 1 Tryz.underlying30 Z2)<|oc (g_cE 1 (PDl 0 d ns) ent_R1 (fun u hB hs=>(hCt.out u hB).mono fun e u2 ⟨v,e1,⟨y,e2,h1,b,c,e3,_⟩,h2⟩=>⟨v,e1,⟨y,e2,h1,b,c,e3,Nat.zero_le _⟩,h2⟩))<|oc (g_ld 2 Tryz.underlying35 Z1)<|oc (g_cWg 1 (PDl 0 d ns) (fun y=>[GX p q g h,y,SX xn xs xt]) Ud (fun u y bZ hy=>by obtain⟨y2,rfl,hy2,_⟩:=hy;exact hVe.out u bZ y2 hy2))<|oc (g_ld 0 Tryz.underlying26 Z0)<|oc (g_ld 1 Tryz.underlying30 Z2)<|oc (g_ld 2 Tryz.underlying35 Z1)<|oc (g_cb ent_R5 hVr.out)<|oc (g_bn (fun uZ=>Xh _ _ _ ve ve true uZ (by simp)))<|oc g_pk<|oc g_mv<|oc (g_ld 1 Tryz.underlying30 Z2)<|oc (g_cb ent_Q3 hNo.out)<|oc (g_ld 1 Tryz.underlying30 Z2)<|oc (g_cb ent_R6 hNr.out)<|oc (g_bn (eql_b _ _ nb))<|oc g_pk<|oc g_mv<|oc (g_cb ent_O2 (fun uZ bZ=>works11 uZ (hV.up (Z7 hTw bZ))))<|oc g_pk<|oc g_as on
  intro u3 v3_11 hv3_11 v3_21 hv3_21 HB3 sz3 K3
  simp only[sQ] at K3⊢
  clear K2 HB2
  go_wp2
  exact bodyPost_ret (v:= .bool true) (by simp[results,Tryz.results4,go_sem]) rfl ⟨rfl,Z7 hTw HB3⟩
theorem GP.gt {w:World} (h:GP w):GT w:=⟨by have:=h.sz;omega,h.tab⟩
theorem vOK {w:World} (hG:GP w):VOK w where
 share:=fun u hB p q g h nd ss ts v v2 hp hq _ _ _ hv hv2 hs ht _ _=>vShare p q g h nd ss ts v v2 u (hG.below hB) hp hq hv hv2 hs ht
 deal:=fun u hB p q g h d ss ts v v2 hp hq hg hh _ hv hv2 hs ht _ _=>vDeal p q g h d ss ts v v2 u (hG.below hB).gt hp hq hg hh hv hv2 hs ht
 check:=fun u hB p q g h d ns v hp hq _ _ _ hv hns hl=>vCheck p q g h d ns v u (hG.below hB).gt hp hq hv hns (by omega)
 verify:=fun u hB p q g h d nd s t ns v hp hq hg hh _ _ hs ht hv hns hl=>vVerify p q g h d nd s t ns v u (hG.below hB).gt hp hq hg hh hs ht hv hns hl
theorem vOA {w:World} (hG:GP w):VOA w where
 at_:=fun u hB p q g h d nd ns v hp hq _ _ _ _ hv hns hl=>vAt p q g h d nd ns v u (hG.below hB).gt hp hq hv hns hl
theorem vON {w:World} (hG:GP w):VON w where
 nought:=fun u hB d ns v hv hns _=>vNought d ns v u hv hns
end
section
open Go.ChangeShapes Go.WideShapes Go.ChangeAt Go.RowKit
theorem nats_row (L:Nat) {H:Type} {enc:TypeId×Value->H} {W:World} {fuel:Nat} {cs:List Value} {x:DataW H×List MemPlace} (hf:DataW.trod enc Tryz.prog W 0 (fun _=>true) true fuel 27 cs=some x):
 ∃sl len cap gb go,∃ns:List Int,cs=[.slice sl len cap]/\(min len L)=ns.length/\len<=cap/\(sl=none->cap=0)/\(cap=0\/sl=some ⟨gb,go,none⟩)/\(ns.length=0\/gb<W.heap.size)/\SN W gb go ns/\ ∀z∈ns,In z:=by
 rcases Go.Deep.open_slice Tryz.underlying27 hf with⟨hcs,hx⟩ | ⟨ad,len,cap,m,n,D,Pl,hcs,hbs,hl,hm,hmm,hx,hall⟩
 ·exact⟨_,_,_,0,0,[],hcs,by simp,Nat.le_refl _,fun _=>rfl,.inl rfl,.inl rfl,SN.empty rfl,fun z hz=>(by cases hz)⟩
 ·subst hcs
  simp only[if_true] at hmm
  by_cases h0:cap=0
  ·subst h0
   have e:len=0:=by omega
   subst e
   exact⟨_,_,_,0,0,[],rfl,by simp,Nat.le_refl _,fun _=>rfl,.inl rfl,.inl rfl,SN.empty rfl,fun z hz=>(by cases hz)⟩
  ·have hrow: ∀i,i<cap-> ∃z,In z/\ ∀c v,(LN z)[c]?=some v->W.cell? ((ad.add (i*4)).add c)=some v:=fun i hi=>by
    obtain⟨cs,k1,k2⟩:=hall i (by rw[hmm];exact hi)
    rw[Tryz.cells24] at k1
    exact row_nat k1 k2
   obtain⟨gb,go,spot⟩:=ad
   have hspot:spot=none:=by
    obtain⟨z,_,hz⟩:=hrow 0 (by omega)
    have:=hz 0 _ rfl
    simpa [Addr.add] using World.cell?_spot this
   subst hspot
   have hadd: ∀i c:Nat,((⟨gb,go,none⟩:Addr).add (i*4)).add c=⟨gb,go+(i*4+c),none⟩:=fun i c=>by unfold Addr.add;(repeat' split)<;>simp_all<;>omega
   obtain⟨ns,hnl,hnp⟩:=list_ofP (min len L) (fun i hi=>hrow i (by omega))
   have hblk:gb<W.heap.size:=by
    obtain⟨z,_,hz⟩:=hrow 0 (by omega)
    have:=hz 0 _ rfl
    rw[hadd] at this
    exact World.block_lt_of_cell? W _ this
   refine⟨_,_,_,gb,go,ns,rfl,hnl.symm,hl,fun e=>(by cases e),.inr rfl,.inr hblk,SN.of (fun i hi c v hv=>?_),fun z hz=>?_⟩
   ·have:=(hnp i (by omega)).2 c v hv
    rwa [hadd] at this
   ·obtain⟨j,hj,rfl⟩:=List.mem_iff_getElem.1 hz
    have:=(hnp j (by omega)).1
    simpa [List.getElem?_eq_getElem hj] using this
theorem Tryz.cells30:Tryz.prog.cellsOf 30=2:=by kernel_rfl
theorem Tryz.cells35:Tryz.prog.cellsOf 35=9:=by kernel_rfl
theorem Tryz.cells27:Tryz.prog.cellsOf 27=1:=by kernel_rfl
theorem int_of {x:Int} (h:(Lit.int .i64 x).wf=true): -9223372036854775808<=x/\x<9223372036854775808:=by
 simp[Lit.wf,IntKind.min,IntKind.max,IntKind.signed,IntKind.bits] at h;omega
theorem open_deal (L:Nat) {H:Type} {enc:TypeId×Value->H} {W:World} {base:Nat} {v:Value} {x:DataW H} {p:List MemPlace}
 (hv:Value.okWide Tryz.prog W .any base 30 v) (h:DataW.Trod enc Tryz.prog W 0 (fun _=>true) true 30 v x p):
 ∃d sl len cap gb go,∃ns:List Int,v=DX d (.slice sl len cap)/\(-9223372036854775808<=d/\d<9223372036854775808)/\(min len L)=ns.length/\len<=cap/\(sl=none->cap=0)/\(cap=0\/sl=some ⟨gb,go,none⟩)/\(ns.length=0\/gb<W.heap.size)/\SN W gb go ns/\ ∀z∈ns,In z:=by
 obtain⟨cs,rfl,hsz,_⟩: ∃cs,v= .agg cs/\cs.size=Tryz.prog.cellsOf 30/\Row.okWide Tryz.prog W .any base 30 cs:=by
  simpa [Value.okWide,Tryz.underlying30] using hv
 obtain⟨fuel,hf⟩:=h
 obtain⟨y0,y1,m,_,hl,h0,h1⟩:=trod_struct2 Tryz.underlying30 hf
 rw[Tryz.cells30] at hl
 have hl:cs.toList.length=2:=hl
 have h0:DataW.trod enc Tryz.prog W 0 (fun _=>true) true m 3 ((cs.toList.drop 0).take (Tryz.prog.cellsOf 3))=some y0:=h0
 have h1:DataW.trod enc Tryz.prog W 0 (fun _=>true) true m 27 ((cs.toList.drop 1).take (Tryz.prog.cellsOf 27))=some y1:=h1
 rw[cellsI] at h0
 rw[Tryz.cells27] at h1
 obtain⟨l,el⟩: ∃l,cs.toList=l:=⟨_,rfl⟩
 rw[el] at hl h0 h1
 match l,hl,h0,h1 with
 | [c0,c1],_,h0,h1=>
  obtain⟨d,e0,_,w0⟩:=DataW.trod_int Tryz.underlying3 h0
  obtain⟨sl,len,cap,gb,go,ns,e1,r⟩:=nats_row L h1
  simp at e0 e1
  refine⟨d,sl,len,cap,gb,go,ns,?_,int_of w0,r⟩
  have:cs=[c0,c1].toArray:=by rw[<-el]
  rw[this,e0,e1]
theorem open_share {H:Type} {enc:TypeId×Value->H} {W:World} {bs base:Nat} {sp:Nat->Bool} {held:Bool} {v:Value} {x:DataW H} {p:List MemPlace}
 (hv:Value.okWide Tryz.prog W .any base 35 v) (h:DataW.Trod enc Tryz.prog W bs sp held 35 v x p):
 ∃n s t,v=SX n s t/\(-9223372036854775808<=n/\n<9223372036854775808)/\In s/\In t:=by
 obtain⟨cs,rfl,hsz,_⟩: ∃cs,v= .agg cs/\cs.size=Tryz.prog.cellsOf 35/\Row.okWide Tryz.prog W .any base 35 cs:=by
  simpa [Value.okWide,Tryz.underlying35] using hv
 obtain⟨fuel,hf⟩:=h
 obtain⟨y0,y1,y2,m,_,hl,h0,h1,h2⟩:=Go.Deep.trod_struct3 Tryz.underlying35 hf
 rw[Tryz.cells35] at hl
 have hl:cs.toList.length=9:=hl
 have h0:DataW.trod enc Tryz.prog W bs sp held m 3 ((cs.toList.drop 0).take (Tryz.prog.cellsOf 3))=some y0:=h0
 have h1:DataW.trod enc Tryz.prog W bs sp held m 24 ((cs.toList.drop 1).take (Tryz.prog.cellsOf 24))=some y1:=h1
 have h2:DataW.trod enc Tryz.prog W bs sp held m 24 ((cs.toList.drop 5).take (Tryz.prog.cellsOf 24))=some y2:=h2
 rw[cellsI] at h0
 rw[Tryz.cells24] at h1 h2
 obtain⟨l,el⟩: ∃l,cs.toList=l:=⟨_,rfl⟩
 rw[el] at hl h0 h1 h2
 match l,hl,h0,h1,h2 with
 | [c0,c1,c2,c3,c4,c5,c6,c7,c8],_,h0,h1,h2=>
  obtain⟨n,e0,_,w0⟩:=DataW.trod_int Tryz.underlying3 h0
  obtain⟨s,hs,es⟩:=trodN h1
  obtain⟨t,ht,et⟩:=trodN h2
  simp at e0
  refine⟨n,s,t,?_,int_of w0,hs,ht⟩
  have:cs=[c0,c1,c2,c3,c4,c5,c6,c7,c8].toArray:=by rw[<-el]
  have e:SE n s t= .int .i64 n::(LN s++LN t):=rfl
  rw[this]
  show Value.agg _=Value.agg (SE n s t).toArray
  rw[e,<-es,<-et,e0];rfl
theorem nl_of {L:Nat} {sl:Option Addr} {len cap gb go:Nat} {ns:List Int} {w:World} (n1:min len L=ns.length) (n2:len<=cap) (n3:sl=none->cap=0) (n4:cap=0\/sl=some ⟨gb,go,none⟩) (n5:ns.length=0\/gb<w.heap.size) (n6:SN w gb go ns):NL w (.slice sl ns.length cap) ns:=
 ⟨sl,gb,go,cap,rfl,by omega,n3,n4.imp (fun e=>List.eq_nil_of_length_eq_zero (by omega)) id,n5,n6⟩
theorem vssRight_any (dl:Int) (sa sb:Option Addr) (la ca ga oa:Nat) (na:List Int) (lb cb gb ob:Nat) (nb:List Int) (w:World) (hG:GP w) (rdl: -9223372036854775808<=dl/\dl<9223372036854775808) (a1:min la 6=na.length) (a2:la<=ca) (a3:sa=none->ca=0) (a4:ca=0\/sa=some ⟨ga,oa,none⟩) (a5:na.length=0\/ga<w.heap.size) (a6:SN w ga oa na) (a7: ∀z∈na,In z) (b1:min lb 6=nb.length) (b2:lb<=cb) (b3:sb=none->cb=0) (b4:cb=0\/sb=some ⟨gb,ob,none⟩) (b5:nb.length=0\/gb<w.heap.size) (b6:SN w gb ob nb) (b7: ∀z∈nb,In z):
 CC 6 #[.slice sa la ca,.slice sb lb cb,.int .i64 dl] w (.bool true):=by
 obtain⟨k,hk⟩: ∃k,min na.length nb.length=k:=⟨_,rfl⟩
 have fa:=nl_cut (k:=k) (nl_of a1 a2 a3 a4 a5 a6) (by omega)
 have fb:=nl_cut (k:=k) (nl_of b1 b2 b3 b4 b5 b6) (by omega)
 have la':(na.take k).length=k:=by rw[List.length_take];omega
 have lb':(nb.take k).length=k:=by rw[List.length_take];omega
 have ia: ∀z∈na.take k,In z:=fun z hz=>a7 z (List.mem_of_mem_take hz)
 have ib: ∀z∈nb.take k,In z:=fun z hz=>b7 z (List.mem_of_mem_take hz)
 obtain⟨j,hj,hA⟩:=among_any dl 16 (by omega) (by omega) rdl
 exact vssRight_core dl (1+j) j sa sb la lb k ca cb (na.take k) (nb.take k) w (vOK hG) (by omega) (by omega) a2 a3 (by omega) b2 b3 fa fb la' lb' ia ib (by omega) (ndB_iff.2 (by omega)) (by rw[IntKind.wrap_i64];omega) hA
theorem vssTurned_any (nn no bb:Int) (sa sb:Option Addr) (la ca ga oa:Nat) (na:List Int) (lb cb gb ob:Nat) (nb:List Int) (w:World) (hG:GP w) (rnn: -9223372036854775808<=nn/\nn<9223372036854775808) (rno: -9223372036854775808<=no/\no<9223372036854775808) (hb0:0<=bb) (hb1:bb<18446744073709551616) (a1:min la 6=na.length) (a2:la<=ca) (a3:sa=none->ca=0) (a4:ca=0\/sa=some ⟨ga,oa,none⟩) (a5:na.length=0\/ga<w.heap.size) (a6:SN w ga oa na) (a7: ∀z∈na,In z) (b1:min lb 6=nb.length) (b2:lb<=cb) (b3:sb=none->cb=0) (b4:cb=0\/sb=some ⟨gb,ob,none⟩) (b5:nb.length=0\/gb<w.heap.size) (b6:SN w gb ob nb) (b7: ∀z∈nb,In z):
 CC 7 #[.slice sa la ca,.slice sb lb cb,.int .i64 nn,.int .i64 no,.int .u64 bb] w (.bool true):=by
 obtain⟨k,hk⟩: ∃k,min na.length nb.length=k:=⟨_,rfl⟩
 have fa:=nl_cut (k:=k) (nl_of a1 a2 a3 a4 a5 a6) (by omega)
 have fb:=nl_cut (k:=k) (nl_of b1 b2 b3 b4 b5 b6) (by omega)
 have la':(na.take k).length=k:=by rw[List.length_take];omega
 have lb':(nb.take k).length=k:=by rw[List.length_take];omega
 have ia: ∀z∈na.take k,In z:=fun z hz=>a7 z (List.mem_of_mem_take hz)
 have ib: ∀z∈nb.take k,In z:=fun z hz=>b7 z (List.mem_of_mem_take hz)
 obtain⟨j,hj,hA⟩:=among_any nn 16 (by omega) (by omega) rnn
 obtain⟨i,hi,hA2⟩:=among_any no 16 (by omega) (by omega) rno
 exact vssTurned_core nn no bb (1+j) (1+i) j i sa sb la lb k ca cb (na.take k) (nb.take k) w (vOK hG) (by omega) (by omega) a2 a3 (by omega) b2 b3 fa fb la' lb' ia ib hb0 hb1 ⟨hb0,by omega⟩ rfl rfl (by omega) (by omega) hA hA2
theorem vssChecks_any (p q g h d nd xn xs xt:Int) (sa:Option Addr) (la ca ga oa:Nat) (na:List Int) (w:World) (hG:GP w) (hp:In p) (hq:In q) (hg:In g) (hh:In h) (rd: -9223372036854775808<=d/\d<9223372036854775808) (rnd: -9223372036854775808<=nd/\nd<9223372036854775808) (rxn: -9223372036854775808<=xn/\xn<9223372036854775808) (hxs:In xs) (hxt:In xt) (a1:min la 7=na.length) (a2:la<=ca) (a3:sa=none->ca=0) (a4:ca=0\/sa=some ⟨ga,oa,none⟩) (a5:na.length=0\/ga<w.heap.size) (a6:SN w ga oa na) (a7: ∀z∈na,In z):
 CC 4 #[GX p q g h,DX d (.slice sa la ca),SX xn xs xt,.int .i64 nd] w (.bool true):=
 vssChecks_core p q g h d nd xn xs xt sa la ca na w (vOK hG) (vON hG) (vOA hG) hp hq hg hh rd rnd rxn hxs hxt a7 (by omega) fun u hB=>cut_core d sa la ca na u fun u2 hB2=>few11 sa la ca na.length ga oa na u2 (by omega) rfl (by omega) a2 a3 (by omega) (a4.imp (fun e=>by omega) id) (a5.imp id fun e=>Nat.lt_of_lt_of_le e (Nat.le_trans hB.size hB2.size)) (SN.below2 a6 (Z7 hB hB2) a5)
end
end Go.Proofs.YtbbohmgjphpfeaaGreatDoor
