import Derived.Test.YtmoimodkopjeeaaGreatDoorLC5
namespace Go.Proofs.YtmoimodkopjeeaaGreatDoor
set_option linter.unusedVariables false
set_option linter.unusedSimpArgs false
set_option maxRecDepth 100000
set_option maxHeartbeats 4000000
section
open Go.RowKit
theorem ent_N1:EnT 28:=fun _ _=>by kernel_rfl
theorem ent_N2:EnT 12:=fun _ _=>by kernel_rfl
theorem ent_N3:EnT 21:=fun _ _=>by kernel_rfl
theorem ent_N4:EnT 33:=fun _ _=>by kernel_rfl
theorem In_s{n:Int}(h0:0<=n:=by decide)(h1:n<1000:=by decide):In n:=⟨h0,by omega⟩
theorem w_in2{a b:Int}(ha:In a)(hb:In b): ∀z∈[a,b],In z:=fun z hz=>by
 simp at hz;rcases hz with rfl | rfl<;>assumption
theorem lt_NL{u:World}{v:Value}{ns:List Int}(h:NL u v ns): ∃sl cap,v= .slice sl ns.length cap:=by
 obtain⟨sl,_,_,cap,e,_⟩:=h
 exact⟨sl,cap,e⟩
theorem works11(w:World)(hV:VOK w):
 CC 15 #[] w (.bool true):=by
 go_enter Tryz.func15,Tryz.ntmps15
 go_upto_region 3 with(go_at_call 33;first | (refine(Xr 3 w (by omega) (by omega)).mono ?_;rintro e ua ⟨rfl,hBa⟩) | (refine(Xr 2 ua (by omega) (by omega)).mono ?_;rintro e ub ⟨rfl,hBb⟩) | (refine(Xr 5 (ub.alloc (.cells (PtE 3 2:List Value).toArray 24)) (by omega) (by omega)).mono ?_;rintro e uc ⟨rfl,hBc⟩) | (refine(Xr 7 uc (by omega) (by omega)).mono ?_;rintro e ud ⟨rfl,hBd⟩))
 generalize hC:ud.alloc (.cells (PtE 5 7:List Value).toArray 24)=v0 at *
 have hB1:Below (ub.alloc (.cells (PtE 3 2:List Value).toArray 24)).heap.size (ub.alloc (.cells (PtE 3 2:List Value).toArray 24)) v0:=by rw[<-hC];exact Z1 (Zg hBc hBd) _
 have hB0:Bw w v0:=Zg (Z1 (Zg hBa hBb) _) hB1
 have fa_0:NL v0 (.slice (some ⟨ub.heap.size,0,none⟩) 2 2) [3,2]:=NL.up (inN2 3 2 ub) hB1
 have fb_0:NL v0 (.slice (some ⟨ud.heap.size,0,none⟩) 2 2) [5,7]:=by rw[<-hC];exact inN2 5 7 ud
 have HB0:Bw v0 v0:=Below.refl _ _
 clear hC hB1
 have K0_1:=Bk.nil (v0.heap.size) v0
 go_upto_region 3 with fail
 refine Rp K0_1 HB0 [] [(7,4,L0h,some (8,SE (2) (7) (19)))] (cG 0 21 [_,_,_,_] [(4,20,_),(5,25,_),(6,26,_),(9,5,_)]) [(8,7)] [] [] (oc (g_cl ent_N1 cThe)<|oc g_mv<|oc g_mv<|oc (g_cb ent_N2 (fun uZ bZ=>by have h:=hV.share uZ (Zg hB0 bZ) P0 Q0 4 H0 2 [3,2] [5,7] _ _ In_P0' In_Q0' In_n4 In_H0 (by omega) (fa_0.up bZ) (fb_0.up bZ) (w_in2 In_s In_s) (w_in2 In_s In_s) (by decide) (by decide);rw[w_sv,w_sh] at h;exact h))<|oc g_mv<|oc g_ex<|oc g_ex<|oc (g_al 0 X7)<|oc (g_sn 0 Zb)<|oc g_as on) fun u1 b1_7 HB1 _ K1=>?_
 simp only[sQ] at K1⊢
 have hT1:Bw w u1:=Zg hB0 HB1
 have fa_1:NL u1 (.slice (some ⟨ub.heap.size,0,none⟩) 2 2) [3,2]:=fa_0.up HB1
 have fb_1:NL u1 (.slice (some ⟨ud.heap.size,0,none⟩) 2 2) [5,7]:=fb_0.up HB1
 have HBz1:Bw u1 u1:=Below.refl _ _
 have K1_2:Bk u1.heap.size u1 [(false,b1_7,SE (2) (7) (19))]:=⟨.c (K1.lt 0) (K1.cv 0)<|trivial,by simp⟩
 go_upto_region 4 with fail
 have K4:CV u1 b1_7 (SE 2 7 19):=(K1_2.cv 0)
 have l4:=(K1_2.lt 0)
 have hTu:=hT1
 have K4:Hid _:=K4
 go_cut [6,7] (fun s6 s7 wx=> ∃b y,s6= .pointer (some ⟨b,0,none⟩)/\s7=iI 0/\Bw u1 wx/\u1.heap.size<=b/\b<wx.heap.size/\CV wx b (DE 1 y)/\NL wx y (cmS P0 Q0 4 H0 [3,2] [5,7]))
 case first=>
  go_wp2_with (first
   | (go_at_call 28;refine(cThe u1).mono ?_;rintro e u5 ⟨rfl,hB5⟩)
   | (go_at_call 10;refine(hV.deal u5 (Zg hTu hB5) P0 Q0 4 H0 1 [3,2] [5,7] _ _ In_P0' In_Q0' In_n4 In_H0 (by omega) (fa_1.up hB5) (fb_1.up hB5) (w_in2 In_s In_s) (w_in2 In_s In_s) (by decide) (by decide)).mono ?_;rw[dlD,dlC,dl_0 (by decide) (by decide),if_pos rfl,if_pos rfl];rintro e u6 ⟨y,rfl,hy,hB6⟩;obtain⟨sy,cy,ey⟩:=lt_NL hy;subst ey;have hy:Hid _:=hy))
  go_meet
  exact⟨u6.heap.size,_,rfl,rfl,Z1 (Zg hB5 hB6) _,Nat.le_trans hB5.size hB6.size,by simp,CV.new u6 _ _,NL.up hy.out (Z1 (Z5 u6) _)⟩
 case rest=>
  obtain⟨b6,y,rfl,rfl,hBw,hlo6,l6,K6,ny_0⟩:=hcut
  obtain⟨sy,cy,ey⟩:=lt_NL ny_0
  subst ey
  have K4:=CV.below K4.out hBw l4
  have l4:=Nat.lt_of_lt_of_le l4 hBw.size
  have hT6:Bw w wc:=Zg hTu hBw
  have h46:b1_7≠b6:=by omega
  have fa_6:=fa_1.up hBw
  have fb_6:=fb_1.up hBw
  have HB6:Bw wc wc:=Below.refl _ _
  have K1_3:Bk wc.heap.size wc [(false,b1_7,SE (2) (7) (19)),(false,b6,DE (1) (.slice sy (cmS P0 Q0 4 H0 [3,2] [5,7]).length cy))]:=⟨.c l4 K4<| .c l6 K6<|trivial,by simp<;>omega⟩
  go_upto_region 5 with fail
  refine Rm K1_3 HB6 (cG 0 34 [_,_,_,_] [(4,8,_)]) (oc (g_cl ent_N1 cThe)<|oc (g_ld 1 Tryz.underlying30 Zp)<|oc (g_ld 0 Tryz.underlying35 Zb)<|oc (g_cb ent_N3 (fun uZ bZ=>by have h:=hV.verify uZ (Zg hT6 bZ) P0 Q0 4 H0 1 2 7 19 (cmS P0 Q0 4 H0 [3,2] [5,7]) _ In_P0' In_Q0' In_n4 In_H0 (by omega) (by omega) In_s In_s (ny_0.up bZ) (cm_In In_P0' is4 isH0) (by rw[Ul];decide);rw[w_v7] at h;exact h))<|oc g_as on) fun u2 HB2 _ K2=>?_
  simp only[sQ] at K2⊢
  go_upto_region 6 with fail
  refine Rp K2 HB2 [] [(1,9,L0h,some (2,SE (2) (7) (19)))] [(0,38,_)] [(2,1)] [] [] (oc (g_ld 0 Tryz.underlying35 Zb)<|oc (g_al 0 X7)<|oc (g_sn 0 Zb) on) fun u3 b3_1 HB3 _ K3=>?_
  simp only[sQ] at K3⊢
  go_upto_region 7 with fail
  refine Rp K3 HB3 [.no,.no,.all 3 (SE (2) (8) (19))] [] (cG 0 39 [_,_,_] []) [] [] [] (oc g_mv<|oc (g_cv (first:=[]) ent_N4 (fun fZ uZ kZ sZ=>Xr 8 uZ (by omega) (by omega)))<|oc (g_fd (fdS1 _))<|oc (g_sm 2 1 ([iI 2]) (LN 7) (LN 19) (post:=LN 8) iN) on) fun u4 HB4 _ K4=>?_
  simp only[sQ] at K4⊢
  go_upto_region 8 with fail
  refine Rm K4 HB4 (cG 0 42 [_,_,_,_,_,_,_,_,_,_,_,_,_,_,_,_,_,_,_,_,_,_,_,_,_,_,_,_,_,_,_] [(31,0,_)]) (oc (g_fd (fdS1 _))<|oc (g_lo 0 1 uN iN)<|oc g_mv<|oc (g_cv (first:=[]) ent_N4 (fun fZ uZ kZ sZ=>Xr 7 uZ (by omega) (by omega)))<|oc (g_bn (fun uZ=>eql_n _ _ (In_s:In 7) (In_s:In 7) true (by decide) uZ))<|oc g_mv<|oc (g_fd (fdS2 _))<|oc (g_lo 0 5 uN iN)<|oc g_mv<|oc (g_cv (first:=[]) ent_N4 (fun fZ uZ kZ sZ=>Xr 19 uZ (by omega) (by omega)))<|oc (g_bn (fun uZ=>eql_n _ _ (In_s:In 19) (In_s:In 19) true (by decide) uZ))<|oc g_pk<|oc g_mv<|oc g_mv<|oc (g_bn (fun uZ=>T4 _ _ _ 0 0 _ uZ rfl))<|oc g_pk<|oc g_mv<|oc g_mv<|oc (g_bn (fun uZ=>T4 _ _ _ 0 0 _ uZ rfl))<|oc g_pk<|oc g_mv<|oc g_mv<|oc (g_bn (fun uZ=>T4 _ _ _ 0 0 _ uZ rfl))<|oc g_pk<|oc g_mv<|oc (g_cl ent_N1 cThe)<|oc (g_ld 1 Tryz.underlying30 Zp)<|oc (g_ld 2 Tryz.underlying35 Zb)<|oc (g_cb ent_N3 (fun uZ bZ=>by have h:=hV.verify uZ (Zg hT6 bZ) P0 Q0 4 H0 1 2 8 19 (cmS P0 Q0 4 H0 [3,2] [5,7]) _ In_P0' In_Q0' In_n4 In_H0 (by omega) (by omega) In_s In_s (ny_0.up bZ) (cm_In In_P0' is4 isH0) (by rw[Ul];decide);rw[w_v8] at h;exact h))<|oc (g_bn (fun uZ=>T4 _ _ _ 100 100 _ uZ rfl))<|oc g_pk<|oc g_as on) fun u5 HB5 _ K5=>?_
  simp only[sQ] at K5⊢
  go_wp2
  exact bodyPost_ret (v:= .bool true) (by simp[results,Tryz.results15,go_sem]) rfl ⟨rfl,Zg hT6 HB5⟩
end
section
def UN(q a:Int):Prop:= ∃b,q∣b*a -1
theorem UN.one(q:Int):UN q 1:=⟨1,⟨0,by simp⟩⟩
theorem UN.mul{q a b:Int}(ha:UN q a)(hb:UN q b):UN q (a*b):=by
 obtain⟨x,k,hx⟩:=ha
 obtain⟨y,m,hy⟩:=hb
 exact⟨x*y,k*(y*b)+m,by grind⟩
theorem UN.mod{q a:Int}(h:UN q a):UN q (a%q):=by
 obtain⟨x,k,hx⟩:=h
 have e:=Int.emod_add_mul_ediv a q
 exact⟨x,k -x*(a/q),by grind⟩
theorem UN.neg{q a:Int}(h:UN q a):UN q (-a):=by
 obtain⟨x,k,hx⟩:=h
 exact⟨-x,k,by grind⟩
theorem UN.inv{q a:Int}(hq:0<q)(h:UN q a): ∃v,IsInv (a%q) q v:=by
 obtain⟨x,k,hx⟩:=h
 have e:=Int.emod_add_mul_ediv a q
 have e2:=Int.emod_add_mul_ediv x q
 refine⟨x%q,Int.emod_nonneg _ (by omega),Int.emod_lt_of_pos _ hq,⟨k -(x/q)*a -(x%q)*(a/q),?_⟩⟩
 generalize a%q=r at *
 generalize a/q=s at *
 generalize x%q=u at *
 generalize x/q=v at *
 grind
theorem ds_un{q:Int}{xs:List Int}{i:Nat}(h: ∀j,j<xs.length->j≠i->UN q (xs.getD i 0 -xs.getD j 0)): ∀j,j<=xs.length->UN q (dsN q xs i j)
 | 0,_=>UN.one q
 | j+1,hj=>by
  rw[dsN];split
  ·exact ds_un h j (by omega)
  ·next e=>exact((ds_un h j (by omega)).mul (h j (by omega) e).mod).mod
theorem list_of2{p:Nat->Int->Prop}: ∀n,(∀i,i<n-> ∃z,p i z)-> ∃ns:List Int,ns.length=n/\ ∀i,i<n->p i (ns.getD i 0)
 | 0,_=>⟨[],rfl,fun i hi=>by omega⟩
 | n+1,h=>by
  obtain⟨ns,hl,hp⟩:=list_of2 n (fun i hi=>h i (by omega))
  obtain⟨z,hz⟩:=h n (by omega)
  refine⟨ns++[z],by simp[hl],fun i hi=>?_⟩
  by_cases e:i=n
  ·subst e
   have:(ns++[z]).getD i 0=z:=by rw[<-hl];simp
   rw[this];exact hz
  ·have:(ns++[z]).getD i 0=ns.getD i 0:=by simp[List.getElem?_append_left (show i<ns.length by omega)]
   rw[this];exact hp i (by omega)
theorem invs_ex{q:Int}(hq:0<q){xs:List Int}(h: ∀i j,i<xs.length->j<xs.length->j≠i->UN q (xs.getD i 0 -xs.getD j 0)): ∃vs,Invs q xs vs:=by
 obtain⟨vs,hl,hv⟩:=list_of2 (p:=fun i z=>IsInv (dsN q xs i xs.length%q) q z) xs.length (fun i hi=>(ds_un (fun j hj hne=>h i j hi hj hne) xs.length (Nat.le_refl _)).inv hq)
 exact⟨vs,hl,hv⟩
abbrev OQ:Int:=581039633
theorem OQ_small: ∀d:Fin 64,d.val≠0->gI OQ (d.val:Int)=1:=by decide+kernel
theorem un_small{d:Int}(h0:d≠0)(h1: -64<d)(h2:d<64):UN OQ d:=by
 have key: ∀e:Int,0<e->e<64->UN OQ e:=fun e he h=>by
  have hg:=OQ_small ⟨e.toNat,by omega⟩ (by show e.toNat≠0;omega)
  have he2:((e.toNat:Nat):Int)=e:=Int.toNat_of_nonneg (by omega)
  rw[show (((⟨e.toNat,by omega⟩:Fin 64).val:Nat):Int)=e from he2] at hg
  obtain⟨x,hx⟩:=IsInv.ex (m:=OQ) (a:=e) (by omega) (by unfold OQ;omega) hg
  exact⟨x,hx.2.2⟩
 by_cases hp:0<d
 ·exact key d hp h2
 ·have:=(key (-d) (by omega) (by omega)).neg
  rwa [Int.neg_neg] at this
def Apart(xs:List Int):Prop:=xs.Nodup/\ ∀x∈xs,1<=x/\x<64
theorem Apart.invs{xs:List Int}(h:Apart xs): ∃vs,Invs OQ xs vs:=by
 refine invs_ex (by decide) fun i j hi hj hne=>?_
 have ei:xs.getD i 0=xs[i]:=by simp[List.getElem?_eq_getElem hi]
 have ej:xs.getD j 0=xs[j]:=by simp[List.getElem?_eq_getElem hj]
 rw[ei,ej]
 have hi2:=h.2 _ (List.getElem_mem hi)
 have hj2:=h.2 _ (List.getElem_mem hj)
 have hn:xs[i]≠xs[j]:=by
  have hp:=List.pairwise_iff_getElem.1 h.1
  rcases Nat.lt_or_gt_of_ne hne with hlt | hlt
  ·exact fun e=>hp j i hj hi hlt e.symm
  ·exact hp i j hi hj hlt
 exact un_small (by omega) (by omega) (by omega)
end
section
open Go.RowKit
def flS:List (Int×Int×Int)->List Value
 | []=>[]
 | x::l=>SE x.1 x.2.1 x.2.2++flS l
theorem flS_len: ∀l,(flS l).length=9*l.length
 | []=>rfl
 | x::l=>by rw[flS,List.length_append,flS_len l,List.length_cons];show 9+9*l.length=9*(l.length+1);omega
def ShL(u:World)(v:Value)(l:List (Int×Int×Int)):Prop:= ∃sl gb go cap,v= .slice sl l.length cap/\l.length<=cap/\(sl=none->cap=0)/\(l=[]\/sl=some ⟨gb,go,none⟩)/\(l.length=0\/gb<u.heap.size)/\ ∀j v,(flS l)[j]?=some v->u.cell? ⟨gb,go+j,none⟩=some v
theorem ShL.up{w u:World}{v:Value}{l:List (Int×Int×Int)}(h:ShL w v l)(hB:Bw w u):ShL u v l:=by
 obtain⟨sl,gb,go,cap,h1,h2,h3,h4,h5,h6⟩:=h
 refine⟨sl,gb,go,cap,h1,h2,h3,h4,h5.imp id fun e=>Nat.lt_of_lt_of_le e hB.size,fun j v hj=>?_⟩
 rcases h5 with h5 | h5
 ·rw[List.eq_nil_of_length_eq_zero h5] at hj;simp[flS] at hj
 ·exact(hB.cell (p:=⟨gb,go+j,none⟩) h5).trans (h6 j v hj)
theorem sh_row{u:World}{b m c:Nat}{l:List (Int×Int×Int)}{zs:List Value}(hb:b<u.heap.size)(h:CV u b (flS l++zs))(hm:l.length=m)(hc:m<=c):ShL u (.slice (some ⟨b,0,none⟩) m c) l:=by
 subst hm
 refine⟨_,b,0,c,rfl,hc,(by simp),.inr rfl,.inr hb,fun j v hj=>?_⟩
 rw[Nat.zero_add]
 exact(h j v (by rw[List.getElem?_append_left (List.getElem?_eq_some_iff.1 hj).1];exact hj)).1
theorem infoSh:(Tryz.prog.info? 35).map (fun i=>(i.zero,i.size,i.bytes))=some (some SZ,9,72):=by kernel_rfl
def opS(l:List (Int×Int×Int)):List (Int×Int):=l.map fun x=>(x.1,x.2.1)
def opT(l:List (Int×Int×Int)):List (Int×Int):=l.map fun x=>(x.1,x.2.2)
structure VOP(w:World):Prop where
 opn: ∀u,Bw w u-> ∀(p q g h:Int) (l:List (Int×Int×Int)) (v:Value) (vs:List Int),gOk p q->In p->In q->In g->In h->ShL u v l->1<=l.length->l.length<=16->(∀x∈l,(1<=x.1/\x.1<=16)/\In x.2.1/\In x.2.2)->Invs q (l.map (·.1)) vs->CC 25 #[GX p q g h,v] u (.tuple #[NV (smN q (fac q 0 (l.map (·.1)) vs) (opS l) l.length),NV (smN q (fac q 0 (l.map (·.1)) vs) (opT l) l.length),iI 0])
 nought: ∀u,Bw w u-> ∀(d:Int) (ns:List Int) (v:Value),NL u v ns->(∀z∈ns,In z)->ns.length<=7->CC 23 #[DX d v] u (.bool (noB ns))
theorem VOP.up{w u:World}(h:VOP w)(hB:Bw w u):VOP u:=⟨fun v hv=>h.opn v (Zg hB hv),fun v hv=>h.nought v (Zg hB hv)⟩
end
end Go.Proofs.YtmoimodkopjeeaaGreatDoor
