import Derived.Test.YtgieoghechekpaaGreatDoorAPF
import Derived.Test.YtgieoghechekpaaGreatDoorAPI
namespace Go.Proofs.YtgieoghechekpaaGreatDoor
set_option linter.unusedVariables false
set_option linter.unusedSimpArgs false
set_option maxRecDepth 100000
set_option maxHeartbeats 4000000
open Go.RowKit
def PSn(ns:List Int)(u:World)(v:Value):Prop:=NL u v ns
theorem PSn.stab{ns:List Int}{u u2:World}{x:Value}(hB:Bw u u2)(h:PSn ns u x):PSn ns u2 x:=NL.up h hB
def PQt(lo:Nat)(ps:List (Int×Int))(u:World)(v:Value):Prop:= ∃y,v= .tuple #[y,.int .i64 0]/\PRp lo ps u y
theorem PQt.stab{lo:Nat}{ps:List (Int×Int)}{u u2:World}{x:Value}(hB:Bw u u2)(h:PQt lo ps u x):PQt lo ps u2 x:=by
 obtain⟨y,e,h⟩:=h
 exact⟨y,e,h.stab hB⟩
theorem PQt.fst{lo:Nat}{ps:List (Int×Int)}: ∀(u:World) (v:Value),PQt lo ps u v-> ∃cs y,v= .tuple cs/\cs[0]?=some y/\PRp lo ps u y:=fun u v ⟨y,e,h⟩=>⟨_,y,e,rfl,h⟩
theorem PQt.snd{lo:Nat}{ps:List (Int×Int)}: ∀(u:World) (v:Value),PQt lo ps u v-> ∃cs,v= .tuple cs/\cs[1]?=some (.int .i64 0):=fun u v ⟨y,e,h⟩=>⟨_,e,rfl⟩
theorem PRp.lo{a b:Nat}{ps:List (Int×Int)}{u:World}{v:Value}(h:PRp b ps u v)(hab:a<=b):PRp a ps u v:=by
 obtain⟨x,e,h1,h2,h3⟩:=h
 exact⟨x,e,Nat.le_trans hab h1,h2,h3⟩
theorem PRp.six{lo:Nat}{ns xs:List Int}{u:World}{v:Value}{n:Nat}(h:PRp lo (pts OQ ns xs) u v)(hn:xs.length=n): ∃b,v= .slice (some ⟨b,0,none⟩) n n/\lo<=b/\b<u.heap.size/\CV u b (flN (flt (pts OQ ns xs))):=by
 obtain⟨b,e,h1⟩:=h
 rw[Xe,hn] at e
 exact⟨b,e,h1⟩
theorem pt_y{u:World}{b n c j:Nat}{ps:List (Int×Int)}(h:PtL u (.slice (some ⟨b,0,none⟩) n c) ps)(hj:j<ps.length):u.rangeAt b (8*j+4) (LN (ps.getD j (0,0)).2)/\b<u.heap.size:=by
 obtain⟨sl,gb,go,cap,e,h2,h3,h4,h5,h6⟩:=h
 cases e
 have h4:=h4.resolve_left (fun e=>by subst e;simp at hj)
 cases h4
 have:=h6.ptY j hj
 rw[Nat.zero_add] at this
 exact⟨this,h5.resolve_left (by omega)⟩
theorem Apart.okS{xs:List Int}(h:Apart xs): ∀x∈xs,0<=x/\x<=9223372036854775807:=fun x hx=>by have:=h.2 x hx;omega
theorem ptsS_In{ns out:List Int}(h:Apart out): ∀p∈pts OQ ns out,In p.1/\In p.2:=fun p hp=>by
 obtain⟨x,hx,rfl⟩:=List.mem_map.1 hp
 exact⟨h.In x hx,hoN_In In_OQ (by decide) _⟩
theorem Apart.take{xs:List Int}(h:Apart xs)(m:Nat):Apart (xs.take m):=⟨h.1.sublist (List.take_sublist m xs),fun x hx=>h.2 x (List.mem_of_mem_take hx)⟩
theorem Apart.mod{xs:List Int}(h:Apart xs): ∀i,i<xs.length-> ∀x∈xs.take i,x%OQ≠xs.getD i 0%OQ:=fun i hi x hx=>by
 have e:xs.getD i 0=xs[i]:=by simp[List.getElem?_eq_getElem hi]
 have b1:=h.2 _ (List.getElem_mem hi)
 have b2:=h.2 x (List.mem_of_mem_take hx)
 obtain⟨j,hj,rfl⟩:=List.mem_iff_getElem.1 hx
 rw[List.length_take] at hj
 rw[List.getElem_take] at b2⊢
 have hp:=List.pairwise_iff_getElem.1 h.1 j i (by omega) hi (by omega)
 rw[e]
 show xs[j]%581039633≠xs[i]%581039633
 omega
theorem cLineYes(ns out:List Int)(d:Nat)(v:Value)(w:World)(hG:GP w)(hap:Apart out)(hol:1<=out.length)(ho2:out.length<=20)(hd:ns.length<=d+1\/out.length<=d+1)(hd2:d<256)(hv:PtL w v (pts OQ ns out)):
 CC 24 #[NV OQ,.int .i64 (d:Int),v] w (.tuple #[.bool true,.int .i64 0]):=by
 have hl:=Xe OQ ns out
 have hf:=pts_fst OQ ns out
 obtain⟨vs,hvs⟩:=(hap.take (min (d+1) out.length)).invs
 refine cLine OQ d (min (d+1) out.length) vs (pts OQ ns out) v w true hG In_OQ (by decide) hd2 hv (ptsS_In hap) (by omega) (by omega) (by rw[hl]) (by rw[hf];exact hvs) (by rw[hf,hl];exact hap.mod) ⟨fun _ k hk1 hk2=>?_,fun _=>rfl⟩
 rw[hl] at hk2
 rw[hf,line_yes hvs ns (by omega) (by omega),pts_get hk2]
 have hr:=hoN_rng (q:=OQ) (by decide) (x:=out.getD k 0) (ns:=ns) ns.length
 exact(Int.emod_eq_of_lt hr.1 hr.2).symm
theorem Zu:EnT 7:=fun _ _=>by kernel_rfl
theorem ent_U1:EnT 10:=fun _ _=>by kernel_rfl
theorem ent_poly_Add:EnT 13:=fun _ _=>by kernel_rfl
theorem ent_poly_Line:EnT 24:=fun _ _=>by kernel_rfl
theorem polySums_core(s0 s1 sl:Option Addr)(L0_ c0_ L1_ c1_ L cap:Nat)(aa bs:List Int)(w:World)(hG:GP w)(hna: ∀z∈aa,In z)(hnb: ∀z∈bs,In z)(h12a:aa.length<=12)(h12b:bs.length<=12)(hW:Hid (∀u,Bw w u->CC 16 #[] u (.bool true)))(hFa:Hid (∀u,Bw w u->Calls Tryz.prog 7 #[.slice s0 L0_ c0_] u fun e u'=> ∃y,e= .returned y/\PSn aa u' y/\Bw u u'))(hFb:Hid (∀u,Bw w u->Calls Tryz.prog 7 #[.slice s1 L1_ c1_] u fun e u'=> ∃y,e= .returned y/\PSn bs u' y/\Bw u u'))(hAp:Hid (∀u,Bw w u->Calls Tryz.prog 17 #[.slice sl L cap,.int .i64 6] u fun e u'=> ∃y,e= .returned y/\PAp 6 u' y/\Bw u u')):
 CC 5 #[.slice s0 L0_ c0_,.slice s1 L1_ c1_,.slice sl L cap] w (.bool true):=by
 go_enter Tryz.func5,Tryz.ntmps5
 have HB0:Bw w w:=Below.refl _ _
 have K0_1:=Bk.nil (w.heap.size) w
 go_upto_region 1 with fail
 refine rgP K0_1 HB0 HB0.size [] [] [(0,21,.bool true),(1,22,.bool false)] [] [] [] ?_ ?_
 ·exact oc (g_cb Y9 (fun uZ bZ=>hW.out uZ bZ))<|oc (g_un (fun uZ=>not_t uZ)) on
 intro u1 HB1 sz1 K1
 simp only[sQ] at K1⊢
 clear HB0
 go_upto_region 3 with fail
 refine rgF K1 HB1 HB1.size [] [] [(0,23,.slice s0 L0_ c0_),(2,25,.slice s1 L1_ c1_)] [(4,0),(5,2)] [(4,0),(5,1)] [⟨1,24,some 4,PSn aa⟩,⟨3,26,some 5,PSn bs⟩,⟨4,0,none,PSn aa⟩,⟨5,1,none,PSn bs⟩] [] (.cons (fun _ _ _ h1 h2=>h2.stab h1)<| .cons (fun _ _ _ h1 h2=>h2.stab h1)<| .cons (fun _ _ _ h1 h2=>h2.stab h1)<| .cons (fun _ _ _ h1 h2=>h2.stab h1)<|Stab.nil) ?_ ?_
 ·exact oc g_mv<|oc (g_cE 0 (PSn aa) Zu (fun u hB hs=>hFa.out u hB))<|oc g_mv<|oc (g_cE 1 (PSn bs) Zu (fun u hB hs=>hFb.out u hB))<|oc (g_sE 0 2 (PSn aa))<|oc (g_sE 1 3 (PSn bs)) on
 intro u2 v2_1 hv2_1 v2_3 hv2_3 v2_4 hv2_4 v2_5 hv2_5 HB2 sz2 K2
 simp only[sQ] at K2⊢
 clear K1 HB1
 have ha0:=hv2_4 rfl
 have hb0:=hv2_5 rfl
 have na_0:NL u2 v2_4 aa:=ha0
 have nb_0:NL u2 v2_5 bs:=hb0
 obtain⟨sa,ga,oa,ca,rfl,_⟩:=ha0
 obtain⟨sb,gb,ob,cb,rfl,_⟩:=hb0
 have hT2:Bw w u2:=Z3 (Below.refl w.heap.size w) HB2
 have na_2:NL u2 (.slice sa aa.length ca) aa:=na_0
 have nb_2:NL u2 (.slice sb bs.length cb) bs:=nb_0
 have HBz2:Bw u2 u2:=Below.refl _ _
 by_cases hz:aa.length=0
 ·have hqa:(((aa.length:Nat):Int)==0)=true:=by rw[beq_iff_eq];omega
  clear hz
  have K2_2:=Bk.nil (u2.heap.size) u2
  go_upto_region 4 with fail
  refine rgP K2_2 HBz2 HBz2.size [] [] [(0,27,.slice sa aa.length ca),(1,28,.int .i64 (aa.length:Int)),(2,29,.bool true),(3,30,.bool true),(4,31,undef),(5,32,undef),(6,33,undef),(7,34,(Go.Value.bool Bool.true))] [] [] [] ?_ ?_
  ·exact oc g_mv<|oc (g_ln Tryz.underlying25)<|oc (g_bn (fun uZ=>eql_i _ _ _ (aa.length:Int) 0 _ uZ hqa))<|oc g_mv<|oc g_sk<|oc g_sk<|oc g_sk<|oc g_pk on
  intro u3 HB3 sz3 K3
  simp only[sQ] at K3⊢
  go_upto_region 5 with fail
  refine rgP K3 HB3 HB3.size [] [] [(0,6,(Go.Value.bool Bool.true))] [] [] [] ?_ ?_
  ·exact oc g_as on
  intro u4 HB4 sz4 K4
  simp only[sQ] at K4⊢
  clear K3 HB3
  go_wp2
  exact bodyPost_ret (v:= .bool true) (by simp[results,Tryz.results5,go_sem]) rfl ⟨rfl,Z3 hT2 HB4⟩
 ·have hqa:(((aa.length:Nat):Int)==0)=false:=by rw[beq_eq_false_iff_ne];omega
  have h1a:1<=aa.length:=by omega
  clear hz
  by_cases hz:bs.length=0
  ·have hqb:(((bs.length:Nat):Int)==0)=true:=by rw[beq_iff_eq];omega
   clear hz
   have K2_2:=Bk.nil (u2.heap.size) u2
   go_upto_region 4 with fail
   refine rgP K2_2 HBz2 HBz2.size [] [] [(0,27,.slice sa aa.length ca),(1,28,.int .i64 (aa.length:Int)),(2,29,.bool false),(3,30,.bool false),(4,31,.slice sb bs.length cb),(5,32,.int .i64 (bs.length:Int)),(6,33,.bool true),(7,34,.bool true)] [] [] [] ?_ ?_
   ·exact oc g_mv<|oc (g_ln Tryz.underlying25)<|oc (g_bn (fun uZ=>eql_i _ _ _ (aa.length:Int) 0 _ uZ hqa))<|oc g_mv<|oc g_mv<|oc (g_ln Tryz.underlying25)<|oc (g_bn (fun uZ=>eql_i _ _ _ (bs.length:Int) 0 _ uZ hqb))<|oc g_pk on
   intro u3 HB3 sz3 K3
   simp only[sQ] at K3⊢
   go_upto_region 5 with fail
   refine rgP K3 HB3 HB3.size [] [] [(0,6,(Go.Value.bool Bool.true))] [] [] [] ?_ ?_
   ·exact oc g_as on
   intro u4 HB4 sz4 K4
   simp only[sQ] at K4⊢
   clear K3 HB3
   go_wp2
   exact bodyPost_ret (v:= .bool true) (by simp[results,Tryz.results5,go_sem]) rfl ⟨rfl,Z3 hT2 HB4⟩
  ·have hqb:(((bs.length:Nat):Int)==0)=false:=by rw[beq_eq_false_iff_ne];omega
   have h1b:1<=bs.length:=by omega
   clear hz
   have K2_2:=Bk.nil (u2.heap.size) u2
   go_upto_region 4 with fail
   refine rgP K2_2 HBz2 HBz2.size [] [] [(0,27,.slice sa aa.length ca),(1,28,.int .i64 (aa.length:Int)),(2,29,.bool false),(3,30,.bool false),(4,31,.slice sb bs.length cb),(5,32,.int .i64 (bs.length:Int)),(6,33,.bool false),(7,34,.bool false)] [] [] [] ?_ ?_
   ·exact oc g_mv<|oc (g_ln Tryz.underlying25)<|oc (g_bn (fun uZ=>eql_i _ _ _ (aa.length:Int) 0 _ uZ hqa))<|oc g_mv<|oc g_mv<|oc (g_ln Tryz.underlying25)<|oc (g_bn (fun uZ=>eql_i _ _ _ (bs.length:Int) 0 _ uZ hqb))<|oc g_pk on
   intro u3 HB3 sz3 K3
   simp only[sQ] at K3⊢
   obtain⟨cs,ecs⟩: ∃cs,sAd OQ aa bs=cs:=⟨_,rfl⟩
   have hcl:cs.length=max aa.length bs.length:=by rw[<-ecs];exact sAd_len _ _ _
   have hcs: ∀z∈cs,In z:=by rw[<-ecs];intro z hz;obtain⟨i,_,rfl⟩:=List.mem_map.1 hz;exact Zd In_OQ (by decide)
   go_upto_region 6 with fail
   refine rgF K3 HB3 HB3.size [] [] [(0,36,NV 581039633),(1,37,.slice sa aa.length ca),(2,38,.slice sb bs.length cb),(6,41,.int .i64 0),(8,8,.int .i64 0)] [] [] [⟨3,39,none,PRt u3.heap.size cs⟩,⟨4,35,none,PRt u3.heap.size cs⟩,⟨5,40,some 7,PRw u3.heap.size cs⟩,⟨7,7,none,PRw u3.heap.size cs⟩] [] (.cons (fun _ _ _ h1 h2=>h2.stab h1)<| .cons (fun _ _ _ h1 h2=>h2.stab h1)<| .cons (fun _ _ _ h1 h2=>h2.stab h1)<| .cons (fun _ _ _ h1 h2=>h2.stab h1)<|Stab.nil) ?_ ?_
   ·exact oc (g_cl Z4 (fun uZ=>cOrder uZ))<|oc g_mv<|oc g_mv<|oc (g_cM 0 (PRt u3.heap.size cs) ent_poly_Add (fun f u kZ hs bZ=>((ecs▸cAddS OQ aa bs _ _ u ((hG.below hT2).below bZ) In_OQ (by decide) (na_2.up bZ) hna h1a (by omega) (nb_2.up bZ) hnb h1b (by omega))).mono fun e u2 ⟨v,e1,h1,h2⟩=>⟨_,e1,⟨v,rfl,h1.lo hs⟩,h2⟩))<|oc (g_mE 0 1 (PRt u3.heap.size cs))<|oc (g_xE 1 2 (PRt u3.heap.size cs) (PRw u3.heap.size cs) PRt.fst)<|oc (g_xV 1 (PRt u3.heap.size cs) PRt.snd)<|oc (g_sE 2 3 (PRw u3.heap.size cs))<|oc g_as on
   intro u4 v4_3 hv4_3 v4_4 hv4_4 v4_5 hv4_5 v4_7 hv4_7 HB4 sz4 K4
   simp only[sQ] at K4⊢
   clear K3 HB3
   have hc0:=hv4_7 rfl
   have nc_0:=hc0.nl
   obtain⟨bc,rfl,_⟩:=hc0
   have hT4:Bw w u4:=Z3 hT2 HB4
   have na_4:NL u4 (.slice sa aa.length ca) aa:=na_2.up HB4
   have nb_4:NL u4 (.slice sb bs.length cb) bs:=nb_2.up HB4
   have nc_4:NL u4 (.slice (some ⟨bc,0,none⟩) cs.length cs.length) cs:=nc_0
   have HBz4:Bw u4 u4:=Below.refl _ _
   have K4_3:=Bk.nil (u4.heap.size) u4
   go_upto_region 7 with fail
   refine rgF K4_3 HBz4 HBz4.size [] [] [(0,42,.slice sl L cap)] [] [] [⟨1,43,some 2,PAp 6⟩,⟨2,9,none,PAp 6⟩] [] (.cons (fun _ _ _ h1 h2=>h2.stab h1)<| .cons (fun _ _ _ h1 h2=>h2.stab h1)<|Stab.nil) ?_ ?_
   ·exact oc g_mv<|oc (g_cE 0 (PAp 6) Ya (fun u hB hs=>hAp.out u (Z3 hT4 hB)))<|oc (g_sE 0 1 (PAp 6)) on
   intro u5 v5_1 hv5_1 v5_2 hv5_2 HB5 sz5 K5
   simp only[sQ] at K5⊢
   obtain⟨out,ho,hap,hil⟩:=hv5_2 rfl
   have il_0:=hil
   obtain⟨si,gi,oi,ci,rfl,_⟩:=hil
   replace ho:Hid (out.length=6):=ho
   have hT5:Bw w u5:=Z3 hT4 HB5
   have na_5:NL u5 (.slice sa aa.length ca) aa:=na_4.up HB5
   have nb_5:NL u5 (.slice sb bs.length cb) bs:=nb_4.up HB5
   have nc_5:NL u5 (.slice (some ⟨bc,0,none⟩) cs.length cs.length) cs:=nc_4.up HB5
   have il_5:IL u5 (.slice si out.length ci) out:=il_0
   have HBz5:Bw u5 u5:=Below.refl _ _
   have K5_4:=Bk.nil (u5.heap.size) u5
   go_upto_region 8 with fail
   refine rgF K5_4 HBz5 HBz5.size [] [] [(0,45,NV 581039633),(1,46,.slice sa aa.length ca),(2,47,.slice si out.length ci),(6,50,.int .i64 0),(8,11,.int .i64 0)] [] [] [⟨3,48,none,PQt u5.heap.size (pts OQ aa out)⟩,⟨4,44,none,PQt u5.heap.size (pts OQ aa out)⟩,⟨5,49,some 7,PRp u5.heap.size (pts OQ aa out)⟩,⟨7,10,none,PRp u5.heap.size (pts OQ aa out)⟩] [] (.cons (fun _ _ _ h1 h2=>h2.stab h1)<| .cons (fun _ _ _ h1 h2=>h2.stab h1)<| .cons (fun _ _ _ h1 h2=>h2.stab h1)<| .cons (fun _ _ _ h1 h2=>h2.stab h1)<|Stab.nil) ?_ ?_
   ·exact oc (g_cl Z4 (fun uZ=>cOrder uZ))<|oc g_mv<|oc g_mv<|oc (g_cM 0 (PQt u5.heap.size (pts OQ aa out)) ent_U1 (fun f u kZ hs bZ=>(cPoints OQ aa out _ _ u ((hG.below hT5).below bZ) In_OQ (by decide) (na_5.up bZ) hna h1a (by omega) (il_5.up bZ) hap.okS (by rw[ho.out];omega)).mono fun e u2 ⟨v,e1,h1,h2⟩=>⟨_,e1,⟨v,rfl,h1.lo hs⟩,h2⟩))<|oc (g_mE 0 1 (PQt u5.heap.size (pts OQ aa out)))<|oc (g_xE 1 2 (PQt u5.heap.size (pts OQ aa out)) (PRp u5.heap.size (pts OQ aa out)) PQt.fst)<|oc (g_xV 1 (PQt u5.heap.size (pts OQ aa out)) PQt.snd)<|oc (g_sE 2 3 (PRp u5.heap.size (pts OQ aa out)))<|oc g_as on
   intro u6 v6_3 hv6_3 v6_4 hv6_4 v6_5 hv6_5 v6_7 hv6_7 HB6 sz6 K6
   simp only[sQ] at K6⊢
   have hpA:=hv6_7 rfl
   have hqA:=hpA.pl
   obtain⟨bA,rfl,_⟩:=hpA.six ho.out
   have hT6:Bw w u6:=Z3 hT5 HB6
   have na_6:NL u6 (.slice sa aa.length ca) aa:=na_5.up HB6
   have nb_6:NL u6 (.slice sb bs.length cb) bs:=nb_5.up HB6
   have nc_6:NL u6 (.slice (some ⟨bc,0,none⟩) cs.length cs.length) cs:=nc_5.up HB6
   have il_6:IL u6 (.slice si out.length ci) out:=il_5.up HB6
   have pA_6:PtL u6 (.slice (some ⟨bA,0,none⟩) 6 6) (pts OQ aa out):=hqA
   have HBz6:Bw u6 u6:=Below.refl _ _
   have K6_5:=Bk.nil (u6.heap.size) u6
   go_upto_region 9 with fail
   refine rgF K6_5 HBz6 HBz6.size [] [] [(0,52,NV 581039633),(1,53,.slice sb bs.length cb),(2,54,.slice si out.length ci),(6,57,.int .i64 0),(8,13,.int .i64 0)] [] [] [⟨3,55,none,PQt u6.heap.size (pts OQ bs out)⟩,⟨4,51,none,PQt u6.heap.size (pts OQ bs out)⟩,⟨5,56,some 7,PRp u6.heap.size (pts OQ bs out)⟩,⟨7,12,none,PRp u6.heap.size (pts OQ bs out)⟩] [] (.cons (fun _ _ _ h1 h2=>h2.stab h1)<| .cons (fun _ _ _ h1 h2=>h2.stab h1)<| .cons (fun _ _ _ h1 h2=>h2.stab h1)<| .cons (fun _ _ _ h1 h2=>h2.stab h1)<|Stab.nil) ?_ ?_
   ·exact oc (g_cl Z4 (fun uZ=>cOrder uZ))<|oc g_mv<|oc g_mv<|oc (g_cM 0 (PQt u6.heap.size (pts OQ bs out)) ent_U1 (fun f u kZ hs bZ=>(cPoints OQ bs out _ _ u ((hG.below hT6).below bZ) In_OQ (by decide) (nb_6.up bZ) hnb h1b (by omega) (il_6.up bZ) hap.okS (by rw[ho.out];omega)).mono fun e u2 ⟨v,e1,h1,h2⟩=>⟨_,e1,⟨v,rfl,h1.lo hs⟩,h2⟩))<|oc (g_mE 0 1 (PQt u6.heap.size (pts OQ bs out)))<|oc (g_xE 1 2 (PQt u6.heap.size (pts OQ bs out)) (PRp u6.heap.size (pts OQ bs out)) PQt.fst)<|oc (g_xV 1 (PQt u6.heap.size (pts OQ bs out)) PQt.snd)<|oc (g_sE 2 3 (PRp u6.heap.size (pts OQ bs out)))<|oc g_as on
   intro u7 v7_3 hv7_3 v7_4 hv7_4 v7_5 hv7_5 v7_7 hv7_7 HB7 sz7 K7
   simp only[sQ] at K7⊢
   have hpB:=hv7_7 rfl
   have hqB:=hpB.pl
   obtain⟨bB,rfl,_⟩:=hpB.six ho.out
   have hT7:Bw w u7:=Z3 hT6 HB7
   have na_7:NL u7 (.slice sa aa.length ca) aa:=na_6.up HB7
   have nb_7:NL u7 (.slice sb bs.length cb) bs:=nb_6.up HB7
   have nc_7:NL u7 (.slice (some ⟨bc,0,none⟩) cs.length cs.length) cs:=nc_6.up HB7
   have il_7:IL u7 (.slice si out.length ci) out:=il_6.up HB7
   have pA_7:PtL u7 (.slice (some ⟨bA,0,none⟩) 6 6) (pts OQ aa out):=pA_6.up HB7
   have pB_7:PtL u7 (.slice (some ⟨bB,0,none⟩) 6 6) (pts OQ bs out):=hqB
   have HBz7:Bw u7 u7:=Below.refl _ _
   have K7_6:=Bk.nil (u7.heap.size) u7
   go_upto_region 10 with fail
   refine rgF K7_6 HBz7 HBz7.size [] [] [(0,59,NV 581039633),(1,60,.slice (some ⟨bc,0,none⟩) cs.length cs.length),(2,61,.slice si out.length ci),(6,64,.int .i64 0),(8,15,.int .i64 0)] [] [] [⟨3,62,none,PQt u7.heap.size (pts OQ cs out)⟩,⟨4,58,none,PQt u7.heap.size (pts OQ cs out)⟩,⟨5,63,some 7,PRp u7.heap.size (pts OQ cs out)⟩,⟨7,14,none,PRp u7.heap.size (pts OQ cs out)⟩] [] (.cons (fun _ _ _ h1 h2=>h2.stab h1)<| .cons (fun _ _ _ h1 h2=>h2.stab h1)<| .cons (fun _ _ _ h1 h2=>h2.stab h1)<| .cons (fun _ _ _ h1 h2=>h2.stab h1)<|Stab.nil) ?_ ?_
   ·exact oc (g_cl Z4 (fun uZ=>cOrder uZ))<|oc g_mv<|oc g_mv<|oc (g_cM 0 (PQt u7.heap.size (pts OQ cs out)) ent_U1 (fun f u kZ hs bZ=>(cPoints OQ cs out _ _ u ((hG.below hT7).below bZ) In_OQ (by decide) (nc_7.up bZ) hcs (by omega) (by omega) (il_7.up bZ) hap.okS (by rw[ho.out];omega)).mono fun e u2 ⟨v,e1,h1,h2⟩=>⟨_,e1,⟨v,rfl,h1.lo hs⟩,h2⟩))<|oc (g_mE 0 1 (PQt u7.heap.size (pts OQ cs out)))<|oc (g_xE 1 2 (PQt u7.heap.size (pts OQ cs out)) (PRp u7.heap.size (pts OQ cs out)) PQt.fst)<|oc (g_xV 1 (PQt u7.heap.size (pts OQ cs out)) PQt.snd)<|oc (g_sE 2 3 (PRp u7.heap.size (pts OQ cs out)))<|oc g_as on
   intro u8 v8_3 hv8_3 v8_4 hv8_4 v8_5 hv8_5 v8_7 hv8_7 HB8 sz8 K8
   simp only[sQ] at K8⊢
   have hpC:=hv8_7 rfl
   have hqC:=hpC.pl
   obtain⟨bC,rfl,_⟩:=hpC.six ho.out
   have hT8:Bw w u8:=Z3 hT7 HB8
   have na_8:NL u8 (.slice sa aa.length ca) aa:=na_7.up HB8
   have nb_8:NL u8 (.slice sb bs.length cb) bs:=nb_7.up HB8
   have nc_8:NL u8 (.slice (some ⟨bc,0,none⟩) cs.length cs.length) cs:=nc_7.up HB8
   have il_8:IL u8 (.slice si out.length ci) out:=il_7.up HB8
   have pA_8:PtL u8 (.slice (some ⟨bA,0,none⟩) 6 6) (pts OQ aa out):=pA_7.up HB8
   have pB_8:PtL u8 (.slice (some ⟨bB,0,none⟩) 6 6) (pts OQ bs out):=pB_7.up HB8
   have pC_8:PtL u8 (.slice (some ⟨bC,0,none⟩) 6 6) (pts OQ cs out):=hqC
   have HBz8:Bw u8 u8:=Below.refl _ _
   have K8_7:=Bk.nil (u8.heap.size) u8
   go_upto_region 11 with fail
   refine rgP K8_7 HBz8 HBz8.size [] [] [(0,65,.int .i64 0),(1,66,.bool false),(2,67,.bool false),(3,68,.int .i64 0),(4,69,.bool false),(5,70,.bool false),(6,71,.bool false),(7,72,.slice (some ⟨bA,0,none⟩) 6 6),(8,73,.int .i64 6),(9,74,.bool false),(10,75,.bool false),(11,76,.bool false),(12,77,.slice (some ⟨bB,0,none⟩) 6 6),(13,78,.int .i64 6),(14,79,.bool false),(15,80,.bool false),(16,81,.bool false),(17,82,.slice (some ⟨bC,0,none⟩) 6 6),(18,83,.int .i64 6),(19,84,.bool false),(20,85,.bool false)] [] [] [] ?_ ?_
   ·exact oc g_mv<|oc (g_bn (fun uZ=>neq_i _ _ _ 0 0 _ uZ rfl))<|oc g_mv<|oc g_mv<|oc (g_bn (fun uZ=>neq_i _ _ _ 0 0 _ uZ rfl))<|oc g_pk<|oc g_mv<|oc g_mv<|oc (g_ln Tryz.underlying31)<|oc (g_bn (fun uZ=>neq_i _ _ _ 6 6 _ uZ rfl))<|oc g_pk<|oc g_mv<|oc g_mv<|oc (g_ln Tryz.underlying31)<|oc (g_bn (fun uZ=>neq_i _ _ _ 6 6 _ uZ rfl))<|oc g_pk<|oc g_mv<|oc g_mv<|oc (g_ln Tryz.underlying31)<|oc (g_bn (fun uZ=>neq_i _ _ _ 6 6 _ uZ rfl))<|oc g_pk on
   intro u9 HB9 sz9 K9
   simp only[sQ] at K9⊢
   go_upto_region 13 with fail
   refine rgP K9 HB9 HB9.size [] [] [(0,16,(Go.Value.int Go.IntKind.i64 0))] [] [] [] ?_ ?_
   ·exact oc g_as on
   intro u10 HB10 sz10 K10
   simp only[sQ] at K10⊢
   clear K9 HB9
   have hEnd:Hid (Bw w u8):=hT8
   go_wp2_with fail
   go_loopw [16] (fun s16 wr=> ∃j:Nat,j<=6/\s16= .int .i64 (j:Int)/\Bw u8 wr) (fun s16 _=>6 -(intOf s16).toNat)
   case atStart=>exact⟨0,by omega,rfl,HB10⟩
   case round=>
    obtain⟨j,hj6,rfl,HBs⟩:=hrel
    by_cases hj:j<6
    ·have hl:decide ((j:Int)<6)=true:=by simp;omega
     have hjo:j<out.length:=by rw[ho.out];exact hj
     obtain⟨hRa,hga⟩:=pt_y pA_8 (j:=j) (by rw[Xe];exact hjo)
     obtain⟨hRb,hgb⟩:=pt_y pB_8 (j:=j) (by rw[Xe];exact hjo)
     obtain⟨hRc,hgc⟩:=pt_y pC_8 (j:=j) (by rw[Xe];exact hjo)
     rw[pts_get hjo] at hRa hRb hRc
     have hsum:(hoN OQ (out.getD j 0) aa aa.length+hoN OQ (out.getD j 0) bs bs.length)%OQ=hoN OQ (out.getD j 0) cs cs.length:=by rw[<-ecs];exact hoN_sAd 581039633 aa bs (out.getD j 0)
     have ix:=hoN_In (x:=out.getD j 0) (ns:=aa) In_OQ (by decide) aa.length
     have iy:=hoN_In (x:=out.getD j 0) (ns:=bs) In_OQ (by decide) bs.length
     have iz:=hoN_In (x:=out.getD j 0) (ns:=cs) In_OQ (by decide) cs.length
     obtain⟨x,ex⟩: ∃x,hoN OQ (out.getD j 0) aa aa.length=x:=⟨_,rfl⟩
     obtain⟨y,ey⟩: ∃x,hoN OQ (out.getD j 0) bs bs.length=x:=⟨_,rfl⟩
     obtain⟨z,ez⟩: ∃x,hoN OQ (out.getD j 0) cs cs.length=x:=⟨_,rfl⟩
     rw[ex] at hRa hsum ix
     rw[ey] at hRb hsum iy
     rw[ez] at hRc hsum iz
     clear ex ey ez
     have hRa:Hid _:=hRa
     have hRb:Hid _:=hRb
     have hRc:Hid _:=hRc
     have hAd:Hid (∀u,CC 23 #[NV x,NV y,NV 581039633] u (.tuple #[NV z,.int .i64 0])):=fun u=>by have h:=xAdd x y OQ u ix iy In_OQ (by decide);rw[hsum] at h;exact h
     have K10_8:=Bk.nil (u8.heap.size) wr
     go_upto_region 14 with fail
     refine rgP K10_8 HBs HBs.size [] [] [(0,86,.int .i64 (j:Int)),(1,87,.bool true)] [] [] [] ?_ ?_
     ·exact oc g_mv<|oc (g_bn (fun uZ=>Zc _ _ (j:Int) 6 _ uZ hl)) on
     intro u11 HB11 sz11 K11
     simp only[sQ] at K11⊢
     go_upto_region 16 with fail
     refine rgD K11 HB11 HB11.size [] [(15,17,L0s,some (16,LN z))] [(0,91,.slice (some ⟨bA,0,none⟩) 6 6),(1,92,.int .i64 (j:Int)),(2,93,.pointer (some ⟨bA,8*j,none⟩)),(3,94,.pointer (some ⟨bA,8*j+4,none⟩)),(4,95,NV x),(5,96,.slice (some ⟨bB,0,none⟩) 6 6),(6,97,.int .i64 (j:Int)),(7,98,.pointer (some ⟨bB,8*j,none⟩)),(8,99,.pointer (some ⟨bB,8*j+4,none⟩)),(9,100,NV y),(10,101,NV 581039633),(11,102,.tuple #[NV z,.int .i64 0]),(12,90,.tuple #[NV z,.int .i64 0]),(13,103,NV z),(14,104,.int .i64 0),(17,18,.int .i64 0)] [(16,15)] [] [] ?_ ?_
     ·exact oc g_mv<|oc g_mv<|oc (g_ix (fun uZ=>ixPZ _ _ _ j hj uZ))<|oc (g_fd (fun uZ=>fdP1 _ _ uZ))<|oc (g_lf hRa.out hga uN iN)<|oc g_mv<|oc g_mv<|oc (g_ix (fun uZ=>ixPZ _ _ _ j hj uZ))<|oc (g_fd (fun uZ=>fdP1 _ _ uZ))<|oc (g_lf hRb.out hgb uN iN)<|oc (g_cl Z4 (fun uZ=>cOrder uZ))<|oc (g_cl Yk (fun uZ=>hAd.out uZ))<|oc g_mv<|oc g_ex<|oc g_ex<|oc (g_al 0 aN)<|oc (g_sn 0 iN)<|oc g_as on
     intro u12 b12_15 HB12 sz12 K12
     simp only[sQ] at K12⊢
     clear K11 HB11
     go_upto_region 17 with fail
     refine rgD K12 HB12 HB12.size [] [] [(0,105,NV z),(1,106,.slice (some ⟨bC,0,none⟩) 6 6),(2,107,.int .i64 (j:Int)),(3,108,.pointer (some ⟨bC,8*j,none⟩)),(4,109,.pointer (some ⟨bC,8*j+4,none⟩)),(5,110,NV z),(6,111,.bool false)] [] [] [] ?_ ?_
     ·exact oc (g_ld 0 uN iN)<|oc g_mv<|oc g_mv<|oc (g_ix (fun uZ=>ixPZ _ _ _ j hj uZ))<|oc (g_fd (fun uZ=>fdP1 _ _ uZ))<|oc (g_lf hRc.out hgc uN iN)<|oc (g_bn (fun uZ=>neq_n _ _ iz iz false (by simp) uZ)) on
     intro u13 HB13 sz13 K13
     simp only[sQ] at K13⊢
     clear K12 HB12
     go_upto_region 15 with fail
     refine rgP K13 HB13 HB13.size [] [] [(0,88,.int .i64 (j:Int)),(1,89,.int .i64 ((j+1:Nat):Int)),(2,16,.int .i64 ((j+1:Nat):Int))] [(2,0)] [(2,16)] [] ?_ ?_
     ·exact oc g_mv<|oc (g_bn (fun uZ=>Yt _ _ (j:Int) 1 ((j+1:Nat):Int) uZ (by omega) (by omega) (by omega)))<|oc g_as on
     intro u14 HB14 sz14 K14
     simp only[sQ] at K14⊢
     clear K13 HB13
     go_wp2
     refine⟨⟨j+1,by omega,rfl,HB14⟩,?_⟩
     simp[intOf]<;>omega
    ·have hl:decide ((j:Int)<6)=false:=by simp;omega
     obtain⟨d,hd⟩: ∃d,cs.length=d+1:=⟨cs.length -1,by omega⟩
     have hmx:max (aa.length:Int) (bs.length:Int)=((d+1:Nat):Int):=by omega
     have hdl:d<256:=by omega
     have K10_8:=Bk.nil (u8.heap.size) wr
     go_upto_region 14 with fail
     refine rgP K10_8 HBs HBs.size [] [] [(0,86,.int .i64 (j:Int)),(1,87,.bool false)] [] [] [] ?_ ?_
     ·exact oc g_mv<|oc (g_bn (fun uZ=>Zc _ _ (j:Int) 6 _ uZ hl)) on
     intro u11 HB11 sz11 K11
     simp only[sQ] at K11⊢
     go_upto_region 19 with fail
     refine rgP K11 HB11 HB11.size [] [] [(0,113,NV 581039633),(1,114,.slice sa aa.length ca),(2,115,.int .i64 (aa.length:Int)),(3,116,.slice sb bs.length cb),(4,117,.int .i64 (bs.length:Int)),(5,118,.int .i64 ((d+1:Nat):Int)),(6,119,.int .i64 (d:Int)),(7,120,.slice (some ⟨bC,0,none⟩) 6 6),(8,121,.tuple #[.bool true,.int .i64 0]),(9,112,.tuple #[.bool true,.int .i64 0]),(10,122,.bool true),(11,123,.int .i64 0),(12,19,.bool true),(13,20,.int .i64 0)] [] [] [] ?_ ?_
     ·exact oc (g_cl Z4 (fun uZ=>cOrder uZ))<|oc g_mv<|oc (g_ln Tryz.underlying25)<|oc g_mv<|oc (g_ln Tryz.underlying25)<|oc (g_mx hmx)<|oc (g_bn (fun uZ=>sub_i _ _ ((d+1:Nat):Int) 1 (d:Int) uZ (by omega) (by omega) (by omega)))<|oc g_mv<|oc (g_cb ent_poly_Line (fun uZ bZ=>cLineYes cs out d _ uZ ((hG.below hEnd.out).below bZ) hap (by rw[ho.out];omega) (by rw[ho.out];omega) (.inl (by omega)) hdl (pC_8.up bZ)))<|oc g_mv<|oc g_ex<|oc g_ex<|oc g_as<|oc g_as on
     intro u12 HB12 sz12 K12
     simp only[sQ] at K12⊢
     clear K11 HB11
     go_upto_region 20 with fail
     refine rgP K12 HB12 HB12.size [] [] [(0,124,.bool true),(1,125,.bool true),(2,126,.int .i64 0),(3,127,.bool true),(4,128,.bool true),(5,6,.bool true)] [] [] [] ?_ ?_
     ·exact oc g_mv<|oc g_mv<|oc g_mv<|oc (g_bn (fun uZ=>eql_i _ _ _ 0 0 _ uZ rfl))<|oc g_pk<|oc g_as on
     intro u13 HB13 sz13 K13
     simp only[sQ] at K13⊢
     clear K12 HB12
     go_wp2
     exact bodyPost_ret (v:= .bool true) (by simp[results,Tryz.results5,go_sem]) rfl ⟨rfl,Z3 hEnd.out HB13⟩
theorem cFewU(sl:Option Addr)(len cap gb go:Nat)(ns:List Int)(w:World)(n1:min len 12=ns.length)(n2:len<=cap)(n3:sl=none->cap=0)(n4:cap=0\/sl=some ⟨gb,go,none⟩)(n5:ns.length=0\/gb<w.heap.size)(n6:SN w gb go ns): ∀u,Bw w u->Calls Tryz.prog 7 #[.slice sl len cap] u fun e u'=> ∃y,e= .returned y/\PSn ns u' y/\Bw u u':=fun u hB=>
 few_core sl len cap ns.length gb go ns u (by omega) rfl (by omega) n2 n3 (by omega) (n4.imp (fun e=>by omega) id) (n5.imp id fun e=>Nat.lt_of_lt_of_le e hB.size) (n6.below2 hB n5)
theorem polySums_any(s0 s1 sl:Option Addr)(L0_ c0_ g0 o0 L1_ c1_ g1 o1 L cap gl ol:Nat)(f:Nat->Int)(aa bs:List Int)(w:World)(hG:GP w)(hna: ∀z∈aa,In z)(n1:min L0_ 12=aa.length)(n2:L0_<=c0_)(n3:s0=none->c0_=0)(n4:c0_=0\/s0=some ⟨g0,o0,none⟩)(n5:aa.length=0\/g0<w.heap.size)(n6:SN w g0 o0 aa)(hnb: ∀z∈bs,In z)(m1:min L1_ 12=bs.length)(m2:L1_<=c1_)(m3:s1=none->c1_=0)(m4:c1_=0\/s1=some ⟨g1,o1,none⟩)(m5:bs.length=0\/g1<w.heap.size)(m6:SN w g1 o1 bs)(hL:L<=9223372036854775807)(hsl:0<L->sl=some ⟨gl,ol,none⟩/\gl<w.heap.size)(hc: ∀j,j<L->w.cell? ⟨gl,ol+j,none⟩=some (.int .i64 (f j)))(hf: ∀j,j<L-> -9223372036854775808<=f j/\f j<9223372036854775808):
 CC 5 #[.slice s0 L0_ c0_,.slice s1 L1_ c1_,.slice sl L cap] w (.bool true):=
 polySums_core s0 s1 sl L0_ c0_ L1_ c1_ L cap aa bs w hG hna hnb (by omega) (by omega) (fun u hB=>cWorks u (hG.below hB)) (cFewU s0 L0_ c0_ g0 o0 aa w n1 n2 n3 n4 n5 n6) (cFewU s1 L1_ c1_ g1 o1 bs w m1 m2 m3 m4 m5 m6) (cApart sl L cap gl ol 6 f w (by omega) hL hsl hc hf)
end Go.Proofs.YtgieoghechekpaaGreatDoor
