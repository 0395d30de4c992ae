import Derived.Test.YtgieoghechekpaaGreatDoorAPF
import Derived.Test.YtgieoghechekpaaGreatDoorAPI
namespace Go.Proofs.YtgieoghechekpaaGreatDoor
set_option linter.unusedVariables false
set_option linter.unusedSimpArgs false
set_option maxRecDepth 100000
set_option maxHeartbeats 4000000
open Go.RowKit
def PSn(ns:List Int)(u:World)(v:Value):Prop:=NL u v ns
theorem PSn.stab{ns:List Int}{u u2:World}{x:Value}(hB:Bw u u2)(h:PSn ns u x):PSn ns u2 x:=NL.up h hB
def PQt(lo:Nat)(ps:List (Int×Int))(u:World)(v:Value):Prop:= ∃y,v= .tuple #[y,.int .i64 0]/\PRp lo ps u y
theorem PQt.stab{lo:Nat}{ps:List (Int×Int)}{u u2:World}{x:Value}(hB:Bw u u2)(h:PQt lo ps u x):PQt lo ps u2 x:=by
 obtain⟨y,e,h⟩:=h
 exact⟨y,e,h.stab hB⟩
theorem PQt.fst{lo:Nat}{ps:List (Int×Int)}: ∀(u:World) (v:Value),PQt lo ps u v-> ∃cs y,v= .tuple cs/\cs[0]?=some y/\PRp lo ps u y:=fun u v ⟨y,e,h⟩=>⟨_,y,e,rfl,h⟩
theorem PQt.snd{lo:Nat}{ps:List (Int×Int)}: ∀(u:World) (v:Value),PQt lo ps u v-> ∃cs,v= .tuple cs/\cs[1]?=some (.int .i64 0):=fun u v ⟨y,e,h⟩=>⟨_,e,rfl⟩
theorem PRp.lo{a b:Nat}{ps:List (Int×Int)}{u:World}{v:Value}(h:PRp b ps u v)(hab:a<=b):PRp a ps u v:=by
 obtain⟨x,e,h1,h2,h3⟩:=h
 exact⟨x,e,Nat.le_trans hab h1,h2,h3⟩
theorem PRp.six{lo:Nat}{ns xs:List Int}{u:World}{v:Value}{n:Nat}(h:PRp lo (pts OQ ns xs) u v)(hn:xs.length=n): ∃b,v= .slice (some ⟨b,0,none⟩) n n/\lo<=b/\b<u.heap.size/\CV u b (flN (flt (pts OQ ns xs))):=by
 obtain⟨b,e,h1⟩:=h
 rw[pts_len,hn] at e
 exact⟨b,e,h1⟩
theorem Apart.okS{xs:List Int}(h:Apart xs): ∀x∈xs,0<=x/\x<=9223372036854775807:=fun x hx=>by have:=h.2 x hx;omega
theorem ptsS_In{ns out:List Int}(h:Apart out): ∀p∈pts OQ ns out,In p.1/\In p.2:=fun p hp=>by
 obtain⟨x,hx,rfl⟩:=List.mem_map.1 hp
 exact⟨h.In x hx,hoN_In In_OQ (by decide) _⟩
theorem Apart.take{xs:List Int}(h:Apart xs)(m:Nat):Apart (xs.take m):=⟨h.1.sublist (List.take_sublist m xs),fun x hx=>h.2 x (List.mem_of_mem_take hx)⟩
theorem Apart.mod{xs:List Int}(h:Apart xs): ∀i,i<xs.length-> ∀x∈xs.take i,x%OQ≠xs.getD i 0%OQ:=fun i hi x hx=>by
 have e:xs.getD i 0=xs[i]:=by simp[List.getElem?_eq_getElem hi]
 have b1:=h.2 _ (List.getElem_mem hi)
 have b2:=h.2 x (List.mem_of_mem_take hx)
 obtain⟨j,hj,rfl⟩:=List.mem_iff_getElem.1 hx
 rw[List.length_take] at hj
 rw[List.getElem_take] at b2⊢
 have hp:=List.pairwise_iff_getElem.1 h.1 j i (by omega) hi (by omega)
 rw[e]
 show xs[j]%581039633≠xs[i]%581039633
 omega
theorem cLineYes(ns out:List Int)(d:Nat)(v:Value)(w:World)(hG:GP w)(hap:Apart out)(hol:1<=out.length)(ho2:out.length<=20)(hd:ns.length<=d+1\/out.length<=d+1)(hd2:d<256)(hv:PtL w v (pts OQ ns out)):
 CC 24 #[NV OQ,.int .i64 (d:Int),v] w (.tuple #[.bool true,.int .i64 0]):=by
 have hl:=pts_len OQ ns out
 have hf:=pts_fst OQ ns out
 obtain⟨vs,hvs⟩:=(hap.take (min (d+1) out.length)).invs
 refine cLine OQ d (min (d+1) out.length) vs (pts OQ ns out) v w true hG In_OQ (by decide) hd2 hv (ptsS_In hap) (by omega) (by omega) (by rw[hl]) (by rw[hf];exact hvs) (by rw[hf,hl];exact hap.mod) ⟨fun _ k hk1 hk2=>?_,fun _=>rfl⟩
 rw[hl] at hk2
 rw[hf,line_yes hvs ns (by omega) (by omega),Zz hk2]
 have hr:=hoN_rng (q:=OQ) (by decide) (x:=out.getD k 0) (ns:=ns) ns.length
 exact(Int.emod_eq_of_lt hr.1 hr.2).symm
theorem Yj:EnT 7:=fun _ _=>by kernel_rfl
theorem ent_U1:EnT 10:=fun _ _=>by kernel_rfl
theorem X2:EnT 24:=fun _ _=>by kernel_rfl
theorem cFewU(sl:Option Addr)(len cap gb go:Nat)(ns:List Int)(w:World)(n1:min len 12=ns.length)(n2:len<=cap)(n3:sl=none->cap=0)(n4:cap=0\/sl=some ⟨gb,go,none⟩)(n5:ns.length=0\/gb<w.heap.size)(n6:SN w gb go ns): ∀u,Bw w u->Calls Tryz.prog 7 #[.slice sl len cap] u fun e u'=> ∃y,e= .returned y/\PSn ns u' y/\Bw u u':=fun u hB=>
 few_core sl len cap ns.length gb go ns u (by omega) rfl (by omega) n2 n3 (by omega) (n4.imp (fun e=>by omega) id) (n5.imp id fun e=>Nat.lt_of_lt_of_le e hB.size) (n6.below2 hB n5)
theorem bdNt(b:Int)(h0:0<=b)(h1:b<18446744073709551616)(w:World):(Instr.build 24 [(0,.int .u64 b)].toArray).run Tryz.prog w= .ok (NV b) w:=by
 rw[X9 h0 h1];kernel_rfl
theorem eqlTb(p q:Operand)(x:Bool)(w:World):(do eqGuard .eql 4 p q (.bool x) (.bool x);binOp .eql 4 (.bool x) (.bool x):Sem Value).run Tryz.prog w= .ok (.bool true) w:=by cases x<;>go_simp
def PUp(lo N:Nat)(ns:List Int)(u:World)(v:Value):Prop:= ∃out:List Int,out.length=N/\Apart out/\ ∃b,v= .slice (some ⟨b,0,none⟩) N N/\lo<=b/\b<u.heap.size/\CV u b (flN (flt (pts OQ ns out)))
theorem PUp.stab{lo N:Nat}{ns:List Int}{u u2:World}{x:Value}(hB:Bw u u2)(h:PUp lo N ns u x):PUp lo N ns u2 x:=by
 obtain⟨out,h1,h2,b,e,h3,h4,h5⟩:=h
 exact⟨out,h1,h2,b,e,h3,Nat.lt_of_lt_of_le h4 hB.size,h5.below hB h4⟩
def PUt(lo N:Nat)(ns:List Int)(u:World)(v:Value):Prop:= ∃y,v= .tuple #[y,.int .i64 0]/\PUp lo N ns u y
theorem PUt.stab{lo N:Nat}{ns:List Int}{u u2:World}{x:Value}(hB:Bw u u2)(h:PUt lo N ns u x):PUt lo N ns u2 x:=by
 obtain⟨y,e,h⟩:=h
 exact⟨y,e,h.stab hB⟩
theorem pl_new{u:World}{b n:Nat}{ps:List (Int×Int)}(hb:b<u.heap.size)(h:CV u b (flN (flt ps)))(hn:ps.length=n):PtL u (.slice (some ⟨b,0,none⟩) n n) ps:=by
 subst hn
 exact⟨_,b,0,_,rfl,Nat.le_refl _,(by simp),.inr rfl,.inr hb,fun j v hj=>by rw[Nat.zero_add];exact(h j v hj).1⟩
theorem flt_y{ps:List (Int×Int)}{k:Nat}(h:k<ps.length)(z:Int):flN (flt (ps.set k ((ps.getD k (0,0)).1,z)))=(flN (flt (ps.take k))++LN (ps.getD k (0,0)).1)++LN z++flN (flt (ps.drop (k+1))):=by
 have hl:k<(ps.set k ((ps.getD k (0,0)).1,z)).length:=by rw[List.length_set];exact h
 rw[flt_at _ k hl,List.take_set,List.set_eq_of_length_le (by rw[List.length_take];omega),List.drop_set_of_lt (by omega)]
 have e:(ps.set k ((ps.getD k (0,0)).1,z)).getD k (0,0)=((ps.getD k (0,0)).1,z):=by
  rw[List.getD_eq_getElem?_getD,List.getElem?_set_self h];rfl
 rw[e]
 show _++(LN _++LN _)++_=_
 simp only[List.append_assoc]
theorem flt_s{ps:List (Int×Int)}{k:Nat}(h:k<ps.length):flN (flt ps)=(flN (flt (ps.take k))++LN (ps.getD k (0,0)).1)++LN (ps.getD k (0,0)).2++flN (flt (ps.drop (k+1))):=by
 rw[flt_at ps k h]
 show _++(LN _++LN _)++_=_
 simp only[List.append_assoc]
theorem flt_sl{ps:List (Int×Int)}{k:Nat}(h:k<ps.length):(flN (flt (ps.take k))++LN (ps.getD k (0,0)).1).length=8*k+4:=by
 rw[List.length_append,flt_pre (by omega)];rfl
theorem cLineTurned(ns out:List Int)(n k:Nat)(b:Int)(v:Value)(w:World)(hG:GP w)(hap:Apart out)(hol:out.length=n+1)(hn:ns.length=n)(h1:1<=n)(h2:n<=12)(hk:k<=n)(rb:Bool)(hrb:decide (b%OQ=0)=rb)(hv:PtL w v ((pts OQ ns out).set k (((pts OQ ns out).getD k (0,0)).1,(hoN OQ (out.getD k 0) ns ns.length+b)%OQ))):
 CC 24 #[NV OQ,.int .i64 ((n -1:Nat):Int),v] w (.tuple #[.bool rb,.int .i64 0]):=by
 have hl:=pts_len OQ ns out
 have hko:k<out.length:=by omega
 obtain⟨vs,hvs⟩:=(hap.take n).invs
 obtain⟨ps,eps⟩: ∃ps,(pts OQ ns out).set k (((pts OQ ns out).getD k (0,0)).1,(hoN OQ (out.getD k 0) ns ns.length+b)%OQ)=ps:=⟨_,rfl⟩
 have e0:ps.length=n+1:=by rw[<-eps,List.length_set];omega
 have e1:ps.getD k (0,0)=(out.getD k 0,(hoN OQ (out.getD k 0) ns ns.length+b)%OQ):=by
  rw[<-eps,List.getD_eq_getElem?_getD,List.getElem?_set_self (by omega),Zz hko];rfl
 have e2: ∀i,i≠k->ps.getD i (0,0)=(pts OQ ns out).getD i (0,0):=fun i hi=>by
  rw[<-eps,List.getD_eq_getElem?_getD,List.getElem?_set_ne (by omega),List.getD_eq_getElem?_getD]
 have e3: ∀i,i<out.length->ps.getD i (0,0)=(out.getD i 0,(ps.getD i (0,0)).2):=fun i hi=>by
  by_cases h:i=k
  ·subst h;rw[e1]
  ·rw[e2 i h,Zz hi]
 have hf:ps.map Prod.fst=out:=List.ext_getElem (by rw[List.length_map];omega) fun i h3 h4=>by
  have:=congrArg Prod.fst (e3 i h4)
  rw[List.length_map] at h3
  simpa [List.getElem?_eq_getElem h3,List.getElem?_eq_getElem h4] using this
 rw[eps] at hv
 refine cLine OQ (n -1) n vs ps v w rb hG In_OQ (by decide) (by omega) hv (fun p hp=>?_) (by omega) (by omega) (by omega) (by rw[hf];exact hvs) (by rw[hf,e0,<-hol];exact hap.mod) ?_
 ·obtain⟨i,hi,rfl⟩:=List.mem_iff_getElem.1 hp
  have e4:ps[i]=ps.getD i (0,0):=by simp[List.getElem?_eq_getElem hi]
  rw[e4,e3 i (by omega)]
  refine⟨hap.In _ (by simp[List.getElem?_eq_getElem (show i<out.length by omega)]),?_⟩
  by_cases h:i=k
  ·subst h;rw[e1];exact Zd In_OQ (by decide)
  ·rw[e2 i h,Zz (by omega)];exact hoN_In In_OQ (by decide) _
 ·have ht:=turned_iff hap hol hn hvs hk e2 e1
  rw[<-hrb,decide_eq_true_iff,<-ht,hf]
  constructor
  ·intro h j hj1 hj2
   obtain rfl:j=n:=by omega
   rw[congrArg Prod.fst (e3 j (by omega))]
   exact h
  ·intro h
   have h:=h n (Nat.le_refl _) (by omega)
   rw[congrArg Prod.fst (e3 n (by omega))] at h
   exact h
theorem polyTurned_core(wh bb:Int)(s0 sl:Option Addr)(L0_ c0_ L cap k:Nat)(ns:List Int)(rb:Bool)(w:World)(hG:GP w)(hns: ∀z∈ns,In z)(h12:ns.length<=12)(hb0:0<=bb)(hb1:bb<18446744073709551616)(ibb:In bb)(iwb:InW bb)(hrb:decide (bb%OQ=0)=rb)(hkl:ns.length=0\/k<=ns.length)(hW:Hid (∀u,Bw w u->CC 16 #[] u (.bool true)))(hFw:Hid (∀u,Bw w u->Calls Tryz.prog 7 #[.slice s0 L0_ c0_] u fun e u'=> ∃y,e= .returned y/\PSn ns u' y/\Bw u u'))(hA:Hid (∀u,CC 18 #[.int .i64 wh,.int .i64 ((ns.length+1:Nat):Int)] u (.int .i64 (k:Int))))(hAp:Hid (∀u,Bw w u->Calls Tryz.prog 17 #[.slice sl L cap,.int .i64 ((ns.length+1:Nat):Int)] u fun e u'=> ∃y,e= .returned y/\PAp (ns.length+1) u' y/\Bw u u')):
 CC 6 #[.slice s0 L0_ c0_,.slice sl L cap,.int .i64 wh,.int .u64 bb] w (.bool true):=by
 go_enter Tryz.func6,Tryz.ntmps6
 have HB0:Bw w w:=Below.refl _ _
 have K0_1:=Bk.nil (w.heap.size) w
 go_upto_region 1 with fail
 refine rgP K0_1 HB0 HB0.size [] [] [(0,18,.bool true),(1,19,.bool false)] [] [] [] ?_ ?_
 ·exact oc (g_cb Y6 (fun uZ bZ=>hW.out uZ bZ))<|oc (g_un (fun uZ=>not_t uZ)) on
 intro u1 HB1 sz1 K1
 simp only[sQ] at K1⊢
 clear HB0
 go_upto_region 3 with fail
 refine rgF K1 HB1 HB1.size [] [] [(0,20,.slice s0 L0_ c0_)] [(2,0)] [(2,0)] [⟨1,21,some 2,PSn ns⟩,⟨2,0,none,PSn ns⟩] [] (.cons (fun _ _ _ h1 h2=>h2.stab h1)<| .cons (fun _ _ _ h1 h2=>h2.stab h1)<|Stab.nil) ?_ ?_
 ·exact oc g_mv<|oc (g_cE 0 (PSn ns) Yj (fun u hB hs=>hFw.out u hB))<|oc (g_sE 0 1 (PSn ns)) on
 intro u2 v2_1 hv2_1 v2_2 hv2_2 HB2 sz2 K2
 simp only[sQ] at K2⊢
 clear K1 HB1
 have hl0:=hv2_2 rfl
 have nl_0:NL u2 v2_2 ns:=hl0
 obtain⟨sa,ga,oa,ca,rfl,_⟩:=hl0
 have hT2:Bw w u2:=Z3 (Below.refl w.heap.size w) HB2
 have nl_2:NL u2 (.slice sa ns.length ca) ns:=nl_0
 have HBz2:Bw u2 u2:=Below.refl _ _
 by_cases hz:ns.length=0
 ·have hqa:(((ns.length:Nat):Int)==0)=true:=by rw[beq_iff_eq];omega
  clear hz
  have K2_2:=Bk.nil (u2.heap.size) u2
  go_upto_region 4 with fail
  refine rgP K2_2 HBz2 HBz2.size [] [] [(0,22,.slice sa ns.length ca),(1,23,.int .i64 (ns.length:Int)),(2,24,.bool true)] [] [] [] ?_ ?_
  ·exact oc g_mv<|oc (g_ln Tryz.underlying25)<|oc (g_bn (fun uZ=>eql_i _ _ _ (ns.length:Int) 0 _ uZ hqa)) on
  intro u3 HB3 sz3 K3
  simp only[sQ] at K3⊢
  go_upto_region 5 with fail
  refine rgP K3 HB3 HB3.size [] [] [(0,8,(Go.Value.bool Bool.true))] [] [] [] ?_ ?_
  ·exact oc g_as on
  intro u4 HB4 sz4 K4
  simp only[sQ] at K4⊢
  clear K3 HB3
  go_wp2
  exact bodyPost_ret (v:= .bool true) (by simp[results,Tryz.results6,go_sem]) rfl ⟨rfl,Z3 hT2 HB4⟩
 ·have hqa:(((ns.length:Nat):Int)==0)=false:=by rw[beq_eq_false_iff_ne];omega
  have h1:1<=ns.length:=by omega
  clear hz
  have K2_2:=Bk.nil (u2.heap.size) u2
  go_upto_region 4 with fail
  refine rgP K2_2 HBz2 HBz2.size [] [] [(0,22,.slice sa ns.length ca),(1,23,.int .i64 (ns.length:Int)),(2,24,.bool false)] [] [] [] ?_ ?_
  ·exact oc g_mv<|oc (g_ln Tryz.underlying25)<|oc (g_bn (fun uZ=>eql_i _ _ _ (ns.length:Int) 0 _ uZ hqa)) on
  intro u3 HB3 sz3 K3
  simp only[sQ] at K3⊢
  have hvv:u2.heap.size<=u3.heap.size:=HB3.size
  go_upto_region 6 with fail
  refine rgF K3 HB3 HB3.size [] [] [(0,26,NV 581039633),(1,27,.slice sa ns.length ca),(2,28,.slice sl L cap),(3,29,.slice sa ns.length ca),(4,30,.int .i64 (ns.length:Int)),(5,31,.int .i64 ((ns.length+1:Nat):Int)),(10,35,.int .i64 0),(12,10,.int .i64 0)] [] [] [⟨6,32,some 7,PAp (ns.length+1)⟩,⟨7,33,none,PUt u3.heap.size (ns.length+1) ns⟩,⟨8,25,none,PUt u3.heap.size (ns.length+1) ns⟩,⟨9,34,some 11,PUp u3.heap.size (ns.length+1) ns⟩,⟨11,9,none,PUp u3.heap.size (ns.length+1) ns⟩] [] (.cons (fun _ _ _ h1 h2=>h2.stab h1)<| .cons (fun _ _ _ h1 h2=>h2.stab h1)<| .cons (fun _ _ _ h1 h2=>h2.stab h1)<| .cons (fun _ _ _ h1 h2=>h2.stab h1)<| .cons (fun _ _ _ h1 h2=>h2.stab h1)<|Stab.nil) ?_ ?_
  ·exact oc (g_cl Z5 (fun uZ=>cOrder uZ))<|oc g_mv<|oc g_mv<|oc g_mv<|oc (g_ln Tryz.underlying25)<|oc (g_bn (fun uZ=>Xh _ _ (ns.length:Int) 1 ((ns.length+1:Nat):Int) uZ (by omega) (by omega) (by omega)))<|oc (g_cE 0 (PAp (ns.length+1)) Y7 (fun u hB hs=>hAp.out u (Z3 hT2 hB)))<|oc (g_cZ 0 1 (PAp (ns.length+1)) (PUt u3.heap.size (ns.length+1) ns) (fun y=>[NV 581039633,.slice sa ns.length ca,y]) ent_U1 (fun u y bZ hs hy=>by obtain⟨out,h1',h2',h3'⟩:=hy;exact(cPoints OQ ns out _ y u ((hG.below hT2).below bZ) In_OQ (by decide) (nl_2.up bZ) hns h1 (by omega) h3' h2'.okS (by omega)).mono fun e u2 ⟨v,e1,k1,k2⟩=>⟨_,e1,⟨v,rfl,out,h1',h2',(k1.lo hs).six h1'⟩,k2⟩))<|oc (g_mE 1 2 (PUt u3.heap.size (ns.length+1) ns))<|oc (g_xE 2 3 (PUt u3.heap.size (ns.length+1) ns) (PUp u3.heap.size (ns.length+1) ns) (fun u v ⟨y,e,h⟩=>⟨_,y,e,rfl,h⟩))<|oc (g_xV 2 (PUt u3.heap.size (ns.length+1) ns) (fun u v ⟨y,e,h⟩=>⟨_,e,rfl⟩))<|oc (g_sE 3 4 (PUp u3.heap.size (ns.length+1) ns))<|oc g_as on
  intro u4 v4_6 hv4_6 v4_7 hv4_7 v4_8 hv4_8 v4_9 hv4_9 v4_11 hv4_11 HB4 sz4 K4
  simp only[sQ] at K4⊢
  clear HB3
  obtain⟨out,hol,hap,bp,rfl,o1,o2,o3⟩:=hv4_11 rfl
  have K4xo:=Bk.moreT K3 K4 (by omega) o1 o2 o3 (by intro x hx;first | (simp at hx;done) | (simp at hx⊢;omega))
  simp only[aK] at K4xo
  clear K4
  have hpl:=pts_len OQ ns out
  go_upto_region 7 with fail
  refine rgP K4xo HB4 HB4.size [] [] [(0,36,.slice (some ⟨bp,0,none⟩) (ns.length+1) (ns.length+1)),(1,37,.int .i64 ((ns.length+1:Nat):Int)),(2,38,.slice sa ns.length ca),(3,39,.int .i64 (ns.length:Int)),(4,40,.int .i64 ((ns.length+1:Nat):Int)),(5,41,.bool false)] [] [] [] ?_ ?_
  ·exact oc g_mv<|oc (g_ln Tryz.underlying31)<|oc g_mv<|oc (g_ln Tryz.underlying25)<|oc (g_bn (fun uZ=>Xh _ _ (ns.length:Int) 1 ((ns.length+1:Nat):Int) uZ (by omega) (by omega) (by omega)))<|oc (g_bn (fun uZ=>neq_i _ _ _ ((ns.length+1:Nat):Int) ((ns.length+1:Nat):Int) false uZ (by simp))) on
  intro u5 HB5 sz5 K5
  simp only[sQ] at K5⊢
  clear HB4
  go_upto_region 9 with fail
  refine rgP K5 HB5 HB5.size [] [] [(0,43,NV 581039633),(1,44,.slice sa ns.length ca),(2,45,.int .i64 (ns.length:Int)),(3,46,.int .i64 ((ns.length -1:Nat):Int)),(4,47,.slice (some ⟨bp,0,none⟩) (ns.length+1) (ns.length+1)),(5,48,.tuple #[.bool true,.int .i64 0]),(6,42,.tuple #[.bool true,.int .i64 0]),(7,49,.bool true),(8,50,.int .i64 0),(9,11,.bool true),(10,12,.int .i64 0)] [] [] [] ?_ ?_
  ·exact oc (g_cl Z5 (fun uZ=>cOrder uZ))<|oc g_mv<|oc (g_ln Tryz.underlying25)<|oc (g_bn (fun uZ=>sub_i _ _ (ns.length:Int) 1 ((ns.length -1:Nat):Int) uZ (by omega) (by omega) (by omega)))<|oc g_mv<|oc (g_cK X2 (fun fZ uZ kZ sZ bZ=>cLineYes ns out (ns.length -1) _ uZ ((hG.below hT2).below bZ) hap (by omega) (by omega) (.inl (by omega)) (by omega) (pl_new (n:=ns.length+1) (kZ.lb sZ 0) (kZ.cv 0) (by omega))))<|oc g_mv<|oc g_ex<|oc g_ex<|oc g_as<|oc g_as on
  intro u6 HB6 sz6 K6
  simp only[sQ] at K6⊢
  clear K5 HB5
  go_upto_region 10 with fail
  refine rgP K6 HB6 HB6.size [] [] [(0,51,.int .i64 wh),(1,52,.slice (some ⟨bp,0,none⟩) (ns.length+1) (ns.length+1)),(2,53,.int .i64 ((ns.length+1:Nat):Int)),(3,54,.int .i64 (k:Int)),(4,13,.int .i64 (k:Int))] [] [] [] ?_ ?_
  ·exact oc g_mv<|oc g_mv<|oc (g_ln Tryz.underlying31)<|oc (g_cl Ye (fun uZ=>hA.out uZ))<|oc g_as on
  intro u7 HB7 sz7 K7
  simp only[sQ] at K7⊢
  clear K6 HB6
  have hkp:k<(pts OQ ns out).length:=by omega
  have hko:k<out.length:=by omega
  have hkn:k<(ns.length+1):=by omega
  have hXL:=flt_sl hkp
  have hsp:=flt_s hkp
  have hNx:=flt_y hkp ((hoN OQ (out.getD k 0) ns ns.length+bb)%OQ)
  rw[Zz hko] at hXL hsp hNx
  dsimp only at hXL hsp hNx
  have hps2:(pts OQ ns out).set k (out.getD k 0,(hoN OQ (out.getD k 0) ns ns.length+bb)%OQ)=(pts OQ ns out).set k (((pts OQ ns out).getD k (0,0)).1,(hoN OQ (out.getD k 0) ns ns.length+bb)%OQ):=by rw[Zz hko]
  obtain⟨ps2,eps2⟩: ∃p,(pts OQ ns out).set k (out.getD k 0,(hoN OQ (out.getD k 0) ns ns.length+bb)%OQ)=p:=⟨_,rfl⟩
  have hl2:ps2.length=(ns.length+1):=by rw[<-eps2,List.length_set];omega
  rw[eps2] at hNx hps2
  clear eps2
  have iy:=hoN_In (x:=out.getD k 0) (ns:=ns) In_OQ (by decide) ns.length
  obtain⟨X,eX⟩: ∃X,flN (flt ((pts OQ ns out).take k))++LN (out.getD k 0)=X:=⟨_,rfl⟩
  obtain⟨Z,eZ⟩: ∃Z,flN (flt ((pts OQ ns out).drop (k+1)))=Z:=⟨_,rfl⟩
  rw[eX] at hXL hsp hNx
  rw[eZ] at hsp hNx
  clear eX eZ
  have hTurn:Hid (∀u v,GP u->PtL u v ps2->CC 24 #[NV OQ,.int .i64 ((ns.length -1:Nat):Int),v] u (.tuple #[.bool rb,.int .i64 0])):=fun u v hGu h=>by
   rw[hps2] at h
   exact cLineTurned ns out ns.length k bb v u hGu hap hol rfl h1 h12 (by omega) rb hrb h
  rw[hsp] at K7
  clear hsp hps2
  obtain⟨y,ey⟩: ∃y,hoN OQ (out.getD k 0) ns ns.length=y:=⟨_,rfl⟩
  have hAd:Hid (∀u,CC 23 #[NV y,NV bb,NV 581039633] u (.tuple #[NV ((y+bb)%OQ),.int .i64 0])):=fun u=>xAdd y bb OQ u (by rw[<-ey];exact iy) ibb In_OQ (by decide)
  rw[ey] at hNx iy K7
  clear ey
  obtain⟨z,ez⟩: ∃z,(y+bb)%OQ=z:=⟨_,rfl⟩
  rw[ez] at hNx hAd
  clear ez
  have hXL:Hid _:=hXL
  have hNx:Hid _:=hNx
  go_upto_region 11 with fail
  refine rgD K7 HB7 HB7.size [.all 16 (X++LN z++Z)] [] [(0,56,.slice (some ⟨bp,0,none⟩) (ns.length+1) (ns.length+1)),(1,57,.int .i64 (k:Int)),(2,58,.slice (some ⟨bp,0,none⟩) (ns.length+1) (ns.length+1)),(3,59,.int .i64 (k:Int)),(4,60,.pointer (some ⟨bp,8*k,none⟩)),(5,61,.pointer (some ⟨bp,8*k+4,none⟩)),(6,62,NV y),(7,63,.int .u64 bb),(8,64,NV bb),(9,65,NV 581039633),(10,66,.tuple #[NV z,.int .i64 0]),(11,55,.tuple #[NV z,.int .i64 0]),(12,67,NV z),(13,68,.int .i64 0),(14,69,.pointer (some ⟨bp,8*k,none⟩)),(15,70,.pointer (some ⟨bp,8*k+4,none⟩))] [(16,6)] [] [] ?_ ?_
  ·exact oc g_mv<|oc g_mv<|oc g_mv<|oc g_mv<|oc (g_ix (fun uZ=>ixPZ _ _ _ k hkn uZ))<|oc (g_fd (fun uZ=>fdP1 _ _ uZ))<|oc (g_lR 0 (8*k+4) (cs:=LN y) (mid_at hXL.out) uN iN)<|oc g_mv<|oc (g_bd (fun uZ=>bdNt bb hb0 hb1 uZ))<|oc (g_cl Z5 (fun uZ=>cOrder uZ))<|oc (g_cl Yi (fun uZ=>hAd.out uZ))<|oc g_mv<|oc g_ex<|oc g_ex<|oc (g_ix (fun uZ=>ixPZ _ _ _ k hkn uZ))<|oc (g_fd (fun uZ=>fdP1 _ _ uZ))<|oc (g_sm 0 (8*k+4) X (LN y) Z (post:=LN z) (hxc:=hXL.out) iN) on
  intro u8 HB8 sz8 K8
  simp only[sQ] at K8⊢
  clear K7 HB7
  rw[<-hNx.out] at K8
  go_upto_region 12 with fail
  refine rgP K8 HB8 HB8.size [] [] [(0,72,NV 581039633),(1,73,.slice sa ns.length ca),(2,74,.int .i64 (ns.length:Int)),(3,75,.int .i64 ((ns.length -1:Nat):Int)),(4,76,.slice (some ⟨bp,0,none⟩) (ns.length+1) (ns.length+1)),(5,77,.tuple #[.bool rb,.int .i64 0]),(6,71,.tuple #[.bool rb,.int .i64 0]),(7,78,.bool rb),(8,79,.int .i64 0),(9,14,.bool rb),(10,15,.int .i64 0)] [] [] [] ?_ ?_
  ·exact oc (g_cl Z5 (fun uZ=>cOrder uZ))<|oc g_mv<|oc (g_ln Tryz.underlying25)<|oc (g_bn (fun uZ=>sub_i _ _ (ns.length:Int) 1 ((ns.length -1:Nat):Int) uZ (by omega) (by omega) (by omega)))<|oc g_mv<|oc (g_cK X2 (fun fZ uZ kZ sZ bZ=>hTurn.out uZ _ ((hG.below hT2).below bZ) (pl_new (kZ.lb sZ 0) (kZ.cv 0) hl2)))<|oc g_mv<|oc g_ex<|oc g_ex<|oc g_as<|oc g_as on
  intro u9 HB9 sz9 K9
  simp only[sQ] at K9⊢
  clear K8 HB8
  go_upto_region 13 with fail
  refine rgP K9 HB9 HB9.size [] [(8,16,L0s,some (9,LN (bb%OQ)))] [(0,81,.int .u64 bb),(1,82,NV bb),(2,83,WV bb),(3,84,NV 581039633),(4,85,.tuple #[NV (bb%OQ),.int .i64 0]),(5,80,.tuple #[NV (bb%OQ),.int .i64 0]),(6,86,NV (bb%OQ)),(7,87,.int .i64 0),(10,17,.int .i64 0)] [(9,8)] [] [] ?_ ?_
  ·exact oc g_mv<|oc (g_bd (fun uZ=>bdNt bb hb0 hb1 uZ))<|oc (g_cl Zb (fun uZ=>nrWiden bb uZ ibb))<|oc (g_cl Z5 (fun uZ=>cOrder uZ))<|oc (g_cl Z9 (fun uZ=>xReduce bb OQ uZ iwb In_OQ (by decide)))<|oc g_mv<|oc g_ex<|oc g_ex<|oc (g_al 0 aN)<|oc (g_sn 0 iN)<|oc g_as on
  intro u10 b10_8 HB10 sz10 K10
  simp only[sQ] at K10⊢
  clear K9 HB9
  go_upto_region 14 with fail
  refine rgP K10 HB10 HB10.size [] [] [(0,88,.bool true),(1,89,.bool true),(2,90,.int .i64 0),(3,91,.bool true),(4,92,.bool true),(5,93,.bool true),(6,94,.int .i64 0),(7,95,.bool true),(8,96,.bool true),(9,97,.bool true),(10,98,.bool rb),(11,99,NV (bb%OQ)),(12,100,A4 (0) (0) (0) (0)),(13,101,.bool rb),(14,102,.bool true),(15,103,.bool true),(16,8,.bool true)] [] [] [] ?_ ?_
  ·exact oc g_mv<|oc g_mv<|oc g_mv<|oc (g_bn (fun uZ=>eql_i _ _ _ 0 0 _ uZ rfl))<|oc g_pk<|oc g_mv<|oc g_mv<|oc (g_bn (fun uZ=>eql_i _ _ _ 0 0 _ uZ rfl))<|oc g_pk<|oc g_mv<|oc g_mv<|oc (g_ld 1 uN iN)<|oc (g_bd zN)<|oc (g_bn (fun uZ=>eql_0 _ _ (Zd In_OQ (by decide)) rb hrb uZ))<|oc (g_bn (fun uZ=>eqlTb _ _ rb uZ))<|oc g_pk<|oc g_as on
  intro u11 HB11 sz11 K11
  simp only[sQ] at K11⊢
  clear K10 HB10
  go_wp2
  exact bodyPost_ret (v:= .bool true) (by simp[results,Tryz.results6,go_sem]) rfl ⟨rfl,Z3 hT2 HB11⟩
theorem polyTurned_any(wh bb:Int)(s0 sl:Option Addr)(L0_ c0_ g0 o0 L cap gl ol:Nat)(f:Nat->Int)(ns:List Int)(w:World)(hG:GP w)(hb0:0<=bb)(hb1:bb<18446744073709551616)(hwh: -9223372036854775808<=wh/\wh<9223372036854775808)(hns: ∀z∈ns,In z)(n1:min L0_ 12=ns.length)(n2:L0_<=c0_)(n3:s0=none->c0_=0)(n4:c0_=0\/s0=some ⟨g0,o0,none⟩)(n5:ns.length=0\/g0<w.heap.size)(n6:SN w g0 o0 ns)(hL:L<=9223372036854775807)(hsl:0<L->sl=some ⟨gl,ol,none⟩/\gl<w.heap.size)(hc: ∀j,j<L->w.cell? ⟨gl,ol+j,none⟩=some (.int .i64 (f j)))(hf: ∀j,j<L-> -9223372036854775808<=f j/\f j<9223372036854775808):
 CC 6 #[.slice s0 L0_ c0_,.slice sl L cap,.int .i64 wh,.int .u64 bb] w (.bool true):=by
 obtain⟨k,hk,hA⟩:=among_any wh ((ns.length+1:Nat):Int) (by omega) (by omega) hwh
 exact polyTurned_core wh bb s0 sl L0_ c0_ L cap k ns _ w hG hns (by omega) hb0 hb1 ⟨hb0,by omega⟩ ⟨hb0,by omega⟩ rfl (.inr (by omega)) (fun u hB=>cWorks u (hG.below hB)) (cFewU s0 L0_ c0_ g0 o0 ns w n1 n2 n3 n4 n5 n6) hA (cApart sl L cap gl ol (ns.length+1) f w (by omega) hL hsl hc hf)
end Go.Proofs.YtgieoghechekpaaGreatDoor
