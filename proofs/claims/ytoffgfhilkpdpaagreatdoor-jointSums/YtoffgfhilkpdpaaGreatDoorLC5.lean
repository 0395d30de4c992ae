import Derived.Test.YtoffgfhilkpdpaaGreatDoorCTP
import Derived.Deep.SlicePairs
namespace Go.Proofs.YtoffgfhilkpdpaaGreatDoor
set_option linter.unusedVariables false
set_option linter.unusedSimpArgs false
set_option maxRecDepth 100000
set_option maxHeartbeats 4000000
section
open Go.RowKit
theorem Wc:EnT 79:=fun _ _=>by kernel_rfl
def P104(u:World)(v:Value):Prop:=IN u u.heap.size v [104]
theorem P104.stab{u u2:World}{x:Value}(hB:Bw u u2)(h:P104 u x):P104 u2 x:=(IN.below h hB).mono hB.size
theorem bdG3(p q g:Int)(w:World):(Instr.build 26 [(0,NV p),(1,NV q),(2,NV g)].toArray).run Tryz.prog w= .ok (GX p q g 0) w:=by kernel_rfl
theorem W2:EnT 80:=fun _ _=>by kernel_rfl
theorem bs104(w:World):(Instr.buildSlice 133 1 ([0].zip [.int .u8 104]).toArray).run Tryz.prog w= .ok (.slice (some ⟨w.heap.size,0,none⟩) 1 1) (w.alloc (.cells [.int .u8 104].toArray 5)):=by kernel_rfl
theorem in104(u:World):P104 (u.alloc (.cells [.int .u8 104].toArray 5)) (.slice (some ⟨u.heap.size,0,none⟩) 1 1):=
 ⟨_,1,u.heap.size,0,rfl,by simp,.inr rfl,by simp,fun j hj=>by
  have e:j=0:=by simp at hj;omega
  subst e
  exact(CV.new u [.int .u8 104] 5 0 _ rfl).1⟩
theorem xParams_core(k P Q a hh:Int)(n:Nat)(cs:List (Int×Int×Int))(w:World)(hn:Hid (n=cs.length))(h0:0<n)(h20:n<=20)(hc:cat cs (n -1)=(P,Q,a))
 (hX:Hid (∀u,Calls Tryz.prog 79 #[iI k] u fun e u'=> ∃v,e= .returned v/\PT 0 u.heap.size n (flC cs) u' v/\Bw u u'))
 (hM:Hid (∀u v,IN u u.heap.size v [104]->CC 80 #[GX P Q 4 0,v] u (.tuple #[NV hh,iI 0]))):
 CC 55 #[iI k] w (.tuple #[GX P Q 4 hh,iI 0]):=by
 go_enter Tryz.func55,Tryz.ntmps55
 go_upto_region 1 with fail
 obtain⟨v0,hC,HB0,K0⟩:=bx1 w L0g 26
 rw[hC]
 clear hC
 refine Rf K0 HB0 [] [] [(0,9,iI k),(4,12,iI 0),(6,5,iI 0)] [] [] [⟨1,10,none,PT 0 v0.heap.size n (flC cs)⟩,⟨2,8,none,PT 0 v0.heap.size n (flC cs)⟩,⟨3,11,some 5,PS v0.heap.size n (flC cs)⟩,⟨5,4,none,PS v0.heap.size n (flC cs)⟩] [] (hst:=(.cons (fun _ _ _ h1 h2=>h2.stab h1)<| .cons (fun _ _ _ h1 h2=>h2.stab h1)<| .cons (fun _ _ _ h1 h2=>h2.stab h1)<| .cons (fun _ _ _ h1 h2=>h2.stab h1)<|Stab.nil)) (Oc7 g_mv (g_cE 0 (PT 0 v0.heap.size n (flC cs)) Wc (fun u hB hs=>(hX.out u).mono fun e u2 ⟨v,e1,h1,h2⟩=>⟨v,e1,h1.mono hs,h2⟩)) (g_mE 0 1 (PT 0 v0.heap.size n (flC cs))) (g_xE 1 2 (PT 0 v0.heap.size n (flC cs)) (PS v0.heap.size n (flC cs)) PT.fst) (g_xV 1 (PT 0 v0.heap.size n (flC cs)) PT.snd) (g_sE 2 3 (PS v0.heap.size n (flC cs))) g_as) fun u1 v1_1 hv1_1 v1_2 hv1_2 v1_3 hv1_3 v1_5 hv1_5 HB1 _ K1=>?_
 simp only[sQ] at K1⊢
 obtain⟨bl,cl,rfl,l1,l2,l3,l4⟩:=hv1_5 rfl
 have K1xl:=Bk.more3 K0 K1 l1 l2 l4 (by intro x hx;first | (simp at hx;done) | (simp at hx⊢;omega))
 simp only[aK] at K1xl
 go_upto_region 2 with fail
 refine Rn K1xl HB1 [(0,13,iI 0),(1,14,.bool false)] (Oc2 g_mv (g_bn (fun uZ=>Y7 _ _ _ 0 0 _ uZ rfl))) fun u2 HB2 _ K2=>?_
 simp only[sQ] at K2⊢
 have hz3:(n:Int) -1=((n -1:Nat):Int):=Z1
 have hR:=flC_get cs (n -1)
 rw[hc] at hR
 have hR:Hid _:=hR
 go_upto_region 4 with fail
 refine Rp K2 HB2 [] [(6,6,L0c,some (7,CE P Q a))] (cG 0 17 [.slice (some ⟨bl,0,none⟩) n cl,.slice (some ⟨bl,0,none⟩) n cl,iI (n:Int),iI ((n -1:Nat):Int),.pointer (some ⟨bl,0+12*(n -1),none⟩),CX P Q a] []) [(7,6)] [] [] (Oc8 g_mv g_mv (g_ln Tryz.underlying127) (g_bn (fun uZ=>Xi _ _ (n:Int) 1 ((n -1:Nat):Int) uZ hz3 Z1 Z1)) (g_ix (fun uZ=>ixC bl 0 n cl (n -1) Z1 uZ)) (g_lR 1 (0+12*(n -1)) (cs:=CE P Q a) ((fun c v hv=>by rw[Nat.zero_add];exact hR.out c v (by have:=hn.out;omega) hv)) Tryz.underlying131 Uc) (g_al 0 al_api_Cert) (g_sn 0 Uc)) fun u3 b3_6 HB3 _ K3=>?_
 simp only[sQ] at K3⊢
 go_upto_region 5 with fail
 refine Rd K3 HB3 [] [(6,7,L0g,some (7,GE P Q (4) (0)))] (cG 0 23 [.pointer (some ⟨b3_6,0,none⟩),NV P,.pointer (some ⟨b3_6,4,none⟩),NV Q,NV 4,GX P Q (4) (0)] []) [(7,6)] [] [] (Oc8 (g_fd (fdC0 _)) (g_lo 2 0 uN iN) (g_fd (fdC1 _)) (g_lo 2 4 uN iN) (g_cl Vb (fun uZ=>Vj 4 uZ Z1 Z1)) (g_bd (bdG3 P Q 4)) (g_al 0 Tg) (g_sn 0 Z4)) fun u4 b4_6 HB4 _ K4=>?_
 simp only[sQ] at K4⊢
 go_upto_region 6 with fail
 refine Rf K4 HB4 [.no,.no,.no,.all 7 (GE P Q (4) hh)] [] [(0,30,GX P Q (4) (0)),(2,32,.tuple #[NV hh,iI 0]),(3,29,.tuple #[NV hh,iI 0]),(4,33,NV hh),(5,34,iI 0),(6,35,.pointer (some ⟨b4_6,12,none⟩))] [(7,0)] [] [⟨1,31,some 2,P104⟩] [] (hst:=(.cons (fun _ _ _ h1 h2=>h2.stab h1)<|Stab.nil)) (Oc8 (g_ld 3 Tryz.underlying26 Z4) (g_bS 0 P104 [0] [.int .u8 104] bs104 in104) (g_c2 0 P104 W2 (fun uZ yZ _ hZ=>hM.out uZ yZ hZ)) g_mv g_ex g_ex (g_fd (fdG3 _)) (g_sm 3 12 (LN P++LN Q++LN 4) (LN 0) ([]) (post:=LN hh) iN)) fun u5 v5_1 hv5_1 HB5 _ K5=>?_
 simp only[sQ] at K5⊢
 go_upto_region 7 with fail
 refine Rp K5 HB5 [.all 1 (GE P Q (4) hh)] [] [(0,36,GX P Q (4) hh),(2,3,(Go.Value.int Go.IntKind.i64 0))] [] [] [] (Oc3 (g_ld 3 Tryz.underlying26 Z4) (g_st 0 Z4) g_as) fun u6 HB6 _ K6=>?_
 simp only[sQ] at K6⊢
 have c2_0:=((K6.cv 0) 0 _ rfl).1
 have c2_1:=((K6.cv 0) 1 _ rfl).1
 have c2_2:=((K6.cv 0) 2 _ rfl).1
 have c2_3:=((K6.cv 0) 3 _ rfl).1
 have c2_4:=((K6.cv 0) 4 _ rfl).1
 have c2_5:=((K6.cv 0) 5 _ rfl).1
 have c2_6:=((K6.cv 0) 6 _ rfl).1
 have c2_7:=((K6.cv 0) 7 _ rfl).1
 have c2_8:=((K6.cv 0) 8 _ rfl).1
 have c2_9:=((K6.cv 0) 9 _ rfl).1
 have c2_10:=((K6.cv 0) 10 _ rfl).1
 have c2_11:=((K6.cv 0) 11 _ rfl).1
 have c2_12:=((K6.cv 0) 12 _ rfl).1
 have c2_13:=((K6.cv 0) 13 _ rfl).1
 have c2_14:=((K6.cv 0) 14 _ rfl).1
 have c2_15:=((K6.cv 0) 15 _ rfl).1
 go_wp2
 refine bodyPost_ret (v:= .tuple #[GX P Q (4) hh,iI 0]) (by simp[results,Tryz.results55,go_sem,c2_0,c2_1,c2_2,c2_3,c2_4,c2_5,c2_6,c2_7,c2_8,c2_9,c2_10,c2_11,c2_12,c2_13,c2_14,c2_15]) rfl ⟨rfl,HB6⟩
theorem mem104(p q:Int)(hg:gOk p q)(hp:In p)(hq:In q)(u:World)(v:Value)(h:IN u u.heap.size v [104]):
 CC 80 #[GX p q 4 0,v] u (.tuple #[NV (meN p [104]),iI 0]):=by
 exact xMemberK p q 4 0 [104] v u hp hq h (fun x hx=>by simp at hx;omega) Z2 hg
theorem xParams0(w:World):CC 55 #[iI 0] w (.tuple #[GX P0 Q0 4 (meN P0 [104]),iI 0]):=
 xParams_core 0 P0 Q0 2 (meN P0 [104]) 2 (stp ns0 2) w rfl Z1 Z1 rfl (fun u=>xChain0 u) (fun u v h=>mem104 P0 Q0 Ur ⟨Z2,Z2⟩ ⟨Z2,Z2⟩ u v h)
def GChk(w:World):Prop:= ∀u p q g h,Bw w u->In p->In q->In g->In h->CC 49 #[GX p q g h] u (iI (chE p q))
theorem pr0:Pr P0.toNat:=(cfB_pr chain0_in chain0_ok).2
theorem Ti:In P0:=⟨Z2,Z2⟩
theorem In_Q0':In Q0:=⟨Z2,Z2⟩
theorem In_n4:In 4:=⟨Z2,Z2⟩
theorem In_lt{p x:Int}(hp:In p)(h0:0<=x)(h1:x<=p):In x:=⟨h0,Int.lt_of_le_of_lt h1 hp.2⟩
theorem In_Mb{p q x:Int}(hp:In p)(h:Mb p q x):In x:=In_lt hp (by have:=h.1;omega) (by have:=h.2.1;omega)
theorem mb_h0:Mb P0 Q0 (meN P0 [104]):=meN_Mb pr0 Ur _
theorem GChk.up{w u:World}(h:GChk w)(hB:Bw w u):GChk u:=fun u2 p q g h' hB2=>h u2 p q g h' (Z7 hB hB2)
section
section
variable {R:Rg} {P:Program} {Q:Exit->Act->World->Prop} {ops:Array Oper} {i:Nat} {o:Oper}
end
theorem slNt(sl:Option Addr)(n cap k:Nat)(h:k<=n)(hc:n<=cap)(hn:sl=none->cap=0)(w:World):(Instr.sliceAt 31 (.slice sl n cap) none (some (iI k)) none).run Tryz.prog w= .ok (.slice sl k cap) w:=by
 cases sl with
 | none=>
  have e0:=hn rfl
  have e1:n=0:=Z1
  have e2:k=0:=Z1
  subst e0 e1 e2
  show (Instr.sliceAt 31 (.slice none 0 0) none (some (iI 0)) none).run Tryz.prog w=_
  kernel_rfl
 | some a=>
  have h3:k<=cap:=Z1
  simp[Instr.sliceAt,Instr.slice,go_sem,Tryz.underlying31,h3]
def H0:Int:=meN P0 [104]
theorem ent_M1:EnT 55:=fun _ _=>by kernel_rfl
theorem is4:isB P0 Q0 4=true:=decide_eq_true ⟨Ur,is_4 pr0⟩
theorem isH0:isB P0 Q0 H0=true:=decide_eq_true ⟨Ur,mb_h0⟩
theorem In_H0:In H0:=In_Mb Ti mb_h0
end
def dlE(p q g h d:Int)(ss ts:List Int):Int:=if gOk p q then (if ndB d&&shB ss.length ts.length then (if isB p q g&&isB p q h then 0 else 90) else 110) else 90
def dlD(p q g h d:Int)(ss ts:List Int):Int:=if dlE p q g h d ss ts=0 then d else 0
def dlC(p q g h d:Int)(ss ts:List Int):List Int:=if dlE p q g h d ss ts=0 then cmS p q g h ss ts else []
theorem dl_0{d:Int}{ss ts:List Int}(hd:ndB d=true)(hs:shB ss.length ts.length=true):dlE P0 Q0 4 H0 d ss ts=0:=by
 unfold dlE;rw[if_pos Ur,hd,hs,is4,isH0];rfl
theorem Vp{u:World}{b:Nat}{v0 v1 c0 c1:Value}(h:CV u b [c0,c1]):CV ((u.setCell ⟨b,0,none⟩ v0).setCell ⟨b,1,none⟩ v1) b [v0,v1]:=(h.setC 0 (by simp) v0).setC 1 (by simp) v1
theorem Vq{m b:Nat}{w u:World}{v0 v1:Value}(h:Below m w u)(hb:m<=b):Below m w ((u.setCell ⟨b,0,none⟩ v0).setCell ⟨b,1,none⟩ v1):=(h.setCell hb v0).setCell hb v1
theorem set2_N{u:World}{b:Nat}{v0 v1:Value}{y:Value}{ns:List Int}(h:NL u y ns)(hb: ∀sl gb go cap,y= .slice sl ns.length cap->sl=some ⟨gb,go,none⟩->ns≠[]->gb≠b):NL ((u.setCell ⟨b,0,none⟩ v0).setCell ⟨b,1,none⟩ v1) y ns:=by
 obtain⟨sl,gb,go,cap,h1,h2,h3,h4,h5,h6⟩:=h
 refine⟨sl,gb,go,cap,h1,h2,h3,h4,h5.imp id fun e=>by simpa using e,fun j v hj=>?_⟩
 by_cases e:ns=[]
 ·subst e;simp[flN] at hj
 ·have hne:=hb sl gb go cap h1 (h4.resolve_left e) e
  have hg:gb<u.heap.size:=h5.resolve_left (fun e2=>e (List.eq_nil_of_length_eq_zero e2))
  have:=h6 j v hj
  have k1:=Below.heap_setCell u ⟨b,0,none⟩ v0 gb hne
  have k2:=Below.heap_setCell (u.setCell ⟨b,0,none⟩ v0) ⟨b,1,none⟩ v1 gb hne
  have e3:((u.setCell ⟨b,0,none⟩ v0).setCell ⟨b,1,none⟩ v1).cell? ⟨gb,go+j,none⟩=u.cell? ⟨gb,go+j,none⟩:=by
   simp only[World.cell?,k2,k1]
  rw[e3];exact this
theorem bdDq(d:Int)(s:Option Addr)(n c:Nat)(w:World):(Instr.build 33 [(0,iI d),(1,.slice s n c)].toArray).run Tryz.prog w= .ok (DX d (.slice s n c)) w:=by kernel_rfl
theorem vnought_0(d:Int)(sl:Option Addr)(cap:Nat)(ns:List Int)(w:World)(h:decide (0<(ns.length:Int))=false):
 CC 61 #[DX d (.slice sl ns.length cap)] w (.bool false):=by
 go_enter Tryz.func61,Tryz.ntmps61
 go_upto_region 1 with fail
 obtain⟨v0,hC,HB0,K0⟩:=bx1 w (DE d (.slice sl ns.length cap)) 33
 rw[hC]
 clear hC
 refine Rm K0 HB0 (cG 0 3 [_,_,_,_,_,undef,undef,undef,undef,undef,undef,_] [(12,2,_)]) (Od8 (g_fd (fdD1 _)) (g_lc 0 1 lSN) (g_ln Tryz.underlying31) (g_bn (fun uZ=>V8 _ _ (ns.length:Int) 0 _ uZ h)) g_mv g_sk g_sk g_sk<|Oc5 g_sk g_sk g_sk g_pk g_as) fun u1 HB1 _ K1=>?_
 simp only[sQ] at K1⊢
 go_wp2
 refine bodyPost_ret (v:= .bool false) (by simp[results,Tryz.results61,go_sem,]) rfl ⟨rfl,HB1⟩
theorem vnought_1(d:Int)(sl:Option Addr)(cap:Nat)(ns:List Int)(gb go:Nat)(x:Int)(b:Bool)(w:World)(h:decide (0<(ns.length:Int))=true)(hX:Hid (∀W,(Instr.indexAt 31 (.slice sl ns.length cap) (iI 0)).run Tryz.prog W= .ok (.pointer (some ⟨gb,go,none⟩)) W))(hR:Hid (w.rangeAt gb go (LN x)))(hg:gb<w.heap.size)(hx:In x)(hb:decide (x=1)=b):
 CC 61 #[DX d (.slice sl ns.length cap)] w (.bool b):=by
 go_enter Tryz.func61,Tryz.ntmps61
 go_upto_region 1 with fail
 obtain⟨v0,hC,HB0,K0⟩:=bx1 w (DE d (.slice sl ns.length cap)) 33
 rw[hC]
 clear hC
 refine Rm K0 HB0 (cG 0 3 [_,_,_,_,_,_,_,_,_,_,_,_] [(12,2,_)]) (Od8 (g_fd (fdD1 _)) (g_lc 0 1 lSN) (g_ln Tryz.underlying31) (g_bn (fun uZ=>V8 _ _ (ns.length:Int) 0 _ uZ h)) g_mv (g_fd (fdD1 _)) (g_lc 0 1 lSN) (g_ix hX.out)<|Oc5 (g_lf hR.out hg uN iN) (g_cl ent_vss_number (fun uZ=>vNumber 1 uZ Z1 Z1)) (g_bn (eql_n _ _ hx In_1 b hb)) g_pk g_as) fun u1 HB1 _ K1=>?_
 simp only[sQ] at K1⊢
 go_wp2
 refine bodyPost_ret (v:= .bool b) (by simp[results,Tryz.results61,go_sem,]) rfl ⟨rfl,HB1⟩
theorem vNought(d:Int)(ns:List Int)(v:Value)(w:World)(hv:NL w v ns)(hns: ∀z∈ns,In z):CC 61 #[DX d v] w (.bool (noB ns)):=by
 obtain⟨sl,gb,go,cap,rfl,h2,h3,h4,h5,h6⟩:=hv
 by_cases h:0<ns.length
 ·rw[show noB ns=decide (ns.getD 0 0=1) by simp[noB,h]]
  have hX:=NL.ix (u:=w) (cap:=cap) h4 0 h
  have hR:=h6.at 0 h
  rw[Nat.mul_zero,Nat.add_zero] at hX hR
  exact vnought_1 d sl cap ns gb go _ _ w (by simp;omega) hX hR (h5.resolve_left Z1) (Yb hns 0 h) rfl
 ·rw[show noB ns=false by simp[noB,h]]
  exact vnought_0 d sl cap ns w (decide_eq_false Z1)
theorem eqn24k(a b c d x y z t:Int)(w:World):(Op.equalIn 9999 24 (A4 a b c d) (A4 x y z t)).run Tryz.prog w= .ok (eq4 a b c d x y z t) w:=by
 have u3:=Tryz.underlying22
 have a3:=Tryz.isAgg22
 have z3:=Tryz.sizeOf22
 unfold eq4
 rw[show (9999:Nat)=9998+1 from rfl,Op.equalIn]
 simp only[Sem.run_bind,run_underlying Tryz.underlying24,Result.andThen_ok]
 simp only[Std.Legacy.Range.forIn_eq_forIn_range',Std.Legacy.Range.size,Nat.sub_zero,Nat.add_sub_cancel,Nat.div_one,List.range'_succ,List.range'_zero,List.forIn_cons,List.forIn_nil]
 go_simp
 by_cases h1:a=x<;>by_cases h2:b=y<;>by_cases h3:c=z<;>by_cases h4:d=t<;>simp[h1,h2,h3,h4]
end
section
def UN(q a:Int):Prop:= ∃b,q∣b*a -1
theorem UN.one(q:Int):UN q 1:=⟨1,⟨0,by simp⟩⟩
theorem UN.mul{q a b:Int}(ha:UN q a)(hb:UN q b):UN q (a*b):=by
 obtain⟨x,k,hx⟩:=ha
 obtain⟨y,m,hy⟩:=hb
 exact⟨x*y,k*(y*b)+m,by grind⟩
theorem UN.neg{q a:Int}(h:UN q a):UN q (-a):=by
 obtain⟨x,k,hx⟩:=h
 exact⟨-x,k,by grind⟩
end
section
open Go.RowKit
def flS:List (Int×Int×Int)->List Value
 | []=>[]
 | x::l=>SE x.1 x.2.1 x.2.2++flS l
theorem flS_len: ∀l,(flS l).length=9*l.length
 | []=>rfl
 | x::l=>by rw[flS,List.length_append,flS_len l,List.length_cons];show 9+9*l.length=9*(l.length+1);omega
theorem flS_snoc: ∀(l:List (Int×Int×Int)) (n s t:Int),flS (l++[(n,s,t)])=flS l++SE n s t
 | [],n,s,t=>by simp[flS]
 | x::l,n,s,t=>by rw[List.cons_append,flS,flS_snoc l,flS,List.append_assoc]
def ShL(u:World)(v:Value)(l:List (Int×Int×Int)):Prop:= ∃sl gb go cap,v= .slice sl l.length cap/\l.length<=cap/\(sl=none->cap=0)/\(l=[]\/sl=some ⟨gb,go,none⟩)/\(l.length=0\/gb<u.heap.size)/\ ∀j v,(flS l)[j]?=some v->u.cell? ⟨gb,go+j,none⟩=some v
theorem ShL.up{w u:World}{v:Value}{l:List (Int×Int×Int)}(h:ShL w v l)(hB:Bw w u):ShL u v l:=by
 obtain⟨sl,gb,go,cap,h1,h2,h3,h4,h5,h6⟩:=h
 refine⟨sl,gb,go,cap,h1,h2,h3,h4,h5.imp id fun e=>Nat.lt_of_lt_of_le e hB.size,fun j v hj=>?_⟩
 rcases h5 with h5 | h5
 ·rw[List.eq_nil_of_length_eq_zero h5] at hj;simp[flS] at hj
 ·exact(hB.cell (p:=⟨gb,go+j,none⟩) h5).trans (h6 j v hj)
theorem sh_row{u:World}{b m c:Nat}{l:List (Int×Int×Int)}{zs:List Value}(hb:b<u.heap.size)(h:CV u b (flS l++zs))(hm:l.length=m)(hc:m<=c):ShL u (.slice (some ⟨b,0,none⟩) m c) l:=by
 subst hm
 refine⟨_,b,0,c,rfl,hc,(by simp),.inr rfl,.inr hb,fun j v hj=>?_⟩
 rw[Nat.zero_add]
 exact(h j v (by rw[List.getElem?_append_left (List.getElem?_eq_some_iff.1 hj).1];exact hj)).1
theorem infoSh:(Tryz.prog.info? 39).map (fun i=>(i.zero,i.size,i.bytes))=some (some SZ,9,72):=by kernel_rfl
theorem bsS0(w:World):(Instr.buildSlice 28 0 #[]).run Tryz.prog w= .ok (.slice (some ⟨w.heap.size,0,none⟩) 0 0) (w.alloc (.cells #[] 39)):=by kernel_rfl
def opS(l:List (Int×Int×Int)):List (Int×Int):=l.map fun x=>(x.1,x.2.1)
def opT(l:List (Int×Int×Int)):List (Int×Int):=l.map fun x=>(x.1,x.2.2)
theorem co_mod{p q g h s t:Int}(hq:q≠0):coX p q g h (s%q) (t%q)=coX p q g h s t:=by
 unfold coX;rw[Int.emod_emod,Int.emod_emod]
theorem flt_sn: ∀(ps:List (Int×Int)) (x y:Int),flN (flt (ps++[(x,y)]))=flN (flt ps)++(LN x++LN y)
 | [],x,y=>by simp[flt,flN]
 | p::l,x,y=>by simp[flt,flN,flt_sn l x y]
theorem pl_rw{u:World}{b m c:Nat}{ps:List (Int×Int)}{zs:List Value}(hb:b<u.heap.size)(h:CV u b (flN (flt ps)++zs))(hm:ps.length=m)(hc:m<=c):PtL u (.slice (some ⟨b,0,none⟩) m c) ps:=by
 subst hm
 refine⟨_,b,0,c,rfl,hc,(by simp),.inr rfl,.inr hb,fun j v hj=>?_⟩
 rw[Nat.zero_add]
 exact(h j v (by rw[List.getElem?_append_left (List.getElem?_eq_some_iff.1 hj).1];exact hj)).1
theorem ixSh(g o n cap j:Nat)(h:j<n)(w:World):(Instr.indexAt 28 (.slice (some ⟨g,o,none⟩) n cap) (iI j)).run Tryz.prog w= .ok (.pointer (some ⟨g,o+9*j,none⟩)) w:=by
 have hj:(j:Int)<n:=Z1
 go_simp
 all_goals first | omega | (simp[Addr.add];omega) | simp[Addr.add,Nat.mul_comm]
theorem flS_at: ∀(l:List (Int×Int×Int)) (j:Nat),j<l.length->flS l=flS (l.take j)++SE (l.getD j (0,0,0)).1 (l.getD j (0,0,0)).2.1 (l.getD j (0,0,0)).2.2++flS (l.drop (j+1))
 | [],j,h=>by simp at h
 | x::l,0,h=>by simp[flS]
 | x::l,j+1,h=>by
  have:=flS_at l j (by simpa using h)
  simp only[List.take_succ_cons,List.drop_succ_cons,List.getD_cons_succ,flS,List.append_assoc] at this⊢
  rw[this]
theorem sh_pt{w:World}{g o:Nat}{l:List (Int×Int×Int)}(h: ∀j v,(flS l)[j]?=some v->w.cell? ⟨g,o+j,none⟩=some v)(j:Nat)(hj:j<l.length):w.rangeAt g (o+9*j) (SE (l.getD j (0,0,0)).1 (l.getD j (0,0,0)).2.1 (l.getD j (0,0,0)).2.2):=fun c v hc=>by
 have:=h (9*j+c) v (by rw[flS_at l j hj];exact mid_at (by rw[flS_len,List.length_take];omega) c v hc)
 rwa [<-Nat.add_assoc] at this
def ndsB(l:List (Int×Int×Int)):Bool:=l.all fun x=>ndB x.1
theorem nds_get{l:List (Int×Int×Int)}:ndsB l=true↔ ∀k,k<l.length->ndB (l.getD k (0,0,0)).1=true:=by
 unfold ndsB
 rw[List.all_eq_true]
 constructor
 ·exact fun h k hk=>h _ (by simp[List.getElem?_eq_getElem hk])
 ·intro h x hx
  obtain⟨k,hk,rfl⟩:=List.mem_iff_getElem.1 hx
  have:=h k hk
  simpa [List.getElem?_eq_getElem hk] using this
theorem sh_ix{l:List (Int×Int×Int)}{sl:Option Addr}{gb go cap:Nat}(h:l=[]\/sl=some ⟨gb,go,none⟩): ∀j,j<l.length-> ∀W,(Instr.indexAt 28 (.slice sl l.length cap) (iI j)).run Tryz.prog W= .ok (.pointer (some ⟨gb,go+9*j,none⟩)) W:=fun j hj W=>by
 have e:=h.resolve_left (fun e=>by subst e;simp at hj)
 subst e
 exact ixSh gb go l.length cap j hj W
def QP(lo m:Nat)(ps:List (Int×Int))(b:Nat)(u:World)(v:Value):Prop:=ps.length=m/\((m=0/\v= .slice none 0 0)\/(0<m/\lo<=b/\ ∃co zs,v= .slice (some ⟨b,0,none⟩) m co/\b<u.heap.size/\m<=co/\zs.length=8*(co -m)/\CV u b (flN (flt ps)++zs)))
theorem QP.stab{lo m b:Nat}{ps:List (Int×Int)}{u u2:World}{v:Value}(h:QP lo m ps b u v)(hB:Bw u u2):QP lo m ps b u2 v:=by
 obtain⟨h1,h3⟩:=h
 refine⟨h1,h3.imp id ?_⟩
 rintro⟨h0,h2,co,zs,e,g1,g2,g3,g4⟩
 exact⟨h0,h2,co,zs,e,Nat.lt_of_lt_of_le g1 hB.size,g2,g3,g4.below hB g1⟩
theorem QP.grow{lo m c:Nat}{r:Option Nat}{ps:List (Int×Int)}{u u2:World}{v:Value}(h:QP lo m ps c u v)(hg:u.grownBy u2 r)(hne:0<m->some c≠r):QP lo m ps c u2 v:=by
 obtain⟨h1,h3⟩:=h
 refine⟨h1,h3.imp id ?_⟩
 rintro⟨h0,h2,co,zs,e,g1,g2,g3,g4⟩
 exact⟨h0,h2,co,zs,e,Nat.lt_of_lt_of_le g1 hg.size,g2,g3,g4.grow hg g1 (hne h0)⟩
theorem QP.lt{lo m c:Nat}{ps:List (Int×Int)}{u:World}{v:Value}(h:QP lo m ps c u v)(h0:0<m):lo<=c/\c<u.heap.size:=by
 rcases h.2 with⟨h1,_⟩ | ⟨_,h2,_,_,_,h3,_⟩
 ·omega
 ·exact⟨h2,h3⟩
theorem QP.pl{lo m c:Nat}{ps:List (Int×Int)}{u:World}{v:Value}(h:QP lo m ps c u v):PtL u v ps:=by
 obtain⟨h1,h3⟩:=h
 rcases h3 with⟨h0,rfl⟩ | ⟨h0,h2,co,zs,rfl,g1,g2,g3,g4⟩
 ·obtain rfl:ps=[]:=List.eq_nil_of_length_eq_zero Z1
  exact⟨none,0,0,0,rfl,Nat.le_refl _,fun _=>rfl,.inl rfl,.inl rfl,SN.empty rfl⟩
 ·subst h1
  exact⟨_,c,0,co,rfl,g2,(by simp),.inr rfl,.inr g1,fun j v hj=>by
   rw[Nat.zero_add]
   exact(g4 j v (by rw[List.getElem?_append_left (List.getElem?_eq_some_iff.1 hj).1];exact hj)).1⟩
theorem GP.gt{w:World}(h:GP w):GT w:=⟨by have:=h.sz;omega,h.tab⟩
theorem op_len{l:List (Int×Int×Int)}:(opS l).length=l.length/\(opT l).length=l.length:=⟨by simp[opS],by simp[opT]⟩
theorem op_fst{l:List (Int×Int×Int)}:(opS l).map Prod.fst=l.map (·.1)/\(opT l).map Prod.fst=l.map (·.1):=⟨by simp[opS,Function.comp_def],by simp[opT,Function.comp_def]⟩
theorem op_In{l:List (Int×Int×Int)}(h: ∀x∈l,(1<=x.1/\x.1<=16)/\In x.2.1/\In x.2.2):(∀p∈opS l,In p.1/\In p.2)/\ ∀p∈opT l,In p.1/\In p.2:=by
 constructor<;>intro p hp
 ·obtain⟨x,hx,rfl⟩:=List.mem_map.1 hp
  exact⟨⟨by have:=(h x hx).1;omega,by have:=(h x hx).1;show x.1<_;omega⟩,(h x hx).2.1⟩
 ·obtain⟨x,hx,rfl⟩:=List.mem_map.1 hp
  exact⟨⟨by have:=(h x hx).1;omega,by have:=(h x hx).1;show x.1<_;omega⟩,(h x hx).2.2⟩
theorem EJN.no{w:World}{v:Value}{es:List Int}(h:EJN w v es)(he:es=[]):v= .nilIface:=h.elim And.left fun⟨_,h⟩=>absurd he h.ne
theorem EJN.yes{w:World}{v:Value}{es:List Int}(h:EJN w v es)(he:es≠[]): ∃T x,v= .iface T x:=h.elim (fun h=>absurd h.2 he) fun⟨_,h⟩=>h.some
theorem EJN.wrap{w:World}{T:TypeId}{x:Value}{es:List Int}(s:ByteArray)(h:EJN w (.iface T x) es):EJN w (FJ s (.iface T x)) es:=h.elim (fun h=>by cases h.1) fun⟨d,h⟩=>.flt s h
theorem bE_ch(p q:Int):bE (chE p q !=0) (chE p q)=bE (!decide (gOk p q)) 90:=by
 unfold chE;by_cases h:gOk p q<;>simp[h,bE]
theorem jItoa(n:Int)(w:World)(hG:GP w)(h: -9223372036854775808<=n/\n<=9223372036854775807):Calls Tryz.prog 38 #[iI n] w fun e u=> ∃s:ByteArray,e= .returned (.string s)/\s.size<=21/\Bw w u:=
 (cItoa n w h.1 h.2 hG).mono fun e u ⟨h1,h2⟩=>⟨_,h1,ia_sz n h.1 h.2,h2⟩
theorem jGroup(p q g h:Int)(w:World)(hp:In p)(hq:In q):Calls Tryz.prog 21 #[GX p q g h] w fun r u=> ∃v,r= .returned v/\EJN u v (bE (!decide (gOk p q)) 90)/\Bw w u:=by
 rw[<-bE_ch]
 have hC:=fun u=>cCheckG p q g h u hp hq
 obtain⟨c,ec⟩:=Z3 (chE p q)
 simp only[ec] at hC⊢
 have hC:Hid _:=hC
 clear ec hp hq
 go_enter Tryz.func21,Tryz.ntmps21
 go_wp2_with (first
  | (go_at_call 49;refine(hC.out _).mono ?_;clear hC;rintro e ua ⟨rfl,hBa⟩)
  | (go_at_call 48;refine(jFound _ _ _).mono ?_;rintro e ub ⟨v,rfl,hv,hBb⟩;have hv:Hid _:=hv))
 exact bodyPost_ret (v:=v) (by simp[results,Tryz.results21,go_sem]) rfl ⟨v,rfl,hv.out,Z7 (Z7 (Z5 (Zf w) _) hBa) hBb⟩
theorem jDealing(p q g h d:Int)(ns:List Int)(v:Value)(w:World)(hG:GP w)(hp:In p)(hq:In q)(hv:NL w v ns)(hns: ∀z∈ns,In z)(hl:ns.length<=50):Calls Tryz.prog 37 #[GX p q g h,DX d v] w fun r u=> ∃v,r= .returned v/\EJN u v (bE (dcE p q d ns !=0) (dcE p q d ns))/\Bw w u:=by
 have hC:Hid (∀u,Bw w u->CC 62 #[GX p q g h,DX d v] u (iI (dcE p q d ns))):=fun u hB=>vCheck p q g h d ns v u (hG.gt.below hB) hp hq (hv.up hB) hns hl
 obtain⟨c,ec⟩:=Z3 (dcE p q d ns)
 simp only[ec] at hC⊢
 obtain⟨sl,gb,go,cap,rfl,_⟩:=hv
 clear ec hp hq hns
 go_enter Tryz.func37,Tryz.ntmps37
 go_wp2_with (first
  | (go_at_call 62;refine(hC.out _ (Z5 (Z5 (Zf w) _) _)).mono ?_;clear hC;rintro e ua ⟨rfl,hBa⟩)
  | (go_at_call 48;refine(jFound _ _ _).mono ?_;rintro e ub ⟨v,rfl,hv,hBb⟩;have hv:Hid _:=hv))
 exact bodyPost_ret (v:=v) (by simp[results,Tryz.results37,go_sem]) rfl ⟨v,rfl,hv.out,Z7 (Z7 (Z5 (Z5 (Zf w) _) _) hBa) hBb⟩
theorem jAtLeast(t:ByteArray)(n l k:Int)(w:World)(hG:GP w)(hn: -9223372036854775808<=n/\n<=9223372036854775807)(ht:t.size<=100):Calls Tryz.prog 22 #[.string t,iI n,iI l,iI k] w fun r u=> ∃v,r= .returned v/\EJN u v (bE (decide (n<l)) k)/\Bw w u:=by
 have m1:=miEj
 have m2:=miFj
 by_cases h:n<l
 ·have hI:=jItoa n w hG hn
  rw[decide_eq_true h]
  have hw1: ¬9223372036854775807<t.size+7:=Z1
  go_enter Tryz.func22,Tryz.ntmps22
  go_wp2_with (go_at_call 38;refine hI.mono ?_;clear hI;rintro e ua ⟨s,rfl,hs,hBa⟩;have hw2: ¬9223372036854775807<t.size+7+s.size:=by omega)
  go_ret;exact⟨_,rfl,.one _ _ k,hBa⟩
 ·rw[decide_eq_false h]
  go_enter Tryz.func22,Tryz.ntmps22
  go_wp2
  exact bodyPost_ret (v:= .nilIface) (by simp[results,Tryz.results22,go_sem]) rfl ⟨_,rfl,.nil _,Below.refl _ _⟩
theorem jAtMost(t:ByteArray)(n:Int)(w:World)(hG:GP w)(hn: -9223372036854775808<=n/\n<=9223372036854775807)(ht:t.size<=100):Calls Tryz.prog 23 #[.string t,iI n] w fun r u=> ∃v,r= .returned v/\EJN u v (bE (!decide (0<=n/\n<=16)) 2)/\Bw w u:=by
 have hI:=jItoa n w hG hn
 have hw1: ¬9223372036854775807<t.size+13:=Z1
 go_enter Tryz.func23,Tryz.ntmps23
 go_wp2_with (first
  | (go_at_call 38;refine hI.mono ?_;clear hI;rintro e ua ⟨s,rfl,hs,hBa⟩;have hw2: ¬9223372036854775807<t.size+13+s.size:=by omega)
  | (go_at_call 50;refine(jWithin _ _ _ _ _).mono ?_;rintro e ub ⟨v,rfl,hv,hBb⟩;have hv:Hid _:=hv))
 exact bodyPost_ret (v:=v) (by simp[results,Tryz.results23,go_sem]) rfl ⟨v,rfl,hv.out,Z7 hBa hBb⟩
theorem jNode(n:Int)(w:World)(hG:GP w)(hn: -9223372036854775808<=n/\n<=9223372036854775807):Calls Tryz.prog 74 #[iI n] w fun r u=> ∃v,r= .returned v/\EJN u v (bE (!ndB n) 2)/\Bw w u:=by
 have hI:=jItoa n w hG hn
 unfold ndB
 go_enter Tryz.func74,Tryz.ntmps74
 go_wp2_with (first
  | (go_at_call 38;refine hI.mono ?_;clear hI;rintro e ua ⟨s,rfl,hs,hBa⟩;have hw2: ¬9223372036854775807<5+s.size:=by omega)
  | (go_at_call 50;refine(jWithin _ _ _ _ _).mono ?_;rintro e ub ⟨v,rfl,hv,hBb⟩;have hv:Hid _:=hv))
 exact bodyPost_ret (v:=v) (by simp[results,Tryz.results74,go_sem]) rfl ⟨v,rfl,hv.out,Z7 hBa hBb⟩
theorem jJoin(vs:List Value)(es:List (List Int))(T:TypeId)(w:World)(hl:vs.length=es.length)(hn:vs.length<=10)(h: ∀i,i<vs.length->EJN w (vs.getD i .nilIface) (es.getD i [])):Calls Tryz.prog 20 #[.slice (some ⟨w.heap.size,0,none⟩) vs.length vs.length] (w.alloc (.cells vs.toArray T)) fun r u=> ∃y,r= .returned y/\EJN u y es.flatten/\Bw w u:=by
 have hB:Bw w (w.alloc (.cells vs.toArray T)):=Z5 (Zf w) _
 refine(cJoinJ vs.length vs.length (some ⟨w.heap.size,0,none⟩) (fun i=>vs.getD i .nilIface) (fun i=>es.getD i []) _ Z1 (fun _=>⟨w.heap.size,0,rfl,by simp,fun i hi=>?_⟩) (fun i hi=>(h i hi).up hB)).mono fun r u ⟨y,e1,e2,e3⟩=>⟨y,e1,?_,Z7 hB e3⟩
 ·rw[Nat.zero_add];exact((CV.new w vs T) i _ (by simp[List.getElem?_eq_getElem hi])).1
 ·rwa [hl,range_getD] at e2
theorem Tj{u w:World}{g o:Nat}{l:List Value}(hB:Bw w u)(hg:g<w.heap.size)(h:w.rangeAt g o l):u.rangeAt g o l:=fun j v hj=>(hB.cell (p:=⟨g,o+j,none⟩) hg).trans (h j v hj)
theorem nds_dr(l:List (Int×Int×Int))(i:Nat)(h:i<l.length):ndsB (l.drop i)=(ndB (l.getD i (0,0,0)).1&&ndsB (l.drop (i+1))):=by
 rw[List.drop_eq_getElem_cons h,ndsB,List.all_cons,<-ndsB,List.getD_eq_getElem?_getD,List.getElem?_eq_getElem h];rfl
abbrev R64(n:Int):Prop:= -9223372036854775808<=n/\n<=9223372036854775807
theorem ofNodes_core(sl:Option Addr)(gb go cap:Nat)(l:List (Int×Int×Int))(b:Bool)(w:World)(hG:GP w)(hix:Hid (∀j,j<l.length-> ∀W,(Instr.indexAt 28 (.slice sl l.length cap) (iI j)).run Tryz.prog W= .ok (.pointer (some ⟨gb,go+9*j,none⟩)) W))(hg:l.length=0\/gb<w.heap.size)(hS:Hid (∀j,j<l.length->w.rangeAt gb (go+9*j) (SE (l.getD j (0,0,0)).1 (l.getD j (0,0,0)).2.1 (l.getD j (0,0,0)).2.2)))(hl0:l.length<=1000)(hr:Hid (∀j,j<l.length->R64 (l.getD j (0,0,0)).1))(hb:Hid (ndsB l=b)):
 Calls Tryz.prog 51 #[.slice sl l.length cap] w fun r u=> ∃v,r= .returned v/\EJN u v (bE (!b) 2)/\Bw w u:=by
 have m2:=miFj
 have m3:=bdFj
 go_enter Tryz.func51,Tryz.ntmps51
 go_wp2_with fail
 go_loopw [8] (fun s8 wr=> ∃i:Nat,i<=l.length/\s8=iI (i:Int)/\Hid (ndsB (l.drop i)=b)/\Bw w wr) (fun s8 _=>l.length -(intOf s8).toNat)
 case atStart=>exact⟨0,Z1,rfl,by rw[List.drop_zero];exact hb,Below.refl _ _⟩
 case round=>
  obtain⟨i,hi,rfl,ht,HBr⟩:=hrel
  by_cases hj:i<l.length
  ·have hl:(i:Int)<(l.length:Int):=Z1
   have hX:=hix.out i hj
   have hR:=Tj HBr (hg.resolve_left Z1) (hS.out i hj)
   have hn0:=hr.out i hj
   have ht2:=ht.out
   rw[nds_dr l i hj] at ht2
   have e1:IntKind.i64.wrap ((i:Int)+1)=((i+1:Nat):Int):=by rw[IntKind.wrap_i64];omega
   generalize l.getD i (0,0,0)=x at *
   obtain⟨n,s,t⟩:=x
   simp only at hR hn0 ht2
   have c0:wr.cell? ⟨gb,go+9*i,none⟩=some (iI n):=hR 0 _ rfl
   have c1:=hR 1 _ rfl
   have c2:=hR 2 _ rfl
   have c3:=hR 3 _ rfl
   have c4:=hR 4 _ rfl
   have c5:=hR 5 _ rfl
   have c6:=hR 6 _ rfl
   have c7:=hR 7 _ rfl
   have c8:=hR 8 _ rfl
   clear hR
   have hN:Hid (∀u,Bw w u->_):=fun u hB=>jNode n u (hG.below hB) hn0
   have hI:Hid (∀u,Bw w u->_):=fun u hB=>jItoa i u (hG.below hB) ⟨Z1,Z1⟩
   cases hn:ndB n
   ·rw[hn] at ht2
    have ht2:Hid _:=ht2
    go_wp2_with (first
     | (go_at_call 74;refine(hN.out _ (Z5 HBr _)).mono ?_;clear hN;rintro e ua ⟨v,rfl,hv,hBa⟩;replace hBa:=Z7 (Z5 HBr _) hBa;rw[hn] at hv;obtain⟨T,x,rfl⟩:=hv.yes (List.cons_ne_nil _ _);have hv:Hid _:=hv)
     | (go_at_call 38;refine(hI.out _ hBa).mono ?_;clear hI;rintro e ub ⟨s,rfl,hs,hBb⟩;have hw2: ¬9223372036854775807<6+s.size:=by omega))
    have e2:b=false:=ht2.out.symm
    subst e2
    go_ret;exact⟨_,rfl,.wrap _ (EJN.up hBb hv.out),Z7 hBa hBb⟩
   ·rw[hn,Bool.true_and] at ht2
    have ht2:Hid _:=ht2
    go_wp2_with (go_at_call 74;refine(hN.out _ (Z5 HBr _)).mono ?_;clear hN;rintro e ua ⟨v,rfl,hv,hBa⟩;rw[hn] at hv;have hv:=hv.no rfl;subst hv)
    exact⟨⟨i+1,Z1,by simp,ht2,Z7 (Z5 HBr _) hBa⟩,by simp[intOf];omega⟩
  ·have hl: ¬(i:Int)<(l.length:Int):=Z1
   go_wp2
   have ht3:=ht.out
   rw[List.drop_eq_nil_of_le Z1] at ht3
   subst ht3
   exact bodyPost_ret (v:= .nilIface) (by simp[results,Tryz.results51,go_sem]) rfl ⟨_,rfl,.nil _,HBr⟩
theorem jNodes(l:List (Int×Int×Int))(v:Value)(w:World)(hG:GP w)(hv:ShL w v l)(hl:l.length<=1000)(hr: ∀x∈l,R64 x.1):Calls Tryz.prog 51 #[v] w fun r u=> ∃v,r= .returned v/\EJN u v (bE (!ndsB l) 2)/\Bw w u:=by
 obtain⟨sl,gb,go,cap,rfl,h2,h3,h4,h5,h6⟩:=hv
 exact ofNodes_core sl gb go cap l _ w hG (sh_ix h4) h5 (sh_pt h6) hl (fun j hj=>hr _ (by simp[List.getElem?_eq_getElem hj])) rfl
theorem bsNj(x:Int)(w:World):(Instr.buildSlice 31 1 #[(0,NV x)]).run Tryz.prog w= .ok (.slice (some ⟨w.heap.size,0,none⟩) 1 1) (w.alloc (.cells (LN x:List Value).toArray 24)):=by kernel_rfl
structure DM(w:World)(sl:Option Addr)(gb go n cap:Nat)(dn:Nat->Int)(sy:Nat->Option Addr)(ns:Nat->List Int)(cy gy oy:Nat->Nat):Prop where
 ix: ∀j,j<n-> ∀W,(Instr.indexAt 27 (.slice sl n cap) (iI j)).run Tryz.prog W= .ok (.pointer (some ⟨gb,go+2*j,none⟩)) W
 lt:n=0\/gb<w.heap.size
 at_: ∀j,j<n->w.rangeAt gb (go+2*j) (DE (dn j) (.slice (sy j) (ns j).length (cy j)))
 ixn: ∀j,j<n-> ∀k,k<(ns j).length-> ∀W,(Instr.indexAt 31 (.slice (sy j) (ns j).length (cy j)) (iI k)).run Tryz.prog W= .ok (.pointer (some ⟨gy j,oy j+4*k,none⟩)) W
 ltn: ∀j,j<n->(ns j).length=0\/gy j<w.heap.size
 atn: ∀j,j<n->SN w (gy j) (oy j) (ns j)
 nl: ∀j,j<n->NL w (.slice (sy j) (ns j).length (cy j)) (ns j)
theorem allAt_core(sl:Option Addr)(gb go n cap k:Nat)(dn:Nat->Int)(sy:Nat->Option Addr)(ns:Nat->List Int)(cy gy oy:Nat->Nat)(aa:Nat->List Int)(w:World)(hD:DM w sl gb go n cap dn sy ns cy gy oy)(hn:n<=1000)(hk:k<=1000)(ha0:aa 0=[])(hal:Hid (∀j,(aa j).length<=j))(ha1:Hid (∀j,j<n->aa (j+1)=if k<(ns j).length then aa j++[(ns j).getD k 0] else aa j)):
 Calls Tryz.prog 41 #[iI (k:Int),.slice sl n cap] w fun r u=> ∃v,r= .returned v/\(∃b,OR w.heap.size 4 (aa n).length (flN (aa n)) b u v)/\Bw w u:=by
 have hb1:=bsNj
 have hD:Hid _:=hD
 go_enter Tryz.func41,Tryz.ntmps41
 go_wp2_with fail
 go_loopw [10,5] (fun s10 s5 wr=> ∃(i b:Nat) (v:Value),i<=n/\s10=iI (i:Int)/\v=s5/\Hid (OR w.heap.size 4 (aa i).length (flN (aa i)) b wr v)/\Bw w wr) (fun s10 _ _=>n -(intOf s10).toNat)
 case atStart=>exact⟨0,0,_,Z1,rfl,rfl,by rw[ha0];exact OR.nil _ _ _ _,Below.refl _ _⟩
 case round=>
  obtain⟨i,b,v,hi,rfl,rfl,hO,HBr⟩:=hrel
  obtain⟨so,co,eo⟩:=hO.out.sl
  subst eo
  by_cases hj:i<n
  ·have hl:(i:Int)<(n:Int):=Z1
   have hX:=hD.out.ix i hj
   have hR:=Tj HBr (hD.out.lt.resolve_left Z1) (hD.out.at_ i hj)
   have c0:wr.cell? ⟨gb,go+2*i,none⟩=some (iI (dn i)):=hR 0 _ rfl
   have c1:=hR 1 _ rfl
   clear hR
   have ha:=ha1.out i hj
   have e1:IntKind.i64.wrap ((i:Int)+1)=((i+1:Nat):Int):=by rw[IntKind.wrap_i64];omega
   by_cases hc:k<(ns i).length
   ·have hc':(k:Int)<((ns i).length:Int):=Z1
    rw[if_pos hc] at ha
    have hY:=hD.out.ixn i hj k hc
    have hR0:=(hD.out.atn i hj).at k hc
    have hgy:=(hD.out.ltn i hj).resolve_left Z1
    generalize (ns i).getD k 0=x at *
    have hal1:=hal.out i
    have hO2:=hO.out.stab (Z5 (Zf wr) (.cells (DE (dn i) (.slice (sy i) (ns i).length (cy i)):List Value).toArray 33))
    obtain⟨v2,uc,b2,r2,hg2,hO3,hb2,_,hB2⟩:=app_or (T:=31) (E:=24) (ty:=31) Tryz.underlying31 infoN rfl Z2 hO2 (by have:=HBr.size;simp;omega) Z1 (news:=LN x) rfl (one_N x)
    have hR2:=Tj HBr hgy hR0
    have d0:wr.cell? ⟨gy i,oy i+4*k,none⟩=some (iU (D0 x)):=hR2 0 _ rfl
    have d1:=hR2 1 _ rfl
    have d2:=hR2 2 _ rfl
    have d3:=hR2 3 _ rfl
    have hgy2:gy i<wr.heap.size:=Nat.lt_of_lt_of_le hgy HBr.size
    clear hR2
    have hBc:Bw w uc:=(Z5 HBr _).trans hB2
    clear hO2 hg2 hB2 hR0
    have hO3:Hid _:=hO3
    have ha:Hid _:=ha
    rw[World.size_alloc] at r2
    go_wp2_with (at_builtin;refine Y2 rfl _ _ 31 rfl _ _ _ rfl rfl r2 ?_;clear r2)
    refine⟨⟨i+1,b2,_,Z1,by simp,rfl,?_,hBc⟩,by simp[intOf];omega⟩
    rw[ha.out,Xn,List.length_append];exact hO3.out
   ·have hc': ¬(k:Int)<((ns i).length:Int):=Z1
    rw[if_neg hc] at ha
    have ha:Hid _:=ha
    go_wp2
    refine⟨⟨i+1,b,_,Z1,by simp,rfl,?_,Z5 HBr _⟩,by simp[intOf];omega⟩
    rw[ha.out];exact hO.out.stab (Z5 (Zf wr) _)
  ·have hl: ¬(i:Int)<(n:Int):=Z1
   obtain rfl:i=n:=Z1
   go_wp2
   exact bodyPost_ret (v:= .slice so (aa i).length co) (by simp[results,Tryz.results41,go_sem]) rfl ⟨_,rfl,⟨b,hO.out⟩,HBr⟩
theorem Hid.on{p:Prop}(h:p):Hid p:=h
theorem DM.up{w u:World}{sl:Option Addr}{gb go n cap:Nat}{dn:Nat->Int}{sy:Nat->Option Addr}{ns:Nat->List Int}{cy gy oy:Nat->Nat}(h:DM w sl gb go n cap dn sy ns cy gy oy)(hB:Bw w u):DM u sl gb go n cap dn sy ns cy gy oy:=
 ⟨h.ix,h.lt.imp id fun e=>Nat.lt_of_lt_of_le e hB.size,fun j hj=>Tj hB (h.lt.resolve_left Z1) (h.at_ j hj),h.ixn,fun j hj=>(h.ltn j hj).imp id fun e=>Nat.lt_of_lt_of_le e hB.size,fun j hj=>(h.atn j hj).below2 hB (h.ltn j hj),fun j hj=>(h.nl j hj).up hB⟩
def DL(w:World)(v:Value)(ds:List (Int×List Int)):Prop:= ∃sl gb go cap sy cy gy oy,v= .slice sl ds.length cap/\(sl=none->cap=0)/\ds.length<=cap/\(ds=[]\/sl=some ⟨gb,go,none⟩)/\DM w sl gb go ds.length cap (fun j=>(ds.getD j (0,[])).1) sy (fun j=>(ds.getD j (0,[])).2) cy gy oy
theorem DL.up{w u:World}{v:Value}{ds:List (Int×List Int)}(h:DL w v ds)(hB:Bw w u):DL u v ds:=by
 obtain⟨sl,gb,go,cap,sy,cy,gy,oy,h1,h2,h3,h4,h5⟩:=h
 exact⟨sl,gb,go,cap,sy,cy,gy,oy,h1,h2,h3,h4,h5.up hB⟩
def nosB(ds:List (Int×List Int)):Bool:=ds.all fun d=>noB d.2
theorem all_dr{α:Type}(p:α->Bool)(l:List α)(d:α)(i:Nat)(h:i<l.length):(l.drop i).all p=(p (l.getD i d)&&(l.drop (i+1)).all p):=by
 rw[List.drop_eq_getElem_cons h,List.all_cons,List.getD_eq_getElem?_getD,List.getElem?_eq_getElem h];rfl
theorem ofNought_core(sl:Option Addr)(gb go cap:Nat)(ds:List (Int×List Int))(sy:Nat->Option Addr)(cy gy oy:Nat->Nat)(b:Bool)(w:World)(hG:GP w)(hD:Hid (DM w sl gb go ds.length cap (fun j=>(ds.getD j (0,[])).1) sy (fun j=>(ds.getD j (0,[])).2) cy gy oy))(hl0:ds.length<=1000)(hIn:Hid (∀j,j<ds.length-> ∀z∈(ds.getD j (0,[])).2,In z))(hb:Hid (nosB ds=b)):
 Calls Tryz.prog 35 #[.slice sl ds.length cap] w fun r u=> ∃v,r= .returned v/\EJN u v (bE (!b) 110)/\Bw w u:=by
 have m1:=miEj
 have m2:=miFj
 have m3:=bdFj
 go_enter Tryz.func35,Tryz.ntmps35
 go_wp2_with fail
 go_loopw [7] (fun s7 wr=> ∃i:Nat,i<=ds.length/\s7=iI (i:Int)/\Hid (nosB (ds.drop i)=b)/\Bw w wr) (fun s7 _=>ds.length -(intOf s7).toNat)
 case atStart=>exact⟨0,Z1,rfl,by rw[List.drop_zero];exact hb,Below.refl _ _⟩
 case round=>
  obtain⟨i,hi,rfl,ht,HBr⟩:=hrel
  by_cases hj:i<ds.length
  ·have hl:(i:Int)<(ds.length:Int):=Z1
   have hX:=hD.out.ix i hj
   have hR:=Tj HBr (hD.out.lt.resolve_left Z1) (hD.out.at_ i hj)
   have hn0:=hIn.out i hj
   have hv0:=hD.out.nl i hj
   have ht2:=ht.out
   rw[nosB,all_dr _ _ (0,[]) i hj,<-nosB] at ht2
   have e1:IntKind.i64.wrap ((i:Int)+1)=((i+1:Nat):Int):=by rw[IntKind.wrap_i64];omega
   generalize ds.getD i (0,[])=x at *
   obtain⟨n,ns⟩:=x
   simp only at hR hn0 hv0 ht2
   have c0:wr.cell? ⟨gb,go+2*i,none⟩=some (iI n):=hR 0 _ rfl
   have c1:=hR 1 _ rfl
   clear hR
   have hN:Hid (∀u,Bw w u->_):=fun u hB=>vNought n ns _ u (hv0.up hB) hn0
   have hI:Hid (∀u,Bw w u->_):=fun u hB=>jItoa i u (hG.below hB) ⟨Z1,Z1⟩
   clear hv0 hn0
   cases hn:noB ns
   ·rw[hn] at ht2
    have ht2:Hid _:=ht2
    go_wp2_with (first
     | (go_at_call 61;refine(hN.out _ (Z5 HBr _)).mono ?_;clear hN;rw[hn];rintro e ua ⟨rfl,hBa⟩;replace hBa:=Z7 (Z5 HBr _) hBa)
     | (go_at_call 38;refine(hI.out _ hBa).mono ?_;clear hI;rintro e ub ⟨s,rfl,hs,hBb⟩;have hw2: ¬9223372036854775807<6+s.size:=by omega))
    have e2:b=false:=ht2.out.symm
    subst e2
    go_ret;exact⟨_,rfl,.wrap _ (.one _ _ 110),Z7 hBa hBb⟩
   ·rw[hn,Bool.true_and] at ht2
    have ht2:Hid _:=ht2
    go_wp2_with (go_at_call 61;refine(hN.out _ (Z5 HBr _)).mono ?_;clear hN;rw[hn];rintro e ua ⟨rfl,hBa⟩)
    exact⟨⟨i+1,Z1,by simp,ht2,Z7 (Z5 HBr _) hBa⟩,by simp[intOf];omega⟩
  ·have hl: ¬(i:Int)<(ds.length:Int):=Z1
   go_wp2
   have ht3:=ht.out
   rw[List.drop_eq_nil_of_le Z1] at ht3
   subst ht3
   exact bodyPost_ret (v:= .nilIface) (by simp[results,Tryz.results35,go_sem]) rfl ⟨_,rfl,.nil _,HBr⟩
theorem jNought(ds:List (Int×List Int))(v:Value)(w:World)(hG:GP w)(hv:DL w v ds)(hl:ds.length<=1000)(hIn: ∀d∈ds,∀z∈d.2,In z):Calls Tryz.prog 35 #[v] w fun r u=> ∃v,r= .returned v/\EJN u v (bE (!nosB ds) 110)/\Bw w u:=by
 obtain⟨sl,gb,go,cap,sy,cy,gy,oy,rfl,h2,h3,h4,h5⟩:=hv
 exact ofNought_core sl gb go cap ds sy cy gy oy _ w hG h5 hl (fun j hj=>hIn _ (by simp[List.getElem?_eq_getElem hj])) rfl
def sameB(l:List (Int×Int×Int)):Bool:=l.all fun x=>x.1==(l.getD 0 (0,0,0)).1
theorem ofOne_core(sl:Option Addr)(gb go cap:Nat)(l:List (Int×Int×Int))(m:Int)(b:Bool)(w:World)(hG:GP w)(hix:Hid (∀j,j<l.length-> ∀W,(Instr.indexAt 28 (.slice sl l.length cap) (iI j)).run Tryz.prog W= .ok (.pointer (some ⟨gb,go+9*j,none⟩)) W))(hg:l.length=0\/gb<w.heap.size)(hS:Hid (∀j,j<l.length->w.rangeAt gb (go+9*j) (SE (l.getD j (0,0,0)).1 (l.getD j (0,0,0)).2.1 (l.getD j (0,0,0)).2.2)))(hl0:l.length<=1000)(hm:Hid ((l.getD 0 (0,0,0)).1=m))(hb:Hid ((l.all fun x=>x.1==m)=b))(hN:Hid (∀u,Bw w u->Calls Tryz.prog 51 #[.slice sl l.length cap] u fun r u'=> ∃v,r= .returned v/\EJN u' v (bE (!ndsB l) 2)/\Bw u u')):
 Calls Tryz.prog 24 #[.slice sl l.length cap] w fun r u=> ∃v,r= .returned v/\EJN u v (bE (!(b&&ndsB l)) 2)/\Bw w u:=by
 have m1:=miEj
 have m2:=miFj
 have m3:=bdFj
 go_enter Tryz.func24,Tryz.ntmps24
 go_wp2_with fail
 go_loopw [7] (fun s7 wr=> ∃i:Nat,i<=l.length/\s7=iI (i:Int)/\Hid (((l.drop i).all fun x=>x.1==m)=b)/\Bw w wr) (fun s7 _=>l.length -(intOf s7).toNat)
 case atStart=>exact⟨0,Z1,rfl,by rw[List.drop_zero];exact hb,Below.refl _ _⟩
 case round=>
  obtain⟨i,hi,rfl,ht,HBr⟩:=hrel
  by_cases hj:i<l.length
  ·have hl:(i:Int)<(l.length:Int):=Z1
   have hX:=hix.out i hj
   have hX0: ∀W,(Instr.indexAt 28 (.slice sl l.length cap) (iI 0)).run Tryz.prog W= .ok (.pointer (some ⟨gb,go,none⟩)) W:=fun W=>hix.out 0 Z1 W
   have hgb:=hg.resolve_left Z1
   have hR:=Tj HBr hgb (hS.out i hj)
   have f0: ∀o,(wr.alloc o).cell? ⟨gb,go,none⟩=some (iI m):=fun o=>by rw[World.cell?_alloc_past _ _ _ (Nat.lt_of_lt_of_le hgb HBr.size)];have:=Tj HBr hgb (hS.out 0 Z1) 0 _ rfl;rw[hm.out] at this;exact this
   have ht2:=ht.out
   rw[all_dr _ _ (0,0,0) i hj] at ht2
   have e1:IntKind.i64.wrap ((i:Int)+1)=((i+1:Nat):Int):=by rw[IntKind.wrap_i64];omega
   have hI:Hid (∀u,Bw w u->_):=fun u hB=>jItoa i u (hG.below hB) ⟨Z1,Z1⟩
   generalize l.getD i (0,0,0)=x at *
   obtain⟨n,s,t⟩:=x
   simp only at hR ht2
   have c0:wr.cell? ⟨gb,go+9*i,none⟩=some (iI n):=hR 0 _ rfl
   have c1:=hR 1 _ rfl
   have c2:=hR 2 _ rfl
   have c3:=hR 3 _ rfl
   have c4:=hR 4 _ rfl
   have c5:=hR 5 _ rfl
   have c6:=hR 6 _ rfl
   have c7:=hR 7 _ rfl
   have c8:=hR 8 _ rfl
   clear hR
   by_cases hn:n=m
   ·subst hn
    rw[beq_self_eq_true,Bool.true_and] at ht2
    have ht2:Hid _:=ht2
    go_wp2
    go_region
    all_goals (try go_wp2)
    all_goals exact⟨⟨i+1,Z1,by simp,ht2,(Z5 HBr _).drew⟩,by simp[intOf];omega⟩
   ·rw[beq_eq_false_iff_ne.2 hn] at ht2
    have e2:b=false:=ht2.symm
    subst e2
    clear ht2
    go_wp2
    go_region
    all_goals go_wp2_with (go_at_call 38;refine(hI.out _ ((Z5 HBr _).drew)).mono ?_;clear hI;rintro e ub ⟨s,rfl,hs,hBb⟩;have hw2: ¬9223372036854775807<6+s.size:=by omega)
    all_goals (go_ret;exact⟨_,rfl,.wrap _ (.one _ _ 2),Z7 ((Z5 HBr _).drew) hBb⟩)
  ·have hl: ¬(i:Int)<(l.length:Int):=Z1
   have ht3:=ht.out
   rw[List.drop_eq_nil_of_le Z1] at ht3
   subst ht3
   go_wp2_with (go_at_call 51;refine(hN.out _ HBr).mono ?_;clear hN;rintro e ub ⟨v,rfl,hv,hBb⟩;have hv:Hid _:=hv)
   exact bodyPost_ret (v:=v) (by simp[results,Tryz.results24,go_sem]) rfl ⟨_,rfl,hv.out,Z7 HBr hBb⟩
theorem jOneNode(l:List (Int×Int×Int))(v:Value)(w:World)(hG:GP w)(hv:ShL w v l)(hl:l.length<=1000)(hr: ∀x∈l,R64 x.1):Calls Tryz.prog 24 #[v] w fun r u=> ∃v,r= .returned v/\EJN u v (bE (!(sameB l&&ndsB l)) 2)/\Bw w u:=by
 have hN:Hid (∀u,Bw w u->_):=fun u hB=>jNodes l v u (hG.below hB) (hv.up hB) hl hr
 obtain⟨sl,gb,go,cap,rfl,h2,h3,h4,h5,h6⟩:=hv
 exact ofOne_core sl gb go cap l _ _ w hG (sh_ix h4) h5 (sh_pt h6) hl rfl rfl hN
theorem jJoin2{x y:Value}{a b:List Int}{w:World}(h1:EJN w x a)(h2:EJN w y b):Calls Tryz.prog 20 #[.slice (some ⟨w.heap.size,0,none⟩) 2 2] (w.alloc (.cells #[x,y] 49)) fun r u=> ∃v,r= .returned v/\EJN u v (a++b)/\Bw w u:=by
 have h:=jJoin [x,y] [a,b] 49 w rfl (by simp) (fun i hi=>match i,hi with | 0,_=>h1 | 1,_=>h2 | i+2,h=>absurd h (by simp))
 simp only[List.flatten_cons,List.flatten_nil,List.append_nil] at h
 exact h
theorem jJoin3{x y z:Value}{a b c:List Int}{w:World}(h1:EJN w x a)(h2:EJN w y b)(h3:EJN w z c):Calls Tryz.prog 20 #[.slice (some ⟨w.heap.size,0,none⟩) 3 3] (w.alloc (.cells #[x,y,z] 49)) fun r u=> ∃v,r= .returned v/\EJN u v (a++(b++c))/\Bw w u:=by
 have h:=jJoin [x,y,z] [a,b,c] 49 w rfl (by simp) (fun i hi=>match i,hi with | 0,_=>h1 | 1,_=>h2 | 2,_=>h3 | i+3,h=>absurd h (by simp))
 simp only[List.flatten_cons,List.flatten_nil,List.append_nil] at h
 exact h
theorem jJoin4{x y z v:Value}{a b c d:List Int}{w:World}(h1:EJN w x a)(h2:EJN w y b)(h3:EJN w z c)(h4:EJN w v d):Calls Tryz.prog 20 #[.slice (some ⟨w.heap.size,0,none⟩) 4 4] (w.alloc (.cells #[x,y,z,v] 49)) fun r u=> ∃v,r= .returned v/\EJN u v (a++(b++(c++d)))/\Bw w u:=by
 have h:=jJoin [x,y,z,v] [a,b,c,d] 49 w rfl (by simp) (fun i hi=>match i,hi with | 0,_=>h1 | 1,_=>h2 | 2,_=>h3 | 3,_=>h4 | i+4,h=>absurd h (by simp))
 simp only[List.flatten_cons,List.flatten_nil,List.append_nil] at h
 exact h
end
section
open Go.ChangeShapes Go.WideShapes Go.ChangeAt Go.RowKit
theorem nats_row(L:Nat){H:Type}{enc:TypeId×Value->H}{W:World}{fuel:Nat}{cs:List Value}{x:DataW H×List MemPlace}(hf:DataW.trod enc Tryz.prog W 0 (fun _=>true) true fuel 31 cs=some x):
 ∃sl len cap gb go,∃ns:List Int,cs=[.slice sl len cap]/\(min len L)=ns.length/\len<=cap/\(sl=none->cap=0)/\(cap=0\/sl=some ⟨gb,go,none⟩)/\(ns.length=0\/gb<W.heap.size)/\SN W gb go ns/\ ∀z∈ns,In z:=by
 rcases Go.Deep.open_slice Tryz.underlying31 hf with⟨hcs,hx⟩ | ⟨ad,len,cap,m,n,D,Pl,hcs,hbs,hl,hm,hmm,hx,hall⟩
 ·exact⟨_,_,_,0,0,[],hcs,by simp,Nat.le_refl _,fun _=>rfl,.inl rfl,.inl rfl,SN.empty rfl,fun z hz=>(by cases hz)⟩
 ·subst hcs
  simp only[if_true] at hmm
  by_cases h0:cap=0
  ·subst h0
   have e:len=0:=Z1
   subst e
   exact⟨_,_,_,0,0,[],rfl,by simp,Nat.le_refl _,fun _=>rfl,.inl rfl,.inl rfl,SN.empty rfl,fun z hz=>(by cases hz)⟩
  ·have hrow: ∀i,i<cap-> ∃z,In z/\ ∀c v,(LN z)[c]?=some v->W.cell? ((ad.add (i*4)).add c)=some v:=fun i hi=>by
    obtain⟨cs,k1,k2⟩:=hall i (by rw[hmm];exact hi)
    rw[Tryz.cells24] at k1
    exact row_nat k1 k2
   obtain⟨gb,go,spot⟩:=ad
   have hspot:spot=none:=by
    obtain⟨z,_,hz⟩:=hrow 0 Z1
    have:=hz 0 _ rfl
    simpa [Addr.add] using World.cell?_spot this
   subst hspot
   have hadd: ∀i c:Nat,((⟨gb,go,none⟩:Addr).add (i*4)).add c=⟨gb,go+(i*4+c),none⟩:=fun i c=>by unfold Addr.add;(repeat' split)<;>simp_all<;>omega
   obtain⟨ns,hnl,hnp⟩:=list_ofP (min len L) (fun i hi=>hrow i Z1)
   have hblk:gb<W.heap.size:=by
    obtain⟨z,_,hz⟩:=hrow 0 Z1
    have:=hz 0 _ rfl
    rw[hadd] at this
    exact World.block_lt_of_cell? W _ this
   refine⟨_,_,_,gb,go,ns,rfl,hnl.symm,hl,fun e=>(by cases e),.inr rfl,.inr hblk,SN.of (fun i hi c v hv=>?_),fun z hz=>?_⟩
   ·have:=(hnp i Z1).2 c v hv
    rwa [hadd] at this
   ·obtain⟨j,hj,rfl⟩:=List.mem_iff_getElem.1 hz
    have:=(hnp j Z1).1
    simpa [List.getElem?_eq_getElem hj] using this
theorem Tryz.cells33:Tryz.prog.cellsOf 33=2:=by kernel_rfl
theorem Tryz.cells39:Tryz.prog.cellsOf 39=9:=by kernel_rfl
theorem Tryz.cells31:Tryz.prog.cellsOf 31=1:=by kernel_rfl
theorem int_of{x:Int}(h:(Lit.int .i64 x).wf=true): -9223372036854775808<=x/\x<9223372036854775808:=by
 simp[Lit.wf,IntKind.min,IntKind.max,IntKind.signed,IntKind.bits] at h;omega
abbrev gS(l:List (Int×Int×Int))(i:Nat):Int×Int×Int:=l.getD i (0,0,0)
theorem list_ofS{p:Nat->Int×Int×Int->Prop}: ∀n,(∀i,i<n-> ∃z,p i z)-> ∃l:List (Int×Int×Int),l.length=n/\ ∀i,i<n->p i (gS l i)
 | 0,_=>⟨[],rfl,fun i hi=>Z1⟩
 | n+1,h=>by
  obtain⟨ns,hl,hp⟩:=list_ofS n (fun i hi=>h i Z1)
  obtain⟨z,hz⟩:=h n Z1
  refine⟨ns++[z],by simp[hl],fun i hi=>?_⟩
  by_cases e:i=n
  ·subst e
   have:gS (ns++[z]) i=z:=by rw[<-hl];simp[gS]
   rw[this];exact hz
  ·have:gS (ns++[z]) i=gS ns i:=by simp[gS,List.getElem?_append_left (show i<ns.length by omega)]
   rw[this];exact hp i Z1
theorem flS_atg: ∀(l:List (Int×Int×Int)) (j:Nat) (v:Value),(flS l)[j]?=some v->j/9<l.length/\(SE (gS l (j/9)).1 (gS l (j/9)).2.1 (gS l (j/9)).2.2)[j%9]?=some v
 | [],j,v,h=>by simp[flS] at h
 | n::r,j,v,h=>by
  rw[flS] at h
  by_cases hj:j<9
  ·rw[List.getElem?_append_left (by show j<9;exact hj)] at h
   rw[show j/9=0 by omega,show j%9=j by omega]
   exact⟨by simp,by simpa [gS] using h⟩
  ·rw[List.getElem?_append_right (by show 9<=j;omega)] at h
   have h:(flS r)[j -9]?=some v:=h
   have:=flS_atg r (j -9) v h
   rw[show j/9=(j -9)/9+1 by omega,show j%9=(j -9)%9 by omega]
   exact⟨by simpa using this.1,by simpa [gS] using this.2⟩
theorem shareCells{H:Type}{enc:TypeId×Value->H}{W:World}{bs fuel:Nat}{sp:Nat->Bool}{held:Bool}{l:List Value}{x:DataW H×List MemPlace}(hf:DataW.trod enc Tryz.prog W bs sp held fuel 39 l=some x):
 ∃n s t,l=SE n s t/\(-9223372036854775808<=n/\n<9223372036854775808)/\In s/\In t:=by
 obtain⟨y0,y1,y2,m,_,hl,h0,h1,h2⟩:=Go.Deep.trod_struct3 Tryz.underlying39 hf
 rw[Tryz.cells39] at hl
 have h0:DataW.trod enc Tryz.prog W bs sp held m 3 ((l.drop 0).take (Tryz.prog.cellsOf 3))=some y0:=h0
 have h1:DataW.trod enc Tryz.prog W bs sp held m 24 ((l.drop 1).take (Tryz.prog.cellsOf 24))=some y1:=h1
 have h2:DataW.trod enc Tryz.prog W bs sp held m 24 ((l.drop 5).take (Tryz.prog.cellsOf 24))=some y2:=h2
 rw[cellsI] at h0
 rw[Tryz.cells24] at h1 h2
 match l,hl,h0,h1,h2 with
 | [c0,c1,c2,c3,c4,c5,c6,c7,c8],_,h0,h1,h2=>
  obtain⟨n,e0,_,w0⟩:=DataW.trod_int Tryz.underlying3 h0
  obtain⟨s,hs,es⟩:=trodN h1
  obtain⟨t,ht,et⟩:=trodN h2
  simp at e0
  refine⟨n,s,t,?_,int_of w0,hs,ht⟩
  have e:SE n s t=iI n::(LN s++LN t):=rfl
  rw[e,<-es,<-et,e0];rfl
theorem row_share{H:Type}{enc:TypeId×Value->H}{W:World}{bs fuel base:Nat}{sp:Nat->Bool}{held:Bool}{a:Addr}{cs:List Value}{x:DataW H×List MemPlace}(h1:W.cells? base a 9=some cs)(h:DataW.trod enc Tryz.prog W bs sp held fuel 39 cs=some x):
 ∃z:Int×Int×Int,((-9223372036854775808<=z.1/\z.1<9223372036854775808)/\In z.2.1/\In z.2.2)/\ ∀c v,(SE z.1 z.2.1 z.2.2)[c]?=some v->W.cell? (a.add c)=some v:=by
 obtain⟨_,hl,hc⟩:=World.cells?_some h1
 obtain⟨n,s,t,rfl,hn,hs,ht⟩:=shareCells h
 refine⟨(n,s,t),⟨hn,hs,ht⟩,fun c v hv=>?_⟩
 have hlt:c<9:=(List.getElem?_eq_some_iff.1 hv).1
 rw[hc c hlt];exact hv
theorem open_shares(L:Nat){H:Type}{enc:TypeId×Value->H}{W:World}{base:Nat}{v0:Value}{x:DataW H}{p:List MemPlace}(hv:Value.okWide Tryz.prog W .any base 28 v0)(h:DataW.Trod enc Tryz.prog W 0 (fun _=>true) true 28 v0 x p):
 ∃sl len cap gb go,∃ns:List (Int×Int×Int),v0= .slice sl len cap/\(min len L)=ns.length/\len<=cap/\(sl=none->cap=0)/\(cap=0\/sl=some ⟨gb,go,none⟩)/\(ns.length=0\/gb<W.heap.size)/\(∀j v,(flS ns)[j]?=some v->W.cell? ⟨gb,go+j,none⟩=some v)/\ ∀z∈ns,(-9223372036854775808<=z.1/\z.1<9223372036854775808)/\In z.2.1/\In z.2.2:=by
 obtain⟨a0,len,cap,rfl⟩:=okWide_slice Tryz.underlying28 hv
 obtain⟨fuel,hf⟩:=h
 rcases Go.Deep.open_slice Tryz.underlying28 hf with⟨hcs,hx⟩ | ⟨ad,len',cap',m,n,D,Pl,hcs,hbs,hl,hm,hmm,hx,hall⟩
 ·simp[Value.cells] at hcs
  obtain⟨rfl,rfl,rfl⟩:=hcs
  exact⟨_,_,_,0,0,[],rfl,by simp,Nat.le_refl _,fun _=>rfl,.inl rfl,.inl rfl,(fun j v hj=>by simp[flS] at hj),fun z hz=>(by cases hz)⟩
 ·simp[Value.cells] at hcs
  obtain⟨rfl,rfl,rfl⟩:=hcs
  simp only[if_true] at hmm
  by_cases h0:cap=0
  ·subst h0
   have e:len=0:=Z1
   subst e
   exact⟨_,_,_,0,0,[],rfl,by simp,Nat.le_refl _,fun _=>rfl,.inl rfl,.inl rfl,(fun j v hj=>by simp[flS] at hj),fun z hz=>(by cases hz)⟩
  ·have hrow: ∀i,i<cap-> ∃z:Int×Int×Int,((-9223372036854775808<=z.1/\z.1<9223372036854775808)/\In z.2.1/\In z.2.2)/\ ∀c v,(SE z.1 z.2.1 z.2.2)[c]?=some v->W.cell? ((ad.add (i*9)).add c)=some v:=fun i hi=>by
    obtain⟨cs,k1,k2⟩:=hall i (by rw[hmm];exact hi)
    rw[Tryz.cells39] at k1
    exact row_share k1 k2
   obtain⟨gb,go,spot⟩:=ad
   have hspot:spot=none:=by
    obtain⟨z,_,hz⟩:=hrow 0 Z1
    have:=hz 0 _ rfl
    simpa [Addr.add] using World.cell?_spot this
   subst hspot
   have hadd: ∀i c:Nat,((⟨gb,go,none⟩:Addr).add (i*9)).add c=⟨gb,go+(i*9+c),none⟩:=fun i c=>by unfold Addr.add;(repeat' split)<;>simp_all<;>omega
   obtain⟨ns,hnl,hnp⟩:=list_ofS (min len L) (fun i hi=>hrow i Z1)
   have hblk:gb<W.heap.size:=by
    obtain⟨z,_,hz⟩:=hrow 0 Z1
    have:=hz 0 _ rfl
    rw[hadd] at this
    exact World.block_lt_of_cell? W _ this
   refine⟨_,_,_,gb,go,ns,rfl,hnl.symm,hl,fun e=>(by cases e),.inr rfl,.inr hblk,fun j v hj=>?_,fun z hz=>?_⟩
   ·obtain⟨k1,k2⟩:=flS_atg ns j v hj
    have:=(hnp (j/9) Z1).2 (j%9) v k2
    rwa [hadd,show j/9*9+j%9=j by omega] at this
   ·obtain⟨j,hj,rfl⟩:=List.mem_iff_getElem.1 hz
    have:=(hnp j Z1).1
    simpa [gS,List.getElem?_eq_getElem hj] using this
theorem nlIxJ{sl:Option Addr}{gb go cap:Nat}{ns:List Int}(h:ns=[]\/sl=some ⟨gb,go,none⟩): ∀j,j<ns.length-> ∀W,(Instr.indexAt 31 (.slice sl ns.length cap) (iI j)).run Tryz.prog W= .ok (.pointer (some ⟨gb,go+4*j,none⟩)) W:=fun j hj W=>by
 obtain rfl:=h.resolve_left (fun e=>by subst e;simp at hj)
 exact ixS gb go ns.length cap j hj W
theorem ixDj(gb go n cap j:Nat)(hj:j<n)(w:World):(Instr.indexAt 27 (.slice (some ⟨gb,go,none⟩) n cap) (iI j)).run Tryz.prog w= .ok (.pointer (some ⟨gb,go+2*j,none⟩)) w:=by
 have h1:(j:Int)<(n:Int):=Z1
 have e:j*2=2*j:=Z1
 simp[Instr.indexAt,Instr.index,go_sem,Tryz.underlying27,h1,e]
 intro h2
 omega
theorem nats_rowF{H:Type}{enc:TypeId×Value->H}{W:World}{fuel:Nat}{cs:List Value}{x:DataW H×List MemPlace}(hf:DataW.trod enc Tryz.prog W 0 (fun _=>true) true fuel 31 cs=some x):
 ∃sl cap gb go,∃ns:List Int,cs=[.slice sl ns.length cap]/\NL W (.slice sl ns.length cap) ns/\(ns=[]\/sl=some ⟨gb,go,none⟩)/\(ns.length=0\/gb<W.heap.size)/\SN W gb go ns/\ ∀z∈ns,In z:=by
 obtain⟨sl,len,cap,_,_,_,e,_⟩:=nats_row 0 hf
 subst e
 obtain⟨sl',len',cap',gb,go,ns,e,h1,h2,h3,h4,h5,h6,h7⟩:=nats_row len hf
 cases e
 obtain rfl:len=ns.length:=Z1
 have h8:ns=[]\/sl=some ⟨gb,go,none⟩:=h4.imp (fun e=>List.eq_nil_of_length_eq_zero Z1) id
 exact⟨sl,cap,gb,go,ns,rfl,⟨sl,gb,go,cap,rfl,h2,h3,h8,h5,h6⟩,h8,h5,h6,h7⟩
theorem undD: ∃f0 f1:Field,Tryz.prog.underlying 33=some (.struct #[f0,f1])/\f0.offset=0/\f1.offset=1/\f0.type=3/\f1.type=31:=⟨_,_,Tryz.underlying33,rfl,rfl,rfl,rfl⟩
theorem adD{W:World}{ad:Addr}{v:Value}(h:W.cell? ad=some v): ∃gb go,ad=⟨gb,go,none⟩/\gb<W.heap.size:=by
 obtain⟨gb,go,spot⟩:=ad
 obtain rfl:spot=none:=by simpa using World.cell?_spot h
 exact⟨gb,go,rfl,World.block_lt_of_cell? W _ h⟩
theorem open_deals{H:Type}{enc:TypeId×Value->H}{W:World}{base:Nat}{v:Value}{x:DataW H}{p:List MemPlace}(hv:Value.okWide Tryz.prog W .any base 27 v)(h:DataW.Trod enc Tryz.prog W 0 (fun _=>true) true 27 v x p):
 ∃ds:List (Int×List Int),DL W v ds/\ ∀d∈ds,∀z∈d.2,In z:=by
 obtain⟨a0,len,cap,rfl⟩:=okWide_slice Tryz.underlying27 hv
 obtain⟨fuel,hf⟩:=h
 have hf:DataW.trod enc Tryz.prog W 0 (fun _=>true) true fuel 27 [.slice a0 len cap]=some (x,p):=hf
 obtain⟨f0,f1,hu,o0,o1,t0,t1⟩:=undD
 have nil: ∀sl c,(sl=none->c=0)->DL W (.slice sl 0 c) []:=fun sl c hc=>⟨sl,0,0,c,fun _=>none,fun _=>0,fun _=>0,fun _=>0,rfl,hc,Nat.zero_le _,.inl rfl,{ix:=fun j hj=>absurd hj (by simp),lt:= .inl rfl,at_:=fun j hj=>absurd hj (by simp),ixn:=fun j hj=>absurd hj (by simp),ltn:=fun j hj=>absurd hj (by simp),atn:=fun j hj=>absurd hj (by simp),nl:=fun j hj=>absurd hj (by simp)}⟩
 rcases Go.Deep.open_slice_pairs Tryz.underlying27 hu Tryz.cells33 o0 o1 (by rw[t0];exact cellsI) (by rw[t1];exact Tryz.cells31) hf with⟨hcs,hx⟩ | ⟨ad,len',cap',m,n,V0,V1,D0,D1,P0,P1,hcs,hbs,hl,hm,hmm,hx,hall⟩
 ·simp at hcs
  obtain⟨rfl,rfl,rfl⟩:=hcs
  exact⟨[],nil none 0 (fun _=>rfl),fun d hd=>by cases hd⟩
 ·simp at hcs
  obtain⟨rfl,rfl,rfl⟩:=hcs
  simp only[if_true] at hmm
  rcases Nat.eq_zero_or_pos len with h0 | h0
  ·subst h0
   exact⟨[],nil (some ad) cap (fun e=>by cases e),fun d hd=>by cases hd⟩
  ·obtain⟨gb,go,rfl,hb⟩:=adD (by have:=(hall 0 Z1).1;rw[Nat.zero_mul] at this;exact this)
   have hone: ∀i,i<len-> ∃q:(Int×List Int)×Option Addr×Nat×Nat×Nat,W.rangeAt gb (go+2*i) (DE q.1.1 (.slice q.2.1 q.1.2.length q.2.2.1))/\NL W (.slice q.2.1 q.1.2.length q.2.2.1) q.1.2/\(q.1.2=[]\/q.2.1=some ⟨q.2.2.2.1,q.2.2.2.2,none⟩)/\(q.1.2.length=0\/q.2.2.2.1<W.heap.size)/\SN W q.2.2.2.1 q.2.2.2.2 q.1.2/\ ∀z∈q.1.2,In z:=fun i hi=>by
    obtain⟨k1,k2,k3,k4⟩:=hall i Z1
    rw[Addr.addo,Nat.mul_comm] at k1 k2
    rw[t0] at k3
    rw[t1] at k4
    obtain⟨d,e1,_,_⟩:=DataW.trod_int Tryz.underlying3 k3
    simp at e1
    rw[e1] at k1
    obtain⟨sl,cp,g1,o1,ns,e,r1,r2,r3,r4,r5⟩:=nats_rowF k4
    simp at e
    rw[e] at k2
    refine⟨((d,ns),sl,cp,g1,o1),fun j v hj=>?_,r1,r2,r3,r4,r5⟩
    match j,hj with
    | 0,hj=>cases hj;exact k1
    | 1,hj=>cases hj;rw[Nat.add_assoc];exact k2
    | j+2,hj=>simp at hj
   obtain⟨q,hq⟩: ∃q:Nat->(Int×List Int)×Option Addr×Nat×Nat×Nat,∀i,i<len->W.rangeAt gb (go+2*i) (DE (q i).1.1 (.slice (q i).2.1 (q i).1.2.length (q i).2.2.1))/\NL W (.slice (q i).2.1 (q i).1.2.length (q i).2.2.1) (q i).1.2/\((q i).1.2=[]\/(q i).2.1=some ⟨(q i).2.2.2.1,(q i).2.2.2.2,none⟩)/\((q i).1.2.length=0\/(q i).2.2.2.1<W.heap.size)/\SN W (q i).2.2.2.1 (q i).2.2.2.2 (q i).1.2/\ ∀z∈(q i).1.2,In z:=by
    refine⟨fun i=>if h:i<len then Classical.choose (hone i h) else ((0,[]),none,0,0,0),fun i hi=>?_⟩
    have e:(if h:i<len then Classical.choose (hone i h) else ((0,[]),none,0,0,0))=Classical.choose (hone i hi):=dif_pos hi
    simp only[e]
    exact Classical.choose_spec (hone i hi)
   clear hone
   have hlen:((List.range len).map fun i=>(q i).1).length=len:=by simp
   have hget: ∀i,i<len->((List.range len).map fun i=>(q i).1).getD i (0,[])=(q i).1:=fun i hi=>by
    simp[List.getD_eq_getElem?_getD,List.getElem?_map,List.getElem?_range hi]
   generalize hds:((List.range len).map fun i=>(q i).1)=ds at hlen hget
   subst hlen
   refine⟨ds,⟨some ⟨gb,go,none⟩,gb,go,cap,fun i=>(q i).2.1,fun i=>(q i).2.2.1,fun i=>(q i).2.2.2.1,fun i=>(q i).2.2.2.2,rfl,(fun e=>by cases e),hl,.inr rfl,?_⟩,fun d hd=>?_⟩
   ·exact{
     ix:=fun j hj W'=>ixDj gb go ds.length cap j hj W'
     lt:= .inr hb
     at_:=fun j hj=>by simp only[hget j hj];exact(hq j hj).1
     ixn:=fun j hj k hk W'=>by
      simp only[hget j hj] at hk⊢
      exact nlIxJ (hq j hj).2.2.1 k hk W'
     ltn:=fun j hj=>by simp only[hget j hj];exact(hq j hj).2.2.2.1
     atn:=fun j hj=>by simp only[hget j hj];exact(hq j hj).2.2.2.2.1
     nl:=fun j hj=>by simp only[hget j hj];exact(hq j hj).2.1}
   ·obtain⟨j,hj,rfl⟩:=List.mem_iff_getElem.1 hd
    have e:ds[j]=(q j).1:=by rw[<-hget j hj,List.getD_eq_getElem?_getD,List.getElem?_eq_getElem hj];rfl
    rw[e];exact(hq j hj).2.2.2.2.2
theorem open_sharesF{H:Type}{enc:TypeId×Value->H}{W:World}{base:Nat}{v0:Value}{x:DataW H}{p:List MemPlace}(hv:Value.okWide Tryz.prog W .any base 28 v0)(h:DataW.Trod enc Tryz.prog W 0 (fun _=>true) true 28 v0 x p):
 ∃l:List (Int×Int×Int),ShL W v0 l/\ ∀x∈l,R64 x.1/\In x.2.1/\In x.2.2:=by
 obtain⟨sl,len,cap,_,_,_,e,_⟩:=open_shares 0 hv h
 subst e
 obtain⟨sl',len',cap',gb,go,ns,e,h1,h2,h3,h4,h5,h6,h7⟩:=open_shares len hv h
 cases e
 obtain rfl:len=ns.length:=Z1
 refine⟨ns,⟨sl,gb,go,cap,rfl,h2,h3,h4.imp (fun e=>List.eq_nil_of_length_eq_zero Z1) id,h5,h6⟩,fun x hx=>?_⟩
 obtain⟨k1,k2,k3⟩:=h7 x hx
 exact⟨⟨k1.1,Z1⟩,k2,k3⟩
end
section
section
def tpN(q t:Int)(ns:List Int)(i:Nat):Nat->Int
 | 0=>1
 | j+1=>if j=i then tpN q t ns i j else (tpN q t ns i j*((t -ns.getD j 0)%q))%q
theorem tpN_In{q t:Int}{ns:List Int}{i:Nat}(hq:In q)(hq0:q≠0): ∀j,In (tpN q t ns i j)
 | 0=>In_1
 | j+1=>by rw[tpN];split;exact tpN_In hq hq0 j;exact Zt hq hq0
theorem ds_tp{q:Int}{ns:List Int}{i:Nat}: ∀j,dsN q ns i j=tpN q (ns.getD i 0) ns i j
 | 0=>rfl
 | j+1=>by rw[dsN,tpN,ds_tp j]
section ring
variable {R:Type} [Lean.Grind.CommRing R] (p:Nat) [Lean.Grind.IsCharP R p]
theorem cR_tp{xs:List Int}{i:Nat}(t:Int): ∀j,(cR (tpN p t xs i j):R)=if j<=i then preR xs j (cR t) else preR xs i (cR t)*mdR xs (cR t) (i+1) (j -(i+1))
 | 0=>by rw[tpN,if_pos (Nat.zero_le _),preR,cR_1]
 | j+1=>by
  rw[tpN]
  by_cases e:j=i
  ·rw[if_pos e,cR_tp t j,if_pos Z1,if_neg Z1,e,Nat.sub_self,mdR];grind
  ·rw[if_neg e,Wd,Uh,Wd,cR_sub,cR_tp t j]
   by_cases h:j<=i
   ·rw[if_pos h,if_pos Z1,preR]
   ·rw[if_neg h,if_neg Z1,show j+1 -(i+1)=(j -(i+1))+1 by omega,mdR,show i+1+(j -(i+1))=j by omega];grind
theorem cR_tpt{xs vs:List Int}(hl:vs.length=xs.length){i:Nat}(hi:i<xs.length)(t:Int):(cR (tpN p t xs i xs.length):R)=preR xs i (cR t)*pP (cR t) (sfx xs vs (i+1)):=by
 rw[cR_tp p,if_neg Z1,<-mdR_sfx hl (cR t) (i+1) (xs.length -(i+1)) Z1,show i+1+(xs.length -(i+1))=xs.length by omega,sfx_end hl,pP];grind
end ring
theorem facR(p:Nat)[NeZero p]{xs vs:List Int}(hl:vs.length=xs.length)(t:Int){i:Nat}(hi:i<xs.length):(tpN p t xs i xs.length*vs.getD i 0)%(p:Int)=(fac p t xs vs).getD i 0:=by
 have hp0:0<p:=Nat.pos_of_ne_zero (NeZero.ne p)
 have e1:=cR_fac (R:=Fin p) p hl t hi
 rw[<-cR_tpt p hl hi t,<-Uh,cR_ext p] at e1
 have r1:=fac_rng (q:=p) Z1 (t:=t) (xs:=xs) (vs:=vs) hi
 rw[Int.emod_eq_of_lt r1.1 r1.2] at e1
 rw[e1,Int.mul_comm]
def frS(q t:Int)(ns vs:List Int):List Int:=tab ns.length fun i=>(tpN q t ns i ns.length*vs.getD i 0)%q
theorem frS_fac{q t:Int}{ns vs:List Int}(hq:0<q)(hl:vs.length=ns.length):frS q t ns vs=fac q t ns vs:=by
 obtain⟨p,rfl⟩: ∃p:Nat,q=(p:Int):=⟨q.toNat,Z1⟩
 haveI:NeZero p:=⟨Z1⟩
 refine List.ext_getElem (by rw[frS,Wy,fac_len]) fun i h1 h2=>?_
 rw[frS,Wy] at h1
 have e:=facR p hl t h1
 have e2:(frS (p:Int) t ns vs).getD i 0=(fac p t ns vs).getD i 0:=by rw[<-e,frS,W0 h1]
 simpa [List.getElem?_eq_getElem h2,List.getElem?_eq_getElem (show i<(frS (p:Int) t ns vs).length by rw[frS,Wy];exact h1)] using e2
def alG(q:Int)(ns:List Int):Bool:=decide (∀i,i<ns.length->gI q (dsN q ns i ns.length%q)=1)
end
end
end Go.Proofs.YtoffgfhilkpdpaaGreatDoor
