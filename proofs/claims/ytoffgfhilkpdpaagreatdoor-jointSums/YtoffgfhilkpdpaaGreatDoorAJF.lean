import Derived.Test.YtoffgfhilkpdpaaGreatDoorAJC
namespace Go.Proofs.YtoffgfhilkpdpaaGreatDoor
set_option linter.unusedVariables false
set_option linter.unusedSimpArgs false
set_option maxRecDepth 100000
set_option maxHeartbeats 4000000
open Go.RowKit
theorem csC_In{p:Int}(hp:In p)(hp0:p≠0)(ds:List (Int×List Int))(j:Nat): ∀i,In ((csC p ds i).getD j 1)
 | 0=>by rw[csC];exact In_1
 | i+1=>by
  rw[csC,inC_get];split
  ·exact Zt hp hp0
  ·exact csC_In hp hp0 ds j i
theorem inC_In{p:Int}(hp:In p)(hp0:p≠0)(ds:List (Int×List Int))(ns:List Int)(i j k:Nat):In ((inC p ns (csC p ds i) k).getD j 1):=by
 rw[inC_get];split
 ·exact Zt hp hp0
 ·exact csC_In hp hp0 ds j i
theorem ySum(p q g h:Int)(ds:List (Int×List Int))(v:Value)(w:World)(hp:In p)(hq:In q)(hv:DL w v ds)(hl:ds.length<=1000)(hIn: ∀d∈ds,d.2.length<=50/\ ∀z∈d.2,In z):Calls Tryz.prog 7 #[GX p q g h,v] w fun r u=> ∃y,r= .returned (.tuple #[DX (smD p q ds) y,iI (smE p q ds)])/\NL u y (smC p q ds)/\Bw w u:=by
 obtain⟨sl,gb,go,cap,sy,cy,gy,oy,rfl,h2,h3,h4,h5⟩:=hv
 have hC:=fun u=>xCheckG p q g h u hp hq
 unfold chE at hC
 have no: ∀c:Int,c≠0->smE p q ds=c->(CC 7 #[GX p q g h,.slice sl ds.length cap] w (.tuple #[DZ,iI c]))->Calls Tryz.prog 7 #[GX p q g h,.slice sl ds.length cap] w fun r u=> ∃y,r= .returned (.tuple #[DX (smD p q ds) y,iI (smE p q ds)])/\NL u y (smC p q ds)/\Bw w u:=by
  intro c hc e hk
  refine hk.mono ?_
  rintro r u ⟨rfl,hB⟩
  rw[smD,smC,e,if_neg hc,if_neg hc]
  exact⟨_,rfl,NL.nilI u,hB⟩
 by_cases c1:gOk p q
 ·simp only[if_pos c1] at hC
  by_cases ha:(ds.length:Int)<1
  ·exact no 2 Z2 (by rw[smE,if_pos c1,if_neg Z1]) (ysu_l p q g h sl ds.length cap w hC (decide_eq_true ha))
  by_cases hb:16<(ds.length:Int)
  ·exact no 2 Z2 (by rw[smE,if_pos c1,if_neg Z1]) (ysu_m p q g h sl ds.length cap w hC (decide_eq_false ha) (decide_eq_true hb))
  have hp7:=c1.2
  have hp0:p≠0:=Z1
  have e1:smE p q ds=if fdE p q ds=[] then 0 else 110:=by rw[smE,if_pos c1,if_pos Z1]
  have hk:=ysu_k p q g h (smE p q ds) sl gb go ds.length cap (fun j=>(ds.getD j (0,[])).1) sy (dN ds) cy gy oy (csC p ds) (fun i k=>inC p (dN ds i) (csC p ds i) k) (fun i k=>exC (inC p (dN ds i) (csC p ds i) k) k) (fun i=>dcE p q (ds.getD i (0,[])).1 (dN ds i)) (smD p q ds) w hC (decide_eq_false ha) (decide_eq_false hb) h5 Z1 rfl
   (fun i hi u hB=>xCheckD p q g h _ _ _ u hp hq ((h5.nl i hi).up hB) (DL.in2 hIn i hi).2 (by have:=(DL.in2 hIn i hi).1;omega))
   (fun i hi=>by have:=(DL.in2 hIn i hi).1;omega)
   (fun i hi=>⟨rfl,fun k hk=>⟨by rw[U2];omega,rfl,rfl⟩⟩) (fun i hi=>rfl)
   (fun i hi k hk u=>xMul _ _ p u (by rw[getD_lt (by rw[exC_len (by rw[U2];omega)];omega) 0 1,exC_get];exact inC_In hp hp0 ds _ i k k) (Yb (DL.in2 hIn i hi).2 k hk) hp hp0)
   (fun i hi k hk=>by rw[U2,Uw];have:=mxC_le (fun i hi=>(DL.in2 hIn i hi).1) i (Nat.le_of_lt hi);have:=(DL.in2 hIn i hi).1;omega)
   (fun k hk hne=>?_) (fun hall=>?_)
  ·refine hk.mono ?_
   rintro r u ⟨y,e,hy,hB⟩
   exact⟨y,e,hy,hB⟩
  ·have hf:fdE p q ds≠[]:=fun e=>by have:=fdE_alD e k hk;rw[this] at hne;exact absurd hne Z2
   rw[if_neg hf] at e1
   exact⟨by rw[smD,e1,if_neg Z2],e1⟩
  ·have hf:fdE p q ds=[]:=fdE_al.2 fun d hd=>by
    obtain⟨i,hi,rfl⟩:=List.getElem_of_mem hd
    have:=hall i hi
    rwa [dN,List.getD_eq_getElem?_getD,List.getElem?_eq_getElem hi] at this
   rw[if_pos hf] at e1
   exact⟨by rw[smD,e1,if_pos rfl],e1⟩
 ·simp only[if_neg c1] at hC
  exact no 90 Z2 (by rw[smE,if_neg c1]) (ysu_c p q g h sl ds.length cap w hC)
theorem z9{u:World}{b:Nat}(h:CV u b L0h):(u.cell? ⟨b,0,none⟩=some (iI 0)/\u.frozen? ⟨b,0,none⟩=false)/\(u.cell? ⟨b,1,none⟩=some (iU 0)/\u.frozen? ⟨b,1,none⟩=false)/\(u.cell? ⟨b,2,none⟩=some (iU 0)/\u.frozen? ⟨b,2,none⟩=false)/\(u.cell? ⟨b,3,none⟩=some (iU 0)/\u.frozen? ⟨b,3,none⟩=false)/\(u.cell? ⟨b,4,none⟩=some (iU 0)/\u.frozen? ⟨b,4,none⟩=false)/\(u.cell? ⟨b,5,none⟩=some (iU 0)/\u.frozen? ⟨b,5,none⟩=false)/\(u.cell? ⟨b,6,none⟩=some (iU 0)/\u.frozen? ⟨b,6,none⟩=false)/\(u.cell? ⟨b,7,none⟩=some (iU 0)/\u.frozen? ⟨b,7,none⟩=false)/\(u.cell? ⟨b,8,none⟩=some (iU 0)/\u.frozen? ⟨b,8,none⟩=false):=
 ⟨h 0 _ rfl,h 1 _ rfl,h 2 _ rfl,h 3 _ rfl,h 4 _ rfl,h 5 _ rfl,h 6 _ rfl,h 7 _ rfl,h 8 _ rfl⟩
abbrev W9(u:World)(b:Nat)(v0 v1 v2 v3 v4 v5 v6 v7 v8:Value):World:=((((((((u.setCell ⟨b,0,none⟩ v0).setCell ⟨b,1,none⟩ v1).setCell ⟨b,2,none⟩ v2).setCell ⟨b,3,none⟩ v3).setCell ⟨b,4,none⟩ v4).setCell ⟨b,5,none⟩ v5).setCell ⟨b,6,none⟩ v6).setCell ⟨b,7,none⟩ v7).setCell ⟨b,8,none⟩ v8
theorem set9{u:World}{b:Nat}{v0 v1 v2 v3 v4 v5 v6 v7 v8:Value}(h:CV u b L0h):let x:=W9 u b v0 v1 v2 v3 v4 v5 v6 v7 v8;x.cell? ⟨b,0,none⟩=some v0/\x.cell? ⟨b,1,none⟩=some v1/\x.cell? ⟨b,2,none⟩=some v2/\x.cell? ⟨b,3,none⟩=some v3/\x.cell? ⟨b,4,none⟩=some v4/\x.cell? ⟨b,5,none⟩=some v5/\x.cell? ⟨b,6,none⟩=some v6/\x.cell? ⟨b,7,none⟩=some v7/\x.cell? ⟨b,8,none⟩=some v8:=by
 have hc:CV (W9 u b v0 v1 v2 v3 v4 v5 v6 v7 v8) b [v0,v1,v2,v3,v4,v5,v6,v7,v8]:=((((((((h.setC 0 (by simp) v0).setC 1 (by simp) v1).setC 2 (by simp) v2).setC 3 (by simp) v3).setC 4 (by simp) v4).setC 5 (by simp) v5).setC 6 (by simp) v6).setC 7 (by simp) v7).setC 8 (by simp) v8
 exact⟨(hc 0 _ rfl).1,(hc 1 _ rfl).1,(hc 2 _ rfl).1,(hc 3 _ rfl).1,(hc 4 _ rfl).1,(hc 5 _ rfl).1,(hc 6 _ rfl).1,(hc 7 _ rfl).1,(hc 8 _ rfl).1⟩
theorem set9_B{w u:World}{b:Nat}{v0 v1 v2 v3 v4 v5 v6 v7 v8:Value}(hB:Bw w u)(hb:w.heap.size<=b):Bw w (W9 u b v0 v1 v2 v3 v4 v5 v6 v7 v8):=((((((((hB.setCell hb v0).setCell hb v1).setCell hb v2).setCell hb v3).setCell hb v4).setCell hb v5).setCell hb v6).setCell hb v7).setCell hb v8
def seL(p q:Int)(l:List (Int×Int×Int)):List Int:=bE (!decide (gOk p q)) 90++(bE (decide ((l.length:Int)<1)) 2++(bE (!decide (0<=(l.length:Int)/\(l.length:Int)<=16)) 2++bE (!(sameB l&&ndsB l)) 2))
theorem jshares_core(p q g h e m s t:Int)(sl:Option Addr)(cap:Nat)(l:List (Int×Int×Int))(w:World)(hGr:Hid (∀u,Calls Tryz.prog 21 #[GX p q g h] u fun r u'=> ∃v,r= .returned v/\EJN u' v (bE (!decide (gOk p q)) 90)/\Bw u u'))(hLe:Hid (∀(t:ByteArray) u,Bw w u->t.size<=100->Calls Tryz.prog 22 #[.string t,iI (l.length:Int),iI 1,iI 2] u fun r u'=> ∃v,r= .returned v/\EJN u' v (bE (decide ((l.length:Int)<1)) 2)/\Bw u u'))(hMo:Hid (∀(t:ByteArray) u,Bw w u->t.size<=100->Calls Tryz.prog 23 #[.string t,iI (l.length:Int)] u fun r u'=> ∃v,r= .returned v/\EJN u' v (bE (!decide (0<=(l.length:Int)/\(l.length:Int)<=16)) 2)/\Bw u u'))(hOn:Hid (∀u,Bw w u->Calls Tryz.prog 24 #[.slice sl l.length cap] u fun r u'=> ∃v,r= .returned v/\EJN u' v (bE (!(sameB l&&ndsB l)) 2)/\Bw u u'))
 (hTo:Hid (seL p q l=[]->e=0/\ ∀u,Bw w u->CC 25 #[GX p q g h,.slice sl l.length cap] u (SX m s t)))(hno:Hid (seL p q l≠[]->tdE (seL p q l) [90,2]=e/\m=0/\s=0/\t=0)):
 CC 8 #[GX p q g h,.slice sl l.length cap] w (.tuple #[SX m s t,iI e]):=by
 go_enter Tryz.func8,Tryz.ntmps8
 go_upto_region 1 with fail
 generalize hW:World.alloc (World.alloc w _) _=v0
 have hz0:w.heap.size+1<v0.heap.size:=by rw[<-hW];simp
 have hB0:Bw w v0:=by rw[<-hW];exact Z5 (Z5 (Zf w) _) _
 have hC0:CV v0 w.heap.size (GE p q g h):=by rw[<-hW];exact(CV.new w (GE p q g h) 26).below (Z5 (Zf _) _) (by simp)
 have hC1:CV v0 (w.heap.size+1) L0h:=by rw[<-hW];exact CVn L0h 39 (by simp)
 clear hW
 have hC1:=Hid.on hC1
 have hg0:=ge_0 hC0
 have hC0:=Hid.on hC0
 go_cut [6] (fun s6 wx=>Hid (EJN wx s6 (seL p q l))/\Bw v0 wx)
 case first=>
  go_wp2_with (first
   | (go_at_call 21;refine(hGr.out _).mono ?_;clear hGr;rintro r ua ⟨v1,rfl,hv1,hBa⟩;have s1:=EJN.some hv1;have hv1:=Hid.on hv1;rcases s1 with rfl | ⟨T1,x1,rfl⟩)
   | (go_at_call 22;refine(hLe.out _ _ (Z7 hB0 hBa) Z2).mono ?_;clear hLe;rintro r ub ⟨v2,rfl,hv2,hBb⟩;have hv1:=Hid.on (EJN.up hBb hv1.out);replace hBb:=Z7 hBa hBb;have s2:=EJN.some hv2;have hv2:=Hid.on hv2;rcases s2 with rfl | ⟨T2,x2,rfl⟩)
   | (go_at_call 23;refine(hMo.out _ _ (Z7 hB0 hBb) Z2).mono ?_;clear hMo;rintro r uc ⟨v3,rfl,hv3,hBc⟩;have hv1:=Hid.on (EJN.up hBc hv1.out);have hv2:=Hid.on (EJN.up hBc hv2.out);replace hBc:=Z7 hBb hBc;have s3:=EJN.some hv3;have hv3:=Hid.on hv3;rcases s3 with rfl | ⟨T3,x3,rfl⟩)
   | (go_at_call 24;refine(hOn.out _ (Z7 hB0 hBc)).mono ?_;clear hOn;rintro r ud ⟨v4,rfl,hv4,hBd⟩;have s4:=EJN.some hv4;have hJ:=Hid.on (jJoin4 (EJN.up hBd hv1.out) (EJN.up hBd hv2.out) (EJN.up hBd hv3.out) hv4);replace hBd:=Z7 hBc hBd;rcases s4 with rfl | ⟨T4,x4,rfl⟩)
   | (go_at_call 20;refine hJ.out.mono ?_;clear hJ;rintro r ue ⟨y,rfl,hy,hBe⟩;replace hy:=Hid.on hy))
  all_goals (go_meet;exact⟨hy.out,Z7 hBd hBe⟩)
 case rest=>
 obtain⟨hv,hBv⟩:=hcut
 clear hg0
 have hg0:=ge_0 (hC0.out.below hBv Z1)
 have hC1:=Hid.on (hC1.out.below hBv hz0)
 have hz1:w.heap.size+1<wc.heap.size:=Nat.lt_of_lt_of_le hz0 hBv.size
 have hBw:=Z7 hB0 hBv
 clear hC0 hBv hGr hLe hMo hOn hz0
 by_cases hes:seL p q l=[]
 ·obtain rfl:=hv.out.no hes
  obtain⟨rfl,hT⟩:=hTo.out hes
  replace hT:=Hid.on (hT wc hBw)
  clear hv hno hTo hes
  go_wp2_with (go_at_call 25;refine hT.out.mono ?_;clear hT;rintro r ub ⟨rfl,hBb⟩;have hC2:=hC1.out.below hBb hz1;have z0:=z9 hC2;clear hC1 hg0;have hk:=set9 (v0:=iI m) (v1:=iU (D0 s)) (v2:=iU (D1 s)) (v3:=iU (D2 s)) (v4:=iU (D3 s)) (v5:=iU (D0 t)) (v6:=iU (D1 t)) (v7:=iU (D2 t)) (v8:=iU (D3 t)) hC2;clear hC2;replace hk:=Hid.on hk)
  exact bodyPost_ret (v:= .tuple #[SX m s t,iI 0]) (by simp[results,Tryz.results8,go_sem,hk.out]) rfl ⟨rfl,set9_B (Z7 hBw hBb) Z1⟩
 ·obtain⟨h1,rfl,rfl,rfl⟩:=hno.out hes
  obtain⟨T,x,rfl⟩:=hv.out.yes hes
  have hT:=jTold _ (seL p q l) [90,2] 34 wc hv.out Z2
  rw[h1] at hT
  replace hT:=Hid.on hT
  clear hv hno hTo hes hg0
  go_wp2_with (go_at_call 15;refine hT.out.mono ?_;clear hT;rintro r ub ⟨rfl,hBb⟩;have hC2:=hC1.out.below hBb hz1;have z0:=z9 hC2;clear hC1;have hk:=set9 (v0:=iI 0) (v1:=iU 0) (v2:=iU 0) (v3:=iU 0) (v4:=iU 0) (v5:=iU 0) (v6:=iU 0) (v7:=iU 0) (v8:=iU 0) hC2;clear hC2;replace hk:=Hid.on hk)
  exact bodyPost_ret (v:= .tuple #[SZ,iI e]) (by simp[results,Tryz.results8,go_sem,hk.out]) rfl ⟨rfl,set9_B (Z7 hBw hBb) Z1⟩
theorem flS_append: ∀a b:List (Int×Int×Int),flS (a++b)=flS a++flS b
 | [],b=>rfl
 | x::a,b=>by rw[List.cons_append,flS,flS,flS_append a b,List.append_assoc]
theorem flS_pre(l:List (Int×Int×Int))(k j:Nat)(v:Value)(h:(flS (l.take k))[j]?=some v):(flS l)[j]?=some v:=by
 rw[<-List.take_append_drop k l,flS_append,List.getElem?_append_left (List.getElem?_eq_some_iff.1 h).1];exact h
theorem slSh(sl:Option Addr)(n cap k:Nat)(h:k<=n)(hc:n<=cap)(hn:sl=none->cap=0)(w:World):(Instr.sliceAt 28 (.slice sl n cap) none (some (iI k)) none).run Tryz.prog w= .ok (.slice sl k cap) w:=by
 cases sl with
 | none=>
  have e0:=hn rfl
  have e1:n=0:=Z1
  have e2:k=0:=Z1
  subst e0 e1 e2
  show (Instr.sliceAt 28 (.slice none 0 0) none (some (iI 0)) none).run Tryz.prog w=_
  kernel_rfl
 | some a=>
  have h3:k<=cap:=Z1
  simp[Instr.sliceAt,Instr.slice,go_sem,Tryz.underlying28,h3]
theorem ShL.take{u:World}{v:Value}{l:List (Int×Int×Int)}(h:ShL u v l)(k:Nat)(hk:k<=l.length): ∃y,(∀w,(Instr.sliceAt 28 v none (some (iI k)) none).run Tryz.prog w= .ok y w)/\ShL u y (l.take k):=by
 obtain⟨sl,gb,go,cap,rfl,h2,h3,h4,h5,h6⟩:=h
 have e:(l.take k).length=k:=by rw[List.length_take];omega
 refine⟨_,slSh sl l.length cap k hk h2 h3,sl,gb,go,cap,by rw[e],Z1,h3,h4.imp (fun e=>by rw[e,List.take_nil]) id,h5.imp (fun e=>Z1) id,fun j v hj=>h6 j v (flS_pre l k j v hj)⟩
theorem bE_nil{b:Bool}{n:Int}(h:bE b n=[]):b=false:=by cases b with | true=>cases h | false=>rfl
theorem memD{α:Type}(l:List α)(d:α)(k:Nat)(hk:k<l.length):l.getD k d∈l:=by rw[List.getD_eq_getElem?_getD,List.getElem?_eq_getElem hk];exact List.getElem_mem hk
def seE(p q:Int)(l:List (Int×Int×Int)):Int:=if gOk p q then (if (1<=l.length/\l.length<=16)/\(sameB l&&ndsB l)=true then 0 else 2) else 90
def seM(p q:Int)(l:List (Int×Int×Int)):Int:=if seE p q l=0 then (l.getD 0 (0,0,0)).1 else 0
def seS(p q:Int)(l:List (Int×Int×Int)):Int:=if seE p q l=0 then sm1 q (shS l) l.length else 0
def seT(p q:Int)(l:List (Int×Int×Int)):Int:=if seE p q l=0 then sm1 q (shT l) l.length else 0
theorem seL_no{p q:Int}{l:List (Int×Int×Int)}(h:seL p q l=[]):seE p q l=0/\gOk p q/\1<=l.length:=by
 unfold seL at h
 simp only[List.append_eq_nil_iff] at h
 obtain⟨h1,h2,h3,h4⟩:=h
 have h1:=bE_nil h1
 have h2:=bE_nil h2
 have h3:=bE_nil h3
 have h4:=bE_nil h4
 simp only[Bool.not_eq_false',decide_eq_true_eq,decide_eq_false_iff_not] at h1 h2 h3 h4
 exact⟨by rw[seE,if_pos h1,if_pos ⟨Z1,h4⟩],h1,Z1⟩
theorem seL_td{p q:Int}{l:List (Int×Int×Int)}(h:seL p q l≠[]):tdE (seL p q l) [90,2]=seE p q l/\seE p q l≠0:=by
 unfold seL at h⊢
 by_cases c1:gOk p q
 ·have c2: ¬((1<=l.length/\l.length<=16)/\(sameB l&&ndsB l)=true):=fun c2=>h (by
   rw[decide_eq_true c1,decide_eq_false Z1,decide_eq_true Z1,c2.2];rfl)
  rw[seE,if_pos c1,if_neg c2]
  refine⟨?_,Z2⟩
  rw[decide_eq_true c1] at h⊢
  generalize decide ((l.length:Int)<1)=a at *
  generalize decide (0<=(l.length:Int)/\(l.length:Int)<=16)=b at *
  generalize (sameB l&&ndsB l)=c at *
  clear c2
  revert a b c
  decide
 ·rw[seE,if_neg c1,decide_eq_false c1]
  exact⟨by simp[bE,tdE],Z2⟩
theorem jAdded(p q g h:Int)(l:List (Int×Int×Int))(v:Value)(w:World)(hG:GP w)(hq:In q)(hq2:2<=q)(hv:ShL w v l)(hl:l.length<=1000)(h1:1<=l.length)(hIn: ∀x∈l,In x.2.1/\In x.2.2):CC 25 #[GX p q g h,v] w (SX (l.getD 0 (0,0,0)).1 (sm1 q (shS l) l.length) (sm1 q (shT l) l.length)):=by
 obtain⟨sl,gb,go,cap,rfl,h2,h3,h4,h5,h6⟩:=hv
 refine added_core p q g h _ sl gb go cap l (sm1 q (shS l)) (sm1 q (shT l)) w (sh_ix h4) (h5.resolve_left Z1) (sh_pt h6) hl h1 rfl rfl rfl (fun i hi u y y2 hB hz hy hy2=>?_)
 have hi2:=hIn _ (memD l (0,0,0) i hi)
 have hc:=cAddE q [sm1 q (shS l) i,sm1 q (shT l) i] [shS l i,shT l i] y y2 u (Nat.le_refl _) (hG.below hB) hq hq2 hy.nl (fun z hz=>by
  simp only[List.mem_cons,List.not_mem_nil,or_false] at hz
  rcases hz with rfl | rfl
  ·exact sm1_In hq hq2 i
  ·exact sm1_In hq hq2 i) (by simp) (by simp) hy2 (fun z hz=>by
  simp only[List.mem_cons,List.not_mem_nil,or_false] at hz
  rcases hz with rfl | rfl
  ·exact hi2.1
  ·exact hi2.2) (by simp) (by simp)
 rw[sAd2] at hc
 exact hc.mono fun e u' ⟨z,e1,e2,e3⟩=>⟨z,e1,e2.lo hz,e3⟩
theorem jShares(p q g h:Int)(l:List (Int×Int×Int))(v:Value)(w:World)(hG:GP w)(hp:In p)(hq:In q)(hv:ShL w v l)(hl:l.length<=1000)(hr: ∀x∈l,R64 x.1)(hIn: ∀x∈l,In x.2.1/\In x.2.2):CC 8 #[GX p q g h,v] w (.tuple #[SX (seM p q l) (seS p q l) (seT p q l),iI (seE p q l)]):=by
 have hv2:=hv
 obtain⟨sl,gb,go,cap,rfl,_⟩:=hv2
 refine jshares_core p q g h _ _ _ _ sl cap l w (fun u=>jGroup p q g h u hp hq) (fun t u hB ht=>jAtLeast t l.length 1 2 u (hG.below hB) ⟨Z1,Z1⟩ ht) (fun t u hB ht=>jAtMost t l.length u (hG.below hB) ⟨Z1,Z1⟩ ht) (fun u hB=>jOneNode l _ u (hG.below hB) (hv.up hB) hl hr) (fun e=>?_) (fun e=>?_)
 ·obtain⟨e0,hg,h1⟩:=seL_no e
  rw[seM,seS,seT,e0,if_pos rfl,if_pos rfl,if_pos rfl]
  exact⟨rfl,fun u hB=>jAdded p q g h l _ u (hG.below hB) hq (by have:=hg.q3;omega) (hv.up hB) hl h1 hIn⟩
 ·obtain⟨e1,e2⟩:=seL_td e
  rw[seM,seS,seT,if_neg e2,if_neg e2,if_neg e2]
  exact⟨e1,rfl,rfl,rfl⟩
theorem yShares(p q g h:Int)(l:List (Int×Int×Int))(v:Value)(w:World)(hp:In p)(hq:In q)(hv:ShL w v l)(hl:l.length<=1000)(hIn: ∀x∈l,In x.2.1/\In x.2.2):CC 9 #[GX p q g h,v] w (.tuple #[SX (seM p q l) (seS p q l) (seT p q l),iI (seE p q l)]):=by
 obtain⟨sl,gb,go,cap,rfl,h2,h3,h4,h5,h6⟩:=hv
 have hC:=fun u=>xCheckG p q g h u hp hq
 unfold chE at hC
 have no: ∀c:Int,c≠0->seE p q l=c->(CC 9 #[GX p q g h,.slice sl l.length cap] w (.tuple #[SZ,iI c]))->CC 9 #[GX p q g h,.slice sl l.length cap] w (.tuple #[SX (seM p q l) (seS p q l) (seT p q l),iI (seE p q l)]):=by
  intro c hc e hk
  rw[seM,seS,seT,e,if_neg hc,if_neg hc,if_neg hc]
  exact hk
 by_cases c1:gOk p q
 ·simp only[if_pos c1] at hC
  have hq3:=c1.q3
  by_cases ha:(l.length:Int)<1
  ·exact no 2 Z2 (by rw[seE,if_pos c1,if_neg Z1]) (ysh_l p q g h sl cap l w hC (decide_eq_true ha))
  by_cases hb:16<(l.length:Int)
  ·exact no 2 Z2 (by rw[seE,if_pos c1,if_neg Z1]) (ysh_m p q g h sl cap l w hC (decide_eq_false ha) (decide_eq_true hb))
  have hg:=h5.resolve_left Z1
  have hX0: ∀W,(Instr.indexAt 28 (.slice sl l.length cap) (iI 0)).run Tryz.prog W= .ok (.pointer (some ⟨gb,go+9*0,none⟩)) W:=fun W=>sh_ix h4 0 Z1 W
  have hc0:=sh_pt h6 0 Z1 0 _ rfl
  have hN:=fun u=>yNode (l.getD 0 (0,0,0)).1 u
  by_cases c3:ndB (l.getD 0 (0,0,0)).1=true
  ·rw[c3] at hN
   have hAd: ∀(f:Nat->Int),(∀k,k<l.length->In (f k))-> ∀k,k<l.length-> ∀u,CC 27 #[NV (sm1 q f k),NV (f k),NV q] u (.tuple #[NV (sm1 q f (k+1)),iI 0]):=fun f hf k hk u=>xAdd _ _ q u (sm1_In hq Z1 k) (hf k hk) hq Z1
   have hi2: ∀k,k<l.length->In (shS l k)/\In (shT l k):=fun k hk=>hIn _ (memD l (0,0,0) k hk)
   have hnd:sameB l=true->ndsB l=true:=fun hs=>List.all_eq_true.2 fun x hx=>by
    have:=List.all_eq_true.1 hs x hx
    rw[beq_iff_eq] at this
    rw[this];exact c3
   refine ysh_k p q g h _ _ sl gb go cap l _ (sm1 q (shS l)) (sm1 q (shT l)) w hC (decide_eq_false ha) (decide_eq_false hb) hX0 hc0 hN (sh_ix h4) hg (sh_pt h6) (hAd _ fun k hk=>(hi2 k hk).1) (hAd _ fun k hk=>(hi2 k hk).2) rfl rfl (fun k hk hne=>?_) (fun hall=>?_)
   ·have hs: ¬(sameB l=true):=fun hs=>by
     have:=List.all_eq_true.1 hs _ (memD l (0,0,0) k hk)
     rw[beq_iff_eq] at this
     rw[this,bne_self_eq_false] at hne;cases hne
    have e2:seE p q l=2:=by rw[seE,if_pos c1,if_neg (fun e=>hs (by have:=e.2;rw[Bool.and_eq_true] at this;exact this.1))]
    rw[seM,seS,seT,e2,if_neg Z2,if_neg Z2,if_neg Z2]
    exact⟨rfl,rfl⟩
   ·have hs:sameB l=true:=List.all_eq_true.2 fun x hx=>by
     obtain⟨k,hk,rfl⟩:=List.getElem_of_mem hx
     have:=hall k hk
     rw[List.getD_eq_getElem?_getD,List.getElem?_eq_getElem hk] at this
     simp only[Option.getD_some] at this
     rw[this,beq_self_eq_true]
    have e2:seE p q l=0:=by rw[seE,if_pos c1,if_pos ⟨Z1,by rw[hs,hnd hs];rfl⟩]
    rw[seM,seS,seT,e2,if_pos rfl,if_pos rfl,if_pos rfl]
    exact⟨rfl,rfl⟩
  ·rw[Bool.not_eq_true] at c3
   rw[c3] at hN
   refine no 2 Z2 ?_ (ysh_n p q g h _ sl gb go cap l w hC (decide_eq_false ha) (decide_eq_false hb) hX0 hg hc0 hN)
   rw[seE,if_pos c1,if_neg]
   rintro⟨_,e⟩
   rw[Bool.and_eq_true] at e
   have:=nds_get.1 e.2 0 Z1
   rw[c3] at this;cases this
 ·simp only[if_neg c1] at hC
  exact no 90 Z2 (by rw[seE,if_neg c1]) (ysh_c p q g h sl cap l w hC)
def rwD(f:Nat->List Value):Nat->List Value
 | 0=>[]
 | n+1=>rwD f n++f n
theorem Uo{f:Nat->List Value}: ∀{n:Nat},(∀j,j<n->(f j).length=2)->(rwD f n).length=2*n
 | 0,_=>rfl
 | n+1,h=>by rw[rwD,List.length_append,Uo fun j hj=>h j Z1,h n Z1];omega
theorem rwD_get{f:Nat->List Value}{j c:Nat}: ∀{n:Nat},(∀j,j<n->(f j).length=2)->j<n->c<2->(rwD f n)[2*j+c]?=(f j)[c]?
 | 0,_,hj,_=>absurd hj Z1
 | n+1,h,hj,hc=>by
  have hl:=Uo (f:=f) (n:=n) fun j hj=>h j Z1
  rw[rwD]
  by_cases e:j=n
  ·subst e
   rw[List.getElem?_append_right Z1,hl];congr 1;omega
  ·rw[List.getElem?_append_left Z1]
   exact rwD_get (fun j hj=>h j Z1) Z1 hc
theorem rwD_of{f:Nat->List Value}{n j:Nat}{v:Value}(h: ∀j,j<n->(f j).length=2)(hj:(rwD f n)[j]?=some v):j/2<n/\(f (j/2))[j%2]?=some v:=by
 have hl:=(List.getElem?_eq_some_iff.1 hj).1
 rw[Uo h] at hl
 have hn:j/2<n:=Z1
 refine⟨hn,?_⟩
 rw[<-rwD_get h hn (Nat.mod_lt _ Z2),show 2*(j/2)+j%2=j by omega];exact hj
theorem rwD_suc(f:Nat->List Value): ∀n,rwD f (n+1)=f 0++rwD (fun j=>f (j+1)) n
 | 0=>by simp[rwD]
 | n+1=>by rw[rwD,rwD_suc f n,rwD,List.append_assoc]
theorem ixD(g n cap j:Nat)(h:j<n)(w:World):(Instr.indexAt 27 (.slice (some ⟨g,0,none⟩) n cap) (iI j)).run Tryz.prog w= .ok (.pointer (some ⟨g,0+2*j,none⟩)) w:=by
 have hj:(j:Int)<n:=Z1
 go_simp
 all_goals first | omega | (simp[Addr.add];omega) | simp[Addr.add,Nat.mul_comm]
theorem DL.mk{u:World}{b co:Nat}{zs:List Value}{ds:List (Int×List Int)}(vs:Nat->Value)(hb:b<u.heap.size)(hc:CV u b (rwD (fun j=>DE (ds.getD j (0,[])).1 (vs j)) ds.length++zs))(hco:ds.length<=co)(hn: ∀j,j<ds.length->NL u (vs j) (dN ds j)):DL u (.slice (some ⟨b,0,none⟩) ds.length co) ds:=by
 have hE: ∀j,∃t:Option Addr×Nat×Nat×Nat,j<ds.length->vs j= .slice t.1 (dN ds j).length t.2.1/\(dN ds j=[]\/t.1=some ⟨t.2.2.1,t.2.2.2,none⟩)/\((dN ds j).length=0\/t.2.2.1<u.heap.size)/\SN u t.2.2.1 t.2.2.2 (dN ds j)/\NL u (vs j) (dN ds j):=fun j=>by
  by_cases hj:j<ds.length
  ·have h:=hn j hj
   obtain⟨sl,gb,go,cap,h1,h2,h3,h4,h5,h6⟩:=hn j hj
   exact⟨(sl,cap,gb,go),fun _=>⟨h1,h4,h5,h6,h⟩⟩
  ·exact⟨(none,0,0,0),fun h=>absurd h hj⟩
 obtain⟨F,hF⟩:=Classical.skolem.1 hE
 refine⟨some ⟨b,0,none⟩,b,0,co,fun j=>(F j).1,fun j=>(F j).2.1,fun j=>(F j).2.2.1,fun j=>(F j).2.2.2,rfl,by simp,hco,.inr rfl,?_⟩
 refine⟨fun j hj W=>ixD b ds.length co j hj W,.inr hb,fun j hj c v hv=>?_,fun j hj=>NL.ix (u:=u) (hF j hj).2.1,fun j hj=>(hF j hj).2.2.1,fun j hj=>(hF j hj).2.2.2.1,fun j hj=>?_⟩
 ·have hc2:c<2:=(List.getElem?_eq_some_iff.1 hv).1
  rw[<-(hF j hj).1] at hv
  refine(hc (0+2*j+c) v ?_).1
  have hg:=rwD_get (f:=fun j=>DE (ds.getD j (0,[])).1 (vs j)) (n:=ds.length) (fun _ _=>rfl) hj hc2
  rw[Nat.zero_add,List.getElem?_append_left (by rw[Uo fun _ _=>rfl];omega),hg];exact hv
 ·have:=(hF j hj).2.2.2.2
  rwa [(hF j hj).1] at this
theorem infoDl:(Tryz.prog.info? 33).map (fun i=>(i.zero,i.size,i.bytes))=some (some DZ,2,32):=by kernel_rfl
theorem app_dl2{w:World}{b:Nat}{d:Int}{vy v:Value}{ns:List Int}{ds:List (Int×List Int)}{ty:TypeId}(hb:b<w.heap.size)(hc:CV w b (DE d vy))(hy:NL w vy ns)(hv:DL w v ds)(hl:ds.length<=1000):
 ∃v' u',(Builtin.append_ #[27,27] ty #[.slice (some ⟨b,0,none⟩) 1 1,v]).run Tryz.prog w= .ok v' u'/\Bw w u'/\DL u' v' ((d,ns)::ds):=by
 obtain⟨ti,hti,htm⟩:=Option.map_eq_some_iff.1 infoDl
 simp only[Prod.mk.injEq] at htm
 obtain⟨hzv,hsz,hby⟩:=htm
 obtain⟨sl,gb,go,cap,sy,cy,gy,oy,rfl,h2,h3,h4,h5⟩:=hv
 have h1c: ∀j,j<ds.length->(DE (ds.getD j (0,[])).1 (.slice (sy j) (dN ds j).length (cy j)):List Value).length=2:=fun _ _=>rfl
 obtain⟨v',u',hr,hB,b',co,zs,rfl,k1,k2,k3,k4,k5⟩:=Vh (P:=Tryz.prog) w (ty:=ty) Tryz.underlying27 hti hzv (by rw[hsz];rfl) (lo:=0) (b:=b) (n:=1) (m:=ds.length) (xs:=DE d vy) (news:=rwD (fun j=>DE (ds.getD j (0,[])).1 (.slice (sy j) (dN ds j).length (cy j))) ds.length) (y:= .slice sl ds.length cap) hc (Nat.zero_le _) (Nat.zero_le _) hb (by rw[hsz];rfl)
  ⟨sl,cap,rfl,by
   rcases h4 with rfl | rfl
   ·exact .inl rfl
   ·by_cases h0:ds.length=0
    ·exact .inl h0
    ·refine .inr ⟨_,rfl,fun j v hj=>?_⟩
     obtain⟨hn,hc⟩:=rwD_of h1c hj
     have e:(⟨gb,go,none⟩:Addr).add j=⟨gb,go+2*(j/2)+j%2,none⟩:=by
      rw[show go+2*(j/2)+j%2=go+j by omega]
      unfold Addr.add;split<;>simp_all
     rw[e]
     exact h5.at_ _ hn _ _ hc⟩
  (by rw[hsz,Uo h1c];omega) (by rw[hby];omega) Z1
 refine⟨_,u',hr,hB,?_⟩
 have e1:1+ds.length=((d,ns)::ds).length:=by simp;omega
 rw[e1] at k3⊢
 refine DL.mk (fun j=>match j with | 0=>vy | j+1=>.slice (sy j) (dN ds j).length (cy j)) k2 (zs:=zs) ?_ k3 (fun j hj=>?_)
 ·rw[List.length_cons,rwD_suc];exact k5
 ·match j,hj with
  | 0,_=>exact hy.up hB
  | j+1,hj=>exact(h5.nl j (by simpa using hj)).up hB
theorem app_dl{w:World}{d:Int}{vy v:Value}{ns:List Int}{ds:List (Int×List Int)}{ty:TypeId}(hy:NL w vy ns)(hv:DL w v ds)(hl:ds.length<=1000):
 ∃v' u',(Builtin.append_ #[27,27] ty #[.slice (some ⟨w.heap.size,0,none⟩) 1 1,v]).run Tryz.prog (w.alloc (.cells (DE d vy:List Value).toArray 33))= .ok v' u'/\Bw w u'/\DL u' v' ((d,ns)::ds):=by
 have hB0:Bw w (w.alloc (.cells (DE d vy:List Value).toArray 33)):=Z5 (Zf w) _
 obtain⟨v',u',h1,h2,h3⟩:=app_dl2 (ty:=ty) (by simp) (CV.new w (DE d vy) 33) (hy.up hB0) (hv.up hB0) hl
 exact⟨v',u',h1,Z7 hB0 h2,h3⟩
theorem jref_core(p q g h d D e:Int)(vy v2:Value)(ns:List Int)(ds:List (Int×List Int))(es cs:List Int)(w:World)(hy:NL w vy ns)(hv:DL w v2 ds)(hl:ds.length<=1000)(hDl:Hid (∀u x,Bw w u->DL u x ((d,ns)::ds)->Calls Tryz.prog 14 #[GX p q g h,x] u fun r u'=> ∃v,r= .returned v/\EJN u' v es/\Bw u u'))(hNo:Hid (∀u,Bw w u->Calls Tryz.prog 35 #[v2] u fun r u'=> ∃v,r= .returned v/\EJN u' v (bE (!nosB ds) 110)/\Bw u u'))(hTo:Hid (es++bE (!nosB ds) 110=[]->e=0/\ ∀u x,Bw w u->DL u x ((d,ns)::ds)->Calls Tryz.prog 16 #[GX p q g h,x] u fun r u'=> ∃y,r= .returned (DX D y)/\PRw u.heap.size cs u' y/\Bw u u'))(hno:Hid (es++bE (!nosB ds) 110≠[]->tdE (es++bE (!nosB ds) 110) [90,2,110]=e/\D=0/\cs=[])):
 Calls Tryz.prog 12 #[GX p q g h,DX d vy,v2] w fun r u=> ∃y,r= .returned (.tuple #[DX D y,iI e])/\NL u y cs/\Bw w u:=by
 obtain⟨s1,c1,rfl⟩:=hy.sl
 have hv':=hv
 obtain⟨sl,gb,go,cap,sy,cy,gy,oy,rfl,_⟩:=hv'
 have hv:=Hid.on hv
 have hy:=Hid.on hy
 go_enter Tryz.func12,Tryz.ntmps12
 go_upto_region 1 with fail
 generalize hW:World.alloc (World.alloc (World.alloc w _) _) _=v0
 have hz0:w.heap.size+2<v0.heap.size:=by rw[<-hW];simp
 have hB0:Bw w v0:=by rw[<-hW];exact Z5 (Z5 (Z5 (Zf w) _) _) _
 have hC0:CV v0 w.heap.size (GE p q g h):=by rw[<-hW];exact(CV.new w (GE p q g h) 26).below (Z5 (Z5 (Zf _) _) _) (by simp)
 have hC3:CV v0 (w.heap.size+1) (DE d (.slice s1 ns.length c1)):=by rw[<-hW];exact(CVn (DE d (.slice s1 ns.length c1)) 33 (by simp)).below (Z5 (Zf _) _) (by simp)
 have hC1:CV v0 (w.heap.size+2) L0d:=by rw[<-hW];exact CVn L0d 33 (by simp)
 clear hW
 have d0:=(hC3 0 _ rfl).1
 have d1:=(hC3 1 _ rfl).1
 have hC0:=Hid.on hC0
 have hC1:=Hid.on hC1
 clear hC3
 go_cut [8] (fun s8 wx=>Hid (DL wx s8 ((d,ns)::ds))/\Bw v0 wx)
 case first=>
  obtain⟨v',u',r1,hB1,hD1⟩:=app_dl (d:=d) (ty:=27) (hy.out.up hB0) (hv.out.up hB0) hl
  have hD1:=Hid.on hD1
  go_wp2_with (at_builtin;refine Y2 rfl _ _ 27 rfl _ _ _ rfl rfl r1 ?_;clear r1)
  go_meet
  exact⟨hD1.out,hB1⟩
 case rest=>
 obtain⟨hD,hB1⟩:=hcut
 have hC1:=Hid.on (hC1.out.below hB1 hz0)
 have hC0:=hC0.out.below hB1 Z1
 have hg0:=ge_0 hC0
 have hC0:=Hid.on hC0
 replace hz0:=Nat.lt_of_lt_of_le hz0 hB1.size
 replace hB0:=Z7 hB0 hB1
 clear hB1 d0 d1
 obtain⟨w1,rfl⟩:=Zr wc
 have hD':=hD.out
 obtain⟨sa,ga,oa,ca,_,_,_,_,ea,_⟩:=hD'
 subst ea
 go_upto_region 2 with fail
 go_cut [9] (fun s9 wx=>Hid (EJN wx s9 (es++bE (!nosB ds) 110))/\Bw w1 wx)
 case first=>
  go_wp2_with (first
   | (go_at_call 14;refine(hDl.out _ _ hB0 hD.out).mono ?_;clear hDl;rintro r ua ⟨va,rfl,hva,hBa⟩;have s1:=EJN.some hva;replace hva:=Hid.on hva;rcases s1 with rfl | ⟨T1,x1,rfl⟩)
   | (go_at_call 35;refine(hNo.out _ (Z7 hB0 hBa)).mono ?_;clear hNo;rintro r ub ⟨vb,rfl,hvb,hBb⟩;have s2:=EJN.some hvb;have hJ:=Hid.on (jJoin2 (EJN.up hBb hva.out) hvb);replace hBb:=Z7 hBa hBb;rcases s2 with rfl | ⟨T2,x2,rfl⟩)
   | (go_at_call 20;refine hJ.out.mono ?_;clear hJ;rintro r uc ⟨y,rfl,hy,hBc⟩;replace hy:=Hid.on hy))
  all_goals (go_meet;exact⟨hy.out,Z7 hBb hBc⟩)
 case rest=>
 obtain⟨hv9,hBv⟩:=hcut
 clear hg0
 have hg0:=ge_0 (hC0.out.below hBv Z1)
 have hC1:=Hid.on (hC1.out.below hBv hz0)
 have hz1:=Nat.lt_of_lt_of_le hz0 hBv.size
 have hBw:=Z7 hB0 hBv
 replace hD:=Hid.on (hD.out.up hBv)
 clear hC0 hBv hDl hNo hz0 hB0
 by_cases hes:es++bE (!nosB ds) 110=[]
 ·obtain rfl:=hv9.out.no hes
  obtain⟨rfl,hT⟩:=hTo.out hes
  replace hT:=Hid.on (hT wc _ hBw hD.out)
  clear hv9 hno hTo hes hD
  go_wp2_with (go_at_call 16;refine hT.out.mono ?_;clear hT;rintro r ub ⟨y,rfl,hy,hBb⟩;obtain⟨b,rfl,hlo,hlt,hcv⟩:=hy;have hC2:=Hid.on (hC1.out.below hBb hz1);have z0:=hC2.out 0 _ rfl;have z1:=hC2.out 1 _ rfl;clear hC1 hg0;have hk:=Vp (v0:=iI D) (v1:= .slice (some ⟨b,0,none⟩) cs.length cs.length) hC2.out;have k0:=(hk 0 _ rfl).1;have k1:=(hk 1 _ rfl).1;clear hk;replace hcv:=Hid.on hcv)
  exact bodyPost_ret (v:= .tuple #[DX D (.slice (some ⟨b,0,none⟩) cs.length cs.length),iI 0]) (by simp[results,Tryz.results12,go_sem,k0,k1]) rfl ⟨_,rfl,PRw.nl (lo:=w.heap.size) ⟨b,rfl,Z1,by simpa using hlt,(hcv.out.oset ⟨w.heap.size+2,0,none⟩ _ (by show b≠w.heap.size+2;omega)).oset ⟨w.heap.size+2,1,none⟩ _ (by show b≠w.heap.size+2;omega)⟩,Vq (Z7 hBw hBb) Z1⟩
 ·obtain⟨h1,rfl,rfl⟩:=hno.out hes
  obtain⟨T,x,rfl⟩:=hv9.out.yes hes
  have hT:=jTold _ (es++bE (!nosB ds) 110) [90,2,110] 34 wc hv9.out Z2
  rw[h1] at hT
  replace hT:=Hid.on hT
  clear hv9 hno hTo hes hg0 hD
  go_wp2_with (go_at_call 15;refine hT.out.mono ?_;clear hT;rintro r ub ⟨rfl,hBb⟩;have hC2:=Hid.on (hC1.out.below hBb hz1);have z0:=hC2.out 0 _ rfl;have z1:=hC2.out 1 _ rfl;clear hC1;have hk:=Vp (v0:=iI 0) (v1:= .slice none 0 0) hC2.out;have k0:=(hk 0 _ rfl).1;have k1:=(hk 1 _ rfl).1;clear hk)
  exact bodyPost_ret (v:= .tuple #[DX 0 (.slice none 0 0),iI e]) (by simp[results,Tryz.results12,go_sem,k0,k1]) rfl ⟨_,rfl,NL.nilI _,Vq (Z7 hBw hBb) Z1⟩
def rfE(p q:Int)(d:Int×List Int)(ds:List (Int×List Int)):Int:=if smE p q (d::ds)=0 then (if nosB ds then 0 else 110) else smE p q (d::ds)
def rfD(p q:Int)(d:Int×List Int)(ds:List (Int×List Int)):Int:=if rfE p q d ds=0 then d.1 else 0
def rfC(p q:Int)(d:Int×List Int)(ds:List (Int×List Int)):List Int:=if rfE p q d ds=0 then csC p (d::ds) (ds.length+1) else []
theorem dgE_mem{p q:Int}{ds:List (Int×List Int)}(h:dgE p q ds≠[]):dgE p q ds=[110]\/90∈dgE p q ds\/2∈dgE p q ds:=by
 by_cases h1:90∈dgE p q ds
 ·exact .inr (.inl h1)
 by_cases h2:2∈dgE p q ds
 ·exact .inr (.inr h2)
 refine .inl ?_
 unfold dgE at h h1 h2⊢
 by_cases c:hdE p q ds.length=[]
 ·rw[if_pos c] at h h1 h2⊢
  exact(fdE_or (hd_0 c).1 ds).resolve_left h
 ·rw[if_neg c] at h h1 h2
  exfalso
  unfold hdE at h h1 h2
  generalize (!decide (gOk p q))=a at *
  generalize decide ((ds.length:Int)<1)=b at *
  generalize (!decide (0<=(ds.length:Int)/\(ds.length:Int)<=16))=c at *
  cases a<;>cases b<;>cases c<;>simp_all [bE]
theorem rf_no{p q:Int}{d:Int×List Int}{ds:List (Int×List Int)}(h:dgE p q (d::ds)++bE (!nosB ds) 110=[]):rfE p q d ds=0/\dgE p q (d::ds)=[]:=by
 rw[List.append_eq_nil_iff] at h
 have h2:=bE_nil h.2
 rw[Bool.not_eq_false'] at h2
 exact⟨by rw[rfE,if_pos (dgE_no h.1).1,h2];rfl,h.1⟩
theorem rf_td{p q:Int}{d:Int×List Int}{ds:List (Int×List Int)}(h:dgE p q (d::ds)++bE (!nosB ds) 110≠[]):tdE (dgE p q (d::ds)++bE (!nosB ds) 110) [90,2,110]=rfE p q d ds/\rfE p q d ds≠0:=by
 by_cases hd:dgE p q (d::ds)=[]
 ·rw[hd,List.nil_append] at h⊢
  cases hn:nosB ds with
  | true=>rw[hn] at h;exact absurd rfl h
  | false=>
   rw[rfE,if_pos (dgE_no hd).1,hn]
   exact⟨Z2,Z2⟩
 ·obtain⟨e1,e2⟩:=dgE_td hd
  rw[rfE,if_neg e2]
  refine⟨?_,e2⟩
  rw[<-e1]
  have hm:=dgE_mem hd
  generalize dgE p q (d::ds)=l at *
  generalize (!nosB ds)=b
  have m1:(90:Int)∈l++bE b 110↔(90:Int)∈l:=by cases b<;>simp[bE]
  have m2:(2:Int)∈l++bE b 110↔(2:Int)∈l:=by cases b<;>simp[bE]
  simp only[tdE,m1,m2]
  rcases hm with rfl | h | h
  ·cases b<;>decide
  ·rw[if_pos h,if_pos h]
  ·rw[if_pos h,if_pos h]
theorem jRefresh(p q g h:Int)(d:Int×List Int)(ds:List (Int×List Int))(vy v:Value)(w:World)(hG:GP w)(hp:In p)(hq:In q)(hy:NL w vy d.2)(hv:DL w v ds)(hl:ds.length<=500)(hId:d.2.length<=50/\ ∀z∈d.2,In z)(hIn: ∀d∈ds,d.2.length<=50/\ ∀z∈d.2,In z):Calls Tryz.prog 12 #[GX p q g h,DX d.1 vy,v] w fun r u=> ∃y,r= .returned (.tuple #[DX (rfD p q d ds) y,iI (rfE p q d ds)])/\NL u y (rfC p q d ds)/\Bw w u:=by
 have hI2: ∀x∈d::ds,x.2.length<=50/\ ∀z∈x.2,In z:=fun x hx=>by
  rcases List.mem_cons.1 hx with rfl | hx
  ·exact hId
  ·exact hIn x hx
 have hl2:(d::ds).length<=1000:=by simp;omega
 refine jref_core p q g h d.1 _ _ vy v d.2 ds (dgE p q (d::ds)) _ w hy hv Z1 (fun u x hB hx=>jDealings p q g h (d::ds) x u (hG.below hB) hp hq hx hl2 hI2) (fun u hB=>jNought ds v u (hG.below hB) (hv.up hB) Z1 fun x hx=>(hIn x hx).2) (fun e=>?_) (fun e=>?_)
 ·obtain⟨e0,ed⟩:=rf_no e
  obtain⟨_,hg,h1,h16,hf⟩:=dgE_no ed
  rw[rfD,rfC,e0,if_pos rfl,if_pos rfl]
  exact⟨rfl,fun u x hB hx=>jTogether p q g h (d::ds) x u (hG.below hB) hp hq hx hg h1 h16 (fdE_alD hf) fun i hi=>(DL.in2 hI2 i hi).2⟩
 ·obtain⟨e1,e2⟩:=rf_td e
  rw[rfD,rfC,if_neg e2,if_neg e2]
  exact⟨e1,rfl,rfl⟩
section
def EK(i:Nat)(o:Oper)(kp:(World->Value->Prop)->Prop):List En->Prop
 | []=>True
 | q::r=>(eGone [] i o q=true\/(q.i≠i/\kp q.p))/\EK i o kp r
theorem Es.keep{f:Nat->Bool}{t:Nat->Value}{u u':World}{i:Nat}{o:Oper}(dep: ∀e∈o.after,Region.binds .any e=true->f e.on=true): ∀{E:List En},EK i o (fun p=> ∀x,p u x->p u' x) E->Es f t u E->Es (updF f i) t u' E
 | [],_,_=>trivial
 | q::r,hk,h=>by
  refine⟨?_,Es.keep dep hk.2 h.2⟩
  rcases hk.1 with hk | ⟨hne,hk⟩
  ·exact(Es.gone (O:=[]) (t:=t) (v:=u') (E:=[q]) (fun j hj=>by simp at hj) dep (by rw[List.all_cons,hk];rfl)).1
  ·intro g1 g2
   rw[Zx hne] at g1
   refine hk _ (h.1 g1 fun c hc=>?_)
   have:=g2 c hc
   by_cases e:c=i
   ·subst e;rw[Yl] at this;cases this
   ·rwa [Zx e] at this
section
variable {R:Rg} {P:Program} {ops:Array Oper} {Q:Exit->Act->World->Prop} {i:Nat} {o:Oper}
theorem st_bx(m1 m2:Nat)(p0 pv pz:World->Value->Prop){T:TypeId}{i1 d1 i2 d2:Nat}(hr: ∀(u:World) (vb v:Value),p0 u vb->pv u v-> ∃u',(Instr.storeAt T vb v).run P u= .ok () u'/\(∀m w,m<=R.base->Below m w u->Below m w u')/\u'.heap.size=u.heap.size/\pz u' vb/\EK i o (fun p=> ∀x,p u x->p u' x) R.E)
 (hop:o.op= .store T (.tmp d1) (.tmp d2):=by rfl)(hm1:R.E[m1]?=some ⟨i1,d1,some i,p0⟩:=by rfl)(hm2:R.E[m2]?=some ⟨i2,d2,some i,pv⟩:=by rfl)(hd:(Zs o i1&&R.S.contains d1&&(Zs o i2&&R.S.contains d2))=true:=by rfl)(hnw:R.nw=[]:=by rfl)(hes:(R.es.all fun q=>q.2.2.2.free i)=true:=by rfl)
 (hc:({R with E:=[]}:Rg).chkS ops i o=true:=by rfl): ∀f t u a,Xs R ops f t u a i o->wpOp P ops Q i (fun a' u'=> ∃t',Fr R.fr R.S a' t'/\Inv R (updF f i) t' u'/\pz u' (t' d1)) a u:=fun f t u a X=>by
 simp only[Bool.and_eq_true,List.contains_iff_mem] at hd
 obtain⟨⟨h2,h4⟩,h5,h6⟩:=hd
 have e1:p0 u (t d1):=X.val hm1 h2 rfl
 have e2:pv u (t d2):=X.val hm2 h5 rfl
 obtain⟨u',r,hBB,hsz,hz,hE⟩:=hr u _ _ e1 e2
 obtain⟨hdst,s1,⟨s5,_⟩,s7⟩:=Yu hc
 have s1:lacks i R.G=true:=s1
 have s5:R.okO i o=true:=s5
 have s7:Wt R ops o=some true:=s7
 refine X.go s7 fun K hK=>wp_store hop (X.inS h4) (X.inS h6) r (hK _ _ ?_)
 have hM:=X.I.1
 refine⟨t,by rw[hdst];exact X.F,⟨?_,?_,Gs.idle s1 X.I.2.2.1,Yj s5 X.I.2.2.2.1 X.dep,Ns.idle X.I.2.2.2.2.1,Es.keep X.dep hE X.I.2.2.2.2.2⟩,hz⟩
 ·rw[hnw] at hM⊢
  exact{bel:=hBB _ _ hM.lo hM.bel,lo:=hM.lo,sz:=by rw[hsz];exact hM.sz,ks:=trivial,ex:=trivial,nw:=trivial,nd:=hM.nd}
 ·exact(X.I.2.1.below (hBB _ _ (Nat.le_refl _) (Below.refl _ u)) (Nat.le_refl _)).free hes
theorem g_aP(n:Nat)(p:World->Value->Prop){T:TypeId}{pre:List Value}(hr: ∀w,(Instr.alloc T true (.tuple #[])).run P w= .ok (.pointer (some ⟨w.heap.size,0,none⟩)) (w.alloc (.cells pre.toArray T)))(hp: ∀u:World,R.base<=u.heap.size->p (u.alloc (.cells pre.toArray T)) (.pointer (some ⟨u.heap.size,0,none⟩)))(hop:o.op= .alloc T:=by rfl)(hn:(R.E[n]?).map (·.p)=some p:=by rfl)(hc:R.chkE ops n i o=true:=by rfl):OG R P ops Q i o:=fun f t u a X=>by
 obtain⟨d,q,hd,hq,_,_,_,_,_,_,_,_,hw⟩:=Zm hc
 exact X.go hw fun K hK=>wp_alloc hop (hr u) (hK _ _ (X.putE hc (fun q hq=>by rw[hq] at hn;cases hn;exact hp u X.I.1.sz) (Z5 (Zf u) _)))
end
def PBz(lo:Nat)(u:World)(v:Value):Prop:= ∃b,v= .pointer (some ⟨b,0,none⟩)/\lo<=b/\b<u.heap.size/\CV u b L0d/\ ∀k x,u.cell? ⟨b,k,none⟩≠some (iU x)
theorem PBz.stab{lo:Nat}{u u2:World}{x:Value}(hB:Bw u u2)(h:PBz lo u x):PBz lo u2 x:=by
 obtain⟨b,e,h1,h2,h3,h4⟩:=h
 exact⟨b,e,h1,Nat.lt_of_lt_of_le h2 hB.size,h3.below hB h2,fun k x=>by rw[hB.cell (p:=⟨b,k,none⟩) h2];exact h4 k x⟩
theorem PBz.new{lo:Nat}(u:World)(h:lo<=u.heap.size):PBz lo (u.alloc (.cells L0d.toArray 33)) (.pointer (some ⟨u.heap.size,0,none⟩)):=by
 refine⟨_,rfl,h,by simp,CV.new u _ _,fun k x=>?_⟩
 rcases k with _ | _ | k
 ·rw[(CV.new u L0d 33 0 _ rfl).1];simp
 ·rw[(CV.new u L0d 33 1 _ rfl).1];simp
 ·have e:(u.alloc (.cells L0d.toArray 33)).heap[u.heap.size]?=some (.cells L0d.toArray 33):=by show (u.heap.push _)[u.heap.size]?=_;simp
  unfold World.cell?
  simp only[e]
  simp
def PTz(d e:Int)(ns:List Int)(u:World)(v:Value):Prop:= ∃y,v= .tuple #[DX d y,iI e]/\NL u y ns
theorem PTz.stab{d e:Int}{ns:List Int}{u u2:World}{x:Value}(hB:Bw u u2)(h:PTz d e ns u x):PTz d e ns u2 x:=by
 obtain⟨y,e,h⟩:=h
 exact⟨y,e,NL.up h hB⟩
def PVz(d:Int)(ns:List Int)(u:World)(v:Value):Prop:= ∃y,v=DX d y/\NL u y ns
theorem PVz.stab{d:Int}{ns:List Int}{u u2:World}{x:Value}(hB:Bw u u2)(h:PVz d ns u x):PVz d ns u2 x:=by
 obtain⟨y,e,h⟩:=h
 exact⟨y,e,NL.up h hB⟩
def PDz(lo:Nat)(d:Int)(ns:List Int)(u:World)(v:Value):Prop:= ∃b y,v= .pointer (some ⟨b,0,none⟩)/\lo<=b/\b<u.heap.size/\CV u b (DE d y)/\NL u y ns
def PNv(ns:List Int)(u:World)(v:Value):Prop:=NL u v ns
theorem PNv.stab{ns:List Int}{u u2:World}{x:Value}(hB:Bw u u2)(h:PNv ns u x):PNv ns u2 x:=NL.up h hB
theorem sep_N{u:World}{b:Nat}{v0 v1 y:Value}{ns:List Int}(hb: ∀k x,u.cell? ⟨b,k,none⟩≠some (iU x))(h:NL u y ns):NL ((u.setCell ⟨b,0,none⟩ v0).setCell ⟨b,1,none⟩ v1) y ns:=by
 refine set2_N h ?_
 obtain⟨sl,gb,go,cap,rfl,h2,h3,h4,h5,h6⟩:=h
 intro sl' gb' go' cap' e1 e2 hne
 cases e1
 cases e2
 have e3:=h4.resolve_left hne
 cases e3
 intro e
 subst e
 cases ns with
 | nil=>exact hne rfl
 | cons a r=>exact hb _ _ (h6 0 (iU (D0 a)) (by simp[flN]))
theorem stDl{b:Nat}{d d0:Int}{sl s0:Option Addr}{n c n0 c0:Nat}(u:World)(h:CV u b [iI d0,.slice s0 n0 c0]):(Instr.storeAt 33 (.pointer (some ⟨b,0,none⟩)) (DX d (.slice sl n c))).run Tryz.prog u= .ok () ((u.setCell ⟨b,0,none⟩ (iI d)).setCell ⟨b,1,none⟩ (.slice sl n c)):=by
 have z0:=(h 0 _ rfl).1
 have zf0:=(h 0 _ rfl).2
 have z1:=(h 1 _ rfl).1
 have zf1:=(h 1 _ rfl).2
 go_simp
theorem st_dl{lo:Nat}{d:Int}{ns:List Int}(u:World)(vb v:Value)(hb:PBz lo u vb)(hv:PVz d ns u v): ∃u',(Instr.storeAt 33 vb v).run Tryz.prog u= .ok () u'/\(∀m w,m<=lo->Below m w u->Below m w u')/\u'.heap.size=u.heap.size/\PDz lo d ns u' vb/\(∀y ms,NL u y ms->NL u' y ms):=by
 obtain⟨b,rfl,h1,h2,h3,h4⟩:=hb
 obtain⟨y,rfl,hy⟩:=hv
 have hy':=hy
 obtain⟨sl,gb,go,cap,rfl,_⟩:=hy
 exact⟨_,stDl u h3,fun m w hm hB=>Vq hB (Nat.le_trans hm h1),by simp,⟨b,_,rfl,h1,by simpa using h2,Vp h3,sep_N h4 hy'⟩,fun y ms h=>sep_N h4 h⟩
end
section
section
variable {P:Program} {ops:Array Oper} {Q:Exit->Act->World->Prop}
def OT(R:Rg)(P:Program)(ops:Array Oper)(Q:Exit->Act->World->Prop)(d:Nat)(pz:World->Value->Prop)(i:Nat)(oi:Oper):Prop:= ∀f t u a,Xs R ops f t u a i oi->wpOp P ops Q i (fun a' u'=> ∃t',Fr R.fr R.S a' t'/\Inv R (updF f i) t' u'/\(pz u (t d)->pz u' (t' d))) a u
def OZ(R:Rg)(P:Program)(ops:Array Oper)(Q:Exit->Act->World->Prop)(d:Nat)(pz:World->Value->Prop)(i:Nat)(oi:Oper):Prop:= ∀f t u a,Xs R ops f t u a i oi->wpOp P ops Q i (fun a' u'=> ∃t',Fr R.fr R.S a' t'/\Inv R (updF f i) t' u'/\pz u' (t' d)) a u
def OY(R:Rg)(P:Program)(ops:Array Oper)(Q:Exit->Act->World->Prop)(o:Oper)(n d:Nat)(pz:World->Value->Prop)(i:Nat)(oi:Oper):Prop:=(i=n/\oi=o/\OZ R P ops Q d pz i oi)\/(i≠n/\((Zs o i=true/\OG R P ops Q i oi)\/OT R P ops Q d pz i oi))
def OYs(R:Rg)(P:Program)(ops:Array Oper)(Q:Exit->Act->World->Prop)(o:Oper)(n d:Nat)(pz:World->Value->Prop):Nat->List Oper->Prop
 | _,[]=>True
 | i,oi::r=>OY R P ops Q o n d pz i oi/\OYs R P ops Q o n d pz (i+1) r
theorem OYs.get{R:Rg}{o:Oper}{n d:Nat}{pz:World->Value->Prop}: ∀{l:List Oper} {k j:Nat} {oi:Oper},OYs R P ops Q o n d pz k l->l[j]?=some oi->OY R P ops Q o n d pz (k+j) oi
 | [],_,_,_,_,h=>by simp at h
 | x::r,k,0,oi,h,e=>by simp at e;subst e;exact h.1
 | x::r,k,j+1,oi,h,e=>by
  simp at e
  have:=OYs.get h.2 e
  rwa [show k+1+j=k+(j+1) by omega] at this
variable {R:Rg} {o oi:Oper} {n d i:Nat} {pz:World->Value->Prop} {l:List Oper}
theorem yc(t:OG R P ops Q i oi)(r:OYs R P ops Q o n d pz (i+1) l)(h:Zs o i=true:=by rfl)(hn:(i !=n)=true:=by rfl):OYs R P ops Q o n d pz i (oi::l):=⟨.inr ⟨by simpa using hn,.inl ⟨h,t⟩⟩,r⟩
theorem yt(t:OT R P ops Q d pz i oi)(r:OYs R P ops Q o n d pz (i+1) l)(hn:(i !=n)=true:=by rfl):OYs R P ops Q o n d pz i (oi::l):=⟨.inr ⟨by simpa using hn,.inr t⟩,r⟩
theorem yz(t:OZ R P ops Q d pz i oi)(r:OYs R P ops Q oi i d pz (i+1) l):OYs R P ops Q oi i d pz i (oi::l):=⟨.inl ⟨rfl,rfl,t⟩,r⟩
theorem yn:OYs R P ops Q o n d pz i []:=trivial
theorem y_step(h:OY R P ops Q o n d pz i oi){f:Nat->Bool}{t:Nat->Value}{u:World}{a:Act}(X:Xs R ops f t u a i oi)(hI2:f n=true->pz u (t d)/\ ∀k,Zs o k=true->f k=true):
 wpOp P ops Q i (fun a' u'=> ∃t',Fr R.fr R.S a' t'/\Inv R (updF f i) t' u'/\(updF f i n=true->pz u' (t' d)/\ ∀k,Zs o k=true->updF f i k=true)) a u:=by
 have up: ∀k,f k=true->updF f i k=true:=fun k hk=>by
  by_cases e:k=i
  ·subst e;rw[Yl]
  ·rw[Zx e];exact hk
 rcases h with⟨e,e2,h⟩ | ⟨e,⟨h,hg⟩ | h⟩
 ·subst e
  subst e2
  refine wpOp_mono (fun a' u' h=>?_) (h f t u a X)
  obtain⟨t',h1,h2,h3⟩:=h
  exact⟨t',h1,h2,fun _=>⟨h3,fun k hk=>up k (Y4 hk X.dep)⟩⟩
 ·have hfn:f n=false:=by
   cases hf:f n
   ·rfl
   ·have:=(hI2 hf).2 i h;rw[X.fi] at this;cases this
  refine wpOp_mono (fun a' u' h=>?_) (hg f t u a X)
  obtain⟨t',h1,h2⟩:=h
  exact⟨t',h1,h2,fun e3=>by rw[Zx (fun e4=>e e4.symm),hfn] at e3;cases e3⟩
 ·refine wpOp_mono (fun a' u' h=>?_) (h f t u a X)
  obtain⟨t',h1,h2,h3⟩:=h
  refine⟨t',h1,h2,fun e3=>?_⟩
  rw[Zx (fun e4=>e e4.symm)] at e3
  exact⟨h3 (hI2 e3).1,fun k hk=>up k ((hI2 e3).2 k hk)⟩
end
section
variable {P:Program} {ops:Array Oper} {Q:Exit->Act->World->Prop} {id:Nat} {w0 w:World} {fr:List Value} {lo:Nat} {ks:List Blk}
theorem rgY1(n m:Nat)(pz:World->Value->Prop){o:Oper}{j d:Nat}{c:Option Nat}{p:World->Value->Prop}(K:Bk lo w0 ks)(HB:Below lo w w0)(hlo:lo<=w0.heap.size)(X:List Wr)(nw:List Nw)(G:List (Nat×Nat×Value))(O N:List (Nat×Nat))(E E2:List En)(M:List Bool)(hst:Stab E)
 (hE:E[m]?=some ⟨j,d,c,p⟩)(hE2:E2=E.set m ⟨j,d,none,pz⟩)(hn:ops[n]?=some o)
 (hops:OYs (mkR fr lo w w0.heap.size ks X nw G O N E) P ops Q o n d pz 0 ops.toList)
 (hend: ∀u',AllNew nw fun bs=>AllE u' E2 fun vs=>Below lo w u'->w0.heap.size<=u'.heap.size->Bk lo u' (pM M (aK (fX ks X) (nK bs nw)))->Q .normal ⟨(setE (setN (setG fr G) bs nw) vs E2).toArray,[]⟩ u')
 (hm:P.follows .mixedOrders=true:=by kernel_rfl)(hb:We .any ops=true:=by kernel_rfl)(hok:(mkR fr lo w w0.heap.size ks X nw G O N E).ok=true:=by kernel_rfl)(hfit:fits ops.size X nw G E2=true:=by kernel_rfl):(Code.region id ops true).wp P Q ⟨fr.toArray,[]⟩ w0:=by
 have hKd:KA lo w0.drew ks:=by
  have:=K.a
  revert this
  clear hend hops K hok
  induction ks with
  | nil=>intro _;trivial
  | cons q r ih=>exact fun h=>⟨⟨h.1.1,h.1.2.1,h.1.2.2.drew⟩,ih h.2⟩
 have hmap: ∀(E:List En) (m:Nat),E[m]?=some ⟨j,d,c,p⟩->(E.set m ⟨j,d,none,pz⟩).map (·.d)=E.map (·.d):=by
  intro E
  induction E with
  | nil=>intro m h;simp at h
  | cons x r ih=>
   intro m h
   cases m with
   | zero=>simp at h;subst h;rfl
   | succ m=>simp at h;simp[ih m h]
 have hS:(mkR fr lo w w0.heap.size ks X nw G O N E2).S=(mkR fr lo w w0.heap.size ks X nw G O N E).S:=by
  show G.map (·.2.1)++(nw.map (·.2.1)++E2.map (·.d))=G.map (·.2.1)++(nw.map (·.2.1)++E.map (·.d))
  rw[hE2,hmap E m hE]
 refine Xr (mkR fr lo w w0.heap.size ks X nw G O N E).S (fun f t u=>Inv (mkR fr lo w w0.heap.size ks X nw G O N E) f t u/\(f n=true->pz u (t d)/\ ∀k,Zs o k=true->f k=true)) hm hb ⟨Inv.start HB.drew rfl hKd hlo X nw G O N E,fun e=>by cases e⟩ ?_ ?_
 ·rintro f t u i oi a hF ⟨hI,hI2⟩ ho hfi hdep
  have hg:=hops.get (j:=i) (oi:=oi) (by rw[Array.getElem?_toList];exact ho)
  rw[Nat.zero_add] at hg
  exact y_step hg ⟨hok,by show ((U9 ks X).map (·.2.1)).Nodup;rw[Xb];exact K.n,hst,hF,hI,ho,hfi,hdep⟩ hI2
 ·rintro f t u ⟨hI,hI2⟩ hall
  have h2:=hI2 (hall n (Array.getElem?_eq_some_iff.1 hn).1)
  have hI3:Inv (mkR fr lo w w0.heap.size ks X nw G O N E2) f t u:=by
   obtain⟨a1,a2,a3,a4,a5,a6⟩:=hI
   refine⟨a1,a2,a3,a4,a5,?_⟩
   show Es f t u E2
   rw[hE2]
   exact Es.set a6 fun _ _=>h2.1
  have:=hI3.end hall hfit K.n hend
  rw[hS] at this
  exact this
theorem rgY0(n m:Nat)(pz:World->Value->Prop){o:Oper}{j d:Nat}{c:Option Nat}{p:World->Value->Prop}(K:Bk lo w0 ks)(HB:Below lo w w0)(hlo:lo<=w0.heap.size)(X:List Wr)(nw:List Nw)(G:List (Nat×Nat×Value))(O N:List (Nat×Nat))(E E2:List En)(M:List Bool)(hst:Stab E)
 (hE:E[m]?=some ⟨j,d,c,p⟩)(hE2:E2=E.set m ⟨j,d,none,pz⟩)(hn:ops[n]?=some o)
 (hops:OYs (mkR fr lo w w0.heap.size ks X nw G O N E) P ops Q o n d pz 0 ops.toList)
 (hend: ∀u',AllNew nw fun bs=>AllE u' E2 fun vs=>Below lo w u'->w0.heap.size<=u'.heap.size->Bk lo u' (pM M (aK (fX ks X) (nK bs nw)))->Q .normal ⟨(setE (setN (setG fr G) bs nw) vs E2).toArray,[]⟩ u')
 (hb:We .any ops=true:=by kernel_rfl)(hok:(mkR fr lo w w0.heap.size ks X nw G O N E).ok=true:=by kernel_rfl)(hfit:fits ops.size X nw G E2=true:=by kernel_rfl):(Code.region id ops false).wp P Q ⟨fr.toArray,[]⟩ w0:=by
 have hmap: ∀(E:List En) (m:Nat),E[m]?=some ⟨j,d,c,p⟩->(E.set m ⟨j,d,none,pz⟩).map (·.d)=E.map (·.d):=by
  intro E
  induction E with
  | nil=>intro m h;simp at h
  | cons x r ih=>
   intro m h
   cases m with
   | zero=>simp at h;subst h;rfl
   | succ m=>simp at h;simp[ih m h]
 have hS:(mkR fr lo w w0.heap.size ks X nw G O N E2).S=(mkR fr lo w w0.heap.size ks X nw G O N E).S:=by
  show G.map (·.2.1)++(nw.map (·.2.1)++E2.map (·.d))=G.map (·.2.1)++(nw.map (·.2.1)++E.map (·.d))
  rw[hE2,hmap E m hE]
 refine T8 (mkR fr lo w w0.heap.size ks X nw G O N E).S (fun f t u=>Inv (mkR fr lo w w0.heap.size ks X nw G O N E) f t u/\(f n=true->pz u (t d)/\ ∀k,Zs o k=true->f k=true)) hb ⟨Inv.start HB rfl K.a hlo X nw G O N E,fun e=>by cases e⟩ ?_ ?_
 ·rintro f t u i oi a hF ⟨hI,hI2⟩ ho hfi hdep
  have hg:=hops.get (j:=i) (oi:=oi) (by rw[Array.getElem?_toList];exact ho)
  rw[Nat.zero_add] at hg
  exact y_step hg ⟨hok,by show ((U9 ks X).map (·.2.1)).Nodup;rw[Xb];exact K.n,hst,hF,hI,ho,hfi,hdep⟩ hI2
 ·rintro f t u ⟨hI,hI2⟩ hall
  have h2:=hI2 (hall n (Array.getElem?_eq_some_iff.1 hn).1)
  have hI3:Inv (mkR fr lo w w0.heap.size ks X nw G O N E2) f t u:=by
   obtain⟨a1,a2,a3,a4,a5,a6⟩:=hI
   refine⟨a1,a2,a3,a4,a5,?_⟩
   show Es f t u E2
   rw[hE2]
   exact Es.set a6 fun _ _=>h2.1
  have:=hI3.end hall hfit K.n hend
  rw[hS] at this
  exact this
end
section
variable {R:Rg} {P:Program} {ops:Array Oper} {Q:Exit->Act->World->Prop} {i:Nat} {o:Oper}
theorem t_pure(d:Nat)(pz:World->Value->Prop){v:Value}(hv:some v=Y3 i R.G)(hd:(o.dst.all (·!=d))=true)(hc:R.chk ops i o=true)(h: ∀f t u a,Xs R ops f t u a i o-> ∀K:Act->World->Prop,K (a.put o.dst v) u->Oper.wp P o a u K Q):OT R P ops Q d pz i o:=fun f t u a X=>by
 obtain⟨d',hd',h1,h2,h3,h4,h5,h6,h7⟩:=Yi hc
 rw[hd'] at hd
 have hne:d≠d':=by simp at hd;exact fun e=>hd e.symm
 refine X.go h7 fun K hK=>h f t u a X K (hK _ _ ⟨updT t d' v,by rw[hd'];exact X.F.put X.parts.1 h4 v,⟨?_,X.I.2.1.free h6,Gs.stepA X.I.2.2.1 h1 hv.symm,Yj h5 X.I.2.2.2.1 X.dep,Ns.step X.I.2.2.2.2.1 h2,Es.step (Below.refl _ _) X.st h3.2 X.I.2.2.2.2.2⟩,fun hz=>?_⟩)
 ·rw[Xt h3.1];exact X.I.1
 ·rw[updT,if_neg hne];exact hz
theorem t_as(d:Nat)(pz:World->Value->Prop){x:Operand}{v:Value}(hop:o.op= .assign x:=by rfl)(hx:evR R i o x=some v:=by rfl)(hv:some v=Y3 i R.G:=by rfl)(hd:(o.dst.all (·!=d))=true:=by rfl)(hc:R.chk ops i o=true:=by rfl):OT R P ops Q d pz i o:=
 t_pure d pz hv hd hc fun f t u a X K hK=>U7 hop (X.ev hx) hK
theorem t_xV(dz:Nat)(pz:World->Value->Prop)(m:Nat)(p:World->Value->Prop){j d k:Nat}{c:Option Nat}{v:Value}(hp: ∀u vs,p u vs-> ∃cs,vs= .tuple cs/\cs[k]?=some v)(hop:o.op= .extract (.tmp d) k:=by rfl)(hm:R.E[m]?=some ⟨j,d,c,p⟩:=by rfl)(hcc:(c.all (· ==i))=true:=by rfl)(hd:(Zs o j&&R.S.contains d)=true:=by rfl)(hdz:(o.dst.all (·!=dz))=true:=by rfl)(hv:some v=Y3 i R.G:=by rfl)(hc:R.chk ops i o=true:=by rfl):OT R P ops Q dz pz i o:=
 t_pure dz pz hv hdz hc fun f t u a X K hK=>by
  rw[Bool.and_eq_true,List.contains_iff_mem] at hd
  obtain⟨h2,h4⟩:=hd
  obtain⟨cs,e1,e2⟩:=hp u (t d) (X.val2 hm h2 hcc)
  exact Vg hop ((X.inS h4).trans e1) e2 hK
end
end
section
section
variable {R:Rg} {P:Program} {ops:Array Oper} {Q:Exit->Act->World->Prop} {f:Nat->Bool} {t:Nat->Value} {u:World} {a:Act} {i:Nat} {o:Oper}
theorem g_cX(m n:Nat)(p p':World->Value->Prop){N:FuncId}{j d:Nat}{x:Operand}{vx:Value}{tys:Array TypeId}(hr: ∀(vs:Array Value) (w:World),(callFunc N vs).run P w= .ok (.enter N vs) w)
 (hcall: ∀(u:World) (y:Value),Below R.lo R.w u->R.base<=u.heap.size->p u y->Calls P N #[vx,y] u fun e u'=> ∃v,e= .returned v/\p' u' v/\Bw u u')(hop:o.op= .call {callee:= .value (.func N),args:=[x,.tmp d].toArray,argTypes:=tys}:=by rfl)(hx:evR R i o x=some vx:=by rfl)(hm:R.E[m]?=some ⟨j,d,some i,p⟩:=by rfl)(hd:(Zs o j&&R.S.contains d)=true:=by rfl)(hn:(R.E[n]?).map (·.p)=some p':=by rfl)(hc:R.chkE ops n i o=true:=by rfl):OG R P ops Q i o:=fun f t u a X=>by
 rw[Bool.and_eq_true,List.contains_iff_mem] at hd
 obtain⟨h2,h4⟩:=hd
 obtain⟨d',q,hd',hq,_,_,_,_,_,_,_,_,hw⟩:=Zm hc
 exact X.go hw fun K hK=>wp_callP (vs:=[vx,t d]) hop (by rw[List.map_cons,List.map_cons,List.map_nil,X.ev hx,X.inS h4]) hr (hcall u (t d) X.I.1.bel X.I.1.sz (X.val hm h2 rfl)) fun v w' h1 hB=>hK _ _ (X.putE hc (fun q hq=>by rw[hq] at hn;cases hn;exact h1) hB)
end
theorem EKj{u u':World}{d e:Int}{ns:List Int}(h: ∀y ms,NL u y ms->NL u' y ms): ∀x,PTz d e ns u x->PTz d e ns u' x:=fun x hx=>by
 obtain⟨y,e,h2⟩:=hx
 exact⟨y,e,h _ _ h2⟩
def P1d(d:Int)(vy:Value)(u:World)(v:Value):Prop:= ∃b,v= .slice (some ⟨b,0,none⟩) 1 1/\b<u.heap.size/\CV u b (DE d vy)
theorem P1d.stab{d:Int}{vy:Value}{u u2:World}{v:Value}(hB:Bw u u2)(h:P1d d vy u v):P1d d vy u2 v:=by
 obtain⟨b,e,h1,h2⟩:=h
 exact⟨b,e,Nat.lt_of_lt_of_le h1 hB.size,h2.below hB h1⟩
theorem P1d.new{d:Int}{vy:Value}{T:TypeId}(u:World):P1d d vy (u.alloc (.cells (DE d vy:List Value).toArray T)) (.slice (some ⟨u.heap.size,0,none⟩) 1 1):=⟨_,rfl,by simp,CV.new u _ _⟩
theorem bsD1(d:Int)(s:Option Addr)(n c:Nat)(w:World):(Instr.buildSlice 27 1 ([0].zip [DX d (.slice s n c)]).toArray).run Tryz.prog w= .ok (.slice (some ⟨w.heap.size,0,none⟩) 1 1) (w.alloc (.cells (DE d (.slice s n c):List Value).toArray 33)):=by kernel_rfl
def DLp(ds:List (Int×List Int))(u:World)(v:Value):Prop:=DL u v ds
theorem DLp.stab{ds:List (Int×List Int)}{u u2:World}{v:Value}(hB:Bw u u2)(h:DLp ds u v):DLp ds u2 v:=DL.up h hB
theorem ent_G1:EnT 7:=fun _ _=>by kernel_rfl
theorem yref_core(p q g h d D e D2 e2:Int)(vy v2:Value)(ns:List Int)(ds:List (Int×List Int))(cs cs2:List Int)(w:World)(hy:NL w vy ns)(hv:DL w v2 ds)(hl:ds.length<=256)(hSm:Hid (∀u x,Bw w u->DL u x ((d,ns)::ds)->Calls Tryz.prog 7 #[GX p q g h,x] u fun r u'=> ∃y,r= .returned (.tuple #[DX D y,iI e])/\NL u' y cs/\Bw u u'))(hNo:Hid (∀i,i<ds.length-> ∀z∈dN ds i,In z))(hr1:Hid (e≠0->D2=0/\cs2=[]/\e2=e))(hr2:Hid (e=0->nosB ds=false->D2=0/\cs2=[]/\e2=110))(hr3:Hid (e=0->nosB ds=true->D2=D/\cs2=cs/\e2=0)):
 Calls Tryz.prog 13 #[GX p q g h,DX d vy,v2] w fun e' w'=> ∃y,e'= .returned (.tuple #[DX D2 y,iI e2])/\NL w' y cs2/\Bw w w':=by
 obtain⟨s1,c1,rfl⟩:=hy.sl
 have hv':=hv
 obtain⟨sl,gb,go,cap,sy,cy,gy,oy,rfl,_,_,_,hDM⟩:=hv'
 have hy:=Hid.on hy
 have hv:=Hid.on hv
 have hDM:=Hid.on hDM
 go_enter Tryz.func13,Tryz.ntmps13
 go_upto_region 1 with fail
 generalize hW:World.alloc (World.alloc (World.alloc w _) _) _=v0
 have hz0:w.heap.size+2<v0.heap.size:=by rw[<-hW];simp
 have hB0:Bw w v0:=by rw[<-hW];exact Z5 (Z5 (Z5 (Zf w) _) _) _
 have hC0:CV v0 w.heap.size (GE p q g h):=by rw[<-hW];exact(CV.new w (GE p q g h) 26).below (Z5 (Z5 (Zf _) _) _) (by simp)
 have hC3:CV v0 (w.heap.size+1) (DE d (.slice s1 ns.length c1)):=by rw[<-hW];exact(CVn (DE d (.slice s1 ns.length c1)) 33 (by simp)).below (Z5 (Zf _) _) (by simp)
 have hC1:PBz w.heap.size v0 (.pointer (some ⟨w.heap.size+2,0,none⟩)):=by
  rw[<-hW]
  have:=PBz.new (lo:=w.heap.size) ((w.alloc (.cells (GE p q g h:List Value).toArray 26)).alloc (.cells (DE d (.slice s1 ns.length c1):List Value).toArray 33)) (by rw[World.size_alloc,World.size_alloc];omega)
  simpa using this
 clear hW
 have hG0:Hid (v0.rangeAt w.heap.size 0 (GE p q g h)):=fun j v hj=>by rw[Nat.zero_add];exact(hC0 j v hj).1
 have hG3:Hid (v0.rangeAt (w.heap.size+1) 0 (DE d (.slice s1 ns.length c1))):=fun j v hj=>by rw[Nat.zero_add];exact(hC3 j v hj).1
 have k0:w.heap.size<v0.heap.size:=Z1
 have k3:w.heap.size+1<v0.heap.size:=Z1
 have HBo:Bw v0 v0:=Below.refl _ _
 have hyo:=hy.out.up hB0
 have hvo:=hv.out.up hB0
 have hyo:=Hid.on hyo
 have hvo:=Hid.on hvo
 have hC1:=Hid.on hC1
 clear hC0 hC3 hy hv
 have K0_1:=Bk.nil (v0.heap.size) v0
 go_upto_region 1 with fail
 refine Rn K0_1 HBo (cG 0 11 [_,_,_] []) (Oc3 g_mv (g_ln Tryz.underlying27) (g_bn (fun uZ=>V8 _ _ (ds.length:Int) 256 _ uZ (decide_eq_false Z1)))) fun u1 HB1 _ K1=>?_
 simp only[sQ] at K1⊢
 go_upto_region 3 with fail
 refine rgY1 10 5 (PDz u1.heap.size D cs) K1 HB1 HB1.size [] [] [(0,17,GX p q g h),(1,18,DX d (.slice s1 ns.length c1)),(3,20,.slice sl ds.length cap),(8,24,iI e),(11,9,iI e)] [] [] [⟨2,19,some 4,P1d d (.slice s1 ns.length c1)⟩,⟨4,21,some 5,DLp ((d,ns)::ds)⟩,⟨5,22,some 6,PTz D e cs⟩,⟨6,16,none,PTz D e cs⟩,⟨7,23,some 10,PVz D cs⟩,⟨9,8,some 10,PBz u1.heap.size⟩] [⟨2,19,some 4,P1d d (.slice s1 ns.length c1)⟩,⟨4,21,some 5,DLp ((d,ns)::ds)⟩,⟨5,22,some 6,PTz D e cs⟩,⟨6,16,none,PTz D e cs⟩,⟨7,23,some 10,PVz D cs⟩,⟨9,8,none,PDz u1.heap.size D cs⟩] [] (.cons (fun _ _ _ h1 h2=>h2.stab h1)<| .cons (fun _ _ _ h1 h2=>h2.stab h1)<| .cons (fun _ _ _ h1 h2=>h2.stab h1)<| .cons (fun _ _ _ h1 h2=>h2.stab h1)<| .cons (fun _ _ _ h1 h2=>h2.stab h1)<| .cons (fun _ _ _ h1 h2=>h2.stab h1)<|Stab.nil) rfl rfl rfl ?_ ?_
 ·refine yc (g_lf hG0.out k0 Tryz.underlying26 Z4) ?_
  refine yc (g_lf hG3.out k3 Tryz.underlying33 Z8) ?_
  refine yc (g_bR 0 (P1d d (.slice s1 ns.length c1)) [0] [DX d (.slice s1 ns.length c1)] (DE d (.slice s1 ns.length c1)) (bsD1 d s1 ns.length c1) (fun u hu=>P1d.new u)) ?_
  refine yc g_mv ?_
  refine yc (g_aW 0 1 (P1d d (.slice s1 ns.length c1)) (DLp ((d,ns)::ds)) (fun u x bZ hs hx=>by obtain⟨b,rfl,h1,h2⟩:=hx;exact app_dl2 h1 h2 (hyo.out.up bZ) (hvo.out.up bZ) Z1)) ?_
  refine yc (g_cX 1 2 (DLp ((d,ns)::ds)) (PTz D e cs) ent_G1 (fun u y bZ hs hy=>(hSm.out u y (Z7 hB0 bZ) hy).mono (by rintro r u' ⟨y,rfl,h1,h2⟩;exact⟨_,rfl,⟨y,rfl,h1⟩,h2⟩))) ?_
  refine yc (g_mE 2 3 (PTz D e cs)) ?_
  refine yc (g_xE (k:=0) 3 4 (PTz D e cs) (PVz D cs) (fun u vs h=>by obtain⟨y,rfl,hy⟩:=h;exact⟨_,_,rfl,rfl,y,rfl,hy⟩)) ?_
  refine yt (t_xV (k:=1) (v:=iI e) 8 (PDz u1.heap.size D cs) 3 (PTz D e cs) (fun u vs h=>by obtain⟨y,rfl,hy⟩:=h;exact⟨_,rfl,rfl⟩)) ?_
  refine yc (g_aP 5 (PBz u1.heap.size) Yd (fun u hu=>PBz.new u hu)) ?_
  refine yz (st_bx 5 4 (PBz u1.heap.size) (PVz D cs) (PDz u1.heap.size D cs) (fun u vb v h0 hv=>by obtain⟨u2,r,h1,h2,h3,h4⟩:=st_dl u vb v h0 hv;exact⟨u2,r,h1,h2,h3,⟨.inl rfl,.inl rfl,.inl rfl,.inr ⟨by simp,EKj h4⟩,.inl rfl,.inl rfl,trivial⟩⟩)) ?_
  exact yt (t_as 8 (PDz u1.heap.size D cs)) yn
 intro u2 v2_2 hv2_2 v2_4 hv2_4 v2_5 hv2_5 v2_6 hv2_6 v2_7 hv2_7 v2_9 hv2_9 HB2 sz2 K2
 simp only[sQ] at K2⊢
 obtain⟨b,y,rfl,hb1,hb2,hb3,hb4⟩:=hv2_9 rfl
 clear hv2_2 hv2_4 hv2_5 hv2_6 hv2_7 hv2_9
 obtain⟨s8,c8,rfl⟩:=hb4.sl
 obtain⟨b6,e6,_,_,hC6,hs6⟩:=hC1.out
 cases e6
 have hs6: ∀k x,u2.cell? ⟨w.heap.size+2,k,none⟩≠some (iU x):=fun k x h=>hs6 k x ((HB2.cell (p:=⟨w.heap.size+2,k,none⟩) hz0).symm.trans h)
 have hC6:=hC6.below HB2 hz0
 have hz6:=Nat.lt_of_lt_of_le hz0 HB2.size
 have hBw:=Z7 hB0 HB2
 have hlb:w.heap.size+2<b:=Z1
 generalize u2=u2 at *
 clear hyo hG0 hG3 k0 k3 HBo HB2 sz2 K2 hB0 hz0 hC1 hSm
 replace hs6:=Hid.on hs6
 replace hb4:=Hid.on hb4
 by_cases he:e=0
 ·subst he
  have hr2:=hr2.out rfl
  have hr3:=hr3.out rfl
  clear hr1
  obtain⟨nb,hnb⟩:=Z3 (nosB ds)
  rw[hnb] at hr2 hr3
  have hnb:=Hid.on hnb
  have hr2:=Hid.on hr2
  have hr3:=Hid.on hr3
  have hC6:=Hid.on hC6
  have hb3:=Hid.on hb3
  go_wp2_with fail
  go_loopw [10] (fun s10 wr=> ∃i:Nat,i<=ds.length/\s10=iI (i:Int)/\Hid (nosB (ds.drop i)=nb)/\Bw u2 wr) (fun s10 _=>ds.length -(intOf s10).toNat)
  case atStart=>exact⟨0,Z1,rfl,by rw[List.drop_zero];exact hnb,Below.refl _ _⟩
  case round=>
   obtain⟨i,hi,rfl,ht,HBr⟩:=hrel
   have hC6r:=Hid.on (hC6.out.below HBr hz6)
   by_cases hj:i<ds.length
   ·have hl2:(i:Int)<(ds.length:Int):=Z1
    have hX:=hDM.out.ix i hj
    have hBt:=Z7 hBw HBr
    have hR:=Tj hBt (hDM.out.lt.resolve_left Z1) (hDM.out.at_ i hj)
    have hv0:=(hDM.out.nl i hj).up hBt
    have hn0:=hNo.out i hj
    have ht2:=ht.out
    rw[nosB,all_dr _ _ (0,[]) i hj,<-nosB] at ht2
    have e1:IntKind.i64.wrap ((i:Int)+1)=((i+1:Nat):Int):=by rw[IntKind.wrap_i64];omega
    have en:dN ds i=(ds.getD i (0,[])).2:=rfl
    rw[en] at hn0
    clear en
    generalize ds.getD i (0,[])=x at *
    obtain⟨m,ms⟩:=x
    simp only at hR hn0 hv0 ht2
    have c0:wr.cell? ⟨gb,go+2*i,none⟩=some (iI m):=hR 0 _ rfl
    have c1:=hR 1 _ rfl
    clear hR
    have hN:=xNought m ms _ wr hv0 hn0
    clear hv0 hn0
    cases hn:noB ms
    ·rw[hn] at ht2 hN
     have hN:=Hid.on hN
     obtain rfl:nb=false:=ht2.symm
     obtain⟨rfl,rfl,rfl⟩:=hr2.out rfl
     clear ht ht2
     go_wp2_with (go_at_call 36;refine hN.out.mono ?_;clear hN;rintro r ua ⟨rfl,hBa⟩;have hC7:=hC6r.out.below hBa (Nat.lt_of_lt_of_le hz6 HBr.size);have z0:=hC7 0 _ rfl;have z1:=hC7 1 _ rfl;have hk:=Vp (v0:=iI 0) (v1:= .slice none 0 0) hC7;have q0:=(hk 0 _ rfl).1;have q1:=(hk 1 _ rfl).1;clear hk hC7)
     exact bodyPost_ret (v:= .tuple #[DX 0 (.slice none 0 0),iI 110]) (by simp[results,Tryz.results13,go_sem,q0,q1]) rfl ⟨_,rfl,NL.nilI _,Vq (Z7 hBt hBa) Z1⟩
    ·rw[hn] at hN
     rw[hn,Bool.true_and] at ht2
     have hN:=Hid.on hN
     have ht2:=Hid.on ht2
     go_wp2_with (go_at_call 36;refine hN.out.mono ?_;clear hN;rintro r ua ⟨rfl,hBa⟩)
     exact⟨⟨i+1,Z1,by simp,ht2,Z7 HBr hBa⟩,by simp[intOf];omega⟩
   ·have hl2: ¬(i:Int)<(ds.length:Int):=Z1
    have ht3:=ht.out
    rw[List.drop_eq_nil_of_le Z1] at ht3
    obtain rfl:nb=true:=ht3.symm
    obtain⟨rfl,rfl,rfl⟩:=hr3.out rfl
    have hb3r:=hb3.out.below HBr hb2
    have y0:=(hb3r 0 _ rfl).1
    have y1:=(hb3r 1 _ rfl).1
    have z0:=hC6r.out 0 _ rfl
    have z1:=hC6r.out 1 _ rfl
    have hk:=Vp (v0:=iI D2) (v1:= .slice s8 cs2.length c8) hC6r.out
    have q0:=(hk 0 _ rfl).1
    have q1:=(hk 1 _ rfl).1
    have hN2:NL ((wr.setCell ⟨w.heap.size+2,0,none⟩ (iI D2)).setCell ⟨w.heap.size+2,1,none⟩ (.slice s8 cs2.length c8)) (.slice s8 cs2.length c8) cs2:=sep_N (fun k x h=>hs6.out k x ((HBr.cell (p:=⟨w.heap.size+2,k,none⟩) hz6).symm.trans h)) (hb4.out.up HBr)
    have hN2:=Hid.on hN2
    clear hk hb3r ht ht3
    go_wp2
    exact bodyPost_ret (v:= .tuple #[DX D2 (.slice s8 cs2.length c8),iI 0]) (by simp[results,Tryz.results13,go_sem,q0,q1]) rfl ⟨_,rfl,hN2.out,Vq (Z7 hBw HBr) Z1⟩
 ·obtain⟨rfl,rfl,rfl⟩:=hr1.out he
  have hne:(e2 !=0)=true:=bne_iff_ne.2 he
  have z0:=hC6 0 _ rfl
  have z1:=hC6 1 _ rfl
  have hk:=Vp (v0:=iI 0) (v1:= .slice none 0 0) hC6
  have q0:=(hk 0 _ rfl).1
  have q1:=(hk 1 _ rfl).1
  clear hk hC6 hr1 hr2 hr3
  go_wp2
  exact bodyPost_ret (v:= .tuple #[DX 0 (.slice none 0 0),iI e2]) (by simp[results,Tryz.results13,go_sem,q0,q1]) rfl ⟨_,rfl,NL.nilI _,Vq hBw Z1⟩
end
theorem yRefresh(p q g h:Int)(d:Int×List Int)(ds:List (Int×List Int))(vy v:Value)(w:World)(hp:In p)(hq:In q)(hy:NL w vy d.2)(hv:DL w v ds)(hl:ds.length<=256)(hId:d.2.length<=50/\ ∀z∈d.2,In z)(hIn: ∀d∈ds,d.2.length<=50/\ ∀z∈d.2,In z):Calls Tryz.prog 13 #[GX p q g h,DX d.1 vy,v] w fun r u=> ∃y,r= .returned (.tuple #[DX (rfD p q d ds) y,iI (rfE p q d ds)])/\NL u y (rfC p q d ds)/\Bw w u:=by
 have hI2: ∀x∈d::ds,x.2.length<=50/\ ∀z∈x.2,In z:=fun x hx=>by
  rcases List.mem_cons.1 hx with rfl | hx
  ·exact hId
  ·exact hIn x hx
 have hl2:(d::ds).length<=1000:=by simp;omega
 refine yref_core p q g h d.1 (smD p q (d::ds)) (smE p q (d::ds)) _ _ vy v d.2 ds (smC p q (d::ds)) _ w hy hv hl (fun u x hB hx=>ySum p q g h (d::ds) x u hp hq hx hl2 hI2) (fun i hi=>(DL.in2 hIn i hi).2) (fun e=>?_) (fun e n=>?_) (fun e n=>?_)
 ·have e2:rfE p q d ds=smE p q (d::ds):=by rw[rfE,if_neg e]
  rw[rfD,rfC,e2,if_neg e,if_neg e]
  exact⟨rfl,rfl,rfl⟩
 ·have e2:rfE p q d ds=110:=by rw[rfE,if_pos e,n];rfl
  rw[rfD,rfC,e2,if_neg Z2,if_neg Z2]
  exact⟨rfl,rfl,rfl⟩
 ·have e2:rfE p q d ds=0:=by rw[rfE,if_pos e,n];rfl
  rw[rfD,rfC,e2,if_pos rfl,if_pos rfl,smD,smC,if_pos e,if_pos e]
  exact⟨rfl,rfl,rfl⟩
end Go.Proofs.YtoffgfhilkpdpaaGreatDoor
