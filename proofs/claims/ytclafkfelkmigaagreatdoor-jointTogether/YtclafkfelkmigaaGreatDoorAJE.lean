import Derived.Test.YtclafkfelkmigaaGreatDoorAJ8
namespace Go.Proofs.YtclafkfelkmigaaGreatDoor
set_option linter.unusedVariables false
set_option linter.unusedSimpArgs false
set_option maxRecDepth 100000
set_option maxHeartbeats 4000000
open Go.RowKit
theorem jTold(v:Value)(es os:List Int)(T:TypeId)(w:World)(hv:EJN w v es)(hn:os.length<=1000):Calls Tryz.prog 22 #[v,.slice (some ⟨w.heap.size,0,none⟩) os.length os.length] (w.alloc (.cells (os.map (Value.int .i64)).toArray T)) fun r u=>r= .returned (iI (tdE es os))/\Bw w u:=by
 have hB:Bw w (w.alloc (.cells (os.map (Value.int .i64)).toArray T)):=Z1 (Z5 w) _
 refine(told_core v es os _ w.heap.size os.length _ (EJN.up hB hv) (by simp) (fun i hi=>?_) hn rfl).mono fun r u ⟨e1,e2⟩=>⟨e1,Z2 hB e2⟩
 exact(CV.new w (os.map (Value.int .i64)) T i _ (by rw[List.getElem?_map,List.getElem?_eq_getElem hi,List.getD_eq_getElem?_getD,List.getElem?_eq_getElem hi];rfl)).1
theorem ge_0{u:World}{b:Nat}{p q g h:Int}(hc:CV u b (GE p q g h)):u.cell? ⟨b,0,none⟩=some (iU (D0 p))/\u.cell? ⟨b,1,none⟩=some (iU (D1 p))/\u.cell? ⟨b,2,none⟩=some (iU (D2 p))/\u.cell? ⟨b,3,none⟩=some (iU (D3 p))/\u.cell? ⟨b,4,none⟩=some (iU (D0 q))/\u.cell? ⟨b,5,none⟩=some (iU (D1 q))/\u.cell? ⟨b,6,none⟩=some (iU (D2 q))/\u.cell? ⟨b,7,none⟩=some (iU (D3 q))/\u.cell? ⟨b,8,none⟩=some (iU (D0 g))/\u.cell? ⟨b,9,none⟩=some (iU (D1 g))/\u.cell? ⟨b,10,none⟩=some (iU (D2 g))/\u.cell? ⟨b,11,none⟩=some (iU (D3 g))/\u.cell? ⟨b,12,none⟩=some (iU (D0 h))/\u.cell? ⟨b,13,none⟩=some (iU (D1 h))/\u.cell? ⟨b,14,none⟩=some (iU (D2 h))/\u.cell? ⟨b,15,none⟩=some (iU (D3 h)):=
 ⟨(hc 0 _ rfl).1,(hc 1 _ rfl).1,(hc 2 _ rfl).1,(hc 3 _ rfl).1,(hc 4 _ rfl).1,(hc 5 _ rfl).1,(hc 6 _ rfl).1,(hc 7 _ rfl).1,(hc 8 _ rfl).1,(hc 9 _ rfl).1,(hc 10 _ rfl).1,(hc 11 _ rfl).1,(hc 12 _ rfl).1,(hc 13 _ rfl).1,(hc 14 _ rfl).1,(hc 15 _ rfl).1⟩
theorem NL.sl{u:World}{y:Value}{ns:List Int}(h:NL u y ns): ∃s c,y= .slice s ns.length c:=by
 obtain⟨sl,_,_,cap,e,_⟩:=h
 exact⟨sl,cap,e⟩
theorem jsum_core(p q g h D e:Int)(sl:Option Addr)(n cap:Nat)(es cs:List Int)(w:World)(hDl:Hid (∀u,Bw w u->Calls Tryz.prog 21 #[GX p q g h,.slice sl n cap] u fun r u'=> ∃v,r= .returned v/\EJN u' v es/\Bw u u'))(hTo:Hid (es=[]->e=0/\ ∀u,Bw w u->Calls Tryz.prog 23 #[GX p q g h,.slice sl n cap] u fun r u'=> ∃y,r= .returned (DX D y)/\PRw u.heap.size cs u' y/\Bw u u'))(hno:Hid (es≠[]->tdE es [90,2,110]=e/\D=0/\cs=[])):
 Calls Tryz.prog 9 #[GX p q g h,.slice sl n cap] w fun r u=> ∃y,r= .returned (.tuple #[DX D y,iI e])/\NL u y cs/\Bw w u:=by
 go_enter Tryz.func9,Tryz.ntmps9
 go_upto_region 1 with fail
 generalize hW:World.alloc (World.alloc w _) _=v0
 have hz0:w.heap.size+1<v0.heap.size:=by rw[<-hW];simp
 have hB0:Bw w v0:=by rw[<-hW];exact Z1 (Z1 (Z5 w) _) _
 have hC0:CV v0 w.heap.size (GE p q g h):=by rw[<-hW];exact(CV.new w (GE p q g h) 43).below (Z1 (Z5 _) _) (by simp)
 have hC1:CV v0 (w.heap.size+1) L0d:=by rw[<-hW];exact CVn L0d 29 (by simp)
 clear hW
 have hC1:=Hid.on hC1
 have hg0:=ge_0 hC0
 have hC0:=Hid.on hC0
 go_cut [6] (fun s6 wx=>Hid (EJN wx s6 es)/\Bw v0 wx)
 case first=>
  go_wp2_with (go_at_call 21;refine(hDl.out _ hB0).mono ?_;clear hDl;rintro r ua ⟨v,rfl,hv,hBa⟩;replace hv:=Hid.on hv)
  go_meet
  exact⟨hv.out,hBa⟩
 case rest=>
 obtain⟨hv,hBv⟩:=hcut
 clear hg0
 have hg0:=ge_0 (hC0.out.below hBv (by omega))
 have hC1:=Hid.on (hC1.out.below hBv hz0)
 have hz1:w.heap.size+1<wc.heap.size:=Nat.lt_of_lt_of_le hz0 hBv.size
 have hBw:=Z2 hB0 hBv
 clear hC0 hBv hDl hz0
 by_cases hes:es=[]
 ·obtain rfl:=hv.out.no hes
  obtain⟨rfl,hT⟩:=hTo.out hes
  replace hT:=Hid.on (hT wc hBw)
  clear hv hno hTo hes
  go_wp2_with (go_at_call 23;refine hT.out.mono ?_;clear hT;rintro r ub ⟨y,rfl,hy,hBb⟩;obtain⟨b,rfl,hlo,hlt,hcv⟩:=hy;have hC2:=Hid.on (hC1.out.below hBb hz1);have z0:=hC2.out 0 _ rfl;have z1:=hC2.out 1 _ rfl;clear hC1 hg0;have hk:=set2_K (v0:=iI D) (v1:= .slice (some ⟨b,0,none⟩) cs.length cs.length) hC2.out;have k0:=(hk 0 _ rfl).1;have k1:=(hk 1 _ rfl).1;clear hk;replace hcv:=Hid.on hcv)
  exact bodyPost_ret (v:= .tuple #[DX D (.slice (some ⟨b,0,none⟩) cs.length cs.length),iI 0]) (by simp[results,Tryz.results9,go_sem,k0,k1]) rfl ⟨_,rfl,PRw.nl (lo:=w.heap.size) ⟨b,rfl,by omega,by simpa using hlt,(hcv.out.oset ⟨w.heap.size+1,0,none⟩ _ (by show b≠w.heap.size+1;omega)).oset ⟨w.heap.size+1,1,none⟩ _ (by show b≠w.heap.size+1;omega)⟩,set2_B (Z2 hBw hBb) (by omega)⟩
 ·obtain⟨h1,rfl,rfl⟩:=hno.out hes
  obtain⟨T,x,rfl⟩:=hv.out.yes hes
  have hT:=jTold _ es [90,2,110] 39 wc hv.out (by decide)
  rw[h1] at hT
  replace hT:=Hid.on hT
  clear hv hno hTo hes hg0
  go_wp2_with (go_at_call 22;refine hT.out.mono ?_;clear hT;rintro r ub ⟨rfl,hBb⟩;have hC2:=Hid.on (hC1.out.below hBb hz1);have z0:=hC2.out 0 _ rfl;have z1:=hC2.out 1 _ rfl;clear hC1;have hk:=set2_K (v0:=iI 0) (v1:= .slice none 0 0) hC2.out;have k0:=(hk 0 _ rfl).1;have k1:=(hk 1 _ rfl).1;clear hk)
  exact bodyPost_ret (v:= .tuple #[DX 0 (.slice none 0 0),iI e]) (by simp[results,Tryz.results9,go_sem,k0,k1]) rfl ⟨_,rfl,NL.nilI _,set2_B (Z2 hBw hBb) (by omega)⟩
def smE(p q:Int)(ds:List (Int×List Int)):Int:=if gOk p q then (if 1<=ds.length/\ds.length<=16 then (if fdE p q ds=[] then 0 else 110) else 2) else 90
def smD(p q:Int)(ds:List (Int×List Int)):Int:=if smE p q ds=0 then (ds.getD 0 (0,[])).1 else 0
def smC(p q:Int)(ds:List (Int×List Int)):List Int:=if smE p q ds=0 then csC p ds ds.length else []
theorem dcE_or{p q d:Int}{ns:List Int}(hg:gOk p q):dcE p q d ns=0\/dcE p q d ns=110:=by
 unfold dcE;rw[if_pos hg];split
 ·exact .inl rfl
 ·exact .inr rfl
theorem fdE_or{p q:Int}(hg:gOk p q): ∀ds:List (Int×List Int),fdE p q ds=[]\/fdE p q ds=[110]
 | []=>.inl rfl
 | d::l=>by
  rw[fdE]
  rcases dcE_or (d:=d.1) (ns:=d.2) hg with h | h
  ·rw[h,if_neg (by decide)];exact fdE_or hg l
  ·rw[h,if_pos (by decide)];exact .inr rfl
theorem fdE_al{p q:Int}: ∀{ds:List (Int×List Int)},fdE p q ds=[]↔ ∀d∈ds,dcE p q d.1 d.2=0
 | []=>by simp[fdE]
 | d::l=>by
  rw[fdE]
  by_cases h:dcE p q d.1 d.2=0
  ·rw[if_neg (fun e=>e h),fdE_al];simp[h]
  ·rw[if_pos h];simp[h]
theorem fdE_alD{p q:Int}{ds:List (Int×List Int)}(h:fdE p q ds=[]):alD p q ds:=fun i hi=>fdE_al.1 h _ (by rw[List.getD_eq_getElem?_getD,List.getElem?_eq_getElem hi];exact List.getElem_mem hi)
theorem dgE_no{p q:Int}{ds:List (Int×List Int)}(h:dgE p q ds=[]):smE p q ds=0/\gOk p q/\1<=ds.length/\ds.length<=16/\fdE p q ds=[]:=by
 unfold dgE at h
 by_cases c:hdE p q ds.length=[]
 ·rw[if_pos c] at h
  obtain⟨h1,h2,h3⟩:=hd_0 c
  exact⟨by rw[smE,if_pos h1,if_pos ⟨h2,h3⟩,if_pos h],h1,h2,h3,h⟩
 ·rw[if_neg c] at h;exact absurd h c
theorem dgE_td{p q:Int}{ds:List (Int×List Int)}(h:dgE p q ds≠[]):tdE (dgE p q ds) [90,2,110]=smE p q ds/\smE p q ds≠0:=by
 unfold dgE at h⊢
 by_cases c1:gOk p q
 ·by_cases c2:1<=ds.length/\ds.length<=16
  ·have c:hdE p q ds.length=[]:=by
    unfold hdE
    rw[decide_eq_true c1,decide_eq_false (by omega),decide_eq_true (by omega)];rfl
   rw[if_pos c] at h⊢
   have e:=(fdE_or c1 ds).resolve_left h
   rw[smE,if_pos c1,if_pos c2,if_neg h,e]
   exact⟨by decide,by decide⟩
  ·rw[smE,if_pos c1,if_neg c2]
   refine⟨?_,by decide⟩
   unfold hdE
   rw[decide_eq_true c1]
   by_cases c3:(ds.length:Int)<1
   ·rw[decide_eq_true c3,decide_eq_true (by omega),if_neg (by decide)];decide
   ·rw[decide_eq_false c3,decide_eq_false (by omega),if_neg (by decide)];decide
 ·rw[smE,if_neg c1]
  refine⟨?_,by decide⟩
  unfold hdE
  rw[decide_eq_false c1,if_neg (by simp[bE])]
  simp[bE,tdE]
theorem jTogether(p q g h:Int)(ds:List (Int×List Int))(v:Value)(w:World)(hG:GP w)(hp:In p)(hq:In q)(hv:DL w v ds)(hg:gOk p q)(h1:1<=ds.length)(hl:ds.length<=16)(ha:alD p q ds)(hIn: ∀i,i<ds.length-> ∀z∈dN ds i,In z):Calls Tryz.prog 23 #[GX p q g h,v] w fun r u=> ∃y,r= .returned (DX (ds.getD 0 (0,[])).1 y)/\PRw w.heap.size (csC p ds ds.length) u y/\Bw w u:=by
 obtain⟨sl,gb,go,cap,sy,cy,gy,oy,rfl,h2,h3,h4,h5⟩:=hv
 have hm6:=mxC_le (fun i hi=>(ha.mem i hi).2.2.1) ds.length (Nat.le_refl _)
 refine together_core p q g h sl gb go ds.length cap (mxC ds ds.length) _ sy _ (fun k=>aaC ds k ds.length) cy gy oy (mxC ds) _ w h5 (by omega) (by omega) rfl (fun j hj=>?_) rfl (by omega) (csC_len _ _ _) (fun k hk u hB=>?_) (fun k hk u y hB hy=>?_)
 ·rw[mxC];simp only[dN];omega
 ·refine(allAt_core sl gb go ds.length cap k _ sy _ cy gy oy (aaC ds k) u (h5.up hB) (by omega) (by omega) rfl (aaC_len ds k) (fun j hj=>rfl)).mono ?_
  rintro e u' ⟨v,rfl,⟨b,hO⟩,hB'⟩
  exact⟨v,rfl,hO.nl,hB'⟩
 ·have hc:=cMulG p q g h (aaC ds k ds.length) y u ((hG.below hB).gt) (by have:=aaC_len ds k ds.length;omega) hp hq (Ye (aaC_mem hIn ds.length (Nat.le_refl _))) hy
  rw[csC_is ha hg k hk]
  rw[mlE,if_pos (ha.mlB hg k _ (Nat.le_refl _))] at hc
  exact hc
theorem DL.in2{ds:List (Int×List Int)}(hIn: ∀d∈ds,d.2.length<=50/\ ∀z∈d.2,In z)(i:Nat)(hi:i<ds.length):(dN ds i).length<=50/\ ∀z∈dN ds i,In z:=hIn _ (by rw[List.getD_eq_getElem?_getD,List.getElem?_eq_getElem hi];exact List.getElem_mem hi)
theorem jSum(p q g h:Int)(ds:List (Int×List Int))(v:Value)(w:World)(hG:GP w)(hp:In p)(hq:In q)(hv:DL w v ds)(hl:ds.length<=1000)(hIn: ∀d∈ds,d.2.length<=50/\ ∀z∈d.2,In z):Calls Tryz.prog 9 #[GX p q g h,v] w fun r u=> ∃y,r= .returned (.tuple #[DX (smD p q ds) y,iI (smE p q ds)])/\NL u y (smC p q ds)/\Bw w u:=by
 have hv2:=hv
 obtain⟨sl,gb,go,cap,sy,cy,gy,oy,rfl,_⟩:=hv2
 refine jsum_core p q g h (smD p q ds) (smE p q ds) sl ds.length cap (dgE p q ds) _ w (fun u hB=>jDealings p q g h ds _ u (hG.below hB) hp hq (hv.up hB) hl hIn) (fun e=>?_) (fun e=>?_)
 ·obtain⟨e0,hg,h1,h16,hf⟩:=dgE_no e
  rw[smD,smC,e0,if_pos rfl,if_pos rfl]
  exact⟨rfl,fun u hB=>jTogether p q g h ds _ u (hG.below hB) hp hq (hv.up hB) hg h1 h16 (fdE_alD hf) fun i hi=>(DL.in2 hIn i hi).2⟩
 ·obtain⟨e1,e2⟩:=dgE_td e
  rw[smD,smC,if_neg e2,if_neg e2]
  exact⟨e1,rfl,rfl⟩
theorem z9{u:World}{b:Nat}(h:CV u b L0h):(u.cell? ⟨b,0,none⟩=some (iI 0)/\u.frozen? ⟨b,0,none⟩=false)/\(u.cell? ⟨b,1,none⟩=some (iU 0)/\u.frozen? ⟨b,1,none⟩=false)/\(u.cell? ⟨b,2,none⟩=some (iU 0)/\u.frozen? ⟨b,2,none⟩=false)/\(u.cell? ⟨b,3,none⟩=some (iU 0)/\u.frozen? ⟨b,3,none⟩=false)/\(u.cell? ⟨b,4,none⟩=some (iU 0)/\u.frozen? ⟨b,4,none⟩=false)/\(u.cell? ⟨b,5,none⟩=some (iU 0)/\u.frozen? ⟨b,5,none⟩=false)/\(u.cell? ⟨b,6,none⟩=some (iU 0)/\u.frozen? ⟨b,6,none⟩=false)/\(u.cell? ⟨b,7,none⟩=some (iU 0)/\u.frozen? ⟨b,7,none⟩=false)/\(u.cell? ⟨b,8,none⟩=some (iU 0)/\u.frozen? ⟨b,8,none⟩=false):=
 ⟨h 0 _ rfl,h 1 _ rfl,h 2 _ rfl,h 3 _ rfl,h 4 _ rfl,h 5 _ rfl,h 6 _ rfl,h 7 _ rfl,h 8 _ rfl⟩
abbrev W9(u:World)(b:Nat)(v0 v1 v2 v3 v4 v5 v6 v7 v8:Value):World:=((((((((u.setCell ⟨b,0,none⟩ v0).setCell ⟨b,1,none⟩ v1).setCell ⟨b,2,none⟩ v2).setCell ⟨b,3,none⟩ v3).setCell ⟨b,4,none⟩ v4).setCell ⟨b,5,none⟩ v5).setCell ⟨b,6,none⟩ v6).setCell ⟨b,7,none⟩ v7).setCell ⟨b,8,none⟩ v8
theorem set9{u:World}{b:Nat}{v0 v1 v2 v3 v4 v5 v6 v7 v8:Value}(h:CV u b L0h):let x:=W9 u b v0 v1 v2 v3 v4 v5 v6 v7 v8;x.cell? ⟨b,0,none⟩=some v0/\x.cell? ⟨b,1,none⟩=some v1/\x.cell? ⟨b,2,none⟩=some v2/\x.cell? ⟨b,3,none⟩=some v3/\x.cell? ⟨b,4,none⟩=some v4/\x.cell? ⟨b,5,none⟩=some v5/\x.cell? ⟨b,6,none⟩=some v6/\x.cell? ⟨b,7,none⟩=some v7/\x.cell? ⟨b,8,none⟩=some v8:=by
 have hc:CV (W9 u b v0 v1 v2 v3 v4 v5 v6 v7 v8) b [v0,v1,v2,v3,v4,v5,v6,v7,v8]:=((((((((h.setC 0 (by simp) v0).setC 1 (by simp) v1).setC 2 (by simp) v2).setC 3 (by simp) v3).setC 4 (by simp) v4).setC 5 (by simp) v5).setC 6 (by simp) v6).setC 7 (by simp) v7).setC 8 (by simp) v8
 exact⟨(hc 0 _ rfl).1,(hc 1 _ rfl).1,(hc 2 _ rfl).1,(hc 3 _ rfl).1,(hc 4 _ rfl).1,(hc 5 _ rfl).1,(hc 6 _ rfl).1,(hc 7 _ rfl).1,(hc 8 _ rfl).1⟩
theorem set9_B{w u:World}{b:Nat}{v0 v1 v2 v3 v4 v5 v6 v7 v8:Value}(hB:Bw w u)(hb:w.heap.size<=b):Bw w (W9 u b v0 v1 v2 v3 v4 v5 v6 v7 v8):=((((((((hB.setCell hb v0).setCell hb v1).setCell hb v2).setCell hb v3).setCell hb v4).setCell hb v5).setCell hb v6).setCell hb v7).setCell hb v8
def seL(p q:Int)(l:List (Int×Int×Int)):List Int:=bE (!decide (gOk p q)) 90++(bE (decide ((l.length:Int)<1)) 2++(bE (!decide (0<=(l.length:Int)/\(l.length:Int)<=16)) 2++bE (!(sameB l&&ndsB l)) 2))
theorem jshares_core(p q g h e m s t:Int)(sl:Option Addr)(cap:Nat)(l:List (Int×Int×Int))(w:World)(hGr:Hid (∀u,Calls Tryz.prog 25 #[GX p q g h] u fun r u'=> ∃v,r= .returned v/\EJN u' v (bE (!decide (gOk p q)) 90)/\Bw u u'))(hLe:Hid (∀(t:ByteArray) u,Bw w u->t.size<=100->Calls Tryz.prog 26 #[.string t,iI (l.length:Int),iI 1,iI 2] u fun r u'=> ∃v,r= .returned v/\EJN u' v (bE (decide ((l.length:Int)<1)) 2)/\Bw u u'))(hMo:Hid (∀(t:ByteArray) u,Bw w u->t.size<=100->Calls Tryz.prog 27 #[.string t,iI (l.length:Int)] u fun r u'=> ∃v,r= .returned v/\EJN u' v (bE (!decide (0<=(l.length:Int)/\(l.length:Int)<=16)) 2)/\Bw u u'))(hOn:Hid (∀u,Bw w u->Calls Tryz.prog 28 #[.slice sl l.length cap] u fun r u'=> ∃v,r= .returned v/\EJN u' v (bE (!(sameB l&&ndsB l)) 2)/\Bw u u'))
 (hTo:Hid (seL p q l=[]->e=0/\ ∀u,Bw w u->CC 29 #[GX p q g h,.slice sl l.length cap] u (SX m s t)))(hno:Hid (seL p q l≠[]->tdE (seL p q l) [90,2]=e/\m=0/\s=0/\t=0)):
 CC 10 #[GX p q g h,.slice sl l.length cap] w (.tuple #[SX m s t,iI e]):=by
 go_enter Tryz.func10,Tryz.ntmps10
 go_upto_region 1 with fail
 generalize hW:World.alloc (World.alloc w _) _=v0
 have hz0:w.heap.size+1<v0.heap.size:=by rw[<-hW];simp
 have hB0:Bw w v0:=by rw[<-hW];exact Z1 (Z1 (Z5 w) _) _
 have hC0:CV v0 w.heap.size (GE p q g h):=by rw[<-hW];exact(CV.new w (GE p q g h) 43).below (Z1 (Z5 _) _) (by simp)
 have hC1:CV v0 (w.heap.size+1) L0h:=by rw[<-hW];exact CVn L0h 38 (by simp)
 clear hW
 have hC1:=Hid.on hC1
 have hg0:=ge_0 hC0
 have hC0:=Hid.on hC0
 go_cut [6] (fun s6 wx=>Hid (EJN wx s6 (seL p q l))/\Bw v0 wx)
 case first=>
  go_wp2_with (first
   | (go_at_call 25;refine(hGr.out _).mono ?_;clear hGr;rintro r ua ⟨v1,rfl,hv1,hBa⟩;have s1:=EJN.some hv1;have hv1:=Hid.on hv1;rcases s1 with rfl | ⟨T1,x1,rfl⟩)
   | (go_at_call 26;refine(hLe.out _ _ (Z2 hB0 hBa) (by decide)).mono ?_;clear hLe;rintro r ub ⟨v2,rfl,hv2,hBb⟩;have hv1:=Hid.on (EJN.up hBb hv1.out);replace hBb:=Z2 hBa hBb;have s2:=EJN.some hv2;have hv2:=Hid.on hv2;rcases s2 with rfl | ⟨T2,x2,rfl⟩)
   | (go_at_call 27;refine(hMo.out _ _ (Z2 hB0 hBb) (by decide)).mono ?_;clear hMo;rintro r uc ⟨v3,rfl,hv3,hBc⟩;have hv1:=Hid.on (EJN.up hBc hv1.out);have hv2:=Hid.on (EJN.up hBc hv2.out);replace hBc:=Z2 hBb hBc;have s3:=EJN.some hv3;have hv3:=Hid.on hv3;rcases s3 with rfl | ⟨T3,x3,rfl⟩)
   | (go_at_call 28;refine(hOn.out _ (Z2 hB0 hBc)).mono ?_;clear hOn;rintro r ud ⟨v4,rfl,hv4,hBd⟩;have s4:=EJN.some hv4;have hJ:=Hid.on (jJoin4 (EJN.up hBd hv1.out) (EJN.up hBd hv2.out) (EJN.up hBd hv3.out) hv4);replace hBd:=Z2 hBc hBd;rcases s4 with rfl | ⟨T4,x4,rfl⟩)
   | (go_at_call 24;refine hJ.out.mono ?_;clear hJ;rintro r ue ⟨y,rfl,hy,hBe⟩;replace hy:=Hid.on hy))
  all_goals (go_meet;exact⟨hy.out,Z2 hBd hBe⟩)
 case rest=>
 obtain⟨hv,hBv⟩:=hcut
 clear hg0
 have hg0:=ge_0 (hC0.out.below hBv (by omega))
 have hC1:=Hid.on (hC1.out.below hBv hz0)
 have hz1:w.heap.size+1<wc.heap.size:=Nat.lt_of_lt_of_le hz0 hBv.size
 have hBw:=Z2 hB0 hBv
 clear hC0 hBv hGr hLe hMo hOn hz0
 by_cases hes:seL p q l=[]
 ·obtain rfl:=hv.out.no hes
  obtain⟨rfl,hT⟩:=hTo.out hes
  replace hT:=Hid.on (hT wc hBw)
  clear hv hno hTo hes
  go_wp2_with (go_at_call 29;refine hT.out.mono ?_;clear hT;rintro r ub ⟨rfl,hBb⟩;have hC2:=hC1.out.below hBb hz1;have z0:=z9 hC2;clear hC1 hg0;have hk:=set9 (v0:=iI m) (v1:=iU (D0 s)) (v2:=iU (D1 s)) (v3:=iU (D2 s)) (v4:=iU (D3 s)) (v5:=iU (D0 t)) (v6:=iU (D1 t)) (v7:=iU (D2 t)) (v8:=iU (D3 t)) hC2;clear hC2;replace hk:=Hid.on hk)
  exact bodyPost_ret (v:= .tuple #[SX m s t,iI 0]) (by simp[results,Tryz.results10,go_sem,hk.out]) rfl ⟨rfl,set9_B (Z2 hBw hBb) (by omega)⟩
 ·obtain⟨h1,rfl,rfl,rfl⟩:=hno.out hes
  obtain⟨T,x,rfl⟩:=hv.out.yes hes
  have hT:=jTold _ (seL p q l) [90,2] 39 wc hv.out (by decide)
  rw[h1] at hT
  replace hT:=Hid.on hT
  clear hv hno hTo hes hg0
  go_wp2_with (go_at_call 22;refine hT.out.mono ?_;clear hT;rintro r ub ⟨rfl,hBb⟩;have hC2:=hC1.out.below hBb hz1;have z0:=z9 hC2;clear hC1;have hk:=set9 (v0:=iI 0) (v1:=iU 0) (v2:=iU 0) (v3:=iU 0) (v4:=iU 0) (v5:=iU 0) (v6:=iU 0) (v7:=iU 0) (v8:=iU 0) hC2;clear hC2;replace hk:=Hid.on hk)
  exact bodyPost_ret (v:= .tuple #[SZ,iI e]) (by simp[results,Tryz.results10,go_sem,hk.out]) rfl ⟨rfl,set9_B (Z2 hBw hBb) (by omega)⟩
theorem flS_append: ∀a b:List (Int×Int×Int),flS (a++b)=flS a++flS b
 | [],b=>rfl
 | x::a,b=>by rw[List.cons_append,flS,flS,flS_append a b,List.append_assoc]
theorem flS_pre(l:List (Int×Int×Int))(k j:Nat)(v:Value)(h:(flS (l.take k))[j]?=some v):(flS l)[j]?=some v:=by
 rw[<-List.take_append_drop k l,flS_append,List.getElem?_append_left (List.getElem?_eq_some_iff.1 h).1];exact h
theorem slSh(sl:Option Addr)(n cap k:Nat)(h:k<=n)(hc:n<=cap)(hn:sl=none->cap=0)(w:World):(Instr.sliceAt 26 (.slice sl n cap) none (some (iI k)) none).run Tryz.prog w= .ok (.slice sl k cap) w:=by
 cases sl with
 | none=>
  have e0:=hn rfl
  have e1:n=0:=by omega
  have e2:k=0:=by omega
  subst e0 e1 e2
  show (Instr.sliceAt 26 (.slice none 0 0) none (some (iI 0)) none).run Tryz.prog w=_
  kernel_rfl
 | some a=>
  have h3:k<=cap:=by omega
  simp[Instr.sliceAt,Instr.slice,go_sem,Tryz.underlying26,h3]
theorem ShL.take{u:World}{v:Value}{l:List (Int×Int×Int)}(h:ShL u v l)(k:Nat)(hk:k<=l.length): ∃y,(∀w,(Instr.sliceAt 26 v none (some (iI k)) none).run Tryz.prog w= .ok y w)/\ShL u y (l.take k):=by
 obtain⟨sl,gb,go,cap,rfl,h2,h3,h4,h5,h6⟩:=h
 have e:(l.take k).length=k:=by rw[List.length_take];omega
 refine⟨_,slSh sl l.length cap k hk h2 h3,sl,gb,go,cap,by rw[e],by omega,h3,h4.imp (fun e=>by rw[e,List.take_nil]) id,h5.imp (fun e=>by omega) id,fun j v hj=>h6 j v (flS_pre l k j v hj)⟩
theorem bE_nil{b:Bool}{n:Int}(h:bE b n=[]):b=false:=by cases b with | true=>cases h | false=>rfl
theorem memD{α:Type}(l:List α)(d:α)(k:Nat)(hk:k<l.length):l.getD k d∈l:=by rw[List.getD_eq_getElem?_getD,List.getElem?_eq_getElem hk];exact List.getElem_mem hk
def seE(p q:Int)(l:List (Int×Int×Int)):Int:=if gOk p q then (if (1<=l.length/\l.length<=16)/\(sameB l&&ndsB l)=true then 0 else 2) else 90
def seM(p q:Int)(l:List (Int×Int×Int)):Int:=if seE p q l=0 then (l.getD 0 (0,0,0)).1 else 0
def seS(p q:Int)(l:List (Int×Int×Int)):Int:=if seE p q l=0 then sm1 q (shS l) l.length else 0
def seT(p q:Int)(l:List (Int×Int×Int)):Int:=if seE p q l=0 then sm1 q (shT l) l.length else 0
theorem seL_no{p q:Int}{l:List (Int×Int×Int)}(h:seL p q l=[]):seE p q l=0/\gOk p q/\1<=l.length:=by
 unfold seL at h
 simp only[List.append_eq_nil_iff] at h
 obtain⟨h1,h2,h3,h4⟩:=h
 have h1:=bE_nil h1
 have h2:=bE_nil h2
 have h3:=bE_nil h3
 have h4:=bE_nil h4
 simp only[Bool.not_eq_false',decide_eq_true_eq,decide_eq_false_iff_not] at h1 h2 h3 h4
 exact⟨by rw[seE,if_pos h1,if_pos ⟨by omega,h4⟩],h1,by omega⟩
theorem seL_td{p q:Int}{l:List (Int×Int×Int)}(h:seL p q l≠[]):tdE (seL p q l) [90,2]=seE p q l/\seE p q l≠0:=by
 unfold seL at h⊢
 by_cases c1:gOk p q
 ·have c2: ¬((1<=l.length/\l.length<=16)/\(sameB l&&ndsB l)=true):=fun c2=>h (by
   rw[decide_eq_true c1,decide_eq_false (by omega),decide_eq_true (by omega),c2.2];rfl)
  rw[seE,if_pos c1,if_neg c2]
  refine⟨?_,by decide⟩
  rw[decide_eq_true c1] at h⊢
  generalize decide ((l.length:Int)<1)=a at *
  generalize decide (0<=(l.length:Int)/\(l.length:Int)<=16)=b at *
  generalize (sameB l&&ndsB l)=c at *
  clear c2
  revert a b c
  decide
 ·rw[seE,if_neg c1,decide_eq_false c1]
  exact⟨by simp[bE,tdE],by decide⟩
theorem jAdded(p q g h:Int)(l:List (Int×Int×Int))(v:Value)(w:World)(hG:GP w)(hq:In q)(hq2:2<=q)(hv:ShL w v l)(hl:l.length<=1000)(h1:1<=l.length)(hIn: ∀x∈l,In x.2.1/\In x.2.2):CC 29 #[GX p q g h,v] w (SX (l.getD 0 (0,0,0)).1 (sm1 q (shS l) l.length) (sm1 q (shT l) l.length)):=by
 obtain⟨sl,gb,go,cap,rfl,h2,h3,h4,h5,h6⟩:=hv
 refine added_core p q g h _ sl gb go cap l (sm1 q (shS l)) (sm1 q (shT l)) w (sh_ix h4) (h5.resolve_left (by omega)) (sh_pt h6) hl h1 rfl rfl rfl (fun i hi u y y2 hB hz hy hy2=>?_)
 have hi2:=hIn _ (memD l (0,0,0) i hi)
 have hc:=cAddE q [sm1 q (shS l) i,sm1 q (shT l) i] [shS l i,shT l i] y y2 u (Nat.le_refl _) (hG.below hB) hq hq2 hy.nl (fun z hz=>by
  simp only[List.mem_cons,List.not_mem_nil,or_false] at hz
  rcases hz with rfl | rfl
  ·exact sm1_In hq hq2 i
  ·exact sm1_In hq hq2 i) (by simp) (by simp) hy2 (fun z hz=>by
  simp only[List.mem_cons,List.not_mem_nil,or_false] at hz
  rcases hz with rfl | rfl
  ·exact hi2.1
  ·exact hi2.2) (by simp) (by simp)
 rw[sAd2] at hc
 exact hc.mono fun e u' ⟨z,e1,e2,e3⟩=>⟨z,e1,e2.lo hz,e3⟩
theorem jShares(p q g h:Int)(l:List (Int×Int×Int))(v:Value)(w:World)(hG:GP w)(hp:In p)(hq:In q)(hv:ShL w v l)(hl:l.length<=1000)(hr: ∀x∈l,R64 x.1)(hIn: ∀x∈l,In x.2.1/\In x.2.2):CC 10 #[GX p q g h,v] w (.tuple #[SX (seM p q l) (seS p q l) (seT p q l),iI (seE p q l)]):=by
 have hv2:=hv
 obtain⟨sl,gb,go,cap,rfl,_⟩:=hv2
 refine jshares_core p q g h _ _ _ _ sl cap l w (fun u=>jGroup p q g h u hp hq) (fun t u hB ht=>jAtLeast t l.length 1 2 u (hG.below hB) ⟨by omega,by omega⟩ ht) (fun t u hB ht=>jAtMost t l.length u (hG.below hB) ⟨by omega,by omega⟩ ht) (fun u hB=>jOneNode l _ u (hG.below hB) (hv.up hB) hl hr) (fun e=>?_) (fun e=>?_)
 ·obtain⟨e0,hg,h1⟩:=seL_no e
  rw[seM,seS,seT,e0,if_pos rfl,if_pos rfl,if_pos rfl]
  exact⟨rfl,fun u hB=>jAdded p q g h l _ u (hG.below hB) hq (by have:=hg.q3;omega) (hv.up hB) hl h1 hIn⟩
 ·obtain⟨e1,e2⟩:=seL_td e
  rw[seM,seS,seT,if_neg e2,if_neg e2,if_neg e2]
  exact⟨e1,rfl,rfl,rfl⟩
def rwD(f:Nat->List Value):Nat->List Value
 | 0=>[]
 | n+1=>rwD f n++f n
theorem rwD_len{f:Nat->List Value}: ∀{n:Nat},(∀j,j<n->(f j).length=2)->(rwD f n).length=2*n
 | 0,_=>rfl
 | n+1,h=>by rw[rwD,List.length_append,rwD_len fun j hj=>h j (by omega),h n (by omega)];omega
theorem rwD_get{f:Nat->List Value}{j c:Nat}: ∀{n:Nat},(∀j,j<n->(f j).length=2)->j<n->c<2->(rwD f n)[2*j+c]?=(f j)[c]?
 | 0,_,hj,_=>absurd hj (by omega)
 | n+1,h,hj,hc=>by
  have hl:=rwD_len (f:=f) (n:=n) fun j hj=>h j (by omega)
  rw[rwD]
  by_cases e:j=n
  ·subst e
   rw[List.getElem?_append_right (by omega),hl];congr 1;omega
  ·rw[List.getElem?_append_left (by omega)]
   exact rwD_get (fun j hj=>h j (by omega)) (by omega) hc
theorem ixD(g n cap j:Nat)(h:j<n)(w:World):(Instr.indexAt 25 (.slice (some ⟨g,0,none⟩) n cap) (iI j)).run Tryz.prog w= .ok (.pointer (some ⟨g,0+2*j,none⟩)) w:=by
 have hj:(j:Int)<n:=by omega
 go_simp
 all_goals first | omega | (simp[Addr.add];omega) | simp[Addr.add,Nat.mul_comm]
theorem DL.mk{u:World}{b co:Nat}{zs:List Value}{ds:List (Int×List Int)}(vs:Nat->Value)(hb:b<u.heap.size)(hc:CV u b (rwD (fun j=>DE (ds.getD j (0,[])).1 (vs j)) ds.length++zs))(hco:ds.length<=co)(hn: ∀j,j<ds.length->NL u (vs j) (dN ds j)):DL u (.slice (some ⟨b,0,none⟩) ds.length co) ds:=by
 have hE: ∀j,∃t:Option Addr×Nat×Nat×Nat,j<ds.length->vs j= .slice t.1 (dN ds j).length t.2.1/\(dN ds j=[]\/t.1=some ⟨t.2.2.1,t.2.2.2,none⟩)/\((dN ds j).length=0\/t.2.2.1<u.heap.size)/\SN u t.2.2.1 t.2.2.2 (dN ds j)/\NL u (vs j) (dN ds j):=fun j=>by
  by_cases hj:j<ds.length
  ·have h:=hn j hj
   obtain⟨sl,gb,go,cap,h1,h2,h3,h4,h5,h6⟩:=hn j hj
   exact⟨(sl,cap,gb,go),fun _=>⟨h1,h4,h5,h6,h⟩⟩
  ·exact⟨(none,0,0,0),fun h=>absurd h hj⟩
 obtain⟨F,hF⟩:=Classical.skolem.1 hE
 refine⟨some ⟨b,0,none⟩,b,0,co,fun j=>(F j).1,fun j=>(F j).2.1,fun j=>(F j).2.2.1,fun j=>(F j).2.2.2,rfl,by simp,hco,.inr rfl,?_⟩
 refine⟨fun j hj W=>ixD b ds.length co j hj W,.inr hb,fun j hj c v hv=>?_,fun j hj=>NL.ix (u:=u) (hF j hj).2.1,fun j hj=>(hF j hj).2.2.1,fun j hj=>(hF j hj).2.2.2.1,fun j hj=>?_⟩
 ·have hc2:c<2:=(List.getElem?_eq_some_iff.1 hv).1
  rw[<-(hF j hj).1] at hv
  refine(hc (0+2*j+c) v ?_).1
  have hg:=rwD_get (f:=fun j=>DE (ds.getD j (0,[])).1 (vs j)) (n:=ds.length) (fun _ _=>rfl) hj hc2
  rw[Nat.zero_add,List.getElem?_append_left (by rw[rwD_len fun _ _=>rfl];omega),hg];exact hv
 ·have:=(hF j hj).2.2.2.2
  rwa [(hF j hj).1] at this
theorem infoDl:(Tryz.prog.info? 29).map (fun i=>(i.zero,i.size,i.bytes))=some (some DZ,2,32):=by kernel_rfl
section
def EK(i:Nat)(o:Oper)(kp:(World->Value->Prop)->Prop):List En->Prop
 | []=>True
 | q::r=>(eGone [] i o q=true\/(q.i≠i/\kp q.p))/\EK i o kp r
theorem Es.keep{f:Nat->Bool}{t:Nat->Value}{u u':World}{i:Nat}{o:Oper}(dep: ∀e∈o.after,Region.binds .any e=true->f e.on=true): ∀{E:List En},EK i o (fun p=> ∀x,p u x->p u' x) E->Es f t u E->Es (updF f i) t u' E
 | [],_,_=>trivial
 | q::r,hk,h=>by
  refine⟨?_,Es.keep dep hk.2 h.2⟩
  rcases hk.1 with hk | ⟨hne,hk⟩
  ·exact(Es.gone (O:=[]) (t:=t) (v:=u') (E:=[q]) (fun j hj=>by simp at hj) dep (by rw[List.all_cons,hk];rfl)).1
  ·intro g1 g2
   rw[Zp hne] at g1
   refine hk _ (h.1 g1 fun c hc=>?_)
   have:=g2 c hc
   by_cases e:c=i
   ·subst e;rw[Yf] at this;cases this
   ·rwa [Zp e] at this
section
variable {R:Rg} {P:Program} {ops:Array Oper} {Q:Exit->Act->World->Prop} {i:Nat} {o:Oper}
theorem st_bx(m1 m2:Nat)(p0 pv pz:World->Value->Prop){T:TypeId}{i1 d1 i2 d2:Nat}(hr: ∀(u:World) (vb v:Value),p0 u vb->pv u v-> ∃u',(Instr.storeAt T vb v).run P u= .ok () u'/\(∀m w,m<=R.base->Below m w u->Below m w u')/\u'.heap.size=u.heap.size/\pz u' vb/\EK i o (fun p=> ∀x,p u x->p u' x) R.E)
 (hop:o.op= .store T (.tmp d1) (.tmp d2):=by rfl)(hm1:R.E[m1]?=some ⟨i1,d1,some i,p0⟩:=by rfl)(hm2:R.E[m2]?=some ⟨i2,d2,some i,pv⟩:=by rfl)(hd:(Zm o i1&&R.S.contains d1&&(Zm o i2&&R.S.contains d2))=true:=by rfl)(hnw:R.nw=[]:=by rfl)(hes:(R.es.all fun q=>q.2.2.2.free i)=true:=by rfl)
 (hc:({R with E:=[]}:Rg).chkS ops i o=true:=by rfl): ∀f t u a,Xs R ops f t u a i o->wpOp P ops Q i (fun a' u'=> ∃t',Fr R.fr R.S a' t'/\Inv R (updF f i) t' u'/\pz u' (t' d1)) a u:=fun f t u a X=>by
 simp only[Bool.and_eq_true,List.contains_iff_mem] at hd
 obtain⟨⟨h2,h4⟩,h5,h6⟩:=hd
 have e1:p0 u (t d1):=X.val hm1 h2 rfl
 have e2:pv u (t d2):=X.val hm2 h5 rfl
 obtain⟨u',r,hBB,hsz,hz,hE⟩:=hr u _ _ e1 e2
 obtain⟨hdst,s1,⟨s5,_⟩,s7⟩:=Yq hc
 have s1:lacks i R.G=true:=s1
 have s5:R.okO i o=true:=s5
 have s7:Wv R ops o=some true:=s7
 refine X.go s7 fun K hK=>wp_store hop (X.inS h4) (X.inS h6) r (hK _ _ ?_)
 have hM:=X.I.1
 refine⟨t,by rw[hdst];exact X.F,⟨?_,?_,Gs.idle s1 X.I.2.2.1,Yd s5 X.I.2.2.2.1 X.dep,Ns.idle X.I.2.2.2.2.1,Es.keep X.dep hE X.I.2.2.2.2.2⟩,hz⟩
 ·rw[hnw] at hM⊢
  exact{bel:=hBB _ _ hM.lo hM.bel,lo:=hM.lo,sz:=by rw[hsz];exact hM.sz,ks:=trivial,ex:=trivial,nw:=trivial,nd:=hM.nd}
 ·exact(X.I.2.1.below (hBB _ _ (Nat.le_refl _) (Below.refl _ u)) (Nat.le_refl _)).free hes
theorem g_aP(n:Nat)(p:World->Value->Prop){T:TypeId}{pre:List Value}(hr: ∀w,(Instr.alloc T true (.tuple #[])).run P w= .ok (.pointer (some ⟨w.heap.size,0,none⟩)) (w.alloc (.cells pre.toArray T)))(hp: ∀u:World,R.base<=u.heap.size->p (u.alloc (.cells pre.toArray T)) (.pointer (some ⟨u.heap.size,0,none⟩)))(hop:o.op= .alloc T:=by rfl)(hn:(R.E[n]?).map (·.p)=some p:=by rfl)(hc:R.chkE ops n i o=true:=by rfl):OG R P ops Q i o:=fun f t u a X=>by
 obtain⟨d,q,hd,hq,_,_,_,_,_,_,_,_,hw⟩:=Zj hc
 exact X.go hw fun K hK=>wp_alloc hop (hr u) (hK _ _ (X.putE hc (fun q hq=>by rw[hq] at hn;cases hn;exact hp u X.I.1.sz) (Z1 (Z5 u) _)))
end
def PBz(lo:Nat)(u:World)(v:Value):Prop:= ∃b,v= .pointer (some ⟨b,0,none⟩)/\lo<=b/\b<u.heap.size/\CV u b L0d/\ ∀k x,u.cell? ⟨b,k,none⟩≠some (iU x)
theorem PBz.stab{lo:Nat}{u u2:World}{x:Value}(hB:Bw u u2)(h:PBz lo u x):PBz lo u2 x:=by
 obtain⟨b,e,h1,h2,h3,h4⟩:=h
 exact⟨b,e,h1,Nat.lt_of_lt_of_le h2 hB.size,h3.below hB h2,fun k x=>by rw[hB.cell (p:=⟨b,k,none⟩) h2];exact h4 k x⟩
theorem PBz.new{lo:Nat}(u:World)(h:lo<=u.heap.size):PBz lo (u.alloc (.cells L0d.toArray 29)) (.pointer (some ⟨u.heap.size,0,none⟩)):=by
 refine⟨_,rfl,h,by simp,CV.new u _ _,fun k x=>?_⟩
 rcases k with _ | _ | k
 ·rw[(CV.new u L0d 29 0 _ rfl).1];simp
 ·rw[(CV.new u L0d 29 1 _ rfl).1];simp
 ·have e:(u.alloc (.cells L0d.toArray 29)).heap[u.heap.size]?=some (.cells L0d.toArray 29):=by show (u.heap.push _)[u.heap.size]?=_;simp
  unfold World.cell?
  simp only[e]
  simp
def PTz(d e:Int)(ns:List Int)(u:World)(v:Value):Prop:= ∃y,v= .tuple #[DX d y,iI e]/\NL u y ns
theorem PTz.stab{d e:Int}{ns:List Int}{u u2:World}{x:Value}(hB:Bw u u2)(h:PTz d e ns u x):PTz d e ns u2 x:=by
 obtain⟨y,e,h⟩:=h
 exact⟨y,e,NL.up h hB⟩
def PVz(d:Int)(ns:List Int)(u:World)(v:Value):Prop:= ∃y,v=DX d y/\NL u y ns
theorem PVz.stab{d:Int}{ns:List Int}{u u2:World}{x:Value}(hB:Bw u u2)(h:PVz d ns u x):PVz d ns u2 x:=by
 obtain⟨y,e,h⟩:=h
 exact⟨y,e,NL.up h hB⟩
def PDz(lo:Nat)(d:Int)(ns:List Int)(u:World)(v:Value):Prop:= ∃b y,v= .pointer (some ⟨b,0,none⟩)/\lo<=b/\b<u.heap.size/\CV u b (DE d y)/\NL u y ns
def PNv(ns:List Int)(u:World)(v:Value):Prop:=NL u v ns
theorem PNv.stab{ns:List Int}{u u2:World}{x:Value}(hB:Bw u u2)(h:PNv ns u x):PNv ns u2 x:=NL.up h hB
theorem sep_N{u:World}{b:Nat}{v0 v1 y:Value}{ns:List Int}(hb: ∀k x,u.cell? ⟨b,k,none⟩≠some (iU x))(h:NL u y ns):NL ((u.setCell ⟨b,0,none⟩ v0).setCell ⟨b,1,none⟩ v1) y ns:=by
 refine set2_N h ?_
 obtain⟨sl,gb,go,cap,rfl,h2,h3,h4,h5,h6⟩:=h
 intro sl' gb' go' cap' e1 e2 hne
 cases e1
 cases e2
 have e3:=h4.resolve_left hne
 cases e3
 intro e
 subst e
 cases ns with
 | nil=>exact hne rfl
 | cons a r=>exact hb _ _ (h6 0 (iU (D0 a)) (by simp[flN]))
theorem stDl{b:Nat}{d d0:Int}{sl s0:Option Addr}{n c n0 c0:Nat}(u:World)(h:CV u b [iI d0,.slice s0 n0 c0]):(Instr.storeAt 29 (.pointer (some ⟨b,0,none⟩)) (DX d (.slice sl n c))).run Tryz.prog u= .ok () ((u.setCell ⟨b,0,none⟩ (iI d)).setCell ⟨b,1,none⟩ (.slice sl n c)):=by
 have z0:=(h 0 _ rfl).1
 have zf0:=(h 0 _ rfl).2
 have z1:=(h 1 _ rfl).1
 have zf1:=(h 1 _ rfl).2
 go_simp
theorem st_dl{lo:Nat}{d:Int}{ns:List Int}(u:World)(vb v:Value)(hb:PBz lo u vb)(hv:PVz d ns u v): ∃u',(Instr.storeAt 29 vb v).run Tryz.prog u= .ok () u'/\(∀m w,m<=lo->Below m w u->Below m w u')/\u'.heap.size=u.heap.size/\PDz lo d ns u' vb/\(∀y ms,NL u y ms->NL u' y ms):=by
 obtain⟨b,rfl,h1,h2,h3,h4⟩:=hb
 obtain⟨y,rfl,hy⟩:=hv
 have hy':=hy
 obtain⟨sl,gb,go,cap,rfl,_⟩:=hy
 exact⟨_,stDl u h3,fun m w hm hB=>set2_B hB (Nat.le_trans hm h1),by simp,⟨b,_,rfl,h1,by simpa using h2,set2_K h3,sep_N h4 hy'⟩,fun y ms h=>sep_N h4 h⟩
end
section
section
variable {P:Program} {ops:Array Oper} {Q:Exit->Act->World->Prop}
def OT(R:Rg)(P:Program)(ops:Array Oper)(Q:Exit->Act->World->Prop)(d:Nat)(pz:World->Value->Prop)(i:Nat)(oi:Oper):Prop:= ∀f t u a,Xs R ops f t u a i oi->wpOp P ops Q i (fun a' u'=> ∃t',Fr R.fr R.S a' t'/\Inv R (updF f i) t' u'/\(pz u (t d)->pz u' (t' d))) a u
def OZ(R:Rg)(P:Program)(ops:Array Oper)(Q:Exit->Act->World->Prop)(d:Nat)(pz:World->Value->Prop)(i:Nat)(oi:Oper):Prop:= ∀f t u a,Xs R ops f t u a i oi->wpOp P ops Q i (fun a' u'=> ∃t',Fr R.fr R.S a' t'/\Inv R (updF f i) t' u'/\pz u' (t' d)) a u
def OY(R:Rg)(P:Program)(ops:Array Oper)(Q:Exit->Act->World->Prop)(o:Oper)(n d:Nat)(pz:World->Value->Prop)(i:Nat)(oi:Oper):Prop:=(i=n/\oi=o/\OZ R P ops Q d pz i oi)\/(i≠n/\((Zm o i=true/\OG R P ops Q i oi)\/OT R P ops Q d pz i oi))
def OYs(R:Rg)(P:Program)(ops:Array Oper)(Q:Exit->Act->World->Prop)(o:Oper)(n d:Nat)(pz:World->Value->Prop):Nat->List Oper->Prop
 | _,[]=>True
 | i,oi::r=>OY R P ops Q o n d pz i oi/\OYs R P ops Q o n d pz (i+1) r
theorem OYs.get{R:Rg}{o:Oper}{n d:Nat}{pz:World->Value->Prop}: ∀{l:List Oper} {k j:Nat} {oi:Oper},OYs R P ops Q o n d pz k l->l[j]?=some oi->OY R P ops Q o n d pz (k+j) oi
 | [],_,_,_,_,h=>by simp at h
 | x::r,k,0,oi,h,e=>by simp at e;subst e;exact h.1
 | x::r,k,j+1,oi,h,e=>by
  simp at e
  have:=OYs.get h.2 e
  rwa [show k+1+j=k+(j+1) by omega] at this
variable {R:Rg} {o oi:Oper} {n d i:Nat} {pz:World->Value->Prop} {l:List Oper}
theorem yc(t:OG R P ops Q i oi)(r:OYs R P ops Q o n d pz (i+1) l)(h:Zm o i=true:=by rfl)(hn:(i !=n)=true:=by rfl):OYs R P ops Q o n d pz i (oi::l):=⟨.inr ⟨by simpa using hn,.inl ⟨h,t⟩⟩,r⟩
theorem yt(t:OT R P ops Q d pz i oi)(r:OYs R P ops Q o n d pz (i+1) l)(hn:(i !=n)=true:=by rfl):OYs R P ops Q o n d pz i (oi::l):=⟨.inr ⟨by simpa using hn,.inr t⟩,r⟩
theorem yz(t:OZ R P ops Q d pz i oi)(r:OYs R P ops Q oi i d pz (i+1) l):OYs R P ops Q oi i d pz i (oi::l):=⟨.inl ⟨rfl,rfl,t⟩,r⟩
theorem yn:OYs R P ops Q o n d pz i []:=trivial
theorem y_step(h:OY R P ops Q o n d pz i oi){f:Nat->Bool}{t:Nat->Value}{u:World}{a:Act}(X:Xs R ops f t u a i oi)(hI2:f n=true->pz u (t d)/\ ∀k,Zm o k=true->f k=true):
 wpOp P ops Q i (fun a' u'=> ∃t',Fr R.fr R.S a' t'/\Inv R (updF f i) t' u'/\(updF f i n=true->pz u' (t' d)/\ ∀k,Zm o k=true->updF f i k=true)) a u:=by
 have up: ∀k,f k=true->updF f i k=true:=fun k hk=>by
  by_cases e:k=i
  ·subst e;rw[Yf]
  ·rw[Zp e];exact hk
 rcases h with⟨e,e2,h⟩ | ⟨e,⟨h,hg⟩ | h⟩
 ·subst e
  subst e2
  refine wpOp_mono (fun a' u' h=>?_) (h f t u a X)
  obtain⟨t',h1,h2,h3⟩:=h
  exact⟨t',h1,h2,fun _=>⟨h3,fun k hk=>up k (Zq hk X.dep)⟩⟩
 ·have hfn:f n=false:=by
   cases hf:f n
   ·rfl
   ·have:=(hI2 hf).2 i h;rw[X.fi] at this;cases this
  refine wpOp_mono (fun a' u' h=>?_) (hg f t u a X)
  obtain⟨t',h1,h2⟩:=h
  exact⟨t',h1,h2,fun e3=>by rw[Zp (fun e4=>e e4.symm),hfn] at e3;cases e3⟩
 ·refine wpOp_mono (fun a' u' h=>?_) (h f t u a X)
  obtain⟨t',h1,h2,h3⟩:=h
  refine⟨t',h1,h2,fun e3=>?_⟩
  rw[Zp (fun e4=>e e4.symm)] at e3
  exact⟨h3 (hI2 e3).1,fun k hk=>up k ((hI2 e3).2 k hk)⟩
end
section
variable {P:Program} {ops:Array Oper} {Q:Exit->Act->World->Prop} {id:Nat} {w0 w:World} {fr:List Value} {lo:Nat} {ks:List Blk}
theorem rgY1(n m:Nat)(pz:World->Value->Prop){o:Oper}{j d:Nat}{c:Option Nat}{p:World->Value->Prop}(K:Bk lo w0 ks)(HB:Below lo w w0)(hlo:lo<=w0.heap.size)(X:List Wr)(nw:List Nw)(G:List (Nat×Nat×Value))(O N:List (Nat×Nat))(E E2:List En)(M:List Bool)(hst:Stab E)
 (hE:E[m]?=some ⟨j,d,c,p⟩)(hE2:E2=E.set m ⟨j,d,none,pz⟩)(hn:ops[n]?=some o)
 (hops:OYs (mkR fr lo w w0.heap.size ks X nw G O N E) P ops Q o n d pz 0 ops.toList)
 (hend: ∀u',AllNew nw fun bs=>AllE u' E2 fun vs=>Below lo w u'->w0.heap.size<=u'.heap.size->Bk lo u' (pM M (aK (fX ks X) (nK bs nw)))->Q .normal ⟨(setE (setN (setG fr G) bs nw) vs E2).toArray,[]⟩ u')
 (hm:P.follows .mixedOrders=true:=by kernel_rfl)(hb:Wq .any ops=true:=by kernel_rfl)(hok:(mkR fr lo w w0.heap.size ks X nw G O N E).ok=true:=by kernel_rfl)(hfit:fits ops.size X nw G E2=true:=by kernel_rfl):(Code.region id ops true).wp P Q ⟨fr.toArray,[]⟩ w0:=by
 have hKd:KA lo w0.drew ks:=by
  have:=K.a
  revert this
  clear hend hops K hok
  induction ks with
  | nil=>intro _;trivial
  | cons q r ih=>exact fun h=>⟨⟨h.1.1,h.1.2.1,h.1.2.2.drew⟩,ih h.2⟩
 have hmap: ∀(E:List En) (m:Nat),E[m]?=some ⟨j,d,c,p⟩->(E.set m ⟨j,d,none,pz⟩).map (·.d)=E.map (·.d):=by
  intro E
  induction E with
  | nil=>intro m h;simp at h
  | cons x r ih=>
   intro m h
   cases m with
   | zero=>simp at h;subst h;rfl
   | succ m=>simp at h;simp[ih m h]
 have hS:(mkR fr lo w w0.heap.size ks X nw G O N E2).S=(mkR fr lo w w0.heap.size ks X nw G O N E).S:=by
  show G.map (·.2.1)++(nw.map (·.2.1)++E2.map (·.d))=G.map (·.2.1)++(nw.map (·.2.1)++E.map (·.d))
  rw[hE2,hmap E m hE]
 refine Xp (mkR fr lo w w0.heap.size ks X nw G O N E).S (fun f t u=>Inv (mkR fr lo w w0.heap.size ks X nw G O N E) f t u/\(f n=true->pz u (t d)/\ ∀k,Zm o k=true->f k=true)) hm hb ⟨Inv.start HB.drew rfl hKd hlo X nw G O N E,fun e=>by cases e⟩ ?_ ?_
 ·rintro f t u i oi a hF ⟨hI,hI2⟩ ho hfi hdep
  have hg:=hops.get (j:=i) (oi:=oi) (by rw[Array.getElem?_toList];exact ho)
  rw[Nat.zero_add] at hg
  exact y_step hg ⟨hok,by show ((Uk ks X).map (·.2.1)).Nodup;rw[Xk];exact K.n,hst,hF,hI,ho,hfi,hdep⟩ hI2
 ·rintro f t u ⟨hI,hI2⟩ hall
  have h2:=hI2 (hall n (Array.getElem?_eq_some_iff.1 hn).1)
  have hI3:Inv (mkR fr lo w w0.heap.size ks X nw G O N E2) f t u:=by
   obtain⟨a1,a2,a3,a4,a5,a6⟩:=hI
   refine⟨a1,a2,a3,a4,a5,?_⟩
   show Es f t u E2
   rw[hE2]
   exact Es.set a6 fun _ _=>h2.1
  have:=hI3.end hall hfit K.n hend
  rw[hS] at this
  exact this
end
section
variable {R:Rg} {P:Program} {ops:Array Oper} {Q:Exit->Act->World->Prop} {i:Nat} {o:Oper}
theorem t_pure(d:Nat)(pz:World->Value->Prop){v:Value}(hv:some v=Zx i R.G)(hd:(o.dst.all (·!=d))=true)(hc:R.chk ops i o=true)(h: ∀f t u a,Xs R ops f t u a i o-> ∀K:Act->World->Prop,K (a.put o.dst v) u->Oper.wp P o a u K Q):OT R P ops Q d pz i o:=fun f t u a X=>by
 obtain⟨d',hd',h1,h2,h3,h4,h5,h6,h7⟩:=Yc hc
 rw[hd'] at hd
 have hne:d≠d':=by simp at hd;exact fun e=>hd e.symm
 refine X.go h7 fun K hK=>h f t u a X K (hK _ _ ⟨updT t d' v,by rw[hd'];exact X.F.put X.parts.1 h4 v,⟨?_,X.I.2.1.free h6,Gs.stepA X.I.2.2.1 h1 hv.symm,Yd h5 X.I.2.2.2.1 X.dep,Ns.step X.I.2.2.2.2.1 h2,Es.step (Below.refl _ _) X.st h3.2 X.I.2.2.2.2.2⟩,fun hz=>?_⟩)
 ·rw[Xq h3.1];exact X.I.1
 ·rw[updT,if_neg hne];exact hz
theorem t_as(d:Nat)(pz:World->Value->Prop){x:Operand}{v:Value}(hop:o.op= .assign x:=by rfl)(hx:evR R i o x=some v:=by rfl)(hv:some v=Zx i R.G:=by rfl)(hd:(o.dst.all (·!=d))=true:=by rfl)(hc:R.chk ops i o=true:=by rfl):OT R P ops Q d pz i o:=
 t_pure d pz hv hd hc fun f t u a X K hK=>V3 hop (X.ev hx) hK
theorem t_xV(dz:Nat)(pz:World->Value->Prop)(m:Nat)(p:World->Value->Prop){j d k:Nat}{c:Option Nat}{v:Value}(hp: ∀u vs,p u vs-> ∃cs,vs= .tuple cs/\cs[k]?=some v)(hop:o.op= .extract (.tmp d) k:=by rfl)(hm:R.E[m]?=some ⟨j,d,c,p⟩:=by rfl)(hcc:(c.all (· ==i))=true:=by rfl)(hd:(Zm o j&&R.S.contains d)=true:=by rfl)(hdz:(o.dst.all (·!=dz))=true:=by rfl)(hv:some v=Zx i R.G:=by rfl)(hc:R.chk ops i o=true:=by rfl):OT R P ops Q dz pz i o:=
 t_pure dz pz hv hdz hc fun f t u a X K hK=>by
  rw[Bool.and_eq_true,List.contains_iff_mem] at hd
  obtain⟨h2,h4⟩:=hd
  obtain⟨cs,e1,e2⟩:=hp u (t d) (X.val2 hm h2 hcc)
  exact Vf hop ((X.inS h4).trans e1) e2 hK
end
end
section
section
variable {R:Rg} {P:Program} {ops:Array Oper} {Q:Exit->Act->World->Prop} {f:Nat->Bool} {t:Nat->Value} {u:World} {a:Act} {i:Nat} {o:Oper}
theorem g_cX(m n:Nat)(p p':World->Value->Prop){N:FuncId}{j d:Nat}{x:Operand}{vx:Value}{tys:Array TypeId}(hr: ∀(vs:Array Value) (w:World),(callFunc N vs).run P w= .ok (.enter N vs) w)
 (hcall: ∀(u:World) (y:Value),Below R.lo R.w u->R.base<=u.heap.size->p u y->Calls P N #[vx,y] u fun e u'=> ∃v,e= .returned v/\p' u' v/\Bw u u')(hop:o.op= .call {callee:= .value (.func N),args:=[x,.tmp d].toArray,argTypes:=tys}:=by rfl)(hx:evR R i o x=some vx:=by rfl)(hm:R.E[m]?=some ⟨j,d,some i,p⟩:=by rfl)(hd:(Zm o j&&R.S.contains d)=true:=by rfl)(hn:(R.E[n]?).map (·.p)=some p':=by rfl)(hc:R.chkE ops n i o=true:=by rfl):OG R P ops Q i o:=fun f t u a X=>by
 rw[Bool.and_eq_true,List.contains_iff_mem] at hd
 obtain⟨h2,h4⟩:=hd
 obtain⟨d',q,hd',hq,_,_,_,_,_,_,_,_,hw⟩:=Zj hc
 exact X.go hw fun K hK=>wp_callP (vs:=[vx,t d]) hop (by rw[List.map_cons,List.map_cons,List.map_nil,X.ev hx,X.inS h4]) hr (hcall u (t d) X.I.1.bel X.I.1.sz (X.val hm h2 rfl)) fun v w' h1 hB=>hK _ _ (X.putE hc (fun q hq=>by rw[hq] at hn;cases hn;exact h1) hB)
end
theorem EKj{u u':World}{d e:Int}{ns:List Int}(h: ∀y ms,NL u y ms->NL u' y ms): ∀x,PTz d e ns u x->PTz d e ns u' x:=fun x hx=>by
 obtain⟨y,e,h2⟩:=hx
 exact⟨y,e,h _ _ h2⟩
def P1d(d:Int)(vy:Value)(u:World)(v:Value):Prop:= ∃b,v= .slice (some ⟨b,0,none⟩) 1 1/\b<u.heap.size/\CV u b (DE d vy)
theorem P1d.stab{d:Int}{vy:Value}{u u2:World}{v:Value}(hB:Bw u u2)(h:P1d d vy u v):P1d d vy u2 v:=by
 obtain⟨b,e,h1,h2⟩:=h
 exact⟨b,e,Nat.lt_of_lt_of_le h1 hB.size,h2.below hB h1⟩
theorem P1d.new{d:Int}{vy:Value}{T:TypeId}(u:World):P1d d vy (u.alloc (.cells (DE d vy:List Value).toArray T)) (.slice (some ⟨u.heap.size,0,none⟩) 1 1):=⟨_,rfl,by simp,CV.new u _ _⟩
def DLp(ds:List (Int×List Int))(u:World)(v:Value):Prop:=DL u v ds
theorem DLp.stab{ds:List (Int×List Int)}{u u2:World}{v:Value}(hB:Bw u u2)(h:DLp ds u v):DLp ds u2 v:=DL.up h hB
end
theorem jthe_core(p q g h:Int)(w:World)(hP:Hid (∀u,CC 20 #[iI 0] u (.tuple #[GX p q g h,iI 0]))):
 CC 8 #[] w (GX p q g h):=by
 go_enter Tryz.func8,Tryz.ntmps8
 go_upto_region 1 with fail
 obtain⟨v0,hC,HB0,K0⟩:=bx1 w L0g 43
 rw[hC]
 clear hC
 refine Rp K0 HB0 [] [(4,1,L0g,some (5,GE p q g h))] [(0,4,_),(1,3,_),(2,5,_),(3,6,_),(6,2,_)] [(5,4)] [] [] (Oc7 (g_cl ent_M1 hP.out) g_mv g_ex g_ex (g_al 0 T9) (g_sn 0 Z0) g_as) fun u1 b1_4 HB1 _ K1=>?_
 simp only[sQ] at K1⊢
 go_upto_region 2 with fail
 refine Rp K1 HB1 [.all 1 (GE p q g h)] [] [(0,7,_)] [] [] [] (Oc2 (g_ld 1 Tryz.underlying43 Z0) (g_st 0 Z0)) fun u2 HB2 _ K2=>?_
 simp only[sQ] at K2⊢
 have c0_0:=((K2.cv 0) 0 _ rfl).1
 have c0_1:=((K2.cv 0) 1 _ rfl).1
 have c0_2:=((K2.cv 0) 2 _ rfl).1
 have c0_3:=((K2.cv 0) 3 _ rfl).1
 have c0_4:=((K2.cv 0) 4 _ rfl).1
 have c0_5:=((K2.cv 0) 5 _ rfl).1
 have c0_6:=((K2.cv 0) 6 _ rfl).1
 have c0_7:=((K2.cv 0) 7 _ rfl).1
 have c0_8:=((K2.cv 0) 8 _ rfl).1
 have c0_9:=((K2.cv 0) 9 _ rfl).1
 have c0_10:=((K2.cv 0) 10 _ rfl).1
 have c0_11:=((K2.cv 0) 11 _ rfl).1
 have c0_12:=((K2.cv 0) 12 _ rfl).1
 have c0_13:=((K2.cv 0) 13 _ rfl).1
 have c0_14:=((K2.cv 0) 14 _ rfl).1
 have c0_15:=((K2.cv 0) 15 _ rfl).1
 go_wp2
 refine bodyPost_ret (v:=GX p q g h) (by simp[results,Tryz.results8,go_sem,c0_0,c0_1,c0_2,c0_3,c0_4,c0_5,c0_6,c0_7,c0_8,c0_9,c0_10,c0_11,c0_12,c0_13,c0_14,c0_15]) rfl ⟨rfl,HB2⟩
theorem jThe(w:World):CC 8 #[] w (GX P0 Q0 4 H0):=jthe_core P0 Q0 4 H0 w fun u=>xParams0 u
theorem fdY0(b:Nat)(w:World):(Instr.fieldAt 33 (.pointer (some ⟨b,0,none⟩)) 0).run Tryz.prog w= .ok (.pointer (some ⟨b,0,none⟩)) w:=by go_simp
theorem fdY1(b:Nat)(w:World):(Instr.fieldAt 33 (.pointer (some ⟨b,0,none⟩)) 1).run Tryz.prog w= .ok (.pointer (some ⟨b,1,none⟩)) w:=by go_simp
def mkS(xs:List Int)(t:Nat)(nt:Bool):List Int:=tab (t+1) fun i=>if decide (i<xs.length)&&(decide (0<i) || !nt) then xs.getD i 0 else 0
theorem Un(xs:List Int)(t:Nat)(nt:Bool):(mkS xs t nt).length=t+1:=We _ _
theorem mkS_at{xs:List Int}{t i:Nat}{nt:Bool}(h:i<t+1):(mkS xs t nt).getD i 0=if decide (i<xs.length)&&(decide (0<i) || !nt) then xs.getD i 0 else 0:=Yt h
theorem k_lt{k n:Nat}{b:Bool}(h:(decide (k<n)&&b)=true):k<n:=by rw[Bool.and_eq_true] at h;exact of_decide_eq_true h.1
theorem rowN_same{vs:List Int}{k:Nat}(h:k<vs.length)(h0:vs.getD k 0=0):flN (rowN vs k)=flN (rowN vs (k+1)):=by rw[Xi h,W5 h,h0]
theorem ent_H1:EnT 8:=fun _ _=>by kernel_rfl
theorem made_core(dl:Int)(t:Nat)(nt:Bool)(xs ys ss ts:List Int)(vx vy:Value)(w:World)(hd0:dlE P0 Q0 4 H0 dl ss ts=0)(ht:t<=5)(hxv:NL w vx xs)(hyv:NL w vy ys)(hIs: ∀z∈ss,In z)(hIt: ∀z∈ts,In z)(hsl:ss.length=t+1)(htl:ts.length=t+1)(hsi:Hid (∀k,k<t+1->ss.getD k 0=if decide (k<xs.length)&&(decide (0<k) || !nt) then xs.getD k 0 else 0))(hti:Hid (∀k,k<t+1->ts.getD k 0=if decide (k<ys.length)&&(decide (0<k) || !nt) then ys.getD k 0 else 0)):
 Calls Tryz.prog 6 #[.agg #[vx,vy],iI dl,iI (t:Int),.bool nt] w fun e' w'=> ∃y z1 z2,e'= .returned (.tuple #[DX (dlD P0 Q0 4 H0 dl ss ts) y,z1,z2])/\(NL w' y (dlC P0 Q0 4 H0 dl ss ts)/\NL w' z1 ss/\NL w' z2 ts/\(dlE P0 Q0 4 H0 dl ss ts=0->PQn w.heap.size (dlC P0 Q0 4 H0 dl ss ts) w' y))/\Bw w w':=by
 obtain⟨sa,ga,oa,ca,rfl,_,_,a4,a5,a6⟩:=hxv
 obtain⟨sb,gb,ob,cb,rfl,_,_,b4,b5,b6⟩:=hyv
 have hia:=Hid.on (NL.ix (u:=w) (cap:=ca) a4)
 have hib:=Hid.on (NL.ix (u:=w) (cap:=cb) b4)
 clear a4 b4
 go_enter Tryz.func6,Tryz.ntmps6
 go_upto_region 1 with fail
 generalize hW:World.alloc (World.alloc w _) _=v0
 have hz0:w.heap.size+1<v0.heap.size:=by rw[<-hW];simp
 have hB0:Bw w v0:=by rw[<-hW];exact Z1 (Z1 (Z5 w) _) _
 have hC0:CV v0 w.heap.size [.slice sa xs.length ca,.slice sb ys.length cb]:=by rw[<-hW];exact(CV.new w [.slice sa xs.length ca,.slice sb ys.length cb] 33).below (Z1 (Z5 _) _) (by simp)
 have hC1:CV v0 (w.heap.size+1) L0d:=by rw[<-hW];exact CVn L0d 29 (by simp)
 clear hW
 have e1:IntKind.i64.wrap ((t:Int)+1)=((t+1:Nat):Int):=by rw[IntKind.wrap_i64];omega
 have hmk: ∀W,(Instr.makeSlice 27 (iI ((t:Int)+1)) (iI ((t:Int)+1))).run Tryz.prog W= .ok (.slice (some ⟨W.heap.size,0,none⟩) (t+1) (t+1)) (W.alloc (.cells (flN (List.replicate (t+1) 0)).toArray 36)):=fun W=>mkNt (t+1) (by omega) W
 have hA:=(CV.new v0 (flN (List.replicate (t+1) 0)) 36).below (Z1 (Z5 _) (.cells (flN (List.replicate (t+1) 0)).toArray 36)) (by simp)
 have hA2:=CVn (u:=v0.alloc (.cells (flN (List.replicate (t+1) 0)).toArray 36)) (b:=v0.heap.size+1) (flN (List.replicate (t+1) 0)) 36 (by simp)
 go_cut [11,12] (fun s11 s12 wx=> ∃b1 b2,s11= .slice (some ⟨b1,0,none⟩) (t+1) (t+1)/\s12= .slice (some ⟨b2,0,none⟩) (t+1) (t+1)/\b1≠b2/\v0.heap.size<=b1/\v0.heap.size<=b2/\b1<wx.heap.size/\b2<wx.heap.size/\CV wx b1 (flN (List.replicate (t+1) 0))/\CV wx b2 (flN (List.replicate (t+1) 0))/\Bw v0 wx)
 case first=>
  go_wp2
  go_region
  all_goals (try go_wp2)
  all_goals go_meet
  all_goals exact⟨_,_,rfl,rfl,by omega,by omega,by omega,by show _<((v0.alloc _).alloc _).heap.size;simp<;>omega,by show _<((v0.alloc _).alloc _).heap.size;simp<;>omega,by first | exact hA | exact hA2,by first | exact hA2 | exact hA,(Z1 (Z1 (Z5 v0) _) _).drew⟩
 case rest=>
 obtain⟨b1,b2,rfl,rfl,hne,hl1,hl2,k1,k2,C2,C3,hB1⟩:=hcut
 have hBw:=Z2 hB0 hB1
 have C0:=hC0.below hB1 (by omega)
 have C1:=hC1.below hB1 hz0
 have k0:w.heap.size<wc.heap.size:=by omega
 have kr:w.heap.size+1<wc.heap.size:=by omega
 have hw1:w.heap.size+1<b1:=by omega
 have hw2:w.heap.size+1<b2:=by omega
 clear hC0 hC1 hB0 hB1 hz0 hmk e1
 have K0_1:Bk w.heap.size wc [(false,w.heap.size,[.slice sa xs.length ca,.slice sb ys.length cb]),(true,w.heap.size+1,L0d),(true,b1,flN (List.replicate (t+1) 0)),(true,b2,flN (List.replicate (t+1) 0))]:=⟨.c k0 C0<| .o kr (by omega) C1<| .o k1 (by omega) C2<| .o k2 (by omega) C3<|trivial,by simp<;>omega⟩
 go_upto_region 2 with fail
 refine Rn K0_1 hBw [(0,13,_)] (Oc1 g_as) fun u1 HB1 _ K1=>?_
 simp only[sQ] at K1⊢
 go_wp2_with fail
 go_loopw [13] (fun s13 wr=> ∃(k:Nat),k<=t+1/\s13=iI (k:Int)/\Bw w wr/\CV wr (w.heap.size) ([.slice sa xs.length ca,.slice sb ys.length cb])/\w.heap.size<wr.heap.size/\CV wr (w.heap.size+1) (L0d)/\w.heap.size+1<wr.heap.size/\CV wr b1 (flN (rowN ss k))/\b1<wr.heap.size/\CV wr b2 (flN (rowN ts k))/\b2<wr.heap.size) (fun s13 _=>t+1 -(intOf s13).toNat)
 case atStart=>exact⟨0,by omega,rfl,HB1,(K1.cv 0),(K1.lt 0),(K1.cv 1),(K1.lt 1),by rw[rowN_0,hsl];exact(K1.cv 2),(K1.lt 2),by rw[rowN_0,htl];exact(K1.cv 3),(K1.lt 3)⟩
 case round=>
  obtain⟨k,hk,rfl,HBr,C0,lC0,C1,lC1,C2,lC2,C3,lC3⟩:=hrel
  obtain⟨wq,rfl⟩: ∃x,x=wr:=⟨_,rfl⟩
  have hnK:=K1.n
  simp at hnK
  have hoK2:=K1.lo 2
  have hoK3:=K1.lo 3
  by_cases hj:k<t+1
  ·have hl:decide ((k:Int)<=(t:Int))=true:=by simp;omega
   have hs0:=hsi.out k hj
   have ht0:=hti.out k hj
   have K1_2:Bk w.heap.size wq [(false,w.heap.size,[.slice sa xs.length ca,.slice sb ys.length cb]),(true,w.heap.size+1,L0d),(true,b1,flN (rowN ss k)),(true,b2,flN (rowN ts k))]:=⟨.c lC0 C0<| .o lC1 (K1.lo 1) C1<| .o lC2 (K1.lo 2) C2<| .o lC3 (K1.lo 3) C3<|trivial,by simp<;>omega⟩
   go_upto_region 3 with fail
   refine Rn K1_2 HBr (cG 0 22 [_,_,_] []) (Oc3 g_mv g_mv (g_bn (fun uZ=>leq_p _ _ (k:Int) (t:Int) _ uZ hl))) fun u2 HB2 _ K2=>?_
   simp only[sQ] at K2⊢
   obtain⟨ca1,eca1⟩: ∃c,(decide (k<xs.length)&&(decide (0<k) || !nt))=c:=⟨_,rfl⟩
   rw[eca1] at hs0
   have yca1:=(((K2.cv 0)) 0 _ rfl).1
   go_upto_region 5 with fail
   go_cut [39] (fun s wx=>s= .bool ca1/\wx=u2)
   case first=>
    by_cases h1:k<xs.length
    ·have h1':(k:Int)<(xs.length:Int):=by omega
     rw[decide_eq_true h1,Bool.true_and] at eca1
     by_cases h2:0<k
     ·have h2':(0:Int)<(k:Int):=by omega
      rw[decide_eq_true h2,Bool.true_or] at eca1
      subst eca1
      go_wp2
      go_meet
      exact⟨rfl,rfl⟩
     ·have h2': ¬(0:Int)<(k:Int):=by omega
      rw[decide_eq_false h2,Bool.false_or] at eca1
      subst eca1
      go_wp2
      go_meet
      exact⟨rfl,rfl⟩
    ·have h1': ¬(k:Int)<(xs.length:Int):=by omega
     rw[decide_eq_false h1,Bool.false_and] at eca1
     subst eca1
     go_wp2
     go_meet
     exact⟨rfl,rfl⟩
   case rest=>
   obtain⟨rfl,ecut⟩:=hcut
   have ecut:=ecut.symm
   subst ecut
   clear yca1
   cases ca1
   case' true=>
    rw[if_pos rfl] at hs0
    have hx:=k_lt eca1
    have hX:=Hid.on (hia.out k hx)
    have hR:=Hid.on (a6.at k hx)
    have hg:=a5.resolve_left (by omega)
    have hkx:k<ss.length:=by omega
    have hXL:=U5 (vs:=ss) (k:=k) (by omega)
    have hNx:=W5 (vs:=ss) (k:=k) (by omega)
    have Cr:=(K2.cv 2)
    rw[Xi (vs:=ss) (k:=k) (by omega)] at Cr
    rw[hs0] at hNx
    obtain⟨X,eX⟩: ∃X,flN (List.take k ss)=X:=⟨_,rfl⟩
    obtain⟨Z,eZ⟩: ∃Z,flN (List.replicate (List.length ss -(k+1)) 0)=Z:=⟨_,rfl⟩
    rw[eX] at hXL hNx Cr
    rw[eZ] at hNx Cr
    clear eX eZ
    obtain⟨x,ex⟩: ∃x,xs.getD k 0=x:=⟨_,rfl⟩
    rw[ex] at hR hNx
    clear ex
    replace hXL:=Hid.on hXL
    replace hNx:=Hid.on hNx
    have K2_3:Bk w.heap.size u2 [(false,w.heap.size,[.slice sa xs.length ca,.slice sb ys.length cb]),(true,w.heap.size+1,L0d),(true,b1,X++LN 0++Z),(true,b2,flN (rowN ts k))]:=⟨.c (K2.lt 0) (K2.cv 0)<| .o (K2.lt 1) (by omega) (K2.cv 1)<| .o (K2.lt 2) (by omega) Cr<| .o (K2.lt 3) (by omega) (K2.cv 3)<|trivial,by simp<;>omega⟩
    go_upto_region 6 with fail
    refine Rp K2_3 HB2 [.no,.no,.all 8 (X++LN x++Z)] [] (cG 0 40 [_,_,_,_,_,_,_,_] []) [] [] [] (Oc9 g_mv g_mv (g_fd (fdY0 _)) (g_lc 0 0 lSN) g_mv (g_ix hX.out) (g_lf hR.out hg uN iN) (g_ix (ixZ _ _ _ k hj)) (g_sm 2 (4*k) X (LN 0) Z (post:=LN x) (hxc:=hXL.out) iN)) fun u3 HB3 _ K3=>?_
    simp only[sQ] at K3⊢
    have hR2:CV u3 b1 (flN (rowN ss (k+1))):=by rw[hNx.out];exact(K3.cv 2)
    go_upto_region 7 with fail
    have E0:CV u3 (w.heap.size) ([.slice sa xs.length ca,.slice sb ys.length cb]):=(K3.cv 0)
    have lE0:w.heap.size<u3.heap.size:=(K3.lt 0)
    have E1:CV u3 (w.heap.size+1) L0d:=(K3.cv 1)
    have lE1:w.heap.size+1<u3.heap.size:=(K3.lt 1)
    have E2:CV u3 b1 (flN (rowN ss (k+1))):=hR2
    have lE2:b1<u3.heap.size:=(K3.lt 2)
    have E3:CV u3 b2 (flN (rowN ts k)):=(K3.cv 3)
    have lE3:b2<u3.heap.size:=(K3.lt 3)
    have HBE:=HB3
    generalize u3=wzE at *
    clear K3 HB3 hR2 hX hR hXL hNx Cr
   case' false=>
    rw[if_neg (by decide)] at hs0
    have hR2:flN (rowN ss k)=flN (rowN ss (k+1)):=rowN_same (by omega) hs0
    have E0:CV u2 (w.heap.size) ([.slice sa xs.length ca,.slice sb ys.length cb]):=(K2.cv 0)
    have lE0:w.heap.size<u2.heap.size:=(K2.lt 0)
    have E1:CV u2 (w.heap.size+1) L0d:=(K2.cv 1)
    have lE1:w.heap.size+1<u2.heap.size:=(K2.lt 1)
    have E2:CV u2 b1 (flN (rowN ss (k+1))):=by rw[<-hR2];exact(K2.cv 2)
    have lE2:b1<u2.heap.size:=(K2.lt 2)
    have E3:CV u2 b2 (flN (rowN ts k)):=(K2.cv 3)
    have lE3:b2<u2.heap.size:=(K2.lt 3)
    have HBE:=HB2
    go_upto_region 7 with fail
    obtain⟨wzE,rfl⟩: ∃x,x=u2:=⟨_,rfl⟩
    clear hR2
   all_goals
    have K3_3:Bk w.heap.size wzE [(false,w.heap.size,[.slice sa xs.length ca,.slice sb ys.length cb]),(true,w.heap.size+1,L0d),(true,b1,flN (rowN ss (k+1))),(true,b2,flN (rowN ts k))]:=⟨.c lE0 E0<| .o lE1 (by omega) E1<| .o lE2 (by omega) E2<| .o lE3 (by omega) E3<|trivial,by simp<;>omega⟩
    obtain⟨cb1,ecb1⟩: ∃c,(decide (k<ys.length)&&(decide (0<k) || !nt))=c:=⟨_,rfl⟩
    rw[ecb1] at ht0
    have ycb1:=(((K3_3.cv 0)) 1 _ rfl).1
    go_upto_region 7 with fail
    go_cut [60] (fun s wx=>s= .bool cb1/\wx=wzE)
    case first=>
     by_cases h1:k<ys.length
     ·have h1':(k:Int)<(ys.length:Int):=by omega
      rw[decide_eq_true h1,Bool.true_and] at ecb1
      by_cases h2:0<k
      ·have h2':(0:Int)<(k:Int):=by omega
       rw[decide_eq_true h2,Bool.true_or] at ecb1
       subst ecb1
       go_wp2
       go_meet
       exact⟨rfl,rfl⟩
      ·have h2': ¬(0:Int)<(k:Int):=by omega
       rw[decide_eq_false h2,Bool.false_or] at ecb1
       subst ecb1
       go_wp2
       go_meet
       exact⟨rfl,rfl⟩
     ·have h1': ¬(k:Int)<(ys.length:Int):=by omega
      rw[decide_eq_false h1,Bool.false_and] at ecb1
      subst ecb1
      go_wp2
      go_meet
      exact⟨rfl,rfl⟩
    case rest=>
    obtain⟨rfl,ecut⟩:=hcut
    have ecut:=ecut.symm
    subst ecut
    clear ycb1
    cases cb1
    case' true=>
     rw[if_pos rfl] at ht0
     have hx:=k_lt ecb1
     have hX:=Hid.on (hib.out k hx)
     have hR:=Hid.on (b6.at k hx)
     have hg:=b5.resolve_left (by omega)
     have hkx:k<ts.length:=by omega
     have hXL:=U5 (vs:=ts) (k:=k) (by omega)
     have hNx:=W5 (vs:=ts) (k:=k) (by omega)
     have Cr:=(K3_3.cv 3)
     rw[Xi (vs:=ts) (k:=k) (by omega)] at Cr
     rw[ht0] at hNx
     obtain⟨X,eX⟩: ∃X,flN (List.take k ts)=X:=⟨_,rfl⟩
     obtain⟨Z,eZ⟩: ∃Z,flN (List.replicate (List.length ts -(k+1)) 0)=Z:=⟨_,rfl⟩
     rw[eX] at hXL hNx Cr
     rw[eZ] at hNx Cr
     clear eX eZ
     obtain⟨x,ex⟩: ∃x,ys.getD k 0=x:=⟨_,rfl⟩
     rw[ex] at hR hNx
     clear ex
     replace hXL:=Hid.on hXL
     replace hNx:=Hid.on hNx
     have K3_4:Bk w.heap.size wzE [(false,w.heap.size,[.slice sa xs.length ca,.slice sb ys.length cb]),(true,w.heap.size+1,L0d),(true,b1,flN (rowN ss (k+1))),(true,b2,X++LN 0++Z)]:=⟨.c (K3_3.lt 0) (K3_3.cv 0)<| .o (K3_3.lt 1) (by omega) (K3_3.cv 1)<| .o (K3_3.lt 2) (by omega) (K3_3.cv 2)<| .o (K3_3.lt 3) (by omega) Cr<|trivial,by simp<;>omega⟩
     go_upto_region 8 with fail
     refine Rp K3_4 HBE [.no,.no,.no,.all 8 (X++LN x++Z)] [] (cG 0 61 [_,_,_,_,_,_,_,_] []) [] [] [] (Oc9 g_mv g_mv (g_fd (fdY1 _)) (g_lc 0 1 lSN) g_mv (g_ix hX.out) (g_lf hR.out hg uN iN) (g_ix (ixZ _ _ _ k hj)) (g_sm 3 (4*k) X (LN 0) Z (post:=LN x) (hxc:=hXL.out) iN)) fun u4 HB4 _ K4=>?_
     simp only[sQ] at K4⊢
     have hR2:CV u4 b2 (flN (rowN ts (k+1))):=by rw[hNx.out];exact(K4.cv 3)
     go_upto_region 4 with fail
     have G0:CV u4 (w.heap.size) ([.slice sa xs.length ca,.slice sb ys.length cb]):=(K4.cv 0)
     have lG0:w.heap.size<u4.heap.size:=(K4.lt 0)
     have G1:CV u4 (w.heap.size+1) L0d:=(K4.cv 1)
     have lG1:w.heap.size+1<u4.heap.size:=(K4.lt 1)
     have G2:CV u4 b1 (flN (rowN ss (k+1))):=(K4.cv 2)
     have lG2:b1<u4.heap.size:=(K4.lt 2)
     have G3:CV u4 b2 (flN (rowN ts (k+1))):=hR2
     have lG3:b2<u4.heap.size:=(K4.lt 3)
     have HBG:=HB4
     generalize u4=wzG at *
     clear K4 HB4 hR2 hX hR hXL hNx Cr
    case' false=>
     rw[if_neg (by decide)] at ht0
     have hR2:flN (rowN ts k)=flN (rowN ts (k+1)):=rowN_same (by omega) ht0
     have G0:CV wzE (w.heap.size) ([.slice sa xs.length ca,.slice sb ys.length cb]):=(K3_3.cv 0)
     have lG0:w.heap.size<wzE.heap.size:=(K3_3.lt 0)
     have G1:CV wzE (w.heap.size+1) L0d:=(K3_3.cv 1)
     have lG1:w.heap.size+1<wzE.heap.size:=(K3_3.lt 1)
     have G2:CV wzE b1 (flN (rowN ss (k+1))):=(K3_3.cv 2)
     have lG2:b1<wzE.heap.size:=(K3_3.lt 2)
     have G3:CV wzE b2 (flN (rowN ts (k+1))):=by rw[<-hR2];exact(K3_3.cv 3)
     have lG3:b2<wzE.heap.size:=(K3_3.lt 3)
     have HBG:=HBE
     go_upto_region 4 with fail
     obtain⟨wzG,rfl⟩: ∃x,x=wzE:=⟨_,rfl⟩
     clear hR2
    all_goals
     have K4_4:Bk w.heap.size wzG [(false,w.heap.size,[.slice sa xs.length ca,.slice sb ys.length cb]),(true,w.heap.size+1,L0d),(true,b1,flN (rowN ss (k+1))),(true,b2,flN (rowN ts (k+1)))]:=⟨.c lG0 G0<| .o lG1 (by omega) G1<| .o lG2 (by omega) G2<| .o lG3 (by omega) G3<|trivial,by simp<;>omega⟩
     refine Rp K4_4 HBG [] [] [(0,25,_),(1,26,_),(2,13,_)] [(2,0)] [(2,13)] [] (Oc3 g_mv (g_bn (fun uZ=>Zl _ _ (k:Int) 1 ((k+1:Nat):Int) uZ (by omega) (by omega) (by omega))) g_as) fun u5 HB5 _ K5=>?_
     simp only[sQ] at K5⊢
     go_wp2
     refine⟨⟨k+1,by omega,rfl,HB5,(K5.cv 0),(K5.lt 0),(K5.cv 1),(K5.lt 1),(K5.cv 2),(K5.lt 2),(K5.cv 3),(K5.lt 3)⟩,?_⟩
     simp[intOf]<;>omega
  ·have hl:decide ((k:Int)<=(t:Int))=false:=by simp;omega
   have hk1:k=ss.length:=by omega
   have hk2:k=ts.length:=by omega
   have R1:=C2
   have R2:=C3
   rw[hk1,U6] at R1
   rw[hk2,U6] at R2
   clear hk1 hk2 C2 C3
   have hN1:NL wq (.slice (some ⟨b1,0,none⟩) (t+1) (t+1)) ss:=PRw.nl (lo:=0) ⟨b1,by rw[hsl],Nat.zero_le _,lC2,R1⟩
   have hN2:NL wq (.slice (some ⟨b2,0,none⟩) (t+1) (t+1)) ts:=PRw.nl (lo:=0) ⟨b2,by rw[htl],Nat.zero_le _,lC3,R2⟩
   have hTh:=Hid.on (jThe wq)
   have hDe:Hid (∀u,Bw wq u->_):=fun u hB=>xDealG P0 Q0 4 H0 dl ss ts _ _ u W0 In_Q0' In_n4 In_H0 (hN1.up hB) (hN2.up hB) hIs hIt hd0
   obtain⟨D,eD⟩: ∃D,dlD P0 Q0 4 H0 dl ss ts=D:=⟨_,rfl⟩
   obtain⟨e,ee⟩: ∃e,dlE P0 Q0 4 H0 dl ss ts=e:=⟨_,rfl⟩
   obtain⟨cs,ec⟩: ∃cs,dlC P0 Q0 4 H0 dl ss ts=cs:=⟨_,rfl⟩
   have hce:e≠0->cs=[]:=fun h=>by rw[<-ec,dlC,ee,if_neg h]
   rw[eD,ee,ec] at hDe
   have C1':=Hid.on C1
   have hN1:=Hid.on hN1
   have hN2:=Hid.on hN2
   have hce:=Hid.on hce
   have eD:=Hid.on eD
   have ec:=Hid.on ec
   have ee:=Hid.on ee
   clear C0 C1 R1 R2 hia hib a5 a6 b5 b6 hsi hti
   go_wp2_with (first
    | (go_at_call 8;refine hTh.out.mono ?_;clear hTh;rintro r ua ⟨rfl,hBa⟩)
    | (go_at_call 15;refine(hDe.out _ hBa).mono ?_;clear hDe;rintro r ub ⟨y,rfl,⟨hy,hq⟩,hBb⟩;obtain⟨s,c,ey⟩:=hy.sl;subst ey;have hy:=Hid.on hy;have hq:=Hid.on hq;have hBc:=Z2 hBa hBb;have hB3:Bw wq (ub.alloc (.cells (DE D (.slice s cs.length c):List Value).toArray 29)):=Z1 hBc _;have C2:=C1'.out.below hB3 lC1;have z0:=C2 0 _ rfl;have z1:=C2 1 _ rfl;have hk:=set2_K (v0:=iI D) (v1:= .slice s cs.length c) C2;have q0:=(hk 0 _ rfl).1;have q1:=(hk 1 _ rfl).1;clear hk C2;have hB3:=Hid.on hB3))
   have hlq:=HBr.size
   have hza:=hBa.size
   refine bodyPost_ret (v:= .tuple #[DX D (.slice s cs.length c),.slice (some ⟨b1,0,none⟩) (t+1) (t+1),.slice (some ⟨b2,0,none⟩) (t+1) (t+1)]) (by simp[results,Tryz.results6,go_sem,q0,q1]) rfl ⟨_,_,_,by rw[eD.out],?_,set2_B (Z2 HBr hB3.out) (by omega)⟩
   rw[ec.out,ee.out]
   refine⟨set2_N (hy.out.up (Z1 (Z5 ub) _)) (fun sl gb go cap e1 e2 hne=>?_),set2_N (hN1.out.up hB3.out) (fun sl gb go cap e1 e2 _=>by have h:=(Value.slice.inj e1).1.trans e2;cases h;omega),set2_N (hN2.out.up hB3.out) (fun sl gb go cap e1 e2 _=>by have h:=(Value.slice.inj e1).1.trans e2;cases h;omega),fun h0=>?_⟩
   ·by_cases h0:e=0
    ·obtain⟨b,co,zs,eb,hb1,_⟩:=hq.out h0
     cases eb
     cases e1
     cases e2
     omega
    ·exact absurd (hce.out h0) hne
   ·obtain⟨b,co,zs,eb,hb1,hb2,hb3,hb4⟩:=hq.out h0
    cases eb
    exact⟨b,c,zs,rfl,by omega,by simp<;>omega,hb3,((hb4.below (Z1 (Z5 ub) _) hb2).oset ⟨w.heap.size+1,0,none⟩ _ (by show b≠w.heap.size+1;omega)).oset ⟨w.heap.size+1,1,none⟩ _ (by show b≠w.heap.size+1;omega)⟩
theorem mkS_In{xs:List Int}(h: ∀z∈xs,In z)(t:Nat)(nt:Bool): ∀z∈mkS xs t nt,In z:=fun z hz=>by
 obtain⟨i,hi,rfl⟩:=List.mem_map.1 hz
 split
 ·rename_i hc
  exact Ye h i (k_lt hc)
 ·exact⟨by decide,by decide⟩
theorem cMade(dl:Int)(t:Nat)(nt:Bool)(xs ys:List Int)(vx vy:Value)(w:World)(hnd:ndB dl=true)(ht:t<=5)(hxv:NL w vx xs)(hyv:NL w vy ys)(hxs: ∀z∈xs,In z)(hys: ∀z∈ys,In z):Calls Tryz.prog 6 #[.agg #[vx,vy],iI dl,iI (t:Int),.bool nt] w fun r u=> ∃y z1 z2,r= .returned (.tuple #[DX (dlD P0 Q0 4 H0 dl (mkS xs t nt) (mkS ys t nt)) y,z1,z2])/\(NL u y (dlC P0 Q0 4 H0 dl (mkS xs t nt) (mkS ys t nt))/\NL u z1 (mkS xs t nt)/\NL u z2 (mkS ys t nt)/\(dlE P0 Q0 4 H0 dl (mkS xs t nt) (mkS ys t nt)=0->PQn w.heap.size (dlC P0 Q0 4 H0 dl (mkS xs t nt) (mkS ys t nt)) u y))/\Bw w u:=
 made_core dl t nt xs ys _ _ vx vy w (dl_0 hnd (by rw[Un,Un,shB_iff];omega)) ht hxv hyv (mkS_In hxs t nt) (mkS_In hys t nt) (Un _ _ _) (Un _ _ _) (fun k hk=>mkS_at hk) (fun k hk=>mkS_at hk)
def plS(q:Int)(ls:Nat->List Int)(m:Nat):Nat->List Int
 | 0=>List.replicate m 0
 | i+1=>sAd q (plS q ls m i) (ls i)
theorem Vw{q:Int}{ls:Nat->List Int}{m:Nat}: ∀{i:Nat},(∀j,j<i->(ls j).length=m)->(plS q ls m i).length=m
 | 0,_=>by simp[plS]
 | i+1,h=>by rw[plS,sAd_len,Vw fun j hj=>h j (by omega),h i (by omega)];omega
theorem plS_suc{q:Int}{ls:Nat->List Int}{m i j:Nat}(h: ∀k,k<i+1->(ls k).length=m)(hj:j<m):(plS q ls m (i+1)).getD j 0=((plS q ls m i).getD j 0+(ls i).getD j 0)%q:=by
 rw[plS,sAd,Yt (by rw[Vw fun k hk=>h k (by omega)];omega)]
theorem plS_0{q:Int}{ls:Nat->List Int}{m j:Nat}:(plS q ls m 0).getD j 0=0:=by
 rw[plS,List.getD_eq_getElem?_getD]
 by_cases h:j<m
 ·rw[List.getElem?_replicate,if_pos h];rfl
 ·rw[List.getElem?_replicate,if_neg h];rfl
theorem plS_pos{q:Int}(hq:0<q){ls:Nat->List Int}{m j:Nat}(hj:j<m): ∀{i:Nat},(∀k,k<i->(ls k).length=m)->0<=(plS q ls m i).getD j 0
 | 0,_=>by rw[plS_0];omega
 | i+1,h=>by rw[plS_suc h hj];exact Int.emod_nonneg _ (by omega)
theorem co_add{p q g h a b c d:Int}(hg:gOk p q)(h1:isB p q g=true)(h2:isB p q h=true)(ha:0<=a)(hb:0<=b)(hc:0<=c)(hd:0<=d):coX p q g h a b*coX p q g h c d%p=coX p q g h ((a+c)%q) ((b+d)%q):=by
 have hq:=hg.q3
 rw[co_mod (by omega),T7 h1 h2,T7 h1 h2,T7 h1 h2,<-Mb.sum hg (Vj h1).2 a c ha hc,<-Mb.sum hg (Vj h2).2 b d hb hd]
 generalize g^(a%q).toNat%p=A
 generalize g^(c%q).toNat%p=B
 generalize h^(b%q).toNat%p=C
 generalize h^(d%q).toNat%p=D
 rw[<-Int.mul_emod,<-Int.mul_emod]
 congr 1
 grind
theorem co_00{p q g h:Int}(hg:gOk p q)(h1:isB p q g=true)(h2:isB p q h=true):coX p q g h 0 0=1:=by
 have:=hg.2
 rw[T7 h1 h2]
 simp[Int.emod_eq_of_lt (show (0:Int)<=1 by omega) (show 1<p by omega)]
theorem gat_co{p q g h:Int}{ds:List (Int×List Int)}{S T:Nat->List Int}{m j:Nat}(hg:gOk p q)(h1:isB p q g=true)(h2:isB p q h=true)(hj:j<m)(hS: ∀i,i<ds.length->(S i).length=m/\ ∀z∈S i,0<=z)(hT: ∀i,i<ds.length->(T i).length=m/\ ∀z∈T i,0<=z)(hd: ∀i,i<ds.length->dN ds i=cmS p q g h (S i) (T i)): ∀i,i<=ds.length->gat (fun a b=>(a*b)%p) (1%p) (aaC ds j i) (aaC ds j i).length=coX p q g h ((plS q S m i).getD j 0) ((plS q T m i).getD j 0)
 | 0,_=>by
  have:=hg.2
  rw[aaC,plS_0,plS_0,co_00 hg h1 h2]
  simp[gat,Int.emod_eq_of_lt (show (0:Int)<=1 by omega) (show 1<p by omega)]
 | i+1,hi=>by
  have hq:=hg.q3
  have hl:j<(dN ds i).length:=by rw[hd i (by omega),Xd,(hS i (by omega)).1];exact hj
  rw[aaC,if_pos hl,gat_app,gat_co hg h1 h2 hj hS hT hd i (by omega),hd i (by omega),cmS,Yt (by rw[(hS i (by omega)).1];exact hj)]
  rw[plS_suc (fun k hk=>(hS k (by omega)).1) hj,plS_suc (fun k hk=>(hT k (by omega)).1) hj]
  exact co_add hg h1 h2 (plS_pos (by omega) hj fun k hk=>(hS k (by omega)).1) (plS_pos (by omega) hj fun k hk=>(hT k (by omega)).1) ((hS i (by omega)).2 _ (memD _ 0 j (by rw[(hS i (by omega)).1];exact hj))) ((hT i (by omega)).2 _ (memD _ 0 j (by rw[(hT i (by omega)).1];exact hj)))
theorem mxC_eq{ds:List (Int×List Int)}{m:Nat}(h: ∀i,i<ds.length->(dN ds i).length=m): ∀i,0<i->i<=ds.length->mxC ds i=m
 | 0,h0,_=>absurd h0 (by omega)
 | 1,_,hi=>by rw[mxC,mxC,h 0 (by omega)];omega
 | i+2,_,hi=>by rw[mxC,mxC_eq h (i+1) (by omega) (by omega),h (i+1) (by omega)];omega
theorem cs_cm{p q g h:Int}{ds:List (Int×List Int)}{S T:Nat->List Int}{m:Nat}(hg:gOk p q)(h1:isB p q g=true)(h2:isB p q h=true)(hn:0<ds.length)(hS: ∀i,i<ds.length->(S i).length=m/\ ∀z∈S i,0<=z)(hT: ∀i,i<ds.length->(T i).length=m/\ ∀z∈T i,0<=z)(hd: ∀i,i<ds.length->dN ds i=cmS p q g h (S i) (T i)):csC p ds ds.length=cmS p q g h (plS q S m ds.length) (plS q T m ds.length):=by
 have hp:=hg.2
 have hm:mxC ds ds.length=m:=mxC_eq (fun i hi=>by rw[hd i hi,Xd,(hS i hi).1]) _ hn (Nat.le_refl _)
 have hl:(plS q S m ds.length).length=m:=Vw fun k hk=>(hS k hk).1
 refine List.ext_getElem (by rw[csC_len,Xd,hm,hl]) fun j hj1 hj2=>?_
 have hj:j<m:=by rw[Xd,hl] at hj2;exact hj2
 have e1:(csC p ds ds.length).getD j 1=(csC p ds ds.length)[j]:=by rw[List.getD_eq_getElem?_getD,List.getElem?_eq_getElem hj1];rfl
 have e2:(cmS p q g h (plS q S m ds.length) (plS q T m ds.length)).getD j 0=(cmS p q g h (plS q S m ds.length) (plS q T m ds.length))[j]:=by rw[List.getD_eq_getElem?_getD,List.getElem?_eq_getElem hj2];rfl
 rw[<-e1,<-e2,csC_get (by omega),gat_co hg h1 h2 hj hS hT hd _ (Nat.le_refl _),cmS,Yt (by rw[hl];exact hj)]
theorem hoN_nul{q x:Int}{m:Nat}: ∀i,hoN q x (List.replicate m 0) i=0
 | 0=>rfl
 | i+1=>by
  rw[hoN,hoN_nul i]
  have:(List.replicate m (0:Int)).getD ((List.replicate m (0:Int)).length -1 -i) 0=0:=by
   rw[List.getD_eq_getElem?_getD,List.getElem?_replicate];split<;>rfl
  rw[this];simp
theorem sm1_ho{q x:Int}(hq:0<q){S:Nat->List Int}{m:Nat}{f:Nat->Int}: ∀{n:Nat},(∀i,i<n->(S i).length=m)->(∀i,i<n->f i=hoN q x (S i) (S i).length)->sm1 q f n=hoN q x (plS q S m n) m
 | 0,_,_=>by rw[sm1,plS,hoN_nul]
 | n+1,h,hf=>by
  have hl:(plS q S m n).length=m:=Vw fun k hk=>h k (by omega)
  have hl2:(plS q S m (n+1)).length=m:=Vw fun k hk=>h k (by omega)
  rw[sm1,sm1_ho hq (fun i hi=>h i (by omega)) (fun i hi=>hf i (by omega)),hf n (by omega)]
  obtain⟨k,rfl⟩: ∃k:Nat,q=(k:Int):=⟨q.toNat,by omega⟩
  haveI:NeZero k:=⟨by omega⟩
  have:=hoN_sAd k (plS k S m n) (S n) x
  rw[hl] at this
  rw[this]
  show hoN k x (plS k S m (n+1)) (plS k S m (n+1)).length=_
  rw[hl2]
theorem ent_E1:EnT 9:=fun _ _=>by kernel_rfl
theorem ent_E3:EnT 10:=fun _ _=>by kernel_rfl
theorem ent_E4:EnT 13:=fun _ _=>by kernel_rfl
theorem s_In{n:Int}(h0:0<=n:=by decide)(h1:n<1000:=by decide):In n:=⟨h0,by omega⟩
theorem two_In{a b:Int}(ha:In a)(hb:In b): ∀z∈[a,b],In z:=fun z hz=>by
 simp at hz;rcases hz with rfl | rfl<;>assumption
abbrev cA:List Int:=cmS P0 Q0 4 H0 [3,2] [0,0]
abbrev cB:List Int:=cmS P0 Q0 4 H0 [4,9] [0,0]
abbrev cD:List Int:=cmS P0 Q0 4 H0 [7,11] [0,0]
theorem cM_In(ss:List Int): ∀z∈cmS P0 Q0 4 H0 ss [0,0],In z:=cm_In W0 is4 isH0
theorem cMade2(dl a b:Int)(vx:Value)(w:World)(hd:ndB dl=true)(hxv:NL w vx [a,b])(ha:In a)(hb:In b):Calls Tryz.prog 6 #[.agg #[vx,.slice none 0 0],iI dl,iI 1,.bool false] w fun r u=> ∃y z1 z2,r= .returned (.tuple #[DX dl y,z1,z2])/\NL u y (cmS P0 Q0 4 H0 [a,b] [0,0])/\NL u z1 [a,b]/\NL u z2 [0,0]/\Bw w u:=by
 have e1:mkS [a,b] 1 false=[a,b]:=rfl
 have e2:mkS [] 1 false=[0,0]:=rfl
 have h:=cMade dl 1 false [a,b] [] vx (.slice none 0 0) w hd (by decide) hxv (NL.nilI w) (two_In ha hb) (fun z hz=>by simp at hz)
 rw[e1,e2] at h
 have h0:dlE P0 Q0 4 H0 dl [a,b] [0,0]=0:=dl_0 hd rfl
 refine h.mono ?_
 rintro r u ⟨y,z1,z2,rfl,⟨h1,h2,h3,_⟩,hB⟩
 rw[dlC,if_pos h0] at h1
 exact⟨y,z1,z2,by rw[dlD,if_pos h0],h1,h2,h3,hB⟩
abbrev dsW:List (Int×List Int):=[(1,cA),(2,cB)]
theorem w_dc(d:Int)(ss:List Int)(hd:ndB d=true)(hs:shB ss.length 2=true):dcE P0 Q0 d (cmS P0 Q0 4 H0 ss [0,0])=0:=deal_ok is4 isH0 hd hs
theorem w_sm:smE P0 Q0 dsW=0:=by
 rw[smE,if_pos Ww,if_pos (by decide),if_pos]
 exact fdE_al.2 fun d hd=>by
  simp at hd
  rcases hd with rfl | rfl
  ·exact w_dc 1 [3,2] (by decide) (by decide)
  ·exact w_dc 2 [4,9] (by decide) (by decide)
theorem w_cs:csC P0 dsW dsW.length=cD:=by
 have h:=cs_cm (ds:=dsW) (S:=fun i=>if i=0 then [3,2] else [4,9]) (T:=fun _=>[0,0]) (m:=2) Ww is4 isH0 (by decide) (fun i hi=>by
  split
  ·exact⟨rfl,by decide⟩
  ·exact⟨rfl,by decide⟩) (fun i hi=>⟨rfl,by decide⟩) (fun i hi=>by
  match i,hi with
  | 0,_=>rfl
  | 1,_=>rfl)
 rw[h]
 have e1:plS Q0 (fun i=>if i=0 then [3,2] else [4,9]) 2 dsW.length=[7,11]:=by decide
 have e2:plS Q0 (fun _=>[0,0]) 2 dsW.length=[0,0]:=by decide
 rw[e1,e2]
def P2c(n:Nat)(cs:List Value)(u:World)(v:Value):Prop:= ∃b,v= .slice (some ⟨b,0,none⟩) n n/\b<u.heap.size/\CV u b cs
theorem P2c.stab{n:Nat}{cs:List Value}{u u2:World}{v:Value}(hB:Bw u u2)(h:P2c n cs u v):P2c n cs u2 v:=by
 obtain⟨b,e,h1,h2⟩:=h
 exact⟨b,e,Nat.lt_of_lt_of_le h1 hB.size,h2.below hB h1⟩
theorem P2c.new{n:Nat}{cs:List Value}{T:TypeId}(u:World):P2c n cs (u.alloc (.cells cs.toArray T)) (.slice (some ⟨u.heap.size,0,none⟩) n n):=⟨_,rfl,by simp,CV.new u _ _⟩
theorem bsD2(d d2:Int)(s s2:Option Addr)(n n2 c c2:Nat)(w:World):(Instr.buildSlice 25 2 ([0,1].zip [DX d (.slice s n c),DX d2 (.slice s2 n2 c2)]).toArray).run Tryz.prog w= .ok (.slice (some ⟨w.heap.size,0,none⟩) 2 2) (w.alloc (.cells (DE d (.slice s n c)++DE d2 (.slice s2 n2 c2):List Value).toArray 29)):=by kernel_rfl
theorem two_DL{u:World}{v y z:Value}{d e:Int}{ns ms:List Int}(h:P2c 2 (DE d y++DE e z) u v)(hy:NL u y ns)(hz:NL u z ms):DL u v [(d,ns),(e,ms)]:=by
 obtain⟨b,rfl,h1,h2⟩:=h
 exact DL.mk (ds:=[(d,ns),(e,ms)]) (zs:=[]) (fun j=>match j with | 0=>y | _=>z) h1 (by rw[List.append_nil];exact h2) (Nat.le_refl _) (fun j hj=>match j,hj with
  | 0,_=>hy
  | 1,_=>hz)
theorem w_sh(nd a b s:Int)(v v2:Value)(w:World)(hn:ndB nd=true)(he:hoN Q0 nd [a,b] 2=s)(he2:hoN Q0 nd [0,0] 2=0)(ha:In a)(hb:In b)(hv:NL w v [a,b])(hv2:NL w v2 [0,0]):CC 7 #[GX P0 Q0 4 H0,iI nd,v,v2] w (.tuple #[SX nd s 0,iI 0]):=by
 have h:=xShareG P0 Q0 4 H0 nd [a,b] [0,0] v v2 w W0 In_Q0' hv hv2 (two_In ha hb) (two_In s_In s_In) (by simp) (by simp) Ww (by rfl) hn
 have e0:shO P0 Q0 nd [a,b] [0,0]=0:=by rw[shO,if_pos Ww,if_pos (by rfl),if_pos hn]
 rw[shV,e0,if_pos rfl] at h
 rw[show ([a,b]:List Int).length=2 from rfl,show ([0,0]:List Int).length=2 from rfl,he,he2] at h
 exact h
theorem w_ve(nd s:Int)(v:Value)(w:World)(hn:ndB nd=true)(he:hoN Q0 nd [7,11] 2=s)(he2:hoN Q0 nd [0,0] 2=0)(hs:In s)(hv:NL w v cD):CC 13 #[GX P0 Q0 4 H0,DX 1 v,SX nd s 0] w (iI 0):=by
 obtain⟨k1,k2,k3⟩:=ver_ok (d:=1) (ss:=[7,11]) (ts:=[0,0]) is4 isH0 (by decide) hn (by decide)
 exact xVerifyG P0 Q0 4 H0 1 nd s 0 cD v w W0 In_Q0' s_In In_H0 hs s_In hv (cM_In _) (by rw[Xd];decide) k1 k2 (by rw[k3,show ([7,11]:List Int).length=2 from rfl,show ([0,0]:List Int).length=2 from rfl,he,he2])
theorem w_js(nd a b s:Int)(v:Value)(w:World)(hG:GP w)(hn:ndB nd=true)(he:(a+b)%Q0=s)(h1:a%Q0=a)(ha:In a)(hb:In b)(hv:ShL w v [(nd,a,0),(nd,b,0)]):CC 10 #[GX P0 Q0 4 H0,v] w (.tuple #[SX nd s 0,iI 0]):=by
 have hr:=ndB_iff.1 hn
 have h:=jShares P0 Q0 4 H0 [(nd,a,0),(nd,b,0)] v w hG W0 In_Q0' hv (by simp) (fun x hx=>by simp at hx;rcases hx with rfl | rfl<;>exact⟨by simp;omega,by simp;omega⟩) (fun x hx=>by simp at hx;rcases hx with rfl | rfl<;>exact⟨by assumption,s_In (n:=0)⟩)
 have e0:seE P0 Q0 [(nd,a,0),(nd,b,0)]=0:=by
  rw[seE,if_pos Ww,if_pos]
  exact⟨by simp,by simp[sameB,ndsB,hn]⟩
 rw[seM,seS,seT,e0,if_pos rfl,if_pos rfl,if_pos rfl] at h
 have e1:sm1 Q0 (shS [(nd,a,0),(nd,b,0)]) 2=s:=by
  show ((0+a)%Q0+b)%Q0=s
  rw[Int.zero_add,h1,he]
 have e2:sm1 Q0 (shT [(nd,a,0),(nd,b,0)]) 2=0:=by rfl
 rw[show ([(nd,a,0),(nd,b,0)]:List (Int×Int×Int)).length=2 from rfl,e1,e2] at h
 exact h
abbrev lsW:List (Int×Int×Int):=[(1,18,0),(2,29,0)]
theorem w_gd:GdV Q0 (lsW.map (·.1)) [Q0 -1,1]:=⟨rfl,fun i hi _=>by
 match i,hi with
 | 0,_=>exact⟨by decide,by decide,by decide+kernel⟩
 | 1,_=>exact⟨by decide,by decide,by decide+kernel⟩⟩
theorem w_op(v:Value)(w:World)(hv:ShL w v lsW):CC 14 #[GX P0 Q0 4 H0,v] w (.tuple #[NV 7,NV 0,iI 0]):=by
 have h:=xOpenK P0 Q0 4 H0 [Q0 -1,1] lsW v w W0 In_Q0' hv (fun x hx=>by simp[lsW] at hx;rcases hx with rfl | rfl<;>exact⟨s_In,s_In⟩) (by decide) Ww w_gd
 have e0:oE P0 Q0 lsW=0:=by
  rw[oE,if_pos Ww]
  decide+kernel
 have ef:faE Q0 (lsW.map (·.1))=0:=by decide+kernel
 have e1:cbX Q0 0 [Q0 -1,1] (opS lsW)=7:=by decide+kernel
 have e2:cbX Q0 0 [Q0 -1,1] (opT lsW)=0:=by decide+kernel
 rw[oX,oX,e0,if_pos rfl,if_pos rfl,e1,e2] at h
 exact h
theorem bsS2(n s t n2 s2 t2:Int)(w:World):(Instr.buildSlice 26 2 ([0,1].zip [SX n s t,SX n2 s2 t2]).toArray).run Tryz.prog w= .ok (.slice (some ⟨w.heap.size,0,none⟩) 2 2) (w.alloc (.cells (SE n s t++SE n2 s2 t2:List Value).toArray 38)):=by kernel_rfl
theorem two_ShL{u:World}{v:Value}{n s t n2 s2 t2:Int}(h:P2c 2 (SE n s t++SE n2 s2 t2) u v):ShL u v [(n,s,t),(n2,s2,t2)]:=by
 obtain⟨b,rfl,h1,h2⟩:=h
 exact sh_row (zs:=[]) h1 (by rw[List.append_nil];exact h2) rfl (Nat.le_refl _)
end Go.Proofs.YtclafkfelkmigaaGreatDoor
