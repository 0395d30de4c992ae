import Derived.Test.YtofcppgfaelloaaGreatDoorMC3
namespace Go.Proofs.YtofcppgfaelloaaGreatDoor
set_option linter.unusedVariables false
set_option linter.unusedSimpArgs false
set_option maxRecDepth 100000
set_option maxHeartbeats 4000000
open Go.RowKit
theorem Tl:EnT 118:=fun _ _=>by kernel_rfl
theorem add8 (p q:Operand) (a b:Nat) (w:World):(do eqGuard .add 5 p q (.int .u8 a) (.int .u8 b);binOp .add 5 (.int .u8 a) (.int .u8 b):Sem Value).run Tryz.prog w= .ok (.int .u8 (((a+b)%256:Nat):Int)) w:=by
 have e:IntKind.u8.wrap ((a:Int)+b)=(((a+b)%256:Nat):Int):=by simp[IntKind.wrap,IntKind.signed,IntKind.bits]
 go_simp
theorem mkE {o:Oper} {ev:Operand->Value} {x y:Operand} {n lo:Nat} (hn:n<=1000000) (u:World) (h:lo<=u.heap.size) (ho:o.op= .makeSlice 43 x y) (hx:ev x=iI 0) (hy:ev y=iI (n:Int)): ∃v u',(execOp ev o).run Tryz.prog u= .ok (.value v) u'/\Bw u u'/\PM lo n u' v:=by
 obtain⟨v,u',hr,h1,h2⟩:=mkRoom (lo:=lo) n hn u h
 refine⟨v,u',?_,h1,h2⟩
 unfold execOp;rw[ho];simp only[hx,hy,Sem.run_bind,hr,Result.andThen_ok,Sem.run_pure]
theorem cExpanded_core (ks tx:List Nat) (tv:Value) (n:Nat) (tS oS:Nat->List Nat) (w:World) (hk64:ks.length=64) (hn:n<=8160) (htv:Hid (IN w w.heap.size tv tx)) (ht0:Hid (tS 0=[])) (htl:Hid (∀k,(tS (k+1)).length=32)) (hol2:Hid (∀k,(oS k).length=32*k)) (hstep:Hid (∀k,32*k<n->oS k++(tS (k+1)).take (min 32 (n -32*k))=(oS (k+1)).take (min (32*(k+1)) n)))
 (hHm:Hid (∀(k:Nat) (u:World) (y:Value),Bw w u->PQ w.heap.size [tS k,tx,[(k+1)%256]] u y->CC 135 #[.agg (U8 (ks)).toArray,y] u (.agg (U8 (tS (k+1))).toArray))):
 Calls Tryz.prog 118 #[.agg (U8 (ks)).toArray,tv,iI (n:Int)] w fun e w'=> ∃v,e= .returned v/\(∃k,n<=32*k/\PS w.heap.size n (U8 ((oS k).take n)) w' v)/\Bw w w':=by
 go_enter Tryz.func118,Tryz.ntmps118
 go_upto_region 1 with fail
 obtain⟨v0,hC,HB0,K0⟩:=bx1 w (U8 (ks)) 150
 rw[hC]
 clear hC
 obtain⟨ti,hti,htm⟩:=Option.map_eq_some_iff.1 Ti
 simp only[Prod.mk.injEq] at htm
 obtain⟨hzv,hsz,hby⟩:=htm
 have hv0s:=HB0.size
 refine Rf K0 HB0 [] [] [(0,11,_)] [] [] [⟨1,12,some 2,PM v0.heap.size n⟩,⟨2,7,none,PM v0.heap.size n⟩] [] (oc g_mv<|oc (g_vE 0 (PM v0.heap.size n) (fun ev u he bZ hs=>mkE (by omega) u hs rfl (he _ _ rfl) (he _ _ rfl)))<|oc (g_sE 0 1 (PM v0.heap.size n)) on) fun u1 v1_1 hv1_1 v1_2 hv1_2 HB1 _ K1=>?_
 simp only[sQ] at K1⊢
 obtain⟨bo,zs,rfl,ho1,ho2,hz0,hoC⟩:=hv1_2 rfl
 have K1xout:=Bk.moreT K0 K1 (by omega) ho1 ho2 hoC (by intro x hx;first | (simp at hx;done) | (simp at hx⊢;omega))
 simp only[aK] at K1xout
 have hbo:w.heap.size+1<=bo:=by have:=K0.lt 0;omega
 go_upto_region 2 with fail
 refine Rn K1xout HB1 [(0,8,_)] (oc g_as on) fun u2 HB2 _ K2=>?_
 simp only[sQ] at K2⊢
 go_upto_region 3 with fail
 refine Rn K2 HB2 [(0,9,_)] (oc g_as on) fun u3 HB3 _ K3=>?_
 simp only[sQ] at K3⊢
 go_wp2_with fail
 go_loopw [9,8,7] (fun s9 s8 s7 wr=> ∃(k m bo cap:Nat) (ol:List Nat) (zs:List Value),k<=255/\s9= .int .u8 (((k+1)%256:Nat):Int)/\s7= .slice (some ⟨bo,0,none⟩) m cap/\(32*k<=n/\m=32*k\/n<=32*k/\m=n)/\w.heap.size+1<=bo/\bo<wr.heap.size/\m<=cap/\zs.length=cap -m/\Hid (CV wr bo (U8 (ol)++zs))/\Hid (ol=(oS k).take m)/\Hid (CV wr w.heap.size (U8 (ks)))/\(k=0/\s8= .slice none 0 0\/0<k/\ ∃bl,s8= .slice (some ⟨bl,0,none⟩) 32 32/\w.heap.size+1<=bl/\bl≠bo/\bl<wr.heap.size/\Hid (CV wr bl (U8 (tS k))))/\Bw w wr) (fun _ _ s7 _=>n -lenV s7)
 case atStart=>exact⟨0,0,bo,n,[],zs,by omega,rfl,rfl,.inl ⟨by omega,rfl⟩,hbo,(K3.lt 1),by omega,by omega,(K3.cv 1),(show []=(oS 0).take 0 from rfl),(K3.cv 0),.inl ⟨rfl,rfl⟩,HB3⟩
 case round=>
  clear hbo hz0
  obtain⟨k,m,bo,cap,ol,zs,hk,rfl,rfl,hm,hbo,hlb,hmc,hzl,Ko,hol,Kk,hlast,HBr⟩:=hrel
  by_cases hj:m<n
  ·have hl1:decide ((m:Int)<n)=true:=by simp;omega
   have hm2:m=32*k:=hm.elim (fun h=>h.2) (fun h=>absurd hj (by rw[h.2];exact Nat.lt_irrefl _))
   have holn:ol.length=m:=by rw[hol.out,List.length_take,hol2.out k];omega
   obtain⟨tn,etn⟩: ∃x,tS (k+1)=x:=⟨_,rfl⟩
   obtain⟨ib,eib⟩: ∃x,(k+1)%256=x:=⟨_,rfl⟩
   obtain⟨j,ej⟩: ∃j,min 32 (n -m)=j:=⟨_,rfl⟩
   have hib:(ib+1)%256=(k+1+1)%256:=by omega
   have htn:=htl.out k
   have hHk:=hHm.out k
   have hst:=hstep.out k (by omega)
   rw[eib] at hHk
   rw[etn] at htn hHk hst
   rw[<-hm2,ej] at hst
   have hj32:j<=32:=by omega
   have hjm:min (32:Int) ((n -m:Nat):Int)=((j:Nat):Int):=by omega
   have hnm:(n:Int) -(m:Int)=((n -m:Nat):Int):=by omega
   have hHk:Hid _:=hHk
   have hst:Hid _:=hst
   have etn:Hid _:=etn
   have hib:Hid _:=hib
   try rw[eib]
   clear eib
   rcases hlast with⟨hk0,rfl⟩ | ⟨hk0,bl,rfl,hbl,hblo,hbll,Kl⟩
   ·skip
    obtain⟨ls,els⟩: ∃x,tS k=x:=⟨_,rfl⟩
    have hls:ls=[]:=by rw[<-els,hk0];exact ht0.out
    subst hls
    rw[els] at hHk
    have hnK:=K3.n
    simp at hnK
    have hoK1:=K3.lo 1
    have K3_1:Bk w.heap.size wr [(false,w.heap.size,U8 (ks)),(true,bo,U8 (ol)++zs)]:=⟨.c (by omega) Kk.out<| .o hlb (by omega) Ko.out<|trivial,by simp;omega⟩
    go_upto_region 4 with fail
    refine Rn K3_1 HBr (cG 0 13 [_,_,_,_] []) (oc g_mv<|oc (g_ln Tryz.underlying43)<|oc g_mv<|oc (g_bn (fun uZ=>Zc _ _ (m:Int) (n:Int) _ uZ hl1)) on) fun u4 HB4 sz4 K4=>?_
    simp only[sQ] at K4⊢
    have hW0:0<u4.heap.size:=by have:=K4.lt 0;omega
    go_upto_region 6 with fail
    refine Rf K4 HB4 [] [(7,10,U8 (z32),some (8,U8 (tn)))] (cG 0 19 [_,_,_,_] [(6,25,_)]) [(8,7)] [] [⟨4,23,some 5,PS w.heap.size 1 (U8 [ib])⟩,⟨5,24,some 6,PQ w.heap.size [[],tx,[ib]]⟩] [] (oc (g_lR 0 0 (cs:=U8 (ks)) (fun j v h=>by rw[Nat.zero_add];exact h) Tryz.underlying150 (by rw[Z2,hk64];exact Z6))<|oc g_mv<|oc g_mv<|oc g_mv<|oc (g_bR 0 (PS w.heap.size 1 (U8 [ib])) [0] [.int .u8 ((ib:Nat):Int)] (U8 [ib]) (bsB1 ib) (fun u hu=>PS.new 1 _ _ u (Nat.le_trans HB4.size hu)))<|oc (g_bY 0 1 (PS w.heap.size 1 (U8 [ib])) (PQ w.heap.size [[],tx,[ib]]) [0,1,2] (fun y=>[.slice none 0 0,tv,y]) (fun w y hy=>bsE3 _ _ y w ⟨_,_,_,rfl⟩ htv.out.sl hy.sl) (fun f u y kZ bZ hs hy=>PQ.three _ bZ.size (IN_nil u (Nat.lt_of_lt_of_le hW0 hs)) ((htv.out.below bZ).mono bZ.size) (PS_in hy)))<|oc (g_c2 1 (PQ w.heap.size [[],tx,[ib]]) V4 (fun uZ y bZ hy=>hHk.out uZ y bZ hy))<|oc (g_al 0 Y9)<|oc (g_sn 0 Z3 (h1:=Yl _) (hm:=by rw[Z2,htn]) (hl:=by first | rw[Z2,Z2,htn,show z32.length=32 from rfl] | rfl)) on) fun u5 b5_7 v5_4 hv5_4 v5_5 hv5_5 HB5 sz5 K5=>?_
    simp only[sQ] at K5⊢
    go_upto_region 7 with fail
    refine Rn K5 HB5 [(0,26,_),(1,8,_)] (oc (g_sl (sl32 b5_7))<|oc g_as on) fun u6 HB6 sz6 K6=>?_
    simp only[sQ] at K6⊢
    have hlt10:=K6.lt 2
    have hlo10:=K6.lo 2
    have hnd:=K6.n
    simp at hnd
    go_upto_region 8 with fail
    refine Rf K6 HB6 [.no,.all 8 ([])] [] (cG 0 27 [_,_,_,_,_,_,_,_] []) [(9,0),(9,3),(9,8)] [(9,7)] [⟨8,35,some 9,PH u6.heap.size bo ti.size (m+j) (U8 (ol)++U8 (tn.take j))⟩,⟨9,7,none,PH u6.heap.size bo ti.size (m+j) (U8 (ol)++U8 (tn.take j))⟩] [true,false] (oc g_mv<|oc g_mv<|oc g_mv<|oc g_mv<|oc (g_ln Tryz.underlying43)<|oc (g_bn (fun uZ=>Yg _ _ (n:Int) (m:Int) ((n -m:Nat):Int) uZ hnm (by omega) (by omega)))<|oc (g_mn hjm)<|oc (g_sl (fun uZ=>slHB (some ⟨b5_7,0,none⟩) 32 32 j hj32 (Nat.le_refl _) (fun e=>by cases e) uZ))<|oc (g_pV 1 0 (U8 (ol)) zs (U8 (tn.take j)) Tryz.underlying43 hti hzv (by rw[hsz];rfl) rfl (fun f u kZ bZ=>NW_of_CV (kZ.cv 2) (by omega)) Va (by rw[Z2,List.length_take,hsz,htn];omega) (by rw[Z2,hsz];omega) (by rw[hsz];omega) hmc (by rw[hby];omega) (by omega))<|oc (g_sE 0 1 (PH u6.heap.size bo ti.size (m+j) (U8 (ol)++U8 (tn.take j)))) on) fun u7 v7_8 hv7_8 v7_9 hv7_9 HB7 sz7 K7=>?_
    simp only[sQ] at K7⊢
    obtain⟨bo2,cap2,zs2,rfl,hb2,hl2,hc2,hz2,Ko2⟩:=hv7_9 rfl
    rw[<-Xr] at Ko2
    rw[hsz] at hz2
    have Ko2:Hid _:=Ko2
    have K7_2:Bk w.heap.size u7 [(false,w.heap.size,U8 (ks)),(false,b5_7,U8 (tn)),(false,bo2,U8 (ol++tn.take j)++zs2)]:=⟨.c (K7.lt 0) (K7.cv 0)<| .c (K7.lt 1) (K7.cv 1)<| .c hl2 Ko2.out<|trivial,by simp;omega⟩
    go_upto_region 5 with fail
    refine Rp K7_2 HB7 [] [] [(0,17,_),(1,18,_),(2,9,_)] [(2,0)] [(2,9)] [] (oc g_mv<|oc (g_bn (add8 _ _ ib 1))<|oc g_as on) fun u8 HB8 sz8 K8=>?_
    simp only[sQ] at K8⊢
    go_wp2
    refine⟨⟨k+1,m+j,bo2,cap2,ol++tn.take j,zs2,by omega,by rw[hib.out],rfl,by omega,by omega,(K8.lt 2),hc2,by omega,(K8.cv 2),?_,(K8.cv 0),.inr ⟨by omega,b5_7,rfl,by omega,by omega,(K8.lt 1),?_⟩,HB8⟩,?_⟩
    ·show Hid _
     have:=hst.out
     rw[hol.out,hm2,List.take_of_length_le (by rw[hol2.out k];omega)]
     rw[show 32*k+j=min (32*(k+1)) n by omega]
     exact this
    ·rw[etn.out];exact(K8.cv 1)
    ·simp[lenV]<;>omega
   ·skip
    have hls:(tS k).length=32:=by obtain⟨k',rfl⟩: ∃k',k=k'+1:=⟨k -1,by omega⟩;exact htl.out k'
    obtain⟨ls,els⟩: ∃x,tS k=x:=⟨_,rfl⟩
    rw[els] at Kl hls hHk
    have hnK:=K3.n
    simp at hnK
    have hoK1:=K3.lo 1
    have K3_1:Bk w.heap.size wr [(false,w.heap.size,U8 (ks)),(true,bo,U8 (ol)++zs),(false,bl,U8 (ls))]:=⟨.c (by omega) Kk.out<| .o hlb (by omega) Ko.out<| .c hbll Kl.out<|trivial,by simp;omega⟩
    go_upto_region 4 with fail
    refine Rn K3_1 HBr (cG 0 13 [_,_,_,_] []) (oc g_mv<|oc (g_ln Tryz.underlying43)<|oc g_mv<|oc (g_bn (fun uZ=>Zc _ _ (m:Int) (n:Int) _ uZ hl1)) on) fun u4 HB4 sz4 K4=>?_
    simp only[sQ] at K4⊢
    have hW0:0<u4.heap.size:=by have:=K4.lt 0;omega
    go_upto_region 6 with fail
    refine Rf K4 HB4 [] [(7,10,U8 (z32),some (8,U8 (tn)))] (cG 0 19 [_,_,_,_] [(6,25,_)]) [(8,7)] [] [⟨4,23,some 5,PS w.heap.size 1 (U8 [ib])⟩,⟨5,24,some 6,PQ w.heap.size [ls,tx,[ib]]⟩] [true,true,false] (oc (g_lR 0 0 (cs:=U8 (ks)) (fun j v h=>by rw[Nat.zero_add];exact h) Tryz.underlying150 (by rw[Z2,hk64];exact Z6))<|oc g_mv<|oc g_mv<|oc g_mv<|oc (g_bR 0 (PS w.heap.size 1 (U8 [ib])) [0] [.int .u8 ((ib:Nat):Int)] (U8 [ib]) (bsB1 ib) (fun u hu=>PS.new 1 _ _ u (Nat.le_trans HB4.size hu)))<|oc (g_bY 0 1 (PS w.heap.size 1 (U8 [ib])) (PQ w.heap.size [ls,tx,[ib]]) [0,1,2] (fun y=>[.slice (some ⟨bl,0,none⟩) 32 32,tv,y]) (fun w y hy=>bsE3 _ _ y w ⟨_,_,_,rfl⟩ htv.out.sl hy.sl) (fun f u y kZ bZ hs hy=>PQ.three _ bZ.size (CV_in hls (kZ.cv 2) (kZ.lb hs 2)) ((htv.out.below bZ).mono bZ.size) (PS_in hy)))<|oc (g_c2 1 (PQ w.heap.size [ls,tx,[ib]]) V4 (fun uZ y bZ hy=>hHk.out uZ y bZ hy))<|oc (g_al 0 Y9)<|oc (g_sn 0 Z3 (h1:=Yl _) (hm:=by rw[Z2,htn]) (hl:=by first | rw[Z2,Z2,htn,show z32.length=32 from rfl] | rfl)) on) fun u5 b5_7 v5_4 hv5_4 v5_5 hv5_5 HB5 sz5 K5=>?_
    simp only[sQ] at K5⊢
    go_upto_region 7 with fail
    refine Rn K5 HB5 [(0,26,_),(1,8,_)] (oc (g_sl (sl32 b5_7))<|oc g_as on) fun u6 HB6 sz6 K6=>?_
    simp only[sQ] at K6⊢
    have hlt10:=K6.lt 2
    have hlo10:=K6.lo 2
    have hnd:=K6.n
    simp at hnd
    go_upto_region 8 with fail
    refine Rf K6 HB6 [.no,.all 8 ([])] [] (cG 0 27 [_,_,_,_,_,_,_,_] []) [(9,0),(9,3),(9,8)] [(9,7)] [⟨8,35,some 9,PH u6.heap.size bo ti.size (m+j) (U8 (ol)++U8 (tn.take j))⟩,⟨9,7,none,PH u6.heap.size bo ti.size (m+j) (U8 (ol)++U8 (tn.take j))⟩] [true,false] (oc g_mv<|oc g_mv<|oc g_mv<|oc g_mv<|oc (g_ln Tryz.underlying43)<|oc (g_bn (fun uZ=>Yg _ _ (n:Int) (m:Int) ((n -m:Nat):Int) uZ hnm (by omega) (by omega)))<|oc (g_mn hjm)<|oc (g_sl (fun uZ=>slHB (some ⟨b5_7,0,none⟩) 32 32 j hj32 (Nat.le_refl _) (fun e=>by cases e) uZ))<|oc (g_pV 1 0 (U8 (ol)) zs (U8 (tn.take j)) Tryz.underlying43 hti hzv (by rw[hsz];rfl) rfl (fun f u kZ bZ=>NW_of_CV (kZ.cv 2) (by omega)) Va (by rw[Z2,List.length_take,hsz,htn];omega) (by rw[Z2,hsz];omega) (by rw[hsz];omega) hmc (by rw[hby];omega) (by omega))<|oc (g_sE 0 1 (PH u6.heap.size bo ti.size (m+j) (U8 (ol)++U8 (tn.take j)))) on) fun u7 v7_8 hv7_8 v7_9 hv7_9 HB7 sz7 K7=>?_
    simp only[sQ] at K7⊢
    obtain⟨bo2,cap2,zs2,rfl,hb2,hl2,hc2,hz2,Ko2⟩:=hv7_9 rfl
    rw[<-Xr] at Ko2
    rw[hsz] at hz2
    have Ko2:Hid _:=Ko2
    have K7_2:Bk w.heap.size u7 [(false,w.heap.size,U8 (ks)),(false,b5_7,U8 (tn)),(false,bo2,U8 (ol++tn.take j)++zs2)]:=⟨.c (K7.lt 0) (K7.cv 0)<| .c (K7.lt 1) (K7.cv 1)<| .c hl2 Ko2.out<|trivial,by simp;omega⟩
    go_upto_region 5 with fail
    refine Rp K7_2 HB7 [] [] [(0,17,_),(1,18,_),(2,9,_)] [(2,0)] [(2,9)] [] (oc g_mv<|oc (g_bn (add8 _ _ ib 1))<|oc g_as on) fun u8 HB8 sz8 K8=>?_
    simp only[sQ] at K8⊢
    go_wp2
    refine⟨⟨k+1,m+j,bo2,cap2,ol++tn.take j,zs2,by omega,by rw[hib.out],rfl,by omega,by omega,(K8.lt 2),hc2,by omega,(K8.cv 2),?_,(K8.cv 0),.inr ⟨by omega,b5_7,rfl,by omega,by omega,(K8.lt 1),?_⟩,HB8⟩,?_⟩
    ·show Hid _
     have:=hst.out
     rw[hol.out,hm2,List.take_of_length_le (by rw[hol2.out k];omega)]
     rw[show 32*k+j=min (32*(k+1)) n by omega]
     exact this
    ·rw[etn.out];exact(K8.cv 1)
    ·simp[lenV]<;>omega
  ·have hl1:decide ((m:Int)<n)=false:=by simp;omega
   have hin:m=n:=by omega
   subst hin
   have hnK:=K3.n
   simp at hnK
   have hoK1:=K3.lo 1
   have K3_1:Bk w.heap.size wr [(false,bo,U8 (ol)++zs)]:=⟨.c hlb Ko.out<|trivial,by simp⟩
   go_upto_region 4 with fail
   refine Rn K3_1 HBr (cG 0 13 [_,_,_,_] []) (oc g_mv<|oc (g_ln Tryz.underlying43)<|oc g_mv<|oc (g_bn (fun uZ=>Zc _ _ (m:Int) (m:Int) _ uZ hl1)) on) fun u4 HB4 sz4 K4=>?_
   simp only[sQ] at K4⊢
   go_upto_region 9 with fail
   refine Rn K4 HB4 [(0,36,_),(1,6,_)] (oc g_mv<|oc g_as on) fun u5 HB5 sz5 K5=>?_
   simp only[sQ] at K5⊢
   go_wp2
   refine bodyPost_ret (v:= .slice (some ⟨bo,0,none⟩) m cap) (by simp[results,Tryz.results118,go_sem]) rfl ⟨_,rfl,⟨k,by omega,bo,cap,rfl,by omega,(K5.lt 0),hmc,?_⟩,HB5⟩
   rw[<-hol.out];exact(K5.cv 0).pre2
end Go.Proofs.YtofcppgfaelloaaGreatDoor
