import Derived.Test.YtbbohmgjphpfeaaGreatDoorAP1
import Derived.Stop.Asserts
namespace Go.Proofs.YtbbohmgjphpfeaaGreatDoor
set_option linter.unusedVariables false
set_option linter.unusedSimpArgs false
set_option maxRecDepth 100000
set_option maxHeartbeats 4000000
section
open Go.RowKit
theorem allX_core(sl:Option Addr)(gb go cap:Nat)(ps:List (Int×Int))(xs:List Int)(w:World)(hxl:Hid (xs.length=ps.length))(hxs:Hid (∀k,k<ps.length->xs.getD k 0=(ps.getD k (0,0)).1))(hix:Hid (∀j,j<ps.length-> ∀W,(Instr.indexAt 73 (.slice sl ps.length cap) (.int .i64 j)).run Tryz.prog W= .ok (.pointer (some ⟨gb,go+8*j,none⟩)) W))(hg:ps.length=0\/gb<w.heap.size)(hS:Hid (SN w gb go (flt ps)))(hns:ps.length<=1000):
 Calls Tryz.prog 78 #[.slice sl ps.length cap] w fun e' w'=> ∃y,e'= .returned y/\PRw w.heap.size xs w' y/\Bw w w':=by
 have hmk:=mkNt ps.length hns
 go_enter Tryz.func78,Tryz.ntmps78
 go_wp2_with fail
 go_loopw [11] (fun s11 wr=> ∃(k:Nat),k<=ps.length/\s11= .int .i64 (k:Int)/\Bw w wr/\CV wr (w.heap.size) (flN (rowN xs k))/\w.heap.size<wr.heap.size) (fun s11 _=>ps.length -(intOf s11).toNat)
 case atStart=>exact⟨0,by omega,rfl,Z1 (Z9 w) _,by rw[rowN_0,hxl.out];exact CV.new w _ _,by simp⟩
 case round=>
  obtain⟨k,hk,rfl,HBr,C0,lC0⟩:=hrel
  by_cases hj:k<ps.length
  ·have hl:decide ((k:Int)<(ps.length:Int))=true:=by simp;omega
   have hkx:k<xs.length:=by rw[hxl.out];exact hj
   have hX:=hix.out _ hj
   have hX:Hid _:=hX
   have hR:=hS.out.pt _ hj
   have hR:Hid _:=hR
   have hv:=hxs.out k hj
   obtain⟨y,ey⟩: ∃y,(ps.getD k (0,0)).2=y:=⟨_,rfl⟩
   obtain⟨x,ex⟩: ∃x,(ps.getD k (0,0)).1=x:=⟨_,rfl⟩
   rw[ey,ex] at hR
   rw[ex] at hv
   clear ey ex
   have hXL:=Uh (vs:=xs) (k:=k) (by omega)
   have hNx:=Wx (vs:=xs) (k:=k) (by omega)
   rw[W9 (vs:=xs) (k:=k) (by omega)] at C0
   obtain⟨X,eX⟩: ∃X,flN (List.take k xs)=X:=⟨_,rfl⟩
   obtain⟨Z,eZ⟩: ∃Z,flN (List.replicate (List.length xs -(k+1)) 0)=Z:=⟨_,rfl⟩
   rw[eX] at hXL hNx C0
   rw[eZ] at hNx C0
   clear eX eZ
   rw[hv] at hNx
   clear hv hkx
   have hXL:Hid _:=hXL
   have hNx:Hid _:=hNx
   have K0_1:Bk w.heap.size wr [(true,w.heap.size,X++LN 0++Z)]:=⟨.o lC0 (by omega) C0<|trivial,by simp⟩
   go_upto_region 3 with fail
   apply Rn K0_1 HBr [(0,12,_)]
   ·exact oc (g_bn (fun uZ=>Zk _ _ (k:Int) (ps.length:Int) _ uZ hl)) on
   intro u1 HB1 sz1 K1
   simp only[sQ] at K1⊢
   go_upto_region 4 with fail
   apply Rp K1 HB1 [] [(3,5,L0p,some (5,PtE x y))] [(0,13,_),(1,14,_),(2,15,_),(4,4,_)] [(5,3)] [] []
   ·exact oc g_mv<|oc (g_ix hX.out)<|oc (g_lf hR.out (hg.resolve_left (by omega)) Tryz.underlying102 V9)<|oc (g_al 0 al_poly_Point)<|oc g_as<|oc (g_sn 0 V9) on
   intro u2 b2_3 HB2 sz2 K2
   simp only[sQ] at K2⊢
   clear K1 HB1
   go_upto_region 5 with fail
   apply Rp K2 HB2 [.all 5 (X++LN x++Z)] [] [(0,16,_),(1,17,_),(2,18,_),(3,19,_),(4,20,_)] [] [] [true,false]
   ·exact oc g_mv<|oc g_mv<|oc (g_fd (fdP0 _ 0))<|oc (g_lo 1 0 uN iN)<|oc (g_ix (ixZ _ _ _ k hj))<|oc (g_sm 0 (4*k) X (LN 0) Z (post:=LN x) (hxc:=hXL.out) iN) on
   intro u3 HB3 sz3 K3
   simp only[sQ] at K3⊢
   clear K2 HB2
   go_upto_region 6 with fail
   apply Rp K3 HB3 [] [] [(0,21,_),(1,11,_)] [(1,0)] [(1,11)] []
   ·exact oc (g_bn (fun uZ=>Yj _ _ (k:Int) 1 ((k+1:Nat):Int) uZ (by omega) (by omega) (by omega)))<|oc g_mv on
   intro u4 HB4 sz4 K4
   simp only[sQ] at K4⊢
   clear K3 HB3
   go_wp2
   refine⟨⟨k+1,by omega,rfl,HB4,by rw[hNx.out];exact(K4.cv 0),(K4.lt 0)⟩,?_⟩
   simp[intOf]<;>omega
  ·have hl:decide ((k:Int)<(ps.length:Int))=false:=by simp;omega
   have hkn:k=ps.length:=by omega
   have K0_1:Bk w.heap.size wr [(true,w.heap.size,flN (rowN xs k))]:=⟨.o lC0 (by omega) C0<|trivial,by simp⟩
   go_upto_region 3 with fail
   apply Rn K0_1 HBr [(0,12,_)]
   ·exact oc (g_bn (fun uZ=>Zk _ _ (k:Int) (ps.length:Int) _ uZ hl)) on
   intro u1 HB1 sz1 K1
   simp only[sQ] at K1⊢
   go_upto_region 7 with fail
   apply Rn K1 HB1 [(0,22,_),(1,2,_)]
   ·exact oc g_mv<|oc g_as on
   intro u2 HB2 sz2 K2
   simp only[sQ] at K2⊢
   clear K1 HB1
   go_wp2
   exact bodyPost_ret (v:= .slice (some ⟨w.heap.size,0,none⟩) ps.length ps.length) (by simp[results,Tryz.results78,go_sem]) rfl ⟨_,rfl,⟨w.heap.size,by rw[hxl.out],Nat.le_refl _,(K2.lt 0),by rw[<-Ui xs,hxl.out,<-hkn];exact(K2.cv 0)⟩,HB2⟩
section
section
variable {R:Rg} {P:Program} {Q:Exit->Act->World->Prop} {ops:Array Oper} {i:Nat} {o:Oper} {a:Act} {u:World}
theorem wp_mS{K:Act->World->Prop}{T:TypeId}{x y:Operand}{vx vy v:Value}{w':World}(ho:o.op= .makeSlice T x y)(hx:a.eval x=vx)(hy:a.eval y=vy)(hr:(Instr.makeSlice T vx vy).run P u= .ok v w')(hk:K (a.put o.dst v) w'):o.wp P a u K Q:=
 Yl (by
  unfold execOp;rw[ho]
  show Sem.run P (do pure (Next.value (<-Instr.makeSlice T (a.eval x) (a.eval y)))) u=_
  rw[hx,hy,Sem.run_bind,hr,Result.andThen_ok,Sem.run_pure]) hk
theorem g_mS(n:Nat)(p:World->Value->Prop)(m:Nat)(cs:List Value){T e:TypeId}{x y:Operand}{vx vy:Value}(hr: ∀w,(Instr.makeSlice T vx vy).run P w= .ok (.slice (some ⟨w.heap.size,0,none⟩) m m) (w.alloc (.cells cs.toArray e)))(hp: ∀u:World,R.base<=u.heap.size->p (u.alloc (.cells cs.toArray e)) (.slice (some ⟨u.heap.size,0,none⟩) m m))(hop:o.op= .makeSlice T x y:=by rfl)(hx:evR R i o x=some vx:=by rfl)(hy:evR R i o y=some vy:=by rfl)(hn:(R.E[n]?).map (·.p)=some p:=by rfl)(hc:R.chkE ops n i o=true:=by rfl):OG R P ops Q i o:=fun f t u a X=>by
 obtain⟨d,q,hd,hq,_,_,_,_,_,_,_,_,hw⟩:=Zr hc
 exact X.go hw fun K hK=>wp_mS hop (X.ev hx) (X.ev hy) (hr u) (hK _ _ (X.putE hc (fun q hq=>by rw[hq] at hn;cases hn;exact hp u X.I.1.sz) (Z1 (Z9 u) _)))
end
def PRz(lo n:Nat)(u:World)(v:Value):Prop:= ∃b,v= .slice (some ⟨b,0,none⟩) n n/\lo<=b/\b<u.heap.size/\CV u b (flN (List.replicate n 0))
theorem PRz.stab{lo n:Nat}{u u2:World}{x:Value}(hB:Bw u u2)(h:PRz lo n u x):PRz lo n u2 x:=by
 obtain⟨b,e,h1,h2,h3⟩:=h
 exact⟨b,e,h1,Nat.lt_of_lt_of_le h2 hB.size,h3.below hB h2⟩
theorem PRz.new{lo n:Nat}{T:TypeId}(u:World)(h:lo<=u.heap.size):PRz lo n (u.alloc (.cells (flN (List.replicate n 0)).toArray T)) (.slice (some ⟨u.heap.size,0,none⟩) n n):=
 ⟨_,rfl,h,by simp,CV.new u _ _⟩
theorem dvd_small{m g:Int}(h:g∣1)(hg:0<=g):g=1:=by
 have h1:=Int.le_of_dvd (by omega) h
 by_cases h0:g=0
 ·subst h0;obtain⟨k,hk⟩:=h;simp at hk
 ·omega
theorem inv_gcd{a m x:Int}(h:IsInv a m x)(ha:0<=a)(hm:0<m):gI m a=1:=by
 have hg0:0<=gI m a:=by unfold gI;omega
 have hdm:gI m a∣m:=by
  have:((Nat.gcd m.toNat a.toNat:Nat):Int)∣(m.toNat:Int):=Int.natCast_dvd_natCast.2 (Nat.gcd_dvd_left _ _)
  rw[Int.toNat_of_nonneg (by omega)] at this;exact this
 have hda:gI m a∣a:=by
  have:((Nat.gcd m.toNat a.toNat:Nat):Int)∣(a.toNat:Int):=Int.natCast_dvd_natCast.2 (Nat.gcd_dvd_right _ _)
  rw[Int.toNat_of_nonneg ha] at this;exact this
 refine dvd_small (m:=m) ?_ hg0
 have h1:gI m a∣x*a -1:=Int.dvd_trans hdm h.2.2
 have h2:gI m a∣x*a:=Int.dvd_mul_of_dvd_right hda
 have:=Int.dvd_sub h2 h1
 rwa [show x*a -(x*a -1)=1 by omega] at this
def Invs(q:Int)(ns vs:List Int):Prop:=vs.length=ns.length/\ ∀i,i<ns.length->IsInv (dsN q ns i ns.length%q) q (vs.getD i 0)
end
def ahN(q t:Int)(ns:List Int):Nat->Int
 | 0=>1
 | i+1=>(ahN q t ns i*((t -ns.getD i 0)%q))%q
def bhN(q t:Int)(ns:List Int):Nat->Int
 | 0=>1
 | i+1=>(bhN q t ns i*((t -ns.getD (ns.length -1 -i) 0)%q))%q
theorem ahN_In{q t:Int}{ns:List Int}(hq:In q)(hq0:q≠0): ∀i,In (ahN q t ns i)
 | 0=>In_1
 | i+1=>Ze hq hq0
theorem bhN_In{q t:Int}{ns:List Int}(hq:In q)(hq0:q≠0): ∀i,In (bhN q t ns i)
 | 0=>In_1
 | i+1=>Ze hq hq0
theorem Tb:EnT 106:=fun _ _=>by kernel_rfl
theorem Wn:EnT 107:=fun _ _=>by kernel_rfl
theorem baseOf_core(q:Int)(sl:Option Addr)(gb go cap:Nat)(ns vs:List Int)(w:World)(hq:In q)(hq0:q≠0)(hvl:Hid (vs.length=ns.length))(hvs:Hid (∀i,i<ns.length->IsInv (dsN q ns i ns.length%q) q (vs.getD i 0)))(hix:Hid (∀j,j<ns.length-> ∀W,(Instr.indexAt 27 (.slice sl ns.length cap) (.int .i64 j)).run Tryz.prog W= .ok (.pointer (some ⟨gb,go+4*j,none⟩)) W))(hg:ns.length=0\/gb<w.heap.size)(hS:Hid (SN w gb go ns))(hn:Hid (∀k,k<ns.length->In (ns.getD k 0)))(hns:ns.length<=1000):
 Calls Tryz.prog 77 #[NV q,.slice sl ns.length cap] w fun e' w'=> ∃vd,e'= .returned (.tuple #[BX q (.slice sl ns.length cap) vd,.nilIface])/\PRw w.heap.size vs w' vd/\Bw w w':=by
 have hmk:=mkNt ns.length hns
 go_enter Tryz.func77,Tryz.ntmps77
 go_wp2_with fail
 go_loopw [16] (fun s16 wr=> ∃(k:Nat),k<=ns.length/\s16= .int .i64 (k:Int)/\Bw w wr/\CV wr (w.heap.size) (LN q)/\w.heap.size<wr.heap.size/\CV wr (w.heap.size+1) (L0b)/\w.heap.size+1<wr.heap.size/\CV wr (w.heap.size+1+1) (flN (rowN vs k))/\w.heap.size+1+1<wr.heap.size) (fun s16 _=>ns.length -(intOf s16).toNat)
 case atStart=>exact⟨0,by omega,rfl,Z1 (Z1 (Z1 (Z9 w) _) _) _,((CV.new w (LN q) 24).below (Z1 (Z9 (w.alloc (.cells (LN q:List Value).toArray 24))) _) (by simp)).below (Z1 (Z9 ((w.alloc (.cells (LN q:List Value).toArray 24)).alloc (.cells (L0b:List Value).toArray 105))) _) (by simp<;>omega),by (simp<;>omega),(CV.newAt (w.alloc (.cells (LN q:List Value).toArray 24)) L0b 105 _ (by simp)).below (Z1 (Z9 ((w.alloc (.cells (LN q:List Value).toArray 24)).alloc (.cells (L0b:List Value).toArray 105))) _) (by simp<;>omega),by (simp<;>omega),by rw[rowN_0,hvl.out];exact CV.newAt ((w.alloc (.cells (LN q:List Value).toArray 24)).alloc (.cells (L0b:List Value).toArray 105)) _ _ _ (by simp),by (simp<;>omega)⟩
 case round=>
  obtain⟨k,hk,rfl,HBr,C0,lC0,C1,lC1,C2,lC2⟩:=hrel
  by_cases hj:k<ns.length
  ·have hl:decide ((k:Int)<(ns.length:Int))=true:=by simp;omega
   have hkx:k<vs.length:=by rw[hvl.out];exact hj
   have hX:=hix.out _ hj
   have hX:Hid _:=hX
   have hR:=hS.out.at _ hj
   have hR:Hid _:=hR
   have iz:In (dsN q ns k ns.length):=dsN_In hq hq0 _
   have hv:=hvs.out k hj
   have hgz:=inv_gcd hv (Int.emod_nonneg _ hq0) (by have:=hq.1;omega)
   have hD:Hid (∀u,Bw w u->CC 106 #[NV q,.int .i64 (k:Int),.slice sl ns.length cap] u (NV (dsN q ns k ns.length))):=fun u bZ=>pDistance_core q k sl gb go cap ns u hq hq0 hj hix (hg.imp id (fun h=>Nat.lt_of_lt_of_le h bZ.size)) (hS.out.below2 bZ hg) hn hns
   obtain⟨x,ex⟩: ∃x,ns.getD k 0=x:=⟨_,rfl⟩
   rw[ex] at hR
   clear ex
   obtain⟨z,ez⟩: ∃z,dsN q ns k ns.length=z:=⟨_,rfl⟩
   rw[ez] at iz hv hgz hD
   clear ez
   have hXL:=Uh (vs:=vs) (k:=k) (by omega)
   have hNx:=Wx (vs:=vs) (k:=k) (by omega)
   rw[W9 (vs:=vs) (k:=k) (by omega)] at C2
   obtain⟨X,eX⟩: ∃X,flN (List.take k vs)=X:=⟨_,rfl⟩
   obtain⟨Z,eZ⟩: ∃Z,flN (List.replicate (List.length vs -(k+1)) 0)=Z:=⟨_,rfl⟩
   rw[eX] at hXL hNx C2
   rw[eZ] at hNx C2
   clear eX eZ
   obtain⟨y,ey⟩: ∃y,vs.getD k 0=y:=⟨_,rfl⟩
   rw[ey] at hv hNx
   clear ey hkx
   have hXL:Hid _:=hXL
   have hNx:Hid _:=hNx
   have K0_1:Bk w.heap.size wr [(false,w.heap.size,LN q),(true,w.heap.size+1,L0b),(true,w.heap.size+1+1,X++LN 0++Z)]:=⟨.c lC0 C0<| .o lC1 (by omega) C1<| .o lC2 (by omega) C2<|trivial,by simp<;>omega⟩
   go_upto_region 3 with fail
   apply Rn K0_1 HBr [(0,17,_)]
   ·exact oc (g_bn (fun uZ=>Zk _ _ (k:Int) (ns.length:Int) _ uZ hl)) on
   intro u1 HB1 sz1 K1
   simp only[sQ] at K1⊢
   go_upto_region 4 with fail
   apply Rp K1 HB1 [] [(3,8,L0s,some (5,LN x))] [(0,18,_),(1,19,_),(2,20,_),(4,7,_)] [(5,3)] [] [true,true,true,false]
   ·exact oc g_mv<|oc (g_ix hX.out)<|oc (g_lf hR.out (hg.resolve_left (by omega)) uN iN)<|oc (g_al 0 aN)<|oc g_as<|oc (g_sn 0 iN) on
   intro u2 b2_3 HB2 sz2 K2
   simp only[sQ] at K2⊢
   clear K1 HB1
   go_upto_region 5 with fail
   apply Rd K2 HB2 [] [(9,9,L0s,some (10,LN y))] [(0,22,_),(1,23,_),(2,24,_),(3,25,_),(4,26,_),(5,27,_),(6,21,_),(7,28,_),(8,29,_),(11,10,_)] [(10,9)] [] []
   ·exact oc (g_ld 0 uN iN)<|oc g_mv<|oc g_mv<|oc (g_cb Tb hD.out)<|oc (g_ld 0 uN iN)<|oc (g_cl Vc (fun uZ=>mInverse z q y uZ iz hq hq0 hgz hv))<|oc g_mv<|oc g_ex<|oc g_ex<|oc (g_al 0 aN)<|oc (g_sn 0 iN)<|oc g_as on
   intro u3 b3_9 HB3 sz3 K3
   simp only[sQ] at K3⊢
   clear K2 HB2
   go_upto_region 6 with fail
   apply Rn K3 HB3 [(0,30,_),(1,31,_)]
   ·exact oc g_mv<|oc (g_bn (fun uZ=>Zy _ _ _ 0 0 _ uZ rfl)) on
   intro u4 HB4 sz4 K4
   simp only[sQ] at K4⊢
   clear K3 HB3
   go_upto_region 8 with fail
   apply Rp K4 HB4 [.no,.no,.all 4 (X++LN y++Z)] [] [(0,41,_),(1,42,_),(2,43,_),(3,44,_)] [] [] [true,true,true,false]
   ·exact oc g_mv<|oc g_mv<|oc (g_ld 3 uN iN)<|oc (g_ix (ixZ _ _ _ k hj))<|oc (g_sm 2 (4*k) X (LN 0) Z (post:=LN y) (hxc:=hXL.out) iN) on
   intro u5 HB5 sz5 K5
   simp only[sQ] at K5⊢
   clear K4 HB4
   go_upto_region 9 with fail
   apply Rp K5 HB5 [] [] [(0,45,_),(1,16,_)] [(1,0)] [(1,16)] []
   ·exact oc (g_bn (fun uZ=>Yj _ _ (k:Int) 1 ((k+1:Nat):Int) uZ (by omega) (by omega) (by omega)))<|oc g_mv on
   intro u6 HB6 sz6 K6
   simp only[sQ] at K6⊢
   clear K5 HB5
   go_wp2
   refine⟨⟨k+1,by omega,rfl,HB6,(K6.cv 0),(K6.lt 0),(K6.cv 1),(K6.lt 1),by rw[hNx.out];exact(K6.cv 2),(K6.lt 2)⟩,?_⟩
   simp[intOf]<;>omega
  ·have hl:decide ((k:Int)<(ns.length:Int))=false:=by simp;omega
   have hkn:k=ns.length:=by omega
   have K0_1:Bk w.heap.size wr [(false,w.heap.size,LN q),(true,w.heap.size+1,L0b),(true,w.heap.size+1+1,flN (rowN vs k))]:=⟨.c lC0 C0<| .o lC1 (by omega) C1<| .o lC2 (by omega) C2<|trivial,by simp<;>omega⟩
   go_upto_region 3 with fail
   apply Rn K0_1 HBr [(0,17,_)]
   ·exact oc (g_bn (fun uZ=>Zk _ _ (k:Int) (ns.length:Int) _ uZ hl)) on
   intro u1 HB1 sz1 K1
   simp only[sQ] at K1⊢
   go_upto_region 10 with fail
   apply Rp K1 HB1 [.no,.all 4 (BE q (.slice sl ns.length cap) (.slice (some ⟨w.heap.size+1+1,0,none⟩) ns.length ns.length))] [] [(0,46,_),(1,47,_),(2,48,_),(3,49,_),(5,5,_)] [] [] []
   ·exact oc (g_ld 0 uN iN)<|oc g_mv<|oc g_mv<|oc (g_bd (bdB q _ _ _ _ _ _))<|oc (g_st 1 Vs)<|oc g_as on
   intro u2 HB2 sz2 K2
   simp only[sQ] at K2⊢
   clear K1 HB1
   have c0:=((K2.cv 1) 0 _ rfl).1
   have c1:=((K2.cv 1) 1 _ rfl).1
   have c2:=((K2.cv 1) 2 _ rfl).1
   have c3:=((K2.cv 1) 3 _ rfl).1
   have c4:=((K2.cv 1) 4 _ rfl).1
   have c5:=((K2.cv 1) 5 _ rfl).1
   go_wp2
   exact bodyPost_ret (v:= .tuple #[BX q (.slice sl ns.length cap) (.slice (some ⟨w.heap.size+1+1,0,none⟩) ns.length ns.length),.nilIface]) (by simp[results,Tryz.results77,go_sem,c0,c1,c2,c3,c4,c5]) rfl ⟨_,rfl,⟨w.heap.size+1+1,by rw[hvl.out],by omega,(K2.lt 2),by rw[<-Ui vs,hvl.out,<-hkn];exact(K2.cv 2)⟩,HB2⟩
def rowM(f g:List Int)(k:Nat):List Int:=f.take (f.length -k)++g.drop (f.length -k)
theorem rowM_0{f g:List Int}(h:g.length=f.length):rowM f g 0=f:=by simp[rowM,h]
theorem rowM_end{f g:List Int}(h:g.length=f.length):rowM f g f.length=g:=by simp[rowM]
theorem rowM_split{f g:List Int}{k i:Nat}(h:g.length=f.length)(hk:k<f.length)(hi:f.length -1 -k=i):flN (rowM f g k)=flN (f.take i)++LN (f.getD i 0)++flN (g.drop (i+1)):=by
 have e:f.length -k=i+1:=by omega
 rw[rowM,e,Va,List.take_add_one,List.getElem?_eq_getElem (show i<f.length by omega),Va]
 simp[flN,List.getElem?_eq_getElem (show i<f.length by omega)]
theorem rowM_next{f g:List Int}{k i:Nat}(h:g.length=f.length)(hk:k<f.length)(hi:f.length -1 -k=i):flN (rowM f g (k+1))=flN (f.take i)++LN (g.getD i 0)++flN (g.drop (i+1)):=by
 have e:f.length -(k+1)=i:=by omega
 have hig:i<g.length:=by omega
 rw[rowM,e,Va,List.drop_eq_getElem_cons hig,flN]
 simp[List.getElem?_eq_getElem hig]
theorem factors_core(q t:Int)(sx sd:Option Addr)(gx ox cx gd od cd:Nat)(ns vs f1 f2:List Int)(w:World)(hq:In q)(hq0:q≠0)(ht:In t)(hix:Hid (∀j,j<ns.length-> ∀W,(Instr.indexAt 27 (.slice sx ns.length cx) (.int .i64 j)).run Tryz.prog W= .ok (.pointer (some ⟨gx,ox+4*j,none⟩)) W))(hg:ns.length=0\/gx<w.heap.size)(hS:Hid (SN w gx ox ns))(hn:Hid (∀k,k<ns.length->In (ns.getD k 0)))(hns:ns.length<=1000)(hixd:Hid (∀j,j<ns.length-> ∀W,(Instr.indexAt 27 (.slice sd ns.length cd) (.int .i64 j)).run Tryz.prog W= .ok (.pointer (some ⟨gd,od+4*j,none⟩)) W))(hgd:ns.length=0\/gd<w.heap.size)(hSd:Hid (SN w gd od vs))(hnd:Hid (∀k,k<ns.length->In (vs.getD k 0)))(hvl:Hid (vs.length=ns.length))(hf1l:Hid (f1.length=ns.length))(hf2l:Hid (f2.length=f1.length))(hf1:Hid (∀i,i<ns.length->f1.getD i 0=vs.getD i 0*ahN q t ns i%q))(hf2:Hid (∀i,i<ns.length->f2.getD i 0=f1.getD i 0*bhN q t ns (ns.length -1 -i)%q)):
 Calls Tryz.prog 107 #[BX q (.slice sx ns.length cx) (.slice sd ns.length cd),NV t] w fun e' w'=> ∃y,e'= .returned y/\PRw w.heap.size f2 w' y/\Bw w w':=by
 go_enter Tryz.func107,Tryz.ntmps107
 go_upto_region 1 with fail
 obtain⟨v0,hC,HB0,K0⟩:=bx2 w (BE q (.slice sx ns.length cx) (.slice sd ns.length cd)) 105 (LN t) 24
 rw[hC]
 clear hC
 have hv0:w.heap.size<=v0.heap.size:=HB0.size
 apply Rf K0 HB0 [] [] [(0,12,_),(1,13,_),(2,14,_)] [] [] [⟨3,15,some 4,PRz v0.heap.size ns.length⟩,⟨4,5,none,PRz v0.heap.size ns.length⟩] []
 ·exact oc (g_fd (fdB1 _))<|oc (g_lc 0 4 lSN)<|oc (g_ln Tryz.underlying27)<|oc (g_mS 0 (PRz v0.heap.size ns.length) ns.length (flN (List.replicate ns.length 0)) (mkNt _ hns) (fun u h=>PRz.new u h))<|oc (g_sE 0 1 (PRz v0.heap.size ns.length)) on
 intro u1 v1_3 hv1_3 v1_4 hv1_4 HB1 sz1 K1
 simp only[sQ] at K1⊢
 clear HB0
 obtain⟨bo,rfl,o1,o2,o3⟩:=hv1_4 rfl
 have K1xo:=Bk.more3 K0 K1 o1 o2 o3 (by intro x hx;first | (simp at hx;done) | (simp at hx⊢;omega))
 simp only[aK] at K1xo
 clear K1
 have hbo:w.heap.size<=bo:=Nat.le_trans hv0 o1
 go_upto_region 2 with fail
 apply Rp K1xo HB1 [] [(2,6,L0s,some (4,LN 1)),(3,7,L0s,some (5,LN 1))] [(0,16,_),(1,17,_)] [(4,2),(5,3)] [] []
 ·exact oc (g_cl Z5 (fun uZ=>nOf 1 uZ (by omega) (by omega)))<|oc (g_cl Z5 (fun uZ=>nOf 1 uZ (by omega) (by omega)))<|oc (g_al 0 aN)<|oc (g_al 1 aN)<|oc (g_sn 0 iN)<|oc (g_sn 1 iN) on
 intro u2 b2_2 b2_3 HB2 sz2 K2
 simp only[sQ] at K2⊢
 clear HB1
 go_upto_region 3 with fail
 apply Rn K2 HB2 [(0,18,_),(1,19,_),(2,20,_),(3,21,_)]
 ·exact oc (g_fd (fdB1 _))<|oc (g_lc 0 4 lSN)<|oc (g_ln Tryz.underlying27)<|oc g_mv on
 intro u3 HB3 sz3 K3
 simp only[sQ] at K3⊢
 clear K2 HB2
 go_wp2_with fail
 go_loopw [21] (fun s21 wr=> ∃(k:Nat),k<=ns.length/\s21= .int .i64 (k:Int)/\Bw w wr/\CV wr (w.heap.size) (BE q (.slice sx ns.length cx) (.slice sd ns.length cd))/\w.heap.size<wr.heap.size/\CV wr (w.heap.size+1) (LN t)/\w.heap.size+1<wr.heap.size/\CV wr bo (flN (rowN f1 k))/\bo<wr.heap.size/\CV wr b2_2 (LN (ahN q t ns k))/\b2_2<wr.heap.size/\CV wr b2_3 (LN 1)/\b2_3<wr.heap.size) (fun s21 _=>ns.length -(intOf s21).toNat)
 case atStart=>exact⟨0,by omega,rfl,HB3,(K3.cv 0),(K3.lt 0),(K3.cv 1),(K3.lt 1),by rw[rowN_0,hf1l.out];exact(K3.cv 2),(K3.lt 2),(K3.cv 3),(K3.lt 3),(K3.cv 4),(K3.lt 4)⟩
 case round=>
  obtain⟨k,hk,rfl,HBr,C0,lC0,C1,lC1,C2,lC2,C3,lC3,C4,lC4⟩:=hrel
  clear HB3
  have hnK:=K3.n
  simp at hnK
  have hoK3:=K3.lo 3
  have hoK4:=K3.lo 4
  by_cases hj:k<ns.length
  ·have hl:decide ((k:Int)<(ns.length:Int))=true:=by simp;omega
   have hkx:k<f1.length:=by rw[hf1l.out];exact hj
   have hX:=hix.out _ hj
   have hX:Hid _:=hX
   have hR:=hS.out.at _ hj
   have hR:Hid _:=hR
   have hXd:=hixd.out _ hj
   have hXd:Hid _:=hXd
   have hRd:=hSd.out.at k (by rw[hvl.out];exact hj)
   have hRd:Hid _:=hRd
   have ix:=hn.out k hj
   have iv:=hnd.out k hj
   have ia:=ahN_In (t:=t) (ns:=ns) hq hq0 k
   have hv:=hf1.out k hj
   have hA:Hid (ahN q t ns (k+1)=(ahN q t ns k*((t -ns.getD k 0)%q))%q):=rfl
   obtain⟨x,ex⟩: ∃x,ns.getD k 0=x:=⟨_,rfl⟩
   rw[ex] at hR ix hA
   clear ex
   obtain⟨v,ev⟩: ∃v,vs.getD k 0=v:=⟨_,rfl⟩
   rw[ev] at hRd iv hv
   clear ev
   obtain⟨a,ea⟩: ∃a,ahN q t ns k=a:=⟨_,rfl⟩
   rw[ea] at ia hv hA C3
   clear ea
   have hXL:=Uh (vs:=f1) (k:=k) (by omega)
   have hNx:=Wx (vs:=f1) (k:=k) (by omega)
   rw[W9 (vs:=f1) (k:=k) (by omega)] at C2
   obtain⟨X,eX⟩: ∃X,flN (List.take k f1)=X:=⟨_,rfl⟩
   obtain⟨Z,eZ⟩: ∃Z,flN (List.replicate (List.length f1 -(k+1)) 0)=Z:=⟨_,rfl⟩
   rw[eX] at hXL hNx C2
   rw[eZ] at hNx C2
   clear eX eZ
   rw[hv] at hNx
   clear hv hkx
   have hXL:Hid _:=hXL
   have hNx:Hid _:=hNx
   have K3_1:Bk w.heap.size wr [(false,w.heap.size,BE q (.slice sx ns.length cx) (.slice sd ns.length cd)),(false,w.heap.size+1,LN t),(true,bo,X++LN 0++Z),(true,b2_2,LN a),(true,b2_3,LN 1)]:=⟨.c lC0 C0<| .c lC1 C1<| .o lC2 (by omega) C2<| .o lC3 (K3.lo 3) C3<| .o lC4 (K3.lo 4) C4<|trivial,by simp<;>omega⟩
   go_upto_region 4 with fail
   apply Rn K3_1 HBr [(0,22,_)]
   ·exact oc (g_bn (fun uZ=>Zk _ _ (k:Int) (ns.length:Int) _ uZ hl)) on
   intro u4 HB4 sz4 K4
   simp only[sQ] at K4⊢
   go_upto_region 5 with fail
   apply Rp K4 HB4 [] [(3,9,L0s,some (5,LN x))] [(0,23,_),(1,24,_),(2,25,_),(4,8,_)] [(5,3)] [] []
   ·exact oc g_mv<|oc (g_ix hX.out)<|oc (g_lf hR.out (hg.resolve_left (by omega)) uN iN)<|oc (g_al 0 aN)<|oc g_as<|oc (g_sn 0 iN) on
   intro u5 b5_3 HB5 sz5 K5
   simp only[sQ] at K5⊢
   clear K4 HB4
   go_upto_region 6 with fail
   apply Rd K5 HB5 [.no,.no,.all 12 (X++LN (v*a%q)++Z)] [] [(0,26,_),(1,27,_),(2,28,_),(3,29,_),(4,30,_),(5,31,_),(6,32,_),(7,33,_),(8,34,_),(9,35,_),(10,36,_),(11,37,_)] [] [] []
   ·exact oc g_mv<|oc g_mv<|oc (g_fd (fdB0 _))<|oc (g_lo 0 0 uN iN)<|oc (g_fd (fdB2 _))<|oc (g_lc 0 5 lSN)<|oc g_mv<|oc (g_ix hXd.out)<|oc (g_lf hRd.out (hgd.resolve_left (by omega)) uN iN)<|oc (g_ld 3 uN iN)<|oc (g_cl Yh (fun uZ=>pTimes q v a uZ iv ia hq hq0))<|oc (g_ix (ixZ _ _ _ k hj))<|oc (g_sm 2 (4*k) X (LN 0) Z (post:=LN (v*a%q)) (hxc:=hXL.out) iN) on
   intro u6 HB6 sz6 K6
   simp only[sQ] at K6⊢
   clear K5 HB5
   go_upto_region 7 with fail
   apply Rd K6 HB6 [.no,.no,.no,.all 9 (LN (a*((t -x)%q)%q))] [] [(0,38,_),(1,39,_),(2,40,_),(3,41,_),(4,42,_),(5,43,_),(6,44,_),(7,45,_),(8,46,_)] [(9,2)] [] [true,true,true,true,true,false]
   ·exact oc (g_fd (fdB0 _))<|oc (g_lo 0 0 uN iN)<|oc (g_ld 3 uN iN)<|oc (g_fd (fdB0 _))<|oc (g_lo 0 0 uN iN)<|oc (g_ld 1 uN iN)<|oc (g_ld 5 uN iN)<|oc (g_cl W6 (fun uZ=>pMinus q t x uZ ht ix hq hq0))<|oc (g_cl Yh (fun uZ=>pTimes q a ((t -x)%q) uZ ia (Ze hq hq0) hq hq0))<|oc (g_st 3 iN) on
   intro u7 HB7 sz7 K7
   simp only[sQ] at K7⊢
   clear K6 HB6
   go_upto_region 8 with fail
   apply Rp K7 HB7 [] [] [(0,47,_),(1,21,_)] [(1,0)] [(1,21)] []
   ·exact oc (g_bn (fun uZ=>Yj _ _ (k:Int) 1 ((k+1:Nat):Int) uZ (by omega) (by omega) (by omega)))<|oc g_mv on
   intro u8 HB8 sz8 K8
   simp only[sQ] at K8⊢
   clear K7 HB7
   go_wp2
   refine⟨⟨k+1,by omega,rfl,HB8,(K8.cv 0),(K8.lt 0),(K8.cv 1),(K8.lt 1),by rw[hNx.out];exact(K8.cv 2),(K8.lt 2),by rw[hA.out];exact(K8.cv 3),(K8.lt 3),(K8.cv 4),(K8.lt 4)⟩,?_⟩
   simp[intOf]<;>omega
  ·have hl:decide ((k:Int)<(ns.length:Int))=false:=by simp;omega
   have hkn:k=f1.length:=by rw[hf1l.out];omega
   rw[hkn,Ui] at C2
   clear hkn
   have K3_1:Bk w.heap.size wr [(false,w.heap.size,BE q (.slice sx ns.length cx) (.slice sd ns.length cd)),(false,w.heap.size+1,LN t),(true,bo,flN f1),(true,b2_2,LN (ahN q t ns k)),(true,b2_3,LN 1)]:=⟨.c lC0 C0<| .c lC1 C1<| .o lC2 (by omega) C2<| .o lC3 (K3.lo 3) C3<| .o lC4 (K3.lo 4) C4<|trivial,by simp<;>omega⟩
   go_upto_region 4 with fail
   apply Rn K3_1 HBr [(0,22,_)]
   ·exact oc (g_bn (fun uZ=>Zk _ _ (k:Int) (ns.length:Int) _ uZ hl)) on
   intro u4 HB4 sz4 K4
   simp only[sQ] at K4⊢
   go_upto_region 9 with fail
   apply Rn K4 HB4 [(0,48,_),(1,49,_),(2,50,_),(3,51,_)]
   ·exact oc (g_fd (fdB1 _))<|oc (g_lc 0 4 lSN)<|oc (g_ln Tryz.underlying27)<|oc g_mv on
   intro u5 HB5 sz5 K5
   simp only[sQ] at K5⊢
   clear K4 HB4
   clear hk
   go_wp2_with fail
   go_loopw [51] (fun s51 wr=> ∃(m:Nat),m<=ns.length/\s51= .int .i64 (m:Int)/\Bw w wr/\CV wr (w.heap.size) (BE q (.slice sx ns.length cx) (.slice sd ns.length cd))/\w.heap.size<wr.heap.size/\CV wr (w.heap.size+1) (LN t)/\w.heap.size+1<wr.heap.size/\CV wr bo (flN (rowM f1 f2 m))/\bo<wr.heap.size/\CV wr b2_3 (LN (bhN q t ns m))/\b2_3<wr.heap.size) (fun s51 _=>ns.length -(intOf s51).toNat)
   case atStart=>exact⟨0,by omega,rfl,HB5,(K5.cv 0),(K5.lt 0),(K5.cv 1),(K5.lt 1),by rw[rowM_0 hf2l.out];exact(K5.cv 2),(K5.lt 2),(K5.cv 4),(K5.lt 4)⟩
   case round=>
    obtain⟨m,hm,rfl,HBs,D0,lD0,D1,lD1,D2,lD2,D3,lD3⟩:=hrel
    clear HB5
    have hnK:=K5.n
    simp at hnK
    have hoK2:=K5.lo 2
    have hoK3:=K5.lo 3
    have hoK4:=K5.lo 4
    by_cases hj:m<ns.length
    ·have hl2:decide ((m:Int)<(ns.length:Int))=true:=by simp;omega
     obtain⟨i,ei⟩: ∃i,ns.length -1 -m=i:=⟨_,rfl⟩
     have hji:i<ns.length:=by omega
     have hi2:f1.length -1 -m=i:=by rw[hf1l.out];exact ei
     have hX:=hix.out _ hji
     have hX:Hid _:=hX
     have hR:=hS.out.at _ hji
     have hR:Hid _:=hR
     have ix:=hn.out i hji
     have ib:=bhN_In (t:=t) (ns:=ns) hq hq0 m
     have hv:=hf2.out i hji
     have hy:In (f1.getD i 0):=by rw[hf1.out i hji];exact Ze hq hq0
     have hA:Hid (bhN q t ns (m+1)=(bhN q t ns m*((t -ns.getD i 0)%q))%q):=by rw[<-ei];rfl
     rw[show ns.length -1 -i=m by omega] at hv
     have hXL:(flN (f1.take i)).length=4*i:=by rw[flN_len,List.length_take,hf1l.out];omega
     have hNx:=rowM_next (f:=f1) (g:=f2) hf2l.out (by rw[hf1l.out];exact hj) hi2
     rw[rowM_split hf2l.out (by rw[hf1l.out];exact hj) hi2] at D2
     have hjm:(ns.length:Int) -1 -m=(i:Int):=by omega
     clear hi2 ei
     obtain⟨X,eX⟩: ∃X,flN (f1.take i)=X:=⟨_,rfl⟩
     obtain⟨Z,eZ⟩: ∃Z,flN (f2.drop (i+1))=Z:=⟨_,rfl⟩
     rw[eX] at hXL hNx D2
     rw[eZ] at hNx D2
     rw[hv] at hNx
     clear eX eZ hv
     obtain⟨x,ex⟩: ∃x,ns.getD i 0=x:=⟨_,rfl⟩
     rw[ex] at hR ix hA
     clear ex
     obtain⟨y,ey⟩: ∃y,f1.getD i 0=y:=⟨_,rfl⟩
     rw[ey] at hNx hy D2
     clear ey
     obtain⟨b,eb⟩: ∃b,bhN q t ns m=b:=⟨_,rfl⟩
     rw[eb] at ib hA hNx D3
     clear eb
     have hXL:Hid _:=hXL
     have hNx:Hid _:=hNx
     have hjm:Hid _:=hjm
     have K5_2:Bk w.heap.size wr [(false,w.heap.size,BE q (.slice sx ns.length cx) (.slice sd ns.length cd)),(false,w.heap.size+1,LN t),(true,bo,X++LN y++Z),(true,b2_3,LN b)]:=⟨.c lD0 D0<| .c lD1 D1<| .o lD2 (K5.lo 2) D2<| .o lD3 (K5.lo 4) D3<|trivial,by simp<;>omega⟩
     go_upto_region 10 with fail
     apply Rn K5_2 HBs [(0,52,_)]
     ·exact oc (g_bn (fun uZ=>Zk _ _ (m:Int) (ns.length:Int) _ uZ hl2)) on
     intro u6 HB6 sz6 K6
     simp only[sQ] at K6⊢
     go_upto_region 11 with fail
     apply Rn K6 HB6 [(0,53,_),(1,10,_)]
     ·exact oc g_mv<|oc g_as on
     intro u7 HB7 sz7 K7
     simp only[sQ] at K7⊢
     clear K6 HB6
     go_upto_region 12 with fail
     apply Rn K7 HB7 [(0,54,_),(1,55,_),(2,56,_),(3,57,_),(4,58,_),(5,59,_),(6,11,_)]
     ·exact oc (g_fd (fdB1 _))<|oc (g_lc 0 4 lSN)<|oc (g_ln Tryz.underlying27)<|oc (g_bn (fun uZ=>Xt _ _ (ns.length:Int) 1 _ uZ rfl (by omega) (by omega)))<|oc g_mv<|oc (g_bn (fun uZ=>Xt _ _ ((ns.length:Int) -1) (m:Int) _ uZ hjm.out (by omega) (by omega)))<|oc g_as on
     intro u8 HB8 sz8 K8
     simp only[sQ] at K8⊢
     clear K7 HB7
     go_upto_region 13 with fail
     apply Rd K8 HB8 [.no,.no,.all 11 (X++LN (y*b%q)++Z)] [] [(0,60,_),(1,61,_),(2,62,_),(3,63,_),(4,64,_),(5,65,_),(6,66,_),(7,67,_),(8,68,_),(9,69,_),(10,70,_)] [(11,7)] [] []
     ·exact oc g_mv<|oc g_mv<|oc (g_fd (fdB0 _))<|oc (g_lo 0 0 uN iN)<|oc g_mv<|oc g_mv<|oc (g_ix (ixZ _ _ _ i hji))<|oc (g_lR 2 (4*i) (cs:=LN y) (mid_at hXL.out) uN iN)<|oc (g_ld 3 uN iN)<|oc (g_cl Yh (fun uZ=>pTimes q y b uZ hy ib hq hq0))<|oc (g_ix (ixZ _ _ _ i hji))<|oc (g_sm 2 (4*i) X (LN y) Z (post:=LN (y*b%q)) (hxc:=hXL.out) iN) on
     intro u9 HB9 sz9 K9
     simp only[sQ] at K9⊢
     clear K8 HB8
     go_upto_region 14 with fail
     apply Rd K9 HB9 [.no,.no,.no,.all 13 (LN (b*((t -x)%q)%q))] [] [(0,71,_),(1,72,_),(2,73,_),(3,74,_),(4,75,_),(5,76,_),(6,77,_),(7,78,_),(8,79,_),(9,80,_),(10,81,_),(11,82,_),(12,83,_)] [(13,2)] [] []
     ·exact oc (g_fd (fdB0 _))<|oc (g_lo 0 0 uN iN)<|oc (g_ld 3 uN iN)<|oc (g_fd (fdB0 _))<|oc (g_lo 0 0 uN iN)<|oc (g_ld 1 uN iN)<|oc (g_fd (fdB1 _))<|oc (g_lc 0 4 lSN)<|oc g_mv<|oc (g_ix hX.out)<|oc (g_lf hR.out (hg.resolve_left (by omega)) uN iN)<|oc (g_cl W6 (fun uZ=>pMinus q t x uZ ht ix hq hq0))<|oc (g_cl Yh (fun uZ=>pTimes q b ((t -x)%q) uZ ib (Ze hq hq0) hq hq0))<|oc (g_st 3 iN) on
     intro u10 HB10 sz10 K10
     simp only[sQ] at K10⊢
     clear K9 HB9
     go_upto_region 15 with fail
     apply Rp K10 HB10 [] [] [(0,84,_),(1,51,_)] [(1,0)] [(1,51)] []
     ·exact oc (g_bn (fun uZ=>Yj _ _ (m:Int) 1 ((m+1:Nat):Int) uZ (by omega) (by omega) (by omega)))<|oc g_mv on
     intro u11 HB11 sz11 K11
     simp only[sQ] at K11⊢
     clear K10 HB10
     go_wp2
     refine⟨⟨m+1,by omega,rfl,HB11,(K11.cv 0),(K11.lt 0),(K11.cv 1),(K11.lt 1),by rw[hNx.out];exact(K11.cv 2),(K11.lt 2),by rw[hA.out];exact(K11.cv 3),(K11.lt 3)⟩,?_⟩
     simp[intOf]<;>omega
    ·have hl2:decide ((m:Int)<(ns.length:Int))=false:=by simp;omega
     have hmn:m=f1.length:=by rw[hf1l.out];omega
     rw[hmn,rowM_end hf2l.out] at D2
     clear hmn
     have K5_2:Bk w.heap.size wr [(false,w.heap.size,BE q (.slice sx ns.length cx) (.slice sd ns.length cd)),(false,w.heap.size+1,LN t),(true,bo,flN f2),(true,b2_3,LN (bhN q t ns m))]:=⟨.c lD0 D0<| .c lD1 D1<| .o lD2 (K5.lo 2) D2<| .o lD3 (K5.lo 4) D3<|trivial,by simp<;>omega⟩
     go_upto_region 10 with fail
     apply Rn K5_2 HBs [(0,52,_)]
     ·exact oc (g_bn (fun uZ=>Zk _ _ (m:Int) (ns.length:Int) _ uZ hl2)) on
     intro u6 HB6 sz6 K6
     simp only[sQ] at K6⊢
     go_upto_region 16 with fail
     apply Rn K6 HB6 [(0,85,_),(1,4,_)]
     ·exact oc g_mv<|oc g_as on
     intro u7 HB7 sz7 K7
     simp only[sQ] at K7⊢
     clear K6 HB6
     go_wp2
     exact bodyPost_ret (v:= .slice (some ⟨bo,0,none⟩) ns.length ns.length) (by simp[results,Tryz.results107,go_sem]) rfl ⟨_,rfl,⟨bo,by rw[hf2l.out,hf1l.out],hbo,(K7.lt 2),(K7.cv 2)⟩,HB7⟩
theorem PRw.lo{a b:Nat}{ns:List Int}{u:World}{v:Value}(h:PRw b ns u v)(hab:a<=b):PRw a ns u v:=by
 obtain⟨x,e,h1,h2,h3⟩:=h
 exact⟨x,e,Nat.le_trans hab h1,h2,h3⟩
theorem flN_in: ∀{ns:List Int} {k:Nat},k<ns.length-> ∀j v,(LN (ns.getD k 0))[j]?=some v->(flN ns)[4*k+j]?=some v
 | [],k,h=>by simp at h
 | n::r,0,h=>fun j v hj=>by
  have hl:j<4:=(List.getElem?_eq_some_iff.1 hj).1
  rw[Nat.mul_zero,Nat.zero_add,flN,List.getElem?_append_left (by exact hl)];exact hj
 | n::r,k+1,h=>fun j v hj=>by
  have:=flN_in (ns:=r) (k:=k) (by simpa using h) j v (by simpa using hj)
  rw[flN,List.getElem?_append_right (by show 4<=_;omega),show 4*(k+1)+j -(LN n).length=4*k+j by show _ -4=_;omega];exact this
def smN(q:Int)(fs:List Int)(ps:List (Int×Int)):Nat->Int
 | 0=>0
 | k+1=>(smN q fs ps k+(fs.getD k 0*(ps.getD k (0,0)).2)%q)%q
theorem smN_In{q:Int}{fs:List Int}{ps:List (Int×Int)}(hq:In q)(hq0:q≠0): ∀i,In (smN q fs ps i)
 | 0=>In_0
 | i+1=>Ze hq hq0
theorem sum_core(q t:Int)(sx sd sl:Option Addr)(cx cd gb go cap:Nat)(ns fs:List Int)(ps:List (Int×Int))(w:World)(hq:In q)(hq0:q≠0)(hix:Hid (∀j,j<ps.length-> ∀W,(Instr.indexAt 73 (.slice sl ps.length cap) (.int .i64 j)).run Tryz.prog W= .ok (.pointer (some ⟨gb,go+8*j,none⟩)) W))(hg:ps.length=0\/gb<w.heap.size)(hS:Hid (SN w gb go (flt ps)))(hns:ps.length<=1000)(hF:Hid (∀u,Bw w u->Calls Tryz.prog 107 #[BX q (.slice sx ns.length cx) (.slice sd ns.length cd),NV t] u fun e u'=> ∃y,e= .returned y/\PRw u.heap.size fs u' y/\Bw u u'))(hfl:Hid (fs.length=ps.length))(hnf:Hid (∀k,k<fs.length->In (fs.getD k 0)))(hnp:Hid (∀k,k<ps.length->In (ps.getD k (0,0)).2)):
 CC 79 #[BX q (.slice sx ns.length cx) (.slice sd ns.length cd),NV t,.slice sl ps.length cap] w (NV (smN q fs ps fs.length)):=by
 have hfl2:=hfl.out
 have hfk:fs.length<=1000:=by omega
 clear hfl2
 go_enter Tryz.func79,Tryz.ntmps79
 go_upto_region 1 with fail
 obtain⟨v0,hC,HB0,K0⟩:=bx3 w (BE q (.slice sx ns.length cx) (.slice sd ns.length cd)) 105 (LN t) 24 L0s 24
 rw[hC]
 clear hC
 apply Rp K0 HB0 [] [(1,7,L0s,some (2,[.int .u64 (0),.int .u64 (0),.int .u64 (0),.int .u64 (0)]))] [(0,10,_)] [(2,1)] [] []
 ·exact oc (g_bd zN)<|oc (g_al 0 aN)<|oc (g_sn 0 iN) on
 intro u1 b1_1 HB1 sz1 K1
 simp only[sQ] at K1⊢
 clear K0 HB0
 go_upto_region 2 with fail
 apply Rf K1 HB1 [] [] [(0,11,_),(1,12,_),(3,14,_),(4,15,_)] [] [] [⟨2,13,none,PRw u1.heap.size fs⟩] []
 ·exact oc (g_ld 0 Tryz.underlying105 Vs)<|oc (g_ld 1 uN iN)<|oc (g_cE 0 (PRw u1.heap.size fs) Wn (fun u hB hs=>(hF.out u hB).mono fun e u2 ⟨v,e1,h1,h2⟩=>⟨v,e1,h1.lo hs,h2⟩))<|oc (g_lE 0 (PRw u1.heap.size fs) Tryz.underlying27 (fun u vs ⟨b,e,_⟩=>⟨_,_,e⟩))<|oc g_mv on
 intro u2 v2_2 hv2_2 HB2 sz2 K2
 simp only[sQ] at K2⊢
 clear HB1
 obtain⟨bf,rfl,o1,o2,o3⟩:=hv2_2 rfl
 have K2xf:=Bk.more3 K1 K2 o1 o2 o3 (by intro x hx;first | (simp at hx;done) | (simp at hx⊢;omega))
 simp only[aK] at K2xf
 clear K2
 go_wp2_with fail
 go_loopw [15] (fun s15 wr=> ∃(k:Nat),k<=fs.length/\s15= .int .i64 (k:Int)/\Bw w wr/\CV wr (w.heap.size) (BE q (.slice sx ns.length cx) (.slice sd ns.length cd))/\w.heap.size<wr.heap.size/\CV wr (w.heap.size+1+1) (L0s)/\w.heap.size+1+1<wr.heap.size/\CV wr b1_1 (LN (smN q fs ps k))/\b1_1<wr.heap.size/\CV wr bf (flN fs)/\bf<wr.heap.size) (fun s15 _=>fs.length -(intOf s15).toNat)
 case atStart=>exact⟨0,by omega,rfl,HB2,(K2xf.cv 0),(K2xf.lt 0),(K2xf.cv 2),(K2xf.lt 2),(K2xf.cv 3),(K2xf.lt 3),(K2xf.cv 4),(K2xf.lt 4)⟩
 case round=>
  obtain⟨k,hk,rfl,HBr,C0,lC0,C1,lC1,C2,lC2,C3,lC3⟩:=hrel
  clear HB2
  have hnK:=K2xf.n
  simp at hnK
  have hoK3:=K2xf.lo 3
  by_cases hj:k<fs.length
  ·have hl:decide ((k:Int)<(fs.length:Int))=true:=by simp;omega
   have hjp:k<ps.length:=by rw[<-hfl.out];exact hj
   have hX:=hix.out _ hjp
   have hX:Hid _:=hX
   have hR:=hS.out.ptY _ hjp
   have hR:Hid _:=hR
   have iy:=hnp.out k hjp
   have ix:=hnf.out k hj
   have hf:=flN_in hj
   have iz:=smN_In (fs:=fs) (ps:=ps) hq hq0 k
   have hA:Hid (smN q fs ps (k+1)=(smN q fs ps k+(fs.getD k 0*(ps.getD k (0,0)).2)%q)%q):=rfl
   have hgb:=hg.resolve_left (by omega)
   have hkl:k<1000:=by omega
   obtain⟨y,ey⟩: ∃y,(ps.getD k (0,0)).2=y:=⟨_,rfl⟩
   rw[ey] at hR iy hA
   clear ey
   obtain⟨x,ex⟩: ∃x,fs.getD k 0=x:=⟨_,rfl⟩
   rw[ex] at ix hf hA
   clear ex
   obtain⟨z,ez⟩: ∃z,smN q fs ps k=z:=⟨_,rfl⟩
   rw[ez] at iz hA C2
   clear ez hjp
   have hf:Hid _:=hf
   have K2_1:Bk w.heap.size wr [(false,w.heap.size,BE q (.slice sx ns.length cx) (.slice sd ns.length cd)),(true,w.heap.size+1+1,L0s),(true,b1_1,LN z),(false,bf,flN fs)]:=⟨.c lC0 C0<| .o lC1 (K2xf.lo 2) C1<| .o lC2 (K2xf.lo 3) C2<| .c lC3 C3<|trivial,by simp<;>omega⟩
   go_upto_region 3 with fail
   apply Rn K2_1 HBr [(0,16,_)]
   ·exact oc (g_bn (fun uZ=>Zk _ _ (k:Int) (fs.length:Int) _ uZ hl)) on
   intro u3 HB3 sz3 K3
   simp only[sQ] at K3⊢
   go_upto_region 4 with fail
   apply Rp K3 HB3 [] [(3,9,L0s,some (5,LN x))] [(0,17,_),(1,18,_),(2,19,_),(4,8,_)] [(5,3)] [] []
   ·exact oc g_mv<|oc (g_ix (ixZ _ _ _ k hj))<|oc (g_lR 3 (4*k) (cs:=LN x) (hf.out) uN iN)<|oc (g_al 0 aN)<|oc g_as<|oc (g_sn 0 iN) on
   intro u4 b4_3 HB4 sz4 K4
   simp only[sQ] at K4⊢
   clear K3 HB3
   go_upto_region 5 with fail
   apply Rd K4 HB4 [.no,.no,.all 16 (LN ((z+x*y%q)%q))] [] [(0,21,_),(1,22,_),(2,23,_),(3,24,_),(4,25,_),(5,26,_),(6,27,_),(7,28,_),(8,29,_),(9,30,_),(10,31,_),(11,32,_),(12,33,_),(13,20,_),(14,34,_),(15,35,_)] [(16,0)] [] [true,true,true,true,false]
   ·exact oc (g_ld 2 uN iN)<|oc (g_fd (fdB0 _))<|oc (g_lo 0 0 uN iN)<|oc (g_ld 4 uN iN)<|oc g_mv<|oc g_mv<|oc (g_ix hX.out)<|oc (g_fd (fdP1 _ _))<|oc (g_lf hR.out hgb uN iN)<|oc (g_cl Yh (fun uZ=>pTimes q x y uZ ix iy hq hq0))<|oc (g_fd (fdB0 _))<|oc (g_lo 0 0 uN iN)<|oc (g_cl ent_mod_Add (fun uZ=>mAdd z (x*y%q) q uZ iz (Ze hq hq0) hq hq0))<|oc g_mv<|oc g_ex<|oc g_ex<|oc (g_st 2 iN) on
   intro u5 HB5 sz5 K5
   simp only[sQ] at K5⊢
   clear K4 HB4
   go_upto_region 6 with fail
   apply Rp K5 HB5 [] [] [(0,36,_),(1,15,_)] [(1,0)] [(1,15)] []
   ·exact oc (g_bn (fun uZ=>Yj _ _ (k:Int) 1 ((k+1:Nat):Int) uZ (by omega) (by omega) (by omega)))<|oc g_mv on
   intro u6 HB6 sz6 K6
   simp only[sQ] at K6⊢
   clear K5 HB5
   go_wp2
   refine⟨⟨k+1,by omega,rfl,HB6,(K6.cv 0),(K6.lt 0),(K6.cv 1),(K6.lt 1),by rw[hA.out];exact(K6.cv 2),(K6.lt 2),(K6.cv 3),(K6.lt 3)⟩,?_⟩
   simp[intOf]<;>omega
  ·have hl:decide ((k:Int)<(fs.length:Int))=false:=by simp;omega
   have hkn:k=fs.length:=by omega
   have K2_1:Bk w.heap.size wr [(false,w.heap.size,BE q (.slice sx ns.length cx) (.slice sd ns.length cd)),(true,w.heap.size+1+1,L0s),(true,b1_1,LN (smN q fs ps k)),(false,bf,flN fs)]:=⟨.c lC0 C0<| .o lC1 (K2xf.lo 2) C1<| .o lC2 (K2xf.lo 3) C2<| .c lC3 C3<|trivial,by simp<;>omega⟩
   go_upto_region 3 with fail
   apply Rn K2_1 HBr [(0,16,_)]
   ·exact oc (g_bn (fun uZ=>Zk _ _ (k:Int) (fs.length:Int) _ uZ hl)) on
   intro u3 HB3 sz3 K3
   simp only[sQ] at K3⊢
   go_upto_region 7 with fail
   apply Rp K3 HB3 [.no,.all 1 (LN (smN q fs ps k))] [] [(0,37,_)] [] [] []
   ·exact oc (g_ld 2 uN iN)<|oc (g_st 1 iN) on
   intro u4 HB4 sz4 K4
   simp only[sQ] at K4⊢
   clear K3 HB3
   have c6:=(K4.cv 1).n4
   go_wp2
   refine bodyPost_ret (v:=NV (smN q fs ps k)) (by simp[results,Tryz.results79,go_sem,c6]) rfl ⟨by rw[hkn],HB4⟩
end
section
open Go.RowKit Go.Extern.Stop Go.Stop Go.Extern
theorem wrap1(i n:Nat)(h:i<n)(hn:n<=1000000):IntKind.i64.wrap ((i:Int)+1)=((i+1:Nat):Int):=by rw[IntKind.wrap_i64];omega
end
section
open Go.RowKit
theorem rotr_add(x n:Nat)(hx:x<4294967296)(hn:n<=32):x>>>n+(x<<<(32 -n))%4294967296=rotr x n:=by
 have e1:(x<<<(32 -n))%4294967296=(x%2^n)<<<(32 -n):=by
  rw[Nat.shiftLeft_eq,Nat.shiftLeft_eq]
  have e:(4294967296:Nat)=2^n*2^(32 -n):=by rw[<-Nat.pow_add,show n+(32 -n)=32 by omega]
  rw[e,Nat.mul_mod_mul_right]
 have e2:x>>>n<2^(32 -n):=by
  rw[Nat.shiftRight_eq_div_pow,Nat.div_lt_iff_lt_mul (Nat.two_pow_pos n),<-Nat.pow_add,show 32 -n+n=32 by omega]
  exact hx
 unfold rotr
 rw[e1,<-Nat.shiftLeft_add_eq_or_of_lt e2,Nat.add_comm]
theorem sub_xor{e:Nat}(h:e<4294967296):4294967295 -e=4294967295^^^e:=by
 have h1:=BitVec.toNat_not (x:=BitVec.ofNat 32 e)
 have h2:BitVec.allOnes 32^^^BitVec.ofNat 32 e= ~~~(BitVec.ofNat 32 e):=by ext i hi;simp only[BitVec.getElem_xor,BitVec.getElem_allOnes,BitVec.getElem_not,Bool.true_xor]
 have h3:=congrArg BitVec.toNat h2
 rw[BitVec.toNat_xor,h1,BitVec.toNat_allOnes,BitVec.toNat_ofNat,Nat.mod_eq_of_lt (show e<2^32 from h)] at h3
 exact h3.symm
theorem choice_is{e f g:Nat}(h:e<4294967296):(e&&&f)^^^((4294967295 -e)&&&g)=chN e f g:=by unfold chN;rw[sub_xor h]
def wd(bs:List Nat)(i:Nat):Nat:=bs.getD (4*i) 0*16777216+bs.getD (4*i+1) 0*65536+bs.getD (4*i+2) 0*256+bs.getD (4*i+3) 0
theorem spA_keep(bs:List Nat)(i k:Nat)(h: ¬k/4=i):(spA bs (k+1)).getD i 0=(spA bs k).getD i 0:=by
 rw[spA,Yt,if_neg (fun h'=>h h'.1)]
theorem spA_new(bs:List Nat)(i k:Nat)(hb: ∀j,bs.getD j 0<256)(h:k/4=i)(hi:i<64):(spA bs (k+1)).getD i 0=((spA bs k).getD i 0<<<8)%4294967296 ||| bs.getD k 0:=by
 rw[spA,Yt,if_pos ⟨h,by rw[(spA_W bs hb k).len];exact hi⟩,h]
theorem spA_zero(bs:List Nat)(i:Nat): ∀k,k<=4*i->(spA bs k).getD i 0=0
 | 0,_=>by
  show z64.getD i 0=0
  unfold z64;rw[List.getD_eq_getElem?_getD,List.getElem?_replicate];split<;>rfl
 | k+1,h=>by rw[spA_keep bs i k (by omega)];exact spA_zero bs i k (by omega)
theorem spA_after(bs:List Nat)(i:Nat): ∀d,(spA bs (4*i+4+d)).getD i 0=(spA bs (4*i+4)).getD i 0
 | 0=>rfl
 | d+1=>by rw[show 4*i+4+(d+1)=(4*i+4+d)+1 by omega,spA_keep bs i _ (by omega)];exact spA_after bs i d
theorem shl_or(x b:Nat)(hx:x<16777216)(hb:b<256):(x<<<8)%4294967296 ||| b=x*256+b:=by
 rw[Nat.mod_eq_of_lt (by rw[Nat.shiftLeft_eq];omega),<-Nat.shiftLeft_add_eq_or_of_lt (show b<2^8 from hb),Nat.shiftLeft_eq]
theorem spA_wd(bs:List Nat)(i:Nat)(hb: ∀j,bs.getD j 0<256)(hi:i<16):(spA bs 64).getD i 0=wd bs i:=by
 have e:=spA_after bs i (60 -4*i)
 rw[show 4*i+4+(60 -4*i)=64 by omega] at e
 have h0:=spA_zero bs i (4*i) (Nat.le_refl _)
 have h1:=spA_new bs i (4*i) hb (by omega) (by omega)
 have h2:=spA_new bs i (4*i+1) hb (by omega) (by omega)
 have h3:=spA_new bs i (4*i+2) hb (by omega) (by omega)
 have h4:=spA_new bs i (4*i+3) hb (by omega) (by omega)
 have b0:=hb (4*i)
 have b1:=hb (4*i+1)
 have b2:=hb (4*i+2)
 have b3:=hb (4*i+3)
 unfold wd
 rw[h0,shl_or 0 _ (by omega) b0] at h1
 rw[h1,shl_or _ _ (by omega) b1] at h2
 rw[h2,shl_or _ _ (by omega) b2] at h3
 rw[h3,shl_or _ _ (by omega) b3] at h4
 rw[e,h4]
 omega
theorem spB_keep(ws:List Nat)(k j:Nat)(h:j<k+16): ∀d,(spB ws (k+d)).getD j 0=(spB ws k).getD j 0
 | 0=>rfl
 | d+1=>by rw[show k+(d+1)=(k+d)+1 by omega,spB,Yt,if_neg (by omega),spB_keep ws k j h d]
theorem spread_wd(bs:List Nat)(i:Nat)(hb: ∀j,bs.getD j 0<256)(hi:i<16):(Vr bs).getD i 0=wd bs i:=by
 have:=spB_keep (spA bs 64) 0 i (by omega) 48
 rw[Nat.zero_add] at this
 unfold Vr
 rw[this];exact spA_wd bs i hb hi
theorem spread_sp(bs:List Nat)(t:Nat)(hb: ∀j,bs.getD j 0<256)(h1:16<=t)(h2:t<64):(Vr bs).getD t 0=spS (Vr bs) t:=by
 have hW:=spA_W bs hb 64
 unfold Vr
 obtain⟨ws,ews⟩: ∃ws,spA bs 64=ws:=⟨_,rfl⟩
 rw[ews] at hW⊢
 obtain⟨k,rfl⟩: ∃k,t=k+16:=⟨t -16,by omega⟩
 have e1:=spB_keep ws (k+1) (k+16) (by omega) (47 -k)
 rw[show k+1+(47 -k)=48 by omega] at e1
 have hk: ∀j,j<k+16->(spB ws 48).getD j 0=(spB ws k).getD j 0:=fun j hj=>by
  have:=spB_keep ws k j hj (48 -k)
  rwa [show k+(48 -k)=48 by omega] at this
 rw[e1,spB,Yt,if_pos ⟨rfl,by rw[(spB_W hW k).len];exact h2⟩]
 unfold spS
 rw[hk (k+16 -2) (by omega),hk (k+16 -7) (by omega),hk (k+16 -15) (by omega),hk (k+16 -16) (by omega)]
theorem mod4(a b c d:Nat):(a+b+c+d)%4294967296=(((a+b)%4294967296+c)%4294967296+d)%4294967296:=by omega
theorem mod5(a b c d e:Nat):(a+b+c+d+e)%4294967296=((((a+b)%4294967296+c)%4294967296+d)%4294967296+e)%4294967296:=by omega
def sms0(ss vs:List Nat):Nat->List Nat
 | 0=>z8
 | i+1=>(sms0 ss vs i).set i ((vs.getD i 0+ss.getD i 0)%4294967296)
theorem z8_W:WW 8 z8:=⟨rfl,fun j=>by
 unfold z8;rw[List.getD_eq_getElem?_getD,List.getElem?_replicate];split<;>decide⟩
theorem sms0_W(ss vs:List Nat): ∀i,WW 8 (sms0 ss vs i)
 | 0=>z8_W
 | i+1=>(sms0_W ss vs i).set _ _ (Nat.mod_lt _ (by decide))
theorem sms0_get(ss vs:List Nat)(j:Nat)(hj:j<8): ∀i,(sms0 ss vs i).getD j 0=if j<i then (vs.getD j 0+ss.getD j 0)%4294967296 else 0
 | 0=>by
  show z8.getD j 0=_
  rw[if_neg (by omega)]
  unfold z8;rw[List.getD_eq_getElem?_getD,List.getElem?_replicate];split<;>rfl
 | i+1=>by
  rw[sms0,Yt,(sms0_W ss vs i).len]
  by_cases h:i=j
  ·subst h;rw[if_pos ⟨rfl,hj⟩,if_pos (by omega)]
  ·rw[if_neg (fun h'=>h h'.1),sms0_get ss vs j hj i]
   by_cases h2:j<i
   ·rw[if_pos h2,if_pos (by omega)]
   ·rw[if_neg h2,if_neg (by omega)]
theorem sms_get{ss:List Nat}(hs:WW 8 ss)(vs:List Nat)(j:Nat)(hj:j<8): ∀i,(sms ss vs i).getD j 0=if j<i then (ss.getD j 0+vs.getD j 0)%4294967296 else ss.getD j 0
 | 0=>by rw[if_neg (by omega)];rfl
 | i+1=>by
  rw[sms,Yt,(sms_W hs vs i).len]
  by_cases h:i=j
  ·subst h;rw[if_pos ⟨rfl,hj⟩,if_pos (by omega),sms_get hs vs i hj i,if_neg (by omega)]
  ·rw[if_neg (fun h'=>h h'.1),sms_get hs vs j hj i]
   by_cases h2:j<i
   ·rw[if_pos h2,if_pos (by omega)]
   ·rw[if_neg h2,if_neg (by omega)]
theorem sms0_is{ss:List Nat}(hs:WW 8 ss)(vs:List Nat):sms0 ss vs 8=sms ss vs 8:=by
 refine List.ext_getElem (by rw[(sms0_W ss vs 8).len,(sms_W hs vs 8).len]) fun j a b=>?_
 have hj:j<8:=by rw[(sms0_W ss vs 8).len] at a;exact a
 have e1:=sms0_get ss vs j hj 8
 have e2:=sms_get hs vs j hj 8
 rw[if_pos hj] at e1 e2
 rw[List.getD_eq_getElem?_getD,List.getElem?_eq_getElem a] at e1
 rw[List.getD_eq_getElem?_getD,List.getElem?_eq_getElem b] at e2
 simp only[Option.getD_some] at e1 e2
 rw[e1,e2,Nat.add_comm]
def U64(l:List Nat):List Value:=l.map fun(x:Nat)=>.int .u64 (x:Int)
theorem Ti(l:List Nat):(U64 l).length=l.length:=List.length_map ..
theorem X7(l:List Nat)(j:Nat)(h:j<l.length):(U64 l)[j]?=some (.int .u64 ((l.getD j 0:Nat):Int)):=by simp[U64,List.getElem?_eq_getElem h]
theorem U64_app(a b:List Nat):U64 (a++b)=U64 a++U64 b:=by simp[U64]
theorem U64_tk{S:List Nat}{n j:Nat}{zs:List Value}(hj:j<n)(hn:n<=S.length):(U64 (S.take n)++zs)[j]?=some (.int .u64 ((S.getD j 0:Nat):Int)):=by
 have hl:(S.take n).length=n:=by rw[List.length_take];omega
 rw[List.getElem?_append_left (by rw[Ti,hl];exact hj),X7 _ j (by omega),List.getD_eq_getElem?_getD,List.getD_eq_getElem?_getD,List.getElem?_take_of_lt hj]
theorem U64_one{S:List Nat}{n:Nat}(hn:n<S.length):U64 (S.take n)++[.int .u64 ((S.getD n 0:Nat):Int)]=U64 (S.take (n+1)):=by
 have e:S.getD n 0=S[n]:=by rw[List.getD_eq_getElem?_getD,List.getElem?_eq_getElem hn];rfl
 rw[List.take_succ_eq_append_getElem hn,U64_app,e];rfl
theorem infoU:(Tryz.prog.info? 22).map (fun i=>(i.zero,i.size,i.bytes))=some (some (.int .u64 0),1,8):=by kernel_rfl
theorem bs0u(w:World):(Instr.buildSlice 120 0 #[]).run Tryz.prog w= .ok (.slice (some ⟨w.heap.size,0,none⟩) 0 0) (w.alloc (.cells #[] 22)):=by kernel_rfl
theorem bs1u(x:Nat)(w:World):(Instr.buildSlice 120 1 ([0].zip [.int .u64 (x:Int)]).toArray).run Tryz.prog w= .ok (.slice (some ⟨w.heap.size,0,none⟩) 1 1) (w.alloc (.cells [Value.int .u64 (x:Int)].toArray 22)):=by kernel_rfl
theorem ixU(g o n cap j:Nat)(h:j<n)(w:World):(Instr.indexAt 120 (.slice (some ⟨g,o,none⟩) n cap) (.int .i64 j)).run Tryz.prog w= .ok (.pointer (some ⟨g,o+j,none⟩)) w:=by
 have h2:(j:Int)<n:=by omega
 go_simp
theorem P1.nwu{news:List Value}(u:World)(y:Value)(h:P1 news u y):NW 1 news u y:=by
 obtain⟨ad,c,e,h1⟩:=P1.at u y h
 exact⟨_,c,e,.inr ⟨ad,rfl,h1⟩⟩
theorem one_u{x:Nat}: ∀v∈[Value.int .u64 (x:Int)],v.oneCell'=true:=fun v hv=>by simp at hv;subst hv;rfl
theorem bit_and64(a b:Nat)(ha:a<M64)(hb:b<M64):bits .and .u64 a b=((a&&&b:Nat):Int):=(bits_nat .u64 64 (by decide) W8 a b ha hb).1
theorem bit_xor64(a b:Nat)(ha:a<M64)(hb:b<M64):bits .xor .u64 a b=((a^^^b:Nat):Int):=by
 have ha':a%2^64=a:=Nat.mod_eq_of_lt ha
 have hb':b%2^64=b:=Nat.mod_eq_of_lt hb
 have h:(BitVec.ofNat 64 a^^^BitVec.ofNat 64 b).toNat=a^^^b:=by rw[BitVec.toNat_xor,BitVec.toNat_ofNat,BitVec.toNat_ofNat,ha',hb']
 show IntKind.u64.wrap ((BitVec.ofInt 64 (a:Int)^^^BitVec.ofInt 64 (b:Int)).toNat:Int)=_
 rw[BitVec.ofInt_natCast,BitVec.ofInt_natCast,h]
 exact W8 _ (Int.natCast_nonneg _) (by exact_mod_cast Nat.xor_lt_two_pow (n:=64) ha hb)
theorem and64(p q:Operand)(a b:Nat)(w:World)(ha:a<M32)(hb:b<M32):(do eqGuard .and 22 p q (.int .u64 a) (.int .u64 b);binOp .and 22 (.int .u64 a) (.int .u64 b):Sem Value).run Tryz.prog w= .ok (.int .u64 ((a&&&b:Nat):Int)) w:=by
 rw[<-bit_and64 a b (Nat.lt_trans ha (by decide)) (Nat.lt_trans hb (by decide))];go_simp
theorem xor64(p q:Operand)(a b:Nat)(w:World)(ha:a<M32)(hb:b<M32):(do eqGuard .xor 22 p q (.int .u64 a) (.int .u64 b);binOp .xor 22 (.int .u64 a) (.int .u64 b):Sem Value).run Tryz.prog w= .ok (.int .u64 ((a^^^b:Nat):Int)) w:=by
 rw[<-bit_xor64 a b (Nat.lt_trans ha (by decide)) (Nat.lt_trans hb (by decide))];go_simp
theorem sub64(p q:Operand)(a b:Nat)(w:World)(h:b<=a)(ha:a<M64):(do eqGuard .sub 22 p q (.int .u64 a) (.int .u64 b);binOp .sub 22 (.int .u64 a) (.int .u64 b):Sem Value).run Tryz.prog w= .ok (.int .u64 ((a -b:Nat):Int)) w:=by
 have ha:a<18446744073709551616:=ha
 have e:IntKind.u64.wrap ((a:Int) -b)=((a -b:Nat):Int):=by rw[W8 _ (by omega) (by omega)];omega
 go_simp
theorem shl64i(p q:Operand)(a n:Nat)(w:World)(hn:n<=64):(do eqGuard .shl 22 p q (.int .u64 a) (.int .i64 n);binOp .shl 22 (.int .u64 a) (.int .i64 n):Sem Value).run Tryz.prog w= .ok (.int .u64 (((a<<<n)%18446744073709551616:Nat):Int)) w:=by
 have e:IntKind.u64.wrap ((a:Int)*2^n)=(a:Int)<<<n%18446744073709551616:=by
  rw[Int.shiftLeft_eq];simp[IntKind.wrap,IntKind.signed,IntKind.bits]
 have e2:min n 64=n:=by omega
 go_simp
 first | done | exact e
theorem cv3264{o:Oper}{ev:Operand->Value}{x:Operand}{n:Nat}(u:World)(h1:n<M32)(ho:o.op= .convert 227 22 x)(hx:ev x= .int .u32 (n:Int)):(execOp ev o).run Tryz.prog u= .ok (.value (.int .u64 (n:Int))) u:=by
 have e1:IntKind.u64.wrap (n:Int)=(n:Int):=W8 _ (by omega) (by have:n<4294967296:=h1;omega)
 unfold execOp;rw[ho];simp only[hx];go_simp
theorem cv6432{o:Oper}{ev:Operand->Value}{x:Operand}{n:Nat}(u:World)(h1:n<M32)(ho:o.op= .convert 22 227 x)(hx:ev x= .int .u64 (n:Int)):(execOp ev o).run Tryz.prog u= .ok (.value (.int .u32 (n:Int))) u:=by
 have e1:IntKind.u32.wrap (n:Int)=(n:Int):=wraps_u32 _ (by omega) (by have:n<4294967296:=h1;omega)
 unfold execOp;rw[ho];simp only[hx];go_simp
theorem Zc:EnT 179:=fun _ _=>by kernel_rfl
theorem Yw:EnT 178:=fun _ _=>by kernel_rfl
theorem Z3:EnT 177:=fun _ _=>by kernel_rfl
theorem Xm:EnT 180:=fun _ _=>by kernel_rfl
theorem Wb:EnT 176:=fun _ _=>by kernel_rfl
theorem cWrap(x:Nat)(w:World)(hx:x<18446744073709551616):CC 179 #[.int .u64 ((x:Nat):Int)] w (.int .u64 ((x%4294967296:Nat):Int)):=by
 go_enter Tryz.func179,Tryz.ntmps179
 have HB0:Bw w w:=Below.refl _ _
 have K0_1:=Bk.nil (w.heap.size) w
 go_upto_region 1 with fail
 apply Rn K0_1 HB0 [(0,3,_),(1,4,_),(2,2,_)]
 ·exact oc g_mv<|oc (g_bn (fun uZ=>rem64 _ _ x 4294967296 uZ hx (by decide)))<|oc g_as on
 intro u1 HB1 sz1 K1
 simp only[sQ] at K1⊢
 clear HB0
 go_wp2
 refine bodyPost_ret (v:= .int .u64 ((x%4294967296:Nat):Int)) (by simp[results,Tryz.results179,go_sem,]) rfl ⟨rfl,HB1⟩
theorem cRightR(x n:Nat)(w:World)(hn:n<=64):CC 178 #[.int .u64 ((x:Nat):Int),.int .i64 ((n:Nat):Int)] w (.int .u64 ((x>>>n:Nat):Int)):=by
 go_enter Tryz.func178,Tryz.ntmps178
 have HB0:Bw w w:=Below.refl _ _
 have K0_1:=Bk.nil (w.heap.size) w
 go_upto_region 1 with fail
 apply Rn K0_1 HB0 [(0,5,_),(1,6,_),(2,7,_),(3,4,_)]
 ·exact oc g_mv<|oc g_mv<|oc (g_bn (fun uZ=>shr64i _ _ x n uZ (by omega)))<|oc g_as on
 intro u1 HB1 sz1 K1
 simp only[sQ] at K1⊢
 clear HB0
 go_wp2
 refine bodyPost_ret (v:= .int .u64 ((x>>>n:Nat):Int)) (by simp[results,Tryz.results178,go_sem,]) rfl ⟨rfl,HB1⟩
theorem cTurn_core(x n y z:Nat)(w:World)(hn:n<=32)(hy:(x<<<(32 -n))%18446744073709551616=y)(hy2:y<18446744073709551616)(hz:x>>>n+y%4294967296=z)(hz2:z<18446744073709551616):CC 177 #[.int .u64 ((x:Nat):Int),.int .i64 ((n:Nat):Int)] w (.int .u64 ((z:Nat):Int)):=by
 go_enter Tryz.func177,Tryz.ntmps177
 have HB0:Bw w w:=Below.refl _ _
 have K0_1:=Bk.nil (w.heap.size) w
 go_upto_region 1 with fail
 apply Rm K0_1 HB0 [(0,5,_),(1,6,_),(2,7,_),(3,8,_),(4,9,_),(5,10,_),(6,11,_),(7,12,_),(8,13,_),(9,4,_)]
 ·exact oc g_mv<|oc g_mv<|oc (g_bn (fun uZ=>shr64i _ _ x n uZ (by omega)))<|oc g_mv<|oc g_mv<|oc (g_bn (fun uZ=>Xt _ _ 32 (n:Int) ((32 -n:Nat):Int) uZ (by omega) (by omega) (by omega)))<|oc (g_bn (fun uZ=>(shl64i _ _ x (32 -n) uZ (by omega)).trans (by rw[hy])))<|oc (g_cl Zc (fun uZ=>cWrap y uZ hy2))<|oc (g_bn (fun uZ=>Uf _ _ (x>>>n) (y%4294967296) z uZ hz hz2))<|oc g_as on
 intro u1 HB1 sz1 K1
 simp only[sQ] at K1⊢
 clear HB0
 go_wp2
 refine bodyPost_ret (v:= .int .u64 ((z:Nat):Int)) (by simp[results,Tryz.results177,go_sem,]) rfl ⟨rfl,HB1⟩
theorem cWrapE(x y:Nat)(w:World)(hx:x<18446744073709551616)(h:x%4294967296=y):CC 179 #[.int .u64 ((x:Nat):Int)] w (.int .u64 ((y:Nat):Int)):=by
 subst h;exact cWrap x w hx
theorem ixU0(g n cap j:Nat)(h:j<n)(w:World):(Instr.indexAt 120 (.slice (some ⟨g,0,none⟩) n cap) (.int .i64 j)).run Tryz.prog w= .ok (.pointer (some ⟨g,j,none⟩)) w:=by
 have:=ixU g 0 n cap j h w
 rwa [Nat.zero_add] at this
theorem cTurn(x n:Nat)(w:World)(hx:x<M32)(hn:n<=32):CC 177 #[.int .u64 ((x:Nat):Int),.int .i64 ((n:Nat):Int)] w (.int .u64 ((rotr x n:Nat):Int)):=by
 have e:(x<<<(32 -n))%18446744073709551616=x<<<(32 -n):=Nat.mod_eq_of_lt (by
  rw[Nat.shiftLeft_eq]
  have h1:2^(32 -n)<=2^32:=Nat.pow_le_pow_right (by decide) (by omega)
  have h2:x*2^(32 -n)<=x*2^32:=Nat.mul_le_mul_left _ h1
  have h3:x<4294967296:=hx
  omega)
 have hr:=Zp (n:=n) hx
 exact cTurn_core x n (x<<<(32 -n)) (rotr x n) w hn e (by rw[<-e];exact Nat.mod_lt _ (by decide)) (rotr_add x n hx hn) (Nat.lt_trans hr (by decide))
theorem cConstants(w:World):Calls Tryz.prog 180 #[] w fun e w'=> ∃v,e= .returned v/\PS w.heap.size 64 (U64 kcs) w' v/\Bw w w':=by
 go_enter Tryz.func180,Tryz.ntmps180
 have HB0:Bw w w:=Below.refl _ _
 have K0_1:=Bk.nil (w.heap.size) w
 go_upto_region 1 with fail
 refine Rf K0_1 HB0 [] [] [] [] [] [⟨0,1,some 1,PS w.heap.size 64 (U64 kcs)⟩,⟨1,0,none,PS w.heap.size 64 (U64 kcs)⟩] [] (.cons (fun _ _ _ h1 h2=>h2.stab h1)<| .cons (fun _ _ _ h1 h2=>h2.stab h1)<|Stab.nil) ?_ ?_
 ·exact oc (g_bR 0 (PS w.heap.size 64 (U64 kcs)) [0,1,2,3,4,5,6,7,8,9,10,11,12,13,14,15,16,17,18,19,20,21,22,23,24,25,26,27,28,29,30,31,32,33,34,35,36,37,38,39,40,41,42,43,44,45,46,47,48,49,50,51,52,53,54,55,56,57,58,59,60,61,62,63] [.int .u64 1116352408,.int .u64 1899447441,.int .u64 3049323471,.int .u64 3921009573,.int .u64 961987163,.int .u64 1508970993,.int .u64 2453635748,.int .u64 2870763221,.int .u64 3624381080,.int .u64 310598401,.int .u64 607225278,.int .u64 1426881987,.int .u64 1925078388,.int .u64 2162078206,.int .u64 2614888103,.int .u64 3248222580,.int .u64 3835390401,.int .u64 4022224774,.int .u64 264347078,.int .u64 604807628,.int .u64 770255983,.int .u64 1249150122,.int .u64 1555081692,.int .u64 1996064986,.int .u64 2554220882,.int .u64 2821834349,.int .u64 2952996808,.int .u64 3210313671,.int .u64 3336571891,.int .u64 3584528711,.int .u64 113926993,.int .u64 338241895,.int .u64 666307205,.int .u64 773529912,.int .u64 1294757372,.int .u64 1396182291,.int .u64 1695183700,.int .u64 1986661051,.int .u64 2177026350,.int .u64 2456956037,.int .u64 2730485921,.int .u64 2820302411,.int .u64 3259730800,.int .u64 3345764771,.int .u64 3516065817,.int .u64 3600352804,.int .u64 4094571909,.int .u64 275423344,.int .u64 430227734,.int .u64 506948616,.int .u64 659060556,.int .u64 883997877,.int .u64 958139571,.int .u64 1322822218,.int .u64 1537002063,.int .u64 1747873779,.int .u64 1955562222,.int .u64 2024104815,.int .u64 2227730452,.int .u64 2361852424,.int .u64 2428436474,.int .u64 2756734187,.int .u64 3204031479,.int .u64 3329325298] (U64 kcs) (e:=22) (fun w=>by kernel_rfl) (fun u hu=>PS.new 64 _ _ u (Nat.le_trans HB0.size hu)))<|oc (g_sE 0 1 (PS w.heap.size 64 (U64 kcs))) on
 intro u1 v1_0 hv1_0 v1_1 hv1_1 HB1 sz1 K1
 simp only[sQ] at K1⊢
 clear HB0
 have hz:=hv1_1 rfl
 go_wp2
 refine bodyPost_ret (v:=v1_1) (by simp[results,Tryz.results180,go_sem]) rfl ⟨_,rfl,hz,HB1⟩
section
def tlF(n:Nat):Nat->List Nat
 | 0=>List.replicate 8 0
 | j+1=>(tlF n j).set (7 -j) ((n*8)>>>(8*j)%256)
theorem tlF_B(n:Nat): ∀j,BB 8 (tlF n j)
 | 0=>BB_rep 8
 | j+1=>(tlF_B n j).set _ _ (Nat.mod_lt _ (by decide))
theorem en_is(n:Nat): ∀j,j<=8->enL n j=128::(List.replicate (nou n) 0++tlF n j)
 | 0,_=>by
  show (List.replicate (nou n+9) 0).set 0 128=128::(List.replicate (nou n) 0++List.replicate 8 0)
  rw[List.replicate_append_replicate,show nou n+9=(nou n+8)+1 by omega,List.replicate_succ,List.set_cons_zero]
 | j+1,h=>by
  show (enL n j).set (nou n+9 -1 -j) _=_
  rw[en_is n j (by omega),show nou n+9 -1 -j=(nou n+(7 -j))+1 by omega,List.set_cons_succ,List.set_append_right _ _ (by rw[List.length_replicate];omega),List.length_replicate,show nou n+(7 -j) -nou n=7 -j by omega]
  rfl
theorem pad_is(xs:List Nat):pad xs=(xs++[128])++List.replicate (nou xs.length) 0++tlF xs.length 8:=by
 unfold pad ending
 rw[en_is _ 8 (Nat.le_refl _)]
 simp
theorem nou_56(n k:Nat)(hn:n<=100000)(hk:k<=nou n):(n+1+k)%64=56↔k=nou n:=by
 unfold nou at *;omega
def tD(ss:List Nat):Nat->List Nat
 | 0=>z32
 | m+1=>(tD ss m).set (4*(m/4)+3 -m%4) ((ss.getD (m/4) 0>>>(8*(m%4)))%256)
theorem tD_B(ss:List Nat): ∀m,BB 32 (tD ss m)
 | 0=>BB_z32
 | m+1=>(tD_B ss m).set _ _ (Nat.mod_lt _ (by decide))
theorem tD_get(ss:List Nat)(p:Nat)(hp:p<32): ∀m,m<=32->(tD ss m).getD p 0=if 4*(p/4)+3 -p%4<m then (ss.getD (p/4) 0>>>(8*(3 -p%4)))%256 else 0
 | 0,_=>by
  show z32.getD p 0=_
  rw[if_neg (by omega)]
  unfold z32;rw[List.getD_eq_getElem?_getD,List.getElem?_replicate];split<;>rfl
 | m+1,h=>by
  rw[tD,Yt,(tD_B ss m).len]
  by_cases e:4*(m/4)+3 -m%4=p
  ·have e1:m/4=p/4:=by omega
   have e2:m%4=3 -p%4:=by omega
   rw[if_pos ⟨e,hp⟩,if_pos (by omega),e1,e2]
  ·rw[if_neg (fun h'=>e h'.1),tD_get ss p hp m (by omega)]
   by_cases e3:4*(p/4)+3 -p%4<m
   ·rw[if_pos e3,if_pos (by omega)]
   ·rw[if_neg e3,if_neg (by omega)]
theorem tD_told(ss:List Nat):tD ss 32=told ss:=by
 refine List.ext_getElem (by rw[(tD_B ss 32).len,(told_B ss).len]) fun p a b=>?_
 have hp:p<32:=by rw[(tD_B ss 32).len] at a;exact a
 have e1:=tD_get ss p hp 32 (Nat.le_refl _)
 rw[if_pos (by omega)] at e1
 have e2:=told_get ss p hp
 rw[List.getD_eq_getElem?_getD,List.getElem?_eq_getElem a] at e1
 rw[List.getD_eq_getElem?_getD,List.getElem?_eq_getElem b] at e2
 simp only[Option.getD_some] at e1 e2
 rw[e1,e2]
theorem shr_next(x j:Nat):(x>>>(8*j))/256=x>>>(8*(j+1)):=by
 rw[show 8*(j+1)=8*j+8 by omega,Nat.shiftRight_add,Nat.shiftRight_eq_div_pow (x>>>(8*j)) 8]
theorem app_PG{lo n m:Nat}{xs ys:List Nat}{y:Value}{ty:TypeId}{u:World}{vs:Value}(hlo:lo<=u.heap.size)(hxl:xs.length=n)(hyl:ys.length=m)(hl:n+m<=1000000)(hy:NW m (U8 ys) u y)(h:PG lo 1 n (U8 xs) u vs):
 ∃v u' b,(Builtin.append_ #[118,118] ty #[vs,y]).run Tryz.prog u= .ok v u'/\lo<=b/\u.grownBy u' (some b)/\PG lo 1 (n+m) (U8 (xs++ys)) u' v:=by
 obtain⟨b,cap,zs,rfl,h1,h2,h3,h4,h5⟩:=h
 obtain⟨ti,hti,htm⟩:=Option.map_eq_some_iff.1 infoB
 simp only[Prod.mk.injEq] at htm
 obtain⟨hzv,hsz,hby⟩:=htm
 obtain⟨v',u',hr,hg,b',cap',zs',rfl,g1,g2,g3,g4,g5⟩:=U2 (P:=Tryz.prog) u (ty:=ty) Tryz.underlying118 hti hzv (by rw[hsz];rfl) (base:=u.heap.size) (n:=n) (cap:=cap) (m:=m) (news:=U8 ys) h5 h2 (by rw[hsz,Zd];omega) (by rw[hsz];omega) h3 (Nat.le_refl _) hy (by rw[hsz,Zd];omega) U8_mem (by rw[hby];omega) (by omega)
 refine⟨_,u',b,hr,h1,hg,b',cap',zs',rfl,by omega,g2,g3,by rw[hsz] at g4;exact g4,by rw[U8_app];exact g5⟩
section
variable {R:Rg} {P:Program} {ops:Array Oper} {Q:Exit->Act->World->Prop} {f:Nat->Bool} {t:Nat->Value} {u:World} {a:Act} {i:Nat} {o:Oper}
theorem g_aEE(m m2 n:Nat)(p p2 p':World->Value->Prop){T:TypeId}{j d j2 d2:Nat}(hp: ∀(f:Nat->Bool) (u:World) (vs ys:Value),KC f u R.lo R.base R.es->Below R.lo R.w u->R.base<=u.heap.size->p u vs->p2 u ys-> ∃v u' b,(Builtin.append_ #[T,T] o.type #[vs,ys]).run P u= .ok v u'/\R.base<=b/\u.grownBy u' (some b)/\p' u' v)(hop:o.op= .call {callee:= .builtin .append,args:=[.tmp d,.tmp d2].toArray,argTypes:=[T,T].toArray}:=by rfl)(hm:R.E[m]?=some ⟨j,d,some i,p⟩:=by rfl)(hm2:R.E[m2]?=some ⟨j2,d2,some i,p2⟩:=by rfl)(hn0:(R.E[n]?).map (·.p)=some p':=by rfl)(hw0:R.nw=[]:=by rfl)
 (hd:(Y9 o j&&R.S.contains d&&(Y9 o j2&&R.S.contains d2)&&((R.E.eraseIdx n).all (eGone R.O i o)))=true:=by rfl)(hc:R.chkE ops n i o=true:=by rfl):OG R P ops Q i o:=fun f t u a X=>by
 simp only[Bool.and_eq_true,List.contains_iff_mem] at hd
 obtain⟨⟨⟨h2,h4⟩,h6,h7⟩,h5⟩:=hd
 obtain⟨d',q',hd',hq',⟨e1,e2⟩,k1,k2,k3,k4,k5,k6,k7,hw⟩:=Zr hc
 have hv:p u (t d):=X.val hm h2 rfl
 have hv2:p2 u (t d2):=X.val hm2 h6 rfl
 obtain⟨v,u',b,hr,hb,hg,hn⟩:=hp f u (t d) (t d2) X.I.2.1 X.I.1.bel X.I.1.sz hv hv2
 refine X.go hw fun K hK=>Tk hop (X.inS h4) (X.inS h7) hr (hK _ _ ⟨updT t d' v,by rw[hd'];exact X.F.put X.parts.1 k3 v,?_,KC.free k7 (KC.grown hg hb X.I.1.sz X.I.2.1),Gs.other k1 X.I.2.2.1,Xl k6 X.I.2.2.2.1 X.dep,Ns.step X.I.2.2.2.2.1 k2,?_⟩)
 ·have hM:=X.I.1
  rw[hw0] at hM⊢
  exact{bel:=hM.bel.grown hg (Nat.le_trans hM.lo hM.sz) (fun k e=>by cases e;exact Nat.le_trans hM.lo hb),lo:=hM.lo,sz:=Nat.le_trans hM.sz hg.size,ks:=trivial,ex:=trivial,nw:=trivial,nd:=trivial}
 ·exact Es.last (O:=R.O) (fun j hj=>X.later (by unfold Rg.later;rw[hj];simp)) X.dep (by rw[hq',<-e1,<-e2]) h5 (by rw[hq'] at hn0;cases hn0;exact hn)
end
end
theorem Wq:EnT 175:=fun _ _=>by kernel_rfl
theorem bsB0(x:Nat)(w:World):(Instr.buildSlice 118 1 ([0].zip [.int .u8 (x:Int)]).toArray).run Tryz.prog w= .ok (.slice (some ⟨w.heap.size,0,none⟩) 1 1) (w.alloc (.cells (U8 [x]).toArray 5)):=by kernel_rfl
theorem PS_NW{lo n:Nat}{xs:List Nat}{u:World}{y:Value}(h:PS lo n (U8 xs) u y):NW n (U8 xs) u y:=by
 obtain⟨b,cap,rfl,_,h2,h3,h4⟩:=h
 exact⟨_,cap,rfl,.inr ⟨_,rfl,fun j v hj=>by rw[Addr.add0];exact(h4 j v hj).1⟩⟩
theorem neq_it(p q:Operand)(x y:Int)(b:Bool)(w:World)(h:decide (x≠y)=b):(do eqGuard .neq 3 p q (.int .i64 x) (.int .i64 y);binOp .neq 3 (.int .i64 x) (.int .i64 y):Sem Value).run Tryz.prog w= .ok (.bool b) w:=by
 subst h;go_simp
 first | done | (by_cases e:x=y<;>simp[e])
theorem Tv(p q:Operand)(x y:Int)(b:Bool)(w:World)(h:decide (y<=x)=b):(do eqGuard .geq 3 p q (.int .i64 x) (.int .i64 y);binOp .geq 3 (.int .i64 x) (.int .i64 y):Sem Value).run Tryz.prog w= .ok (.bool b) w:=by
 subst h;go_simp
theorem quo64(p q:Operand)(x y:Nat)(w:World)(h1:x<18446744073709551616)(h2:0<y):(do eqGuard .quo 22 p q (.int .u64 x) (.int .u64 y);binOp .quo 22 (.int .u64 x) (.int .u64 y):Sem Value).run Tryz.prog w= .ok (.int .u64 ((x/y:Nat):Int)) w:=by
 have e0:((x:Int)).tdiv y=((x/y:Nat):Int):=by rw[Int.tdiv_eq_ediv_of_nonneg (Int.natCast_nonneg _)];simp
 have hle:x/y<=x:=Nat.div_le_self _ _
 obtain⟨z,hz⟩: ∃z,x/y=z:=⟨_,rfl⟩
 rw[hz] at e0 hle⊢
 have e:IntKind.u64.wrap (z:Int)=(z:Int):=W8 _ (by omega) (by omega)
 have hy:(y:Int)≠0:=by omega
 have hy2: ¬y=0:=by omega
 go_simp
def lenV2:Value->Nat
 | .slice _ n _=>n
 | _=>0
theorem ixB0(g n cap j:Nat)(h:j<n)(w:World):(Instr.indexAt 118 (.slice (some ⟨g,0,none⟩) n cap) (.int .i64 j)).run Tryz.prog w= .ok (.pointer (some ⟨g,j,none⟩)) w:=by
 have:=ixB g 0 n cap j h w
 rwa [Nat.zero_add] at this
theorem NW_full{u:World}{b n cap:Nat}{xs:List Nat}(hl:xs.length=n)(h:CV u b (U8 xs)):NW n (U8 xs) u (.slice (some ⟨b,0,none⟩) n cap):=
 ⟨_,cap,rfl,.inr ⟨_,rfl,fun j v hj=>by rw[Addr.add0];exact(h j v hj).1⟩⟩
theorem cPadR_core(n cap no N:Nat)(sl:Option Addr)(xs ps:List Nat)(tF:Nat->List Nat)(nF:Nat->Nat)(w:World)(hn:n<=100000)(hno64:no<64)(hxs:xs.length=n)(hN:N=n+1+no+8)(hno:Hid (∀k,k<=no->((n+1+k)%64=56↔k=no)))(ht0:Hid (tF 0=List.replicate 8 0))(hts:Hid (∀j,tF (j+1)=(tF j).set (7 -j) (nF j%256)))(htB:Hid (∀j,BB 8 (tF j)))(hn0:Hid (nF 0=n*8))(hns:Hid (∀j,nF (j+1)=nF j/256))(hnl:Hid (∀j,nF j<18446744073709551616))(hpad:Hid (ps=xs++[128]++List.replicate no 0++tF 8))
 (happ:Hid (∀(u:World) (vs:Value),Bw w u->PZ w.heap.size u vs-> ∃v u',(Builtin.append_ #[118,118] 118 #[vs,(.slice sl n cap)]).run Tryz.prog u= .ok v u'/\Bw u u'/\PG w.heap.size 1 n (U8 xs) u' v)):
 Calls Tryz.prog 175 #[(.slice sl n cap)] w fun e w'=> ∃v,e= .returned v/\PG w.heap.size 1 N (U8 ps) w' v/\Bw w w':=by
 go_enter Tryz.func175,Tryz.ntmps175
 have HB0:Bw w w:=Below.refl _ _
 obtain⟨ti,hti,htm⟩:=Option.map_eq_some_iff.1 infoB
 simp only[Prod.mk.injEq] at htm
 obtain⟨hzv,hsz,hby⟩:=htm
 have K0_1:=Bk.nil (w.heap.size) w
 go_upto_region 1 with fail
 apply Rf K0_1 HB0 [] [] [(1,8,_)] [(5,4)] [] [⟨0,7,some 2,PZ w.heap.size⟩,⟨2,9,some 4,PG w.heap.size 1 n (U8 xs)⟩,⟨3,10,some 4,PS w.heap.size 1 (U8 [128])⟩,⟨4,11,some 5,PG w.heap.size 1 (n+1) (U8 (xs++[128]))⟩,⟨5,3,none,PG w.heap.size 1 (n+1) (U8 (xs++[128]))⟩] []
 ·exact oc (g_bs 0 (PZ w.heap.size) bs0b (fun u hu=>PZ.new hu))<|oc g_mv<|oc (g_a1 0 1 (PZ w.heap.size) (PG w.heap.size 1 n (U8 xs)) (fun u vs hB hs hv=>happ.out u vs hB hv))<|oc (g_bR 2 (PS w.heap.size 1 (U8 [128])) [0] [.int .u8 128] (U8 [128]) (bsB0 128) (fun u hu=>PS.new 1 _ _ u hu))<|oc (g_aEE 1 2 3 (PG w.heap.size 1 n (U8 xs)) (PS w.heap.size 1 (U8 [128])) (PG w.heap.size 1 (n+1) (U8 (xs++[128]))) (fun f u vs ys kZ bZ hs hv hy=>app_PG hs hxs rfl (by omega) (PS_NW hy) hv))<|oc (g_sE 3 4 (PG w.heap.size 1 (n+1) (U8 (xs++[128])))) on
 intro u1 v1_0 hv1_0 v1_2 hv1_2 v1_3 hv1_3 v1_4 hv1_4 v1_5 hv1_5 HB1 sz1 K1
 simp only[sQ] at K1⊢
 clear HB0
 obtain⟨b3,c3,zs,rfl,ho1,ho2,hc3,hz3,hoC⟩:=hv1_5 rfl
 rw[Nat.mul_one] at hz3
 go_wp2_with fail
 go_loopw [3] (fun s3 wr=> ∃(k b3 c3:Nat) (zs:List Value),k<=no/\s3= .slice (some ⟨b3,0,none⟩) (n+1+k) c3/\n+1+k<=c3/\zs.length=c3 -(n+1+k)/\w.heap.size<=b3/\b3<wr.heap.size/\Hid (CV wr b3 (U8 (xs++[128]++List.replicate k 0)++zs))/\Bw w wr) (fun s3 _=>n+1+no -lenV2 s3)
 case atStart=>exact⟨0,b3,c3,zs,by omega,rfl,hc3,hz3,ho1,ho2,(by rw[List.replicate_zero,List.append_nil];exact hoC),HB1⟩
 case round=>
  clear ho1 ho2 hc3 hz3 hoC
  obtain⟨k,b3,c3,zs,hk,rfl,hc3,hz3,hb3,hl3,Kv,HBr⟩:=hrel
  clear HB1
  have h56:=hno.out k hk
  have e64:(n+1+k)%64<64:=Nat.mod_lt _ (by decide)
  by_cases hj:k<no
  ·have hl1:decide ((((n+1+k)%64:Nat):Int)≠56)=true:=by simp;omega
   have hxl:(xs++[128]++List.replicate k 0).length=n+1+k:=by rw[List.length_append,List.length_append,List.length_replicate,hxs];rfl
   have K1_2:Bk w.heap.size wr [(true,b3,U8 (xs++[128]++List.replicate k 0)++zs)]:=⟨.o hl3 (by omega) Kv.out<|trivial,by simp⟩
   go_upto_region 2 with fail
   apply Rn K1_2 HBr [(0,12,_),(1,13,_),(2,14,_),(3,15,_)]
   ·exact oc g_mv<|oc (g_ln Tryz.underlying118)<|oc (g_bn (fun uZ=>rem_n _ _ (n+1+k) 64 uZ (by omega) (by decide)))<|oc (g_bn (fun uZ=>neq_it _ _ (((n+1+k)%64:Nat):Int) 56 true uZ hl1)) on
   intro u2 HB2 sz2 K2
   simp only[sQ] at K2⊢
   go_upto_region 3 with fail
   apply Rf K2 HB2 [.all 2 ([])] [] [(0,16,_)] [(3,0),(3,2)] [(3,3)] [⟨1,17,some 2,PS w.heap.size 1 (U8 [0])⟩,⟨2,18,some 3,PH u2.heap.size b3 ti.size (n+1+k+1) (U8 (xs++[128]++List.replicate k 0)++U8 [0])⟩,⟨3,3,none,PH u2.heap.size b3 ti.size (n+1+k+1) (U8 (xs++[128]++List.replicate k 0)++U8 [0])⟩] [false]
   ·exact oc g_mv<|oc (g_bR 0 (PS w.heap.size 1 (U8 [0])) [0] [.int .u8 0] (U8 [0]) (bsB0 0) (fun u hu=>PS.new 1 _ _ u (Nat.le_trans HB2.size hu)))<|oc (g_pE 0 0 1 (PS w.heap.size 1 (U8 [0])) (U8 (xs++[128]++List.replicate k 0)) zs (U8 [0]) Tryz.underlying118 hti hzv (by rw[hsz];rfl) rfl (fun u y hy=>PS_NW hy) U8_mem (by rw[hsz];rfl) (by rw[hsz,Zd,hxl];omega) (by rw[hsz];omega) hc3 (by rw[hby];omega) (by omega))<|oc (g_sE 1 2 (PH u2.heap.size b3 ti.size (n+1+k+1) (U8 (xs++[128]++List.replicate k 0)++U8 [0]))) on
   intro u3 v3_1 hv3_1 v3_2 hv3_2 v3_3 hv3_3 HB3 sz3 K3
   simp only[sQ] at K3⊢
   clear K2 HB2
   obtain⟨b6,c6,zs6,rfl,hb6,hl6,hc6,hz6,Kv6⟩:=hv3_3 rfl
   rw[hsz] at hz6
   rw[<-U8_app,List.append_assoc,show ([0]:List Nat)=List.replicate 1 0 from rfl,List.replicate_append_replicate] at Kv6
   go_wp2
   refine⟨⟨k+1,b6,c6,zs6,by omega,rfl,hc6,by omega,by omega,hl6,Kv6,HB3⟩,?_⟩
   simp[lenV2]<;>omega
  ·have hkn:k=no:=by omega
   subst hkn
   have hl1:decide ((((n+1+k)%64:Nat):Int)≠56)=false:=by simp;omega
   have K1_2:Bk w.heap.size wr [(true,b3,U8 (xs++[128]++List.replicate k 0)++zs)]:=⟨.o hl3 (by omega) Kv.out<|trivial,by simp⟩
   go_upto_region 2 with fail
   apply Rn K1_2 HBr [(0,12,_),(1,13,_),(2,14,_),(3,15,_)]
   ·exact oc g_mv<|oc (g_ln Tryz.underlying118)<|oc (g_bn (fun uZ=>rem_n _ _ (n+1+k) 64 uZ (by omega) (by decide)))<|oc (g_bn (fun uZ=>neq_it _ _ (((n+1+k)%64:Nat):Int) 56 false uZ hl1)) on
   intro u2 HB2 sz2 K2
   simp only[sQ] at K2⊢
   go_upto_region 4 with fail
   apply Rn K2 HB2 [(0,19,_),(1,20,_),(2,21,_),(3,22,_),(4,4,_)]
   ·exact oc g_mv<|oc (g_ln Tryz.underlying118)<|oc (g_op (fun ev uZ he=>cvi64 uZ (by omega) rfl (he _ _ rfl)))<|oc (g_bn (fun uZ=>mul64 _ _ n 8 (n*8) uZ rfl (by omega)))<|oc g_as on
   intro u3 HB3 sz3 K3
   simp only[sQ] at K3⊢
   clear K2 HB2
   have hlt3:=(K3.lt 0)
   have hlo3:=HB3.size
   go_upto_region 5 with fail
   refine Rf K3 HB3 [] [] [] [] [] [⟨0,23,some 1,PF u3.heap.size 8 (U8 (List.replicate 8 0))⟩,⟨1,5,none,PF u3.heap.size 8 (U8 (List.replicate 8 0))⟩] [] (.cons (fun _ _ _ h1 h2=>h2.stab h1)<| .cons (fun _ _ _ h1 h2=>h2.stab h1)<|Stab.nil) ?_ ?_
   ·exact oc (g_ms 0 (PF u3.heap.size 8 (U8 (List.replicate 8 0))) (mkB .i64 8 (by decide)) (fun u hu=>PF.new 8 _ _ u hu))<|oc (g_sE 0 1 (PF u3.heap.size 8 (U8 (List.replicate 8 0)))) on
   intro u4 v4_0 hv4_0 v4_1 hv4_1 HB4 sz4 K4
   simp only[sQ] at K4⊢
   clear HB3
   obtain⟨bt,rfl,hot1,hot2,hotC⟩:=hv4_1 rfl
   have K4_3:Bk w.heap.size u4 [(true,b3,U8 (xs++[128]++List.replicate k 0)++zs),(true,bt,U8 (List.replicate 8 0))]:=⟨.o (K4.lt 0) (by omega) (K4.cv 0)<| .o hot2 (by omega) hotC<|trivial,by simp;omega⟩
   go_upto_region 6 with fail
   apply Rn K4_3 HB4 [(0,6,_)]
   ·exact oc g_as on
   intro u5 HB5 sz5 K5
   simp only[sQ] at K5⊢
   clear HB4
   have hlb:=(K5.lt 0)
   have hlt:=(K5.lt 1)
   go_wp2_with fail
   go_loopw [6,4] (fun s6 s4 wr=> ∃(j:Nat),j<=8/\s6= .int .i64 (7 -(j:Int))/\s4= .int .u64 ((nF j:Nat):Int)/\b3<wr.heap.size/\Hid (CV wr b3 (U8 (xs++[128]++List.replicate k 0)++zs))/\bt<wr.heap.size/\Hid (CV wr bt (U8 (tF j)))/\Bw w wr) (fun s6 _ _=>(intOf s6+1).toNat)
   case atStart=>exact⟨0,by omega,rfl,(by rw[hn0.out];simp),(K5.lt 0),(K5.cv 0),(K5.lt 1),(by rw[ht0.out];exact(K5.cv 1)),HB5⟩
   case round=>
    clear Kv HBr hl1 hl3 hot2 hotC
    obtain⟨j,hj8,rfl,rfl,hl3,Kv,hlt,Kt,HBr⟩:=hrel
    clear HB5
    by_cases hj:j<8
    ·have hl1:decide ((0:Int)<=7 -(j:Int))=true:=by simp;omega
     have hS:=hts.out j
     have hN:=hns.out j
     have hnl:=hnl.out j
     have htl:=(htB.out j).len
     obtain⟨tl,etl⟩: ∃x,tF j=x:=⟨_,rfl⟩
     obtain⟨q,eq⟩: ∃x,nF j=x:=⟨_,rfl⟩
     rw[etl] at hS htl Kt
     rw[eq] at hS hN hnl
     try rw[eq]
     have gi:=Yy tl (7 -j) (by omega)
     obtain⟨y,ey⟩: ∃x,tl.getD (7 -j) 0=x:=⟨_,rfl⟩
     rw[ey] at gi
     have e7:(7:Int) -(j:Int)=((7 -j:Nat):Int):=by omega
     try rw[e7]
     have e71:((7 -j:Nat):Int) -1=7 -((j+1:Nat):Int):=by omega
     have e256:q%256%256=q%256:=by omega
     rw[e7] at hl1
     have hS:Hid _:=hS
     have hN:Hid _:=hN
     clear etl eq ey
     have hnK:=K5.n
     simp at hnK
     have hoK0:=K5.lo 0
     have hoK1:=K5.lo 1
     have K5_4:Bk w.heap.size wr [(true,b3,U8 (xs++[128]++List.replicate k 0)++zs),(true,bt,U8 tl)]:=⟨.o hl3 (K5.lo 0) Kv.out<| .o hlt (K5.lo 1) Kt.out<|trivial,by simp;omega⟩
     go_upto_region 7 with fail
     apply Rn K5_4 HBr [(0,24,_),(1,25,_)]
     ·exact oc g_mv<|oc (g_bn (fun uZ=>Tv _ _ ((7 -j:Nat):Int) 0 _ uZ hl1)) on
     intro u6 HB6 sz6 K6
     simp only[sQ] at K6⊢
     go_upto_region 9 with fail
     apply Rp K6 HB6 [.no,.all 6 (U8 (tl.set (7 -j) (q%256)))] [] [(0,28,_),(1,29,_),(2,30,_),(3,31,_),(4,32,_),(5,33,_)] [] [] []
     ·exact oc g_mv<|oc g_mv<|oc g_mv<|oc (g_bn (fun uZ=>rem64 _ _ q 256 uZ hnl (by decide)))<|oc (g_op (fun ev uZ he=>(cv648 uZ rfl (he _ _ rfl)).trans (by rw[e256])))<|oc (g_ix (fun uZ=>ixB0 bt 8 8 (7 -j) (by omega) uZ))<|oc (g_sw 1 (7 -j) s8 gi (Ur _ _ _)) on
     intro u7 HB7 sz7 K7
     simp only[sQ] at K7⊢
     clear K6 HB6
     go_upto_region 10 with fail
     apply Rp K7 HB7 [] [] [(0,34,_),(1,35,_),(2,4,_)] [(2,0)] [(2,4)] []
     ·exact oc g_mv<|oc (g_bn (fun uZ=>quo64 _ _ q 256 uZ hnl (by decide)))<|oc g_as on
     intro u8 HB8 sz8 K8
     simp only[sQ] at K8⊢
     clear K7 HB7
     go_upto_region 8 with fail
     apply Rp K8 HB8 [] [] [(0,26,_),(1,27,_),(2,6,_)] [(2,0)] [(2,6)] []
     ·exact oc g_mv<|oc (g_bn (fun uZ=>Xt _ _ ((7 -j:Nat):Int) 1 (7 -((j+1:Nat):Int)) uZ e71 (by omega) (by omega)))<|oc g_as on
     intro u9 HB9 sz9 K9
     simp only[sQ] at K9⊢
     clear K8 HB8
     go_wp2
     refine⟨⟨j+1,by omega,rfl,by rw[hN.out],(K9.lt 0),(K9.cv 0),(K9.lt 1),(by rw[hS.out];exact(K9.cv 1)),HB9⟩,?_⟩
     simp[intOf]<;>omega
    ·have hj8:j=8:=by omega
     subst hj8
     have hl1:decide ((0:Int)<=7 -((8:Nat):Int))=false:=by decide
     have htl:=(htB.out 8).len
     have hnK:=K5.n
     simp at hnK
     have hoK0:=K5.lo 0
     have hoK1:=K5.lo 1
     have hxl:(xs++[128]++List.replicate k 0).length=n+1+k:=by rw[List.length_append,List.length_append,List.length_replicate,hxs];rfl
     have K5_4:Bk w.heap.size wr [(true,b3,U8 (xs++[128]++List.replicate k 0)++zs),(false,bt,U8 (tF 8))]:=⟨.o hl3 (K5.lo 0) Kv.out<| .c hlt Kt.out<|trivial,by simp;omega⟩
     go_upto_region 7 with fail
     apply Rn K5_4 HBr [(0,24,_),(1,25,_)]
     ·exact oc g_mv<|oc (g_bn (fun uZ=>Tv _ _ (7 -((8:Nat):Int)) 0 _ uZ hl1)) on
     intro u6 HB6 sz6 K6
     simp only[sQ] at K6⊢
     go_upto_region 11 with fail
     apply Rf K6 HB6 [.all 2 ([])] [] [(0,36,_),(1,37,_)] [(3,2)] [] [⟨2,38,some 3,PH u6.heap.size b3 ti.size (n+1+k+8) (U8 (xs++[128]++List.replicate k 0)++U8 (tF 8))⟩,⟨3,2,none,PH u6.heap.size b3 ti.size (n+1+k+8) (U8 (xs++[128]++List.replicate k 0)++U8 (tF 8))⟩] [false]
     ·exact oc g_mv<|oc g_mv<|oc (g_pV 0 0 (U8 (xs++[128]++List.replicate k 0)) zs (U8 (tF 8)) Tryz.underlying118 hti hzv (by rw[hsz];rfl) rfl (fun f u kZ bZ=>NW_full htl (kZ.cv 1)) U8_mem (by rw[hsz,Zd,htl]) (by rw[hsz,Zd,hxl];omega) (by rw[hsz];omega) hc3 (by rw[hby];omega) (by omega))<|oc (g_sE 0 1 (PH u6.heap.size b3 ti.size (n+1+k+8) (U8 (xs++[128]++List.replicate k 0)++U8 (tF 8)))) on
     intro u7 v7_2 hv7_2 v7_3 hv7_3 HB7 sz7 K7
     simp only[sQ] at K7⊢
     clear K6 HB6
     obtain⟨b6,c6,zs6,rfl,hb6,hl6,hc6,hz6,Kv6⟩:=hv7_3 rfl
     rw[hsz] at hz6
     rw[<-U8_app,<-hpad.out] at Kv6
     have Kv6:Hid _:=Kv6
     have e6:(Value.slice (some ⟨b6,0,none⟩) (n+1+k+8) c6)= .slice (some ⟨b6,0,none⟩) N c6:=by rw[hN]
     clear hpad
     have e6:Hid _:=e6
     have hc6:N<=c6:=by omega
     have hz6:zs6.length=c6 -N:=by omega
     clear hN
     go_wp2
     refine bodyPost_ret (v:= .slice (some ⟨b6,0,none⟩) (n+1+k+8) c6) (by simp[results,Tryz.results175,go_sem]) rfl ⟨_,rfl,⟨b6,c6,zs6,(by first | rfl | exact e6.out),by omega,hl6,(by omega),by omega,Kv6.out⟩,HB7⟩
theorem cPadR(xs:List Nat)(v:Value)(w:World)(hin:IN w w.heap.size v xs)(hl:xs.length<=100000):
 Calls Tryz.prog 175 #[v] w fun e w'=> ∃v,e= .returned v/\PG w.heap.size 1 (pad xs).length (U8 (pad xs)) w' v/\Bw w w':=by
 have hin0:=hin
 obtain⟨sl,cap,gb,go,rfl,h1,h2,h3,h4⟩:=hin
 exact cPadR_core xs.length cap (nou xs.length) (pad xs).length sl xs (pad xs) (tlF xs.length) (fun j=>(xs.length*8)>>>(8*j)) w hl (nou_lt _) rfl (by rw[pad_len];omega) (fun k hk=>nou_56 _ k (by omega) hk) rfl (fun _=>rfl) (tlF_B _) rfl (fun j=>(shr_next _ j).symm) (fun j=>by
  have:(xs.length*8)>>>(8*j)<=xs.length*8:=by rw[Nat.shiftRight_eq_div_pow];exact Nat.div_le_self _ _
  omega) (pad_is xs) (fun u vs hB hv=>app_PZ hB.size (by omega) ((hin0.below hB).mono hB.size) hv)
end
end Go.Proofs.YtbbohmgjphpfeaaGreatDoor
