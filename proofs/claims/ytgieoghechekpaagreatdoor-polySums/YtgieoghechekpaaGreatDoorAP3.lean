import Derived.Test.YtgieoghechekpaaGreatDoorAP1
namespace Go.Proofs.YtgieoghechekpaaGreatDoor
set_option linter.unusedVariables false
set_option linter.unusedSimpArgs false
set_option maxRecDepth 100000
set_option maxHeartbeats 4000000
open Go.RowKit
theorem allX_core(sl:Option Addr)(gb go cap:Nat)(ps:List (Int×Int))(xs:List Int)(w:World)(hxl:Hid (xs.length=ps.length))(hxs:Hid (∀k,k<ps.length->xs.getD k 0=(ps.getD k (0,0)).1))(hix:Hid (∀j,j<ps.length-> ∀W,(Instr.indexAt 31 (.slice sl ps.length cap) (.int .i64 j)).run Tryz.prog W= .ok (.pointer (some ⟨gb,go+8*j,none⟩)) W))(hg:ps.length=0\/gb<w.heap.size)(hS:Hid (SN w gb go (flt ps)))(hns:ps.length<=1000):
 Calls Tryz.prog 44 #[.slice sl ps.length cap] w fun e' w'=> ∃y,e'= .returned y/\PRw w.heap.size xs w' y/\Bw w w':=by
 have hmk:=mkNt ps.length hns
 go_enter Tryz.func44,Tryz.ntmps44
 go_wp2_with fail
 go_loopw [11] (fun s11 wr=> ∃(k:Nat),k<=ps.length/\s11= .int .i64 (k:Int)/\Bw w wr/\CV wr (w.heap.size) (flN (rowN xs k))/\w.heap.size<wr.heap.size) (fun s11 _=>ps.length -(intOf s11).toNat)
 case atStart=>exact⟨0,by omega,rfl,Z0 (Z2 w) _,by rw[rowN_0,hxl.out];exact CV.new w _ _,by simp⟩
 case round=>
  obtain⟨k,hk,rfl,HBr,C0,lC0⟩:=hrel
  by_cases hj:k<ps.length
  ·have hl:decide ((k:Int)<(ps.length:Int))=true:=by simp;omega
   have hkx:k<xs.length:=by rw[hxl.out];exact hj
   have hX:=hix.out _ hj
   have hX:Hid _:=hX
   have hR:=hS.out.pt _ hj
   have hR:Hid _:=hR
   have hv:=hxs.out k hj
   obtain⟨y,ey⟩: ∃y,(ps.getD k (0,0)).2=y:=⟨_,rfl⟩
   obtain⟨x,ex⟩: ∃x,(ps.getD k (0,0)).1=x:=⟨_,rfl⟩
   rw[ey,ex] at hR
   rw[ex] at hv
   clear ey ex
   have hXL:=X0 (vs:=xs) (k:=k) (by omega)
   have hNx:=Yo (vs:=xs) (k:=k) (by omega)
   rw[Y7 (vs:=xs) (k:=k) (by omega)] at C0
   obtain⟨X,eX⟩: ∃X,flN (List.take k xs)=X:=⟨_,rfl⟩
   obtain⟨Z,eZ⟩: ∃Z,flN (List.replicate (List.length xs -(k+1)) 0)=Z:=⟨_,rfl⟩
   rw[eX] at hXL hNx C0
   rw[eZ] at hNx C0
   clear eX eZ
   rw[hv] at hNx
   clear hv hkx
   have hXL:Hid _:=hXL
   have hNx:Hid _:=hNx
   have K0_1:Bk w.heap.size wr [(true,w.heap.size,X++LN 0++Z)]:=⟨.o lC0 (by omega) C0<|trivial,by simp⟩
   go_upto_region 3 with fail
   refine rgP K0_1 HBr HBr.size [] [] [(0,12,.bool true)] [] [] [] ?_ ?_
   ·exact oc (g_bn (fun uZ=>Zc _ _ (k:Int) (ps.length:Int) _ uZ hl)) on
   intro u1 HB1 sz1 K1
   simp only[sQ] at K1⊢
   go_upto_region 4 with fail
   refine rgP K1 HB1 HB1.size [] [(3,5,L0p,some (5,PtE x y))] [(0,13,.int .i64 (k:Int)),(1,14,.pointer (some ⟨gb,go+8*k,none⟩)),(2,15,PtX x y),(4,4,.int .i64 (k:Int))] [(5,3)] [] [] ?_ ?_
   ·exact oc g_mv<|oc (g_ix (fun uZ=>hX.out uZ))<|oc (g_lf hR.out (hg.resolve_left (by omega)) Tryz.underlying41 Zi)<|oc (g_al 0 Xa)<|oc g_as<|oc (g_sn 0 Zi) on
   intro u2 b2_3 HB2 sz2 K2
   simp only[sQ] at K2⊢
   clear K1 HB1
   go_upto_region 5 with fail
   refine rgP K2 HB2 HB2.size [.all 5 (X++LN x++Z)] [] [(0,16,.slice (some ⟨w.heap.size,0,none⟩) ps.length ps.length),(1,17,.int .i64 (k:Int)),(2,18,.pointer (some ⟨b2_3,0,none⟩)),(3,19,NV x),(4,20,.pointer (some ⟨w.heap.size,4*k,none⟩))] [] [] [true,false] ?_ ?_
   ·exact oc g_mv<|oc g_mv<|oc (g_fd (fun uZ=>fdP0 _ 0 uZ))<|oc (g_lo 1 0 uN iN)<|oc (g_ix (fun uZ=>ixZ _ _ _ k hj uZ))<|oc (g_sm 0 (4*k) X (LN 0) Z (post:=LN x) (hxc:=hXL.out) iN) on
   intro u3 HB3 sz3 K3
   simp only[sQ] at K3⊢
   clear K2 HB2
   go_upto_region 6 with fail
   refine rgP K3 HB3 HB3.size [] [] [(0,21,.int .i64 ((k+1:Nat):Int)),(1,11,.int .i64 ((k+1:Nat):Int))] [(1,0)] [(1,11)] [] ?_ ?_
   ·exact oc (g_bn (fun uZ=>Yt _ _ (k:Int) 1 ((k+1:Nat):Int) uZ (by omega) (by omega) (by omega)))<|oc g_mv on
   intro u4 HB4 sz4 K4
   simp only[sQ] at K4⊢
   clear K3 HB3
   go_wp2
   refine⟨⟨k+1,by omega,rfl,HB4,by rw[hNx.out];exact(K4.cv 0),(K4.lt 0)⟩,?_⟩
   simp[intOf]<;>omega
  ·have hl:decide ((k:Int)<(ps.length:Int))=false:=by simp;omega
   have hkn:k=ps.length:=by omega
   have K0_1:Bk w.heap.size wr [(true,w.heap.size,flN (rowN xs k))]:=⟨.o lC0 (by omega) C0<|trivial,by simp⟩
   go_upto_region 3 with fail
   refine rgP K0_1 HBr HBr.size [] [] [(0,12,.bool false)] [] [] [] ?_ ?_
   ·exact oc (g_bn (fun uZ=>Zc _ _ (k:Int) (ps.length:Int) _ uZ hl)) on
   intro u1 HB1 sz1 K1
   simp only[sQ] at K1⊢
   go_upto_region 7 with fail
   refine rgP K1 HB1 HB1.size [] [] [(0,22,.slice (some ⟨w.heap.size,0,none⟩) ps.length ps.length),(1,2,.slice (some ⟨w.heap.size,0,none⟩) ps.length ps.length)] [] [] [] ?_ ?_
   ·exact oc g_mv<|oc g_as on
   intro u2 HB2 sz2 K2
   simp only[sQ] at K2⊢
   clear K1 HB1
   go_wp2
   exact bodyPost_ret (v:= .slice (some ⟨w.heap.size,0,none⟩) ps.length ps.length) (by simp[results,Tryz.results44,go_sem]) rfl ⟨_,rfl,⟨w.heap.size,by rw[hxl.out],Nat.le_refl _,(K2.lt 0),by rw[<-X1 xs,hxl.out,<-hkn];exact(K2.cv 0)⟩,HB2⟩
section
section
variable {R:Rg} {P:Program} {Q:Exit->Act->World->Prop} {ops:Array Oper} {i:Nat} {o:Oper} {a:Act} {u:World}
theorem wp_mS{K:Act->World->Prop}{T:TypeId}{x y:Operand}{vx vy v:Value}{w':World}(ho:o.op= .makeSlice T x y)(hx:a.eval x=vx)(hy:a.eval y=vy)(hr:(Instr.makeSlice T vx vy).run P u= .ok v w')(hk:K (a.put o.dst v) w'):o.wp P a u K Q:=
 Zq (by
  unfold execOp;rw[ho]
  show Sem.run P (do pure (Next.value (<-Instr.makeSlice T (a.eval x) (a.eval y)))) u=_
  rw[hx,hy,Sem.run_bind,hr,Result.andThen_ok,Sem.run_pure]) hk
theorem g_mS(n:Nat)(p:World->Value->Prop)(m:Nat)(cs:List Value){T e:TypeId}{x y:Operand}{vx vy:Value}(hr: ∀w,(Instr.makeSlice T vx vy).run P w= .ok (.slice (some ⟨w.heap.size,0,none⟩) m m) (w.alloc (.cells cs.toArray e)))(hp: ∀u:World,R.base<=u.heap.size->p (u.alloc (.cells cs.toArray e)) (.slice (some ⟨u.heap.size,0,none⟩) m m))(hop:o.op= .makeSlice T x y:=by rfl)(hx:evR R i o x=some vx:=by rfl)(hy:evR R i o y=some vy:=by rfl)(hn:(R.E[n]?).map (·.p)=some p:=by rfl)(hc:R.chkE ops n i o=true:=by rfl):OG R P ops Q i o:=fun f t u a X=>by
 obtain⟨d,q,hd,hq,_,_,_,_,_,_,_,_,hw⟩:=Zh hc
 exact X.go hw fun K hK=>wp_mS hop (X.ev hx) (X.ev hy) (hr u) (hK _ _ (X.putE hc (fun q hq=>by rw[hq] at hn;cases hn;exact hp u X.I.1.sz) (Z0 (Z2 u) _)))
end
def PRz(lo n:Nat)(u:World)(v:Value):Prop:= ∃b,v= .slice (some ⟨b,0,none⟩) n n/\lo<=b/\b<u.heap.size/\CV u b (flN (List.replicate n 0))
theorem PRz.stab{lo n:Nat}{u u2:World}{x:Value}(hB:Bw u u2)(h:PRz lo n u x):PRz lo n u2 x:=by
 obtain⟨b,e,h1,h2,h3⟩:=h
 exact⟨b,e,h1,Nat.lt_of_lt_of_le h2 hB.size,h3.below hB h2⟩
theorem PRz.new{lo n:Nat}{T:TypeId}(u:World)(h:lo<=u.heap.size):PRz lo n (u.alloc (.cells (flN (List.replicate n 0)).toArray T)) (.slice (some ⟨u.heap.size,0,none⟩) n n):=
 ⟨_,rfl,h,by simp,CV.new u _ _⟩
theorem dvd_small{m g:Int}(h:g∣1)(hg:0<=g):g=1:=by
 have h1:=Int.le_of_dvd (by omega) h
 by_cases h0:g=0
 ·subst h0;obtain⟨k,hk⟩:=h;simp at hk
 ·omega
theorem inv_gcd{a m x:Int}(h:IsInv a m x)(ha:0<=a)(hm:0<m):gI m a=1:=by
 have hg0:0<=gI m a:=by unfold gI;omega
 have hdm:gI m a∣m:=by
  have:((Nat.gcd m.toNat a.toNat:Nat):Int)∣(m.toNat:Int):=Int.natCast_dvd_natCast.2 (Nat.gcd_dvd_left _ _)
  rw[Int.toNat_of_nonneg (by omega)] at this;exact this
 have hda:gI m a∣a:=by
  have:((Nat.gcd m.toNat a.toNat:Nat):Int)∣(a.toNat:Int):=Int.natCast_dvd_natCast.2 (Nat.gcd_dvd_right _ _)
  rw[Int.toNat_of_nonneg ha] at this;exact this
 refine dvd_small (m:=m) ?_ hg0
 have h1:gI m a∣x*a -1:=Int.dvd_trans hdm h.2.2
 have h2:gI m a∣x*a:=Int.dvd_mul_of_dvd_right hda
 have:=Int.dvd_sub h2 h1
 rwa [show x*a -(x*a -1)=1 by omega] at this
def Invs(q:Int)(ns vs:List Int):Prop:=vs.length=ns.length/\ ∀i,i<ns.length->IsInv (dsN q ns i ns.length%q) q (vs.getD i 0)
end
def ahN(q t:Int)(ns:List Int):Nat->Int
 | 0=>1
 | i+1=>(ahN q t ns i*((t -ns.getD i 0)%q))%q
def bhN(q t:Int)(ns:List Int):Nat->Int
 | 0=>1
 | i+1=>(bhN q t ns i*((t -ns.getD (ns.length -1 -i) 0)%q))%q
theorem ahN_In{q t:Int}{ns:List Int}(hq:In q)(hq0:q≠0): ∀i,In (ahN q t ns i)
 | 0=>In_1
 | i+1=>Zd hq hq0
theorem bhN_In{q t:Int}{ns:List Int}(hq:In q)(hq0:q≠0): ∀i,In (bhN q t ns i)
 | 0=>In_1
 | i+1=>Zd hq hq0
theorem Xf:EnT 62:=fun _ _=>by kernel_rfl
theorem Yh:EnT 41:=fun _ _=>by kernel_rfl
theorem baseOf_core(q:Int)(sl:Option Addr)(gb go cap:Nat)(ns vs:List Int)(w:World)(hq:In q)(hq0:q≠0)(hvl:Hid (vs.length=ns.length))(hvs:Hid (∀i,i<ns.length->IsInv (dsN q ns i ns.length%q) q (vs.getD i 0)))(hix:Hid (∀j,j<ns.length-> ∀W,(Instr.indexAt 25 (.slice sl ns.length cap) (.int .i64 j)).run Tryz.prog W= .ok (.pointer (some ⟨gb,go+4*j,none⟩)) W))(hg:ns.length=0\/gb<w.heap.size)(hS:Hid (SN w gb go ns))(hn:Hid (∀k,k<ns.length->In (ns.getD k 0)))(hns:ns.length<=1000):
 Calls Tryz.prog 40 #[NV q,.slice sl ns.length cap] w fun e' w'=> ∃vd,e'= .returned (.tuple #[BX q (.slice sl ns.length cap) vd,.nilIface])/\PRw w.heap.size vs w' vd/\Bw w w':=by
 have hmk:=mkNt ns.length hns
 go_enter Tryz.func40,Tryz.ntmps40
 go_wp2_with fail
 go_loopw [16] (fun s16 wr=> ∃(k:Nat),k<=ns.length/\s16= .int .i64 (k:Int)/\Bw w wr/\CV wr (w.heap.size) (LN q)/\w.heap.size<wr.heap.size/\CV wr (w.heap.size+1) (L0b)/\w.heap.size+1<wr.heap.size/\CV wr (w.heap.size+1+1) (flN (rowN vs k))/\w.heap.size+1+1<wr.heap.size) (fun s16 _=>ns.length -(intOf s16).toNat)
 case atStart=>exact⟨0,by omega,rfl,Z0 (Z0 (Z0 (Z2 w) _) _) _,((CV.new w (LN q) 24).below (Z0 (Z2 (w.alloc (.cells (LN q:List Value).toArray 24))) _) (by simp)).below (Z0 (Z2 ((w.alloc (.cells (LN q:List Value).toArray 24)).alloc (.cells (L0b:List Value).toArray 76))) _) (by simp<;>omega),by (simp<;>omega),(CV.newAt (w.alloc (.cells (LN q:List Value).toArray 24)) L0b 76 _ (by simp)).below (Z0 (Z2 ((w.alloc (.cells (LN q:List Value).toArray 24)).alloc (.cells (L0b:List Value).toArray 76))) _) (by simp<;>omega),by (simp<;>omega),by rw[rowN_0,hvl.out];exact CV.newAt ((w.alloc (.cells (LN q:List Value).toArray 24)).alloc (.cells (L0b:List Value).toArray 76)) _ _ _ (by simp),by (simp<;>omega)⟩
 case round=>
  obtain⟨k,hk,rfl,HBr,C0,lC0,C1,lC1,C2,lC2⟩:=hrel
  by_cases hj:k<ns.length
  ·have hl:decide ((k:Int)<(ns.length:Int))=true:=by simp;omega
   have hkx:k<vs.length:=by rw[hvl.out];exact hj
   have hX:=hix.out _ hj
   have hX:Hid _:=hX
   have hR:=hS.out.at _ hj
   have hR:Hid _:=hR
   have iz:In (dsN q ns k ns.length):=dsN_In hq hq0 _
   have hv:=hvs.out k hj
   have hgz:=inv_gcd hv (Int.emod_nonneg _ hq0) (by have:=hq.1;omega)
   have hD:Hid (∀u,Bw w u->CC 62 #[NV q,.int .i64 (k:Int),.slice sl ns.length cap] u (NV (dsN q ns k ns.length))):=fun u bZ=>pDistance_core q k sl gb go cap ns u hq hq0 hj hix (hg.imp id (fun h=>Nat.lt_of_lt_of_le h bZ.size)) (hS.out.below2 bZ hg) hn hns
   obtain⟨x,ex⟩: ∃x,ns.getD k 0=x:=⟨_,rfl⟩
   rw[ex] at hR
   clear ex
   obtain⟨z,ez⟩: ∃z,dsN q ns k ns.length=z:=⟨_,rfl⟩
   rw[ez] at iz hv hgz hD
   clear ez
   have hXL:=X0 (vs:=vs) (k:=k) (by omega)
   have hNx:=Yo (vs:=vs) (k:=k) (by omega)
   rw[Y7 (vs:=vs) (k:=k) (by omega)] at C2
   obtain⟨X,eX⟩: ∃X,flN (List.take k vs)=X:=⟨_,rfl⟩
   obtain⟨Z,eZ⟩: ∃Z,flN (List.replicate (List.length vs -(k+1)) 0)=Z:=⟨_,rfl⟩
   rw[eX] at hXL hNx C2
   rw[eZ] at hNx C2
   clear eX eZ
   obtain⟨y,ey⟩: ∃y,vs.getD k 0=y:=⟨_,rfl⟩
   rw[ey] at hv hNx
   clear ey hkx
   have hXL:Hid _:=hXL
   have hNx:Hid _:=hNx
   have K0_1:Bk w.heap.size wr [(false,w.heap.size,LN q),(true,w.heap.size+1,L0b),(true,w.heap.size+1+1,X++LN 0++Z)]:=⟨.c lC0 C0<| .o lC1 (by omega) C1<| .o lC2 (by omega) C2<|trivial,by simp<;>omega⟩
   go_upto_region 3 with fail
   refine rgP K0_1 HBr HBr.size [] [] [(0,17,.bool true)] [] [] [] ?_ ?_
   ·exact oc (g_bn (fun uZ=>Zc _ _ (k:Int) (ns.length:Int) _ uZ hl)) on
   intro u1 HB1 sz1 K1
   simp only[sQ] at K1⊢
   go_upto_region 4 with fail
   refine rgP K1 HB1 HB1.size [] [(3,8,L0s,some (5,LN x))] [(0,18,.int .i64 (k:Int)),(1,19,.pointer (some ⟨gb,go+4*k,none⟩)),(2,20,NV x),(4,7,.int .i64 (k:Int))] [(5,3)] [] [true,true,true,false] ?_ ?_
   ·exact oc g_mv<|oc (g_ix (fun uZ=>hX.out uZ))<|oc (g_lf hR.out (hg.resolve_left (by omega)) uN iN)<|oc (g_al 0 aN)<|oc g_as<|oc (g_sn 0 iN) on
   intro u2 b2_3 HB2 sz2 K2
   simp only[sQ] at K2⊢
   clear K1 HB1
   go_upto_region 5 with fail
   refine rgD K2 HB2 HB2.size [] [(9,9,L0s,some (10,LN y))] [(0,22,NV q),(1,23,.int .i64 (k:Int)),(2,24,.slice sl ns.length cap),(3,25,NV z),(4,26,NV q),(5,27,.tuple #[NV y,.int .i64 0]),(6,21,.tuple #[NV y,.int .i64 0]),(7,28,NV y),(8,29,.int .i64 0),(11,10,.int .i64 0)] [(10,9)] [] [] ?_ ?_
   ·exact oc (g_ld 0 uN iN)<|oc g_mv<|oc g_mv<|oc (g_cb Xf (fun uZ bZ=>hD.out uZ bZ))<|oc (g_ld 0 uN iN)<|oc (g_cl ent_mod_Inverse (fun uZ=>mInverse z q y uZ iz hq hq0 hgz hv))<|oc g_mv<|oc g_ex<|oc g_ex<|oc (g_al 0 aN)<|oc (g_sn 0 iN)<|oc g_as on
   intro u3 b3_9 HB3 sz3 K3
   simp only[sQ] at K3⊢
   clear K2 HB2
   go_upto_region 6 with fail
   refine rgP K3 HB3 HB3.size [] [] [(0,30,.int .i64 0),(1,31,.bool false)] [] [] [] ?_ ?_
   ·exact oc g_mv<|oc (g_bn (fun uZ=>neq_i _ _ _ 0 0 _ uZ rfl)) on
   intro u4 HB4 sz4 K4
   simp only[sQ] at K4⊢
   clear K3 HB3
   go_upto_region 8 with fail
   refine rgP K4 HB4 HB4.size [.no,.no,.all 4 (X++LN y++Z)] [] [(0,41,.slice (some ⟨w.heap.size+1+1,0,none⟩) ns.length ns.length),(1,42,.int .i64 (k:Int)),(2,43,NV y),(3,44,.pointer (some ⟨w.heap.size+1+1,4*k,none⟩))] [] [] [true,true,true,false] ?_ ?_
   ·exact oc g_mv<|oc g_mv<|oc (g_ld 3 uN iN)<|oc (g_ix (fun uZ=>ixZ _ _ _ k hj uZ))<|oc (g_sm 2 (4*k) X (LN 0) Z (post:=LN y) (hxc:=hXL.out) iN) on
   intro u5 HB5 sz5 K5
   simp only[sQ] at K5⊢
   clear K4 HB4
   go_upto_region 9 with fail
   refine rgP K5 HB5 HB5.size [] [] [(0,45,.int .i64 ((k+1:Nat):Int)),(1,16,.int .i64 ((k+1:Nat):Int))] [(1,0)] [(1,16)] [] ?_ ?_
   ·exact oc (g_bn (fun uZ=>Yt _ _ (k:Int) 1 ((k+1:Nat):Int) uZ (by omega) (by omega) (by omega)))<|oc g_mv on
   intro u6 HB6 sz6 K6
   simp only[sQ] at K6⊢
   clear K5 HB5
   go_wp2
   refine⟨⟨k+1,by omega,rfl,HB6,(K6.cv 0),(K6.lt 0),(K6.cv 1),(K6.lt 1),by rw[hNx.out];exact(K6.cv 2),(K6.lt 2)⟩,?_⟩
   simp[intOf]<;>omega
  ·have hl:decide ((k:Int)<(ns.length:Int))=false:=by simp;omega
   have hkn:k=ns.length:=by omega
   have K0_1:Bk w.heap.size wr [(false,w.heap.size,LN q),(true,w.heap.size+1,L0b),(true,w.heap.size+1+1,flN (rowN vs k))]:=⟨.c lC0 C0<| .o lC1 (by omega) C1<| .o lC2 (by omega) C2<|trivial,by simp<;>omega⟩
   go_upto_region 3 with fail
   refine rgP K0_1 HBr HBr.size [] [] [(0,17,.bool false)] [] [] [] ?_ ?_
   ·exact oc (g_bn (fun uZ=>Zc _ _ (k:Int) (ns.length:Int) _ uZ hl)) on
   intro u1 HB1 sz1 K1
   simp only[sQ] at K1⊢
   go_upto_region 10 with fail
   refine rgP K1 HB1 HB1.size [.no,.all 4 (BE q (.slice sl ns.length cap) (.slice (some ⟨w.heap.size+1+1,0,none⟩) ns.length ns.length))] [] [(0,46,NV q),(1,47,.slice sl ns.length cap),(2,48,.slice (some ⟨w.heap.size+1+1,0,none⟩) ns.length ns.length),(3,49,BX q (.slice sl ns.length cap) (.slice (some ⟨w.heap.size+1+1,0,none⟩) ns.length ns.length)),(5,5,Go.Value.nilIface)] [] [] [] ?_ ?_
   ·exact oc (g_ld 0 uN iN)<|oc g_mv<|oc g_mv<|oc (g_bd (fun uZ=>bdB q _ _ _ _ _ _ uZ))<|oc (g_st 1 Zw)<|oc g_as on
   intro u2 HB2 sz2 K2
   simp only[sQ] at K2⊢
   clear K1 HB1
   have c0:=((K2.cv 1) 0 _ rfl).1
   have c1:=((K2.cv 1) 1 _ rfl).1
   have c2:=((K2.cv 1) 2 _ rfl).1
   have c3:=((K2.cv 1) 3 _ rfl).1
   have c4:=((K2.cv 1) 4 _ rfl).1
   have c5:=((K2.cv 1) 5 _ rfl).1
   go_wp2
   exact bodyPost_ret (v:= .tuple #[BX q (.slice sl ns.length cap) (.slice (some ⟨w.heap.size+1+1,0,none⟩) ns.length ns.length),.nilIface]) (by simp[results,Tryz.results40,go_sem,c0,c1,c2,c3,c4,c5]) rfl ⟨_,rfl,⟨w.heap.size+1+1,by rw[hvl.out],by omega,(K2.lt 2),by rw[<-X1 vs,hvl.out,<-hkn];exact(K2.cv 2)⟩,HB2⟩
def rowM(f g:List Int)(k:Nat):List Int:=f.take (f.length -k)++g.drop (f.length -k)
theorem rowM_0{f g:List Int}(h:g.length=f.length):rowM f g 0=f:=by simp[rowM,h]
theorem rowM_end{f g:List Int}(h:g.length=f.length):rowM f g f.length=g:=by simp[rowM]
theorem rowM_split{f g:List Int}{k i:Nat}(h:g.length=f.length)(hk:k<f.length)(hi:f.length -1 -k=i):flN (rowM f g k)=flN (f.take i)++LN (f.getD i 0)++flN (g.drop (i+1)):=by
 have e:f.length -k=i+1:=by omega
 rw[rowM,e,Y4,List.take_add_one,List.getElem?_eq_getElem (show i<f.length by omega),Y4]
 simp[flN,List.getElem?_eq_getElem (show i<f.length by omega)]
theorem rowM_next{f g:List Int}{k i:Nat}(h:g.length=f.length)(hk:k<f.length)(hi:f.length -1 -k=i):flN (rowM f g (k+1))=flN (f.take i)++LN (g.getD i 0)++flN (g.drop (i+1)):=by
 have e:f.length -(k+1)=i:=by omega
 have hig:i<g.length:=by omega
 rw[rowM,e,Y4,List.drop_eq_getElem_cons hig,flN]
 simp[List.getElem?_eq_getElem hig]
theorem factors_core(q t:Int)(sx sd:Option Addr)(gx ox cx gd od cd:Nat)(ns vs f1 f2:List Int)(w:World)(hq:In q)(hq0:q≠0)(ht:In t)(hix:Hid (∀j,j<ns.length-> ∀W,(Instr.indexAt 25 (.slice sx ns.length cx) (.int .i64 j)).run Tryz.prog W= .ok (.pointer (some ⟨gx,ox+4*j,none⟩)) W))(hg:ns.length=0\/gx<w.heap.size)(hS:Hid (SN w gx ox ns))(hn:Hid (∀k,k<ns.length->In (ns.getD k 0)))(hns:ns.length<=1000)(hixd:Hid (∀j,j<ns.length-> ∀W,(Instr.indexAt 25 (.slice sd ns.length cd) (.int .i64 j)).run Tryz.prog W= .ok (.pointer (some ⟨gd,od+4*j,none⟩)) W))(hgd:ns.length=0\/gd<w.heap.size)(hSd:Hid (SN w gd od vs))(hnd:Hid (∀k,k<ns.length->In (vs.getD k 0)))(hvl:Hid (vs.length=ns.length))(hf1l:Hid (f1.length=ns.length))(hf2l:Hid (f2.length=f1.length))(hf1:Hid (∀i,i<ns.length->f1.getD i 0=vs.getD i 0*ahN q t ns i%q))(hf2:Hid (∀i,i<ns.length->f2.getD i 0=f1.getD i 0*bhN q t ns (ns.length -1 -i)%q)):
 Calls Tryz.prog 41 #[BX q (.slice sx ns.length cx) (.slice sd ns.length cd),NV t] w fun e' w'=> ∃y,e'= .returned y/\PRw w.heap.size f2 w' y/\Bw w w':=by
 go_enter Tryz.func41,Tryz.ntmps41
 go_upto_region 1 with fail
 generalize hC:((w.alloc (.cells (BE q (.slice sx ns.length cx) (.slice sd ns.length cd):List Value).toArray 76)).alloc (.cells (LN t:List Value).toArray 24))=v0 at *
 have HB0:Bw w v0:=by rw[<-hC];exact Z0 (Z0 (Z2 w) _) _
 have K0:Bk w.heap.size v0 [(true,w.heap.size,BE q (.slice sx ns.length cx) (.slice sd ns.length cd)),(true,w.heap.size+1,LN t)]:=by rw[<-hC];exact(Bk.nil _ w).ad.ad
 clear hC
 have hv0:w.heap.size<=v0.heap.size:=HB0.size
 refine rgF K0 HB0 HB0.size [] [] [(0,12,.pointer (some ⟨w.heap.size,4,none⟩)),(1,13,.slice sx ns.length cx),(2,14,.int .i64 (ns.length:Int))] [] [] [⟨3,15,some 4,PRz v0.heap.size ns.length⟩,⟨4,5,none,PRz v0.heap.size ns.length⟩] [] (.cons (fun _ _ _ h1 h2=>h2.stab h1)<| .cons (fun _ _ _ h1 h2=>h2.stab h1)<|Stab.nil) ?_ ?_
 ·exact oc (g_fd (fun uZ=>fdB1 _ uZ))<|oc (g_lc 0 4 lSN)<|oc (g_ln Tryz.underlying25)<|oc (g_mS 0 (PRz v0.heap.size ns.length) ns.length (flN (List.replicate ns.length 0)) (mkNt _ hns) (fun u h=>PRz.new u h))<|oc (g_sE 0 1 (PRz v0.heap.size ns.length)) on
 intro u1 v1_3 hv1_3 v1_4 hv1_4 HB1 sz1 K1
 simp only[sQ] at K1⊢
 clear HB0
 obtain⟨bo,rfl,o1,o2,o3⟩:=hv1_4 rfl
 have K1xo:=Bk.more3 K0 K1 o1 o2 o3 (by intro x hx;first | (simp at hx;done) | (simp at hx⊢;omega))
 simp only[aK] at K1xo
 clear K1
 have hbo:w.heap.size<=bo:=Nat.le_trans hv0 o1
 go_upto_region 2 with fail
 refine rgP K1xo HB1 HB1.size [] [(2,6,L0s,some (4,LN 1)),(3,7,L0s,some (5,LN 1))] [(0,16,NV 1),(1,17,NV 1)] [(4,2),(5,3)] [] [] ?_ ?_
 ·exact oc (g_cl Zf (fun uZ=>nOf 1 uZ (by omega) (by omega)))<|oc (g_cl Zf (fun uZ=>nOf 1 uZ (by omega) (by omega)))<|oc (g_al 0 aN)<|oc (g_al 1 aN)<|oc (g_sn 0 iN)<|oc (g_sn 1 iN) on
 intro u2 b2_2 b2_3 HB2 sz2 K2
 simp only[sQ] at K2⊢
 clear HB1
 go_upto_region 3 with fail
 refine rgP K2 HB2 HB2.size [] [] [(0,18,.pointer (some ⟨w.heap.size,4,none⟩)),(1,19,.slice sx ns.length cx),(2,20,.int .i64 (ns.length:Int)),(3,21,(Go.Value.int Go.IntKind.i64 0))] [] [] [] ?_ ?_
 ·exact oc (g_fd (fun uZ=>fdB1 _ uZ))<|oc (g_lc 0 4 lSN)<|oc (g_ln Tryz.underlying25)<|oc g_mv on
 intro u3 HB3 sz3 K3
 simp only[sQ] at K3⊢
 clear K2 HB2
 go_wp2_with fail
 go_loopw [21] (fun s21 wr=> ∃(k:Nat),k<=ns.length/\s21= .int .i64 (k:Int)/\Bw w wr/\CV wr (w.heap.size) (BE q (.slice sx ns.length cx) (.slice sd ns.length cd))/\w.heap.size<wr.heap.size/\CV wr (w.heap.size+1) (LN t)/\w.heap.size+1<wr.heap.size/\CV wr bo (flN (rowN f1 k))/\bo<wr.heap.size/\CV wr b2_2 (LN (ahN q t ns k))/\b2_2<wr.heap.size/\CV wr b2_3 (LN 1)/\b2_3<wr.heap.size) (fun s21 _=>ns.length -(intOf s21).toNat)
 case atStart=>exact⟨0,by omega,rfl,HB3,(K3.cv 0),(K3.lt 0),(K3.cv 1),(K3.lt 1),by rw[rowN_0,hf1l.out];exact(K3.cv 2),(K3.lt 2),(K3.cv 3),(K3.lt 3),(K3.cv 4),(K3.lt 4)⟩
 case round=>
  obtain⟨k,hk,rfl,HBr,C0,lC0,C1,lC1,C2,lC2,C3,lC3,C4,lC4⟩:=hrel
  clear HB3
  have hnK:=K3.n
  simp at hnK
  have hoK3:=K3.lo 3
  have hoK4:=K3.lo 4
  by_cases hj:k<ns.length
  ·have hl:decide ((k:Int)<(ns.length:Int))=true:=by simp;omega
   have hkx:k<f1.length:=by rw[hf1l.out];exact hj
   have hX:=hix.out _ hj
   have hX:Hid _:=hX
   have hR:=hS.out.at _ hj
   have hR:Hid _:=hR
   have hXd:=hixd.out _ hj
   have hXd:Hid _:=hXd
   have hRd:=hSd.out.at k (by rw[hvl.out];exact hj)
   have hRd:Hid _:=hRd
   have ix:=hn.out k hj
   have iv:=hnd.out k hj
   have ia:=ahN_In (t:=t) (ns:=ns) hq hq0 k
   have hv:=hf1.out k hj
   have hA:Hid (ahN q t ns (k+1)=(ahN q t ns k*((t -ns.getD k 0)%q))%q):=rfl
   obtain⟨x,ex⟩: ∃x,ns.getD k 0=x:=⟨_,rfl⟩
   rw[ex] at hR ix hA
   clear ex
   obtain⟨v,ev⟩: ∃v,vs.getD k 0=v:=⟨_,rfl⟩
   rw[ev] at hRd iv hv
   clear ev
   obtain⟨a,ea⟩: ∃a,ahN q t ns k=a:=⟨_,rfl⟩
   rw[ea] at ia hv hA C3
   clear ea
   have hXL:=X0 (vs:=f1) (k:=k) (by omega)
   have hNx:=Yo (vs:=f1) (k:=k) (by omega)
   rw[Y7 (vs:=f1) (k:=k) (by omega)] at C2
   obtain⟨X,eX⟩: ∃X,flN (List.take k f1)=X:=⟨_,rfl⟩
   obtain⟨Z,eZ⟩: ∃Z,flN (List.replicate (List.length f1 -(k+1)) 0)=Z:=⟨_,rfl⟩
   rw[eX] at hXL hNx C2
   rw[eZ] at hNx C2
   clear eX eZ
   rw[hv] at hNx
   clear hv hkx
   have hXL:Hid _:=hXL
   have hNx:Hid _:=hNx
   have K3_1:Bk w.heap.size wr [(false,w.heap.size,BE q (.slice sx ns.length cx) (.slice sd ns.length cd)),(false,w.heap.size+1,LN t),(true,bo,X++LN 0++Z),(true,b2_2,LN a),(true,b2_3,LN 1)]:=⟨.c lC0 C0<| .c lC1 C1<| .o lC2 (by omega) C2<| .o lC3 (K3.lo 3) C3<| .o lC4 (K3.lo 4) C4<|trivial,by simp<;>omega⟩
   go_upto_region 4 with fail
   refine rgP K3_1 HBr HBr.size [] [] [(0,22,.bool true)] [] [] [] ?_ ?_
   ·exact oc (g_bn (fun uZ=>Zc _ _ (k:Int) (ns.length:Int) _ uZ hl)) on
   intro u4 HB4 sz4 K4
   simp only[sQ] at K4⊢
   go_upto_region 5 with fail
   refine rgP K4 HB4 HB4.size [] [(3,9,L0s,some (5,LN x))] [(0,23,.int .i64 (k:Int)),(1,24,.pointer (some ⟨gx,ox+4*k,none⟩)),(2,25,NV x),(4,8,.int .i64 (k:Int))] [(5,3)] [] [] ?_ ?_
   ·exact oc g_mv<|oc (g_ix (fun uZ=>hX.out uZ))<|oc (g_lf hR.out (hg.resolve_left (by omega)) uN iN)<|oc (g_al 0 aN)<|oc g_as<|oc (g_sn 0 iN) on
   intro u5 b5_3 HB5 sz5 K5
   simp only[sQ] at K5⊢
   clear K4 HB4
   go_upto_region 6 with fail
   refine rgD K5 HB5 HB5.size [.no,.no,.all 12 (X++LN (v*a%q)++Z)] [] [(0,26,.slice (some ⟨bo,0,none⟩) ns.length ns.length),(1,27,.int .i64 (k:Int)),(2,28,.pointer (some ⟨w.heap.size,0,none⟩)),(3,29,NV q),(4,30,.pointer (some ⟨w.heap.size,5,none⟩)),(5,31,.slice sd ns.length cd),(6,32,.int .i64 (k:Int)),(7,33,.pointer (some ⟨gd,od+4*k,none⟩)),(8,34,NV v),(9,35,NV a),(10,36,NV (v*a%q)),(11,37,.pointer (some ⟨bo,4*k,none⟩))] [] [] [] ?_ ?_
   ·exact oc g_mv<|oc g_mv<|oc (g_fd (fun uZ=>fdB0 _ uZ))<|oc (g_lo 0 0 uN iN)<|oc (g_fd (fun uZ=>fdB2 _ uZ))<|oc (g_lc 0 5 lSN)<|oc g_mv<|oc (g_ix (fun uZ=>hXd.out uZ))<|oc (g_lf hRd.out (hgd.resolve_left (by omega)) uN iN)<|oc (g_ld 3 uN iN)<|oc (g_cl Zg (fun uZ=>pTimes q v a uZ iv ia hq hq0))<|oc (g_ix (fun uZ=>ixZ _ _ _ k hj uZ))<|oc (g_sm 2 (4*k) X (LN 0) Z (post:=LN (v*a%q)) (hxc:=hXL.out) iN) on
   intro u6 HB6 sz6 K6
   simp only[sQ] at K6⊢
   clear K5 HB5
   go_upto_region 7 with fail
   refine rgD K6 HB6 HB6.size [.no,.no,.no,.all 9 (LN (a*((t -x)%q)%q))] [] [(0,38,.pointer (some ⟨w.heap.size,0,none⟩)),(1,39,NV q),(2,40,NV a),(3,41,.pointer (some ⟨w.heap.size,0,none⟩)),(4,42,NV q),(5,43,NV t),(6,44,NV x),(7,45,NV ((t -x)%q)),(8,46,NV (a*((t -x)%q)%q))] [(9,2)] [] [true,true,true,true,true,false] ?_ ?_
   ·exact oc (g_fd (fun uZ=>fdB0 _ uZ))<|oc (g_lo 0 0 uN iN)<|oc (g_ld 3 uN iN)<|oc (g_fd (fun uZ=>fdB0 _ uZ))<|oc (g_lo 0 0 uN iN)<|oc (g_ld 1 uN iN)<|oc (g_ld 5 uN iN)<|oc (g_cl Y6 (fun uZ=>pMinus q t x uZ ht ix hq hq0))<|oc (g_cl Zg (fun uZ=>pTimes q a ((t -x)%q) uZ ia (Zd hq hq0) hq hq0))<|oc (g_st 3 iN) on
   intro u7 HB7 sz7 K7
   simp only[sQ] at K7⊢
   clear K6 HB6
   go_upto_region 8 with fail
   refine rgP K7 HB7 HB7.size [] [] [(0,47,.int .i64 ((k+1:Nat):Int)),(1,21,.int .i64 ((k+1:Nat):Int))] [(1,0)] [(1,21)] [] ?_ ?_
   ·exact oc (g_bn (fun uZ=>Yt _ _ (k:Int) 1 ((k+1:Nat):Int) uZ (by omega) (by omega) (by omega)))<|oc g_mv on
   intro u8 HB8 sz8 K8
   simp only[sQ] at K8⊢
   clear K7 HB7
   go_wp2
   refine⟨⟨k+1,by omega,rfl,HB8,(K8.cv 0),(K8.lt 0),(K8.cv 1),(K8.lt 1),by rw[hNx.out];exact(K8.cv 2),(K8.lt 2),by rw[hA.out];exact(K8.cv 3),(K8.lt 3),(K8.cv 4),(K8.lt 4)⟩,?_⟩
   simp[intOf]<;>omega
  ·have hl:decide ((k:Int)<(ns.length:Int))=false:=by simp;omega
   have hkn:k=f1.length:=by rw[hf1l.out];omega
   rw[hkn,X1] at C2
   clear hkn
   have K3_1:Bk w.heap.size wr [(false,w.heap.size,BE q (.slice sx ns.length cx) (.slice sd ns.length cd)),(false,w.heap.size+1,LN t),(true,bo,flN f1),(true,b2_2,LN (ahN q t ns k)),(true,b2_3,LN 1)]:=⟨.c lC0 C0<| .c lC1 C1<| .o lC2 (by omega) C2<| .o lC3 (K3.lo 3) C3<| .o lC4 (K3.lo 4) C4<|trivial,by simp<;>omega⟩
   go_upto_region 4 with fail
   refine rgP K3_1 HBr HBr.size [] [] [(0,22,.bool false)] [] [] [] ?_ ?_
   ·exact oc (g_bn (fun uZ=>Zc _ _ (k:Int) (ns.length:Int) _ uZ hl)) on
   intro u4 HB4 sz4 K4
   simp only[sQ] at K4⊢
   go_upto_region 9 with fail
   refine rgP K4 HB4 HB4.size [] [] [(0,48,.pointer (some ⟨w.heap.size,4,none⟩)),(1,49,.slice sx ns.length cx),(2,50,.int .i64 (ns.length:Int)),(3,51,(Go.Value.int Go.IntKind.i64 0))] [] [] [] ?_ ?_
   ·exact oc (g_fd (fun uZ=>fdB1 _ uZ))<|oc (g_lc 0 4 lSN)<|oc (g_ln Tryz.underlying25)<|oc g_mv on
   intro u5 HB5 sz5 K5
   simp only[sQ] at K5⊢
   clear K4 HB4
   clear hk
   go_wp2_with fail
   go_loopw [51] (fun s51 wr=> ∃(m:Nat),m<=ns.length/\s51= .int .i64 (m:Int)/\Bw w wr/\CV wr (w.heap.size) (BE q (.slice sx ns.length cx) (.slice sd ns.length cd))/\w.heap.size<wr.heap.size/\CV wr (w.heap.size+1) (LN t)/\w.heap.size+1<wr.heap.size/\CV wr bo (flN (rowM f1 f2 m))/\bo<wr.heap.size/\CV wr b2_3 (LN (bhN q t ns m))/\b2_3<wr.heap.size) (fun s51 _=>ns.length -(intOf s51).toNat)
   case atStart=>exact⟨0,by omega,rfl,HB5,(K5.cv 0),(K5.lt 0),(K5.cv 1),(K5.lt 1),by rw[rowM_0 hf2l.out];exact(K5.cv 2),(K5.lt 2),(K5.cv 4),(K5.lt 4)⟩
   case round=>
    obtain⟨m,hm,rfl,HBs,D0,lD0,D1,lD1,D2,lD2,D3,lD3⟩:=hrel
    clear HB5
    have hnK:=K5.n
    simp at hnK
    have hoK2:=K5.lo 2
    have hoK3:=K5.lo 3
    have hoK4:=K5.lo 4
    by_cases hj:m<ns.length
    ·have hl2:decide ((m:Int)<(ns.length:Int))=true:=by simp;omega
     obtain⟨i,ei⟩: ∃i,ns.length -1 -m=i:=⟨_,rfl⟩
     have hji:i<ns.length:=by omega
     have hi2:f1.length -1 -m=i:=by rw[hf1l.out];exact ei
     have hX:=hix.out _ hji
     have hX:Hid _:=hX
     have hR:=hS.out.at _ hji
     have hR:Hid _:=hR
     have ix:=hn.out i hji
     have ib:=bhN_In (t:=t) (ns:=ns) hq hq0 m
     have hv:=hf2.out i hji
     have hy:In (f1.getD i 0):=by rw[hf1.out i hji];exact Zd hq hq0
     have hA:Hid (bhN q t ns (m+1)=(bhN q t ns m*((t -ns.getD i 0)%q))%q):=by rw[<-ei];rfl
     rw[show ns.length -1 -i=m by omega] at hv
     have hXL:(flN (f1.take i)).length=4*i:=by rw[flN_len,List.length_take,hf1l.out];omega
     have hNx:=rowM_next (f:=f1) (g:=f2) hf2l.out (by rw[hf1l.out];exact hj) hi2
     rw[rowM_split hf2l.out (by rw[hf1l.out];exact hj) hi2] at D2
     have hjm:(ns.length:Int) -1 -m=(i:Int):=by omega
     clear hi2 ei
     obtain⟨X,eX⟩: ∃X,flN (f1.take i)=X:=⟨_,rfl⟩
     obtain⟨Z,eZ⟩: ∃Z,flN (f2.drop (i+1))=Z:=⟨_,rfl⟩
     rw[eX] at hXL hNx D2
     rw[eZ] at hNx D2
     rw[hv] at hNx
     clear eX eZ hv
     obtain⟨x,ex⟩: ∃x,ns.getD i 0=x:=⟨_,rfl⟩
     rw[ex] at hR ix hA
     clear ex
     obtain⟨y,ey⟩: ∃y,f1.getD i 0=y:=⟨_,rfl⟩
     rw[ey] at hNx hy D2
     clear ey
     obtain⟨b,eb⟩: ∃b,bhN q t ns m=b:=⟨_,rfl⟩
     rw[eb] at ib hA hNx D3
     clear eb
     have hXL:Hid _:=hXL
     have hNx:Hid _:=hNx
     have hjm:Hid _:=hjm
     have K5_2:Bk w.heap.size wr [(false,w.heap.size,BE q (.slice sx ns.length cx) (.slice sd ns.length cd)),(false,w.heap.size+1,LN t),(true,bo,X++LN y++Z),(true,b2_3,LN b)]:=⟨.c lD0 D0<| .c lD1 D1<| .o lD2 (K5.lo 2) D2<| .o lD3 (K5.lo 4) D3<|trivial,by simp<;>omega⟩
     go_upto_region 10 with fail
     refine rgP K5_2 HBs HBs.size [] [] [(0,52,.bool true)] [] [] [] ?_ ?_
     ·exact oc (g_bn (fun uZ=>Zc _ _ (m:Int) (ns.length:Int) _ uZ hl2)) on
     intro u6 HB6 sz6 K6
     simp only[sQ] at K6⊢
     go_upto_region 11 with fail
     refine rgP K6 HB6 HB6.size [] [] [(0,53,.int .i64 (m:Int)),(1,10,.int .i64 (m:Int))] [] [] [] ?_ ?_
     ·exact oc g_mv<|oc g_as on
     intro u7 HB7 sz7 K7
     simp only[sQ] at K7⊢
     clear K6 HB6
     go_upto_region 12 with fail
     refine rgP K7 HB7 HB7.size [] [] [(0,54,.pointer (some ⟨w.heap.size,4,none⟩)),(1,55,.slice sx ns.length cx),(2,56,.int .i64 (ns.length:Int)),(3,57,.int .i64 ((ns.length:Int) -1)),(4,58,.int .i64 (m:Int)),(5,59,.int .i64 (i:Int)),(6,11,.int .i64 (i:Int))] [] [] [] ?_ ?_
     ·exact oc (g_fd (fun uZ=>fdB1 _ uZ))<|oc (g_lc 0 4 lSN)<|oc (g_ln Tryz.underlying25)<|oc (g_bn (fun uZ=>sub_i _ _ (ns.length:Int) 1 _ uZ rfl (by omega) (by omega)))<|oc g_mv<|oc (g_bn (fun uZ=>sub_i _ _ ((ns.length:Int) -1) (m:Int) _ uZ hjm.out (by omega) (by omega)))<|oc g_as on
     intro u8 HB8 sz8 K8
     simp only[sQ] at K8⊢
     clear K7 HB7
     go_upto_region 13 with fail
     refine rgD K8 HB8 HB8.size [.no,.no,.all 11 (X++LN (y*b%q)++Z)] [] [(0,60,.slice (some ⟨bo,0,none⟩) ns.length ns.length),(1,61,.int .i64 (i:Int)),(2,62,.pointer (some ⟨w.heap.size,0,none⟩)),(3,63,NV q),(4,64,.slice (some ⟨bo,0,none⟩) ns.length ns.length),(5,65,.int .i64 (i:Int)),(6,66,.pointer (some ⟨bo,4*i,none⟩)),(7,67,NV y),(8,68,NV b),(9,69,NV (y*b%q)),(10,70,.pointer (some ⟨bo,4*i,none⟩))] [(11,7)] [] [] ?_ ?_
     ·exact oc g_mv<|oc g_mv<|oc (g_fd (fun uZ=>fdB0 _ uZ))<|oc (g_lo 0 0 uN iN)<|oc g_mv<|oc g_mv<|oc (g_ix (fun uZ=>ixZ _ _ _ i hji uZ))<|oc (g_lR 2 (4*i) (cs:=LN y) (mid_at hXL.out) uN iN)<|oc (g_ld 3 uN iN)<|oc (g_cl Zg (fun uZ=>pTimes q y b uZ hy ib hq hq0))<|oc (g_ix (fun uZ=>ixZ _ _ _ i hji uZ))<|oc (g_sm 2 (4*i) X (LN y) Z (post:=LN (y*b%q)) (hxc:=hXL.out) iN) on
     intro u9 HB9 sz9 K9
     simp only[sQ] at K9⊢
     clear K8 HB8
     go_upto_region 14 with fail
     refine rgD K9 HB9 HB9.size [.no,.no,.no,.all 13 (LN (b*((t -x)%q)%q))] [] [(0,71,.pointer (some ⟨w.heap.size,0,none⟩)),(1,72,NV q),(2,73,NV b),(3,74,.pointer (some ⟨w.heap.size,0,none⟩)),(4,75,NV q),(5,76,NV t),(6,77,.pointer (some ⟨w.heap.size,4,none⟩)),(7,78,.slice sx ns.length cx),(8,79,.int .i64 (i:Int)),(9,80,.pointer (some ⟨gx,ox+4*i,none⟩)),(10,81,NV x),(11,82,NV ((t -x)%q)),(12,83,NV (b*((t -x)%q)%q))] [(13,2)] [] [] ?_ ?_
     ·exact oc (g_fd (fun uZ=>fdB0 _ uZ))<|oc (g_lo 0 0 uN iN)<|oc (g_ld 3 uN iN)<|oc (g_fd (fun uZ=>fdB0 _ uZ))<|oc (g_lo 0 0 uN iN)<|oc (g_ld 1 uN iN)<|oc (g_fd (fun uZ=>fdB1 _ uZ))<|oc (g_lc 0 4 lSN)<|oc g_mv<|oc (g_ix (fun uZ=>hX.out uZ))<|oc (g_lf hR.out (hg.resolve_left (by omega)) uN iN)<|oc (g_cl Y6 (fun uZ=>pMinus q t x uZ ht ix hq hq0))<|oc (g_cl Zg (fun uZ=>pTimes q b ((t -x)%q) uZ ib (Zd hq hq0) hq hq0))<|oc (g_st 3 iN) on
     intro u10 HB10 sz10 K10
     simp only[sQ] at K10⊢
     clear K9 HB9
     go_upto_region 15 with fail
     refine rgP K10 HB10 HB10.size [] [] [(0,84,.int .i64 ((m+1:Nat):Int)),(1,51,.int .i64 ((m+1:Nat):Int))] [(1,0)] [(1,51)] [] ?_ ?_
     ·exact oc (g_bn (fun uZ=>Yt _ _ (m:Int) 1 ((m+1:Nat):Int) uZ (by omega) (by omega) (by omega)))<|oc g_mv on
     intro u11 HB11 sz11 K11
     simp only[sQ] at K11⊢
     clear K10 HB10
     go_wp2
     refine⟨⟨m+1,by omega,rfl,HB11,(K11.cv 0),(K11.lt 0),(K11.cv 1),(K11.lt 1),by rw[hNx.out];exact(K11.cv 2),(K11.lt 2),by rw[hA.out];exact(K11.cv 3),(K11.lt 3)⟩,?_⟩
     simp[intOf]<;>omega
    ·have hl2:decide ((m:Int)<(ns.length:Int))=false:=by simp;omega
     have hmn:m=f1.length:=by rw[hf1l.out];omega
     rw[hmn,rowM_end hf2l.out] at D2
     clear hmn
     have K5_2:Bk w.heap.size wr [(false,w.heap.size,BE q (.slice sx ns.length cx) (.slice sd ns.length cd)),(false,w.heap.size+1,LN t),(true,bo,flN f2),(true,b2_3,LN (bhN q t ns m))]:=⟨.c lD0 D0<| .c lD1 D1<| .o lD2 (K5.lo 2) D2<| .o lD3 (K5.lo 4) D3<|trivial,by simp<;>omega⟩
     go_upto_region 10 with fail
     refine rgP K5_2 HBs HBs.size [] [] [(0,52,.bool false)] [] [] [] ?_ ?_
     ·exact oc (g_bn (fun uZ=>Zc _ _ (m:Int) (ns.length:Int) _ uZ hl2)) on
     intro u6 HB6 sz6 K6
     simp only[sQ] at K6⊢
     go_upto_region 16 with fail
     refine rgP K6 HB6 HB6.size [] [] [(0,85,.slice (some ⟨bo,0,none⟩) ns.length ns.length),(1,4,.slice (some ⟨bo,0,none⟩) ns.length ns.length)] [] [] [] ?_ ?_
     ·exact oc g_mv<|oc g_as on
     intro u7 HB7 sz7 K7
     simp only[sQ] at K7⊢
     clear K6 HB6
     go_wp2
     exact bodyPost_ret (v:= .slice (some ⟨bo,0,none⟩) ns.length ns.length) (by simp[results,Tryz.results41,go_sem]) rfl ⟨_,rfl,⟨bo,by rw[hf2l.out,hf1l.out],hbo,(K7.lt 2),(K7.cv 2)⟩,HB7⟩
end Go.Proofs.YtgieoghechekpaaGreatDoor
