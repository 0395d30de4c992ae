import Derived.Test.YtgieoghechekpaaDoorAPR
namespace Go.Proofs.YtgieoghechekpaaDoor
set_option linter.unusedVariables false
set_option linter.unusedSimpArgs false
set_option maxRecDepth 100000
set_option maxHeartbeats 4000000
open Go.RowKit
theorem allX_core(sl:Option Addr)(gb go cap:Nat)(ps:List (Int×Int))(xs:List Int)(w:World)(hxl:Hid (xs.length=ps.length))(hxs:Hid (∀k,k<ps.length->xs.getD k 0=(ps.getD k (0,0)).1))(hix:Hid (∀j,j<ps.length-> ∀W,(Instr.indexAt 29 (.slice sl ps.length cap) (.int .i64 j)).run Tryd.prog W= .ok (.pointer (some ⟨gb,go+8*j,none⟩)) W))(hg:ps.length=0\/gb<w.heap.size)(hS:Hid (SN w gb go (flt ps)))(hns:ps.length<=1000):
 Calls Tryd.prog 22 #[.slice sl ps.length cap] w fun e' w'=> ∃y,e'= .returned y/\PRw w.heap.size xs w' y/\Bw w w':=by
 have hmk:=mkNt ps.length hns
 go_enter Tryd.func22,Tryd.ntmps22
 go_wp2_with fail
 go_loopw [11] (fun s11 wr=> ∃(k:Nat),k<=ps.length/\s11= .int .i64 (k:Int)/\Bw w wr/\CV wr (w.heap.size) (flN (rowN xs k))/\w.heap.size<wr.heap.size) (fun s11 _=>ps.length -(intOf s11).toNat)
 case atStart=>exact⟨0,by omega,rfl,Z0 (Z2 w) _,by rw[rowN_0,hxl.out];exact CV.new w _ _,by simp⟩
 case round=>
  obtain⟨k,hk,rfl,HBr,C0,lC0⟩:=hrel
  by_cases hj:k<ps.length
  ·have hl:decide ((k:Int)<(ps.length:Int))=true:=by simp;omega
   have hkx:k<xs.length:=by rw[hxl.out];exact hj
   have hX:=hix.out _ hj
   have hX:Hid _:=hX
   have hR:=hS.out.pt _ hj
   have hR:Hid _:=hR
   have hv:=hxs.out k hj
   obtain⟨y,ey⟩: ∃y,(ps.getD k (0,0)).2=y:=⟨_,rfl⟩
   obtain⟨x,ex⟩: ∃x,(ps.getD k (0,0)).1=x:=⟨_,rfl⟩
   rw[ey,ex] at hR
   rw[ex] at hv
   clear ey ex
   have hXL:=rowN_len (vs:=xs) (k:=k) (by omega)
   have hNx:=rowN_next (vs:=xs) (k:=k) (by omega)
   rw[Yv (vs:=xs) (k:=k) (by omega)] at C0
   obtain⟨X,eX⟩: ∃X,flN (List.take k xs)=X:=⟨_,rfl⟩
   obtain⟨Z,eZ⟩: ∃Z,flN (List.replicate (List.length xs -(k+1)) 0)=Z:=⟨_,rfl⟩
   rw[eX] at hXL hNx C0
   rw[eZ] at hNx C0
   clear eX eZ
   rw[hv] at hNx
   clear hv hkx
   have hXL:Hid _:=hXL
   have hNx:Hid _:=hNx
   have K0_1:Bk w.heap.size wr [(true,w.heap.size,X++LN 0++Z)]:=⟨.o lC0 (by omega) C0<|trivial,by simp⟩
   go_upto_region 3 with fail
   refine rgP K0_1 HBr HBr.size [] [] [(0,12,.bool true)] [] [] [] ?_ ?_
   ·exact oc (g_bn (fun uZ=>Zs _ _ (k:Int) (ps.length:Int) _ uZ hl)) on
   intro u1 HB1 sz1 K1
   simp only[sQ] at K1⊢
   go_upto_region 4 with fail
   refine rgP K1 HB1 HB1.size [] [(3,5,L0p,some (5,PtE x y))] [(0,13,.int .i64 (k:Int)),(1,14,.pointer (some ⟨gb,go+8*k,none⟩)),(2,15,PtX x y),(4,4,.int .i64 (k:Int))] [(5,3)] [] [] ?_ ?_
   ·exact oc g_mv<|oc (g_ix (fun uZ=>hX.out uZ))<|oc (g_lf hR.out (hg.resolve_left (by omega)) Tryd.underlying41 Zp)<|oc (g_al 0 al_poly_Point)<|oc g_as<|oc (g_sn 0 Zp) on
   intro u2 b2_3 HB2 sz2 K2
   simp only[sQ] at K2⊢
   clear K1 HB1
   go_upto_region 5 with fail
   refine rgP K2 HB2 HB2.size [.all 5 (X++LN x++Z)] [] [(0,16,.slice (some ⟨w.heap.size,0,none⟩) ps.length ps.length),(1,17,.int .i64 (k:Int)),(2,18,.pointer (some ⟨b2_3,0,none⟩)),(3,19,NV x),(4,20,.pointer (some ⟨w.heap.size,4*k,none⟩))] [] [] [true,false] ?_ ?_
   ·exact oc g_mv<|oc g_mv<|oc (g_fd (fun uZ=>fdP0 _ 0 uZ))<|oc (g_lo 1 0 uN iN)<|oc (g_ix (fun uZ=>ixZ _ _ _ k hj uZ))<|oc (g_sm 0 (4*k) X (LN 0) Z (post:=LN x) (hxc:=hXL.out) iN) on
   intro u3 HB3 sz3 K3
   simp only[sQ] at K3⊢
   clear K2 HB2
   go_upto_region 6 with fail
   refine rgP K3 HB3 HB3.size [] [] [(0,21,.int .i64 ((k+1:Nat):Int)),(1,11,.int .i64 ((k+1:Nat):Int))] [(1,0)] [(1,11)] [] ?_ ?_
   ·exact oc (g_bn (fun uZ=>add_i _ _ (k:Int) 1 ((k+1:Nat):Int) uZ (by omega) (by omega) (by omega)))<|oc g_mv on
   intro u4 HB4 sz4 K4
   simp only[sQ] at K4⊢
   clear K3 HB3
   go_wp2
   refine⟨⟨k+1,by omega,rfl,HB4,by rw[hNx.out];exact(K4.cv 0),(K4.lt 0)⟩,?_⟩
   simp[intOf]<;>omega
  ·have hl:decide ((k:Int)<(ps.length:Int))=false:=by simp;omega
   have hkn:k=ps.length:=by omega
   have K0_1:Bk w.heap.size wr [(true,w.heap.size,flN (rowN xs k))]:=⟨.o lC0 (by omega) C0<|trivial,by simp⟩
   go_upto_region 3 with fail
   refine rgP K0_1 HBr HBr.size [] [] [(0,12,.bool false)] [] [] [] ?_ ?_
   ·exact oc (g_bn (fun uZ=>Zs _ _ (k:Int) (ps.length:Int) _ uZ hl)) on
   intro u1 HB1 sz1 K1
   simp only[sQ] at K1⊢
   go_upto_region 7 with fail
   refine rgP K1 HB1 HB1.size [] [] [(0,22,.slice (some ⟨w.heap.size,0,none⟩) ps.length ps.length),(1,2,.slice (some ⟨w.heap.size,0,none⟩) ps.length ps.length)] [] [] [] ?_ ?_
   ·exact oc g_mv<|oc g_as on
   intro u2 HB2 sz2 K2
   simp only[sQ] at K2⊢
   clear K1 HB1
   go_wp2
   exact bodyPost_ret (v:= .slice (some ⟨w.heap.size,0,none⟩) ps.length ps.length) (by simp[results,Tryd.results22,go_sem]) rfl ⟨_,rfl,⟨w.heap.size,by rw[hxl.out],Nat.le_refl _,(K2.lt 0),by rw[<-rowN_end xs,hxl.out,<-hkn];exact(K2.cv 0)⟩,HB2⟩
section
section
variable {R:Rg} {P:Program} {Q:Exit->Act->World->Prop} {ops:Array Oper} {i:Nat} {o:Oper} {a:Act} {u:World}
theorem wp_mS{K:Act->World->Prop}{T:TypeId}{x y:Operand}{vx vy v:Value}{w':World}(ho:o.op= .makeSlice T x y)(hx:a.eval x=vx)(hy:a.eval y=vy)(hr:(Instr.makeSlice T vx vy).run P u= .ok v w')(hk:K (a.put o.dst v) w'):o.wp P a u K Q:=
 Zn (by
  unfold execOp;rw[ho]
  show Sem.run P (do pure (Next.value (<-Instr.makeSlice T (a.eval x) (a.eval y)))) u=_
  rw[hx,hy,Sem.run_bind,hr,Result.andThen_ok,Sem.run_pure]) hk
theorem g_mS(n:Nat)(p:World->Value->Prop)(m:Nat)(cs:List Value){T e:TypeId}{x y:Operand}{vx vy:Value}(hr: ∀w,(Instr.makeSlice T vx vy).run P w= .ok (.slice (some ⟨w.heap.size,0,none⟩) m m) (w.alloc (.cells cs.toArray e)))(hp: ∀u:World,R.base<=u.heap.size->p (u.alloc (.cells cs.toArray e)) (.slice (some ⟨u.heap.size,0,none⟩) m m))(hop:o.op= .makeSlice T x y:=by rfl)(hx:evR R i o x=some vx:=by rfl)(hy:evR R i o y=some vy:=by rfl)(hn:(R.E[n]?).map (·.p)=some p:=by rfl)(hc:R.chkE ops n i o=true:=by rfl):OG R P ops Q i o:=fun f t u a X=>by
 obtain⟨d,q,hd,hq,_,_,_,_,_,_,_,_,hw⟩:=Zg hc
 exact X.go hw fun K hK=>wp_mS hop (X.ev hx) (X.ev hy) (hr u) (hK _ _ (X.putE hc (fun q hq=>by rw[hq] at hn;cases hn;exact hp u X.I.1.sz) (Z0 (Z2 u) _)))
end
def PRz(lo n:Nat)(u:World)(v:Value):Prop:= ∃b,v= .slice (some ⟨b,0,none⟩) n n/\lo<=b/\b<u.heap.size/\CV u b (flN (List.replicate n 0))
theorem PRz.stab{lo n:Nat}{u u2:World}{x:Value}(hB:Bw u u2)(h:PRz lo n u x):PRz lo n u2 x:=by
 obtain⟨b,e,h1,h2,h3⟩:=h
 exact⟨b,e,h1,Nat.lt_of_lt_of_le h2 hB.size,h3.below hB h2⟩
theorem PRz.new{lo n:Nat}{T:TypeId}(u:World)(h:lo<=u.heap.size):PRz lo n (u.alloc (.cells (flN (List.replicate n 0)).toArray T)) (.slice (some ⟨u.heap.size,0,none⟩) n n):=
 ⟨_,rfl,h,by simp,CV.new u _ _⟩
theorem dvd_small{m g:Int}(h:g∣1)(hg:0<=g):g=1:=by
 have h1:=Int.le_of_dvd (by omega) h
 by_cases h0:g=0
 ·subst h0;obtain⟨k,hk⟩:=h;simp at hk
 ·omega
theorem inv_gcd{a m x:Int}(h:IsInv a m x)(ha:0<=a)(hm:0<m):gI m a=1:=by
 have hg0:0<=gI m a:=by unfold gI;omega
 have hdm:gI m a∣m:=by
  have:((Nat.gcd m.toNat a.toNat:Nat):Int)∣(m.toNat:Int):=Int.natCast_dvd_natCast.2 (Nat.gcd_dvd_left _ _)
  rw[Int.toNat_of_nonneg (by omega)] at this;exact this
 have hda:gI m a∣a:=by
  have:((Nat.gcd m.toNat a.toNat:Nat):Int)∣(a.toNat:Int):=Int.natCast_dvd_natCast.2 (Nat.gcd_dvd_right _ _)
  rw[Int.toNat_of_nonneg ha] at this;exact this
 refine dvd_small (m:=m) ?_ hg0
 have h1:gI m a∣x*a -1:=Int.dvd_trans hdm h.2.2
 have h2:gI m a∣x*a:=Int.dvd_mul_of_dvd_right hda
 have:=Int.dvd_sub h2 h1
 rwa [show x*a -(x*a -1)=1 by omega] at this
def Invs(q:Int)(ns vs:List Int):Prop:=vs.length=ns.length/\ ∀i,i<ns.length->IsInv (dsN q ns i ns.length%q) q (vs.getD i 0)
end
end Go.Proofs.YtgieoghechekpaaDoor
