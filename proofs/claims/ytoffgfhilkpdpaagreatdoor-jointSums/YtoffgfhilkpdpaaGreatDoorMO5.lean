import Derived.Test.YtoffgfhilkpdpaaGreatDoorMM
namespace Go.Proofs.YtoffgfhilkpdpaaGreatDoor
set_option linter.unusedVariables false
set_option linter.unusedSimpArgs false
set_option maxRecDepth 100000
set_option maxHeartbeats 4000000
open Go.RowKit
theorem mlift_any(a b c d:Int)(w:World):
 CC 156 #[A4 a b c d] w (A8 0 0 0 0 a b c d):=by
 have hcp:(Builtin.copy_ #[121,121] 3 #[.slice (some ⟨w.heap.size+1+1,4,none⟩) 4 4,.slice (some ⟨w.heap.size,0,none⟩) 4 4]).run Tryz.prog
  (((w.alloc (.cells #[iU a,iU b,iU c,iU d] 24)).alloc (.cells #[iU 0,iU 0,iU 0,iU 0,iU 0,iU 0,iU 0,iU 0] 91)).alloc (.cells #[iU 0,iU 0,iU 0,iU 0,iU 0,iU 0,iU 0,iU 0] 91)).drew=
  .ok (iI 4) (((w.alloc (.cells #[iU a,iU b,iU c,iU d] 24)).alloc (.cells #[iU 0,iU 0,iU 0,iU 0,iU 0,iU 0,iU 0,iU 0] 91)).alloc (.cells #[iU 0,iU 0,iU 0,iU 0,iU a,iU b,iU c,iU d] 91)).drew:=by
  rw[run_copy_cells _ 121 121 3 22 _ 4 4 4 _ 4 4 [iU a,iU b,iU c,iU d] Tryz.underlying121 (by kernel_rfl) rfl ?h1 ?h2 ?h3 ?h4]
  case h1=>
   intro j v hj
   match j,hj with
   | 0,hj=>simp at hj;subst hj;simp[Addr.add,go_sem]
   | 1,hj=>simp at hj;subst hj;simp[Addr.add,go_sem]
   | 2,hj=>simp at hj;subst hj;simp[Addr.add,go_sem]
   | 3,hj=>simp at hj;subst hj;simp[Addr.add,go_sem]
  case h2=>
   intro j hj
   have hj':j=0\/j=1\/j=2\/j=3:=by simp at hj;omega
   rcases hj' with rfl | rfl | rfl | rfl<;>simp[go_sem]
  case h3=>
   intro j hj
   have hj':j=0\/j=1\/j=2\/j=3:=by simp at hj;omega
   rcases hj' with rfl | rfl | rfl | rfl<;>simp[go_sem]
  case h4=>intro v hv;simp at hv;rcases hv with rfl | rfl | rfl | rfl<;>rfl
  simp[World.setCells,go_sem,goInt]
 go_enter Tryz.func156,Tryz.ntmps156
 go_wp2
 go_region
 go_wp2
 refine bodyPost_ret (v:=A8 0 0 0 0 a b c d) (by simp[results,Tryz.results156,go_sem]) rfl ⟨rfl,?_⟩
 go_grown
theorem nlift(n:Int)(w:World)(hn:In n):CC 156 #[NV n] w (WV (n*0x10000000000000000000000000000000000000000000000000000000000000000)):=by
 have e:WV (n*0x10000000000000000000000000000000000000000000000000000000000000000)=A8 0 0 0 0 (D0 n) (D1 n) (D2 n) (D3 n):=
  WV_of (n*0x10000000000000000000000000000000000000000000000000000000000000000) 0 0 0 0 (D0 n) (D1 n) (D2 n) (D3 n) W_0 W_0 W_0 W_0 (W_D0 n) (W_D1 n) (W_D2 n) (W_D3 n) (by rw[V_In hn];simp[V])
 rw[e];exact mlift_any _ _ _ _ w
theorem InW_lift{n:Int}(h:In n):InW (n*0x10000000000000000000000000000000000000000000000000000000000000000):=⟨by have:=h.1;omega,by have:=h.2;omega⟩
section
variable {P:Program} {o:Oper} {a:Act} {w:World} {K:Act->World->Prop} {Q:Exit->Act->World->Prop}
end
theorem bd_odd(m0 m1 m2 m3 c:Int)(w:World):(Instr.build 223 [(0,A4 m0 m1 m2 m3),(1,iU c)].toArray).run Tryz.prog w= .ok (.agg #[iU m0,iU m1,iU m2,iU m3,iU c]) w:=by kernel_rfl
theorem T5(w:World):(Instr.alloc 223 true (.tuple #[])).run Tryz.prog w= .ok (.pointer (some ⟨w.heap.size,0,none⟩)) (w.alloc (.cells L05.toArray 223)):=by kernel_rfl
theorem U1:(Tryz.prog.info? 223).map (·.size)=some 5:=by kernel_rfl
theorem ent_prod:EnT 157:=fun _ _=>by kernel_rfl
theorem minv_B(n:Int)(w:World)(hn:W64 n):CC 155 #[iU n] w (iU (mi n)):=by
 refine(minv n w hn).mono ?_
 rintro e w' ⟨rfl,rfl⟩
 exact⟨rfl,Below.refl _ _⟩
def pk(a m:Int)(k:Nat):Int:=a^k*0x10000000000000000000000000000000000000000000000000000000000000000%m
theorem pk_In{a m:Int}(hm:In m)(h:m≠0)(k:Nat):In (pk a m k):=Zt hm h
theorem pk_mg(a m:Int)(hm:0<m)(i j:Nat):IsMg (pk a m i) (pk a m j) m (pk a m (i+j)):=by
 have n0:m≠0:=Z1
 refine⟨Int.emod_nonneg _ n0,Int.emod_lt_of_pos _ hm,?_⟩
 unfold pk
 have e1:=Int.mul_ediv_add_emod (a^i*0x10000000000000000000000000000000000000000000000000000000000000000) m
 have e2:=Int.mul_ediv_add_emod (a^j*0x10000000000000000000000000000000000000000000000000000000000000000) m
 have e3:=Int.mul_ediv_add_emod (a^(i+j)*0x10000000000000000000000000000000000000000000000000000000000000000) m
 rw[Int.pow_add] at e3⊢
 generalize a^i=x at *
 generalize a^j=y at *
 generalize x*0x10000000000000000000000000000000000000000000000000000000000000000/m=q1 at *
 generalize x*0x10000000000000000000000000000000000000000000000000000000000000000%m=r1 at *
 generalize y*0x10000000000000000000000000000000000000000000000000000000000000000/m=q2 at *
 generalize y*0x10000000000000000000000000000000000000000000000000000000000000000%m=r2 at *
 generalize x*y*0x10000000000000000000000000000000000000000000000000000000000000000/m=q3 at *
 generalize x*y*0x10000000000000000000000000000000000000000000000000000000000000000%m=r3 at *
 have h1:r1=x*0x10000000000000000000000000000000000000000000000000000000000000000 -m*q1:=Z1
 have h2:r2=y*0x10000000000000000000000000000000000000000000000000000000000000000 -m*q2:=Z1
 have h3:r3=x*y*0x10000000000000000000000000000000000000000000000000000000000000000 -m*q3:=Z1
 refine⟨x*0x10000000000000000000000000000000000000000000000000000000000000000*q2+y*0x10000000000000000000000000000000000000000000000000000000000000000*q1 -m*q1*q2 -0x10000000000000000000000000000000000000000000000000000000000000000*q3,?_⟩
 rw[h1,h2,h3];grind
theorem pk_end(a m:Int)(hm:0<m)(k:Nat):IsMg (pk a m k) 1 m (a^k%m):=by
 have n0:m≠0:=Z1
 refine⟨Int.emod_nonneg _ n0,Int.emod_lt_of_pos _ hm,?_⟩
 unfold pk
 have e1:=Int.mul_ediv_add_emod (a^k*0x10000000000000000000000000000000000000000000000000000000000000000) m
 have e2:=Int.mul_ediv_add_emod (a^k) m
 generalize a^k=x at *
 generalize x*0x10000000000000000000000000000000000000000000000000000000000000000/m=q1 at *
 generalize x*0x10000000000000000000000000000000000000000000000000000000000000000%m=r1 at *
 generalize x/m=q2 at *
 generalize x%m=r2 at *
 refine⟨q1 -0x10000000000000000000000000000000000000000000000000000000000000000*q2,?_⟩
 have h1:r1=x*0x10000000000000000000000000000000000000000000000000000000000000000 -m*q1:=Z1
 have h2:r2=x -m*q2:=Z1
 rw[h1,h2];grind
theorem pk_0(a m:Int):pk a m 0=1*0x10000000000000000000000000000000000000000000000000000000000000000%m:=by unfold pk;rw[Int.pow_zero]
theorem pk_1(a m:Int):pk a m 1=a*0x10000000000000000000000000000000000000000000000000000000000000000%m:=by unfold pk;rw[Int.pow_succ,Int.pow_zero,Int.one_mul]
theorem mpow(a e m:Int)(w:World)(ha:In a)(he:In e)(hm:In m)(h:m≠0)(hodd:m%2=1):
 CC 138 #[NV a,NV e,NV m] w (NV (a^e.toNat%m)):=by
 have hm0:0<m:=by have:=hm.1;omega
 have hd0:D0 m%2=1:=by unfold D0;omega
 go_enter Tryz.func138,Tryz.ntmps138
 go_upto_region 1 with fail
 obtain⟨v0,hC,HB0,K0⟩:=bx4 w (LN a) 24 (LN e) 24 (LN m) 24 L0s 24
 rw[hC]
 clear hC
 refine Rd K0 HB0 [] [(5,7,L05,some (6,LM m (mi (D0 m))))] (cG 0 13 [_,_,_,_,_] []) [(6,5)] [] [] (Oc7 (g_ld 2 uN iN) (g_ix (jN 0)) (g_lc 2 0 lU) (g_cl Vl (fun uZ=>minv_B (D0 m) uZ (W_D0 m))) (g_bd (bd_odd _ _ _ _ _)) (g_al 0 T5) (g_sn 0 U1)) fun u1 b1_5 HB1 _ K1=>?_
 simp only[sQ] at K1⊢
 go_upto_region 2 with fail
 refine Rd K1 HB1 [] [(7,8,L0s,some (8,LN (1*0x10000000000000000000000000000000000000000000000000000000000000000%m)))] (cG 0 19 [_,_,_,_] [(4,18,_),(5,23,_),(6,24,_),(9,9,_)]) [(8,7)] [] [] (Oc10 (g_cl Zn (fun uZ=>nOf 1 uZ Z1 Z1)) (g_cl Vu (fun uZ=>nlift 1 uZ In_1)) (g_ld 2 uN iN) (g_cl Zp (fun uZ=>Xl (1*0x10000000000000000000000000000000000000000000000000000000000000000) m uZ (InW_lift In_1) hm h)) g_mv g_ex g_ex (g_al 0 aN) (g_sn 0 iN) g_as) fun u2 b2_7 HB2 _ K2=>?_
 simp only[sQ] at K2⊢
 go_upto_region 3 with fail
 refine Rd K2 HB2 [] [(7,10,L0s,some (8,LN (a*0x10000000000000000000000000000000000000000000000000000000000000000%m)))] (cG 0 26 [_,_,_,_] [(4,25,_),(5,30,_),(6,31,_),(9,11,_)]) [(8,7)] [] [false,true,false] (Oc10 (g_ld 0 uN iN) (g_cl Vu (fun uZ=>nlift a uZ ha)) (g_ld 2 uN iN) (g_cl Zp (fun uZ=>Xl (a*0x10000000000000000000000000000000000000000000000000000000000000000) m uZ (InW_lift ha) hm h)) g_mv g_ex g_ex (g_al 0 aN) (g_sn 0 iN) g_as) fun u3 b3_7 HB3 _ K3=>?_
 simp only[sQ] at K3⊢
 have Kq0:CV u3 b2_7 (LN (pk a m 0)):=by rw[pk_0];exact(K3.cv 3)
 have Kq1:CV u3 b3_7 (LN (pk a m 1)):=by rw[pk_1];exact(K3.cv 4)
 have hT:Hid (∀(i j:Nat) (u:World),CV u b1_5 (LM m (mi (D0 m)))->b1_5<u.heap.size->Calls Tryz.prog 157 ([Value.pointer (some ⟨b1_5,0,none⟩)]++[NV (pk a m i),NV (pk a m j)]).toArray u fun en u'=>en= .returned (NV (pk a m (i+j)))/\Bw u u'):=
  fun i j u hK hl=>mprod b1_5 (pk a m i) (pk a m j) m (mi (D0 m)) (pk a m (i+j)) u (pk_In hm h i) (pk_In hm h j) hm (Int.emod_lt_of_pos _ hm0) hodd (W_mi _) (mi_spec _ hd0) (pk_mg a m hm0 i j) hK hl
 have K3_1:Bk w.heap.size u3 [(false,w.heap.size+1,LN e),(true,w.heap.size+1+1+1,L0s),(false,b1_5,LM m (mi (D0 m))),(false,b2_7,LN (pk a m 0)),(false,b3_7,LN (pk a m 1))]:=⟨.c (K3.lt 0) (K3.cv 0)<| .o (K3.lt 1) (K3.lo 1) (K3.cv 1)<| .c (K3.lt 2) (K3.cv 2)<| .c (K3.lt 3) Kq0<| .c (K3.lt 4) Kq1<|trivial,K3.n⟩
 go_upto_region 4 with fail
 refine Rp K3_1 HB3 [] [(5,12,L0s,some (6,LN (pk a m e.toNat)))] (cG 0 32 [_,_,_,_,_] []) [(6,5)] [] [false,true,true,false,false] (Oc7 (g_ld 4 uN iN) (g_ld 0 uN iN) (g_ld 3 uN iN) (g_mk (fun _=>by kernel_rfl)) (g_ck Uf (fun fZ uZ kZ sZ=>mraise 157 [.pointer (some ⟨b1_5,0,none⟩)] (pk a m) e b1_5 (LM m (mi (D0 m))) uZ ent_prod hT he (kZ.cv 2) (kZ.lb sZ 2))) (g_al 0 aN) (g_sn 0 iN)) fun u4 b4_5 HB4 _ K4=>?_
 simp only[sQ] at K4⊢
 go_upto_region 5 with fail
 refine Rd K4 HB4 [.all 3 (LN (a^e.toNat%m))] [] (cG 0 37 [_,_,_] []) [] [] [true,false,false] (Oc4 (g_ld 2 uN iN) (g_cl Zn (fun uZ=>nOf 1 uZ Z1 Z1)) (g_ck Xg (fun fZ uZ kZ sZ=>mprod b1_5 (pk a m e.toNat) 1 m (mi (D0 m)) (a^e.toNat%m) uZ (pk_In hm h _) In_1 hm (Int.emod_lt_of_pos _ hm0) hodd (W_mi _) (mi_spec _ hd0) (pk_end a m hm0 _) (kZ.cv 1) (kZ.lb sZ 1))) (g_st 0 iN)) fun u5 HB5 _ K5=>?_
 simp only[sQ] at K5⊢
 have c6:=(K5.cv 0).n4
 go_wp2
 refine bodyPost_ret (v:=NV (a^e.toNat%m)) (by simp[results,Tryz.results138,go_sem,c6]) rfl ⟨rfl,HB5⟩
end Go.Proofs.YtoffgfhilkpdpaaGreatDoor
