import Derived.Test.YtmoimodkopjeeaaGreatDoorAP4
import Derived.Stop.Asserts
namespace Go.Proofs.YtmoimodkopjeeaaGreatDoor
set_option linter.unusedVariables false
set_option linter.unusedSimpArgs false
set_option maxRecDepth 100000
set_option maxHeartbeats 4000000
section
open Go.RowKit
theorem PRw.lo{a b:Nat}{ns:List Int}{u:World}{v:Value}(h:PRw b ns u v)(hab:a<=b):PRw a ns u v:=by
 obtain⟨x,e,h1,h2,h3⟩:=h
 exact⟨x,e,Nat.le_trans hab h1,h2,h3⟩
theorem flN_in: ∀{ns:List Int} {k:Nat},k<ns.length-> ∀j v,(LN (ns.getD k 0))[j]?=some v->(flN ns)[4*k+j]?=some v
 | [],k,h=>by simp at h
 | n::r,0,h=>fun j v hj=>by
  have hl:j<4:=(List.getElem?_eq_some_iff.1 hj).1
  rw[Nat.mul_zero,Nat.zero_add,flN,List.getElem?_append_left (by exact hl)];exact hj
 | n::r,k+1,h=>fun j v hj=>by
  have:=flN_in (ns:=r) (k:=k) (by simpa using h) j v (by simpa using hj)
  rw[flN,List.getElem?_append_right (by show 4<=_;omega),show 4*(k+1)+j -(LN n).length=4*k+j by show _ -4=_;omega];exact this
def smN(q:Int)(fs:List Int)(ps:List (Int×Int)):Nat->Int
 | 0=>0
 | k+1=>(smN q fs ps k+(fs.getD k 0*(ps.getD k (0,0)).2)%q)%q
theorem smN_In{q:Int}{fs:List Int}{ps:List (Int×Int)}(hq:In q)(hq0:q≠0): ∀i,In (smN q fs ps i)
 | 0=>In_0
 | i+1=>Zi hq hq0
theorem sum_core(q t:Int)(sx sd sl:Option Addr)(cx cd gb go cap:Nat)(ns fs:List Int)(ps:List (Int×Int))(w:World)(hq:In q)(hq0:q≠0)(hix:Hid (∀j,j<ps.length-> ∀W,(Instr.indexAt 73 (.slice sl ps.length cap) (iI j)).run Tryz.prog W= .ok (.pointer (some ⟨gb,go+8*j,none⟩)) W))(hg:ps.length=0\/gb<w.heap.size)(hS:Hid (SN w gb go (flt ps)))(hns:ps.length<=1000)(hF:Hid (∀u,Bw w u->Calls Tryz.prog 107 #[BX q (.slice sx ns.length cx) (.slice sd ns.length cd),NV t] u fun e u'=> ∃y,e= .returned y/\PRw u.heap.size fs u' y/\Bw u u'))(hfl:Hid (fs.length=ps.length))(hnf:Hid (∀k,k<fs.length->In (fs.getD k 0)))(hnp:Hid (∀k,k<ps.length->In (ps.getD k (0,0)).2)):
 CC 79 #[BX q (.slice sx ns.length cx) (.slice sd ns.length cd),NV t,.slice sl ps.length cap] w (NV (smN q fs ps fs.length)):=by
 have hfl2:=hfl.out
 have hfk:fs.length<=1000:=by omega
 clear hfl2
 go_enter Tryz.func79,Tryz.ntmps79
 go_upto_region 1 with fail
 obtain⟨v0,hC,HB0,K0⟩:=bx3 w (BE q (.slice sx ns.length cx) (.slice sd ns.length cd)) 105 (LN t) 24 L0s 24
 rw[hC]
 clear hC
 refine Rp K0 HB0 [] [(1,7,L0s,some (2,[iU (0),iU (0),iU (0),iU (0)]))] [(0,10,_)] [(2,1)] [] [] (oc (g_bd zN)<|oc (g_al 0 aN)<|oc (g_sn 0 iN) on) fun u1 b1_1 HB1 _ K1=>?_
 simp only[sQ] at K1⊢
 go_upto_region 2 with fail
 refine Rf K1 HB1 [] [] [(0,11,_),(1,12,_),(3,14,_),(4,15,_)] [] [] [⟨2,13,none,PRw u1.heap.size fs⟩] [] (oc (g_ld 0 Tryz.underlying105 Yw)<|oc (g_ld 1 uN iN)<|oc (g_cE 0 (PRw u1.heap.size fs) Wh (fun u hB hs=>(hF.out u hB).mono fun e u2 ⟨v,e1,h1,h2⟩=>⟨v,e1,h1.lo hs,h2⟩))<|oc (g_lE 0 (PRw u1.heap.size fs) Tryz.underlying27 (fun u vs ⟨b,e,_⟩=>⟨_,_,e⟩))<|oc g_mv on) fun u2 v2_2 hv2_2 HB2 _ K2=>?_
 simp only[sQ] at K2⊢
 obtain⟨bf,rfl,o1,o2,o3⟩:=hv2_2 rfl
 have K2xf:=Bk.more3 K1 K2 o1 o2 o3 (by intro x hx;first | (simp at hx;done) | (simp at hx⊢;omega))
 simp only[aK] at K2xf
 go_wp2_with fail
 go_loopw [15] (fun s15 wr=> ∃(k:Nat),k<=fs.length/\s15=iI (k:Int)/\Bw w wr/\CV wr (w.heap.size) (BE q (.slice sx ns.length cx) (.slice sd ns.length cd))/\w.heap.size<wr.heap.size/\CV wr (w.heap.size+1+1) (L0s)/\w.heap.size+1+1<wr.heap.size/\CV wr b1_1 (LN (smN q fs ps k))/\b1_1<wr.heap.size/\CV wr bf (flN fs)/\bf<wr.heap.size) (fun s15 _=>fs.length -(intOf s15).toNat)
 case atStart=>exact⟨0,by omega,rfl,HB2,(K2xf.cv 0),(K2xf.lt 0),(K2xf.cv 2),(K2xf.lt 2),(K2xf.cv 3),(K2xf.lt 3),(K2xf.cv 4),(K2xf.lt 4)⟩
 case round=>
  obtain⟨k,hk,rfl,HBr,C0,lC0,C1,lC1,C2,lC2,C3,lC3⟩:=hrel
  have hnK:=K2xf.n
  simp at hnK
  have hoK3:=K2xf.lo 3
  by_cases hj:k<fs.length
  ·have hl:decide ((k:Int)<(fs.length:Int))=true:=by simp;omega
   have hjp:k<ps.length:=by rw[<-hfl.out];exact hj
   have hX:=hix.out _ hjp
   have hX:Hid _:=hX
   have hR:=hS.out.ptY _ hjp
   have hR:Hid _:=hR
   have iy:=hnp.out k hjp
   have ix:=hnf.out k hj
   have hf:=flN_in hj
   have iz:=smN_In (fs:=fs) (ps:=ps) hq hq0 k
   have hA:Hid (smN q fs ps (k+1)=(smN q fs ps k+(fs.getD k 0*(ps.getD k (0,0)).2)%q)%q):=rfl
   have hgb:=hg.resolve_left (by omega)
   have hkl:k<1000:=by omega
   obtain⟨y,ey⟩: ∃y,(ps.getD k (0,0)).2=y:=⟨_,rfl⟩
   rw[ey] at hR iy hA
   clear ey
   obtain⟨x,ex⟩: ∃x,fs.getD k 0=x:=⟨_,rfl⟩
   rw[ex] at ix hf hA
   clear ex
   obtain⟨z,ez⟩: ∃z,smN q fs ps k=z:=⟨_,rfl⟩
   rw[ez] at iz hA C2
   clear ez hjp
   have hf:Hid _:=hf
   have K2_1:Bk w.heap.size wr [(false,w.heap.size,BE q (.slice sx ns.length cx) (.slice sd ns.length cd)),(true,w.heap.size+1+1,L0s),(true,b1_1,LN z),(false,bf,flN fs)]:=⟨.c lC0 C0<| .o lC1 (K2xf.lo 2) C1<| .o lC2 (K2xf.lo 3) C2<| .c lC3 C3<|trivial,by simp<;>omega⟩
   go_upto_region 3 with fail
   refine Rn K2_1 HBr [(0,16,_)] (oc (g_bn (fun uZ=>Z6 _ _ (k:Int) (fs.length:Int) _ uZ hl)) on) fun u3 HB3 sz3 K3=>?_
   simp only[sQ] at K3⊢
   go_upto_region 4 with fail
   refine Rp K3 HB3 [] [(3,9,L0s,some (5,LN x))] (cG 0 17 [_,_,_] [(4,8,_)]) [(5,3)] [] [] (oc g_mv<|oc (g_ix (ixZ _ _ _ k hj))<|oc (g_lR 3 (4*k) (cs:=LN x) (hf.out) uN iN)<|oc (g_al 0 aN)<|oc g_as<|oc (g_sn 0 iN) on) fun u4 b4_3 HB4 sz4 K4=>?_
   simp only[sQ] at K4⊢
   go_upto_region 5 with fail
   refine Rd K4 HB4 [.no,.no,.all 16 (LN ((z+x*y%q)%q))] [] (cG 0 21 [_,_,_,_,_,_,_,_,_,_,_,_,_] [(13,20,_),(14,34,_),(15,35,_)]) [(16,0)] [] [true,true,true,true,false] (oc (g_ld 2 uN iN)<|oc (g_fd (fdB0 _))<|oc (g_lo 0 0 uN iN)<|oc (g_ld 4 uN iN)<|oc g_mv<|oc g_mv<|oc (g_ix hX.out)<|oc (g_fd (fdP1 _ _))<|oc (g_lf hR.out hgb uN iN)<|oc (g_cl Y8 (fun uZ=>pTimes q x y uZ ix iy hq hq0))<|oc (g_fd (fdB0 _))<|oc (g_lo 0 0 uN iN)<|oc (g_cl ent_mod_Add (fun uZ=>mAdd z (x*y%q) q uZ iz (Zi hq hq0) hq hq0))<|oc g_mv<|oc g_ex<|oc g_ex<|oc (g_st 2 iN) on) fun u5 HB5 _ K5=>?_
   simp only[sQ] at K5⊢
   go_upto_region 6 with fail
   refine Rp K5 HB5 [] [] [(0,36,_),(1,15,_)] [(1,0)] [(1,15)] [] (oc (g_bn (fun uZ=>Zm _ _ (k:Int) 1 ((k+1:Nat):Int) uZ (by omega) (by omega) (by omega)))<|oc g_mv on) fun u6 HB6 _ K6=>?_
   simp only[sQ] at K6⊢
   go_wp2
   refine⟨⟨k+1,by omega,rfl,HB6,(K6.cv 0),(K6.lt 0),(K6.cv 1),(K6.lt 1),by rw[hA.out];exact(K6.cv 2),(K6.lt 2),(K6.cv 3),(K6.lt 3)⟩,?_⟩
   simp[intOf]<;>omega
  ·have hl:decide ((k:Int)<(fs.length:Int))=false:=by simp;omega
   have hkn:k=fs.length:=by omega
   have K2_1:Bk w.heap.size wr [(false,w.heap.size,BE q (.slice sx ns.length cx) (.slice sd ns.length cd)),(true,w.heap.size+1+1,L0s),(true,b1_1,LN (smN q fs ps k)),(false,bf,flN fs)]:=⟨.c lC0 C0<| .o lC1 (K2xf.lo 2) C1<| .o lC2 (K2xf.lo 3) C2<| .c lC3 C3<|trivial,by simp<;>omega⟩
   go_upto_region 3 with fail
   refine Rn K2_1 HBr [(0,16,_)] (oc (g_bn (fun uZ=>Z6 _ _ (k:Int) (fs.length:Int) _ uZ hl)) on) fun u3 HB3 sz3 K3=>?_
   simp only[sQ] at K3⊢
   go_upto_region 7 with fail
   refine Rp K3 HB3 [.no,.all 1 (LN (smN q fs ps k))] [] [(0,37,_)] [] [] [] (oc (g_ld 2 uN iN)<|oc (g_st 1 iN) on) fun u4 HB4 sz4 K4=>?_
   simp only[sQ] at K4⊢
   have c6:=(K4.cv 1).n4
   go_wp2
   refine bodyPost_ret (v:=NV (smN q fs ps k)) (by simp[results,Tryz.results79,go_sem,c6]) rfl ⟨by rw[hkn],HB4⟩
end
section
open Go.RowKit Go.Extern.Stop Go.Stop Go.Extern
theorem cUnJ(b:Nat)(v:Value)(w:World)(h:w.cell? ⟨b,0,none⟩=some v):Calls Tryz.prog 204 #[.pointer (some ⟨b,0,none⟩)] w fun e w'=>e= .returned v/\w'=w:=by
 go_enter Tryz.func204,Tryz.ntmps204
 go_wp2
 exact bodyPost_ret (v:=v) (by simp[results,Tryz.results204,go_sem]) rfl ⟨rfl,rfl⟩
theorem Tryz.noUnJ(v:Value)(xT:TypeId)(w:World):(Instr.typeAssert (.iface 160 v) xT 191 true).run Tryz.prog w= .ok (.tuple #[.nilIface,.bool false]) w:=run_typeAssert_lacksB Tryz.underlying191 (by kernel_rfl) (by kernel_rfl) v xT w
theorem Tryz.usJ(v:Value)(xT:TypeId)(w:World):(Instr.typeAssert (.iface 160 v) xT 193 true).run Tryz.prog w= .ok (.tuple #[.iface 160 v,.bool true]) w:=run_typeAssert_hasB Tryz.underlying193 (by kernel_rfl) v xT w
theorem wrap1(i n:Nat)(h:i<n)(hn:n<=1000000):IntKind.i64.wrap ((i:Int)+1)=((i+1:Nat):Int):=by rw[IntKind.wrap_i64];omega
end
end Go.Proofs.YtmoimodkopjeeaaGreatDoor
