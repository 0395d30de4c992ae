import Derived.Test.YtdhlekdohebbbaaGreatDoorCTP
namespace Go.Proofs.YtdhlekdohebbbaaGreatDoor
set_option linter.unusedVariables false
set_option linter.unusedSimpArgs false
set_option maxRecDepth 100000
set_option maxHeartbeats 4000000
open Go.RowKit
theorem eqN9(a b c d:Int)(w:World):(Op.equalIn 9999 24 (A4 a b c d) (A4 a b c d)).run Tryz.prog w= .ok true w:=by
 have u3:=Tryz.underlying22
 have a3:=Tryz.isAgg22
 have z3:=Tryz.sizeOf22
 rw[show (9999:Nat)=9998+1 from rfl,Op.equalIn]
 simp only[Sem.run_bind,run_underlying Tryz.underlying24,Result.andThen_ok]
 simp only[Std.Legacy.Range.forIn_eq_forIn_range',Std.Legacy.Range.size,Nat.sub_zero,Nat.add_sub_cancel,Nat.div_one,List.range'_succ,List.range'_zero,List.forIn_cons,List.forIn_nil]
 go_simp
theorem Uf{P:Program}(d:Nat)(xs:Array Value)(w:World): ∀fs:List Field,(∀f∈fs,∃v,(part f.type xs f.offset).run P w= .ok v w/\(Op.equalIn d f.type v v).run P w= .ok true w)->(Op.eqFields d xs xs fs).run P w= .ok true w
 | [],_=>by simp[Op.eqFields]
 | f::fs,h=>by
  obtain⟨v,h1,h2⟩:=h f List.mem_cons_self
  have ih:=Uf d xs w fs (fun g hg=>h g (List.mem_cons_of_mem _ hg))
  simp only[Op.eqFields]
  split<;>simp[h1,h2,ih]
theorem Yi:EnT 7:=fun _ _=>by kernel_rfl
theorem cNumbers(k y z:Int)(ns:List Int)(w:World)(h2:2<=ns.length)(hle:ns.length<=20)(hy0:ns.getD (ns.length -1) 0=y)(hz0:ns.getD (ns.length -2) 0=z)
 (hP:Hid (∀u,Calls Tryz.prog 24 #[iI k] u fun e u'=> ∃v,e= .returned v/\PS u.heap.size ns.length (flN ns) u' v/\Bw u u')):
 CC 9 #[iI k] w (.tuple #[NV y,NV z,iI 0]):=by
 have hne:((ns.length:Int)==0)=false:=by rw[beq_eq_false_iff_ne];omega
 have hz1:(ns.length:Int) -1=((ns.length -1:Nat):Int):=by omega
 have hz2:(ns.length:Int) -2=((ns.length -2:Nat):Int):=by omega
 have hy:=flN_at ns (ns.length -1) (by omega)
 have hz:=flN_at ns (ns.length -2) (by omega)
 rw[hy0] at hy
 rw[hz0] at hz
 have hy:Hid _:=hy
 have hz:Hid _:=hz
 clear hy0 hz0
 go_enter Tryz.func9,Tryz.ntmps9
 go_upto_region 1 with fail
 obtain⟨v0,hC,HB0,K0⟩:=bx2 w L0s 24 L0s 24
 rw[hC]
 clear hC
 refine Rf K0 HB0 [] [] [(0,6,_)] [] [] [⟨1,7,some 2,PS v0.heap.size ns.length (flN ns)⟩,⟨2,5,none,PS v0.heap.size ns.length (flN ns)⟩] [] (oc g_mv<|oc (g_cE 0 (PS v0.heap.size ns.length (flN ns)) Vl (fun u hB hs=>(hP.out u).mono fun e u2 ⟨v,e1,h1,h2⟩=>⟨v,e1,h1.mono hs,h2⟩))<|oc (g_sE 0 1 (PS v0.heap.size ns.length (flN ns))) on) fun u1 v1_1 hv1_1 v1_2 hv1_2 HB1 _ K1=>?_
 simp only[sQ] at K1⊢
 obtain⟨bL,cL,rfl,ho1,ho2,hcap,hoC⟩:=hv1_2 rfl
 have K1xpr:=Bk.more3 K0 K1 ho1 ho2 hoC (by intro x hx;first | (simp at hx;done) | (simp at hx⊢;omega))
 simp only[aK] at K1xpr
 go_upto_region 2 with fail
 refine Rn K1xpr HB1 (cG 0 8 [_,_,_] []) (oc g_mv<|oc (g_ln Tryz.underlying61)<|oc (g_bn (fun uZ=>Vb _ _ _ (ns.length:Int) 0 _ uZ hne)) on) fun u2 HB2 _ K2=>?_
 simp only[sQ] at K2⊢
 go_upto_region 4 with fail
 refine Rd K2 HB2 [.all 12 (LN y),.all 13 (LN z)] [] (cG 0 13 [_,_,_,_,_,_,_,_,_,_,_,_] [(14,4,_)]) [] [] [true,true,false] (oc g_mv<|oc g_mv<|oc (g_ln Tryz.underlying61)<|oc (g_bn (fun uZ=>Y6 _ _ (ns.length:Int) 1 ((ns.length -1:Nat):Int) uZ hz1 (by omega) (by omega)))<|oc (g_ix (fun uZ=>ixS bL 0 ns.length cL (ns.length -1) (by omega) uZ))<|oc (g_lR 2 (0+4*(ns.length -1)) (cs:=LN y) ((by rw[Nat.zero_add];exact hy.out)) uN iN)<|oc g_mv<|oc g_mv<|oc (g_ln Tryz.underlying61)<|oc (g_bn (fun uZ=>Y6 _ _ (ns.length:Int) 2 ((ns.length -2:Nat):Int) uZ hz2 (by omega) (by omega)))<|oc (g_ix (fun uZ=>ixS bL 0 ns.length cL (ns.length -2) (by omega) uZ))<|oc (g_lR 2 (0+4*(ns.length -2)) (cs:=LN z) ((by rw[Nat.zero_add];exact hz.out)) uN iN)<|oc (g_st 0 iN)<|oc (g_st 1 iN)<|oc g_as on) fun u3 HB3 _ K3=>?_
 simp only[sQ] at K3⊢
 have c2:=(K3.cv 0).n4
 have c3:=(K3.cv 1).n4
 go_wp2
 refine bodyPost_ret (v:= .tuple #[NV y,NV z,iI 0]) (by simp[results,Tryz.results9,go_sem,c2,c3]) rfl ⟨rfl,HB3⟩
def chain1:List (Int×Int×Int):=[(155104850083,950083,2),(9929954040762925640323,155104850083,2),(0x214ac418e8ede850287855e75ef55019a98e3,9929954040762925640323,2),(0x20fa30054b94cd38b5619b557234f1a8a5787d70b890365f617875f74c4d3cdd,0x214ac418e8ede850287855e75ef55019a98e3,2),(0x41f4600a97299a716ac336aae469e3514af0fae171206cbec2f0ebee989a79bb,0x20fa30054b94cd38b5619b557234f1a8a5787d70b890365f617875f74c4d3cdd,2)]
theorem chain1_ok:cfB chain1=true:=by simp[cfB,crB,knB,cat,chain1,small_950083,chain1_1,chain1_2,chain1_3,chain1_4,chain1_5]
theorem chain1_in: ∀j,j<chain1.length->In (cat chain1 j).1/\In (cat chain1 j).2.1/\In (cat chain1 j).2.2:=fun j hj=>by
 have:j=0\/j=1\/j=2\/j=3\/j=4:=by have:chain1.length=5:=rfl;omega
 rcases this with rfl | rfl | rfl | rfl | rfl<;>exact⟨⟨by decide,by decide⟩,⟨by decide,by decide⟩,⟨by decide,by decide⟩⟩
end Go.Proofs.YtdhlekdohebbbaaGreatDoor
