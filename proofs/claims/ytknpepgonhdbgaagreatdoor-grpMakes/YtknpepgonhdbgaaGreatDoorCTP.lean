import Derived.Test.YtknpepgonhdbgaaGreatDoorPK
namespace Go.Proofs.YtknpepgonhdbgaaGreatDoor
set_option linter.unusedVariables false
set_option linter.unusedSimpArgs false
set_option maxRecDepth 100000
set_option maxHeartbeats 4000000
open Go.RowKit
theorem CV.nil(u:World)(b:Nat):CV u b []:=fun j v hj=>by simp at hj
theorem cNumbers(k y z:Int)(ns:List Int)(w:World)(h2:2<=ns.length)(hle:ns.length<=20)(hy0:ns.getD (ns.length -1) 0=y)(hz0:ns.getD (ns.length -2) 0=z)
 (hP:Hid (∀u,Calls Tryz.prog 83 #[.int .i64 k] u fun e u'=> ∃v,e= .returned v/\PS u.heap.size ns.length (flN ns) u' v/\Bw u u')):
 CC 53 #[.int .i64 k] w (.tuple #[NV y,NV z,.int .i64 0]):=by
 have hne:((ns.length:Int)==0)=false:=by rw[beq_eq_false_iff_ne];omega
 have hz1:(ns.length:Int) -1=((ns.length -1:Nat):Int):=by omega
 have hz2:(ns.length:Int) -2=((ns.length -2:Nat):Int):=by omega
 have hy:=flN_at ns (ns.length -1) (by omega)
 have hz:=flN_at ns (ns.length -2) (by omega)
 rw[hy0] at hy
 rw[hz0] at hz
 have hy:Hid _:=hy
 have hz:Hid _:=hz
 clear hy0 hz0
 go_enter Tryz.func53,Tryz.ntmps53
 go_upto_region 1 with fail
 generalize hC:((w.alloc (.cells (L0s:List Value).toArray 24)).alloc (.cells (L0s:List Value).toArray 24))=v0 at *
 have HB0:Bw w v0:=by rw[<-hC];exact Z0 (Z0 (Z5 w) _) _
 have K0:Bk w.heap.size v0 [(true,w.heap.size,L0s),(true,w.heap.size+1,L0s)]:=by rw[<-hC];exact(Bk.nil _ w).ad.ad
 clear hC
 refine rgF K0 HB0 HB0.size [] [] [(0,6,.int .i64 k)] [] [] [⟨1,7,some 2,PS v0.heap.size ns.length (flN ns)⟩,⟨2,5,none,PS v0.heap.size ns.length (flN ns)⟩] [] (.cons (fun _ _ _ h1 h2=>h2.stab h1)<| .cons (fun _ _ _ h1 h2=>h2.stab h1)<|Stab.nil) ?_ ?_
 ·exact oc g_mv<|oc (g_cE 0 (PS v0.heap.size ns.length (flN ns)) ent_cert_primes (fun u hB hs=>(hP.out u).mono fun e u2 ⟨v,e1,h1,h2⟩=>⟨v,e1,h1.mono hs,h2⟩))<|oc (g_sE 0 1 (PS v0.heap.size ns.length (flN ns))) on
 intro u1 v1_1 hv1_1 v1_2 hv1_2 HB1 sz1 K1
 simp only[sQ] at K1⊢
 clear HB0
 obtain⟨bL,cL,rfl,ho1,ho2,hcap,hoC⟩:=hv1_2 rfl
 have K1xpr:=Bk.more3 K0 K1 ho1 ho2 hoC (by intro x hx;first | (simp at hx;done) | (simp at hx⊢;omega))
 simp only[aK] at K1xpr
 clear K1
 go_upto_region 2 with fail
 refine rgP K1xpr HB1 HB1.size [] [] [(0,8,.slice (some ⟨bL,0,none⟩) ns.length cL),(1,9,.int .i64 (ns.length:Int)),(2,10,.bool false)] [] [] [] ?_ ?_
 ·exact oc g_mv<|oc (g_ln Tryz.underlying35)<|oc (g_bn (fun uZ=>eql_i _ _ _ (ns.length:Int) 0 _ uZ hne)) on
 intro u2 HB2 sz2 K2
 simp only[sQ] at K2⊢
 clear HB1
 go_upto_region 4 with fail
 refine rgD K2 HB2 HB2.size [.all 12 (LN y),.all 13 (LN z)] [] [(0,13,.slice (some ⟨bL,0,none⟩) ns.length cL),(1,14,.slice (some ⟨bL,0,none⟩) ns.length cL),(2,15,.int .i64 (ns.length:Int)),(3,16,.int .i64 ((ns.length -1:Nat):Int)),(4,17,.pointer (some ⟨bL,0+4*(ns.length -1),none⟩)),(5,18,NV y),(6,19,.slice (some ⟨bL,0,none⟩) ns.length cL),(7,20,.slice (some ⟨bL,0,none⟩) ns.length cL),(8,21,.int .i64 (ns.length:Int)),(9,22,.int .i64 ((ns.length -2:Nat):Int)),(10,23,.pointer (some ⟨bL,0+4*(ns.length -2),none⟩)),(11,24,NV z),(14,4,(Go.Value.int Go.IntKind.i64 0))] [] [] [true,true,false] ?_ ?_
 ·exact oc g_mv<|oc g_mv<|oc (g_ln Tryz.underlying35)<|oc (g_bn (fun uZ=>Xe _ _ (ns.length:Int) 1 ((ns.length -1:Nat):Int) uZ hz1 (by omega) (by omega)))<|oc (g_ix (fun uZ=>ixS bL 0 ns.length cL (ns.length -1) (by omega) uZ))<|oc (g_lR 2 (0+4*(ns.length -1)) (cs:=LN y) ((by rw[Nat.zero_add];exact hy.out)) uN iN)<|oc g_mv<|oc g_mv<|oc (g_ln Tryz.underlying35)<|oc (g_bn (fun uZ=>Xe _ _ (ns.length:Int) 2 ((ns.length -2:Nat):Int) uZ hz2 (by omega) (by omega)))<|oc (g_ix (fun uZ=>ixS bL 0 ns.length cL (ns.length -2) (by omega) uZ))<|oc (g_lR 2 (0+4*(ns.length -2)) (cs:=LN z) ((by rw[Nat.zero_add];exact hz.out)) uN iN)<|oc (g_st 0 iN)<|oc (g_st 1 iN)<|oc g_as on
 intro u3 HB3 sz3 K3
 simp only[sQ] at K3⊢
 clear K2 HB2
 have c2:=(K3.cv 0).n4
 have c3:=(K3.cv 1).n4
 go_wp2
 refine bodyPost_ret (v:= .tuple #[NV y,NV z,.int .i64 0]) (by simp[results,Tryz.results53,go_sem,c2,c3]) rfl ⟨rfl,HB3⟩
end Go.Proofs.YtknpepgonhdbgaaGreatDoor
