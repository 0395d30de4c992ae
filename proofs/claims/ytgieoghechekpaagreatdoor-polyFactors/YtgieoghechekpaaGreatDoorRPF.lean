/- Proved: for any numbers, PolyFactors returns true and leaves its arguments as they were. The four variables that the program lays as its text says. -/
import Derived.Test.YtgieoghechekpaaGreatDoorAPQ
namespace Go.Proofs.YtgieoghechekpaaGreatDoor
set_option linter.unusedVariables false
set_option linter.unusedSimpArgs false
set_option maxRecDepth 100000
set_option maxHeartbeats 4000000
open Go.ChangeShapes Go.WideShapes Go.ChangeAt Go.RowKit
theorem polyFactors_lifted(os:Go.Os)(started:os.Started)(H:Type)(enc:TypeId×Value->H):
 ReturnsInHanded {} Tryz.checked os 4 .any (fun w args=>(Rows.polyFactorsSpec.pre enc Tryz.prog Tryz.f4 [] false w args/\laidMetH Tryz.prog lstP w)/\sizedMet enc Tryz.prog Tryz.f4 (OpenSpec.ofChange Rows.polyFactorsSpec) false w args)
  (Rows.polyFactorsSpec.post enc Tryz.prog Tryz.f4 false true false false):=by
 refine returnsInHanded_of_change_and (C:=Tryz.checked) (X:=fun w _=>laidMetH Tryz.prog lstP w) (fun _ _ _ hh h=>h.of_heap hh) own4 started (by kernel_rfl) Tryz.func4
  (ChangeSpec.witness_shaped (enc:=enc) (C:=Tryz.checked) (os:=os) (X:=fun w _=>laidMetH Tryz.prog lstP w) false (World.doorLaid Tryz.prog 400 os) #[.slice none 0 0,.int .i64 0,.agg #[.int .u64 0,.int .u64 0,.int .u64 0,.int .u64 0],.int .i64 0] 8 rfl (World.shaped_of_RefB (by kernel_rfl) (by kernel_rfl)) (by kernel_rfl) (by kernel_rfl) (by kernel_rfl) (doorP os _)) ?_
 intro W base args ds gs before hval0 hW _ _ hL _
 have hval: ∀(j:Nat) t v,Tryz.f4.params[j]?=some t->args[j]?=some v->Value.okWide Tryz.prog W .any base t v:=hval0
 have hW':=hW
 obtain⟨p,q,hA0,hV,rfl,hfz,hnd⟩:=hW
 have hA:DataW.TrodAll enc Tryz.prog W 0 (fun _=>true) true Tryz.f4.params.toList args.toList ds p:=hA0
 rw[Tryz.params4] at hA hval
 obtain⟨v0,v1,v2,v3,d0,d1,d2,d3,q0,q1,q2,q3,rfl,rfl,rfl,h0,h1,h2,h3⟩:=trodAll_four hA
 obtain⟨rfl,rfl⟩:=trodVars_none hV
 simp only[List.append_nil] at hW'
 have hGV:=of_laidP hL
 have hlt: ∀x∈q0++q1++q2++q3,x.block<W.heap.size:=fun x hx=>by simpa using hW'.lt x (by simpa using hx)
 have hargs: ∀(W':World),Bw W W'->DataW.Trod enc Tryz.prog W' 0 (fun b=>decide (b<W.heap.size)) true 26 v0 d0 q0/\DataW.Trod enc Tryz.prog W' 0 (fun b=>decide (b<W.heap.size)) true 3 v1 d1 q1/\DataW.Trod enc Tryz.prog W' 0 (fun b=>decide (b<W.heap.size)) true 24 v2 d2 q2/\DataW.Trod enc Tryz.prog W' 0 (fun b=>decide (b<W.heap.size)) true 3 v3 d3 q3:=
  fun W' hn=>⟨Below.trod laid4 (by kernel_rfl) (of_decide_eq_true (by kernel_rfl)) h0 hn (fun x hx=>hlt x (by simp[hx])),Below.trod laid4 (by kernel_rfl) (of_decide_eq_true (by kernel_rfl)) h1 hn (fun x hx=>hlt x (by simp[hx])),Below.trod laid4 (by kernel_rfl) (of_decide_eq_true (by kernel_rfl)) h2 hn (fun x hx=>hlt x (by simp[hx])),Below.trod laid4 (by kernel_rfl) (of_decide_eq_true (by kernel_rfl)) h3 hn (fun x hx=>hlt x (by simp[hx]))⟩
 have h0k:=h0
 have h1k:=h1
 have h2k:=h2
 have h3k:=h3
 obtain⟨sla,lena,capa,gba,goa,fa,rfl,hLa,m2a,m3a,m4a,m5a,m6a⟩:=open_ints (hval 0 26 v0 rfl rfl) h0k
 obtain⟨x1,rfl,rfl,rfl,wx1⟩:=open_int Tryz.underlying3 (hval 1 3 v1 rfl rfl) h1k
 have rx1: -9223372036854775808<=x1/\x1<9223372036854775808:=by simp[Lit.wf,IntKind.min,IntKind.max,IntKind.signed,IntKind.bits] at wx1;omega
 obtain⟨t0,t1,t2,t3,rfl,_,_,wt0,wt1,wt2,wt3⟩:=open_nat (hval 2 24 v2 rfl rfl) h2k
 have it:=In_V wt0 wt1 wt2 wt3
 have et:=NV_V wt0 wt1 wt2 wt3
 obtain⟨x3,rfl,rfl,rfl,wx3⟩:=open_int Tryz.underlying3 (hval 3 3 v3 rfl rfl) h3k
 have rx3: -9223372036854775808<=x3/\x3<9223372036854775808:=by simp[Lit.wf,IntKind.min,IntKind.max,IntKind.signed,IntKind.bits] at wx3;omega
 clear hA0 hval0
 have hwalk:=(by have h:=polyFactors_any (V t0 t1 t2 t3) x1 x3 sla lena capa gba goa fa W hGV it rx1 rx3 hLa m4a m5a m6a;rw[et] at h;exact h)
 refine hwalk.mono fun e W' ⟨he,bel⟩=>?_
 subst he
 exact⟨_,rfl,_,_,_,[],_,[],hW',trodAll_mk1 (shut_bool Tryz.underlying4 _),(by first | exact trodAll_mk4 (hargs _ bel).1 (hargs _ bel).2.1 (hargs _ bel).2.2.1 (hargs _ bel).2.2.2 | (simp only[List.append_assoc];exact trodAll_mk4 (hargs _ bel).1 (hargs _ bel).2.1 (hargs _ bel).2.2.1 (hargs _ bel).2.2.2)),rfl,bel.frame _,fun h=>by cases h⟩
theorem polyFactors_holds:Rows.PolyFactorsSaid:=
 OpenClaim.holds_of_wide 4 Tryz.f4 rfl rfl rfl rfl rfl rfl rfl ⟨rfl,rfl,rfl,rfl,rfl⟩ rfl rfl rfl rfl rfl (by kernel_rfl) Tryz.func4 (by kernel_rfl)
  (of_decide_eq_true (by kernel_rfl)) (by unfold Func.isWrapper;first | (rw[if_pos (by decide+kernel)];kernel_rfl) | (rw[if_neg (by decide+kernel)];exact⟨rfl,rfl⟩))
  (fun os started H enc _=>polyFactors_lifted os started H enc)
theorem polyFactors_card:Rows.PolyFactorsCardSaid:=
 Claim7.holds_tied_plain_at .later [] [.data,.data,.data,.handle] true (true, "1ffd73f05861e30ef9fc436bcf74510e725053df32abda520b1f426d6de70f5e") true
  polyFactors_holds (fun _ h=>by cases h) (by kernel_rfl) (fun _ h=>by cases h) polyFactors_row_tie rfl ⟨rfl,rfl⟩ (by kernel_rfl) rfl
  (fun f fn hf hfn=>by
   obtain rfl:f=4:=Option.some.inj ((show Tryz.prog.funcNamed "seneschal/seneschallaw10.PolyFactors" =some 4 by kernel_rfl).symm.trans hf)|>.symm
   obtain rfl:fn=Tryz.f4:=(Option.some.inj (Tryz.func4.symm.trans hfn)).symm
   exact⟨by kernel_rfl,fun j t ht=>by
    rw[Tryz.params4] at ht
    have hm:t∈[26,3,24,3]:=by simpa using Array.mem_of_getElem? ht
    have hall:([26,3,24,3].all fun u=>!Tryz.prog.wantsStandIn u)=true:=by kernel_rfl
    exact(show Tryz.prog.wantsStandIn t=false by simpa using List.all_eq_true.1 hall t hm)⟩)
  (by kernel_rfl)
#print axioms polyFactors_card
end Go.Proofs.YtgieoghechekpaaGreatDoor
