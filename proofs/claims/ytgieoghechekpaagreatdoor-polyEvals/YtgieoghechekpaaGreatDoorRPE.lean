/- Proved: for any numbers, PolyEvals returns true and leaves its arguments as they were. The four variables that the program lays as its text says. -/
import Derived.Test.YtgieoghechekpaaGreatDoorAPJ
namespace Go.Proofs.YtgieoghechekpaaGreatDoor
set_option linter.unusedVariables false
set_option linter.unusedSimpArgs false
set_option maxRecDepth 100000
set_option maxHeartbeats 4000000
open Go.ChangeShapes Go.WideShapes Go.ChangeAt Go.RowKit
theorem polyEvals_lifted(os:Go.Os)(started:os.Started)(H:Type)(enc:TypeId×Value->H):
 ReturnsInHanded {} Tryz.checked os 3 .any (fun w args=>(Rows.polyEvalsSpec.pre enc Tryz.prog Tryz.f3 [] false w args/\laidMetH Tryz.prog lstP w)/\sizedMet enc Tryz.prog Tryz.f3 (OpenSpec.ofChange Rows.polyEvalsSpec) false w args)
  (Rows.polyEvalsSpec.post enc Tryz.prog Tryz.f3 false true false false):=by
 refine returnsInHanded_of_change_and (C:=Tryz.checked) (X:=fun w _=>laidMetH Tryz.prog lstP w) (fun _ _ _ hh h=>h.of_heap hh) own4 started (by kernel_rfl) Tryz.func3
  (ChangeSpec.witness_shaped (enc:=enc) (C:=Tryz.checked) (os:=os) (X:=fun w _=>laidMetH Tryz.prog lstP w) false (World.doorLaid Tryz.prog 400 os) #[.agg #[.int .u64 0,.int .u64 0,.int .u64 0,.int .u64 0],.slice none 0 0,.slice none 0 0,.agg #[.int .u64 0,.int .u64 0,.int .u64 0,.int .u64 0],.slice none 0 0] 8 rfl (World.shaped_of_RefB (by kernel_rfl) (by kernel_rfl)) (by kernel_rfl) (by kernel_rfl) (by kernel_rfl) (doorP os _)) ?_
 intro W base args ds gs before hval0 hW _ _ hL _
 have hval: ∀(j:Nat) t v,Tryz.f3.params[j]?=some t->args[j]?=some v->Value.okWide Tryz.prog W .any base t v:=hval0
 have hW':=hW
 obtain⟨p,q,hA0,hV,rfl,hfz,hnd⟩:=hW
 have hA:DataW.TrodAll enc Tryz.prog W 0 (fun _=>true) true Tryz.f3.params.toList args.toList ds p:=hA0
 rw[Tryz.params3] at hA hval
 obtain⟨v0,v1,v2,v3,v4,d0,d1,d2,d3,d4,q0,q1,q2,q3,q4,rfl,rfl,rfl,h0,h1,h2,h3,h4⟩:=trodAll_five hA
 obtain⟨rfl,rfl⟩:=trodVars_none hV
 simp only[List.append_nil] at hW'
 have hGV:=of_laidP hL
 have hlt: ∀x∈q0++q1++q2++q3++q4,x.block<W.heap.size:=fun x hx=>by simpa using hW'.lt x (by simpa using hx)
 have hargs: ∀(W':World),Bw W W'->DataW.Trod enc Tryz.prog W' 0 (fun b=>decide (b<W.heap.size)) true 24 v0 d0 q0/\DataW.Trod enc Tryz.prog W' 0 (fun b=>decide (b<W.heap.size)) true 25 v1 d1 q1/\DataW.Trod enc Tryz.prog W' 0 (fun b=>decide (b<W.heap.size)) true 25 v2 d2 q2/\DataW.Trod enc Tryz.prog W' 0 (fun b=>decide (b<W.heap.size)) true 24 v3 d3 q3/\DataW.Trod enc Tryz.prog W' 0 (fun b=>decide (b<W.heap.size)) true 26 v4 d4 q4:=
  fun W' hn=>⟨Below.trod laid4 (by kernel_rfl) (of_decide_eq_true (by kernel_rfl)) h0 hn (fun x hx=>hlt x (by simp[hx])),Below.trod laid4 (by kernel_rfl) (of_decide_eq_true (by kernel_rfl)) h1 hn (fun x hx=>hlt x (by simp[hx])),Below.trod laid4 (by kernel_rfl) (of_decide_eq_true (by kernel_rfl)) h2 hn (fun x hx=>hlt x (by simp[hx])),Below.trod laid4 (by kernel_rfl) (of_decide_eq_true (by kernel_rfl)) h3 hn (fun x hx=>hlt x (by simp[hx])),Below.trod laid4 (by kernel_rfl) (of_decide_eq_true (by kernel_rfl)) h4 hn (fun x hx=>hlt x (by simp[hx]))⟩
 have h0k:=h0
 have h1k:=h1
 have h2k:=h2
 have h3k:=h3
 have h4k:=h4
 obtain⟨q0,q1,q2,q3,rfl,_,_,wq0,wq1,wq2,wq3⟩:=open_nat (hval 0 24 v0 rfl rfl) h0k
 have iq:=In_V wq0 wq1 wq2 wq3
 have eq:=NV_V wq0 wq1 wq2 wq3
 obtain⟨sla,lena,capa,gba,goa,nsa,rfl,n1a,n2a,n3a,n4a,n5a,n6a,n7a⟩:=open_nats 12 (hval 1 25 v1 rfl rfl) h1k
 obtain⟨slb,lenb,capb,gbb,gob,nsb,rfl,n1b,n2b,n3b,n4b,n5b,n6b,n7b⟩:=open_nats 12 (hval 2 25 v2 rfl rfl) h2k
 obtain⟨t0,t1,t2,t3,rfl,_,_,wt0,wt1,wt2,wt3⟩:=open_nat (hval 3 24 v3 rfl rfl) h3k
 have it:=In_V wt0 wt1 wt2 wt3
 have et:=NV_V wt0 wt1 wt2 wt3
 obtain⟨sli,leni,capi,gbi,goi,fi,rfl,hLi,m2i,m3i,m4i,m5i,m6i⟩:=open_ints (hval 4 26 v4 rfl rfl) h4k
 clear hA0 hval0
 have hwalk:=(by have h:=polyEvals_any (V q0 q1 q2 q3) (V t0 t1 t2 t3) sla slb sli lena capa gba goa lenb capb gbb gob leni capi gbi goi nsa nsb fi W hGV iq it n7a n7b n1a n2a n3a n4a n5a n6a n1b n2b n3b n4b n5b n6b m2i m3i m4i m5i m6i;rw[eq,et] at h;exact h)
 refine hwalk.mono fun e W' ⟨he,bel⟩=>?_
 subst he
 exact⟨_,rfl,_,_,_,[],_,[],hW',trodAll_mk1 (shut_bool Tryz.underlying4 _),(by first | exact trodAll_mk5 (hargs _ bel).1 (hargs _ bel).2.1 (hargs _ bel).2.2.1 (hargs _ bel).2.2.2.1 (hargs _ bel).2.2.2.2 | (simp only[List.append_assoc];exact trodAll_mk5 (hargs _ bel).1 (hargs _ bel).2.1 (hargs _ bel).2.2.1 (hargs _ bel).2.2.2.1 (hargs _ bel).2.2.2.2)),rfl,bel.frame _,fun h=>by cases h⟩
theorem polyEvals_holds:Rows.PolyEvalsSaid:=
 OpenClaim.holds_of_wide 3 Tryz.f3 rfl rfl rfl rfl rfl rfl rfl ⟨rfl,rfl,rfl,rfl,rfl⟩ rfl rfl rfl rfl rfl (by kernel_rfl) Tryz.func3 (by kernel_rfl)
  (of_decide_eq_true (by kernel_rfl)) (by unfold Func.isWrapper;first | (rw[if_pos (by decide+kernel)];kernel_rfl) | (rw[if_neg (by decide+kernel)];exact⟨rfl,rfl⟩))
  (fun os started H enc _=>polyEvals_lifted os started H enc)
theorem polyEvals_card:Rows.PolyEvalsCardSaid:=
 Claim7.holds_tied_plain_at .later [] [.data,.data,.data,.handle] true (true, "1ffd73f05861e30ef9fc436bcf74510e725053df32abda520b1f426d6de70f5e") true
  polyEvals_holds (fun _ h=>by cases h) (by kernel_rfl) (fun _ h=>by cases h) polyEvals_row_tie rfl ⟨rfl,rfl⟩ (by kernel_rfl) rfl
  (fun f fn hf hfn=>by
   obtain rfl:f=3:=Option.some.inj ((show Tryz.prog.funcNamed "seneschal/seneschallaw10.PolyEvals" =some 3 by kernel_rfl).symm.trans hf)|>.symm
   obtain rfl:fn=Tryz.f3:=(Option.some.inj (Tryz.func3.symm.trans hfn)).symm
   exact⟨by kernel_rfl,fun j t ht=>by
    rw[Tryz.params3] at ht
    have hm:t∈[24,25,25,24,26]:=by simpa using Array.mem_of_getElem? ht
    have hall:([24,25,25,24,26].all fun u=>!Tryz.prog.wantsStandIn u)=true:=by kernel_rfl
    exact(show Tryz.prog.wantsStandIn t=false by simpa using List.all_eq_true.1 hall t hm)⟩)
  (by kernel_rfl)
#print axioms polyEvals_card
end Go.Proofs.YtgieoghechekpaaGreatDoor
