/- Proved: for any numbers, PolyShares returns true and leaves its arguments as they were. The four variables that the program lays as its text says. -/
import Derived.Test.YtgieoghechekpaaDoorAPF
namespace Go.Proofs.YtgieoghechekpaaDoor
set_option linter.unusedVariables false
set_option linter.unusedSimpArgs false
set_option maxRecDepth 100000
set_option maxHeartbeats 4000000
open Go.ChangeShapes Go.WideShapes Go.ChangeAt Go.RowKit
theorem polyShares_lifted(os:Go.Os)(started:os.Started)(H:Type)(enc:TypeId×Value->H):
 ReturnsInHanded {} Tryd.checked os 3 .any (fun w args=>(Rows.polySharesSpec.pre enc Tryd.prog Tryd.f3 [] false w args/\laidMetH Tryd.prog lstP w)/\sizedMet enc Tryd.prog Tryd.f3 (OpenSpec.ofChange Rows.polySharesSpec) false w args)
  (Rows.polySharesSpec.post enc Tryd.prog Tryd.f3 false true false false):=by
 refine returnsInHanded_of_change_and (C:=Tryd.checked) (X:=fun w _=>laidMetH Tryd.prog lstP w) (fun _ _ _ hh h=>h.of_heap hh) own4 started (by kernel_rfl) Tryd.func3
  (ChangeSpec.witness_shaped (enc:=enc) (C:=Tryd.checked) (os:=os) (X:=fun w _=>laidMetH Tryd.prog lstP w) false (World.doorLaid Tryd.prog 400 os) #[.slice none 0 0,.slice none 0 0,.agg #[.int .u64 0,.int .u64 0,.int .u64 0,.int .u64 0]] 8 rfl (World.shaped_of_RefB (by kernel_rfl) (by kernel_rfl)) (by kernel_rfl) (by kernel_rfl) (by kernel_rfl) (doorP os _)) ?_
 intro W base args ds gs before hval0 hW _ _ hL _
 have hval: ∀(j:Nat) t v,Tryd.f3.params[j]?=some t->args[j]?=some v->Value.okWide Tryd.prog W .any base t v:=hval0
 have hW':=hW
 obtain⟨p,q,hA0,hV,rfl,hfz,hnd⟩:=hW
 have hA:DataW.TrodAll enc Tryd.prog W 0 (fun _=>true) true Tryd.f3.params.toList args.toList ds p:=hA0
 rw[Tryd.params3] at hA hval
 obtain⟨v0,v1,v2,d0,d1,d2,q0,q1,q2,rfl,rfl,rfl,h0,h1,h2⟩:=trodAll_three hA
 obtain⟨rfl,rfl⟩:=trodVars_none hV
 simp only[List.append_nil] at hW'
 have hGV:=of_laidP hL
 have hlt: ∀x∈q0++q1++q2,x.block<W.heap.size:=fun x hx=>by simpa using hW'.lt x (by simpa using hx)
 have hargs: ∀(W':World),Bw W W'->DataW.Trod enc Tryd.prog W' 0 (fun b=>decide (b<W.heap.size)) true 22 v0 d0 q0/\DataW.Trod enc Tryd.prog W' 0 (fun b=>decide (b<W.heap.size)) true 23 v1 d1 q1/\DataW.Trod enc Tryd.prog W' 0 (fun b=>decide (b<W.heap.size)) true 26 v2 d2 q2:=
  fun W' hn=>⟨Below.trod laid4 (by kernel_rfl) (of_decide_eq_true (by kernel_rfl)) h0 hn (fun x hx=>hlt x (by simp[hx])),Below.trod laid4 (by kernel_rfl) (of_decide_eq_true (by kernel_rfl)) h1 hn (fun x hx=>hlt x (by simp[hx])),Below.trod laid4 (by kernel_rfl) (of_decide_eq_true (by kernel_rfl)) h2 hn (fun x hx=>hlt x (by simp[hx]))⟩
 have h0k:=h0
 have h1k:=h1
 have h2k:=h2
 obtain⟨sla,lena,capa,gba,goa,nsa,rfl,n1a,n2a,n3a,n4a,n5a,n6a,n7a⟩:=open_nats 12 (hval 0 22 v0 rfl rfl) h0k
 obtain⟨slb,lenb,capb,gbb,gob,fb,rfl,hLb,m2b,m3b,m4b,m5b,m6b⟩:=open_ints (hval 1 23 v1 rfl rfl) h1k
 obtain⟨t0,t1,t2,t3,rfl,_,_,wt0,wt1,wt2,wt3⟩:=open_nat (hval 2 26 v2 rfl rfl) h2k
 have it:=In_V wt0 wt1 wt2 wt3
 have et:=NV_V wt0 wt1 wt2 wt3
 clear hA0 hval0
 have hwalk:=(by have h:=polyShares_any (V t0 t1 t2 t3) sla slb lena capa gba goa lenb capb gbb gob fb nsa W hGV it n7a n1a n2a n3a n4a n5a n6a hLb m4b m5b m6b;rw[et] at h;exact h)
 refine hwalk.mono fun e W' ⟨he,bel⟩=>?_
 subst he
 exact⟨_,rfl,_,_,_,[],_,[],hW',trodAll_mk1 (shut_bool Tryd.underlying4 _),(by first | exact trodAll_mk3 (hargs _ bel).1 (hargs _ bel).2.1 (hargs _ bel).2.2 | (simp only[List.append_assoc];exact trodAll_mk3 (hargs _ bel).1 (hargs _ bel).2.1 (hargs _ bel).2.2)),rfl,bel.frame _,fun h=>by cases h⟩
theorem polyShares_holds:Rows.PolySharesSaid:=
 OpenClaim.holds_of_wide 3 Tryd.f3 rfl rfl rfl rfl rfl rfl rfl ⟨rfl,rfl,rfl,rfl,rfl⟩ rfl rfl rfl rfl rfl (by kernel_rfl) Tryd.func3 (by kernel_rfl)
  (of_decide_eq_true (by kernel_rfl)) (by unfold Func.isWrapper;first | (rw[if_pos (by decide+kernel)];kernel_rfl) | (rw[if_neg (by decide+kernel)];exact⟨rfl,rfl⟩))
  (fun os started H enc _=>polyShares_lifted os started H enc)
theorem polyShares_card:Rows.PolySharesCardSaid:=
 Claim7.holds_tied_plain_at .later [] [.data,.data,.data,.handle] true (true, "0cacd763819ad9814ec0447a75a994986e19f88698dfcafcea547517bf15c00e") true
  polyShares_holds (fun _ h=>by cases h) (by kernel_rfl) (fun _ h=>by cases h) polyShares_row_tie rfl ⟨rfl,rfl⟩ (by kernel_rfl) rfl
  (fun f fn hf hfn=>by
   obtain rfl:f=3:=Option.some.inj ((show Tryd.prog.funcNamed "seneschal/seneschallaw10.PolyShares" =some 3 by kernel_rfl).symm.trans hf)|>.symm
   obtain rfl:fn=Tryd.f3:=(Option.some.inj (Tryd.func3.symm.trans hfn)).symm
   exact⟨by kernel_rfl,fun j t ht=>by
    rw[Tryd.params3] at ht
    have hm:t∈[22,23,26]:=by simpa using Array.mem_of_getElem? ht
    have hall:([22,23,26].all fun u=>!Tryd.prog.wantsStandIn u)=true:=by kernel_rfl
    exact(show Tryd.prog.wantsStandIn t=false by simpa using List.all_eq_true.1 hall t hm)⟩)
  (by kernel_rfl)
#print axioms polyShares_card
end Go.Proofs.YtgieoghechekpaaDoor
