/- Proved: for any bytes and any proof, ProofSound returns true and leaves its arguments as they were. The five variables that the program lays as its text says. -/
import Derived.Test.YtofcppgfaelloaaGreatDoorADB
namespace Go.Proofs.YtofcppgfaelloaaGreatDoor
set_option linter.unusedVariables false
set_option linter.unusedSimpArgs false
set_option maxRecDepth 100000
set_option maxHeartbeats 4000000
open Go.ChangeShapes Go.WideShapes Go.ChangeAt Go.RowKit
theorem Uv (os:Go.Os) (started:os.Started) (H:Type) (enc:TypeId×Value->H):
 ReturnsInHanded {} Tryz.checked os 6 .any (fun w args=>(Rows.proofSoundSpec.pre enc Tryz.prog Tryz.f6 [] false w args/\laidMetH Tryz.prog lstG w)/\sizedMet enc Tryz.prog Tryz.f6 (OpenSpec.ofChange Rows.proofSoundSpec) false w args)
  (Rows.proofSoundSpec.post enc Tryz.prog Tryz.f6 false true false false):=by
 refine returnsInHanded_of_change_and (C:=Tryz.checked) (X:=fun w _=>laidMetH Tryz.prog lstG w) (fun _ _ _ hh h=>h.of_heap hh) own4 started (by kernel_rfl) Tryz.func6
  (ChangeSpec.witness_shaped (enc:=enc) (C:=Tryz.checked) (os:=os) (X:=fun w _=>laidMetH Tryz.prog lstG w) false (World.doorLaid Tryz.prog 400 os) #[.slice none 0 0,.slice none 0 0,.slice none 0 0,.agg #[iU 0,iU 0,iU 0,iU 0,iU 0,iU 0,iU 0,iU 0,iU 0,iU 0,iU 0,iU 0]] 8 rfl (World.shaped_of_RefB (by kernel_rfl) (by kernel_rfl)) (by kernel_rfl) (by kernel_rfl) (by kernel_rfl) (doorG os _)) ?_
 intro W base args ds gs before hval0 hW _ _ hL _
 have hval: ∀(j:Nat) t v,Tryz.f6.params[j]?=some t->args[j]?=some v->Value.okWide Tryz.prog W .any base t v:=hval0
 have hW':=hW
 obtain⟨p,q,hA0,hV,rfl,hfz,hnd⟩:=hW
 have hA:DataW.TrodAll enc Tryz.prog W 0 (fun _=>true) true Tryz.f6.params.toList args.toList ds p:=hA0
 rw[Tryz.params6] at hA hval
 obtain⟨v0,v1,v2,v3,d0,d1,d2,d3,q0,q1,q2,q3,rfl,rfl,rfl,h0,h1,h2,h3⟩:=trodAll_four hA
 obtain⟨rfl,rfl⟩:=trodVars_none hV
 simp only[List.append_nil] at hW'
 have hGV:=of_laidG hL
 have hlt: ∀x∈q0++q1++q2++q3,x.block<W.heap.size:=fun x hx=>by simpa using hW'.lt x (by simpa using hx)
 have hargs: ∀(W':World),Bw W W'->DataW.Trod enc Tryz.prog W' 0 (fun b=>decide (b<W.heap.size)) true 43 v0 d0 q0/\DataW.Trod enc Tryz.prog W' 0 (fun b=>decide (b<W.heap.size)) true 43 v1 d1 q1/\DataW.Trod enc Tryz.prog W' 0 (fun b=>decide (b<W.heap.size)) true 43 v2 d2 q2/\DataW.Trod enc Tryz.prog W' 0 (fun b=>decide (b<W.heap.size)) true 30 v3 d3 q3:=
  fun W' hn=>⟨Below.trod Wg (by kernel_rfl) (of_decide_eq_true (by kernel_rfl)) h0 hn (fun x hx=>hlt x (by simp[hx])),Below.trod Wg (by kernel_rfl) (of_decide_eq_true (by kernel_rfl)) h1 hn (fun x hx=>hlt x (by simp[hx])),Below.trod Wg (by kernel_rfl) (of_decide_eq_true (by kernel_rfl)) h2 hn (fun x hx=>hlt x (by simp[hx])),Below.trod Wg (by kernel_rfl) (of_decide_eq_true (by kernel_rfl)) h3 hn (fun x hx=>hlt x (by simp[hx]))⟩
 have h0k:=h0
 have h1k:=h1
 have h2k:=h2
 have h3k:=h3
 obtain⟨sla,capa,gba,goa,xsa,rfl,k1a,k2a,k3a,k4a,k5a,k6a⟩:=open_by (by have:=hGV.sz;omega) (hval 0 43 v0 rfl rfl) h0k
 obtain⟨m1a,m2a,m3a⟩:=min_pre 100 xsa
 obtain⟨slb,capb,gbb,gob,xsb,rfl,k1b,k2b,k3b,k4b,k5b,k6b⟩:=open_by (by have:=hGV.sz;omega) (hval 1 43 v1 rfl rfl) h1k
 obtain⟨m1b,m2b,m3b⟩:=min_pre 100 xsb
 obtain⟨slc,capc,gbc,goc,xsc,rfl,k1c,k2c,k3c,k4c,k5c,k6c⟩:=open_by (by have:=hGV.sz;omega) (hval 2 43 v2 rfl rfl) h2k
 obtain⟨m1c,m2c,m3c⟩:=min_pre 100 xsc
 obtain⟨pc,py,pz,rfl,ipc,ipy,ipz⟩:=open_proof (hval 3 30 v3 rfl rfl) h3k
 clear hA0 hval0
 have hwalk:=proofSound_any sla xsa.length capa _ slb xsb.length capb _ slc xsc.length capc _ _ _ _ pc py pz W m1a m2a k1a k2a m1b m2b k1b k2b m1c m2c k1c k2c (in_pre 100 k1a k3a k4a k5a) (fun x hx=>k6a x (List.mem_of_mem_take hx)) (by omega) (in_pre 100 k1b k3b k4b k5b) (fun x hx=>k6b x (List.mem_of_mem_take hx)) (by omega) (in_pre 100 k1c k3c k4c k5c) (fun x hx=>k6c x (List.mem_of_mem_take hx)) (by omega) ipc ipy ipz ⟨hGV.t,hGV.v⟩
 refine hwalk.mono fun e W' ⟨he,bel⟩=>?_
 subst he
 exact⟨_,rfl,_,_,_,[],_,[],hW',trodAll_mk1 (shut_bool Tryz.underlying4 _),(by first | exact trodAll_mk4 (hargs _ bel).1 (hargs _ bel).2.1 (hargs _ bel).2.2.1 (hargs _ bel).2.2.2 | (simp only[List.append_assoc];exact trodAll_mk4 (hargs _ bel).1 (hargs _ bel).2.1 (hargs _ bel).2.2.1 (hargs _ bel).2.2.2)),rfl,bel.frame _,fun h=>by cases h⟩
theorem Tq:Rows.ProofSoundSaid:=
 OpenClaim.holds_of_wide 6 Tryz.f6 rfl rfl rfl rfl rfl rfl rfl ⟨rfl,rfl,rfl,rfl,rfl⟩ rfl rfl rfl rfl rfl (by kernel_rfl) Tryz.func6 (by kernel_rfl)
  (of_decide_eq_true (by kernel_rfl)) (by unfold Func.isWrapper;first | (rw[if_pos (by decide+kernel)];kernel_rfl) | (rw[if_neg (by decide+kernel)];exact⟨rfl,rfl⟩))
  (fun os started H enc _=>Uv os started H enc)
theorem proofSound_card:Rows.ProofSoundCardSaid:=
 Claim7.holds_tied_plain_at .later [] [.data,.data,.data,.data,.data] true (true, "704e4c4d820607630e6b396e689e15193510f483ff64be81c04f0c080ab7e35f") true
  Tq (fun _ h=>by cases h) (by kernel_rfl) (fun _ h=>by cases h) proofSound_row_tie rfl ⟨rfl,rfl⟩ (by kernel_rfl) rfl
  (fun f fn hf hfn=>by
   obtain rfl:f=6:=Option.some.inj ((show Tryz.prog.funcNamed "seneschal/seneschallaw13.ProofSound" =some 6 by kernel_rfl).symm.trans hf)|>.symm
   obtain rfl:fn=Tryz.f6:=(Option.some.inj (Tryz.func6.symm.trans hfn)).symm
   exact⟨by kernel_rfl,fun j t ht=>by
    rw[Tryz.params6] at ht
    have hm:t∈[43,43,43,30]:=by simpa using Array.mem_of_getElem? ht
    have hall:([43,43,43,30].all fun u=>!Tryz.prog.wantsStandIn u)=true:=by kernel_rfl
    exact(show Tryz.prog.wantsStandIn t=false by simpa using List.all_eq_true.1 hall t hm)⟩)
  (by kernel_rfl)
#print axioms proofSound_card
end Go.Proofs.YtofcppgfaelloaaGreatDoor
