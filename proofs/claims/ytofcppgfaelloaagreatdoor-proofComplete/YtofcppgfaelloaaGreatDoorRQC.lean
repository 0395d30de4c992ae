/- Proved: for any bytes and numbers, ProofComplete returns true and leaves its arguments as they were. The five variables that the program lays as its text says. -/
import Derived.Test.YtofcppgfaelloaaGreatDoorADB
namespace Go.Proofs.YtofcppgfaelloaaGreatDoor
set_option linter.unusedVariables false
set_option linter.unusedSimpArgs false
set_option maxRecDepth 100000
set_option maxHeartbeats 4000000
open Go.ChangeShapes Go.WideShapes Go.ChangeAt Go.RowKit
theorem Vo (os:Go.Os) (started:os.Started) (H:Type) (enc:TypeId×Value->H):
 ReturnsInHanded {} Tryz.checked os 5 .any (fun w args=>(Rows.proofCompleteSpec.pre enc Tryz.prog Tryz.f5 [] false w args/\laidMetH Tryz.prog lstG w)/\sizedMet enc Tryz.prog Tryz.f5 (OpenSpec.ofChange Rows.proofCompleteSpec) false w args)
  (Rows.proofCompleteSpec.post enc Tryz.prog Tryz.f5 false true false false):=by
 refine returnsInHanded_of_change_and (C:=Tryz.checked) (X:=fun w _=>laidMetH Tryz.prog lstG w) (fun _ _ _ hh h=>h.of_heap hh) own4 started (by kernel_rfl) Tryz.func5
  (ChangeSpec.witness_shaped (enc:=enc) (C:=Tryz.checked) (os:=os) (X:=fun w _=>laidMetH Tryz.prog lstG w) false (World.doorLaid Tryz.prog 400 os) #[.slice none 0 0,.agg #[iU 0,iU 0,iU 0,iU 0],.agg #[iU 0,iU 0,iU 0,iU 0],.agg #[iU 0,iU 0,iU 0,iU 0],.agg #[iU 0,iU 0,iU 0,iU 0]] 8 rfl (World.shaped_of_RefB (by kernel_rfl) (by kernel_rfl)) (by kernel_rfl) (by kernel_rfl) (by kernel_rfl) (doorG os _)) ?_
 intro W base args ds gs before hval0 hW _ _ hL _
 have hval: ∀(j:Nat) t v,Tryz.f5.params[j]?=some t->args[j]?=some v->Value.okWide Tryz.prog W .any base t v:=hval0
 have hW':=hW
 obtain⟨p,q,hA0,hV,rfl,hfz,hnd⟩:=hW
 have hA:DataW.TrodAll enc Tryz.prog W 0 (fun _=>true) true Tryz.f5.params.toList args.toList ds p:=hA0
 rw[Tryz.params5] at hA hval
 obtain⟨v0,v1,v2,v3,v4,d0,d1,d2,d3,d4,q0,q1,q2,q3,q4,rfl,rfl,rfl,h0,h1,h2,h3,h4⟩:=Tc hA
 obtain⟨rfl,rfl⟩:=trodVars_none hV
 simp only[List.append_nil] at hW'
 have hGV:=of_laidG hL
 have hlt: ∀x∈q0++q1++q2++q3++q4,x.block<W.heap.size:=fun x hx=>by simpa using hW'.lt x (by simpa using hx)
 have hargs: ∀(W':World),Bw W W'->DataW.Trod enc Tryz.prog W' 0 (fun b=>decide (b<W.heap.size)) true 43 v0 d0 q0/\DataW.Trod enc Tryz.prog W' 0 (fun b=>decide (b<W.heap.size)) true 24 v1 d1 q1/\DataW.Trod enc Tryz.prog W' 0 (fun b=>decide (b<W.heap.size)) true 24 v2 d2 q2/\DataW.Trod enc Tryz.prog W' 0 (fun b=>decide (b<W.heap.size)) true 24 v3 d3 q3/\DataW.Trod enc Tryz.prog W' 0 (fun b=>decide (b<W.heap.size)) true 24 v4 d4 q4:=
  fun W' hn=>⟨Below.trod Wg (by kernel_rfl) (of_decide_eq_true (by kernel_rfl)) h0 hn (fun x hx=>hlt x (by simp[hx])),Below.trod Wg (by kernel_rfl) (of_decide_eq_true (by kernel_rfl)) h1 hn (fun x hx=>hlt x (by simp[hx])),Below.trod Wg (by kernel_rfl) (of_decide_eq_true (by kernel_rfl)) h2 hn (fun x hx=>hlt x (by simp[hx])),Below.trod Wg (by kernel_rfl) (of_decide_eq_true (by kernel_rfl)) h3 hn (fun x hx=>hlt x (by simp[hx])),Below.trod Wg (by kernel_rfl) (of_decide_eq_true (by kernel_rfl)) h4 hn (fun x hx=>hlt x (by simp[hx]))⟩
 have h0k:=h0
 have h1k:=h1
 have h2k:=h2
 have h3k:=h3
 have h4k:=h4
 obtain⟨sla,capa,gba,goa,xsa,rfl,k1a,k2a,k3a,k4a,k5a,k6a⟩:=open_by (by have:=hGV.sz;omega) (hval 0 43 v0 rfl rfl) h0k
 obtain⟨m1a,m2a,m3a⟩:=min_pre 100 xsa
 obtain⟨s0,s1,s2,s3,rfl,_,_,ws0,ws1,ws2,ws3⟩:=Yn (hval 1 24 v1 rfl rfl) h1k
 have is:=In_V ws0 ws1 ws2 ws3
 have es:=NV_V ws0 ws1 ws2 ws3
 obtain⟨u0,u1,u2,u3,rfl,_,_,wu0,wu1,wu2,wu3⟩:=Yn (hval 2 24 v2 rfl rfl) h2k
 have iu:=In_V wu0 wu1 wu2 wu3
 have eu:=NV_V wu0 wu1 wu2 wu3
 obtain⟨x0,x1,x2,x3,rfl,_,_,wx0,wx1,wx2,wx3⟩:=Yn (hval 3 24 v3 rfl rfl) h3k
 have ix:=In_V wx0 wx1 wx2 wx3
 have ex:=NV_V wx0 wx1 wx2 wx3
 obtain⟨y0,y1,y2,y3,rfl,_,_,wy0,wy1,wy2,wy3⟩:=Yn (hval 4 24 v4 rfl rfl) h4k
 have iy:=In_V wy0 wy1 wy2 wy3
 have ey:=NV_V wy0 wy1 wy2 wy3
 clear hA0 hval0
 have hwalk:=(by have h:=Ux sla xsa.length capa _ _ (V s0 s1 s2 s3) (V u0 u1 u2 u3) (V x0 x1 x2 x3) (V y0 y1 y2 y3) W m1a m2a k1a k2a (in_pre 100 k1a k3a k4a k5a) (fun x hx=>k6a x (List.mem_of_mem_take hx)) (by omega) is iu ix iy ⟨hGV.t,hGV.v⟩;rw[es,eu,ex,ey] at h;exact h)
 refine hwalk.mono fun e W' ⟨he,bel⟩=>?_
 subst he
 exact⟨_,rfl,_,_,_,[],_,[],hW',trodAll_mk1 (shut_bool Tryz.underlying4 _),(by first | exact Xv (hargs _ bel).1 (hargs _ bel).2.1 (hargs _ bel).2.2.1 (hargs _ bel).2.2.2.1 (hargs _ bel).2.2.2.2 | (simp only[List.append_assoc];exact Xv (hargs _ bel).1 (hargs _ bel).2.1 (hargs _ bel).2.2.1 (hargs _ bel).2.2.2.1 (hargs _ bel).2.2.2.2)),rfl,bel.frame _,fun h=>by cases h⟩
theorem U2:Rows.ProofCompleteSaid:=
 OpenClaim.holds_of_wide 5 Tryz.f5 rfl rfl rfl rfl rfl rfl rfl ⟨rfl,rfl,rfl,rfl,rfl⟩ rfl rfl rfl rfl rfl (by kernel_rfl) Tryz.func5 (by kernel_rfl)
  (of_decide_eq_true (by kernel_rfl)) (by unfold Func.isWrapper;first | (rw[if_pos (by decide+kernel)];kernel_rfl) | (rw[if_neg (by decide+kernel)];exact⟨rfl,rfl⟩))
  (fun os started H enc _=>Vo os started H enc)
theorem proofComplete_card:Rows.ProofCompleteCardSaid:=
 Claim7.holds_tied_plain_at .later [] [.data,.data,.data,.data,.data] true (true, "704e4c4d820607630e6b396e689e15193510f483ff64be81c04f0c080ab7e35f") true
  U2 (fun _ h=>by cases h) (by kernel_rfl) (fun _ h=>by cases h) proofComplete_row_tie rfl ⟨rfl,rfl⟩ (by kernel_rfl) rfl
  (fun f fn hf hfn=>by
   obtain rfl:f=5:=Option.some.inj ((show Tryz.prog.funcNamed "seneschal/seneschallaw13.ProofComplete" =some 5 by kernel_rfl).symm.trans hf)|>.symm
   obtain rfl:fn=Tryz.f5:=(Option.some.inj (Tryz.func5.symm.trans hfn)).symm
   exact⟨by kernel_rfl,fun j t ht=>by
    rw[Tryz.params5] at ht
    have hm:t∈[43,24,24,24,24]:=by simpa using Array.mem_of_getElem? ht
    have hall:([43,24,24,24,24].all fun u=>!Tryz.prog.wantsStandIn u)=true:=by kernel_rfl
    exact(show Tryz.prog.wantsStandIn t=false by simpa using List.all_eq_true.1 hall t hm)⟩)
  (by kernel_rfl)
#print axioms proofComplete_card
end Go.Proofs.YtofcppgfaelloaaGreatDoor
