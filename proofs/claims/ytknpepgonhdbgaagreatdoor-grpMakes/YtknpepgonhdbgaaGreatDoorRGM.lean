/- Proved: for any group, any numbers and any bytes, GrpMakes returns true and leaves its arguments as they were. The five variables that the program lays as its text says. -/
import Derived.Test.YtknpepgonhdbgaaGreatDoorAN8
namespace Go.Proofs.YtknpepgonhdbgaaGreatDoor
set_option linter.unusedVariables false
set_option linter.unusedSimpArgs false
set_option maxRecDepth 100000
set_option maxHeartbeats 4000000
open Go.ChangeShapes Go.WideShapes Go.ChangeAt Go.RowKit
theorem grpMakes_lifted(os:Go.Os)(started:os.Started)(H:Type)(enc:TypeId×Value->H):
 ReturnsInHanded {} Tryz.checked os 4 .any (fun w args=>(Rows.grpMakesSpec.pre enc Tryz.prog Tryz.f4 [] false w args/\laidMetH Tryz.prog lstG w)/\sizedMet enc Tryz.prog Tryz.f4 (OpenSpec.ofChange Rows.grpMakesSpec) false w args)
  (Rows.grpMakesSpec.post enc Tryz.prog Tryz.f4 false true false false):=by
 refine returnsInHanded_of_change_and (C:=Tryz.checked) (X:=fun w _=>laidMetH Tryz.prog lstG w) (fun _ _ _ hh h=>h.of_heap hh) own4 started (by kernel_rfl) Tryz.func4
  (ChangeSpec.witness_shaped (enc:=enc) (C:=Tryz.checked) (os:=os) (X:=fun w _=>laidMetH Tryz.prog lstG w) false (World.doorLaid Tryz.prog 400 os) #[.agg #[.int .u64 0,.int .u64 0,.int .u64 0,.int .u64 0,.int .u64 0,.int .u64 0,.int .u64 0,.int .u64 0,.int .u64 0,.int .u64 0,.int .u64 0,.int .u64 0,.int .u64 0,.int .u64 0,.int .u64 0,.int .u64 0],.slice none 0 0,.agg #[.int .u64 0,.int .u64 0,.int .u64 0,.int .u64 0],.agg #[.int .u64 0,.int .u64 0,.int .u64 0,.int .u64 0],.slice none 0 0] 8 rfl (World.shaped_of_RefB (by kernel_rfl) (by kernel_rfl)) (by kernel_rfl) (by kernel_rfl) (by kernel_rfl) (doorG os _)) ?_
 intro W base args ds gs before hval0 hW _ _ hL _
 have hval: ∀(j:Nat) t v,Tryz.f4.params[j]?=some t->args[j]?=some v->Value.okWide Tryz.prog W .any base t v:=hval0
 have hW':=hW
 obtain⟨p,q,hA0,hV,rfl,hfz,hnd⟩:=hW
 have hA:DataW.TrodAll enc Tryz.prog W 0 (fun _=>true) true Tryz.f4.params.toList args.toList ds p:=hA0
 rw[Tryz.params4] at hA hval
 obtain⟨v0,v1,v2,v3,v4,d0,d1,d2,d3,d4,q0,q1,q2,q3,q4,rfl,rfl,rfl,h0,h1,h2,h3,h4⟩:=trodAll_five hA
 obtain⟨rfl,rfl⟩:=trodVars_none hV
 simp only[List.append_nil] at hW'
 have hGV:=of_laidG hL
 have hlt: ∀x∈q0++q1++q2++q3++q4,x.block<W.heap.size:=fun x hx=>by simpa using hW'.lt x (by simpa using hx)
 have hargs: ∀(W':World),Bw W W'->DataW.Trod enc Tryz.prog W' 0 (fun b=>decide (b<W.heap.size)) true 26 v0 d0 q0/\DataW.Trod enc Tryz.prog W' 0 (fun b=>decide (b<W.heap.size)) true 35 v1 d1 q1/\DataW.Trod enc Tryz.prog W' 0 (fun b=>decide (b<W.heap.size)) true 24 v2 d2 q2/\DataW.Trod enc Tryz.prog W' 0 (fun b=>decide (b<W.heap.size)) true 24 v3 d3 q3/\DataW.Trod enc Tryz.prog W' 0 (fun b=>decide (b<W.heap.size)) true 36 v4 d4 q4:=
  fun W' hn=>⟨Below.trod laid4 (by kernel_rfl) (of_decide_eq_true (by kernel_rfl)) h0 hn (fun x hx=>hlt x (by simp[hx])),Below.trod laid4 (by kernel_rfl) (of_decide_eq_true (by kernel_rfl)) h1 hn (fun x hx=>hlt x (by simp[hx])),Below.trod laid4 (by kernel_rfl) (of_decide_eq_true (by kernel_rfl)) h2 hn (fun x hx=>hlt x (by simp[hx])),Below.trod laid4 (by kernel_rfl) (of_decide_eq_true (by kernel_rfl)) h3 hn (fun x hx=>hlt x (by simp[hx])),Below.trod laid4 (by kernel_rfl) (of_decide_eq_true (by kernel_rfl)) h4 hn (fun x hx=>hlt x (by simp[hx]))⟩
 have h0k:=h0
 have h1k:=h1
 have h2k:=h2
 have h3k:=h3
 have h4k:=h4
 obtain⟨p,q,g,hh,rfl,ip,iq,ig,ih⟩:=open_group (hval 0 26 v0 rfl rfl) h0k
 obtain⟨sl,len,cap,gb,go,ns,rfl,n1,n2,n3,n4,n5,n6,n7⟩:=open_nats 12 (hval 1 35 v1 rfl rfl) h1k
 obtain⟨s0,s1,s2,s3,rfl,_,_,ws0,ws1,ws2,ws3⟩:=open_nat (hval 2 24 v2 rfl rfl) h2k
 have is:=In_V ws0 ws1 ws2 ws3
 have es:=NV_V ws0 ws1 ws2 ws3
 obtain⟨t0,t1,t2,t3,rfl,_,_,wt0,wt1,wt2,wt3⟩:=open_nat (hval 3 24 v3 rfl rfl) h3k
 have it:=In_V wt0 wt1 wt2 wt3
 have et:=NV_V wt0 wt1 wt2 wt3
 obtain⟨slb,capb,gbb,gob,xsb,rfl,k1b,k2b,k3b,k4b,k5b,k6b⟩:=open_by (by have:=hGV.sz;omega) (hval 4 36 v4 rfl rfl) h4k
 obtain⟨m1b,m2b,m3b⟩:=min_pre 200 xsb
 clear hA0 hval0
 have hwalk:=(by have h:=grpMakes_any p q g hh (V s0 s1 s2 s3) (V t0 t1 t2 t3) sl gb go len cap ns slb xsb.length capb _ _ W ip iq ig ih is it (fun k hk=>n7 _ (by rw[List.getD_eq_getElem?_getD,List.getElem?_eq_getElem hk];exact List.getElem_mem hk)) (by omega) n2 n3 n5 n6 (n4.imp (fun e=>List.eq_nil_of_length_eq_zero (by omega)) id) m1b m2b k1b k2b (in_pre 200 k1b k3b k4b k5b) (fun x hx=>k6b x (List.mem_of_mem_take hx)) (by omega) (gPa0 W hGV.v) (gExp W hGV.t) (gIs W hGV.t) (gChk W) (gCom W hGV.t) (gMul W hGV.t) (gMem W hGV.v) (gSca W hGV.v);rw[es,et] at h;exact h)
 refine hwalk.mono fun e W' ⟨he,bel⟩=>?_
 subst he
 exact⟨_,rfl,_,_,_,[],_,[],hW',trodAll_mk1 (shut_bool Tryz.underlying4 _),(by first | exact trodAll_mk5 (hargs _ bel).1 (hargs _ bel).2.1 (hargs _ bel).2.2.1 (hargs _ bel).2.2.2.1 (hargs _ bel).2.2.2.2 | (simp only[List.append_assoc];exact trodAll_mk5 (hargs _ bel).1 (hargs _ bel).2.1 (hargs _ bel).2.2.1 (hargs _ bel).2.2.2.1 (hargs _ bel).2.2.2.2)),rfl,bel.frame _,fun h=>by cases h⟩
theorem grpMakes_holds:Rows.GrpMakesSaid:=
 OpenClaim.holds_of_wide 4 Tryz.f4 rfl rfl rfl rfl rfl rfl rfl ⟨rfl,rfl,rfl,rfl,rfl⟩ rfl rfl rfl rfl rfl (by kernel_rfl) Tryz.func4 (by kernel_rfl)
  (of_decide_eq_true (by kernel_rfl)) (by unfold Func.isWrapper;first | (rw[if_pos (by decide+kernel)];kernel_rfl) | (rw[if_neg (by decide+kernel)];exact⟨rfl,rfl⟩))
  (fun os started H enc _=>grpMakes_lifted os started H enc)
theorem grpMakes_card:Rows.GrpMakesCardSaid:=
 Claim7.holds_tied_plain_at .later [] [.data,.data,.data,.data,.data] true (true, "c23cea0777dd7d4ec82a202e3326ab7f6e52c60381327f7b88e1805c4f269827") true
  grpMakes_holds (fun _ h=>by cases h) (by kernel_rfl) (fun _ h=>by cases h) grpMakes_row_tie rfl ⟨rfl,rfl⟩ (by kernel_rfl) rfl
  (fun f fn hf hfn=>by
   obtain rfl:f=4:=Option.some.inj ((show Tryz.prog.funcNamed "seneschal/seneschallaw09.GrpMakes" =some 4 by kernel_rfl).symm.trans hf)|>.symm
   obtain rfl:fn=Tryz.f4:=(Option.some.inj (Tryz.func4.symm.trans hfn)).symm
   exact⟨by kernel_rfl,fun j t ht=>by
    rw[Tryz.params4] at ht
    have hm:t∈[26,35,24,24,36]:=by simpa using Array.mem_of_getElem? ht
    have hall:([26,35,24,24,36].all fun u=>!Tryz.prog.wantsStandIn u)=true:=by kernel_rfl
    exact(show Tryz.prog.wantsStandIn t=false by simpa using List.all_eq_true.1 hall t hm)⟩)
  (by kernel_rfl)
#print axioms grpMakes_card
end Go.Proofs.YtknpepgonhdbgaaGreatDoor
