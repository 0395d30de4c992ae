import Derived.Test.YtgieoghechekpaaGreatDoorAPC
namespace Go.Proofs.YtgieoghechekpaaGreatDoor
set_option linter.unusedVariables false
set_option linter.unusedSimpArgs false
set_option maxRecDepth 100000
set_option maxHeartbeats 4000000
section
open Go.RowKit Go.WideMaps Go.ChangeShapes
theorem laidM:laidOutB Tryz.prog=true:=by kernel_rfl
theorem rowM_:(24:TypeId)<Tryz.prog.types.size:=of_decide_eq_true (by kernel_rfl)
theorem wideM:(match Tryz.prog.underlying 24 with | some (.array _ _) | some (.struct _)=>true | _=>false)=true:=by rw[Tryz.underlying24]
theorem lawM:KeyLaw Tryz.prog 24:=Go.deep_law_laid laidM (m:=2) (by omega) rowM_ (by kernel_rfl) wideM
theorem szM:Tryz.prog.types.size=203:=by kernel_rfl
theorem ktM:Tryz.prog.keyType 24=true:=by kernel_rfl
theorem wfM{n:Int}(h:W64 n):(Lit.int .u64 n).wf=true:=by
 unfold W64 at h
 simp[Lit.wf,IntKind.min,IntKind.max,IntKind.signed,IntKind.bits];omega
theorem ceN:Tryz.prog.cellsOf 24=4:=by kernel_rfl
theorem ceW:Tryz.prog.cellsOf 22=1:=by kernel_rfl
theorem kl1(d:Nat){n:Int}(h:W64 n):Tryz.prog.keyLits (d+1) 22 [.int .u64 n]=some [.int .u64 n]:=by
 unfold Program.keyLits;simp only[Tryz.underlying22];simp[wfM h]
theorem kl4(d:Nat)(z:Int):Tryz.prog.keyLits (d+2) 24 (LN z)=some [.int .u64 (D0 z),.int .u64 (D1 z),.int .u64 (D2 z),.int .u64 (D3 z)]:=by
 unfold Program.keyLits;simp only[Tryz.underlying24]
 simp[ceN,ceW,List.range,List.range.loop,kl1 d (W_D0 z),kl1 d (W_D1 z),kl1 d (W_D2 z),kl1 d (W_D3 z)]
theorem keyM(z:Int): ∃l,keyOf Tryz.prog 24 (NV z)=some l:=by
 have hf:(NV z).formed Tryz.prog 24=true:=by
  show (A4 _ _ _ _).formed Tryz.prog 24=true
  unfold A4 Value.formed;simp[Tryz.underlying24,ceN]
 have hc:(NV z).cells.toList=LN z:=by simp[NV,A4,Value.cells]
 unfold keyOf
 rw[Tryz.underlying24,szM,hc,ktM,hf,kl4]
 exact⟨_,rfl⟩
theorem zeroM(w:World):(zeroValue 3).run Tryz.prog w= .ok (.int .i64 0) w:=by kernel_rfl
theorem lk_no{w:World}{b:Nat}{es:Array MapEntry}{clock:Nat}{z:Int}(hb:w.heap[b]?=some (.map es clock))(hk: ∀e∈es.toList,∃l,keyOf Tryz.prog 24 e.key=some l)(hne: ∀e∈es.toList,e.key≠NV z):(Instr.lookup 109 (.map (some b)) (NV z) true).run Tryz.prog w= .ok (.tuple #[.int .i64 0,.bool false]) w:=by
 obtain⟨l,hl⟩:=keyM z
 rcases lawM.find w hl es.toList hk with⟨h1,h2⟩ | ⟨j,e,h1,h2,h3⟩
 ·simp[Instr.lookup,run_underlying Tryz.underlying109,MapKept.run_getObj_map hb,lawM.check w _ hl,h1,zeroM,Result.andThen]
 ·exact absurd h3 (hne e (List.mem_of_getElem? h2))
theorem up_no{w:World}{b:Nat}{es:Array MapEntry}{clock:Nat}{z:Int}{val:Value}(hb:w.heap[b]?=some (.map es clock))(hk: ∀e∈es.toList,∃l,keyOf Tryz.prog 24 e.key=some l)(hne: ∀e∈es.toList,e.key≠NV z):(Instr.mapUpdate 109 (.map (some b)) (NV z) val).run Tryz.prog w= .ok () (ChangeMaps.setBlock w b (.map (es.push ⟨NV z,val,clock⟩) (clock+1))):=by
 obtain⟨l,hl⟩:=keyM z
 rcases lawM.find w hl es.toList hk with⟨h1,h2⟩ | ⟨j,e,h1,h2,h3⟩
 ·simp[Instr.mapUpdate,run_underlying Tryz.underlying109,MapKept.run_getObj_map hb,lawM.check w false hl,h1,MapKept.run_setObj_map _ hb,Result.andThen,ChangeMaps.setBlock]
 ·exact absurd h3 (hne e (List.mem_of_getElem? h2))
theorem setB_below{m:Nat}{w u:World}{b:Nat}{o:Obj}(h:Below m w u)(hb:m<=b):Below m w (ChangeMaps.setBlock u b o):=
 ⟨h.os,h.tape,h.output,by simp only[ChangeMaps.setBlock,Array.size_setIfInBounds];exact h.size,fun k hk=>by simp only[ChangeMaps.setBlock];rw[Array.getElem?_setIfInBounds_ne (by omega)];exact h.block k hk⟩
theorem setB_size(u:World)(b:Nat)(o:Obj):(ChangeMaps.setBlock u b o).heap.size=u.heap.size:=by simp[ChangeMaps.setBlock]
theorem mkM(n:Nat)(w:World)(h:n<=1000):(Instr.makeMap 109 (some (.int .i64 (n:Int)))).run Tryz.prog w= .ok (.map (some w.heap.size)) (w.alloc (.map #[] 0)):=by
 simp[Instr.makeMap,run_underlying Tryz.underlying109,asInt,asIntOf,Result.andThen]
theorem NV_injM{a b:Int}(ha:In a)(hb:In b)(h:NV a=NV b):a=b:=by
 have e1:=V_In ha
 have e2:=V_In hb
 unfold NV A4 at h
 simp at h
 obtain⟨h0,h1,h2,h3⟩:=h
 rw[h0,h1,h2,h3] at e1
 exact e1.symm.trans e2
def MpE(q:Int)(xs:List Int)(es:Array MapEntry):Prop:=es.toList.map (·.key)=xs.map fun x=>NV (x%q)
theorem MpE.keys{q:Int}{xs:List Int}{es:Array MapEntry}(h:MpE q xs es): ∀e∈es.toList,∃l,keyOf Tryz.prog 24 e.key=some l:=fun e he=>by
 have:e.key∈es.toList.map (·.key):=List.mem_map_of_mem he
 rw[h] at this
 obtain⟨x,_,hx⟩:=List.mem_map.1 this
 rw[<-hx];exact keyM _
theorem MpE.ne{q z:Int}{xs:List Int}{es:Array MapEntry}(h:MpE q xs es)(hi: ∀x∈xs,In (x%q))(hz:In z)(hn: ∀x∈xs,x%q≠z): ∀e∈es.toList,e.key≠NV z:=fun e he hc=>by
 have:e.key∈es.toList.map (·.key):=List.mem_map_of_mem he
 rw[h] at this
 obtain⟨x,hx,e1⟩:=List.mem_map.1 this
 exact hn x hx (NV_injM (hi x hx) hz (e1.trans hc))
theorem MpE.push{q z:Int}{xs:List Int}{es:Array MapEntry}{val:Value}{c:Nat}(h:MpE q xs es):MpE q (xs++[z]) (es.push ⟨NV (z%q),val,c⟩):=by
 unfold MpE at h⊢;simp[h]
theorem ent_O1:EnT 47:=fun _ _=>by kernel_rfl
theorem apart_ok(q:Int)(sl:Option Addr)(gb go cap:Nat)(ns:List Int)(w:World)(hq:In q)(hq0:q≠0)(hix:Hid (∀j,j<ns.length-> ∀W,(Instr.indexAt 25 (.slice sl ns.length cap) (.int .i64 j)).run Tryz.prog W= .ok (.pointer (some ⟨gb,go+4*j,none⟩)) W))(hg:ns.length=0\/gb<w.heap.size)(hS:Hid (SN w gb go ns))(hn:Hid (∀k,k<ns.length->In (ns.getD k 0)))(hns:ns.length<=1000)(hD:Hid (∀i,i<ns.length-> ∀x∈ns.take i,x%q≠ns.getD i 0%q)):
 CC 45 #[NV q,.slice sl ns.length cap] w (.nilIface):=by
 go_enter Tryz.func45,Tryz.ntmps45
 go_upto_region 1 with fail
 generalize hC:(w.alloc (.cells (LN q:List Value).toArray 24))=v0 at *
 have HB0:Bw w v0:=by rw[<-hC];exact Z0 (Z2 w) _
 have K0:Bk w.heap.size v0 [(true,w.heap.size,LN q)]:=by rw[<-hC];exact(Bk.nil _ w).ad
 clear hC
 have hmk:=fun(w:World)=>mkM ns.length w hns
 have Kq0:=K0.cv 0
 have lq0:=K0.lt 0
 go_wp2_with fail
 go_loopw [15] (fun s15 wr=> ∃(i c:Nat) (es:Array MapEntry),i<=ns.length/\s15= .int .i64 (i:Int)/\Bw v0 wr/\v0.heap.size<wr.heap.size/\Hid (wr.heap[v0.heap.size]?=some (.map es c))/\Hid (MpE q (ns.take i) es)) (fun s15 _=>ns.length -(intOf s15).toNat)
 case atStart=>exact⟨0,0,#[],by omega,rfl,Z0 (Z2 v0) _,by simp,(MapKept.heap_alloc v0 _).1,rfl⟩
 case round=>
  obtain⟨i,c,es,hi,rfl,HBr,hsz,hM,hE⟩:=hrel
  obtain⟨wo,rfl⟩: ∃x,x=wr:=⟨_,rfl⟩
  have Kq:CV wo w.heap.size (LN q):=CV.below Kq0 HBr lq0
  have lq_:w.heap.size<wo.heap.size:=Nat.lt_of_lt_of_le lq0 HBr.size
  have hTw:Bw w wo:=Z3 HB0 HBr
  have HBw:Bw wo wo:=Below.refl _ _
  by_cases hj:i<ns.length
  ·have hl:decide ((i:Int)<(ns.length:Int))=true:=by simp;omega
   have iy:=hn.out _ hj
   have hX:=hix.out _ hj
   have hX:Hid _:=hX
   have hg':=hg.resolve_left (by omega)
   have hRr:=(hS.out.below hTw hg').at _ hj
   have hgw:=Nat.lt_of_lt_of_le hg' hTw.size
   have hRr:Hid _:=hRr
   have hnx:Hid (ns.take (i+1)=ns.take i++[ns.getD i 0]):=by
    show ns.take (i+1)=ns.take i++[ns.getD i 0]
    rw[List.take_add_one,List.getElem?_eq_getElem hj];simp[List.getElem?_eq_getElem hj]
   have hnew:Hid (∀x∈ns.take i,x%q≠ns.getD i 0%q):=hD.out i hj
   have hxs:Hid (∀x∈ns.take i,In (x%q)):=fun x _=>Zd hq hq0
   obtain⟨y,ey⟩: ∃y,ns.getD i 0=y:=⟨_,rfl⟩
   rw[ey] at iy hRr hnx hnew
   clear ey
   have K0_1:Bk wo.heap.size wo [(false,w.heap.size,LN q)]:=⟨.c lq_ Kq<|trivial,by simp⟩
   go_upto_region 3 with fail
   refine rgP K0_1 HBw HBw.size [] [] [(0,16,.bool true)] [] [] [] ?_ ?_
   ·exact oc (g_bn (fun uZ=>Zv _ _ (i:Int) (ns.length:Int) _ uZ hl)) on
   intro u1 HB1 sz1 K1
   simp only[sQ] at K1⊢
   go_upto_region 4 with fail
   refine rgP K1 HB1 HB1.size [] [(3,7,L0s,some (5,LN y))] [(0,17,.int .i64 (i:Int)),(1,18,.pointer (some ⟨gb,go+4*i,none⟩)),(2,19,NV y),(4,6,.int .i64 (i:Int))] [(5,3)] [] [] ?_ ?_
   ·exact oc g_mv<|oc (g_ix (fun uZ=>hX.out uZ))<|oc (g_lf hRr.out hgw uN iN)<|oc (g_al 0 aN)<|oc g_as<|oc (g_sn 0 iN) on
   intro u2 b2_3 HB2 sz2 K2
   simp only[sQ] at K2⊢
   clear K1 HB1
   go_upto_region 5 with fail
   refine rgP K2 HB2 HB2.size [.no,.all 3 (LN (y%q))] [] [(0,20,NV q),(1,21,NV y),(2,22,NV (y%q))] [(3,1)] [] [] ?_ ?_
   ·exact oc (g_ld 0 uN iN)<|oc (g_ld 1 uN iN)<|oc (g_cl ent_O1 (fun uZ=>pReduced q y uZ iy hq hq0))<|oc (g_st 1 iN) on
   intro u3 HB3 sz3 K3
   simp only[sQ] at K3⊢
   clear K2 HB2
   have HBu:=HB3
   have KX:CV u3 b2_3 (LN (y%q)):=(K3.cv 1)
   have x0:=(KX 0 _ rfl).1
   have x1:=(KX 1 _ rfl).1
   have x2:=(KX 2 _ rfl).1
   have x3:=(KX 3 _ rfl).1
   have hMu:u3.heap[v0.heap.size]?=some (.map es c):=(HBu.block _ hsz).trans hM.out
   have hlk:=lk_no hMu hE.out.keys (hE.out.ne hxs.out (Zd hq hq0) hnew.out)
   have hup:=fun val=>up_no (val:=val) hMu hE.out.keys (hE.out.ne hxs.out (Zd hq hq0) hnew.out)
   have hsu:=HBu.size
   replace HBr:=Z3 HBr HBu
   have e1:IntKind.i64.wrap ((i:Int)+1)=((i+1:Nat):Int):=by rw[IntKind.wrap_i64];omega
   clear KX hM
   obtain⟨z,ez⟩: ∃z,y%q=z:=⟨_,rfl⟩
   rw[ez] at x0 x1 x2 x3 hlk hup
   go_wp2
   refine⟨⟨i+1,c+1,_,by omega,by simp,setB_below HBr (Nat.le_refl _),by rw[setB_size];omega,ChangeMaps.heap_setBlock_same hMu _,?_⟩,?_⟩
   ·show MpE q (ns.take (i+1)) _
    rw[hnx.out,<-ez];exact hE.out.push
   ·simp[intOf];omega
  ·have hl:decide ((i:Int)<(ns.length:Int))=false:=by simp;omega
   have K0_1:Bk wo.heap.size wo [(false,w.heap.size,LN q)]:=⟨.c lq_ Kq<|trivial,by simp⟩
   go_upto_region 3 with fail
   refine rgP K0_1 HBw HBw.size [] [] [(0,16,.bool false)] [] [] [] ?_ ?_
   ·exact oc (g_bn (fun uZ=>Zv _ _ (i:Int) (ns.length:Int) _ uZ hl)) on
   intro u1 HB1 sz1 K1
   simp only[sQ] at K1⊢
   go_upto_region 11 with fail
   refine rgP K1 HB1 HB1.size [] [] [(0,4,Go.Value.nilIface)] [] [] [] ?_ ?_
   ·exact oc g_as on
   intro u2 HB2 sz2 K2
   simp only[sQ] at K2⊢
   clear K1 HB1
   go_wp2
   exact bodyPost_ret (v:= .nilIface) (by simp[results,Tryz.results45,go_sem]) rfl ⟨rfl,Z3 hTw HB2⟩
end
section
open Go.RowKit
theorem slP(sl:Option Addr)(g o n cap k:Nat)(h:k<=n)(hc:n<=cap)(hs:cap=0\/sl=some ⟨g,o,none⟩): ∃sl',(n=k\/sl'=some ⟨g,o+8*k,none⟩)/\ ∀w,(Instr.sliceAt 31 (.slice sl n cap) (some (.int .i64 k)) none none).run Tryz.prog w= .ok (.slice sl' (n -k) (cap -k)) w:=by
 rcases hs with rfl | rfl
 ·have e1:n=0:=by omega
  have e2:k=0:=by omega
  subst e1 e2
  refine⟨sl,.inl rfl,fun w=>?_⟩
  show (Instr.sliceAt 31 (.slice sl 0 0) (some (.int .i64 0)) none none).run Tryz.prog w=_
  cases sl<;>kernel_rfl
 ·have h3:(k:Int)<=n:=by omega
  have h4:(n:Int)<=cap:=by omega
  have h5:k<=cap:=by omega
  by_cases e:cap=k
  ·refine⟨some ⟨g,o,none⟩,.inl (by omega),fun w=>?_⟩
   simp[Instr.sliceAt,Instr.slice,go_sem,Tryz.underlying31,h,h3,h4,h5,hc,e]
  ·refine⟨some ⟨g,o+8*k,none⟩,.inr rfl,fun w=>?_⟩
   simp[Instr.sliceAt,Instr.slice,go_sem,Tryz.underlying31,h,h3,h4,h5,hc,e,Nat.mul_comm]
theorem slPh(sl:Option Addr)(n cap k:Nat)(h:k<=n)(hc:n<=cap)(hn:sl=none->cap=0)(w:World):(Instr.sliceAt 31 (.slice sl n cap) none (some (.int .i64 k)) none).run Tryz.prog w= .ok (.slice sl k cap) w:=by
 cases sl with
 | none=>
  have e0:=hn rfl
  have e1:n=0:=by omega
  have e2:k=0:=by omega
  subst e0 e1 e2
  show (Instr.sliceAt 31 (.slice none 0 0) none (some (.int .i64 0)) none).run Tryz.prog w=_
  kernel_rfl
 | some a=>
  have h3:k<=cap:=by omega
  simp[Instr.sliceAt,Instr.slice,go_sem,Tryz.underlying31,h3]
theorem slNh(b n k:Nat)(h:k<=n)(w:World):(Instr.sliceAt 25 (.slice (some ⟨b,0,none⟩) n n) none (some (.int .i64 k)) none).run Tryz.prog w= .ok (.slice (some ⟨b,0,none⟩) k n) w:=by
 simp[Instr.sliceAt,Instr.slice,go_sem,Tryz.underlying25,h]
theorem ent_L1:EnT 39:=fun _ _=>by kernel_rfl
theorem ent_L2:EnT 43:=fun _ _=>by kernel_rfl
theorem ent_L3:EnT 44:=fun _ _=>by kernel_rfl
theorem ent_L4:EnT 45:=fun _ _=>by kernel_rfl
theorem ent_L5:EnT 46:=fun _ _=>by kernel_rfl
theorem line_ok(q:Int)(sl sl2:Option Addr)(gb go cap d m L:Nat)(ps:List (Int×Int))(xs vs:List Int)(sf:Nat->Int)(rb:Bool)(w:World)(hq:In q)(hq0:q≠0)(hd:d<=1000)(hmm:min (d+1:Int) (ps.length:Int)=(m:Int))(hmn:m<=ps.length)(hmx:m<=xs.length)(hL:Hid (L=ps.length -m))(hcap:ps.length<=cap)(hsnn:sl=none->cap=0)(_hix:Hid (∀j,j<ps.length-> ∀W,(Instr.indexAt 31 (.slice sl ps.length cap) (.int .i64 j)).run Tryz.prog W= .ok (.pointer (some ⟨gb,go+8*j,none⟩)) W))(hg:ps.length=0\/gb<w.heap.size)(hS:Hid (SN w gb go (flt ps)))(hns:ps.length<=1000)
 (hs1:ps.length=m\/sl2=some ⟨gb,go+8*m,none⟩)(hs2:Hid (∀w,(Instr.sliceAt 31 (.slice sl ps.length cap) (some (.int .i64 m)) none none).run Tryz.prog w= .ok (.slice sl2 L (cap -m)) w))
 (hP:Hid (∀u,Bw w u->CC 39 #[NV q,.int .i64 (ps.length:Int)] u (.nilIface)))(hD:Hid (∀u,Bw w u->CC 43 #[.int .i64 (d:Int)] u (.nilIface)))
 (hA:Hid (∀u,Bw w u->Calls Tryz.prog 44 #[.slice sl ps.length cap] u fun e u'=> ∃y,e= .returned y/\PRw u.heap.size xs u' y/\Bw u u'))
 (hX:Hid (∀u bx,Bw w u->bx<u.heap.size->CV u bx (flN xs)->CC 45 #[NV q,.slice (some ⟨bx,0,none⟩) xs.length xs.length] u .nilIface))
 (hO:Hid (∀u bx,Bw w u->bx<u.heap.size->CV u bx (flN xs)->Calls Tryz.prog 40 #[NV q,.slice (some ⟨bx,0,none⟩) m xs.length] u fun e u'=> ∃vd,e= .returned (.tuple #[BX q (.slice (some ⟨bx,0,none⟩) m xs.length) vd,.nilIface])/\PRw u.heap.size vs u' vd/\Bw u u'))
 (hSm:Hid (∀u bx bd k,Bw w u->m<=k->k<ps.length->bx<u.heap.size->bd<u.heap.size->CV u bx (flN xs)->CV u bd (flN vs)->CC 46 #[BX q (.slice (some ⟨bx,0,none⟩) m xs.length) (.slice (some ⟨bd,0,none⟩) vs.length vs.length),NV (ps.getD k (0,0)).1,.slice sl m cap] u (NV (sf k))))
 (hsf:Hid (∀k,In (sf k)))(hin:Hid (∀k,k<ps.length->In (ps.getD k (0,0)).1/\In (ps.getD k (0,0)).2))(hrb:Hid (rb=true↔ ∀k,m<=k->k<ps.length->sf k=(ps.getD k (0,0)).2%q)):
 CC 24 #[NV q,.int .i64 (d:Int),.slice sl ps.length cap] w (.tuple #[.bool rb,.int .i64 0]):=by
 go_enter Tryz.func24,Tryz.ntmps24
 go_upto_region 1 with fail
 generalize hC:(w.alloc (.cells (LN q:List Value).toArray 24))=v0 at *
 have HB0:Bw w v0:=by rw[<-hC];exact Z0 (Z2 w) _
 have K0:Bk w.heap.size v0 [(true,w.heap.size,LN q)]:=by rw[<-hC];exact(Bk.nil _ w).ad
 clear hC
 refine rgF K0 HB0 HB0.size [] [] [(0,16,NV q),(1,17,.slice sl ps.length cap),(2,18,.int .i64 (ps.length:Int)),(3,19,.nilIface),(4,20,.int .i64 (d:Int)),(5,21,.nilIface),(7,23,.nilIface),(8,8,.nilIface)] [] [] [⟨6,22,some 7,PE0⟩] [] (.cons (fun _ _ _ h1 h2=>h2.stab h1)<|Stab.nil) ?_ ?_
 ·exact oc (g_ld 0 uN iN)<|oc g_mv<|oc (g_ln Tryz.underlying31)<|oc (g_cb ent_L1 (fun uZ bZ=>hP.out uZ bZ))<|oc g_mv<|oc (g_cb ent_L2 (fun uZ bZ=>hD.out uZ bZ))<|oc (g_bR 0 PE0 [0,1] [.nilIface,.nilIface] [.nilIface,.nilIface] bsE00 (fun u hu=>PE0.new u))<|oc (g_c1 0 PE0 Yo (fun uZ yZ _ hZ=>cJoin0 yZ uZ hZ))<|oc g_as on
 intro u1 v1_6 hv1_6 HB1 sz1 K1
 simp only[sQ] at K1⊢
 clear K0 HB0
 go_upto_region 2 with fail
 refine rgP K1 HB1 HB1.size [] [] [(0,24,.nilIface),(1,25,.bool false)] [] [] [] ?_ ?_
 ·exact oc g_mv<|oc (g_bn (fun uZ=>neq_no _ _ uZ)) on
 intro u2 HB2 sz2 K2
 simp only[sQ] at K2⊢
 clear K1 HB1
 have hvv:w.heap.size<=u2.heap.size:=HB2.size
 go_upto_region 4 with fail
 refine rgF K2 HB2 HB2.size [] [] [(0,28,.slice sl ps.length cap)] [] [] [⟨1,29,some 2,PRw u2.heap.size xs⟩,⟨2,9,none,PRw u2.heap.size xs⟩] [] (.cons (fun _ _ _ h1 h2=>h2.stab h1)<| .cons (fun _ _ _ h1 h2=>h2.stab h1)<|Stab.nil) ?_ ?_
 ·exact oc g_mv<|oc (g_cE 0 (PRw u2.heap.size xs) ent_L3 (fun u hB hs=>(hA.out u hB).mono fun e u2 ⟨v,e1,h1,h2⟩=>⟨v,e1,h1.lo hs,h2⟩))<|oc (g_sE 0 1 (PRw u2.heap.size xs)) on
 intro u3 v3_1 hv3_1 v3_2 hv3_2 HB3 sz3 K3
 simp only[sQ] at K3⊢
 clear HB2
 obtain⟨bx,rfl,o1,o2,o3⟩:=hv3_2 rfl
 have K3xx:=Bk.more3 K2 K3 o1 o2 o3 (by intro x hx;first | (simp at hx;done) | (simp at hx⊢;omega))
 simp only[aK] at K3xx
 clear K3
 have hbx:w.heap.size<=bx:=Nat.le_trans hvv o1
 go_upto_region 5 with fail
 refine rgP K3xx HB3 HB3.size [] [] [(0,30,NV q),(1,31,.slice (some ⟨bx,0,none⟩) xs.length xs.length),(2,32,.nilIface),(3,10,.nilIface)] [] [] [] ?_ ?_
 ·exact oc (g_ld 0 uN iN)<|oc g_mv<|oc (g_cK ent_L4 (fun fZ uZ kZ sZ bZ=>hX.out uZ bx bZ (kZ.lb sZ 1) (kZ.cv 1)))<|oc g_as on
 intro u4 HB4 sz4 K4
 simp only[sQ] at K4⊢
 clear HB3
 go_upto_region 6 with fail
 refine rgP K4 HB4 HB4.size [] [] [(0,33,.nilIface),(1,34,.bool false)] [] [] [] ?_ ?_
 ·exact oc g_mv<|oc (g_bn (fun uZ=>neq_no _ _ uZ)) on
 intro u5 HB5 sz5 K5
 simp only[sQ] at K5⊢
 clear K4 HB4
 go_upto_region 8 with fail
 refine rgP K5 HB5 HB5.size [] [] [(0,37,.int .i64 (d:Int)),(1,38,.int .i64 (d+1:Int)),(2,39,.slice sl ps.length cap),(3,40,.int .i64 (ps.length:Int)),(4,41,.int .i64 (m:Int)),(5,11,.int .i64 (m:Int))] [] [] [] ?_ ?_
 ·exact oc g_mv<|oc (g_bn (fun uZ=>Xh _ _ (d:Int) 1 (d+1:Int) uZ (by omega) (by omega) (by omega)))<|oc g_mv<|oc (g_ln Tryz.underlying31)<|oc (g_mn hmm)<|oc g_as on
 intro u6 HB6 sz6 K6
 simp only[sQ] at K6⊢
 clear K5 HB5
 go_upto_region 9 with fail
 have hBa:Bw w u6:=HB6
 have KQ:CV u6 w.heap.size (LN q):=(K6.cv 0)
 have KX:CV u6 bx (flN xs):=(K6.cv 1)
 have lq:=(K6.lt 0)
 have lx:=(K6.lt 1)
 have hqx:bx≠w.heap.size:=by have:=K6.n;simp at this;omega
 clear K6 HB6 o3
 obtain⟨ua,hua⟩: ∃ua,ua=u6:=⟨_,rfl⟩
 rw[<-hua] at hBa KQ KX lq lx
 subst hua
 have KX:Hid (CV ua bx (flN xs)):=KX
 have hsn:=fun w=>slNh bx xs.length m hmx w
 have a0:=(KQ 0 _ rfl).1
 have a1:=(KQ 1 _ rfl).1
 have a2:=(KQ 2 _ rfl).1
 have a3:=(KQ 3 _ rfl).1
 have b0:=fun o=>(CV.below KQ (Z0 (Z2 ua) o) lq 0 _ rfl).1
 have b1:=fun o=>(CV.below KQ (Z0 (Z2 ua) o) lq 1 _ rfl).1
 have b2:=fun o=>(CV.below KQ (Z0 (Z2 ua) o) lq 2 _ rfl).1
 have b3:=fun o=>(CV.below KQ (Z0 (Z2 ua) o) lq 3 _ rfl).1
 have KQ:Hid (CV ua w.heap.size (LN q)):=KQ
 go_cut [12,13] (fun s12 s13 wx=> ∃b bd,s12= .pointer (some ⟨b,0,none⟩)/\s13= .nilIface/\Bw w wx/\b<wx.heap.size/\w.heap.size<b/\bx<wx.heap.size/\bd<wx.heap.size/\w.heap.size<wx.heap.size/\bx≠b/\bd≠b/\bd≠bx/\bd≠w.heap.size/\CV wx b (BE q (.slice (some ⟨bx,0,none⟩) m xs.length) (.slice (some ⟨bd,0,none⟩) vs.length vs.length))/\CV wx bx (flN xs)/\CV wx bd (flN vs)/\CV wx w.heap.size (LN q))
 case first=>
  go_region_with (first | (go_at_call 40;refine(hO.out ua.drew bx hBa.drew (by first | omega | (simp<;>omega)) (CV.drew KX.out)).mono ?_;go_must (clear a0 a1 a2 a3 b0 b1 b2 b3;rintro e uc ⟨vd,rfl,⟨bd,rfl,d1,d2,d3⟩,hBc⟩;replace KQ:Hid (CV uc w.heap.size (LN q)):=CV.below (CV.drew KQ.out) hBc (by first | omega | (simp<;>omega));replace KX:Hid (CV uc bx (flN xs)):=CV.below (CV.drew KX.out) hBc (by first | omega | (simp<;>omega));have hsc:ua.heap.size<=uc.heap.size:=(by have:=hBc.size;first | omega | (simp at this;omega));have hd0:ua.heap.size<=bd:=(by first | omega | (simp at d1;omega));replace hBc:=Z3 hBa.drew hBc;have d3:Hid (CV uc bd (flN vs)):=d3)) | (go_at_call 40;refine(hO.out (ua.alloc (.cells (L0b:List Value).toArray 76)).drew bx (Z0 hBa (.cells (L0b:List Value).toArray 76)).drew (by first | omega | (simp<;>omega)) (CV.drew (CV.below KX.out (Z0 (Z2 ua) (.cells (L0b:List Value).toArray 76)) lx))).mono ?_;go_must (clear a0 a1 a2 a3 b0 b1 b2 b3;rintro e uc ⟨vd,rfl,⟨bd,rfl,d1,d2,d3⟩,hBc⟩;have KZ:Hid (CV uc ua.heap.size L0b):=CV.below (CV.drew (CV.new ua L0b 76)) hBc (by simp);replace KQ:Hid (CV uc w.heap.size (LN q)):=CV.below (CV.drew (CV.below KQ.out (Z0 (Z2 ua) (.cells (L0b:List Value).toArray 76)) lq)) hBc (by first | omega | (simp<;>omega));replace KX:Hid (CV uc bx (flN xs)):=CV.below (CV.drew (CV.below KX.out (Z0 (Z2 ua) (.cells (L0b:List Value).toArray 76)) lx)) hBc (by first | omega | (simp<;>omega));have hsc:ua.heap.size<=uc.heap.size:=(by have:=hBc.size;first | omega | (simp at this;omega));replace hBc:=Z3 (Z0 hBa (.cells (L0b:List Value).toArray 76)).drew hBc;have hd0:ua.heap.size<bd:=(by first | omega | (simp at d1;omega));have z0:=(KZ.out 0 _ rfl).1;have zf0:=(KZ.out 0 _ rfl).2;have z1:=(KZ.out 1 _ rfl).1;have zf1:=(KZ.out 1 _ rfl).2;have z2:=(KZ.out 2 _ rfl).1;have zf2:=(KZ.out 2 _ rfl).2;have z3:=(KZ.out 3 _ rfl).1;have zf3:=(KZ.out 3 _ rfl).2;have z4:=(KZ.out 4 _ rfl).1;have zf4:=(KZ.out 4 _ rfl).2;have z5:=(KZ.out 5 _ rfl).1;have zf5:=(KZ.out 5 _ rfl).2;have d3:Hid (CV uc bd (flN vs)):=d3)))
  all_goals (go_wp2_with fail;go_meet;first | (refine⟨uc.heap.size,bd,rfl,rfl,?_⟩;exact⟨Z0 hBc _,by simp,(by first | omega | (simp<;>omega)),(by first | omega | (simp<;>omega)),(by first | omega | (simp<;>omega)),(by first | omega | (simp<;>omega)),(by first | omega | (simp<;>omega)),(by first | omega | (simp<;>omega)),(by first | omega | (simp<;>omega)),(by first | omega | (simp<;>omega)),CV.new uc _ _,CV.below KX.out (Z0 (Z2 uc) _) (by first | omega | (simp<;>omega)),CV.below d3.out (Z0 (Z2 uc) _) d2,CV.below KQ.out (Z0 (Z2 uc) _) (by first | omega | (simp<;>omega))⟩) | (refine⟨ua.heap.size,bd,rfl,rfl,?_⟩;exact⟨set6_B hBc (by first | omega | (simp<;>omega)),(by first | omega | (simp<;>omega)),(by first | omega | (simp<;>omega)),(by first | omega | (simp<;>omega)),(by first | omega | (simp<;>omega)),(by first | omega | (simp<;>omega)),(by first | omega | (simp<;>omega)),(by first | omega | (simp<;>omega)),(by first | omega | (simp<;>omega)),(by first | omega | (simp<;>omega)),set6_K KZ.out,Yl KX.out (by first | omega | (simp<;>omega)),Yl d3.out (by first | omega | (simp<;>omega)),Yl KQ.out (by first | omega | (simp<;>omega))⟩))
 case rest=>
  obtain⟨b,bd,rfl,rfl,hBw,lb,hbw,lx,ld,lq,hn1,hn2,hn3,hn4,KB,KX,KD,KQ⟩:=hcut
  have K6_1:Bk w.heap.size wc [(false,w.heap.size,LN q),(false,b,BE q (.slice (some ⟨bx,0,none⟩) m xs.length) (.slice (some ⟨bd,0,none⟩) vs.length vs.length)),(false,bx,flN xs),(false,bd,flN vs)]:=⟨.c lq KQ<| .c lb KB<| .c lx KX<| .c ld KD<|trivial,by simp<;>omega⟩
  go_upto_region 10 with fail
  refine rgP K6_1 hBw hBw.size [] [] [(0,50,.nilIface),(1,51,.bool false)] [] [] [] ?_ ?_
  ·exact oc g_mv<|oc (g_bn (fun uZ=>neq_no _ _ uZ)) on
  intro u7 HB7 sz7 K7
  simp only[sQ] at K7⊢
  go_upto_region 12 with fail
  refine rgP K7 HB7 HB7.size [] [] [(0,54,.slice sl ps.length cap),(1,55,.int .i64 (m:Int)),(2,56,.slice sl2 L (cap -m)),(3,57,.int .i64 (L:Int)),(4,58,(Go.Value.int Go.IntKind.i64 0))] [] [] [] ?_ ?_
  ·exact oc g_mv<|oc g_mv<|oc (g_sl (fun uZ=>hs2.out uZ))<|oc (g_ln Tryz.underlying31)<|oc g_mv on
  intro u8 HB8 sz8 K8
  simp only[sQ] at K8⊢
  clear K7 HB7
  go_wp2_with fail
  go_loopw [58] (fun s58 wr=> ∃(k:Nat),k<=L/\s58= .int .i64 (k:Int)/\Bw w wr/\CV wr (w.heap.size) (LN q)/\w.heap.size<wr.heap.size/\CV wr b (BE q (.slice (some ⟨bx,0,none⟩) m xs.length) (.slice (some ⟨bd,0,none⟩) vs.length vs.length))/\b<wr.heap.size/\CV wr bx (flN xs)/\bx<wr.heap.size/\CV wr bd (flN vs)/\bd<wr.heap.size/\Hid (∀j,m<=j->j<m+k->sf j=(ps.getD j (0,0)).2%q)) (fun s58 _=>L -(intOf s58).toNat)
  case atStart=>exact⟨0,by omega,rfl,HB8,(K8.cv 0),(K8.lt 0),(K8.cv 1),(K8.lt 1),(K8.cv 2),(K8.lt 2),(K8.cv 3),(K8.lt 3),(fun j h1 h2=>by omega)⟩
  case round=>
   obtain⟨k,hk,rfl,HBr,C0,lC0,C1,lC1,C2,lC2,C3,lC3,hall⟩:=hrel
   obtain⟨wo,rfl⟩: ∃x,x=wr:=⟨_,rfl⟩
   clear HB8
   have hnK:=K8.n
   simp at hnK
   have hTw:Bw w wo:=HBr
   have HBw:Bw wo wo:=Below.refl _ _
   by_cases hj:k<L
   ·have hl:decide ((k:Int)<(L:Int))=true:=by simp;omega
    have hjp:m+k<ps.length:=by have:=hL.out;omega
    have hs':=hs1.resolve_left (by omega)
    have hg':=hg.resolve_left (by omega)
    have hRr:=(hS.out.below hTw (by exact hg')).pt _ hjp
    have hgw:=Nat.lt_of_lt_of_le hg' hTw.size
    rw[show go+8*(m+k)=go+8*m+8*k by omega] at hRr
    have hI:=hin.out _ hjp
    have hSk:=fun u (hB:Bw wo u)=>hSm.out u bx bd (m+k) (Z3 hTw hB) (by omega) hjp (Nat.lt_of_lt_of_le lC2 hB.size) (Nat.lt_of_lt_of_le lC3 hB.size) (CV.below C2 hB lC2) (CV.below C3 hB lC3)
    have iS:=hsf.out (m+k)
    have hnext:Hid (sf (m+k)=(ps.getD (m+k) (0,0)).2%q-> ∀j,m<=j->j<m+(k+1)->sf j=(ps.getD j (0,0)).2%q):=fun h j h1 h2=>by
     by_cases e:j=m+k
     ·subst e;exact h
     ·exact hall.out j h1 (by omega)
    have hno:Hid (sf (m+k)≠(ps.getD (m+k) (0,0)).2%q->rb=false):=fun h=>by
     cases hb:rb
     ·rfl
     ·exact absurd (hrb.out.1 hb (m+k) (by omega) hjp) h
    obtain⟨x,ex⟩: ∃x,(ps.getD (m+k) (0,0)).1=x:=⟨_,rfl⟩
    obtain⟨y,ey⟩: ∃y,(ps.getD (m+k) (0,0)).2=y:=⟨_,rfl⟩
    obtain⟨z,ez⟩: ∃z,sf (m+k)=z:=⟨_,rfl⟩
    rw[ex,ey] at hRr hI
    rw[ex,ez] at hSk
    rw[ez] at iS
    rw[ey,ez] at hnext hno
    clear ex ey ez
    have iy:=hI.2
    have hSk:Hid _:=hSk
    have hRr:Hid _:=hRr
    subst hs'
    have K8_2:Bk wo.heap.size wo [(false,w.heap.size,LN q),(false,b,BE q (.slice (some ⟨bx,0,none⟩) m xs.length) (.slice (some ⟨bd,0,none⟩) vs.length vs.length)),(false,bx,flN xs),(false,bd,flN vs)]:=⟨.c lC0 C0<| .c lC1 C1<| .c lC2 C2<| .c lC3 C3<|trivial,by simp<;>omega⟩
    go_upto_region 13 with fail
    refine rgP K8_2 HBw HBw.size [] [] [(0,59,.bool true)] [] [] [] ?_ ?_
    ·exact oc (g_bn (fun uZ=>Zv _ _ (k:Int) (L:Int) _ uZ hl)) on
    intro u9 HB9 sz9 K9
    simp only[sQ] at K9⊢
    go_upto_region 14 with fail
    refine rgP K9 HB9 HB9.size [] [(2,15,L0p,some (3,PtE x y))] [(0,60,.pointer (some ⟨gb,go+8*m+8*k,none⟩)),(1,61,PtX x y)] [(3,2)] [] [] ?_ ?_
    ·exact oc (g_ix (fun uZ=>ixP _ _ _ _ k hj uZ))<|oc (g_lf hRr.out hgw Tryz.underlying41 Zh)<|oc (g_al 0 X8)<|oc (g_sn 0 Zh) on
    intro u10 b10_2 HB10 sz10 K10
    simp only[sQ] at K10⊢
    clear K9 HB9
    by_cases hz:z=y%q
    ·have hzz:decide (z=y%q)=!false:=by simp[hz]
     go_upto_region 15 with fail
     refine rgD K10 HB10 HB10.size [] [] [(0,62,BX q (.slice (some ⟨bx,0,none⟩) m xs.length) (.slice (some ⟨bd,0,none⟩) vs.length vs.length)),(1,63,.pointer (some ⟨b10_2,0,none⟩)),(2,64,NV x),(3,65,.slice sl ps.length cap),(4,66,.int .i64 (m:Int)),(5,67,.slice sl m cap),(6,68,NV z),(7,69,NV q),(8,70,.pointer (some ⟨b10_2,4,none⟩)),(9,71,NV y),(10,72,NV (y%q)),(11,73,.bool false)] [] [] [] ?_ ?_
     ·exact oc (g_ld 1 Tryz.underlying76 Zt)<|oc (g_fd (fun uZ=>fdP0 _ 0 uZ))<|oc (g_lo 4 0 uN iN)<|oc g_mv<|oc g_mv<|oc (g_sl (fun uZ=>slPh sl _ cap m hmn hcap hsnn uZ))<|oc (g_cb ent_L5 (fun uZ bZ=>hSk.out uZ bZ))<|oc (g_ld 0 uN iN)<|oc (g_fd (fun uZ=>fdP1 _ 0 uZ))<|oc (g_lo 4 4 uN iN)<|oc (g_cl ent_O1 (fun uZ=>pReduced q y uZ iy hq hq0))<|oc (g_bn (fun uZ=>neq_n _ _ iS (Zd hq hq0) false hzz uZ)) on
     intro u11 HB11 sz11 K11
     simp only[sQ] at K11⊢
     clear K10 HB10
     go_upto_region 17 with fail
     refine rgP K11 HB11 HB11.size [] [] [(0,74,.int .i64 ((k+1:Nat):Int)),(1,58,.int .i64 ((k+1:Nat):Int))] [(1,0)] [(1,58)] [] ?_ ?_
     ·exact oc (g_bn (fun uZ=>Xh _ _ (k:Int) 1 ((k+1:Nat):Int) uZ (by omega) (by omega) (by omega)))<|oc g_mv on
     intro u12 HB12 sz12 K12
     simp only[sQ] at K12⊢
     clear K11 HB11
     go_wp2
     refine⟨⟨k+1,by omega,rfl,Z3 hTw HB12,(K12.cv 0),(K12.lt 0),(K12.cv 1),(K12.lt 1),(K12.cv 2),(K12.lt 2),(K12.cv 3),(K12.lt 3),hnext.out hz⟩,?_⟩
     simp[intOf]<;>omega
    ·have hzz:decide (z=y%q)=!true:=by simp[hz]
     go_upto_region 15 with fail
     refine rgD K10 HB10 HB10.size [] [] [(0,62,BX q (.slice (some ⟨bx,0,none⟩) m xs.length) (.slice (some ⟨bd,0,none⟩) vs.length vs.length)),(1,63,.pointer (some ⟨b10_2,0,none⟩)),(2,64,NV x),(3,65,.slice sl ps.length cap),(4,66,.int .i64 (m:Int)),(5,67,.slice sl m cap),(6,68,NV z),(7,69,NV q),(8,70,.pointer (some ⟨b10_2,4,none⟩)),(9,71,NV y),(10,72,NV (y%q)),(11,73,.bool true)] [] [] [] ?_ ?_
     ·exact oc (g_ld 1 Tryz.underlying76 Zt)<|oc (g_fd (fun uZ=>fdP0 _ 0 uZ))<|oc (g_lo 4 0 uN iN)<|oc g_mv<|oc g_mv<|oc (g_sl (fun uZ=>slPh sl _ cap m hmn hcap hsnn uZ))<|oc (g_cb ent_L5 (fun uZ bZ=>hSk.out uZ bZ))<|oc (g_ld 0 uN iN)<|oc (g_fd (fun uZ=>fdP1 _ 0 uZ))<|oc (g_lo 4 4 uN iN)<|oc (g_cl ent_O1 (fun uZ=>pReduced q y uZ iy hq hq0))<|oc (g_bn (fun uZ=>neq_n _ _ iS (Zd hq hq0) true hzz uZ)) on
     intro u11 HB11 sz11 K11
     simp only[sQ] at K11⊢
     clear K10 HB10
     go_upto_region 16 with fail
     refine rgP K11 HB11 HB11.size [] [] [(0,6,(Go.Value.bool Bool.false)),(1,7,(Go.Value.int Go.IntKind.i64 0))] [] [] [] ?_ ?_
     ·exact oc g_as<|oc g_as on
     intro u12 HB12 sz12 K12
     simp only[sQ] at K12⊢
     clear K11 HB11
     go_wp2
     obtain rfl:=hno.out hz
     exact bodyPost_ret (v:= .tuple #[.bool false,.int .i64 0]) (by simp[results,Tryz.results24,go_sem]) rfl ⟨rfl,Z3 hTw HB12⟩
   ·have hl:decide ((k:Int)<(L:Int))=false:=by simp;omega
    have hyes:rb=true:=hrb.out.2 fun j h1 h2=>hall.out j h1 (by have:=hL.out;omega)
    have K8_2:Bk wo.heap.size wo [(false,w.heap.size,LN q),(false,b,BE q (.slice (some ⟨bx,0,none⟩) m xs.length) (.slice (some ⟨bd,0,none⟩) vs.length vs.length)),(false,bx,flN xs),(false,bd,flN vs)]:=⟨.c lC0 C0<| .c lC1 C1<| .c lC2 C2<| .c lC3 C3<|trivial,by simp<;>omega⟩
    go_upto_region 13 with fail
    refine rgP K8_2 HBw HBw.size [] [] [(0,59,.bool false)] [] [] [] ?_ ?_
    ·exact oc (g_bn (fun uZ=>Zv _ _ (k:Int) (L:Int) _ uZ hl)) on
    intro u9 HB9 sz9 K9
    simp only[sQ] at K9⊢
    go_upto_region 18 with fail
    refine rgP K9 HB9 HB9.size [] [] [(0,6,(Go.Value.bool Bool.true)),(1,7,(Go.Value.int Go.IntKind.i64 0))] [] [] [] ?_ ?_
    ·exact oc g_as<|oc g_as on
    intro u10 HB10 sz10 K10
    simp only[sQ] at K10⊢
    clear K9 HB9
    go_wp2
    subst hyes
    exact bodyPost_ret (v:= .tuple #[.bool true,.int .i64 0]) (by simp[results,Tryz.results24,go_sem]) rfl ⟨rfl,Z3 hTw HB10⟩
end
end Go.Proofs.YtgieoghechekpaaGreatDoor
