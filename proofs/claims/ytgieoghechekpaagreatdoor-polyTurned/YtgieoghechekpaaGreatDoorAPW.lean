import Derived.Test.YtgieoghechekpaaGreatDoorAPM
namespace Go.Proofs.YtgieoghechekpaaGreatDoor
set_option linter.unusedVariables false
set_option linter.unusedSimpArgs false
set_option maxRecDepth 100000
set_option maxHeartbeats 4000000
open Go.RowKit
theorem eqb(p q:Operand){n m:Int}(hn:In n)(hm:In m)(b:Bool)(hb:decide (n=m)=b)(w:World):(do eqGuard .eql 24 p q (NV n) (NV m);binOp .eql 24 (NV n) (NV m):Sem Value).run Tryz.prog w= .ok (.bool b) w:=eql_n p q hn hm b hb w
def I2(a b:Int)(u:World)(v:Value):Prop:=IL u v [a,b]
theorem I2.stab{a b:Int}{u u2:World}{x:Value}(hB:Bw u u2)(h:I2 a b u x):I2 a b u2 x:=IL.up h hB
theorem bsI2(a b:Int)(w:World):(Instr.buildSlice 26 2 ([0,1].zip [.int .i64 a,.int .i64 b]).toArray).run Tryz.prog w= .ok (.slice (some ⟨w.heap.size,0,none⟩) 2 2) (w.alloc (.cells [Value.int .i64 a,.int .i64 b].toArray 3)):=by kernel_rfl
theorem inI2(a b:Int)(u:World):I2 a b (u.alloc (.cells [Value.int .i64 a,.int .i64 b].toArray 3)) (.slice (some ⟨u.heap.size,0,none⟩) 2 2):=
 ⟨_,u.heap.size,0,2,rfl,by simp,by simp,.inr rfl,.inr (by simp),fun j hj=>by
  match j,hj with
  | 0,_=>simp
  | 1,_=>simp⟩
def W2(lo:Nat)(u:World)(v:Value):Prop:= ∃b,v= .slice (some ⟨b,0,none⟩) 2 2/\lo<=b/\b<u.heap.size/\CV u b (flN [1,5,2,7])
theorem W2.stab{lo:Nat}{u u2:World}{x:Value}(hB:Bw u u2)(h:W2 lo u x):W2 lo u2 x:=by
 obtain⟨b,e,h1,h2,h3⟩:=h
 exact⟨b,e,h1,Nat.lt_of_lt_of_le h2 hB.size,h3.below hB h2⟩
def W2t(lo:Nat)(u:World)(v:Value):Prop:= ∃y,v= .tuple #[y,.int .i64 0]/\W2 lo u y
theorem W2t.stab{lo:Nat}{u u2:World}{x:Value}(hB:Bw u u2)(h:W2t lo u x):W2t lo u2 x:=by
 obtain⟨y,e,h⟩:=h
 exact⟨y,e,h.stab hB⟩
theorem W2.of{lo:Nat}{u:World}{v:Value}(h:PRp lo (pts 11 [3,2] [1,2]) u v):W2 lo u v:=by
 have e:pts 11 [3,2] [1,2]=[(1,5),(2,7)]:=by decide
 rw[e] at h
 exact h
theorem W2.pl{lo:Nat}{u:World}{v:Value}(h:W2 lo u v):PtL u v [(1,5),(2,7)]:=PRp.pl (lo:=lo) h
theorem ixPa(g n cap:Nat)(h:0<n)(w:World):(Instr.indexAt 31 (.slice (some ⟨g,0,none⟩) n cap) (.int .i64 0)).run Tryz.prog w= .ok (.pointer (some ⟨g,0,none⟩)) w:=ixPZ g n cap 0 h w
theorem ixPb(g n cap:Nat)(h:1<n)(w:World):(Instr.indexAt 31 (.slice (some ⟨g,0,none⟩) n cap) (.int .i64 1)).run Tryz.prog w= .ok (.pointer (some ⟨g,8,none⟩)) w:=ixPZ g n cap 1 h w
theorem ent_poly_Eval:EnT 8:=fun _ _=>by kernel_rfl
theorem ent_poly_Points:EnT 10:=fun _ _=>by kernel_rfl
theorem Xo:EnT 37:=fun _ _=>by kernel_rfl
theorem cWorks(w:World)(hG:GP w):
 CC 16 #[] w (.bool true):=by
 go_enter Tryz.func16,Tryz.ntmps16
 go_upto_region 2 with(go_at_call 19;first | (refine(Yg 11 w (by omega) (by omega)).mono ?_;rintro e ua ⟨rfl,hBa⟩) | (refine(Yg 3 ua (by omega) (by omega)).mono ?_;rintro e ub ⟨rfl,hBb⟩) | (refine(Yg 2 ub (by omega) (by omega)).mono ?_;rintro e uc ⟨rfl,hBc⟩))
 generalize hC:(uc.alloc (.cells (PtE 3 2:List Value).toArray 24)).alloc (.cells (LN 11:List Value).toArray 24)=v0 at *
 have hB0:Bw w v0:=by rw[<-hC];exact Z0 (Z0 (Z3 (Z3 hBa hBb) hBc) _) _
 have KQ:CV v0 (uc.heap.size+1) (LN 11):=by rw[<-hC];exact CV.newAt _ _ _ _ (by simp)
 have lQ:uc.heap.size+1<v0.heap.size:=by rw[<-hC];simp
 have fl_0:NL v0 (.slice (some ⟨uc.heap.size,0,none⟩) 2 2) [3,2]:=by rw[<-hC];exact NL.up (inN2 3 2 uc) (Z0 (Z2 _) _)
 have HB0:Bw v0 v0:=Below.refl _ _
 clear hC
 have K0_1:Bk v0.heap.size v0 [(false,uc.heap.size+1,LN 11)]:=⟨.c lQ KQ<|trivial,by simp⟩
 go_upto_region 2 with fail
 refine rgD K0_1 HB0 HB0.size [] [(7,3,L0s,some (8,LN 0))] [(0,14,NV 11),(1,15,.slice (some ⟨uc.heap.size,0,none⟩) 2 2),(2,16,NV 4),(3,17,.tuple #[NV 0,.int .i64 0]),(4,13,.tuple #[NV 0,.int .i64 0]),(5,18,NV 0),(6,19,.int .i64 0),(9,4,.int .i64 0)] [(8,7)] [] [] ?_ ?_
 ·exact oc (g_ld 0 uN iN)<|oc g_mv<|oc (g_cl Z8 (fun uZ=>Yg 4 uZ (by omega) (by omega)))<|oc (g_cb ent_poly_Eval (fun uZ bZ=>by have h:=cEval 11 4 [3,2] (.slice (some ⟨uc.heap.size,0,none⟩) 2 2) uZ ((hG.below hB0).below bZ) (⟨by decide,by decide⟩:In 11) (by decide) ⟨by decide,by decide⟩ (fl_0.up bZ) (by intro z hz;simp at hz;rcases hz with rfl | rfl<;>exact⟨by decide,by decide⟩) (by decide) (by decide);rw[show hoN 11 4 [3,2] ([3,2]:List Int).length=0 from by decide] at h;exact h))<|oc g_mv<|oc g_ex<|oc g_ex<|oc (g_al 0 aN)<|oc (g_sn 0 iN)<|oc g_as on
 intro u1 b1_7 HB1 sz1 K1
 simp only[sQ] at K1⊢
 clear HB0
 go_upto_region 3 with fail
 refine rgF K1 HB1 HB1.size [] [] [(0,21,NV 11),(1,22,.slice (some ⟨uc.heap.size,0,none⟩) 2 2),(6,26,.int .i64 0),(8,6,.int .i64 0)] [] [] [⟨2,23,some 3,I2 1 2⟩,⟨3,24,none,W2t u1.heap.size⟩,⟨4,20,none,W2t u1.heap.size⟩,⟨5,25,some 7,W2 u1.heap.size⟩,⟨7,5,none,W2 u1.heap.size⟩] [] (.cons (fun _ _ _ h1 h2=>h2.stab h1)<| .cons (fun _ _ _ h1 h2=>h2.stab h1)<| .cons (fun _ _ _ h1 h2=>h2.stab h1)<| .cons (fun _ _ _ h1 h2=>h2.stab h1)<| .cons (fun _ _ _ h1 h2=>h2.stab h1)<|Stab.nil) ?_ ?_
 ·exact oc (g_ld 0 uN iN)<|oc g_mv<|oc (g_bS 0 (I2 1 2) [0,1] [.int .i64 1,.int .i64 2] (bsI2 1 2) (fun u=>inI2 1 2 u))<|oc (g_cZ 0 1 (I2 1 2) (W2t u1.heap.size) (fun y=>[NV 11,(.slice (some ⟨uc.heap.size,0,none⟩) 2 2),y]) ent_poly_Points (fun u y bZ hs hy=>(cPoints 11 [3,2] [1,2] (.slice (some ⟨uc.heap.size,0,none⟩) 2 2) y u ((hG.below hB0).below bZ) (⟨by decide,by decide⟩:In 11) (by decide) (fl_0.up bZ) (by intro z hz;simp at hz;rcases hz with rfl | rfl<;>exact⟨by decide,by decide⟩) (by decide) (by decide) hy (by intro z hz;simp at hz;rcases hz with rfl | rfl<;>decide) (by decide)).mono fun e u2 ⟨v,e1,h1,h2⟩=>⟨_,e1,⟨v,rfl,(W2.of (by obtain⟨b,q1,q2,q3⟩:=h1;exact⟨b,q1,Nat.le_trans hs q2,q3⟩))⟩,h2⟩))<|oc (g_mE 1 2 (W2t u1.heap.size))<|oc (g_xE 2 3 (W2t u1.heap.size) (W2 u1.heap.size) (fun u v ⟨y,e,h⟩=>⟨_,y,e,rfl,h⟩))<|oc (g_xV 2 (W2t u1.heap.size) (fun u v ⟨y,e,h⟩=>⟨_,e,rfl⟩))<|oc (g_sE 3 4 (W2 u1.heap.size))<|oc g_as on
 intro u2 v2_2 hv2_2 v2_3 hv2_3 v2_4 hv2_4 v2_5 hv2_5 v2_7 hv2_7 HB2 sz2 K2
 simp only[sQ] at K2⊢
 clear K1 HB1
 have hW:=hv2_7 rfl
 have hWl:=hW.pl
 obtain⟨bp,rfl,p1,p2,p3⟩:=hW
 have hnK2:=K2.n
 simp at hnK2
 have hT2:Bw w u2:=Z3 hB0 HB2
 have fl_2:NL u2 (.slice (some ⟨uc.heap.size,0,none⟩) 2 2) [3,2]:=fl_0.up HB2
 have fp_2:PtL u2 (.slice (some ⟨bp,0,none⟩) 2 2) [(1,5),(2,7)]:=hWl
 have HBz2:Bw u2 u2:=Below.refl _ _
 have hbp:bp<u2.heap.size:=p2
 have hY0:u2.rangeAt bp (0+4) (LN 5):=fun j v hj=>(p3 (4+j) v (by match j,hj with | 0,hj=>exact hj | 1,hj=>exact hj | 2,hj=>exact hj | 3,hj=>exact hj)).1
 have hY1:u2.rangeAt bp (8+4) (LN 7):=fun j v hj=>(p3 (12+j) v (by match j,hj with | 0,hj=>exact hj | 1,hj=>exact hj | 2,hj=>exact hj | 3,hj=>exact hj)).1
 have hY0:Hid _:=hY0
 have hY1:Hid _:=hY1
 have K2_2:Bk u2.heap.size u2 [(false,uc.heap.size+1,LN 11),(false,b1_7,LN 0)]:=⟨.c (K2.lt 0) (K2.cv 0)<| .c (K2.lt 1) (K2.cv 1)<|trivial,by simp<;>omega⟩
 go_upto_region 4 with fail
 refine rgP K2_2 HBz2 HBz2.size [] [(7,7,L0s,some (8,LN 3))] [(0,28,NV 11),(1,29,A4 (0) (0) (0) (0)),(2,30,.slice (some ⟨bp,0,none⟩) 2 2),(3,31,.tuple #[NV 3,.int .i64 0]),(4,27,.tuple #[NV 3,.int .i64 0]),(5,32,NV 3),(6,33,.int .i64 0),(9,8,.int .i64 0)] [(8,7)] [] [] ?_ ?_
 ·exact oc (g_ld 0 uN iN)<|oc (g_bd zN)<|oc g_mv<|oc (g_cb Xo (fun uZ bZ=>by have h:=cCombine 11 0 [10,1] [(1,5),(2,7)] (.slice (some ⟨bp,0,none⟩) 2 2) uZ ((hG.below hT2).below bZ) (⟨by decide,by decide⟩:In 11) (by decide) In_0 (fp_2.up bZ) (by intro z hz;simp at hz;rcases hz with rfl | rfl<;>exact⟨⟨by decide,by decide⟩,⟨by decide,by decide⟩⟩) (by decide) (by decide) invs11;rw[show smN 11 (fac 11 0 (List.map Prod.fst ([(1,5),(2,7)]:List (Int×Int))) [10,1]) [(1,5),(2,7)] ([(1,5),(2,7)]:List (Int×Int)).length=3 from by decide,NV_0] at h;exact h))<|oc g_mv<|oc g_ex<|oc g_ex<|oc (g_al 0 aN)<|oc (g_sn 0 iN)<|oc g_as on
 intro u3 b3_7 HB3 sz3 K3
 simp only[sQ] at K3⊢
 go_upto_region 5 with fail
 refine rgD K3 HB3 HB3.size [] [] [(0,34,NV 0),(1,35,A4 (0) (0) (0) (0)),(2,36,.bool true),(3,37,.bool true),(4,38,.int .i64 0),(5,39,.bool true),(6,40,.bool true),(7,41,.bool true),(8,42,.slice (some ⟨bp,0,none⟩) 2 2),(9,43,.int .i64 2),(10,44,.bool true),(11,45,.bool true),(12,46,.bool true),(13,47,.int .i64 0),(14,48,.bool true),(15,49,.bool true),(16,50,.bool true),(17,51,.slice (some ⟨bp,0,none⟩) 2 2),(18,52,.pointer (some ⟨bp,0,none⟩)),(19,53,.pointer (some ⟨bp,0+4,none⟩)),(20,54,NV 5),(21,55,NV 5),(22,56,.bool true),(23,57,.bool true),(24,58,.bool true),(25,59,.slice (some ⟨bp,0,none⟩) 2 2),(26,60,.pointer (some ⟨bp,8,none⟩)),(27,61,.pointer (some ⟨bp,8+4,none⟩)),(28,62,NV 7),(29,63,NV 7),(30,64,.bool true),(31,65,.bool true),(32,66,.bool true),(33,67,NV 3),(34,68,NV 3),(35,69,.bool true),(36,70,.bool true),(37,71,.bool true),(38,72,.int .i64 0),(39,73,.bool true),(40,74,.bool true),(41,0,.bool true)] [] [] [] ?_ ?_
 ·exact oc (g_ld 1 uN iN)<|oc (g_bd zN)<|oc (g_bn (fun uZ=>eql_0 _ _ In_0 true (by decide) uZ))<|oc g_mv<|oc g_mv<|oc (g_bn (fun uZ=>eql_i _ _ _ 0 0 _ uZ rfl))<|oc g_pk<|oc g_mv<|oc g_mv<|oc (g_ln Tryz.underlying31)<|oc (g_bn (fun uZ=>eql_i _ _ _ 2 2 _ uZ rfl))<|oc g_pk<|oc g_mv<|oc g_mv<|oc (g_bn (fun uZ=>eql_i _ _ _ 0 0 _ uZ rfl))<|oc g_pk<|oc g_mv<|oc g_mv<|oc (g_ix (fun uZ=>ixPa bp 2 2 (by decide) uZ))<|oc (g_fd (fun uZ=>fdP1 _ _ uZ))<|oc (g_lf hY0.out hbp uN iN)<|oc (g_cl Z8 (fun uZ=>Yg 5 uZ (by omega) (by omega)))<|oc (g_bn (fun uZ=>eqb _ _ (⟨by decide,by decide⟩:In 5) (⟨by decide,by decide⟩:In 5) true (by decide) uZ))<|oc g_pk<|oc g_mv<|oc g_mv<|oc (g_ix (fun uZ=>ixPb bp 2 2 (by decide) uZ))<|oc (g_fd (fun uZ=>fdP1 _ _ uZ))<|oc (g_lf hY1.out hbp uN iN)<|oc (g_cl Z8 (fun uZ=>Yg 7 uZ (by omega) (by omega)))<|oc (g_bn (fun uZ=>eqb _ _ (⟨by decide,by decide⟩:In 7) (⟨by decide,by decide⟩:In 7) true (by decide) uZ))<|oc g_pk<|oc g_mv<|oc (g_ld 2 uN iN)<|oc (g_cl Z8 (fun uZ=>Yg 3 uZ (by omega) (by omega)))<|oc (g_bn (fun uZ=>eqb _ _ (⟨by decide,by decide⟩:In 3) (⟨by decide,by decide⟩:In 3) true (by decide) uZ))<|oc g_pk<|oc g_mv<|oc g_mv<|oc (g_bn (fun uZ=>eql_i _ _ _ 0 0 _ uZ rfl))<|oc g_pk<|oc g_as on
 intro u4 HB4 sz4 K4
 simp only[sQ] at K4⊢
 clear K3 HB3
 go_wp2
 exact bodyPost_ret (v:= .bool true) (by simp[results,Tryz.results16,go_sem]) rfl ⟨rfl,Z3 hT2 HB4⟩
theorem infoI:(Tryz.prog.info? 3).map (fun i=>(i.zero,i.size,i.bytes))=some (some (.int .i64 0),1,8):=by kernel_rfl
def iV(xs:List Int):List Value:=xs.map fun x=>.int .i64 x
theorem iV_len(xs:List Int):(iV xs).length=xs.length:=by simp[iV]
theorem bsI0(w:World):(Instr.buildSlice 26 0 #[]).run Tryz.prog w= .ok (.slice (some ⟨w.heap.size,0,none⟩) 0 0) (w.alloc (.cells #[] 3)):=by kernel_rfl
theorem bsI1(x:Int)(w:World):(Instr.buildSlice 26 1 #[(0,.int .i64 x)]).run Tryz.prog w= .ok (.slice (some ⟨w.heap.size,0,none⟩) 1 1) (w.alloc (.cells #[.int .i64 x] 3)):=by kernel_rfl
theorem app_i{u:World}{bo m co:Nat}{out:List Int}{zs:List Value}{x:Int}{ty:TypeId}(hc:CV u bo (iV out++zs))(hb:bo<u.heap.size)(hm:out.length=m)(hmc:m<=co)(hz:zs.length=co -m)(hl:m<=1000000):
 ∃v u',(Builtin.append_ #[26,26] ty #[.slice (some ⟨bo,0,none⟩) m co,.slice (some ⟨u.heap.size,0,none⟩) 1 1]).run Tryz.prog (u.alloc (.cells #[.int .i64 x] 3))= .ok v u'/\(u.alloc (.cells #[.int .i64 x] 3)).grownBy u' (some bo)/\PH (u.alloc (.cells #[.int .i64 x] 3)).heap.size bo 1 (m+1) (iV (out++[x])) u' v:=by
 obtain⟨ti,hti,htm⟩:=Option.map_eq_some_iff.1 infoI
 simp only[Prod.mk.injEq] at htm
 obtain⟨hzv,hsz,hby⟩:=htm
 have hss:u.heap.size<=(u.alloc (.cells #[.int .i64 x] 3)).heap.size:=by simp
 obtain⟨v',u',hr,hg,hp⟩:=run_app (P:=Tryz.prog) (u.alloc (.cells #[.int .i64 x] 3)) (ty:=ty) Tryz.underlying26 hti hzv (by rw[hsz];rfl) (base:=(u.alloc (.cells #[.int .i64 x] 3)).heap.size) (n:=m) (cap:=co) (m:=1) (news:=[.int .i64 x]) (y:= .slice (some ⟨u.heap.size,0,none⟩) 1 1) (hc.below (Z0 (Z2 u) _) hb) (Nat.lt_of_lt_of_le hb hss) (by rw[hsz,iV_len];omega) (by rw[hsz];omega) hmc (Nat.le_refl _) ⟨_,1,rfl,.inr ⟨_,rfl,fun j v hj=>by
  match j,hj with
  | 0,hj=>simp at hj;subst hj;simp[Addr.add]⟩⟩ (by rw[hsz];rfl) (fun v hv=>by simp at hv;subst hv;rfl) (by rw[hby];omega) (by omega)
 rw[hsz] at hp
 rw[show iV out++[.int .i64 x]=iV (out++[x]) by simp[iV]] at hp
 exact⟨v',u',hr,hg,hp⟩
theorem il_row{u:World}{b m c:Nat}{out:List Int}{zs:List Value}(hb:b<u.heap.size)(h:CV u b (iV out++zs))(hm:out.length=m)(hc:m<=c):IL u (.slice (some ⟨b,0,none⟩) m c) out:=by
 subst hm
 refine⟨_,b,0,c,rfl,hc,(by simp),.inr rfl,.inr hb,fun j hj=>?_⟩
 rw[Nat.zero_add]
 exact(h j _ (by rw[List.getElem?_append_left (by rw[iV_len];exact hj)];simp[iV,List.getElem?_map,List.getElem?_eq_getElem hj])).1
theorem hasInt_core(sl:Option Addr)(n cap gb go:Nat)(f:Nat->Int)(x:Int)(b:Bool)(w:World)(hn:n<=1000)(hsl:Hid (0<n->sl=some ⟨gb,go,none⟩/\gb<w.heap.size))(hc:Hid (∀j,j<n->w.cell? ⟨gb,go+j,none⟩=some (.int .i64 (f j))))(hb1:Hid (∀j,j<n->f j=x->b=true))(hb0:Hid ((∀j,j<n->f j≠x)->b=false)):
 CC 38 #[.slice sl n cap,.int .i64 x] w (.bool b):=by
 go_enter Tryz.func38,Tryz.ntmps38
 go_wp2_with fail
 go_loopw [5] (fun s5 wr=> ∃i:Nat,i<=n/\s5= .int .i64 (i:Int)/\Hid (∀j,j<i->f j≠x)/\Bw w wr) (fun s5 _=>n -(intOf s5).toNat)
 case atStart=>exact⟨0,by omega,rfl,fun j hj=>absurd hj (by omega),Below.refl _ _⟩
 case round=>
  obtain⟨i,hi,rfl,hno,HBr⟩:=hrel
  by_cases hj:i<n
  ·have hl2:(i:Int)<(n:Int):=by omega
   obtain⟨rfl,hg⟩:=hsl.out (by omega)
   have hk:wr.cell? ⟨gb,go+i,none⟩=some (.int .i64 (f i)):=(HBr.cell (p:=⟨gb,go+i,none⟩) hg).trans (hc.out i hj)
   have hbt:=hb1.out i hj
   have hno2:f i≠x->Hid (∀j,j<i+1->f j≠x):=fun h j hj2=>by
    by_cases e:j=i
    ·subst e;exact h
    ·exact hno.out j (by omega)
   have e1:IntKind.i64.wrap ((i:Int)+1)=((i+1:Nat):Int):=by rw[IntKind.wrap_i64];omega
   obtain⟨y,ey⟩: ∃y,f i=y:=⟨_,rfl⟩
   rw[ey] at hk hbt hno2
   clear ey
   by_cases hxy:y=x
   ·obtain rfl:=hbt hxy
    have hq:(y==x)=true:=by simpa using hxy
    clear hno2 hbt hxy
    go_wp2
    exact bodyPost_ret (v:= .bool true) (by simp[results,Tryz.results38,go_sem]) rfl ⟨rfl,HBr⟩
   ·have h2:=hno2 hxy
    have hq:(y==x)=false:=by simpa using hxy
    clear hno2 hbt hxy
    go_wp2
    refine⟨⟨i+1,by omega,by simp,h2,HBr⟩,?_⟩
    simp[intOf];omega
  ·have hl2: ¬(i:Int)<(n:Int):=by omega
   have hin:i=n:=by omega
   subst hin
   obtain rfl:=hb0.out hno.out
   go_wp2
   exact bodyPost_ret (v:= .bool false) (by simp[results,Tryz.results38,go_sem]) rfl ⟨rfl,HBr⟩
theorem cHasInt(xs:List Int)(v:Value)(x:Int)(w:World)(hl:xs.length<=1000)(hv:IL w v xs):CC 38 #[v,.int .i64 x] w (.bool (decide (x∈xs))):=by
 obtain⟨sl,gb,go,cap,rfl,h2,h3,h4,h5,h6⟩:=hv
 refine hasInt_core sl xs.length cap gb go (fun j=>xs.getD j 0) x _ w hl (fun h=>⟨h4.resolve_left (fun e=>by subst e;simp at h),h5.resolve_left (by omega)⟩) h6 (fun j hj h=>?_) (fun h=>?_)
 ·rw[decide_eq_true_iff,<-h];simp[List.getElem?_eq_getElem hj]
 ·rw[decide_eq_false_iff_not]
  intro hm
  obtain⟨j,hj,e⟩:=List.mem_iff_getElem.1 hm
  exact h j hj (by simp[List.getElem?_eq_getElem hj,e])
theorem cOrder(w:World):CC 21 #[] w (NV 581039633):=by
 have e:NV 581039633=A4 581039633 0 0 0:=X9 (by omega) (by omega)
 rw[e]
 go_enter Tryz.func21,Tryz.ntmps21
 go_wp2
 exact bodyPost_ret (v:=A4 581039633 0 0 0) (by simp[results,Tryz.results21,go_sem]) rfl ⟨rfl,Z0 (Z2 w) _⟩
theorem pig: ∀(x:Nat) (out:List Int),(∀y:Nat,1<=y->y<=x->(y:Int)∈out)->x<=out.length
 | 0,out,h=>Nat.zero_le _
 | x+1,out,h=>by
  have hm:=h (x+1) (by omega) (Nat.le_refl _)
  have:=pig x (out.erase ((x+1:Nat):Int)) (fun y h1 h2=>(List.mem_erase_of_ne (by omega)).2 (h y h1 (by omega)))
  rw[List.length_erase_of_mem hm] at this
  have:=List.length_pos_of_mem hm
  omega
theorem Apart.snoc{out:List Int}{x:Int}(h:Apart out)(hx:x∉out)(h1:1<=x)(h2:x<64):Apart (out++[x]):=by
 refine⟨List.nodup_append.2 ⟨h.1,by simp,fun a ha b hb=>?_⟩,fun y hy=>?_⟩
 ·simp at hb;subst hb;exact fun e=>hx (e▸ha)
 ·rcases List.mem_append.1 hy with h3 | h3
  ·exact h.2 y h3
  ·simp at h3;subst h3;exact⟨h1,h2⟩
theorem bsN0(w:World):(Instr.buildSlice 25 0 #[]).run Tryz.prog w= .ok (.slice (some ⟨w.heap.size,0,none⟩) 0 0) (w.alloc (.cells #[] 24)):=by kernel_rfl
theorem app_n0{u:World}{b m c:Nat}{sl:Option Addr}{gb go:Nat}{ns:List Int}{ty:TypeId}(hb:b<u.heap.size)(hc:CV u b [])(hm:ns.length=m)(hl:m<=100000)(hs:m=0\/sl=some ⟨gb,go,none⟩)(hS:SN u gb go ns):
 ∃v u',(Builtin.append_ #[25,25] ty #[.slice (some ⟨b,0,none⟩) 0 0,.slice sl m c]).run Tryz.prog u= .ok v u'/\Bw u u'/\(∃b2 c2,v= .slice (some ⟨b2,0,none⟩) m c2)/\NL u' v ns:=by
 obtain⟨ti,hti,htm⟩:=Option.map_eq_some_iff.1 infoNt
 simp only[Prod.mk.injEq] at htm
 obtain⟨hzv,hsz,hby⟩:=htm
 obtain⟨v',u',hr,hB,hg⟩:=run_appF (P:=Tryz.prog) u (ty:=ty) Tryz.underlying25 hti hzv (by rw[hsz];rfl) (lo:=0) (n:=0) (m:=m) (xs:=[]) (news:=flN ns) (y:= .slice sl m c) hc (Nat.zero_le _) (Nat.zero_le _) hb (by rw[hsz];rfl) ⟨sl,c,rfl,hs.imp id fun e=>⟨_,e,SN.news hS⟩⟩ (by rw[hsz,flN_len];omega) (by rw[hby];omega) (by omega)
 rw[hsz,List.nil_append,Nat.zero_add] at hg
 obtain⟨b2,c2,zs,rfl,h1,h2,h3,h4,h5⟩:=hg
 refine⟨_,u',hr,hB,⟨b2,c2,rfl⟩,⟨_,b2,0,c2,by rw[hm],by omega,(by simp),.inr rfl,.inr h2,fun j v hj=>?_⟩⟩
 rw[Nat.zero_add]
 exact(h5 j v (by rw[List.getElem?_append_left (List.getElem?_eq_some_iff.1 hj).1];exact hj)).1
theorem few_core(sl:Option Addr)(len cap m:Nat)(gb go:Nat)(ns:List Int)(w:World)(hm:min ((len:Nat):Int) 12=((m:Nat):Int))(hml:Hid (ns.length=m))(hmn:m<=len)(hlc:len<=cap)(hsn:sl=none->cap=0)(hm12:m<=12)(hs:Hid (m=0\/sl=some ⟨gb,go,none⟩))(hg:Hid (m=0\/gb<w.heap.size))(hS:Hid (SN w gb go ns)):
 Calls Tryz.prog 7 #[.slice sl len cap] w fun e u=> ∃y,e= .returned y/\NL u y ns/\Bw w u:=by
 have hbs:=bsN0
 have hsl:=slH sl len cap m hmn hlc hsn
 obtain⟨v',u',r,hB,⟨b2,c2,rfl⟩,hN⟩:=app_n0 (u:=w.alloc (.cells #[] 24)) (b:=w.heap.size) (m:=m) (c:=cap) (sl:=sl) (gb:=gb) (go:=go) (ns:=ns) (ty:=25) (by simp) (CV.new w [] 24) hml.out (by omega) hs.out (SN.below2 (m:=w.heap.size) hS.out (Z0 (Z2 w) _) (hg.out.imp (fun e=>hml.out.trans e) id))
 have hB2:Bw w u':=Z3 (Z0 (Z2 w) (.cells #[] 24)) hB
 have hN:Hid (NL u' (.slice (some ⟨b2,0,none⟩) m c2) ns):=hN
 clear hsn hB
 go_enter Tryz.func7,Tryz.ntmps7
 go_wp2_with (at_builtin;refine Ya rfl _ _ 25 rfl _ _ _ rfl rfl r ?_;clear r)
 exact bodyPost_ret (v:= .slice (some ⟨b2,0,none⟩) m c2) (by simp[results,Tryz.results7,go_sem]) rfl ⟨_,rfl,hN.out,hB2⟩
set_option maxHeartbeats 8000000 in
theorem apart_core(sl:Option Addr)(L cap gl ol n:Nat)(f:Nat->Int)(w:World)(hn:n<=20)(hL:L<=9223372036854775807)(hsl:Hid (0<L->sl=some ⟨gl,ol,none⟩/\gl<w.heap.size))(hc:Hid (∀j,j<L->w.cell? ⟨gl,ol+j,none⟩=some (.int .i64 (f j))))(hA:Hid (∀j,j<L-> ∃k:Nat,k<40/\ ∀u,CC 18 #[.int .i64 (f j),.int .i64 40] u (.int .i64 (k:Int)))):
 Calls Tryz.prog 17 #[.slice sl L cap,.int .i64 (n:Int)] w fun e u=> ∃y,e= .returned y/\ ∃out:List Int,out.length=n/\Apart out/\IL u y out/\Bw w u:=by
 have hb0:=bsI0
 have hb1:=bsI1
 go_enter Tryz.func17,Tryz.ntmps17
 go_wp2_with fail
 go_loopw [6,5] (fun s6 s5 wr=> ∃(i m bo co:Nat) (out:List Int) (zs:List Value),i<=L/\m<=n/\s6= .int .i64 (i:Int)/\s5= .slice (some ⟨bo,0,none⟩) m co/\Hid (out.length=m)/\Apart out/\m<=co/\zs.length=co -m/\w.heap.size<=bo/\bo<wr.heap.size/\Hid (CV wr bo (iV out++zs))/\Bw w wr) (fun s6 _ _=>L -(intOf s6).toNat)
 case atStart=>exact⟨0,0,w.heap.size,0,[],[],by omega,by omega,rfl,rfl,rfl,⟨List.nodup_nil,fun x hx=>by cases hx⟩,by omega,rfl,Nat.le_refl _,by simp,(fun j v h=>by simp[iV] at h),Z0 (Z2 w) _⟩
 case round=>
  obtain⟨i,m,bo,co,out,zs,hi,hmn,rfl,rfl,hol,hap,hmc,hzl,hlo,hlt,KV,HBr⟩:=hrel
  by_cases hj:i<L/\m<n
  ·obtain⟨hj1,hj2⟩:=hj
   have hl1:decide ((i:Int)<(L:Int))=true:=by simp;omega
   have hl2:decide ((m:Int)<(n:Int))=true:=by simp;omega
   have hl3:(i:Int)<(L:Int):=by omega
   obtain⟨rfl,hg⟩:=hsl.out (by omega)
   have hk:wr.cell? ⟨gl,ol+i,none⟩=some (.int .i64 (f i)):=(HBr.cell (p:=⟨gl,ol+i,none⟩) hg).trans (hc.out i hj1)
   obtain⟨k,hk40,hAk⟩:=hA.out i hj1
   have hAw:=hAk wr
   have e1:IntKind.i64.wrap ((i:Int)+1)=((i+1:Nat):Int):=by rw[IntKind.wrap_i64];omega
   have e2:IntKind.i64.wrap (1+(k:Int))=((k+1:Nat):Int):=by rw[IntKind.wrap_i64];omega
   obtain⟨y,ey⟩: ∃y,f i=y:=⟨_,rfl⟩
   rw[ey] at hk hAw
   clear ey hAk
   obtain⟨x,ex⟩: ∃x:Nat,k+1=x:=⟨_,rfl⟩
   rw[ex] at e2
   have hx1:1<=x:=by omega
   have hx2:x<64:=by omega
   clear ex
   by_cases hin:(x:Int)∈out
   ·have hH:Hid (∀u,Bw wr u->CC 38 #[.slice (some ⟨bo,0,none⟩) m co,.int .i64 (x:Int)] u (.bool true)):=fun u hB=>by
     have:=cHasInt out _ (x:Int) u (by rw[hol.out];omega) ((il_row hlt KV.out hol.out hmc).up hB)
     rwa [decide_eq_true hin] at this
    clear hin
    go_wp2_with (first
     | (go_at_call 18;refine hAw.mono ?_;clear hAw;rintro e ua ⟨rfl,hBa⟩;replace KV:Hid (CV ua bo (iV out++zs)):=CV.below KV.out hBa hlt;have hsa:=hBa.size;replace hH:=hH.out ua hBa;replace HBr:=Z3 HBr hBa)
     | (go_at_call 38;refine hH.mono ?_;clear hH;rintro e ub ⟨rfl,hBb⟩;replace KV:Hid (CV ub bo (iV out++zs)):=CV.below KV.out hBb (by omega);have hsb:=hBb.size;replace HBr:=Z3 HBr hBb))
    refine⟨⟨i+1,m,bo,co,out,zs,by omega,by omega,by simp,rfl,hol,hap,hmc,hzl,hlo,by omega,KV,HBr⟩,?_⟩
    simp[intOf];omega
   ·have hH:Hid (∀u,Bw wr u->CC 38 #[.slice (some ⟨bo,0,none⟩) m co,.int .i64 (x:Int)] u (.bool false)):=fun u hB=>by
     have:=cHasInt out _ (x:Int) u (by rw[hol.out];omega) ((il_row hlt KV.out hol.out hmc).up hB)
     rwa [decide_eq_false hin] at this
    have hap2:=hap.snoc hin (by omega) (by omega)
    clear hin hap
    go_wp2_with (first
     | (go_at_call 18;refine hAw.mono ?_;clear hAw;rintro e ua ⟨rfl,hBa⟩;replace KV:Hid (CV ua bo (iV out++zs)):=CV.below KV.out hBa hlt;have hsa:=hBa.size;replace hH:=hH.out ua hBa;replace HBr:=Z3 HBr hBa)
     | (go_at_call 38;refine hH.mono ?_;clear hH;rintro e ub ⟨rfl,hBb⟩;replace KV:Hid (CV ub bo (iV out++zs)):=CV.below KV.out hBb (by omega);have hsb:=hBb.size;replace HBr:=Z3 HBr hBb;obtain⟨v2,uc,r2,rg2,b5,c5,z5,rfl,f1,f2,f3,f4,f5⟩:=app_i (ty:=26) (x:=(x:Int)) KV.out (by omega) hol.out hmc hzl (by omega);have f5:Hid _:=f5;have rg2:Hid _:=rg2)
     | (at_builtin;refine Ya rfl _ _ 26 rfl _ _ _ rfl rfl r2 ?_;clear r2))
    have hBa2:Bw w (ub.alloc (.cells #[.int .i64 (x:Int)] 3)):=Z0 HBr _
    have hBc:Bw w uc:=hBa2.grown rg2.out hBa2.size (fun k e=>by cases e;exact hlo)
    refine⟨⟨i+1,m+1,b5,c5,out++[(x:Int)],z5,by omega,by omega,by simp,rfl,by have:=hol.out;show (out++[(x:Int)]).length=m+1;rw[List.length_append,this];rfl,hap2,f3,by rw[f4,Nat.mul_one],by have:=hBa2.size;rcases f1 with h | h<;>omega,f2,f5,hBc⟩,?_⟩
    simp[intOf];omega
  ·obtain⟨wo,rfl⟩: ∃x,x=wr:=⟨_,rfl⟩
   have hend:(decide ((i:Int)<(L:Int))=false/\ ¬(i:Int)<(L:Int))\/(decide ((i:Int)<(L:Int))=true/\(i:Int)<(L:Int)/\decide ((m:Int)<(n:Int))=false/\ ¬(m:Int)<(n:Int)):=by
    by_cases h:i<L
    ·right;refine⟨?_,?_,?_,?_⟩<;>simp<;>omega
    ·left;refine⟨?_,?_⟩<;>simp<;>omega
   rcases hend with⟨h1,h3⟩ | ⟨h1,h3,h2,h4⟩
   all_goals
    go_wp2_with fail
    go_loopw [8,5] (fun s8 s5 wx=> ∃(x m bo co:Nat) (out:List Int) (zs:List Value),1<=x/\x<=n+1/\m<=n/\s8= .int .i64 (x:Int)/\s5= .slice (some ⟨bo,0,none⟩) m co/\Hid (out.length=m)/\Hid (∀y:Nat,1<=y->y<x->(y:Int)∈out)/\Apart out/\m<=co/\zs.length=co -m/\w.heap.size<=bo/\bo<wx.heap.size/\Hid (CV wx bo (iV out++zs))/\Bw w wx) (fun s8 _ _=>n+2 -(intOf s8).toNat)
    case atStart=>exact⟨1,m,bo,co,out,zs,Nat.le_refl _,by omega,hmn,rfl,rfl,hol,(fun y h1 h2=>by omega),hap,hmc,hzl,hlo,hlt,KV,HBr⟩
    case round=>
     clear hzl hmc hlo hlt KV HBr hol hap
     obtain⟨x,m,bo,co,out,zs,hx1,hxn,hmn,rfl,rfl,hol,hall,hap,hmc,hzl,hlo,hlt,KV,HBr⟩:=hrel
     by_cases hj:m<n
     ·have hl2:(m:Int)<(n:Int):=by omega
      have hxm:x -1<=m:=by
       have:=pig (x -1) out (fun y h1 h2=>hall.out y h1 (by omega))
       rwa [hol.out] at this
      have hxn2:x<=n:=by omega
      have e1:IntKind.i64.wrap ((x:Int)+1)=((x+1:Nat):Int):=by rw[IntKind.wrap_i64];omega
      by_cases hin:(x:Int)∈out
      ·have hH:Hid (CC 38 #[.slice (some ⟨bo,0,none⟩) m co,.int .i64 (x:Int)] wr (.bool true)):=by
        have:=cHasInt out _ (x:Int) wr (by rw[hol.out];omega) (il_row hlt KV.out hol.out hmc)
        rwa [decide_eq_true hin] at this
       have hall2:Hid (∀y:Nat,1<=y->y<x+1->(y:Int)∈out):=fun y h1 h2=>by
        by_cases e:y=x
        ·subst e;exact hin
        ·exact hall.out y h1 (by omega)
       clear hin hall
       go_wp2_with (go_at_call 38;refine hH.out.mono ?_;clear hH;rintro e ub ⟨rfl,hBb⟩;replace KV:Hid (CV ub bo (iV out++zs)):=CV.below KV.out hBb (by omega);have hsb:=hBb.size;replace HBr:=Z3 HBr hBb)
       refine⟨⟨x+1,m,bo,co,out,zs,by omega,by omega,hmn,by simp,rfl,hol,hall2,hap,hmc,hzl,hlo,by omega,KV,HBr⟩,?_⟩
       simp[intOf];omega
      ·have hH:Hid (CC 38 #[.slice (some ⟨bo,0,none⟩) m co,.int .i64 (x:Int)] wr (.bool false)):=by
        have:=cHasInt out _ (x:Int) wr (by rw[hol.out];omega) (il_row hlt KV.out hol.out hmc)
        rwa [decide_eq_false hin] at this
       have hall2:Hid (∀y:Nat,1<=y->y<x+1->(y:Int)∈out++[(x:Int)]):=fun y h1 h2=>by
        by_cases e:y=x
        ·subst e;simp
        ·exact List.mem_append_left _ (hall.out y h1 (by omega))
       have hap2:=hap.snoc hin (by omega) (by omega)
       clear hin hap hall
       go_wp2_with (first
        | (go_at_call 38;refine hH.out.mono ?_;clear hH;rintro e ub ⟨rfl,hBb⟩;replace KV:Hid (CV ub bo (iV out++zs)):=CV.below KV.out hBb (by omega);have hsb:=hBb.size;replace HBr:=Z3 HBr hBb;obtain⟨v2,uc,r2,rg2,b5,c5,z5,rfl,f1,f2,f3,f4,f5⟩:=app_i (ty:=26) (x:=(x:Int)) KV.out (by omega) hol.out hmc hzl (by omega);have f5:Hid _:=f5;have rg2:Hid _:=rg2)
        | (at_builtin;refine Ya rfl _ _ 26 rfl _ _ _ rfl rfl r2 ?_;clear r2))
       have hBa2:Bw w (ub.alloc (.cells #[.int .i64 (x:Int)] 3)):=Z0 HBr _
       have hBc:Bw w uc:=hBa2.grown rg2.out hBa2.size (fun k e=>by cases e;exact hlo)
       refine⟨⟨x+1,m+1,b5,c5,out++[(x:Int)],z5,by omega,by omega,by omega,by simp,rfl,by have:=hol.out;show (out++[(x:Int)]).length=m+1;rw[List.length_append,this];rfl,hall2,hap2,f3,by rw[f4,Nat.mul_one],by have:=hBa2.size;rcases f1 with h | h<;>omega,f2,f5,hBc⟩,?_⟩
       simp[intOf];omega
     ·have hl2: ¬(m:Int)<(n:Int):=by omega
      have hmn2:m=n:=by omega
      have hfin:IL wr (.slice (some ⟨bo,0,none⟩) m co) out:=il_row hlt KV.out hol.out hmc
      have hol2:out.length=n:=hol.out.trans hmn2
      have hol2:Hid _:=hol2
      have hmn2:Hid _:=hmn2
      have hfin:Hid _:=hfin
      go_wp2
      exact bodyPost_ret (v:= .slice (some ⟨bo,0,none⟩) m co) (by simp[results,Tryz.results17,go_sem];exact hmn2.out.symm) rfl ⟨_,rfl,out,hol2.out,hap,hfin.out,HBr⟩
end Go.Proofs.YtgieoghechekpaaGreatDoor
