import Derived.Test.YtknpepgonhdbgaaGreatDoorPK
import Derived.Deep.OwnRows
namespace Go.Proofs.YtknpepgonhdbgaaGreatDoor
set_option linter.unusedVariables false
set_option linter.unusedSimpArgs false
set_option maxRecDepth 100000
set_option maxHeartbeats 4000000
open Go.RowKit
def byl(a b c d:Int):List Int:=(List.range 32).map fun j=>byp a b c d (31 -j)
theorem CB.get{w:World}{g:Nat}{a b c d:Int}(h:CB w g 32 a b c d): ∀i,i<32->w.cell? ⟨g,0+i,none⟩=some (.int .u8 ((byl a b c d).getD i 0)):=fun i hi=>by
 have:=(h i hi).1
 rw[if_pos (by omega)] at this
 rw[Nat.zero_add,this]
 unfold byl
 simp[List.getD,hi]
theorem Tryz.info5:(Tryz.prog.info? 5).map (fun i=>(i.zero,i.size,i.bytes))=some (some (.int .u8 0),1,1):=by kernel_rfl
def hexc(v:Int):Int:=if v<10 then 48+v else 87+v
def nib(a b c d:Int)(p:Nat):Int:=(if p/16=0 then a else if p/16=1 then b else if p/16=2 then c else d)/2^(p%16*4)%16
theorem hex_at(v:Int)(h0:0<=v)(h1:v<16)(hh:v.toNat<(ByteArray.mk #[48,49,50,51,52,53,54,55,56,57,97,98,99,100,101,102]).size):((((ByteArray.mk #[48,49,50,51,52,53,54,55,56,57,97,98,99,100,101,102])[v.toNat]'hh).toNat:Nat):Int)=hexc v:=by
 obtain⟨n,rfl⟩:=Int.eq_ofNat_of_zero_le h0
 have hn:n<16:=by omega
 have key: ∀m:Fin 16,((((ByteArray.mk #[48,49,50,51,52,53,54,55,56,57,97,98,99,100,101,102])[m.val]'(by have:=m.isLt;show m.val<16;omega)).toNat:Nat):Int)=hexc (m.val:Int):=by decide
 exact key ⟨n,hn⟩
theorem and15(x:Int)(h:W64 x):bits .and .u64 x 15=x%16:=by
 obtain⟨h1,h2⟩:=h
 obtain⟨x,rfl⟩:=Int.eq_ofNat_of_zero_le h1
 have e:=bits_and_u64_nat x 15 (by omega) (by omega)
 have f:x&&&15=x%16:=Nat.and_two_pow_sub_one_eq_mod x 4
 rw[f] at e
 exact e.trans (by omega)
def CT(w:World)(n N k:Nat)(a b c d:Int):Prop:= ∀j,j<N->w.cell? ⟨n,j,none⟩=some (.int .u8 (if N<=j+k then hexc (nib a b c d (N -1 -j)) else 0))/\w.frozen? ⟨n,j,none⟩=false
theorem CT.set{w:World}{n N k o:Nat}{a b c d:Int}(h:CT w n N k a b c d)(hk:k<N)(ho:o=N -1 -k)(v:Int)(hv:v=hexc (nib a b c d k)):CT (w.setCell ⟨n,o,none⟩ (.int .u8 v)) n N (k+1) a b c d:=fun j hj=>by
 subst ho
 rw[World.frozen?_setCell]
 obtain⟨hc,hf⟩:=h (N -1 -k) (by omega)
 by_cases e:j=N -1 -k
 ·subst e
  refine⟨?_,hf⟩
  rw[if_pos (by omega),show N -1 -(N -1 -k)=k by omega,hv]
  simp[go_sem,hc]
 ·obtain⟨hc',hf'⟩:=h j hj
  refine⟨?_,hf'⟩
  rw[World.cell?_setCell_other _ _ _ _ (by simp<;>omega),hc']
  by_cases g:N<=j+k
  ·rw[if_pos g,if_pos (by omega)]
  ·rw[if_neg g,if_neg (by omega)]
theorem CT.new(w:World)(N:Nat)(a b c d:Int):CT (w.alloc (.cells (madeCells #[.int .u8 0] N) 5)) w.heap.size N 0 a b c d:=fun j hj=>by
 have hf:(w.alloc (.cells (madeCells #[.int .u8 0] N) 5)).frozen? ⟨w.heap.size,j,none⟩=false:=by simp[go_sem]
 refine⟨?_,hf⟩
 rw[cell_of_row _ w.heap.size j _ 5 (0,0) (heap_alloc_new _ _),if_neg (by omega)]
 simp[madeCells,hj,Nat.mod_one]
def txl(a b c d:Int)(N:Nat):List Int:=(List.range N).map fun j=>hexc (nib a b c d (N -1 -j))
theorem CT.get{w:World}{g N:Nat}{a b c d:Int}(h:CT w g N N a b c d): ∀i,i<N->w.cell? ⟨g,0+i,none⟩=some (.int .u8 ((txl a b c d N).getD i 0)):=fun i hi=>by
 have:=(h i hi).1
 rw[if_pos (by omega)] at this
 rw[Nat.zero_add,this]
 unfold txl
 simp[List.getD,hi]
def nd(a b c d:Int):Nat:=if blen a b c d=0 then 1 else ((blen a b c d+3)/4).toNat
theorem blen_bd(a b c d:Int)(ha:W64 a)(hb:W64 b)(hc:W64 c)(hd:W64 d):0<=blen a b c d/\blen a b c d<=256:=by
 have h1:=U1 a ha;have h2:=U1 b hb;have h3:=U1 c hc;have h4:=U1 d hd
 unfold blen;split
 ·omega
 ·split
  ·omega
  ·split
   ·omega
   ·split<;>omega
theorem Text_any(a b c d:Int)(w:World)(ha:W64 a)(hb:W64 b)(hc:W64 c)(hd:W64 d):
 CC 74 #[A4 a b c d] w (.string (strOfNums (txl a b c d (nd a b c d)))):=by
 have hbb:=blen_bd a b c d ha hb hc hd
 obtain⟨N,eN⟩: ∃N,nd a b c d=N:=⟨_,rfl⟩
 rw[eN]
 have hmax:(max 1 ((blen a b c d+3)/4):Int)=(N:Int):=by
  rw[<-eN];unfold nd;split<;>omega
 have hN1:1<=N:=by omega
 have hN2:N<=64:=by omega
 obtain⟨L,eL⟩: ∃L,blen a b c d=L:=⟨_,rfl⟩
 have hlen:=Uj a b c d
 simp only[eL] at hlen hbb hmax
 have HLEN:Hid _:=hlen
 clear hlen eL eN
 have hmk:=fun w=>run_make_row' (P:=Tryz.prog) 36 5 (.int .u8 0) 1 Tryz.underlying36 Tryz.info5 rfl .i64 .i64 N (by omega) (by omega) w
 go_enter Tryz.func74,Tryz.ntmps74
 go_wp2_with fail
 refine(HLEN.out _ ha hb hc hd).mono ?_
 rintro en w1 ⟨rfl,hB⟩
 have hA1:C4 w1 w.heap.size a b c d:=C4.below (by unfold C4;simp[go_sem]) hB (by simp)
 have hq1:Bw w w1:=Zt (Z0 (Z5 w) _) hB
 have hs1:=hB.size
 simp only[World.size_alloc] at hs1
 clear hB
 have HM:Hid _:=hmax
 go_wp2
 go_loopw [14] (fun i wr=> ∃k:Nat,k<=N/\i= .int .i64 k/\Bw w wr/\w1.heap.size<wr.heap.size/\C4 wr w.heap.size a b c d/\CT wr w1.heap.size N k a b c d) (fun i _=>N -(intOf i).toNat)
 case atStart=>
  exact⟨0,by omega,rfl,Z0 hq1 _,by simp,hA1.alloc (by omega) _,CT.new w1 N a b c d⟩
 case round=>
  clear hA1 hq1 hmk hmax
  obtain⟨k,hk,rfl,hB,hs,hA,hO⟩:=hrel
  by_cases hlt:k<N
  ·have hlt':(k:Int)<(N:Int):=by omega
   have hA':=hA
   obtain⟨⟨ac0,ac1,ac2,ac3⟩,_⟩:=hA'
   obtain⟨oc,of⟩:=hO (N -1 -k) (by omega)
   have hz:(if N<=N -1 -k+k then hexc (nib a b c d (N -1 -(N -1 -k))) else 0)=0:=if_neg (by omega)
   rw[hz] at oc
   clear hz
   have hq:k/16=0\/k/16=1\/k/16=2\/k/16=3:=by omega
   rcases hq with hq | hq | hq | hq
   ·have hq':(k:Int)/16=0:=by omega
    have hnd:=and15 _ (W_shr a (k%16*4) ha)
    have hv0:0<=a/2^(k%16*4)%16:=by omega
    have hv1:a/2^(k%16*4)%16<16:=by omega
    go_wp2
    refine⟨⟨k+1,by omega,by go_num,?_,by simpa using hs,hA.other _ (by dsimp only;omega) _,hO.set hlt (by omega) _ ?_⟩,by simp[intOf];omega⟩
    ·exact hB.setCell (by show _<=_;dsimp only;omega) _
    ·rw[hex_at _ hv0 hv1];unfold nib;simp[hq]
   ·have hq':(k:Int)/16=1:=by omega
    have hnd:=and15 _ (W_shr b (k%16*4) hb)
    have hv0:0<=b/2^(k%16*4)%16:=by omega
    have hv1:b/2^(k%16*4)%16<16:=by omega
    go_wp2
    refine⟨⟨k+1,by omega,by go_num,?_,by simpa using hs,hA.other _ (by dsimp only;omega) _,hO.set hlt (by omega) _ ?_⟩,by simp[intOf];omega⟩
    ·exact hB.setCell (by show _<=_;dsimp only;omega) _
    ·rw[hex_at _ hv0 hv1];unfold nib;simp[hq]
   ·have hq':(k:Int)/16=2:=by omega
    have hnd:=and15 _ (W_shr c (k%16*4) hc)
    have hv0:0<=c/2^(k%16*4)%16:=by omega
    have hv1:c/2^(k%16*4)%16<16:=by omega
    go_wp2
    refine⟨⟨k+1,by omega,by go_num,?_,by simpa using hs,hA.other _ (by dsimp only;omega) _,hO.set hlt (by omega) _ ?_⟩,by simp[intOf];omega⟩
    ·exact hB.setCell (by show _<=_;dsimp only;omega) _
    ·rw[hex_at _ hv0 hv1];unfold nib;simp[hq]
   ·have hq':(k:Int)/16=3:=by omega
    have hnd:=and15 _ (W_shr d (k%16*4) hd)
    have hv0:0<=d/2^(k%16*4)%16:=by omega
    have hv1:d/2^(k%16*4)%16<16:=by omega
    go_wp2
    refine⟨⟨k+1,by omega,by go_num,?_,by simpa using hs,hA.other _ (by dsimp only;omega) _,hO.set hlt (by omega) _ ?_⟩,by simp[intOf];omega⟩
    ·exact hB.setCell (by show _<=_;dsimp only;omega) _
    ·rw[hex_at _ hv0 hv1];unfold nib;simp[hq]
  ·have hkN:k=N:=by omega
   subst hkN
   have hcv:=run_convert_bytes_arg (P:=Tryz.prog) wr 36 5 Tryz.underlying36 Tryz.underlying5 w1.heap.size 0 k k (txl a b c d k) (by simp[txl]) hO.get 9 Tryz.underlying9
   go_wp2
   go_ret
   exact⟨rfl,hB⟩
def gat(op:Int->Int->Int)(x:Int)(ns:List Int):Nat->Int
 | 0=>x
 | k+1=>op (gat op x ns k) (ns.getD k 0)
theorem gat_In{op:Int->Int->Int}{x:Int}{ns:List Int}(hx:In x)(ho: ∀a b,In a->In b->In (op a b))(hn: ∀k,k<ns.length->In (ns.getD k 0)): ∀k,k<=ns.length->In (gat op x ns k)
 | 0,_=>hx
 | k+1,h=>ho _ _ (gat_In hx ho hn k (by omega)) (hn k (by omega))
theorem mgather(N:FuncId)(op:Int->Int->Int)(x m:Int)(sl:Option Addr)(gb go cap:Nat)(ns:List Int)(w:World)(hns:ns.length<=50)(hx:In x)(hm:In m)(h:m≠0)(hN: ∀(vs:Array Value) (w:World),(callFunc N vs).run Tryz.prog w= .ok (.enter N vs) w)(hT:Hid (∀a b,In a->In b-> ∀u,Calls Tryz.prog N #[NV a,NV b,NV m] u fun e u'=>e= .returned (.tuple #[NV (op a b),.int .i64 0])/\Bw u u'))(ho: ∀a b,In a->In b->In (op a b))(hn:Hid (∀k,k<ns.length->In (ns.getD k 0)))(hix:Hid (∀j,j<ns.length-> ∀W,(Instr.indexAt 35 (.slice sl ns.length cap) (.int .i64 j)).run Tryz.prog W= .ok (.pointer (some ⟨gb,go+4*j,none⟩)) W))(hg:ns.length=0\/gb<w.heap.size)(hS:Hid (SN w gb go ns)):
 CC 107 #[.func (.func N) #[] #[],NV x,NV m,.slice sl ns.length cap] w (.tuple #[NV (gat op (x%m) ns ns.length),.int .i64 0]):=by
 have hI:Hid (∀k,k<=ns.length->In (gat op (x%m) ns k)):=gat_In (Zs hm h) ho hn.out
 go_enter Tryz.func107,Tryz.ntmps107
 go_upto_region 1 with fail
 generalize hC:(((w.alloc (.cells (LN x:List Value).toArray 24)).alloc (.cells (LN m:List Value).toArray 24)).alloc (.cells (L0s:List Value).toArray 24))=v0 at *
 have HB0:Bw w v0:=by rw[<-hC];exact Z0 (Z0 (Z0 (Z5 w) _) _) _
 have K0:Bk w.heap.size v0 [(true,w.heap.size,LN x),(true,w.heap.size+1,LN m),(true,w.heap.size+1+1,L0s)]:=by rw[<-hC];exact(Bk.nil _ w).ad.ad.ad
 clear hC
 refine rgD K0 HB0 HB0.size [] [(7,10,L0s,some (8,LN (x%m)))] [(0,15,NV x),(1,16,WV x),(2,17,NV m),(3,18,.tuple #[NV (x%m),.int .i64 0]),(4,14,.tuple #[NV (x%m),.int .i64 0]),(5,19,NV (x%m)),(6,20,.int .i64 0),(9,11,.int .i64 0)] [(8,7)] [] [false] ?_ ?_
 ·exact oc (g_ld 0 uN iN)<|oc (g_cl Zd (fun uZ=>Xr x uZ hx))<|oc (g_ld 1 uN iN)<|oc (g_cl Zl (fun uZ=>Xf x m uZ hx.wide hm h))<|oc g_mv<|oc g_ex<|oc g_ex<|oc (g_al 0 aN)<|oc (g_sn 0 iN)<|oc g_as on
 intro u1 b1_7 HB1 sz1 K1
 simp only[sQ] at K1⊢
 clear K0 HB0
 go_upto_region 2 with fail
 refine rgP K1 HB1 HB1.size [] [] [(0,21,.int .i64 0),(1,22,.bool false)] [] [] [] ?_ ?_
 ·exact oc g_mv<|oc (g_bn (fun uZ=>neq_i _ _ _ 0 0 _ uZ rfl)) on
 intro u2 HB2 sz2 K2
 simp only[sQ] at K2⊢
 clear K1 HB1
 go_upto_region 4 with fail
 refine rgP K2 HB2 HB2.size [] [] [(0,25,.slice sl ns.length cap),(1,26,.int .i64 (ns.length:Int)),(2,27,(Go.Value.int Go.IntKind.i64 0))] [] [] [] ?_ ?_
 ·exact oc g_mv<|oc (g_ln Tryz.underlying35)<|oc g_mv on
 intro u3 HB3 sz3 K3
 simp only[sQ] at K3⊢
 clear K2 HB2
 go_wp2_with fail
 go_loopw [27] (fun s27 wr=> ∃(k:Nat),k<=ns.length/\s27= .int .i64 (k:Int)/\Bw w wr/\CV wr (w.heap.size+1) (LN m)/\CV wr (w.heap.size+1+1) L0s/\CV wr b1_7 (LN (gat op (x%m) ns k))/\b1_7<wr.heap.size/\w.heap.size+1+1<wr.heap.size) (fun s27 _=>ns.length -(intOf s27).toNat)
 case atStart=>exact⟨0,by omega,rfl,HB3,(K3.cv 0),(K3.cv 1),(K3.cv 2),(K3.lt 2),(K3.lt 1)⟩
 case round=>
  obtain⟨k,hk,rfl,HBr,Km,Kr,Kg,lg,lr⟩:=hrel
  clear HB3
  have hnK:=K3.n
  simp at hnK
  have hoK2:=K3.lo 2
  by_cases hj:k<ns.length
  ·have hl:decide ((k:Int)<(ns.length:Int))=true:=by simp;omega
   have ik:=hI.out k hk
   have iy:=hn.out k hj
   have hC:=hT.out (gat op (x%m) ns k) (ns.getD k 0) ik iy
   have hC:Hid _:=hC
   have hX:=hix.out k hj
   have hX:Hid _:=hX
   have hR:=hS.out.at k hj
   have hR:Hid _:=hR
   have hlen:(k:Int)<1000:=by omega
   obtain⟨y,ey⟩: ∃y,ns.getD k 0=y:=⟨_,rfl⟩
   obtain⟨z,ez⟩: ∃z,gat op (x%m) ns k=z:=⟨_,rfl⟩
   rw[ey] at iy hR
   rw[ey,ez] at hC
   rw[ez] at ik Kg
   have EY:Hid _:=ey
   have EZ:Hid _:=ez
   clear ey ez
   have K3_1:Bk w.heap.size wr [(false,w.heap.size+1,LN m),(false,w.heap.size+1+1,L0s),(true,b1_7,LN z)]:=⟨.c (by omega) Km<| .c lr Kr<| .o lg (K3.lo 2) Kg<|trivial,by simp;omega⟩
   go_upto_region 5 with fail
   refine rgP K3_1 HBr HBr.size [] [] [(0,28,.bool true)] [] [] [] ?_ ?_
   ·exact oc (g_bn (fun uZ=>Zo _ _ (k:Int) (ns.length:Int) _ uZ hl)) on
   intro u4 HB4 sz4 K4
   simp only[sQ] at K4⊢
   go_upto_region 6 with fail
   refine rgP K4 HB4 HB4.size [] [(2,13,L0s,some (3,LN y))] [(0,29,.pointer (some ⟨gb,go+4*k,none⟩)),(1,30,NV y)] [(3,2)] [] [] ?_ ?_
   ·exact oc (g_ix (fun uZ=>hX.out uZ))<|oc (g_lf hR.out (hg.resolve_left (by omega)) uN iN)<|oc (g_al 0 aN)<|oc (g_sn 0 iN) on
   intro u5 b5_2 HB5 sz5 K5
   simp only[sQ] at K5⊢
   clear K4 HB4
   go_upto_region 7 with fail
   refine rgP K5 HB5 HB5.size [.no,.no,.all 8 (LN (op z y))] [] [(0,32,.func (.func N) #[] #[]),(1,33,NV z),(2,34,NV y),(3,35,NV m),(4,36,.tuple #[NV (op z y),.int .i64 0]),(5,31,.tuple #[NV (op z y),.int .i64 0]),(6,37,NV (op z y)),(7,38,.int .i64 0)] [(8,1)] [] [true,true,true,false] ?_ ?_
   ·exact oc g_mv<|oc (g_ld 2 uN iN)<|oc (g_ld 3 uN iN)<|oc (g_ld 0 uN iN)<|oc (g_cv (first:=[]) hN (fun fZ uZ kZ sZ=>hC.out uZ))<|oc g_mv<|oc g_ex<|oc g_ex<|oc (g_st 2 iN) on
   intro u6 HB6 sz6 K6
   simp only[sQ] at K6⊢
   clear K5 HB5
   go_upto_region 8 with fail
   refine rgP K6 HB6 HB6.size [] [] [(0,39,.int .i64 ((k+1:Nat):Int)),(1,27,.int .i64 ((k+1:Nat):Int))] [(1,0)] [(1,27)] [] ?_ ?_
   ·exact oc (g_bn (fun uZ=>Yq _ _ (k:Int) 1 ((k+1:Nat):Int) uZ (by omega) (by omega) (by omega)))<|oc g_mv on
   intro u7 HB7 sz7 K7
   simp only[sQ] at K7⊢
   clear K6 HB6
   go_wp2
   refine⟨⟨k+1,by omega,rfl,HB7,(K7.cv 0),(K7.cv 1),by rw[gat,EY.out,EZ.out];exact(K7.cv 2),(K7.lt 2),(K7.lt 1)⟩,?_⟩
   simp[intOf]<;>omega
  ·have hl:decide ((k:Int)<(ns.length:Int))=false:=by simp;omega
   have hkn:k=ns.length:=by omega
   have K3_1:Bk w.heap.size wr [(false,w.heap.size+1,LN m),(true,w.heap.size+1+1,L0s),(false,b1_7,LN (gat op (x%m) ns k))]:=⟨.c (by omega) Km<| .o lr (K3.lo 1) Kr<| .c lg Kg<|trivial,by simp;omega⟩
   go_upto_region 5 with fail
   refine rgP K3_1 HBr HBr.size [] [] [(0,28,.bool false)] [] [] [false] ?_ ?_
   ·exact oc (g_bn (fun uZ=>Zo _ _ (k:Int) (ns.length:Int) _ uZ hl)) on
   intro u4 HB4 sz4 K4
   simp only[sQ] at K4⊢
   go_upto_region 9 with fail
   refine rgP K4 HB4 HB4.size [.all 1 (LN (gat op (x%m) ns k))] [] [(0,40,NV (gat op (x%m) ns k)),(2,9,(Go.Value.int Go.IntKind.i64 0))] [] [] [true,false] ?_ ?_
   ·exact oc (g_ld 1 uN iN)<|oc (g_st 0 iN)<|oc g_as on
   intro u5 HB5 sz5 K5
   simp only[sQ] at K5⊢
   clear K4 HB4
   have c8:=(K5.cv 0).n4
   go_wp2
   refine bodyPost_ret (v:= .tuple #[NV (gat op (x%m) ns k),.int .i64 0]) (by simp[results,Tryz.results107,go_sem,c8]) rfl ⟨by rw[hkn],HB5⟩
theorem ent_mod_Mul'(vs:Array Value)(w:World):(callFunc 78 vs).run Tryz.prog w= .ok (.enter 78 vs) w:=by kernel_rfl
theorem mProduct(m:Int)(sl:Option Addr)(gb go cap:Nat)(ns:List Int)(w:World)(hns:ns.length<=50)(hm:In m)(h:m≠0)(hn:Hid (∀k,k<ns.length->In (ns.getD k 0)))(hix:Hid (∀j,j<ns.length-> ∀W,(Instr.indexAt 35 (.slice sl ns.length cap) (.int .i64 j)).run Tryz.prog W= .ok (.pointer (some ⟨gb,go+4*j,none⟩)) W))(hg:ns.length=0\/gb<w.heap.size)(hS:Hid (SN w gb go ns)):
 CC 75 #[NV m,.slice sl ns.length cap] w (.tuple #[NV (gat (fun a b=>(a*b)%m) (1%m) ns ns.length),.int .i64 0]):=by
 go_enter Tryz.func75,Tryz.ntmps75
 go_upto_region 1 with fail
 generalize hC:((w.alloc (.cells (LN m:List Value).toArray 24)).alloc (.cells (L0s:List Value).toArray 24))=v0 at *
 have HB0:Bw w v0:=by rw[<-hC];exact Z0 (Z0 (Z5 w) _) _
 have K0:Bk w.heap.size v0 [(true,w.heap.size,LN m),(true,w.heap.size+1,L0s)]:=by rw[<-hC];exact(Bk.nil _ w).ad.ad
 clear hC
 refine rgD K0 HB0 HB0.size [.no,.all 6 (LN (gat (fun a b=>(a*b)%m) (1%m) ns ns.length))] [] [(0,6,NV 1),(1,7,NV m),(2,8,.slice sl ns.length cap),(3,9,.tuple #[NV (gat (fun a b=>(a*b)%m) (1%m) ns ns.length),.int .i64 0]),(4,10,NV (gat (fun a b=>(a*b)%m) (1%m) ns ns.length)),(5,11,.int .i64 0),(7,5,.int .i64 0)] [] [] [false] ?_ ?_
 ·exact oc (g_cl Z9 (fun uZ=>nOf 1 uZ (by omega) (by omega)))<|oc (g_ld 0 uN iN)<|oc g_mv<|oc (g_cb ent_mod_gather (fun uZ bZ=>mgather 78 (fun a b=>(a*b)%m) 1 m sl gb go cap ns uZ hns In_1 hm h ent_mod_Mul' (fun a b ha hb u=>mMul a b m u ha hb hm h) (fun a b ha hb=>Zs hm h) hn hix (hg.imp id (fun h=>Nat.lt_of_lt_of_le h bZ.size)) (hS.out.below2 bZ hg)))<|oc g_ex<|oc g_ex<|oc (g_st 1 iN)<|oc g_as on
 intro u1 HB1 sz1 K1
 simp only[sQ] at K1⊢
 clear K0 HB0
 have c4:=(K1.cv 0).n4
 go_wp2
 refine bodyPost_ret (v:= .tuple #[NV (gat (fun a b=>(a*b)%m) (1%m) ns ns.length),.int .i64 0]) (by simp[results,Tryz.results75,go_sem,c4]) rfl ⟨rfl,HB1⟩
theorem bdw1'(w:World):(Instr.build 64 [(0,.int .u64 1)].toArray).run Tryz.prog w= .ok (WV 1) w:=by
 have e:WV 1=A8 1 0 0 0 0 0 0 0:=WV_of 1 1 0 0 0 0 0 0 0 ⟨by omega,by omega⟩ W_0 W_0 W_0 W_0 W_0 W_0 W_0 (by simp[V])
 have k:(Instr.build 64 [(0,.int .u64 1)].toArray).run Tryz.prog w= .ok (A8 1 0 0 0 0 0 0 0) w:=by kernel_rfl
 rw[e];exact k
theorem xProduct(m:Int)(sl:Option Addr)(gb go cap:Nat)(ns:List Int)(w:World)(hns:ns.length<=50)(hm:In m)(h:m≠0)(hn:Hid (∀k,k<ns.length->In (ns.getD k 0)))(hix:Hid (∀j,j<ns.length-> ∀W,(Instr.indexAt 35 (.slice sl ns.length cap) (.int .i64 j)).run Tryz.prog W= .ok (.pointer (some ⟨gb,go+4*j,none⟩)) W))(hg:ns.length=0\/gb<w.heap.size)(hS:Hid (SN w gb go ns)):
 CC 47 #[NV m,.slice sl ns.length cap] w (.tuple #[NV (gat (fun a b=>(a*b)%m) (1%m) ns ns.length),.int .i64 0]):=by
 have hI:Hid (∀k,k<=ns.length->In (gat (fun a b=>(a*b)%m) (1%m) ns k)):=gat_In (Zs hm h) (fun a b ha hb=>Zs hm h) hn.out
 go_enter Tryz.func47,Tryz.ntmps47
 go_upto_region 1 with fail
 generalize hC:((w.alloc (.cells (LN m:List Value).toArray 24)).alloc (.cells (L0s:List Value).toArray 24))=v0 at *
 have HB0:Bw w v0:=by rw[<-hC];exact Z0 (Z0 (Z5 w) _) _
 have K0:Bk w.heap.size v0 [(true,w.heap.size,LN m),(true,w.heap.size+1,L0s)]:=by rw[<-hC];exact(Bk.nil _ w).ad.ad
 clear hC
 refine rgP K0 HB0 HB0.size [] [(6,6,L0s,some (7,LN (1%m)))] [(0,10,WV 1),(1,11,NV m),(2,12,.tuple #[NV (1%m),.int .i64 0]),(3,9,.tuple #[NV (1%m),.int .i64 0]),(4,13,NV (1%m)),(5,14,.int .i64 0),(8,7,.int .i64 0)] [(7,6)] [] [] ?_ ?_
 ·exact oc (g_bd (fun uZ=>bdw1' uZ))<|oc (g_ld 0 uN iN)<|oc (g_cl Zr (fun uZ=>xReduce 1 m uZ In_1.wide hm h))<|oc g_mv<|oc g_ex<|oc g_ex<|oc (g_al 0 aN)<|oc (g_sn 0 iN)<|oc g_as on
 intro u1 b1_6 HB1 sz1 K1
 simp only[sQ] at K1⊢
 clear K0 HB0
 go_upto_region 2 with fail
 refine rgP K1 HB1 HB1.size [] [] [(0,8,(Go.Value.int Go.IntKind.i64 0))] [] [] [] ?_ ?_
 ·exact oc g_as on
 intro u2 HB2 sz2 K2
 simp only[sQ] at K2⊢
 clear K1 HB1
 go_wp2_with fail
 go_loopw [7,8] (fun s7 s8 wr=> ∃(k:Nat),k<=ns.length/\s7= .int .i64 0/\s8= .int .i64 (k:Int)/\Bw w wr/\CV wr (w.heap.size) (LN m)/\CV wr (w.heap.size+1) L0s/\CV wr b1_6 (LN (gat (fun a b=>(a*b)%m) (1%m) ns k))/\b1_6<wr.heap.size/\w.heap.size+1<wr.heap.size) (fun _ s8 _=>ns.length -(intOf s8).toNat)
 case atStart=>exact⟨0,by omega,rfl,rfl,HB2,(K2.cv 0),(K2.cv 1),(K2.cv 2),(K2.lt 2),(K2.lt 1)⟩
 case round=>
  obtain⟨k,hk,rfl,rfl,HBr,Km,Kr,Kg,lg,lr⟩:=hrel
  clear HB2
  have hnK:=K2.n
  simp at hnK
  have hoK2:=K2.lo 2
  by_cases hj:k<ns.length
  ·have hl:decide ((k:Int)<(ns.length:Int))=true:=by simp;omega
   have ik:=hI.out k hk
   have iy:=hn.out k hj
   have hX:=hix.out k hj
   have hX:Hid _:=hX
   have hR:=hS.out.at k hj
   have hR:Hid _:=hR
   have hlen:(k:Int)<1000:=by omega
   obtain⟨y,ey⟩: ∃y,ns.getD k 0=y:=⟨_,rfl⟩
   obtain⟨z,ez⟩: ∃z,gat (fun a b=>(a*b)%m) (1%m) ns k=z:=⟨_,rfl⟩
   rw[ey] at iy hR
   rw[ez] at ik Kg
   have EY:Hid _:=ey
   have EZ:Hid _:=ez
   clear ey ez
   have K2_1:Bk w.heap.size wr [(false,w.heap.size,LN m),(false,w.heap.size+1,L0s),(true,b1_6,LN z)]:=⟨.c (by omega) Km<| .c lr Kr<| .o lg (K2.lo 2) Kg<|trivial,by simp;omega⟩
   go_upto_region 3 with fail
   refine rgP K2_1 HBr HBr.size [] [] [(0,15,.int .i64 (k:Int)),(1,16,.slice sl ns.length cap),(2,17,.int .i64 (ns.length:Int)),(3,18,.bool true),(4,19,.bool true),(5,20,.int .i64 0),(6,21,.bool true),(7,22,.bool true)] [] [] [] ?_ ?_
   ·exact oc g_mv<|oc g_mv<|oc (g_ln Tryz.underlying35)<|oc (g_bn (fun uZ=>Zo _ _ (k:Int) (ns.length:Int) _ uZ hl))<|oc g_mv<|oc g_mv<|oc (g_bn (fun uZ=>eql_i _ _ _ 0 0 _ uZ rfl))<|oc g_pk on
   intro u3 HB3 sz3 K3
   simp only[sQ] at K3⊢
   go_upto_region 5 with fail
   refine rgD K3 HB3 HB3.size [.no,.no,.all 10 (LN ((z*y)%m))] [] [(0,26,NV z),(1,27,.slice sl ns.length cap),(2,28,.int .i64 (k:Int)),(3,29,.pointer (some ⟨gb,go+4*k,none⟩)),(4,30,NV y),(5,31,NV m),(6,32,.tuple #[NV ((z*y)%m),.int .i64 0]),(7,25,.tuple #[NV ((z*y)%m),.int .i64 0]),(8,33,NV ((z*y)%m)),(9,34,.int .i64 0),(11,7,.int .i64 0)] [(10,0)] [] [] ?_ ?_
   ·exact oc (g_ld 2 uN iN)<|oc g_mv<|oc g_mv<|oc (g_ix (fun uZ=>hX.out uZ))<|oc (g_lf hR.out (hg.resolve_left (by omega)) uN iN)<|oc (g_ld 0 uN iN)<|oc (g_cl Zm (fun uZ=>xMul z y m uZ ik iy hm h))<|oc g_mv<|oc g_ex<|oc g_ex<|oc (g_st 2 iN)<|oc g_as on
   intro u4 HB4 sz4 K4
   simp only[sQ] at K4⊢
   clear K3 HB3
   go_upto_region 4 with fail
   refine rgP K4 HB4 HB4.size [] [] [(0,23,.int .i64 (k:Int)),(1,24,.int .i64 ((k+1:Nat):Int)),(2,8,.int .i64 ((k+1:Nat):Int))] [(2,0)] [(2,8)] [] ?_ ?_
   ·exact oc g_mv<|oc (g_bn (fun uZ=>Yq _ _ (k:Int) 1 ((k+1:Nat):Int) uZ (by omega) (by omega) (by omega)))<|oc g_as on
   intro u5 HB5 sz5 K5
   simp only[sQ] at K5⊢
   clear K4 HB4
   go_wp2
   refine⟨⟨k+1,by omega,rfl,rfl,HB5,(K5.cv 0),(K5.cv 1),by rw[gat,EY.out,EZ.out];exact(K5.cv 2),(K5.lt 2),(K5.lt 1)⟩,?_⟩
   simp[intOf]<;>omega
  ·have hl:decide ((k:Int)<(ns.length:Int))=false:=by simp;omega
   have hkn:k=ns.length:=by omega
   have K2_1:Bk w.heap.size wr [(false,w.heap.size,LN m),(true,w.heap.size+1,L0s),(false,b1_6,LN (gat (fun a b=>(a*b)%m) (1%m) ns k))]:=⟨.c (by omega) Km<| .o lr (K2.lo 1) Kr<| .c lg Kg<|trivial,by simp;omega⟩
   go_upto_region 3 with fail
   refine rgP K2_1 HBr HBr.size [] [] [(0,15,.int .i64 (k:Int)),(1,16,.slice sl ns.length cap),(2,17,.int .i64 (ns.length:Int)),(3,18,.bool false),(4,19,.bool false),(5,20,undef),(6,21,undef),(7,22,(Go.Value.bool Bool.false))] [] [] [false] ?_ ?_
   ·exact oc g_mv<|oc g_mv<|oc (g_ln Tryz.underlying35)<|oc (g_bn (fun uZ=>Zo _ _ (k:Int) (ns.length:Int) _ uZ hl))<|oc g_mv<|oc g_sk<|oc g_sk<|oc g_pk on
   intro u3 HB3 sz3 K3
   simp only[sQ] at K3⊢
   go_upto_region 6 with fail
   refine rgP K3 HB3 HB3.size [.all 2 (LN (gat (fun a b=>(a*b)%m) (1%m) ns k))] [] [(0,35,NV (gat (fun a b=>(a*b)%m) (1%m) ns k)),(1,36,.int .i64 0),(3,5,.int .i64 0)] [] [] [true,false] ?_ ?_
   ·exact oc (g_ld 1 uN iN)<|oc g_mv<|oc (g_st 0 iN)<|oc g_as on
   intro u4 HB4 sz4 K4
   simp only[sQ] at K4⊢
   clear K3 HB3
   have c4:=(K4.cv 0).n4
   go_wp2
   refine bodyPost_ret (v:= .tuple #[NV (gat (fun a b=>(a*b)%m) (1%m) ns k),.int .i64 0]) (by simp[results,Tryz.results47,go_sem,c4]) rfl ⟨by rw[hkn],HB4⟩
theorem Zg:EnT 16:=fun _ _=>by kernel_rfl
theorem Zk:EnT 14:=fun _ _=>by kernel_rfl
theorem Yx:EnT 76:=fun _ _=>by kernel_rfl
theorem Wn:EnT 48:=fun _ _=>by kernel_rfl
theorem In_7:In 7:=⟨by omega,by omega⟩
def chE(p q:Int):Int:=if gOk p q then 0 else 90
theorem xchk_o(p q g h:Int)(w:World)(hp:In p)(hq:In q)(i2:In (q+q -115792089237316195423570985008687907853269984665640564039457584007913129639936))(h2:115792089237316195423570985008687907853269984665640564039457584007913129639936<=q+q):
 CC 16 #[GX p q g h] w (.int .i64 90):=by
 go_enter Tryz.func16,Tryz.ntmps16
 go_upto_region 1 with fail
 generalize hC:(w.alloc (.cells (GE p q g h:List Value).toArray 26))=v0 at *
 have HB0:Bw w v0:=by rw[<-hC];exact Z0 (Z5 w) _
 have K0:Bk w.heap.size v0 [(true,w.heap.size,GE p q g h)]:=by rw[<-hC];exact(Bk.nil _ w).ad
 clear hC
 refine rgP K0 HB0 HB0.size [] [(8,3,L0s,some (9,LN (q+q -115792089237316195423570985008687907853269984665640564039457584007913129639936)))] [(0,8,.pointer (some ⟨w.heap.size,4,none⟩)),(1,9,NV q),(2,10,.pointer (some ⟨w.heap.size,4,none⟩)),(3,11,NV q),(4,12,.tuple #[NV (q+q -115792089237316195423570985008687907853269984665640564039457584007913129639936),.bool true]),(5,7,.tuple #[NV (q+q -115792089237316195423570985008687907853269984665640564039457584007913129639936),.bool true]),(6,13,NV (q+q -115792089237316195423570985008687907853269984665640564039457584007913129639936)),(7,14,.bool true),(10,4,.bool true)] [(9,8)] [] [false] ?_ ?_
 ·exact oc (g_fd (fun uZ=>fdG1 _ uZ))<|oc (g_lo 0 4 uN iN)<|oc (g_fd (fun uZ=>fdG1 _ uZ))<|oc (g_lo 0 4 uN iN)<|oc (g_cl Zf (fun uZ=>nrAdd_ge q q uZ hq hq h2))<|oc g_mv<|oc g_ex<|oc g_ex<|oc (g_al 0 aN)<|oc (g_sn 0 iN)<|oc g_as on
 intro u1 b1_8 HB1 sz1 K1
 simp only[sQ] at K1⊢
 clear K0 HB0
 go_upto_region 2 with fail
 refine rgP K1 HB1 HB1.size [] [(6,5,L0s,some (7,LN (q+q -115792089237316195423570985008687907853269984665640564039457584007913129639936+1)))] [(0,16,NV (q+q -115792089237316195423570985008687907853269984665640564039457584007913129639936)),(1,17,NV 1),(2,18,.tuple #[NV (q+q -115792089237316195423570985008687907853269984665640564039457584007913129639936+1),.bool (ovB (q+q -115792089237316195423570985008687907853269984665640564039457584007913129639936) 1)]),(3,15,.tuple #[NV (q+q -115792089237316195423570985008687907853269984665640564039457584007913129639936+1),.bool (ovB (q+q -115792089237316195423570985008687907853269984665640564039457584007913129639936) 1)]),(4,19,NV (q+q -115792089237316195423570985008687907853269984665640564039457584007913129639936+1)),(5,20,.bool (ovB (q+q -115792089237316195423570985008687907853269984665640564039457584007913129639936) 1)),(8,6,.bool (ovB (q+q -115792089237316195423570985008687907853269984665640564039457584007913129639936) 1))] [(7,6)] [] [false,false] ?_ ?_
 ·exact oc (g_ld 0 uN iN)<|oc (g_bd (fun uZ=>bdX 1 (by omega) (by omega) uZ))<|oc (g_cl Zf (fun uZ=>nrAdd (q+q -115792089237316195423570985008687907853269984665640564039457584007913129639936) 1 uZ i2 In_1))<|oc g_mv<|oc g_ex<|oc g_ex<|oc (g_al 0 aN)<|oc (g_sn 0 iN)<|oc g_as on
 intro u2 b2_6 HB2 sz2 K2
 simp only[sQ] at K2⊢
 clear K1 HB1
 go_upto_region 3 with fail
 refine rgP K2 HB2 HB2.size [] [] [(0,21,.bool true),(1,22,.bool true),(2,23,undef),(3,24,(Go.Value.bool Bool.true)),(4,25,(Go.Value.bool Bool.true)),(5,26,undef),(6,27,undef),(7,28,undef),(8,29,undef),(9,30,(Go.Value.bool Bool.true)),(10,31,(Go.Value.bool Bool.true)),(11,32,undef),(12,33,undef),(13,34,undef),(14,35,undef),(15,36,undef),(16,37,(Go.Value.bool Bool.true)),(17,38,(Go.Value.bool Bool.true)),(18,39,undef),(19,40,undef),(20,41,undef),(21,42,undef),(22,43,undef),(23,44,(Go.Value.bool Bool.true))] [] [] [] ?_ ?_
 ·exact oc g_mv<|oc g_mv<|oc g_sk<|oc g_pk<|oc g_mv<|oc g_sk<|oc g_sk<|oc g_sk<|oc g_sk<|oc g_pk<|oc g_mv<|oc g_sk<|oc g_sk<|oc g_sk<|oc g_sk<|oc g_sk<|oc g_pk<|oc g_mv<|oc g_sk<|oc g_sk<|oc g_sk<|oc g_sk<|oc g_sk<|oc g_pk on
 intro u3 HB3 sz3 K3
 simp only[sQ] at K3⊢
 clear K2 HB2
 go_upto_region 4 with fail
 refine rgP K3 HB3 HB3.size [] [] [(0,2,(Go.Value.int Go.IntKind.i64 90))] [] [] [] ?_ ?_
 ·exact oc g_as on
 intro u4 HB4 sz4 K4
 simp only[sQ] at K4⊢
 clear K3 HB3
 go_wp2
 refine bodyPost_ret (v:= .int .i64 90) (by simp[results,Tryz.results16,go_sem,]) rfl ⟨rfl,HB4⟩
theorem xchk_n(p q g h:Int)(w:World)(hp:In p)(hq:In q)(i2:In (q+q))(i3:In (q+q+1))(d0:0<=D0 p)(d1:D0 p<18446744073709551616)(h2:q+q<115792089237316195423570985008687907853269984665640564039457584007913129639936)(h3:q+q+1<115792089237316195423570985008687907853269984665640564039457584007913129639936)(h4:decide (q+q+1=p)=!true):
 CC 16 #[GX p q g h] w (.int .i64 90):=by
 go_enter Tryz.func16,Tryz.ntmps16
 go_upto_region 1 with fail
 generalize hC:(w.alloc (.cells (GE p q g h:List Value).toArray 26))=v0 at *
 have HB0:Bw w v0:=by rw[<-hC];exact Z0 (Z5 w) _
 have K0:Bk w.heap.size v0 [(true,w.heap.size,GE p q g h)]:=by rw[<-hC];exact(Bk.nil _ w).ad
 clear hC
 refine rgP K0 HB0 HB0.size [] [(8,3,L0s,some (9,LN (q+q)))] [(0,8,.pointer (some ⟨w.heap.size,4,none⟩)),(1,9,NV q),(2,10,.pointer (some ⟨w.heap.size,4,none⟩)),(3,11,NV q),(4,12,.tuple #[NV (q+q),.bool false]),(5,7,.tuple #[NV (q+q),.bool false]),(6,13,NV (q+q)),(7,14,.bool false),(10,4,.bool false)] [(9,8)] [] [] ?_ ?_
 ·exact oc (g_fd (fun uZ=>fdG1 _ uZ))<|oc (g_lo 0 4 uN iN)<|oc (g_fd (fun uZ=>fdG1 _ uZ))<|oc (g_lo 0 4 uN iN)<|oc (g_cl Zf (fun uZ=>Vj q q uZ hq hq h2))<|oc g_mv<|oc g_ex<|oc g_ex<|oc (g_al 0 aN)<|oc (g_sn 0 iN)<|oc g_as on
 intro u1 b1_8 HB1 sz1 K1
 simp only[sQ] at K1⊢
 clear K0 HB0
 go_upto_region 2 with fail
 refine rgP K1 HB1 HB1.size [] [(6,5,L0s,some (7,LN (q+q+1)))] [(0,16,NV (q+q)),(1,17,NV 1),(2,18,.tuple #[NV (q+q+1),.bool false]),(3,15,.tuple #[NV (q+q+1),.bool false]),(4,19,NV (q+q+1)),(5,20,.bool false),(8,6,.bool false)] [(7,6)] [] [true,false] ?_ ?_
 ·exact oc (g_ld 1 uN iN)<|oc (g_bd (fun uZ=>bdX 1 (by omega) (by omega) uZ))<|oc (g_cl Zf (fun uZ=>Vj (q+q) 1 uZ i2 In_1 h3))<|oc g_mv<|oc g_ex<|oc g_ex<|oc (g_al 0 aN)<|oc (g_sn 0 iN)<|oc g_as on
 intro u2 b2_6 HB2 sz2 K2
 simp only[sQ] at K2⊢
 clear K1 HB1
 go_upto_region 3 with fail
 refine rgP K2 HB2 HB2.size [] [] [(0,21,.bool false),(1,22,.bool false),(2,23,.bool false),(3,24,.bool false),(4,25,.bool false),(5,26,NV (q+q+1)),(6,27,.pointer (some ⟨w.heap.size,0,none⟩)),(7,28,NV p),(8,29,.bool true),(9,30,.bool true),(10,31,.bool true),(11,32,undef),(12,33,undef),(13,34,undef),(14,35,undef),(15,36,undef),(16,37,(Go.Value.bool Bool.true)),(17,38,(Go.Value.bool Bool.true)),(18,39,undef),(19,40,undef),(20,41,undef),(21,42,undef),(22,43,undef),(23,44,(Go.Value.bool Bool.true))] [] [] [false,false] ?_ ?_
 ·exact oc g_mv<|oc g_mv<|oc g_mv<|oc g_pk<|oc g_mv<|oc (g_ld 1 uN iN)<|oc (g_fd (fun uZ=>fdG0 _ uZ))<|oc (g_lo 0 0 uN iN)<|oc (g_bn (fun uZ=>neq_n _ _ i3 hp _ h4 uZ))<|oc g_pk<|oc g_mv<|oc g_sk<|oc g_sk<|oc g_sk<|oc g_sk<|oc g_sk<|oc g_pk<|oc g_mv<|oc g_sk<|oc g_sk<|oc g_sk<|oc g_sk<|oc g_sk<|oc g_pk on
 intro u3 HB3 sz3 K3
 simp only[sQ] at K3⊢
 clear K2 HB2
 go_upto_region 4 with fail
 refine rgP K3 HB3 HB3.size [] [] [(0,2,(Go.Value.int Go.IntKind.i64 90))] [] [] [] ?_ ?_
 ·exact oc g_as on
 intro u4 HB4 sz4 K4
 simp only[sQ] at K4⊢
 clear K3 HB3
 go_wp2
 refine bodyPost_ret (v:= .int .i64 90) (by simp[results,Tryz.results16,go_sem,]) rfl ⟨rfl,HB4⟩
theorem xchk_7(p q g h:Int)(w:World)(hp:In p)(hq:In q)(i2:In (q+q))(i3:In (q+q+1))(d0:0<=D0 p)(d1:D0 p<18446744073709551616)(h2:q+q<115792089237316195423570985008687907853269984665640564039457584007913129639936)(h3:q+q+1<115792089237316195423570985008687907853269984665640564039457584007913129639936)(h4:decide (q+q+1=p)=!false)(h5:decide (cmpI p 7<0)=true):
 CC 16 #[GX p q g h] w (.int .i64 90):=by
 go_enter Tryz.func16,Tryz.ntmps16
 go_upto_region 1 with fail
 generalize hC:(w.alloc (.cells (GE p q g h:List Value).toArray 26))=v0 at *
 have HB0:Bw w v0:=by rw[<-hC];exact Z0 (Z5 w) _
 have K0:Bk w.heap.size v0 [(true,w.heap.size,GE p q g h)]:=by rw[<-hC];exact(Bk.nil _ w).ad
 clear hC
 refine rgP K0 HB0 HB0.size [] [(8,3,L0s,some (9,LN (q+q)))] [(0,8,.pointer (some ⟨w.heap.size,4,none⟩)),(1,9,NV q),(2,10,.pointer (some ⟨w.heap.size,4,none⟩)),(3,11,NV q),(4,12,.tuple #[NV (q+q),.bool false]),(5,7,.tuple #[NV (q+q),.bool false]),(6,13,NV (q+q)),(7,14,.bool false),(10,4,.bool false)] [(9,8)] [] [] ?_ ?_
 ·exact oc (g_fd (fun uZ=>fdG1 _ uZ))<|oc (g_lo 0 4 uN iN)<|oc (g_fd (fun uZ=>fdG1 _ uZ))<|oc (g_lo 0 4 uN iN)<|oc (g_cl Zf (fun uZ=>Vj q q uZ hq hq h2))<|oc g_mv<|oc g_ex<|oc g_ex<|oc (g_al 0 aN)<|oc (g_sn 0 iN)<|oc g_as on
 intro u1 b1_8 HB1 sz1 K1
 simp only[sQ] at K1⊢
 clear K0 HB0
 go_upto_region 2 with fail
 refine rgP K1 HB1 HB1.size [] [(6,5,L0s,some (7,LN (q+q+1)))] [(0,16,NV (q+q)),(1,17,NV 1),(2,18,.tuple #[NV (q+q+1),.bool false]),(3,15,.tuple #[NV (q+q+1),.bool false]),(4,19,NV (q+q+1)),(5,20,.bool false),(8,6,.bool false)] [(7,6)] [] [true,false] ?_ ?_
 ·exact oc (g_ld 1 uN iN)<|oc (g_bd (fun uZ=>bdX 1 (by omega) (by omega) uZ))<|oc (g_cl Zf (fun uZ=>Vj (q+q) 1 uZ i2 In_1 h3))<|oc g_mv<|oc g_ex<|oc g_ex<|oc (g_al 0 aN)<|oc (g_sn 0 iN)<|oc g_as on
 intro u2 b2_6 HB2 sz2 K2
 simp only[sQ] at K2⊢
 clear K1 HB1
 go_upto_region 3 with fail
 refine rgP K2 HB2 HB2.size [] [] [(0,21,.bool false),(1,22,.bool false),(2,23,.bool false),(3,24,.bool false),(4,25,.bool false),(5,26,NV (q+q+1)),(6,27,.pointer (some ⟨w.heap.size,0,none⟩)),(7,28,NV p),(8,29,.bool false),(9,30,.bool false),(10,31,.bool false),(11,32,.pointer (some ⟨w.heap.size,0,none⟩)),(12,33,NV p),(13,34,NV 7),(14,35,.int .i64 (cmpI p 7)),(15,36,.bool true),(16,37,.bool true),(17,38,.bool true),(18,39,undef),(19,40,undef),(20,41,undef),(21,42,undef),(22,43,undef),(23,44,(Go.Value.bool Bool.true))] [] [] [false,false] ?_ ?_
 ·exact oc g_mv<|oc g_mv<|oc g_mv<|oc g_pk<|oc g_mv<|oc (g_ld 1 uN iN)<|oc (g_fd (fun uZ=>fdG0 _ uZ))<|oc (g_lo 0 0 uN iN)<|oc (g_bn (fun uZ=>neq_n _ _ i3 hp _ h4 uZ))<|oc g_pk<|oc g_mv<|oc (g_fd (fun uZ=>fdG0 _ uZ))<|oc (g_lo 0 0 uN iN)<|oc (g_bd (fun uZ=>bdX 7 (by omega) (by omega) uZ))<|oc (g_cl Zh (fun uZ=>V2 p 7 uZ hp In_7))<|oc (g_bn (fun uZ=>Zo _ _ (cmpI p 7) 0 _ uZ h5))<|oc g_pk<|oc g_mv<|oc g_sk<|oc g_sk<|oc g_sk<|oc g_sk<|oc g_sk<|oc g_pk on
 intro u3 HB3 sz3 K3
 simp only[sQ] at K3⊢
 clear K2 HB2
 go_upto_region 4 with fail
 refine rgP K3 HB3 HB3.size [] [] [(0,2,(Go.Value.int Go.IntKind.i64 90))] [] [] [] ?_ ?_
 ·exact oc g_as on
 intro u4 HB4 sz4 K4
 simp only[sQ] at K4⊢
 clear K3 HB3
 go_wp2
 refine bodyPost_ret (v:= .int .i64 90) (by simp[results,Tryz.results16,go_sem,]) rfl ⟨rfl,HB4⟩
theorem xchk_k(p q g h:Int)(w:World)(hp:In p)(hq:In q)(i2:In (q+q))(i3:In (q+q+1))(d0:0<=D0 p)(d1:D0 p<18446744073709551616)(h2:q+q<115792089237316195423570985008687907853269984665640564039457584007913129639936)(h3:q+q+1<115792089237316195423570985008687907853269984665640564039457584007913129639936)(h4:decide (q+q+1=p)=!false)(h5:decide (cmpI p 7<0)=false)(h6:(D0 p%2==0)=false):
 CC 16 #[GX p q g h] w (.int .i64 0):=by
 go_enter Tryz.func16,Tryz.ntmps16
 go_upto_region 1 with fail
 generalize hC:(w.alloc (.cells (GE p q g h:List Value).toArray 26))=v0 at *
 have HB0:Bw w v0:=by rw[<-hC];exact Z0 (Z5 w) _
 have K0:Bk w.heap.size v0 [(true,w.heap.size,GE p q g h)]:=by rw[<-hC];exact(Bk.nil _ w).ad
 clear hC
 refine rgP K0 HB0 HB0.size [] [(8,3,L0s,some (9,LN (q+q)))] [(0,8,.pointer (some ⟨w.heap.size,4,none⟩)),(1,9,NV q),(2,10,.pointer (some ⟨w.heap.size,4,none⟩)),(3,11,NV q),(4,12,.tuple #[NV (q+q),.bool false]),(5,7,.tuple #[NV (q+q),.bool false]),(6,13,NV (q+q)),(7,14,.bool false),(10,4,.bool false)] [(9,8)] [] [] ?_ ?_
 ·exact oc (g_fd (fun uZ=>fdG1 _ uZ))<|oc (g_lo 0 4 uN iN)<|oc (g_fd (fun uZ=>fdG1 _ uZ))<|oc (g_lo 0 4 uN iN)<|oc (g_cl Zf (fun uZ=>Vj q q uZ hq hq h2))<|oc g_mv<|oc g_ex<|oc g_ex<|oc (g_al 0 aN)<|oc (g_sn 0 iN)<|oc g_as on
 intro u1 b1_8 HB1 sz1 K1
 simp only[sQ] at K1⊢
 clear K0 HB0
 go_upto_region 2 with fail
 refine rgP K1 HB1 HB1.size [] [(6,5,L0s,some (7,LN (q+q+1)))] [(0,16,NV (q+q)),(1,17,NV 1),(2,18,.tuple #[NV (q+q+1),.bool false]),(3,15,.tuple #[NV (q+q+1),.bool false]),(4,19,NV (q+q+1)),(5,20,.bool false),(8,6,.bool false)] [(7,6)] [] [true,false] ?_ ?_
 ·exact oc (g_ld 1 uN iN)<|oc (g_bd (fun uZ=>bdX 1 (by omega) (by omega) uZ))<|oc (g_cl Zf (fun uZ=>Vj (q+q) 1 uZ i2 In_1 h3))<|oc g_mv<|oc g_ex<|oc g_ex<|oc (g_al 0 aN)<|oc (g_sn 0 iN)<|oc g_as on
 intro u2 b2_6 HB2 sz2 K2
 simp only[sQ] at K2⊢
 clear K1 HB1
 go_upto_region 3 with fail
 refine rgP K2 HB2 HB2.size [] [] [(0,21,.bool false),(1,22,.bool false),(2,23,.bool false),(3,24,.bool false),(4,25,.bool false),(5,26,NV (q+q+1)),(6,27,.pointer (some ⟨w.heap.size,0,none⟩)),(7,28,NV p),(8,29,.bool false),(9,30,.bool false),(10,31,.bool false),(11,32,.pointer (some ⟨w.heap.size,0,none⟩)),(12,33,NV p),(13,34,NV 7),(14,35,.int .i64 (cmpI p 7)),(15,36,.bool false),(16,37,.bool false),(17,38,.bool false),(18,39,.pointer (some ⟨w.heap.size,0,none⟩)),(19,40,.pointer (some ⟨w.heap.size,0,none⟩)),(20,41,.int .u64 (D0 p)),(21,42,.int .u64 (D0 p%2)),(22,43,.bool false),(23,44,.bool false)] [] [] [false,false] ?_ ?_
 ·exact oc g_mv<|oc g_mv<|oc g_mv<|oc g_pk<|oc g_mv<|oc (g_ld 1 uN iN)<|oc (g_fd (fun uZ=>fdG0 _ uZ))<|oc (g_lo 0 0 uN iN)<|oc (g_bn (fun uZ=>neq_n _ _ i3 hp _ h4 uZ))<|oc g_pk<|oc g_mv<|oc (g_fd (fun uZ=>fdG0 _ uZ))<|oc (g_lo 0 0 uN iN)<|oc (g_bd (fun uZ=>bdX 7 (by omega) (by omega) uZ))<|oc (g_cl Zh (fun uZ=>V2 p 7 uZ hp In_7))<|oc (g_bn (fun uZ=>Zo _ _ (cmpI p 7) 0 _ uZ h5))<|oc g_pk<|oc g_mv<|oc (g_fd (fun uZ=>fdG0 _ uZ))<|oc (g_ix (jN 0))<|oc (g_lc 0 0 lU)<|oc (g_bn (fun uZ=>rem_u _ _ (D0 p) 2 (D0 p%2) uZ d0 d1 (by omega) rfl))<|oc (g_bn (fun uZ=>eql_u _ _ _ (D0 p%2) 0 _ uZ h6))<|oc g_pk on
 intro u3 HB3 sz3 K3
 simp only[sQ] at K3⊢
 clear K2 HB2
 go_upto_region 5 with fail
 refine rgP K3 HB3 HB3.size [] [] [(0,2,(Go.Value.int Go.IntKind.i64 0))] [] [] [] ?_ ?_
 ·exact oc g_as on
 intro u4 HB4 sz4 K4
 simp only[sQ] at K4⊢
 clear K3 HB3
 go_wp2
 refine bodyPost_ret (v:= .int .i64 0) (by simp[results,Tryz.results16,go_sem,]) rfl ⟨rfl,HB4⟩
theorem xCheckG(p q g h:Int)(w:World)(hp:In p)(hq:In q):CC 16 #[GX p q g h] w (.int .i64 (chE p q)):=by
 have hq0:=hq.1
 have hq1:=hq.2
 have hp1:=hp.2
 have e90: ¬(p=2*q+1/\7<=p)->chE p q=90:=fun h=>if_neg h
 have e0:(p=2*q+1/\7<=p)->chE p q=0:=fun h=>if_pos h
 by_cases h2:115792089237316195423570985008687907853269984665640564039457584007913129639936<=q+q
 ·rw[e90 (by omega)]
  exact xchk_o p q g h w hp hq ⟨by omega,by omega⟩ h2
 have hd:0<=D0 p/\D0 p<18446744073709551616:=by unfold D0;omega
 have i2:In (q+q):=⟨by omega,by omega⟩
 have i3:In (q+q+1):=⟨by omega,by omega⟩
 by_cases h4:q+q+1=p
 ·have h4':decide (q+q+1=p)=!false:=by simp[h4]
  by_cases h7:p<7
  ·rw[e90 (by omega)]
   exact xchk_7 p q g h w hp hq i2 i3 hd.1 hd.2 (by omega) (by omega) h4' (by rw[cmp_lt0];simp only[h7,decide_true])
  ·rw[e0 (by omega)]
   exact xchk_k p q g h w hp hq i2 i3 hd.1 hd.2 (by omega) (by omega) h4' (by rw[cmp_lt0];simp only[h7,decide_false]) (by rw[D0_odd];simp;omega)
 ·rw[e90 (by omega)]
  exact xchk_n p q g h w hp hq i2 i3 hd.1 hd.2 (by omega) (by omega) (by simp[h4])
theorem xis_c(p q g h x:Int)(w:World)(hp:In p)(hq:In q)(hx:In x)(hC:Hid (∀u,CC 16 #[GX p q g h] u (.int .i64 90))):
 CC 14 #[GX p q g h,NV x] w (.bool false):=by
 go_enter Tryz.func14,Tryz.ntmps14
 go_upto_region 1 with fail
 generalize hC:((w.alloc (.cells (GE p q g h:List Value).toArray 26)).alloc (.cells (LN x:List Value).toArray 24))=v0 at *
 have HB0:Bw w v0:=by rw[<-hC];exact Z0 (Z0 (Z5 w) _) _
 have K0:Bk w.heap.size v0 [(true,w.heap.size,GE p q g h),(true,w.heap.size+1,LN x)]:=by rw[<-hC];exact(Bk.nil _ w).ad.ad
 clear hC
 refine rgP K0 HB0 HB0.size [] [] [(0,7,GX p q g h),(1,8,.int .i64 90),(2,9,.bool true),(3,10,.bool true),(4,11,undef),(5,12,undef),(6,13,undef),(7,14,(Go.Value.bool Bool.true)),(8,15,(Go.Value.bool Bool.true)),(9,16,undef),(10,17,undef),(11,18,undef),(12,19,undef),(13,20,undef),(14,21,(Go.Value.bool Bool.true))] [] [] [false,false] ?_ ?_
 ·exact oc (g_ld 0 Tryz.underlying26 Z1)<|oc (g_cl Zg (fun uZ=>hC.out uZ))<|oc (g_bn (fun uZ=>neq_i _ _ _ 90 0 _ uZ rfl))<|oc g_mv<|oc g_sk<|oc g_sk<|oc g_sk<|oc g_pk<|oc g_mv<|oc g_sk<|oc g_sk<|oc g_sk<|oc g_sk<|oc g_sk<|oc g_pk on
 intro u1 HB1 sz1 K1
 simp only[sQ] at K1⊢
 clear K0 HB0
 go_upto_region 2 with fail
 refine rgP K1 HB1 HB1.size [] [] [(0,4,(Go.Value.bool Bool.false))] [] [] [] ?_ ?_
 ·exact oc g_as on
 intro u2 HB2 sz2 K2
 simp only[sQ] at K2⊢
 clear K1 HB1
 go_wp2
 refine bodyPost_ret (v:= .bool false) (by simp[results,Tryz.results14,go_sem,]) rfl ⟨rfl,HB2⟩
theorem xis_z(p q g h x:Int)(w:World)(hp:In p)(hq:In q)(hx:In x)(hC:Hid (∀u,CC 16 #[GX p q g h] u (.int .i64 0)))(h1:decide (x=0)=true):
 CC 14 #[GX p q g h,NV x] w (.bool false):=by
 go_enter Tryz.func14,Tryz.ntmps14
 go_upto_region 1 with fail
 generalize hC:((w.alloc (.cells (GE p q g h:List Value).toArray 26)).alloc (.cells (LN x:List Value).toArray 24))=v0 at *
 have HB0:Bw w v0:=by rw[<-hC];exact Z0 (Z0 (Z5 w) _) _
 have K0:Bk w.heap.size v0 [(true,w.heap.size,GE p q g h),(true,w.heap.size+1,LN x)]:=by rw[<-hC];exact(Bk.nil _ w).ad.ad
 clear hC
 refine rgP K0 HB0 HB0.size [] [] [(0,7,GX p q g h),(1,8,.int .i64 0),(2,9,.bool false),(3,10,.bool false),(4,11,NV x),(5,12,A4 (0) (0) (0) (0)),(6,13,.bool true),(7,14,.bool true),(8,15,.bool true),(9,16,undef),(10,17,undef),(11,18,undef),(12,19,undef),(13,20,undef),(14,21,(Go.Value.bool Bool.true))] [] [] [false,false] ?_ ?_
 ·exact oc (g_ld 0 Tryz.underlying26 Z1)<|oc (g_cl Zg (fun uZ=>hC.out uZ))<|oc (g_bn (fun uZ=>neq_i _ _ _ 0 0 _ uZ rfl))<|oc g_mv<|oc (g_ld 1 uN iN)<|oc (g_bd zN)<|oc (g_bn (fun uZ=>Ux _ _ hx _ h1 uZ))<|oc g_pk<|oc g_mv<|oc g_sk<|oc g_sk<|oc g_sk<|oc g_sk<|oc g_sk<|oc g_pk on
 intro u1 HB1 sz1 K1
 simp only[sQ] at K1⊢
 clear K0 HB0
 go_upto_region 2 with fail
 refine rgP K1 HB1 HB1.size [] [] [(0,4,(Go.Value.bool Bool.false))] [] [] [] ?_ ?_
 ·exact oc g_as on
 intro u2 HB2 sz2 K2
 simp only[sQ] at K2⊢
 clear K1 HB1
 go_wp2
 refine bodyPost_ret (v:= .bool false) (by simp[results,Tryz.results14,go_sem,]) rfl ⟨rfl,HB2⟩
theorem xis_h(p q g h x:Int)(w:World)(hp:In p)(hq:In q)(hx:In x)(hC:Hid (∀u,CC 16 #[GX p q g h] u (.int .i64 0)))(h1:decide (x=0)=false)(h2:decide (0<=cmpI x p)=true):
 CC 14 #[GX p q g h,NV x] w (.bool false):=by
 go_enter Tryz.func14,Tryz.ntmps14
 go_upto_region 1 with fail
 generalize hC:((w.alloc (.cells (GE p q g h:List Value).toArray 26)).alloc (.cells (LN x:List Value).toArray 24))=v0 at *
 have HB0:Bw w v0:=by rw[<-hC];exact Z0 (Z0 (Z5 w) _) _
 have K0:Bk w.heap.size v0 [(true,w.heap.size,GE p q g h),(true,w.heap.size+1,LN x)]:=by rw[<-hC];exact(Bk.nil _ w).ad.ad
 clear hC
 refine rgP K0 HB0 HB0.size [] [] [(0,7,GX p q g h),(1,8,.int .i64 0),(2,9,.bool false),(3,10,.bool false),(4,11,NV x),(5,12,A4 (0) (0) (0) (0)),(6,13,.bool false),(7,14,.bool false),(8,15,.bool false),(9,16,NV x),(10,17,.pointer (some ⟨w.heap.size,0,none⟩)),(11,18,NV p),(12,19,.int .i64 (cmpI x p)),(13,20,.bool true),(14,21,.bool true)] [] [] [false,false] ?_ ?_
 ·exact oc (g_ld 0 Tryz.underlying26 Z1)<|oc (g_cl Zg (fun uZ=>hC.out uZ))<|oc (g_bn (fun uZ=>neq_i _ _ _ 0 0 _ uZ rfl))<|oc g_mv<|oc (g_ld 1 uN iN)<|oc (g_bd zN)<|oc (g_bn (fun uZ=>Ux _ _ hx _ h1 uZ))<|oc g_pk<|oc g_mv<|oc (g_ld 1 uN iN)<|oc (g_fd (fun uZ=>fdG0 _ uZ))<|oc (g_lo 0 0 uN iN)<|oc (g_cl Zh (fun uZ=>V2 x p uZ hx hp))<|oc (g_bn (fun uZ=>geq_i _ _ (cmpI x p) 0 _ uZ h2))<|oc g_pk on
 intro u1 HB1 sz1 K1
 simp only[sQ] at K1⊢
 clear K0 HB0
 go_upto_region 2 with fail
 refine rgP K1 HB1 HB1.size [] [] [(0,4,(Go.Value.bool Bool.false))] [] [] [] ?_ ?_
 ·exact oc g_as on
 intro u2 HB2 sz2 K2
 simp only[sQ] at K2⊢
 clear K1 HB1
 go_wp2
 refine bodyPost_ret (v:= .bool false) (by simp[results,Tryz.results14,go_sem,]) rfl ⟨rfl,HB2⟩
theorem xis_g(p q g h x:Int)(w:World)(hp:In p)(hq:In q)(hx:In x)(hC:Hid (∀u,CC 16 #[GX p q g h] u (.int .i64 0)))(b:Bool)(h1:decide (x=0)=false)(h2:decide (0<=cmpI x p)=false)(hp0:p≠0)(h3:decide (x^q.toNat%p=1)=b):
 CC 14 #[GX p q g h,NV x] w (.bool b):=by
 go_enter Tryz.func14,Tryz.ntmps14
 go_upto_region 1 with fail
 generalize hC:((w.alloc (.cells (GE p q g h:List Value).toArray 26)).alloc (.cells (LN x:List Value).toArray 24))=v0 at *
 have HB0:Bw w v0:=by rw[<-hC];exact Z0 (Z0 (Z5 w) _) _
 have K0:Bk w.heap.size v0 [(true,w.heap.size,GE p q g h),(true,w.heap.size+1,LN x)]:=by rw[<-hC];exact(Bk.nil _ w).ad.ad
 clear hC
 refine rgP K0 HB0 HB0.size [] [] [(0,7,GX p q g h),(1,8,.int .i64 0),(2,9,.bool false),(3,10,.bool false),(4,11,NV x),(5,12,A4 (0) (0) (0) (0)),(6,13,.bool false),(7,14,.bool false),(8,15,.bool false),(9,16,NV x),(10,17,.pointer (some ⟨w.heap.size,0,none⟩)),(11,18,NV p),(12,19,.int .i64 (cmpI x p)),(13,20,.bool false),(14,21,.bool false)] [] [] [] ?_ ?_
 ·exact oc (g_ld 0 Tryz.underlying26 Z1)<|oc (g_cl Zg (fun uZ=>hC.out uZ))<|oc (g_bn (fun uZ=>neq_i _ _ _ 0 0 _ uZ rfl))<|oc g_mv<|oc (g_ld 1 uN iN)<|oc (g_bd zN)<|oc (g_bn (fun uZ=>Ux _ _ hx _ h1 uZ))<|oc g_pk<|oc g_mv<|oc (g_ld 1 uN iN)<|oc (g_fd (fun uZ=>fdG0 _ uZ))<|oc (g_lo 0 0 uN iN)<|oc (g_cl Zh (fun uZ=>V2 x p uZ hx hp))<|oc (g_bn (fun uZ=>geq_i _ _ (cmpI x p) 0 _ uZ h2))<|oc g_pk on
 intro u1 HB1 sz1 K1
 simp only[sQ] at K1⊢
 clear K0 HB0
 go_upto_region 3 with fail
 refine rgP K1 HB1 HB1.size [] [(9,5,L0s,some (10,LN (x^q.toNat%p)))] [(0,23,NV x),(1,24,.pointer (some ⟨w.heap.size,4,none⟩)),(2,25,NV q),(3,26,.pointer (some ⟨w.heap.size,0,none⟩)),(4,27,NV p),(5,28,.tuple #[NV (x^q.toNat%p),.int .i64 0]),(6,22,.tuple #[NV (x^q.toNat%p),.int .i64 0]),(7,29,NV (x^q.toNat%p)),(8,30,.int .i64 0),(11,6,.int .i64 0)] [(10,9)] [] [false,false] ?_ ?_
 ·exact oc (g_ld 1 uN iN)<|oc (g_fd (fun uZ=>fdG1 _ uZ))<|oc (g_lo 0 4 uN iN)<|oc (g_fd (fun uZ=>fdG0 _ uZ))<|oc (g_lo 0 0 uN iN)<|oc (g_cl Xa (fun uZ=>xExp x q p uZ hx hq hp hp0))<|oc g_mv<|oc g_ex<|oc g_ex<|oc (g_al 0 aN)<|oc (g_sn 0 iN)<|oc g_as on
 intro u2 b2_9 HB2 sz2 K2
 simp only[sQ] at K2⊢
 clear K1 HB1
 go_upto_region 4 with fail
 refine rgP K2 HB2 HB2.size [] [] [(0,31,NV (x^q.toNat%p)),(1,32,NV 1),(2,33,.bool b),(3,4,.bool b)] [] [] [false] ?_ ?_
 ·exact oc (g_ld 0 uN iN)<|oc (g_bd (fun uZ=>bdX 1 (by omega) (by omega) uZ))<|oc (g_bn (fun uZ=>eql_n _ _ (Zs hp hp0) In_1 _ h3 uZ))<|oc g_as on
 intro u3 HB3 sz3 K3
 simp only[sQ] at K3⊢
 clear K2 HB2
 go_wp2
 refine bodyPost_ret (v:= .bool b) (by simp[results,Tryz.results14,go_sem,]) rfl ⟨rfl,HB3⟩
def isB(p q x:Int):Bool:=decide (gOk p q/\Mb p q x)
theorem xIs(p q g h x:Int)(w:World)(hp:In p)(hq:In q)(hx:In x):CC 14 #[GX p q g h,NV x] w (.bool (isB p q x)):=by
 have hC:Hid (∀u,CC 16 #[GX p q g h] u (.int .i64 (chE p q))):=fun u=>xCheckG p q g h u hp hq
 have hx0:=hx.1
 by_cases hg:gOk p q
 ·rw[show chE p q=0 from if_pos hg] at hC
  by_cases h1:x=0
  ·rw[show isB p q x=false from decide_eq_false (fun h=>by have:=h.2.1;omega)]
   exact xis_z p q g h x w hp hq hx hC (by simp[h1])
  by_cases h2:p<=x
  ·rw[show isB p q x=false from decide_eq_false (fun h=>by have:=h.2.2.1;omega)]
   exact xis_h p q g h x w hp hq hx hC (by simp[h1]) (by rw[cmp_ge];simp only[h2,decide_true])
  ·have e:isB p q x=decide (x^q.toNat%p=1):=by
    unfold isB Mb
    rw[Bool.eq_iff_iff,decide_eq_true_iff,decide_eq_true_iff]
    exact⟨fun h=>h.2.2.2,fun h=>⟨hg,by omega,by omega,h⟩⟩
   rw[e]
   exact xis_g p q g h x w hp hq hx hC _ (by simp[h1]) (by rw[cmp_ge];simp only[h2,decide_false]) (by have:=hg.2;omega) rfl
 ·rw[show chE p q=90 from if_neg hg] at hC
  rw[show isB p q x=false from decide_eq_false (fun h=>hg h.1)]
  exact xis_c p q g h x w hp hq hx hC
theorem xPower(p q g h x e:Int)(w:World)(hp:In p)(hq:In q)(hx:In x)(he:In e)(hp0:p≠0)(hq0:q≠0):
 CC 76 #[GX p q g h,NV x,NV e] w (NV (x^(e%q).toNat%p)):=by
 go_enter Tryz.func76,Tryz.ntmps76
 go_upto_region 1 with fail
 generalize hC:((((w.alloc (.cells (GE p q g h:List Value).toArray 26)).alloc (.cells (LN x:List Value).toArray 24)).alloc (.cells (LN e:List Value).toArray 24)).alloc (.cells (L0s:List Value).toArray 24))=v0 at *
 have HB0:Bw w v0:=by rw[<-hC];exact Z0 (Z0 (Z0 (Z0 (Z5 w) _) _) _) _
 have K0:Bk w.heap.size v0 [(true,w.heap.size,GE p q g h),(true,w.heap.size+1,LN x),(true,w.heap.size+1+1,LN e),(true,w.heap.size+1+1+1,L0s)]:=by rw[<-hC];exact(Bk.nil _ w).ad.ad.ad.ad
 clear hC
 refine rgD K0 HB0 HB0.size [] [(8,7,L0s,some (9,LN (e%q)))] [(0,12,NV e),(1,13,WV e),(2,14,.pointer (some ⟨w.heap.size,4,none⟩)),(3,15,NV q),(4,16,.tuple #[NV (e%q),.int .i64 0]),(5,11,.tuple #[NV (e%q),.int .i64 0]),(6,17,NV (e%q)),(7,18,.int .i64 0),(10,8,.int .i64 0)] [(9,8)] [] [true,true,false] ?_ ?_
 ·exact oc (g_ld 2 uN iN)<|oc (g_cl Wf (fun uZ=>nrWiden e uZ he))<|oc (g_fd (fun uZ=>fdG1 _ uZ))<|oc (g_lo 0 4 uN iN)<|oc (g_cl Zr (fun uZ=>xReduce e q uZ he.wide hq hq0))<|oc g_mv<|oc g_ex<|oc g_ex<|oc (g_al 0 aN)<|oc (g_sn 0 iN)<|oc g_as on
 intro u1 b1_8 HB1 sz1 K1
 simp only[sQ] at K1⊢
 clear K0 HB0
 go_upto_region 2 with fail
 refine rgP K1 HB1 HB1.size [] [(8,9,L0s,some (9,LN (x^(e%q).toNat%p)))] [(0,20,NV x),(1,21,NV (e%q)),(2,22,.pointer (some ⟨w.heap.size,0,none⟩)),(3,23,NV p),(4,24,.tuple #[NV (x^(e%q).toNat%p),.int .i64 0]),(5,19,.tuple #[NV (x^(e%q).toNat%p),.int .i64 0]),(6,25,NV (x^(e%q).toNat%p)),(7,26,.int .i64 0),(10,10,.int .i64 0)] [(9,8)] [] [false,false,true,false] ?_ ?_
 ·exact oc (g_ld 1 uN iN)<|oc (g_ld 3 uN iN)<|oc (g_fd (fun uZ=>fdG0 _ uZ))<|oc (g_lo 0 0 uN iN)<|oc (g_cl Xa (fun uZ=>xExp x (e%q) p uZ hx (Zs hq hq0) hp hp0))<|oc g_mv<|oc g_ex<|oc g_ex<|oc (g_al 0 aN)<|oc (g_sn 0 iN)<|oc g_as on
 intro u2 b2_8 HB2 sz2 K2
 simp only[sQ] at K2⊢
 clear K1 HB1
 go_upto_region 3 with fail
 refine rgP K2 HB2 HB2.size [.all 1 (LN (x^(e%q).toNat%p))] [] [(0,27,NV (x^(e%q).toNat%p))] [] [] [true,false] ?_ ?_
 ·exact oc (g_ld 1 uN iN)<|oc (g_st 0 iN) on
 intro u3 HB3 sz3 K3
 simp only[sQ] at K3⊢
 clear K2 HB2
 have c6:=(K3.cv 0).n4
 go_wp2
 refine bodyPost_ret (v:=NV (x^(e%q).toNat%p)) (by simp[results,Tryz.results76,go_sem,c6]) rfl ⟨rfl,HB3⟩
theorem xPair(p q g h s t:Int)(w:World)(hp:In p)(hq:In q)(hg:In g)(hh:In h)(hs:In s)(ht:In t)(hp0:p≠0)(hq0:q≠0):
 CC 48 #[GX p q g h,NV s,NV t] w (NV (g^(s%q).toNat%p*(h^(t%q).toNat%p)%p)):=by
 go_enter Tryz.func48,Tryz.ntmps48
 go_upto_region 1 with fail
 generalize hC:((((w.alloc (.cells (GE p q g h:List Value).toArray 26)).alloc (.cells (LN s:List Value).toArray 24)).alloc (.cells (LN t:List Value).toArray 24)).alloc (.cells (L0s:List Value).toArray 24))=v0 at *
 have HB0:Bw w v0:=by rw[<-hC];exact Z0 (Z0 (Z0 (Z0 (Z5 w) _) _) _) _
 have K0:Bk w.heap.size v0 [(true,w.heap.size,GE p q g h),(true,w.heap.size+1,LN s),(true,w.heap.size+1+1,LN t),(true,w.heap.size+1+1+1,L0s)]:=by rw[<-hC];exact(Bk.nil _ w).ad.ad.ad.ad
 clear hC
 refine rgD K0 HB0 HB0.size [] [(16,7,L0s,some (17,LN (g^(s%q).toNat%p*(h^(t%q).toNat%p)%p)))] [(0,10,GX p q g h),(1,11,.pointer (some ⟨w.heap.size,8,none⟩)),(2,12,NV g),(3,13,NV s),(4,14,NV (g^(s%q).toNat%p)),(5,15,GX p q g h),(6,16,.pointer (some ⟨w.heap.size,12,none⟩)),(7,17,NV h),(8,18,NV t),(9,19,NV (h^(t%q).toNat%p)),(10,20,.pointer (some ⟨w.heap.size,0,none⟩)),(11,21,NV p),(12,22,.tuple #[NV (g^(s%q).toNat%p*(h^(t%q).toNat%p)%p),.int .i64 0]),(13,9,.tuple #[NV (g^(s%q).toNat%p*(h^(t%q).toNat%p)%p),.int .i64 0]),(14,23,NV (g^(s%q).toNat%p*(h^(t%q).toNat%p)%p)),(15,24,.int .i64 0),(18,8,.int .i64 0)] [(17,16)] [] [false,false,false] ?_ ?_
 ·exact oc (g_ld 0 Tryz.underlying26 Z1)<|oc (g_fd (fun uZ=>fdG2 _ uZ))<|oc (g_lo 0 8 uN iN)<|oc (g_ld 1 uN iN)<|oc (g_cl Yx (fun uZ=>xPower p q g h g s uZ hp hq hg hs hp0 hq0))<|oc (g_ld 0 Tryz.underlying26 Z1)<|oc (g_fd (fun uZ=>fdG3 _ uZ))<|oc (g_lo 0 12 uN iN)<|oc (g_ld 2 uN iN)<|oc (g_cl Yx (fun uZ=>xPower p q g h h t uZ hp hq hh ht hp0 hq0))<|oc (g_fd (fun uZ=>fdG0 _ uZ))<|oc (g_lo 0 0 uN iN)<|oc (g_cl Zm (fun uZ=>xMul (g^(s%q).toNat%p) (h^(t%q).toNat%p) p uZ (Zs hp hp0) (Zs hp hp0) hp hp0))<|oc g_mv<|oc g_ex<|oc g_ex<|oc (g_al 0 aN)<|oc (g_sn 0 iN)<|oc g_as on
 intro u1 b1_16 HB1 sz1 K1
 simp only[sQ] at K1⊢
 clear K0 HB0
 go_upto_region 2 with fail
 refine rgP K1 HB1 HB1.size [.all 1 (LN (g^(s%q).toNat%p*(h^(t%q).toNat%p)%p))] [] [(0,25,NV (g^(s%q).toNat%p*(h^(t%q).toNat%p)%p))] [] [] [true,false] ?_ ?_
 ·exact oc (g_ld 1 uN iN)<|oc (g_st 0 iN) on
 intro u2 HB2 sz2 K2
 simp only[sQ] at K2⊢
 clear K1 HB1
 have c6:=(K2.cv 0).n4
 go_wp2
 refine bodyPost_ret (v:=NV (g^(s%q).toNat%p*(h^(t%q).toNat%p)%p)) (by simp[results,Tryz.results48,go_sem,c6]) rfl ⟨rfl,HB2⟩
def exPE(p q x:Int):Int:=if isB p q x then 0 else 90
def exPX(p q x e:Int):Int:=if isB p q x then x^(e%q).toNat%p else 0
theorem isB_t{p q x:Int}(h:isB p q x=true):gOk p q/\Mb p q x:=of_decide_eq_true h
theorem xcom_g(p q g h s t:Int)(w:World)(hp:In p)(hq:In q)(hg:In g)(hh:In h)(hI:Hid (∀u,CC 14 #[GX p q g h,NV g] u (.bool false))):
 CC 21 #[GX p q g h,NV s,NV t] w (.tuple #[A4 0 0 0 0,.int .i64 90]):=by
 go_enter Tryz.func21,Tryz.ntmps21
 go_upto_region 1 with fail
 generalize hC:((((w.alloc (.cells (GE p q g h:List Value).toArray 26)).alloc (.cells (LN s:List Value).toArray 24)).alloc (.cells (LN t:List Value).toArray 24)).alloc (.cells (L0s:List Value).toArray 24))=v0 at *
 have HB0:Bw w v0:=by rw[<-hC];exact Z0 (Z0 (Z0 (Z0 (Z5 w) _) _) _) _
 have K0:Bk w.heap.size v0 [(true,w.heap.size,GE p q g h),(true,w.heap.size+1,LN s),(true,w.heap.size+1+1,LN t),(true,w.heap.size+1+1+1,L0s)]:=by rw[<-hC];exact(Bk.nil _ w).ad.ad.ad.ad
 clear hC
 refine rgP K0 HB0 HB0.size [] [] [(0,8,GX p q g h),(1,9,.pointer (some ⟨w.heap.size,8,none⟩)),(2,10,NV g),(3,11,.bool false),(4,12,.bool true),(5,13,.bool true),(6,14,undef),(7,15,undef),(8,16,undef),(9,17,undef),(10,18,undef),(11,19,(Go.Value.bool Bool.true))] [] [] [false,false,false] ?_ ?_
 ·exact oc (g_ld 0 Tryz.underlying26 Z1)<|oc (g_fd (fun uZ=>fdG2 _ uZ))<|oc (g_lo 0 8 uN iN)<|oc (g_cl Zk (fun uZ=>hI.out uZ))<|oc (g_un (fun uZ=>rfl))<|oc g_mv<|oc g_sk<|oc g_sk<|oc g_sk<|oc g_sk<|oc g_sk<|oc g_pk on
 intro u1 HB1 sz1 K1
 simp only[sQ] at K1⊢
 clear K0 HB0
 go_upto_region 2 with fail
 refine rgP K1 HB1 HB1.size [.all 1 ([.int .u64 (0),.int .u64 (0),.int .u64 (0),.int .u64 (0)])] [] [(0,20,A4 (0) (0) (0) (0)),(2,7,(Go.Value.int Go.IntKind.i64 90))] [] [] [] ?_ ?_
 ·exact oc (g_bd zN)<|oc (g_st 0 iN)<|oc g_as on
 intro u2 HB2 sz2 K2
 simp only[sQ] at K2⊢
 clear K1 HB1
 have c6:=(K2.cv 0).n4
 go_wp2
 refine bodyPost_ret (v:= .tuple #[A4 0 0 0 0,.int .i64 90]) (by simp[results,Tryz.results21,go_sem,c6]) rfl ⟨rfl,HB2⟩
theorem xcom_h(p q g h s t:Int)(w:World)(hp:In p)(hq:In q)(hg:In g)(hh:In h)(hI:Hid (∀u,CC 14 #[GX p q g h,NV g] u (.bool true)))(hJ:Hid (∀u,CC 14 #[GX p q g h,NV h] u (.bool false))):
 CC 21 #[GX p q g h,NV s,NV t] w (.tuple #[A4 0 0 0 0,.int .i64 90]):=by
 go_enter Tryz.func21,Tryz.ntmps21
 go_upto_region 1 with fail
 generalize hC:((((w.alloc (.cells (GE p q g h:List Value).toArray 26)).alloc (.cells (LN s:List Value).toArray 24)).alloc (.cells (LN t:List Value).toArray 24)).alloc (.cells (L0s:List Value).toArray 24))=v0 at *
 have HB0:Bw w v0:=by rw[<-hC];exact Z0 (Z0 (Z0 (Z0 (Z5 w) _) _) _) _
 have K0:Bk w.heap.size v0 [(true,w.heap.size,GE p q g h),(true,w.heap.size+1,LN s),(true,w.heap.size+1+1,LN t),(true,w.heap.size+1+1+1,L0s)]:=by rw[<-hC];exact(Bk.nil _ w).ad.ad.ad.ad
 clear hC
 refine rgP K0 HB0 HB0.size [] [] [(0,8,GX p q g h),(1,9,.pointer (some ⟨w.heap.size,8,none⟩)),(2,10,NV g),(3,11,.bool true),(4,12,.bool false),(5,13,.bool false),(6,14,GX p q g h),(7,15,.pointer (some ⟨w.heap.size,12,none⟩)),(8,16,NV h),(9,17,.bool false),(10,18,.bool true),(11,19,.bool true)] [] [] [false,false,false] ?_ ?_
 ·exact oc (g_ld 0 Tryz.underlying26 Z1)<|oc (g_fd (fun uZ=>fdG2 _ uZ))<|oc (g_lo 0 8 uN iN)<|oc (g_cl Zk (fun uZ=>hI.out uZ))<|oc (g_un (fun uZ=>rfl))<|oc g_mv<|oc (g_ld 0 Tryz.underlying26 Z1)<|oc (g_fd (fun uZ=>fdG3 _ uZ))<|oc (g_lo 0 12 uN iN)<|oc (g_cl Zk (fun uZ=>hJ.out uZ))<|oc (g_un (fun uZ=>rfl))<|oc g_pk on
 intro u1 HB1 sz1 K1
 simp only[sQ] at K1⊢
 clear K0 HB0
 go_upto_region 2 with fail
 refine rgP K1 HB1 HB1.size [.all 1 ([.int .u64 (0),.int .u64 (0),.int .u64 (0),.int .u64 (0)])] [] [(0,20,A4 (0) (0) (0) (0)),(2,7,(Go.Value.int Go.IntKind.i64 90))] [] [] [] ?_ ?_
 ·exact oc (g_bd zN)<|oc (g_st 0 iN)<|oc g_as on
 intro u2 HB2 sz2 K2
 simp only[sQ] at K2⊢
 clear K1 HB1
 have c6:=(K2.cv 0).n4
 go_wp2
 refine bodyPost_ret (v:= .tuple #[A4 0 0 0 0,.int .i64 90]) (by simp[results,Tryz.results21,go_sem,c6]) rfl ⟨rfl,HB2⟩
theorem xcom_k(p q g h s t c:Int)(w:World)(hp:In p)(hq:In q)(hg:In g)(hh:In h)(hI:Hid (∀u,CC 14 #[GX p q g h,NV g] u (.bool true)))(hJ:Hid (∀u,CC 14 #[GX p q g h,NV h] u (.bool true)))(hP:Hid (∀u,CC 48 #[GX p q g h,NV s,NV t] u (NV c))):
 CC 21 #[GX p q g h,NV s,NV t] w (.tuple #[NV c,.int .i64 0]):=by
 go_enter Tryz.func21,Tryz.ntmps21
 go_upto_region 1 with fail
 generalize hC:((((w.alloc (.cells (GE p q g h:List Value).toArray 26)).alloc (.cells (LN s:List Value).toArray 24)).alloc (.cells (LN t:List Value).toArray 24)).alloc (.cells (L0s:List Value).toArray 24))=v0 at *
 have HB0:Bw w v0:=by rw[<-hC];exact Z0 (Z0 (Z0 (Z0 (Z5 w) _) _) _) _
 have K0:Bk w.heap.size v0 [(true,w.heap.size,GE p q g h),(true,w.heap.size+1,LN s),(true,w.heap.size+1+1,LN t),(true,w.heap.size+1+1+1,L0s)]:=by rw[<-hC];exact(Bk.nil _ w).ad.ad.ad.ad
 clear hC
 refine rgP K0 HB0 HB0.size [] [] [(0,8,GX p q g h),(1,9,.pointer (some ⟨w.heap.size,8,none⟩)),(2,10,NV g),(3,11,.bool true),(4,12,.bool false),(5,13,.bool false),(6,14,GX p q g h),(7,15,.pointer (some ⟨w.heap.size,12,none⟩)),(8,16,NV h),(9,17,.bool true),(10,18,.bool false),(11,19,.bool false)] [] [] [] ?_ ?_
 ·exact oc (g_ld 0 Tryz.underlying26 Z1)<|oc (g_fd (fun uZ=>fdG2 _ uZ))<|oc (g_lo 0 8 uN iN)<|oc (g_cl Zk (fun uZ=>hI.out uZ))<|oc (g_un (fun uZ=>rfl))<|oc g_mv<|oc (g_ld 0 Tryz.underlying26 Z1)<|oc (g_fd (fun uZ=>fdG3 _ uZ))<|oc (g_lo 0 12 uN iN)<|oc (g_cl Zk (fun uZ=>hJ.out uZ))<|oc (g_un (fun uZ=>rfl))<|oc g_pk on
 intro u1 HB1 sz1 K1
 simp only[sQ] at K1⊢
 clear K0 HB0
 go_upto_region 3 with fail
 refine rgP K1 HB1 HB1.size [.no,.no,.no,.all 4 (LN c)] [] [(0,21,GX p q g h),(1,22,NV s),(2,23,NV t),(3,24,NV c),(5,7,(Go.Value.int Go.IntKind.i64 0))] [] [] [false,false,false] ?_ ?_
 ·exact oc (g_ld 0 Tryz.underlying26 Z1)<|oc (g_ld 1 uN iN)<|oc (g_ld 2 uN iN)<|oc (g_cl Wn (fun uZ=>hP.out uZ))<|oc (g_st 3 iN)<|oc g_as on
 intro u2 HB2 sz2 K2
 simp only[sQ] at K2⊢
 clear K1 HB1
 have c6:=(K2.cv 0).n4
 go_wp2
 refine bodyPost_ret (v:= .tuple #[NV c,.int .i64 0]) (by simp[results,Tryz.results21,go_sem,c6]) rfl ⟨rfl,HB2⟩
def coE(p q g h:Int):Int:=if isB p q g&&isB p q h then 0 else 90
def coX(p q g h s t:Int):Int:=if isB p q g&&isB p q h then g^(s%q).toNat%p*(h^(t%q).toNat%p)%p else 0
theorem xCommit(p q g h s t:Int)(w:World)(hp:In p)(hq:In q)(hg:In g)(hh:In h)(hs:In s)(ht:In t):
 CC 21 #[GX p q g h,NV s,NV t] w (.tuple #[NV (coX p q g h s t),.int .i64 (coE p q g h)]):=by
 have hI:Hid (∀u,CC 14 #[GX p q g h,NV g] u (.bool (isB p q g))):=fun u=>xIs p q g h g u hp hq hg
 have hJ:Hid (∀u,CC 14 #[GX p q g h,NV h] u (.bool (isB p q h))):=fun u=>xIs p q g h h u hp hq hh
 unfold coX coE
 cases hb:isB p q g with
 | false=>rw[hb] at hI;simp only[Bool.false_and];rw[if_neg (by decide),if_neg (by decide),NV_0];exact xcom_g p q g h s t w hp hq hg hh hI
 | true=>
  rw[hb] at hI
  have h3:=(isB_t hb).1.q3
  have h7:=(isB_t hb).1.2
  cases hb2:isB p q h with
  | false=>rw[hb2] at hJ;simp only[Bool.and_false];rw[if_neg (by decide),if_neg (by decide),NV_0];exact xcom_h p q g h s t w hp hq hg hh hI hJ
  | true=>rw[hb2] at hJ;rw[show (true&&true)=true from rfl,if_pos rfl,if_pos rfl];exact xcom_k p q g h s t _ w hp hq hg hh hI hJ (fun u=>xPair p q g h s t u hp hq hg hh hs ht (by omega) (by omega))
theorem xmulG_c(p q g h:Int)(sl:Option Addr)(n cap:Nat)(w:World)(hC:Hid (∀u,CC 16 #[GX p q g h] u (.int .i64 90))):
 CC 19 #[GX p q g h,.slice sl n cap] w (.tuple #[A4 0 0 0 0,.int .i64 90]):=by
 go_enter Tryz.func19,Tryz.ntmps19
 go_upto_region 1 with fail
 generalize hC:((w.alloc (.cells (GE p q g h:List Value).toArray 26)).alloc (.cells (L0s:List Value).toArray 24))=v0 at *
 have HB0:Bw w v0:=by rw[<-hC];exact Z0 (Z0 (Z5 w) _) _
 have K0:Bk w.heap.size v0 [(true,w.heap.size,GE p q g h),(true,w.heap.size+1,L0s)]:=by rw[<-hC];exact(Bk.nil _ w).ad.ad
 clear hC
 refine rgP K0 HB0 HB0.size [] [] [(0,7,GX p q g h),(1,8,.int .i64 90),(2,9,.bool true)] [] [] [false] ?_ ?_
 ·exact oc (g_ld 0 Tryz.underlying26 Z1)<|oc (g_cl Zg (fun uZ=>hC.out uZ))<|oc (g_bn (fun uZ=>neq_i _ _ _ 90 0 _ uZ rfl)) on
 intro u1 HB1 sz1 K1
 simp only[sQ] at K1⊢
 clear K0 HB0
 go_upto_region 2 with fail
 refine rgP K1 HB1 HB1.size [.all 1 ([.int .u64 (0),.int .u64 (0),.int .u64 (0),.int .u64 (0)])] [] [(0,10,A4 (0) (0) (0) (0)),(2,5,(Go.Value.int Go.IntKind.i64 90))] [] [] [] ?_ ?_
 ·exact oc (g_bd zN)<|oc (g_st 0 iN)<|oc g_as on
 intro u2 HB2 sz2 K2
 simp only[sQ] at K2⊢
 clear K1 HB1
 have c4:=(K2.cv 0).n4
 go_wp2
 refine bodyPost_ret (v:= .tuple #[A4 0 0 0 0,.int .i64 90]) (by simp[results,Tryz.results19,go_sem,c4]) rfl ⟨rfl,HB2⟩
theorem xmulG_k(p q g h rv re pv:Int)(sl:Option Addr)(gb go cap:Nat)(ns:List Int)(w:World)(hns:ns.length<=50)(hp:In p)(hq:In q)(hn:Hid (∀k,k<ns.length->In (ns.getD k 0)))(hix:Hid (∀j,j<ns.length-> ∀W,(Instr.indexAt 35 (.slice sl ns.length cap) (.int .i64 j)).run Tryz.prog W= .ok (.pointer (some ⟨gb,go+4*j,none⟩)) W))(hg0:ns.length=0\/gb<w.heap.size)(hS:Hid (SN w gb go ns))(hC:Hid (∀u,CC 16 #[GX p q g h] u (.int .i64 0)))
 (hPr:Hid (∀u,Bw w u->CC 47 #[NV p,.slice sl ns.length cap] u (.tuple #[NV pv,.int .i64 0])))
 (hE:Hid (∀k,k<ns.length->(∀j,j<k->isB p q (ns.getD j 0)=true)->isB p q (ns.getD k 0)=false->rv=0/\re=90))(hE2:Hid ((∀j,j<ns.length->isB p q (ns.getD j 0)=true)->pv=rv/\re=0)):
 CC 19 #[GX p q g h,.slice sl ns.length cap] w (.tuple #[NV rv,.int .i64 re]):=by
 go_enter Tryz.func19,Tryz.ntmps19
 go_upto_region 1 with fail
 generalize hC:((w.alloc (.cells (GE p q g h:List Value).toArray 26)).alloc (.cells (L0s:List Value).toArray 24))=v0 at *
 have HB0:Bw w v0:=by rw[<-hC];exact Z0 (Z0 (Z5 w) _) _
 have K0:Bk w.heap.size v0 [(true,w.heap.size,GE p q g h),(true,w.heap.size+1,L0s)]:=by rw[<-hC];exact(Bk.nil _ w).ad.ad
 clear hC
 refine rgP K0 HB0 HB0.size [] [] [(0,7,GX p q g h),(1,8,.int .i64 0),(2,9,.bool false)] [] [] [] ?_ ?_
 ·exact oc (g_ld 0 Tryz.underlying26 Z1)<|oc (g_cl Zg (fun uZ=>hC.out uZ))<|oc (g_bn (fun uZ=>neq_i _ _ _ 0 0 _ uZ rfl)) on
 intro u1 HB1 sz1 K1
 simp only[sQ] at K1⊢
 clear K0 HB0
 go_upto_region 3 with fail
 refine rgP K1 HB1 HB1.size [] [] [(0,6,(Go.Value.int Go.IntKind.i64 0))] [] [] [] ?_ ?_
 ·exact oc g_as on
 intro u2 HB2 sz2 K2
 simp only[sQ] at K2⊢
 clear K1 HB1
 go_wp2_with fail
 go_loopw [6] (fun s6 wr=> ∃(k:Nat),k<=ns.length/\s6= .int .i64 (k:Int)/\Hid (∀j,j<k->isB p q (ns.getD j 0)=true)/\Bw w wr/\CV wr (w.heap.size) (GE p q g h)/\CV wr (w.heap.size+1) L0s/\w.heap.size<wr.heap.size/\w.heap.size+1<wr.heap.size) (fun s6 _=>ns.length -(intOf s6).toNat)
 case atStart=>exact⟨0,by omega,rfl,fun j hj=>absurd hj (by omega),HB2,(K2.cv 0),(K2.cv 1),(K2.lt 0),(K2.lt 1)⟩
 case round=>
  obtain⟨k,hk,rfl,hall,HBr,Kg,Kr,lg,lr⟩:=hrel
  clear HB2
  have hnK:=K2.n
  simp at hnK
  by_cases hj:k<ns.length
  ·have hl:decide ((k:Int)<(ns.length:Int))=true:=by simp;omega
   have iy:=hn.out k hj
   have hX:=hix.out k hj
   have hX:Hid _:=hX
   have hR:=hS.out.at k hj
   have hR:Hid _:=hR
   have hlen:(k:Int)<1000:=by omega
   have hev:=hE.out k hj hall.out
   obtain⟨y,ey⟩: ∃y,ns.getD k 0=y:=⟨_,rfl⟩
   have hI:Hid (∀u,CC 14 #[GX p q g h,NV y] u (.bool (isB p q y))):=fun u=>xIs p q g h y u hp hq (by rw[<-ey];exact iy)
   have hall2:isB p q y=true->Hid (∀j,j<k+1->isB p q (ns.getD j 0)=true):=fun hb j hj2=>by
    by_cases e:j=k
    ·subst e;rw[ey];exact hb
    ·exact hall.out j (by omega)
   rw[ey] at iy hR hev
   clear ey
   cases hb:isB p q y with
   | false=>
    rw[hb] at hI
    obtain⟨rfl,rfl⟩:=hev hb
    have K2_1:Bk w.heap.size wr [(false,w.heap.size,GE p q g h),(true,w.heap.size+1,L0s)]:=⟨.c lg Kg<| .o lr (K2.lo 1) Kr<|trivial,by simp<;>omega⟩
    go_upto_region 4 with fail
    refine rgP K2_1 HBr HBr.size [] [] [(0,11,.int .i64 (k:Int)),(1,12,.slice sl ns.length cap),(2,13,.int .i64 (ns.length:Int)),(3,14,.bool true)] [] [] [] ?_ ?_
    ·exact oc g_mv<|oc g_mv<|oc (g_ln Tryz.underlying35)<|oc (g_bn (fun uZ=>Zo _ _ (k:Int) (ns.length:Int) _ uZ hl)) on
    intro u3 HB3 sz3 K3
    simp only[sQ] at K3⊢
    go_upto_region 6 with fail
    refine rgD K3 HB3 HB3.size [] [] [(0,17,GX p q g h),(1,18,.slice sl ns.length cap),(2,19,.int .i64 (k:Int)),(3,20,.pointer (some ⟨gb,go+4*k,none⟩)),(4,21,NV y),(5,22,.bool false),(6,23,.bool true)] [] [] [false] ?_ ?_
    ·exact oc (g_ld 0 Tryz.underlying26 Z1)<|oc g_mv<|oc g_mv<|oc (g_ix (fun uZ=>hX.out uZ))<|oc (g_lf hR.out (hg0.resolve_left (by omega)) uN iN)<|oc (g_cl Zk (fun uZ=>hI.out uZ))<|oc (g_un (fun uZ=>rfl)) on
    intro u4 HB4 sz4 K4
    simp only[sQ] at K4⊢
    clear K3 HB3
    go_upto_region 7 with fail
    refine rgP K4 HB4 HB4.size [.all 1 ([.int .u64 (0),.int .u64 (0),.int .u64 (0),.int .u64 (0)])] [] [(0,24,A4 (0) (0) (0) (0)),(2,5,(Go.Value.int Go.IntKind.i64 90))] [] [] [] ?_ ?_
    ·exact oc (g_bd zN)<|oc (g_st 0 iN)<|oc g_as on
    intro u5 HB5 sz5 K5
    simp only[sQ] at K5⊢
    clear K4 HB4
    have c4:=(K5.cv 0).n4
    go_wp2
    refine bodyPost_ret (v:= .tuple #[A4 0 0 0 0,.int .i64 90]) (by simp[results,Tryz.results19,go_sem,c4]) rfl ⟨by rw[NV_0],HB5⟩
   | true=>
    rw[hb] at hI
    have K2_1:Bk w.heap.size wr [(false,w.heap.size,GE p q g h),(false,w.heap.size+1,L0s)]:=⟨.c lg Kg<| .c lr Kr<|trivial,by simp<;>omega⟩
    go_upto_region 4 with fail
    refine rgP K2_1 HBr HBr.size [] [] [(0,11,.int .i64 (k:Int)),(1,12,.slice sl ns.length cap),(2,13,.int .i64 (ns.length:Int)),(3,14,.bool true)] [] [] [] ?_ ?_
    ·exact oc g_mv<|oc g_mv<|oc (g_ln Tryz.underlying35)<|oc (g_bn (fun uZ=>Zo _ _ (k:Int) (ns.length:Int) _ uZ hl)) on
    intro u3 HB3 sz3 K3
    simp only[sQ] at K3⊢
    go_upto_region 6 with fail
    refine rgD K3 HB3 HB3.size [] [] [(0,17,GX p q g h),(1,18,.slice sl ns.length cap),(2,19,.int .i64 (k:Int)),(3,20,.pointer (some ⟨gb,go+4*k,none⟩)),(4,21,NV y),(5,22,.bool true),(6,23,.bool false)] [] [] [] ?_ ?_
    ·exact oc (g_ld 0 Tryz.underlying26 Z1)<|oc g_mv<|oc g_mv<|oc (g_ix (fun uZ=>hX.out uZ))<|oc (g_lf hR.out (hg0.resolve_left (by omega)) uN iN)<|oc (g_cl Zk (fun uZ=>hI.out uZ))<|oc (g_un (fun uZ=>rfl)) on
    intro u4 HB4 sz4 K4
    simp only[sQ] at K4⊢
    clear K3 HB3
    go_upto_region 5 with fail
    refine rgP K4 HB4 HB4.size [] [] [(0,15,.int .i64 (k:Int)),(1,16,.int .i64 ((k+1:Nat):Int)),(2,6,.int .i64 ((k+1:Nat):Int))] [(2,0)] [(2,6)] [] ?_ ?_
    ·exact oc g_mv<|oc (g_bn (fun uZ=>Yq _ _ (k:Int) 1 ((k+1:Nat):Int) uZ (by omega) (by omega) (by omega)))<|oc g_as on
    intro u5 HB5 sz5 K5
    simp only[sQ] at K5⊢
    clear K4 HB4
    go_wp2
    refine⟨⟨k+1,by omega,rfl,hall2 hb,HB5,(K5.cv 0),(K5.cv 1),(K5.lt 0),(K5.lt 1)⟩,?_⟩
    simp[intOf]<;>omega
  ·have hl:decide ((k:Int)<(ns.length:Int))=false:=by simp;omega
   have hkn:k=ns.length:=by omega
   obtain⟨rfl,rfl⟩:=hE2.out (by rw[<-hkn];exact hall.out)
   have K2_1:Bk w.heap.size wr [(false,w.heap.size,GE p q g h),(true,w.heap.size+1,L0s)]:=⟨.c lg Kg<| .o lr (K2.lo 1) Kr<|trivial,by simp<;>omega⟩
   go_upto_region 4 with fail
   refine rgP K2_1 HBr HBr.size [] [] [(0,11,.int .i64 (k:Int)),(1,12,.slice sl ns.length cap),(2,13,.int .i64 (ns.length:Int)),(3,14,.bool false)] [] [] [] ?_ ?_
   ·exact oc g_mv<|oc g_mv<|oc (g_ln Tryz.underlying35)<|oc (g_bn (fun uZ=>Zo _ _ (k:Int) (ns.length:Int) _ uZ hl)) on
   intro u3 HB3 sz3 K3
   simp only[sQ] at K3⊢
   go_upto_region 8 with fail
   refine rgP K3 HB3 HB3.size [.no,.all 6 (LN pv)] [] [(0,25,.pointer (some ⟨w.heap.size,0,none⟩)),(1,26,NV p),(2,27,.slice sl ns.length cap),(3,28,.tuple #[NV pv,.int .i64 0]),(4,29,NV pv),(5,30,.int .i64 0),(7,5,.int .i64 0)] [] [] [false] ?_ ?_
   ·exact oc (g_fd (fun uZ=>fdG0 _ uZ))<|oc (g_lo 0 0 uN iN)<|oc g_mv<|oc (g_cb Xv (fun uZ bZ=>hPr.out uZ bZ))<|oc g_ex<|oc g_ex<|oc (g_st 1 iN)<|oc g_as on
   intro u4 HB4 sz4 K4
   simp only[sQ] at K4⊢
   clear K3 HB3
   have c4:=(K4.cv 0).n4
   go_wp2
   refine bodyPost_ret (v:= .tuple #[NV pv,.int .i64 0]) (by simp[results,Tryz.results19,go_sem,c4]) rfl ⟨rfl,HB4⟩
def mlB(p q:Int)(ns:List Int):Bool:=decide (gOk p q)&&ns.all (isB p q)
def mlE(p q:Int)(ns:List Int):Int:=if mlB p q ns then 0 else 90
def mlX(p q:Int)(ns:List Int):Int:=if mlB p q ns then gat (fun a b=>(a*b)%p) (1%p) ns ns.length else 0
theorem xMulG(p q g h:Int)(sl:Option Addr)(gb go cap:Nat)(ns:List Int)(w:World)(hns:ns.length<=50)(hp:In p)(hq:In q)(hn:Hid (∀k,k<ns.length->In (ns.getD k 0)))(hix:Hid (∀j,j<ns.length-> ∀W,(Instr.indexAt 35 (.slice sl ns.length cap) (.int .i64 j)).run Tryz.prog W= .ok (.pointer (some ⟨gb,go+4*j,none⟩)) W))(hg0:ns.length=0\/gb<w.heap.size)(hS:Hid (SN w gb go ns)):
 CC 19 #[GX p q g h,.slice sl ns.length cap] w (.tuple #[NV (mlX p q ns),.int .i64 (mlE p q ns)]):=by
 have hC:=fun u=>xCheckG p q g h u hp hq
 have hgd: ∀k,k<ns.length->ns.getD k 0∈ns:=fun k hk=>by
  rw[List.getD_eq_getElem?_getD,List.getElem?_eq_getElem hk];exact List.getElem_mem hk
 by_cases hg:gOk p q
 ·have h7:=hg.2
  rw[show chE p q=0 from if_pos hg] at hC
  refine xmulG_k p q g h _ _ (gat (fun a b=>(a*b)%p) (1%p) ns ns.length) sl gb go cap ns w hns hp hq hn hix hg0 hS hC (fun u hB=>?_) (fun k hk hall hb=>?_) (fun hall=>?_)
  ·exact xProduct p sl gb go cap ns u hns hp (by omega) hn hix (hg0.imp id fun e=>Nat.lt_of_lt_of_le e hB.size) (fun j v hj=>by
    rcases hg0 with e | e
    ·have:ns=[]:=List.eq_nil_of_length_eq_zero e
     subst this;simp[flN] at hj
    ·exact(hB.cell (p:=⟨gb,go+j,none⟩) e).trans (hS.out j v hj))
  ·have:mlB p q ns=false:=by
    unfold mlB
    rw[Bool.and_eq_false_iff]
    refine .inr ?_
    rw[List.all_eq_false]
    exact⟨_,hgd k hk,by rw[hb];decide⟩
   exact⟨by unfold mlX;rw[this];rfl,by unfold mlE;rw[this];rfl⟩
  ·have:mlB p q ns=true:=by
    unfold mlB
    rw[Bool.and_eq_true,decide_eq_true_iff,List.all_eq_true]
    refine⟨hg,fun x hx=>?_⟩
    obtain⟨j,hj,rfl⟩:=List.mem_iff_getElem.1 hx
    have:=hall j hj
    rwa [List.getD_eq_getElem?_getD,List.getElem?_eq_getElem hj] at this
   exact⟨by unfold mlX;rw[this];rfl,by unfold mlE;rw[this];rfl⟩
 ·rw[show chE p q=90 from if_neg hg] at hC
  have:mlB p q ns=false:=by unfold mlB;rw[decide_eq_false hg];rfl
  rw[show mlX p q ns=0 by unfold mlX;rw[this];rfl,show mlE p q ns=90 by unfold mlE;rw[this];rfl,NV_0]
  exact xmulG_c p q g h sl ns.length cap w hC
def NL(u:World)(v:Value)(ns:List Int):Prop:= ∃sl gb go cap,v= .slice sl ns.length cap/\ns.length<=cap/\(sl=none->cap=0)/\(ns=[]\/sl=some ⟨gb,go,none⟩)/\(ns.length=0\/gb<u.heap.size)/\SN u gb go ns
theorem NL.up{w u:World}{v:Value}{ns:List Int}(h:NL w v ns)(hB:Bw w u):NL u v ns:=by
 obtain⟨sl,gb,go,cap,h1,h2,h3,h4,h5,h6⟩:=h
 refine⟨sl,gb,go,cap,h1,h2,h3,h4,h5.imp id fun e=>Nat.lt_of_lt_of_le e hB.size,?_⟩
 rcases h5 with h5 | h5
 ·exact SN.empty h5
 ·exact h6.below hB h5
def N2(a b:Int)(u:World)(v:Value):Prop:=NL u v [a,b]
theorem N2.stab{a b:Int}{u u2:World}{x:Value}(hB:Bw u u2)(h:N2 a b u x):N2 a b u2 x:=NL.up h hB
theorem bsN2(a b:Int)(w:World):(Instr.buildSlice 35 2 ([0,1].zip [NV a,NV b]).toArray).run Tryz.prog w= .ok (.slice (some ⟨w.heap.size,0,none⟩) 2 2) (w.alloc (.cells (flN [a,b]).toArray 24)):=by kernel_rfl
theorem inN2(a b:Int)(u:World):N2 a b (u.alloc (.cells (flN [a,b]).toArray 24)) (.slice (some ⟨u.heap.size,0,none⟩) 2 2):=
 ⟨_,u.heap.size,0,2,rfl,by simp,by simp,.inr rfl,.inr (by simp),fun j v hj=>by rw[Nat.zero_add];exact(CV.new u (flN [a,b]) 24 j v hj).1⟩
def N1x(a:Int)(u:World)(v:Value):Prop:=NL u v [a]
theorem N1x.stab{a:Int}{u u2:World}{x:Value}(hB:Bw u u2)(h:N1x a u x):N1x a u2 x:=NL.up h hB
theorem bsNx1(a:Int)(w:World):(Instr.buildSlice 35 1 ([0].zip [NV a]).toArray).run Tryz.prog w= .ok (.slice (some ⟨w.heap.size,0,none⟩) 1 1) (w.alloc (.cells (flN [a]).toArray 24)):=by kernel_rfl
theorem inNx1(a:Int)(u:World):N1x a (u.alloc (.cells (flN [a]).toArray 24)) (.slice (some ⟨u.heap.size,0,none⟩) 1 1):=
 ⟨_,u.heap.size,0,1,rfl,by simp,by simp,.inr rfl,.inr (by simp),fun j v hj=>by rw[Nat.zero_add];exact(CV.new u (flN [a]) 24 j v hj).1⟩
end Go.Proofs.YtknpepgonhdbgaaGreatDoor
