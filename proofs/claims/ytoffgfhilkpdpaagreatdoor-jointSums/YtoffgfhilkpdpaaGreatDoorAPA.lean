import Derived.Test.YtoffgfhilkpdpaaGreatDoorRN2
import Derived.Test.YtoffgfhilkpdpaaGreatDoorIT
import Derived.Lib.SmallJoins
import Derived.Lib.ItoaLen
import Derived.Deep.OwnRows
namespace Go.Proofs.YtoffgfhilkpdpaaGreatDoor
set_option linter.unusedVariables false
set_option linter.unusedSimpArgs false
set_option maxRecDepth 100000
set_option maxHeartbeats 4000000
section
open Go.RowKit Go.Extern.Stop Go.Stop Go.Extern
inductive AV (n:Int) (w:World):Nat->Value->Prop
 | leaf (d:Nat):AV n w d (.iface 34 (iI n))
 | flt (d:Nat) (s:ByteArray) (k:Value):AV n w d k->AV n w (d+1) (.iface 180 (.agg #[.string s,k]))
 | join (d b g o m c:Nat) (x:Value):0<m->m<=1000000->w.cell? ⟨b,0,none⟩=some (.slice (some ⟨g,o,none⟩) m c)->b<w.heap.size->g<w.heap.size->w.cell? ⟨g,o,none⟩=some x->AV n w d x->AV n w (d+1) (.iface 94 (.pointer (some ⟨b,0,none⟩)))
theorem AV.up{n:Int}{w u:World}(hB:Bw w u){d:Nat}{v:Value}(h:AV n w d v):AV n u d v:=by
 induction h with
 | leaf d=>exact .leaf d
 | flt d s k _ ih=>exact .flt d s k ih
 | join d b g o m c x h0 h00 h1 h2 h3 h4 _ ih=>exact .join d b g o m c x h0 h00 ((hB.cell (p:=⟨b,0,none⟩) h2).trans h1) (Nat.lt_of_lt_of_le h2 hB.size) (Nat.lt_of_lt_of_le h3 hB.size) ((hB.cell (p:=⟨g,o,none⟩) h3).trans h4) ih
theorem AV.some{n:Int}{w:World}{d:Nat}{v:Value}(h:AV n w d v): ∃T x,v= .iface T x:=by
 cases h with
 | leaf=>exact⟨_,_,rfl⟩
 | flt=>exact⟨_,_,rfl⟩
 | join=>exact⟨_,_,rfl⟩
def AE(b:Bool)(w:World)(v:Value):Prop:=(b=false/\v= .nilIface)\/(b=true/\ ∃d,AV 2 w d v)
theorem AE.up{b:Bool}{w u:World}(hB:Bw w u){v:Value}(h:AE b w v):AE b u v:=h.imp id fun⟨h1,d,h⟩=>⟨h1,d,h.up hB⟩
theorem AE.stab{b:Bool}{u u2:World}{x:Value}(hB:Bw u u2)(h:AE b u x):AE b u2 x:=h.up hB
structure GP(w:World):Prop where
 sz:1<w.heap.size
 tab:Lib.TabIs Tryz.prog w "internal/strconv.uint64pow10" .u64 Lib.pow10Tab
 typ:w.cell? ⟨0,0,none⟩=some (.iface 139 (.agg #[.pointer (some ⟨6,49,none⟩)]))
theorem gPow:Tryz.prog.globalNamed "internal/strconv.uint64pow10" =some 1:=by kernel_rfl
theorem GP.below{w u:World}(h:GP w)(hB:Bw w u):GP u where
 sz:=Nat.lt_of_lt_of_le h.sz hB.size
 tab:=Go.Joins.tab_stays gPow h.tab hB (Nat.le_refl _)
 typ:=(hB.cell (p:=⟨0,0,none⟩) (Nat.lt_of_le_of_lt Z2 h.sz)).trans h.typ
theorem below_grow(w:World)(k:Nat)(os:Array Obj):Bw w (Go.Sort.grow (w.drewN k) os):=by
 have h1:(w.drewN k).heap=w.heap:=rfl
 exact⟨rfl,rfl,rfl,by simp[Go.Sort.grow,h1],fun i hi=>by simp[Go.Sort.grow,h1,Array.getElem?_append_left hi]⟩
def ia(n:Int):ByteArray:=⟨(Lib.itoa n).toArray⟩
theorem ia_sz(n:Int)(h0: -9223372036854775808<=n)(h1:n<=9223372036854775807):(ia n).size<=21:=by
 have:=Lib.itoa_length_le n h0 h1
 simpa [ia,ByteArray.size] using this
theorem cItoa(n:Int)(w:World)(h0: -9223372036854775808<=n)(h1:n<=9223372036854775807)(hG:GP w):CC 38 #[iI n] w (.string (ia n)):=by
 refine(Tryz.strconv_Itoa n h0 h1 w hG.tab).mono ?_
 rintro e u ⟨rfl,k,os,rfl⟩
 exact⟨rfl,below_grow w k os⟩
theorem pkE_le(xs:Nat->Value)(b:Nat->Bool): ∀i,(pkE xs b i).length<=i
 | 0=>Nat.le_refl _
 | i+1=>by
  have:=pkE_le xs b i
  rw[pkE];split
  ·rw[List.length_append];simp;omega
  ·omega
theorem cJoin2(g c:Nat)(x0 x1:Value)(b0 b1:Bool)(w:World)(hg:g<w.heap.size)(c0:w.cell? ⟨g,0,none⟩=some x0)(c1:w.cell? ⟨g,1,none⟩=some x1)(h0:AE b0 w x0)(h1:AE b1 w x1):
 Calls Tryz.prog 20 #[.slice (some ⟨g,0,none⟩) 2 c] w fun r u'=> ∃y,r= .returned y/\AE (b0 || b1) u' y/\Bw w u':=by
 have hx: ∀i,i<2->w.cell? ⟨g,0+i,none⟩=some ((fun i:Nat=>if i=0 then x0 else x1) i):=fun i hi=>by
  match i,hi with
  | 0,_=>exact c0
  | 1,_=>exact c1
 have hb: ∀(b:Bool) (x:Value),AE b w x->b=false/\x= .nilIface\/b=true/\ ∃T y,x= .iface T y:=fun b x h=>h.imp id fun⟨h1,d,h⟩=>⟨h1,h.some⟩
 refine(join_core 2 c (some ⟨g,0,none⟩) (fun i=>if i=0 then x0 else x1) (fun i=>if i=0 then b0 else b1) w Z1 (fun _=>⟨g,0,rfl,hg,hx⟩) (fun i hi=>?_) (fun i=>?_)).mono ?_
 ·match i,hi with
  | 0,_=>exact hb _ _ h0
  | 1,_=>exact hb _ _ h1
 ·exact pkE_le _ _ i
 ·rintro e u ⟨y,rfl,hp,hB⟩
  refine⟨y,rfl,?_,hB⟩
  have en: ∀z,AE false w z->z= .nilIface:=fun z h=>h.elim (fun h=>h.2) (fun h=>by cases h.1)
  have ev: ∀z,AE true w z-> ∃d,AV 2 w d z:=fun z h=>h.elim (fun h=>by cases h.1) (fun h=>h.2)
  rcases hp with⟨p1,rfl⟩ | ⟨J,bo,m,co,zs,rfl,hJ,hbo,hm,hm0,hc1,hc2⟩
  ·cases b0<;>cases b1<;>simp[pkE] at p1
   exact .inl ⟨rfl,rfl⟩
  ·have key: ∀z l,pkE (fun i=>if i=0 then x0 else x1) (fun i=>if i=0 then b0 else b1) 2=z::l->AE true w z->AE true u (.iface 94 (.pointer (some ⟨J,0,none⟩))):=fun z l e hz=>by
    obtain⟨d,hz⟩:=ev z hz
    rw[e] at hc2 hm
    have hml:m<=1000000:=by
     have:(pkE (fun i=>if i=0 then x0 else x1) (fun i=>if i=0 then b0 else b1) 2).length<=2:=by
      cases b0<;>cases b1<;>simp[pkE]
     rw[e] at this;omega
    exact .inr ⟨rfl,d+1,.join d J bo 0 m co z hm0 hml (hc1 0 _ rfl).1 hJ hbo (hc2 0 _ rfl).1 (hz.up hB)⟩
   cases b0<;>cases b1
   ·simp[pkE] at hm;omega
   ·exact key x1 [] (by simp[pkE]) h1
   ·exact key x0 [] (by simp[pkE]) h0
   ·exact key x0 [x1] (by simp[pkE]) h0
theorem Tryz.directE(w:World):(Rtype.directlyAssignable 34 34).run Tryz.prog w= .ok true w:=by kernel_rfl
theorem Tryz.setE0(ta b:Addr)(W:World):
 (ReflectliteValue.set #[.agg #[.pointer (some ⟨6,34,none⟩),.pointer (some ta),iU 386],.agg #[.pointer (some ⟨6,34,none⟩),.pointer (some b),iU 130]]).run Tryz.prog W
  =((do let v<-loadVar 34 b;storeVar 34 ta v;pure (.tuple #[])):Sem Value).run Tryz.prog W:=by kernel_rfl
theorem Tryz.setE(ta b:Addr)(n:Int)(old:Value)(W:World)(hb:W.cell? b=some (iI n))(ht:W.cell? ta=some old)(hf:W.frozen? ta=false):
 (ReflectliteValue.set #[.agg #[.pointer (some ⟨6,34,none⟩),.pointer (some ta),iU 386],.agg #[.pointer (some ⟨6,34,none⟩),.pointer (some b),iU 130]]).run Tryz.prog W
  = .ok (.tuple #[]) (W.setCell ta (iI n)):=by
 rw[Tryz.setE0]
 simp[ReflectliteValue.flagAddr,loadVar,isAgg,underlying,Tryz.underlying34,hb,Result.andThen,Tryz.directE,storeVar,Value.cells,storeCells,Addr.add]
 rw[run_store Tryz.prog W ta _ _ (by rfl)]
 simp[ht,hf]
end
section
open Go.RowKit
def byp(a b c d:Int)(p:Nat):Int:=(if p/8=0 then a else if p/8=1 then b else if p/8=2 then c else d)/2^(p%8*8)%256
def CB(w:World)(n k:Nat)(a b c d:Int):Prop:= ∀j,j<32->w.cell? ⟨n,j,none⟩=some (.int .u8 (if 32<=j+k then byp a b c d (31 -j) else 0))/\w.frozen? ⟨n,j,none⟩=false
theorem CB.below{w w':World}{m n k:Nat}{a b c d:Int}(h:CB w n k a b c d)(hb:Below m w w')(hn:n<m):CB w' n k a b c d:=fun j hj=>by
 rw[hb.cell (p:=⟨n,j,none⟩) hn,hb.frozen (p:=⟨n,j,none⟩) hn];exact h j hj
theorem CB.set{w:World}{n k:Nat}{a b c d:Int}(h:CB w n k a b c d)(hk:k<32)(v:Int)(hv:v=byp a b c d k):CB (w.setCell ⟨n,31 -k,none⟩ (.int .u8 v)) n (k+1) a b c d:=fun j hj=>by
 rw[World.frozen?_setCell]
 obtain⟨hc,hf⟩:=h (31 -k) Z1
 by_cases e:j=31 -k
 ·subst e
  refine⟨?_,hf⟩
  rw[if_pos Z1,show 31 -(31 -k)=k by omega,hv]
  simp[go_sem,hc]
 ·obtain⟨hc',hf'⟩:=h j hj
  refine⟨?_,hf'⟩
  rw[World.cell?_setCell_other _ _ _ _ (by simp<;>omega),hc']
  by_cases g:32<=j+k
  ·rw[if_pos g,if_pos Z1]
  ·rw[if_neg g,if_neg Z1]
def z32b:Array Value:=Array.replicate 32 (.int .u8 0)
theorem CB.new(w:World)(a b c d:Int):CB (w.alloc (.cells z32b 5)) w.heap.size 0 a b c d:=fun j hj=>by
 have hf:(w.alloc (.cells z32b 5)).frozen? ⟨w.heap.size,j,none⟩=false:=by simp[go_sem]
 refine⟨?_,hf⟩
 rw[cell_of_row _ w.heap.size j _ 5 (0,0) (heap_alloc_new _ _),if_neg Z1]
 simp[z32b,hj]
def byl(a b c d:Int):List Int:=(List.range 32).map fun j=>byp a b c d (31 -j)
theorem CB.get{w:World}{g:Nat}{a b c d:Int}(h:CB w g 32 a b c d): ∀i,i<32->w.cell? ⟨g,0+i,none⟩=some (.int .u8 ((byl a b c d).getD i 0)):=fun i hi=>by
 have:=(h i hi).1
 rw[if_pos Z1] at this
 rw[Nat.zero_add,this]
 unfold byl
 simp[List.getD,hi]
theorem Tryz.info5:(Tryz.prog.info? 5).map (fun i=>(i.zero,i.size,i.bytes))=some (some (.int .u8 0),1,1):=by kernel_rfl
def hexc(v:Int):Int:=if v<10 then 48+v else 87+v
def nib(a b c d:Int)(p:Nat):Int:=(if p/16=0 then a else if p/16=1 then b else if p/16=2 then c else d)/2^(p%16*4)%16
theorem hex_at(v:Int)(h0:0<=v)(h1:v<16)(hh:v.toNat<(ByteArray.mk #[48,49,50,51,52,53,54,55,56,57,97,98,99,100,101,102]).size):((((ByteArray.mk #[48,49,50,51,52,53,54,55,56,57,97,98,99,100,101,102])[v.toNat]'hh).toNat:Nat):Int)=hexc v:=by
 obtain⟨n,rfl⟩:=Int.eq_ofNat_of_zero_le h0
 have hn:n<16:=Z1
 have key: ∀m:Fin 16,((((ByteArray.mk #[48,49,50,51,52,53,54,55,56,57,97,98,99,100,101,102])[m.val]'(by have:=m.isLt;show m.val<16;omega)).toNat:Nat):Int)=hexc (m.val:Int):=Z2
 exact key ⟨n,hn⟩
theorem and15(x:Int)(h:W64 x):bits .and .u64 x 15=x%16:=by
 obtain⟨h1,h2⟩:=h
 obtain⟨x,rfl⟩:=Int.eq_ofNat_of_zero_le h1
 have e:=bits_and_u64_nat x 15 Z1 Z1
 have f:x&&&15=x%16:=Nat.and_two_pow_sub_one_eq_mod x 4
 rw[f] at e
 exact e.trans Z1
def CT(w:World)(n N k:Nat)(a b c d:Int):Prop:= ∀j,j<N->w.cell? ⟨n,j,none⟩=some (.int .u8 (if N<=j+k then hexc (nib a b c d (N -1 -j)) else 0))/\w.frozen? ⟨n,j,none⟩=false
theorem CT.set{w:World}{n N k o:Nat}{a b c d:Int}(h:CT w n N k a b c d)(hk:k<N)(ho:o=N -1 -k)(v:Int)(hv:v=hexc (nib a b c d k)):CT (w.setCell ⟨n,o,none⟩ (.int .u8 v)) n N (k+1) a b c d:=fun j hj=>by
 subst ho
 rw[World.frozen?_setCell]
 obtain⟨hc,hf⟩:=h (N -1 -k) Z1
 by_cases e:j=N -1 -k
 ·subst e
  refine⟨?_,hf⟩
  rw[if_pos Z1,show N -1 -(N -1 -k)=k by omega,hv]
  simp[go_sem,hc]
 ·obtain⟨hc',hf'⟩:=h j hj
  refine⟨?_,hf'⟩
  rw[World.cell?_setCell_other _ _ _ _ (by simp<;>omega),hc']
  by_cases g:N<=j+k
  ·rw[if_pos g,if_pos Z1]
  ·rw[if_neg g,if_neg Z1]
theorem CT.new(w:World)(N:Nat)(a b c d:Int):CT (w.alloc (.cells (madeCells #[.int .u8 0] N) 5)) w.heap.size N 0 a b c d:=fun j hj=>by
 have hf:(w.alloc (.cells (madeCells #[.int .u8 0] N) 5)).frozen? ⟨w.heap.size,j,none⟩=false:=by simp[go_sem]
 refine⟨?_,hf⟩
 rw[cell_of_row _ w.heap.size j _ 5 (0,0) (heap_alloc_new _ _),if_neg Z1]
 simp[madeCells,hj,Nat.mod_one]
def txl(a b c d:Int)(N:Nat):List Int:=(List.range N).map fun j=>hexc (nib a b c d (N -1 -j))
theorem CT.get{w:World}{g N:Nat}{a b c d:Int}(h:CT w g N N a b c d): ∀i,i<N->w.cell? ⟨g,0+i,none⟩=some (.int .u8 ((txl a b c d N).getD i 0)):=fun i hi=>by
 have:=(h i hi).1
 rw[if_pos Z1] at this
 rw[Nat.zero_add,this]
 unfold txl
 simp[List.getD,hi]
def nd(a b c d:Int):Nat:=if blen a b c d=0 then 1 else ((blen a b c d+3)/4).toNat
theorem blen_bd(a b c d:Int)(ha:W64 a)(hb:W64 b)(hc:W64 c)(hd:W64 d):0<=blen a b c d/\blen a b c d<=256:=by
 have h1:=Vm a ha;have h2:=Vm b hb;have h3:=Vm c hc;have h4:=Vm d hd
 unfold blen;split
 ·omega
 ·split
  ·omega
  ·split
   ·omega
   ·split<;>omega
theorem Text_any(a b c d:Int)(w:World)(ha:W64 a)(hb:W64 b)(hc:W64 c)(hd:W64 d):
 CC 98 #[A4 a b c d] w (.string (strOfNums (txl a b c d (nd a b c d)))):=by
 have hbb:=blen_bd a b c d ha hb hc hd
 obtain⟨N,eN⟩:=Z3 (nd a b c d)
 rw[eN]
 have hmax:(max 1 ((blen a b c d+3)/4):Int)=(N:Int):=by
  rw[<-eN];unfold nd;split<;>omega
 have hN1:1<=N:=Z1
 have hN2:N<=64:=Z1
 obtain⟨L,eL⟩:=Z3 (blen a b c d)
 have hlen:=Uq a b c d
 simp only[eL] at hlen hbb hmax
 have HLEN:Hid _:=hlen
 clear hlen eL eN
 have hmk:=fun w=>run_make_row' (P:=Tryz.prog) 133 5 (.int .u8 0) 1 Tryz.underlying133 Tryz.info5 rfl .i64 .i64 N Z1 Z1 w
 go_enter Tryz.func98,Tryz.ntmps98
 go_wp2_with fail
 refine(HLEN.out _ ha hb hc hd).mono ?_
 rintro en w1 ⟨rfl,hB⟩
 have hA1:C4 w1 w.heap.size a b c d:=C4.below (by unfold C4;simp[go_sem]) hB (by simp)
 have hq1:Bw w w1:=Z7 (Z5 (Zf w) _) hB
 have hs1:=hB.size
 simp only[World.size_alloc] at hs1
 clear hB
 have HM:Hid _:=hmax
 go_wp2
 go_loopw [14] (fun i wr=> ∃k:Nat,k<=N/\i=iI k/\Bw w wr/\w1.heap.size<wr.heap.size/\C4 wr w.heap.size a b c d/\CT wr w1.heap.size N k a b c d) (fun i _=>N -(intOf i).toNat)
 case atStart=>
  exact⟨0,Z1,rfl,Z5 hq1 _,by simp,hA1.alloc Z1 _,CT.new w1 N a b c d⟩
 case round=>
  clear hA1 hq1 hmk hmax
  obtain⟨k,hk,rfl,hB,hs,hA,hO⟩:=hrel
  by_cases hlt:k<N
  ·have hlt':(k:Int)<(N:Int):=Z1
   have hA':=hA
   obtain⟨⟨ac0,ac1,ac2,ac3⟩,_⟩:=hA'
   obtain⟨oc,of⟩:=hO (N -1 -k) Z1
   have hz:(if N<=N -1 -k+k then hexc (nib a b c d (N -1 -(N -1 -k))) else 0)=0:=if_neg Z1
   rw[hz] at oc
   clear hz
   have hq:k/16=0\/k/16=1\/k/16=2\/k/16=3:=Z1
   rcases hq with hq | hq | hq | hq
   ·have hq':(k:Int)/16=0:=Z1
    have hnd:=and15 _ (W_shr a (k%16*4) ha)
    have hv0:0<=a/2^(k%16*4)%16:=Z1
    have hv1:a/2^(k%16*4)%16<16:=Z1
    go_wp2
    refine⟨⟨k+1,Z1,by go_num,?_,by simpa using hs,hA.other _ (by dsimp only;omega) _,hO.set hlt Z1 _ ?_⟩,by simp[intOf];omega⟩
    ·exact hB.setCell (by show _<=_;dsimp only;omega) _
    ·rw[hex_at _ hv0 hv1];unfold nib;simp[hq]
   ·have hq':(k:Int)/16=1:=Z1
    have hnd:=and15 _ (W_shr b (k%16*4) hb)
    have hv0:0<=b/2^(k%16*4)%16:=Z1
    have hv1:b/2^(k%16*4)%16<16:=Z1
    go_wp2
    refine⟨⟨k+1,Z1,by go_num,?_,by simpa using hs,hA.other _ (by dsimp only;omega) _,hO.set hlt Z1 _ ?_⟩,by simp[intOf];omega⟩
    ·exact hB.setCell (by show _<=_;dsimp only;omega) _
    ·rw[hex_at _ hv0 hv1];unfold nib;simp[hq]
   ·have hq':(k:Int)/16=2:=Z1
    have hnd:=and15 _ (W_shr c (k%16*4) hc)
    have hv0:0<=c/2^(k%16*4)%16:=Z1
    have hv1:c/2^(k%16*4)%16<16:=Z1
    go_wp2
    refine⟨⟨k+1,Z1,by go_num,?_,by simpa using hs,hA.other _ (by dsimp only;omega) _,hO.set hlt Z1 _ ?_⟩,by simp[intOf];omega⟩
    ·exact hB.setCell (by show _<=_;dsimp only;omega) _
    ·rw[hex_at _ hv0 hv1];unfold nib;simp[hq]
   ·have hq':(k:Int)/16=3:=Z1
    have hnd:=and15 _ (W_shr d (k%16*4) hd)
    have hv0:0<=d/2^(k%16*4)%16:=Z1
    have hv1:d/2^(k%16*4)%16<16:=Z1
    go_wp2
    refine⟨⟨k+1,Z1,by go_num,?_,by simpa using hs,hA.other _ (by dsimp only;omega) _,hO.set hlt Z1 _ ?_⟩,by simp[intOf];omega⟩
    ·exact hB.setCell (by show _<=_;dsimp only;omega) _
    ·rw[hex_at _ hv0 hv1];unfold nib;simp[hq]
  ·have hkN:k=N:=Z1
   subst hkN
   have hcv:=run_convert_bytes_arg (P:=Tryz.prog) wr 133 5 Tryz.underlying133 Tryz.underlying5 w1.heap.size 0 k k (txl a b c d k) (by simp[txl]) hO.get 9 Tryz.underlying9
   go_wp2
   go_ret
   exact⟨rfl,hB⟩
theorem bitd_any(g cap k:Nat)(x i r:Int)(w:World)(hk8:(k:Int)<8)(hk0:(0:Int)<=(k:Int))(hc:w.cell? ⟨g,k,none⟩=some (iU x))(x0:0<=x)(x1:x<18446744073709551616)
 (h0:0<=i)(h1:i<256)(hk:i/32=(k:Int))(hr:i%32=r)(r0:0<=r)(r1:r<=31):
 Calls Tryz.prog 117 #[.slice (some ⟨g,0,none⟩) 8 cap,iI i] w fun en w'=>en= .returned (iU (x/2^r.toNat%2))/\w'=w:=by
 go_enter Tryz.func117,Tryz.ntmps117
 go_wp2
 go_loop [5,6] (fun s5 s6=> ∃j:Nat,(j:Int)<=r/\s6=iI j/\s5=iU (x/2^j)) (fun _ s6=>(r -intOf s6).toNat)
 case atStart=>exact⟨0,Z1,rfl,by simp⟩
 case round=>
  obtain⟨j,hj,rfl,rfl⟩:=hrel
  have hw:=W_shr x j ⟨x0,x1⟩
  obtain⟨hw0,hw1⟩:=hw
  have hstep:x/2^j/2=x/2^(j+1):=by rw[Int.pow_succ,Int.ediv_ediv_of_nonneg (Int.le_of_lt (Int.pow_pos Z1))]
  have HS:Hid (x/2^j/2=x/2^(j+1)):=hstep
  clear hstep hc
  by_cases hlt:(j:Int)<r
  ·go_wp2
   go_round
   case rel=>exact⟨j+1,Z1,by go_num,congrArg (Value.int IntKind.u64) HS.out⟩
   case measure=>simp[intOf];omega
  ·have hjr:j=r.toNat:=Z1
   subst hjr
   go_wp2
   go_ret
   exact⟨rfl,rfl⟩
theorem half_lo(x:Int)(n:Nat)(h:n<=31):x%4294967296/2^n%2=x/2^n%2:=by
 have p:(0:Int)<2^n:=Int.pow_pos Z1
 have e:(4294967296:Int)=2^n*(2*2^(31 -n)):=by
  rw[<-Int.mul_assoc,Int.mul_comm ((2:Int)^n) 2,Int.mul_assoc,<-Int.pow_add,show n+(31 -n)=31 by omega];rfl
 have m:=Int.mul_ediv_add_emod x 4294967296
 have hx:x=x%4294967296+2^n*(2*(2^(31 -n)*(x/4294967296))):=by
  have hq: ∀q:Int,(2:Int)^n*(2*(2^(31 -n)*q))=4294967296*q:=fun q=>by
   conv=>rhs;rw[e]
   rw[Int.mul_assoc,Int.mul_assoc]
  have:=hq (x/4294967296)
  omega
 have h2:x/2^n=x%4294967296/2^n+2*(2^(31 -n)*(x/4294967296)):=by
  conv=>lhs;rw[hx]
  rw[Int.add_mul_ediv_left _ _ Z1]
 rw[h2];omega
theorem half_hi(x:Int)(n:Nat):x/4294967296/2^n=x/2^(32+n):=by
 rw[Int.ediv_ediv_of_nonneg Z1,Int.pow_add];rfl
theorem rbit_out(a b c d i:Int)(w:World)(h:i<0\/256<=i):
 CC 92 #[A4 a b c d,iI i] w (.bool false):=by
 by_cases h0:i<0
 ·go_enter Tryz.func92,Tryz.ntmps92
  go_wp2
  go_ret
  exact⟨rfl,by go_grown⟩
 ·have h1:256<=i:=Z1
  have h2:0<=i:=Z1
  go_enter Tryz.func92,Tryz.ntmps92
  go_wp2
  go_ret
  exact⟨rfl,by go_grown⟩
theorem V4(a b c d i r x:Int)(k:Nat)(w:World)(ha:W64 a)(hb:W64 b)(hc:W64 c)(hd:W64 d)(h0:0<=i)(h1:i<256)(hk8:(k:Int)<8)(hk:i/32=(k:Int))(hr:i%32=r)(hx:(dgl 4 a b c d)[k]?=some (iU x))(x0:0<=x)(x1:x<18446744073709551616):
 CC 92 #[A4 a b c d,iI i] w (.bool (x/2^r.toNat%2==1)):=by
 have HX:Hid _:=hx
 clear hx
 go_enter Tryz.func92,Tryz.ntmps92
 go_wp2_with fail
 refine(Vi _ a b c d _ (by unfold C4;simp[go_sem]) ha hb hc hd).mono ?_
 rintro en w1 ⟨g,cap,rfl,hown,hB⟩
 have hcell:=hown.cells (g:=g) rfl k _ HX.out
 have hadd:(⟨g,0,none⟩:Addr).add k=⟨g,k,none⟩:=by unfold Addr.add;split<;>simp_all
 rw[hadd] at hcell
 have hB':Bw w w1:=Z7 (Z5 (Zf w) _) hB
 clear hown hB hadd
 have HC:Hid _:=hcell
 clear hcell
 go_wp2_with fail
 refine(bitd_any g cap k x i r _ hk8 Z1 HC.out x0 x1 h0 h1 hk hr Z1 Z1).mono ?_
 rintro en w2 ⟨rfl,rfl⟩
 go_wp2
 go_ret
 exact⟨rfl,hB'⟩
theorem rBit_any(a b c d i:Int)(w:World)(ha:W64 a)(hb:W64 b)(hc:W64 c)(hd:W64 d):
 CC 92 #[A4 a b c d,iI i] w (.bool (bitv a b c d i)):=by
 by_cases h:i<0\/256<=i
 ·have e:bitv a b c d i=false:=by
   unfold bitv;rcases h with h | h
   ·simp;omega
   ·simp;omega
  rw[e];exact rbit_out a b c d i w h
 ·have h0:0<=i:=Z1
  have h1:i<256:=Z1
  have hc8:i/32=0\/i/32=1\/i/32=2\/i/32=3\/i/32=4\/i/32=5\/i/32=6\/i/32=7:=Z1
  unfold bitv wordOf
  simp only[h0,h1,decide_true,Bool.true_and]
  have ha':=ha;have hb':=hb;have hc':=hc;have hd':=hd
  obtain⟨a1,a2⟩:=ha';obtain⟨b1,b2⟩:=hb';obtain⟨c1,c2⟩:=hc';obtain⟨d1,d2⟩:=hd'
  rcases hc8 with hk | hk | hk | hk | hk | hk | hk | hk
  ·have hq:i/64=0:=Z1
   have:=V4 a b c d i (i%32) (a%4294967296) 0 w ha hb hc hd h0 h1 Z1 hk rfl rfl Z1 Z1
   rw[hq]
   rw[half_lo a (i%32).toNat Z1,show (i%32).toNat=(i%64).toNat by omega] at this
   exact this
  ·have hq:i/64=0:=Z1
   have:=V4 a b c d i (i%32) (a/4294967296) 1 w ha hb hc hd h0 h1 Z1 hk rfl rfl Z1 Z1
   rw[hq]
   rw[half_hi a (i%32).toNat,show 32+(i%32).toNat=(i%64).toNat by omega] at this
   exact this
  ·have hq:i/64=1:=Z1
   have:=V4 a b c d i (i%32) (b%4294967296) 2 w ha hb hc hd h0 h1 Z1 hk rfl rfl Z1 Z1
   rw[hq]
   rw[half_lo b (i%32).toNat Z1,show (i%32).toNat=(i%64).toNat by omega] at this
   exact this
  ·have hq:i/64=1:=Z1
   have:=V4 a b c d i (i%32) (b/4294967296) 3 w ha hb hc hd h0 h1 Z1 hk rfl rfl Z1 Z1
   rw[hq]
   rw[half_hi b (i%32).toNat,show 32+(i%32).toNat=(i%64).toNat by omega] at this
   exact this
  ·have hq:i/64=2:=Z1
   have:=V4 a b c d i (i%32) (c%4294967296) 4 w ha hb hc hd h0 h1 Z1 hk rfl rfl Z1 Z1
   rw[hq]
   rw[half_lo c (i%32).toNat Z1,show (i%32).toNat=(i%64).toNat by omega] at this
   exact this
  ·have hq:i/64=2:=Z1
   have:=V4 a b c d i (i%32) (c/4294967296) 5 w ha hb hc hd h0 h1 Z1 hk rfl rfl Z1 Z1
   rw[hq]
   rw[half_hi c (i%32).toNat,show 32+(i%32).toNat=(i%64).toNat by omega] at this
   exact this
  ·have hq:i/64=3:=Z1
   have:=V4 a b c d i (i%32) (d%4294967296) 6 w ha hb hc hd h0 h1 Z1 hk rfl rfl Z1 Z1
   rw[hq]
   rw[half_lo d (i%32).toNat Z1,show (i%32).toNat=(i%64).toNat by omega] at this
   exact this
  ·have hq:i/64=3:=Z1
   have:=V4 a b c d i (i%32) (d/4294967296) 7 w ha hb hc hd h0 h1 Z1 hk rfl rfl Z1 Z1
   rw[hq]
   rw[half_hi d (i%32).toNat,show 32+(i%32).toNat=(i%64).toNat by omega] at this
   exact this
theorem bl_zero:bl 0=0:=Z2
theorem bl_half(x:Int)(h0:0<x)(h1:x<18446744073709551616):bl x=1+bl (x/2):=by
 unfold bl
 have e:=Lib.bitLen_half x.toNat Z1 Z1
 rw[show (x/2).toNat=x.toNat/2 by omega,e];omega
theorem bl_pos(x:Int)(h0:0<x)(h1:x<18446744073709551616):0<bl x:=(bl_spec x ⟨Z1,h1⟩ Z1).1
theorem bl_le32(x:Int)(h:H32 x):0<=bl x/\bl x<=32:=by
 obtain⟨h0,h1⟩:=h
 have:=Lib.bitLen_le x.toNat 32 Z1 Z1
 unfold bl;omega
theorem lo32'(x:Int):H32 (x%4294967296):=by unfold H32;omega
theorem hi32'(x:Int)(h:W64 x):H32 (x/4294967296):=by unfold W64 at h;unfold H32;omega
theorem len_core(g cap:Nat)(x:Nat->Int)(R:Int)(w:World)(hc:Hid (∀j,j<8->w.cell? ⟨g,j,none⟩=some (iU (x j))))(hx:Hid (∀j,j<8->H32 (x j)))(hR0:Hid ((∀j,j<8->x j=0)->R=0))(hR:Hid (∀i,i<8->x i≠0->(∀j,i<j->j<8->x j=0)->R=32*(i:Int)+bl (x i))):
 Calls Tryz.prog 116 #[.slice (some ⟨g,0,none⟩) 8 cap] w fun en w'=>en= .returned (iI R)/\w'=w:=by
 go_enter Tryz.func116,Tryz.ntmps116
 go_wp2
 go_loop [3,4,5] (fun s _ _=> ∃k:Nat,k<=8/\s=iI ((k:Int) -1)/\Hid (∀j,k<=j->j<8->x j=0)) (fun s _ _=>((intOf s)+1).toNat)
 case atStart=>exact⟨8,Z1,rfl,fun j h1 h2=>Z1⟩
 case round=>
  obtain⟨k,hk,rfl,hz⟩:=hrel
  match k,hk,hz with
  | 0,hk,hz=>
   have h0: ¬(0:Int)<=((0:Nat):Int) -1:=Z1
   have e:Hid (R=0):=hR0.out fun j hj=>hz.out j Z1 hj
   go_wp2
   exact bodyPost_ret (v:=iI 0) (by simp[results,Tryz.results116,go_sem]) rfl ⟨by rw[e.out],rfl⟩
  | i+1,hk,hz=>
   have h0:(0:Int)<=((i+1:Nat):Int) -1:=Z1
   have ei:((i+1:Nat):Int) -1=(i:Int):=Z1
   have hi8:(i:Int)<8:=Z1
   have hci:=hc.out i Z1
   have hxi:=hx.out i Z1
   have hRi:=hR.out i Z1
   have hz2:Hid (x i=0-> ∀j,i<=j->j<8->x j=0):=fun e j h1 h2=>by
    by_cases h3:j=i
    ·rw[h3,e]
    ·exact hz.out j Z1 h2
   have hRi:Hid (x i≠0->R=32*(i:Int)+bl (x i)):=fun h=>hRi h fun j h1 h2=>hz.out j Z1 h2
   obtain⟨y,ey⟩:=Z3 (x i)
   rw[ey] at hci hxi hRi hz2
   have hbd:=bl_le32 y hxi
   have xl:=hxi.1
   have xu:=hxi.2
   rw[ei] at h0⊢
   clear ey ei hz
   go_wp2
   go_loop [4,5] (fun s4 s5=> ∃n c:Int,s4=iI n/\s5=iU c/\0<=n/\n<=32/\0<=c/\c<4294967296/\Hid (n+bl c=bl y)) (fun _ s5=>(intOf s5).toNat)
   case atStart=>exact⟨0,y,rfl,rfl,Z1,Z1,xl,xu,by show 0+bl y=bl y;omega⟩
   case round=>
    obtain⟨n,c,rfl,rfl,n1,n2,c1,c2,he⟩:=hrel
    by_cases hc0:0<c
    ·have hh:=bl_half c hc0 Z1
     have hp:=(Vm (c/2) ⟨Z1,Z1⟩).1
     have he2:Hid (n+1+bl (c/2)=bl y):=by have:=he.out;show n+1+bl (c/2)=bl y;omega
     have hn3:n+1<=32:=by have:=he2.out;omega
     clear hh hp he
     go_wp2
     exact⟨⟨n+1,c/2,by go_num,rfl,Z1,hn3,Z1,Z1,he2⟩,by simp[intOf];omega⟩
    ·obtain rfl:c=0:=Z1
     have he:=he.out
     rw[bl_zero,Int.add_zero] at he
     by_cases hn0:0<n
     ·have hy:y≠0:=fun e=>by rw[e,bl_zero] at he;omega
      have hRR:Hid (R=32*(i:Int)+n):=by show R=_;rw[hRi.out hy,<-he]
      clear he
      have m1:IntKind.i64.wrap (32*(i:Int))=32*(i:Int):=by rw[IntKind.wrap_i64];omega
      have m2:IntKind.i64.wrap (32*(i:Int)+n)=32*(i:Int)+n:=by rw[IntKind.wrap_i64];omega
      go_wp2
      exact bodyPost_ret (v:=iI (32*(i:Int)+n)) (by simp[results,Tryz.results116,go_sem]) rfl ⟨by rw[hRR.out],rfl⟩
     ·have hy:y=0:=by
       by_cases e:y=0
       ·exact e
       ·have:=bl_pos y Z1 Z1;omega
      have hz3:Hid _:=hz2.out hy
      clear he hy
      have m3:IntKind.i64.wrap ((i:Int) -1)=(i:Int) -1:=by rw[IntKind.wrap_i64];omega
      go_wp2
      exact⟨⟨i,Z1,rfl,hz3.out⟩,by simp[intOf]<;>omega⟩
theorem bl_hi(x:Int)(h:W64 x)(hx: ¬x/4294967296=0):bl x=32+bl (x/4294967296):=by
 obtain⟨h0,h1⟩:=h
 unfold bl
 have e:=Lib.bitLen_shift32 x.toNat Z1 Z1
 rw[show (x/4294967296).toNat=x.toNat/4294967296 by omega,e];omega
theorem bl_lo(x:Int)(h:W64 x)(hx:x/4294967296=0):bl x=bl (x%4294967296):=by
 obtain⟨h0,h1⟩:=h
 rw[show x%4294967296=x by omega]
theorem blen_dig(a b c d:Int)(ha:W64 a)(hb:W64 b)(hc:W64 c)(hd:W64 d):(∀i,i<8->[a%4294967296,a/4294967296,b%4294967296,b/4294967296,c%4294967296,c/4294967296,d%4294967296,d/4294967296].getD i 0≠0->(∀j,i<j->j<8->[a%4294967296,a/4294967296,b%4294967296,b/4294967296,c%4294967296,c/4294967296,d%4294967296,d/4294967296].getD j 0=0)->blen a b c d=32*(i:Int)+bl ([a%4294967296,a/4294967296,b%4294967296,b/4294967296,c%4294967296,c/4294967296,d%4294967296,d/4294967296].getD i 0))/\((∀j,j<8->[a%4294967296,a/4294967296,b%4294967296,b/4294967296,c%4294967296,c/4294967296,d%4294967296,d/4294967296].getD j 0=0)->blen a b c d=0):=by
 have hi: ∀x,W64 x->x/4294967296≠0->x≠0/\bl x=32+bl (x/4294967296):=fun x hx h=>⟨Z1,bl_hi x hx h⟩
 have lo: ∀x,W64 x->x%4294967296≠0->x/4294967296=0->x≠0/\bl x=bl (x%4294967296):=fun x hx h h2=>⟨Z1,bl_lo x hx h2⟩
 have zz: ∀x:Int,x%4294967296=0->x/4294967296=0->x=0:=fun x h1 h2=>Z1
 have A3:d≠0->blen a b c d=192+bl d:=fun h=>by unfold blen;rw[if_pos h]
 have A2:d=0->c≠0->blen a b c d=128+bl c:=fun h h2=>by unfold blen;rw[if_neg (by simp[h]),if_pos h2]
 have A1:d=0->c=0->b≠0->blen a b c d=64+bl b:=fun h h2 h3=>by unfold blen;rw[if_neg (by simp[h]),if_neg (by simp[h2]),if_pos h3]
 have A0:d=0->c=0->b=0->a≠0->blen a b c d=bl a:=fun h h2 h3 h4=>by unfold blen;rw[if_neg (by simp[h]),if_neg (by simp[h2]),if_neg (by simp[h3]),if_pos h4]
 refine⟨fun i h8 h z=>?_,fun z=>?_⟩
 ·match i,h8,h,z with
  | 7,_,h,z=>obtain⟨h1,h2⟩:=hi d hd h;rw[A3 h1,h2];simp;omega
  | 6,_,h,z=>obtain⟨h1,h2⟩:=lo d hd h (z 7 Z2 Z2);rw[A3 h1,h2];simp
  | 5,_,h,z=>obtain⟨h1,h2⟩:=hi c hc h;rw[A2 (zz d (z 6 Z2 Z2) (z 7 Z2 Z2)) h1,h2];simp;omega
  | 4,_,h,z=>obtain⟨h1,h2⟩:=lo c hc h (z 5 Z2 Z2);rw[A2 (zz d (z 6 Z2 Z2) (z 7 Z2 Z2)) h1,h2];simp
  | 3,_,h,z=>obtain⟨h1,h2⟩:=hi b hb h;rw[A1 (zz d (z 6 Z2 Z2) (z 7 Z2 Z2)) (zz c (z 4 Z2 Z2) (z 5 Z2 Z2)) h1,h2];simp;omega
  | 2,_,h,z=>obtain⟨h1,h2⟩:=lo b hb h (z 3 Z2 Z2);rw[A1 (zz d (z 6 Z2 Z2) (z 7 Z2 Z2)) (zz c (z 4 Z2 Z2) (z 5 Z2 Z2)) h1,h2];simp
  | 1,_,h,z=>obtain⟨h1,h2⟩:=hi a ha h;rw[A0 (zz d (z 6 Z2 Z2) (z 7 Z2 Z2)) (zz c (z 4 Z2 Z2) (z 5 Z2 Z2)) (zz b (z 2 Z2 Z2) (z 3 Z2 Z2)) h1,h2];simp
  | 0,_,h,z=>obtain⟨h1,h2⟩:=lo a ha h (z 1 Z2 Z2);rw[A0 (zz d (z 6 Z2 Z2) (z 7 Z2 Z2)) (zz c (z 4 Z2 Z2) (z 5 Z2 Z2)) (zz b (z 2 Z2 Z2) (z 3 Z2 Z2)) h1,h2];simp
 ·have e0:=zz a (z 0 Z2) (z 1 Z2)
  have e1:=zz b (z 2 Z2) (z 3 Z2)
  have e2:=zz c (z 4 Z2) (z 5 Z2)
  have e3:=zz d (z 6 Z2) (z 7 Z2)
  subst e0 e1 e2 e3;decide
theorem rLength_any(a b c d:Int)(w:World)(ha:W64 a)(hb:W64 b)(hc:W64 c)(hd:W64 d):
 CC 91 #[A4 a b c d] w (iI (blen a b c d)):=by
 obtain⟨B1,B2⟩:=blen_dig a b c d ha hb hc hd
 have B1:Hid _:=B1
 have B2:Hid _:=B2
 obtain⟨R,eR⟩:=Z3 (blen a b c d)
 rw[eR] at B1 B2⊢
 clear eR
 go_enter Tryz.func91,Tryz.ntmps91
 go_wp2_with fail
 refine(Vi _ a b c d _ (by unfold C4;simp[go_sem]) ha hb hc hd).mono ?_
 rintro en w1 ⟨g,cap,rfl,hown,hB⟩
 have hadd: ∀k,(⟨g,0,none⟩:Addr).add k=⟨g,k,none⟩:=fun k=>by unfold Addr.add;split<;>simp_all
 have hcs: ∀k u,(dgl 4 a b c d)[k]?=some u->w1.cell? ⟨g,k,none⟩=some u:=fun k u hu=>by
  have:=hown.cells (g:=g) rfl k u hu
  rw[hadd] at this;exact this
 have HCS:Hid _:=hcs
 have hB':Bw w w1:=Z7 (Z5 (Zf w) _) hB
 clear hown hB hadd hcs
 go_wp2_with fail
 refine(len_core g cap (fun j=>[a%4294967296,a/4294967296,b%4294967296,b/4294967296,c%4294967296,c/4294967296,d%4294967296,d/4294967296].getD j 0) R _ (fun j hj=>?_) (fun j hj=>?_) B2.out B1.out).mono ?_
 ·match j,hj with | 0,_=>exact HCS.out 0 _ rfl | 1,_=>exact HCS.out 1 _ rfl | 2,_=>exact HCS.out 2 _ rfl | 3,_=>exact HCS.out 3 _ rfl | 4,_=>exact HCS.out 4 _ rfl | 5,_=>exact HCS.out 5 _ rfl | 6,_=>exact HCS.out 6 _ rfl | 7,_=>exact HCS.out 7 _ rfl
 ·match j,hj with | 0,_=>exact lo32' a | 1,_=>exact hi32' a ha | 2,_=>exact lo32' b | 3,_=>exact hi32' b hb | 4,_=>exact lo32' c | 5,_=>exact hi32' c hc | 6,_=>exact lo32' d | 7,_=>exact hi32' d hd
 rintro en w2 ⟨rfl,rfl⟩
 go_wp2
 go_ret
 exact⟨rfl,hB'⟩
end
end Go.Proofs.YtoffgfhilkpdpaaGreatDoor
