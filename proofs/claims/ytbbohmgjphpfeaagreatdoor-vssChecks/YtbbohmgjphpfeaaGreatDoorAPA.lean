import Derived.Test.YtbbohmgjphpfeaaGreatDoorRN2
import Derived.Test.YtbbohmgjphpfeaaGreatDoorIT
import Derived.Lib.SmallJoins
import Derived.Lib.ItoaLen
import Derived.Deep.OwnRows
namespace Go.Proofs.YtbbohmgjphpfeaaGreatDoor
set_option linter.unusedVariables false
set_option linter.unusedSimpArgs false
set_option maxRecDepth 100000
set_option maxHeartbeats 4000000
section
open Go.RowKit Go.Extern.Stop Go.Stop Go.Extern
inductive AV (n:Int) (w:World):Nat->Value->Prop
 | leaf (d:Nat):AV n w d (.iface 31 (.int .i64 n))
 | flt (d:Nat) (s:ByteArray) (k:Value):AV n w d k->AV n w (d+1) (.iface 143 (.agg #[.string s,k]))
 | join (d b g o m c:Nat) (x:Value):0<m->m<=1000000->w.cell? ⟨b,0,none⟩=some (.slice (some ⟨g,o,none⟩) m c)->b<w.heap.size->g<w.heap.size->w.cell? ⟨g,o,none⟩=some x->AV n w d x->AV n w (d+1) (.iface 160 (.pointer (some ⟨b,0,none⟩)))
theorem AV.up {n:Int} {w u:World} (hB:Bw w u) {d:Nat} {v:Value} (h:AV n w d v):AV n u d v:=by
 induction h with
 | leaf d=>exact .leaf d
 | flt d s k _ ih=>exact .flt d s k ih
 | join d b g o m c x h0 h00 h1 h2 h3 h4 _ ih=>exact .join d b g o m c x h0 h00 ((hB.cell (p:=⟨b,0,none⟩) h2).trans h1) (Nat.lt_of_lt_of_le h2 hB.size) (Nat.lt_of_lt_of_le h3 hB.size) ((hB.cell (p:=⟨g,o,none⟩) h3).trans h4) ih
theorem AV.some {n:Int} {w:World} {d:Nat} {v:Value} (h:AV n w d v): ∃T x,v= .iface T x:=by
 cases h with
 | leaf=>exact⟨_,_,rfl⟩
 | flt=>exact⟨_,_,rfl⟩
 | join=>exact⟨_,_,rfl⟩
def AE (b:Bool) (w:World) (v:Value):Prop:=(b=false/\v= .nilIface)\/(b=true/\ ∃d,AV 2 w d v)
theorem AE.up {b:Bool} {w u:World} (hB:Bw w u) {v:Value} (h:AE b w v):AE b u v:=h.imp id fun⟨h1,d,h⟩=>⟨h1,d,h.up hB⟩
theorem AE.stab {b:Bool} {u u2:World} {x:Value} (hB:Bw u u2) (h:AE b u x):AE b u2 x:=h.up hB
structure GP (w:World):Prop where
 sz:1<w.heap.size
 tab:Lib.TabIs Tryz.prog w "internal/strconv.uint64pow10" .u64 Lib.pow10Tab
 typ:w.cell? ⟨0,0,none⟩=some (.iface 186 (.agg #[.pointer (some ⟨6,90,none⟩)]))
theorem gPow:Tryz.prog.globalNamed "internal/strconv.uint64pow10" =some 1:=by kernel_rfl
theorem GP.below {w u:World} (h:GP w) (hB:Bw w u):GP u where
 sz:=Nat.lt_of_lt_of_le h.sz hB.size
 tab:=Go.Joins.tab_stays gPow h.tab hB (Nat.le_refl _)
 typ:=(hB.cell (p:=⟨0,0,none⟩) (Nat.lt_of_le_of_lt (by decide) h.sz)).trans h.typ
theorem below_grow (w:World) (k:Nat) (os:Array Obj):Bw w (Go.Sort.grow (w.drewN k) os):=by
 have h1:(w.drewN k).heap=w.heap:=rfl
 exact⟨rfl,rfl,rfl,by simp[Go.Sort.grow,h1],fun i hi=>by simp[Go.Sort.grow,h1,Array.getElem?_append_left hi]⟩
def ia (n:Int):ByteArray:=⟨(Lib.itoa n).toArray⟩
theorem ia_sz (n:Int) (h0: -9223372036854775808<=n) (h1:n<=9223372036854775807):(ia n).size<=21:=by
 have:=Lib.itoa_length_le n h0 h1
 simpa [ia,ByteArray.size] using this
theorem cItoa (n:Int) (w:World) (h0: -9223372036854775808<=n) (h1:n<=9223372036854775807) (hG:GP w):CC 87 #[.int .i64 n] w (.string (ia n)):=by
 refine(Tryz.strconv_Itoa n h0 h1 w hG.tab).mono ?_
 rintro e u ⟨rfl,k,os,rfl⟩
 exact⟨rfl,below_grow w k os⟩
theorem pkE_le (xs:Nat->Value) (b:Nat->Bool): ∀i,(pkE xs b i).length<=i
 | 0=>Nat.le_refl _
 | i+1=>by
  have:=pkE_le xs b i
  rw[pkE];split
  ·rw[List.length_append];simp;omega
  ·omega
theorem cJoin2 (g c:Nat) (x0 x1:Value) (b0 b1:Bool) (w:World) (hg:g<w.heap.size) (c0:w.cell? ⟨g,0,none⟩=some x0) (c1:w.cell? ⟨g,1,none⟩=some x1) (h0:AE b0 w x0) (h1:AE b1 w x1):
 Calls Tryz.prog 93 #[.slice (some ⟨g,0,none⟩) 2 c] w fun r u'=> ∃y,r= .returned y/\AE (b0 || b1) u' y/\Bw w u':=by
 have hx: ∀i,i<2->w.cell? ⟨g,0+i,none⟩=some ((fun i:Nat=>if i=0 then x0 else x1) i):=fun i hi=>by
  match i,hi with
  | 0,_=>exact c0
  | 1,_=>exact c1
 have hb: ∀(b:Bool) (x:Value),AE b w x->b=false/\x= .nilIface\/b=true/\ ∃T y,x= .iface T y:=fun b x h=>h.imp id fun⟨h1,d,h⟩=>⟨h1,h.some⟩
 refine(join_core 2 c (some ⟨g,0,none⟩) (fun i=>if i=0 then x0 else x1) (fun i=>if i=0 then b0 else b1) w (by omega) (fun _=>⟨g,0,rfl,hg,hx⟩) (fun i hi=>?_) (fun i=>?_)).mono ?_
 ·match i,hi with
  | 0,_=>exact hb _ _ h0
  | 1,_=>exact hb _ _ h1
 ·exact pkE_le _ _ i
 ·rintro e u ⟨y,rfl,hp,hB⟩
  refine⟨y,rfl,?_,hB⟩
  have en: ∀z,AE false w z->z= .nilIface:=fun z h=>h.elim (fun h=>h.2) (fun h=>by cases h.1)
  have ev: ∀z,AE true w z-> ∃d,AV 2 w d z:=fun z h=>h.elim (fun h=>by cases h.1) (fun h=>h.2)
  rcases hp with⟨p1,rfl⟩ | ⟨J,bo,m,co,zs,rfl,hJ,hbo,hm,hm0,hc1,hc2⟩
  ·cases b0<;>cases b1<;>simp[pkE] at p1
   exact .inl ⟨rfl,rfl⟩
  ·have key: ∀z l,pkE (fun i=>if i=0 then x0 else x1) (fun i=>if i=0 then b0 else b1) 2=z::l->AE true w z->AE true u (.iface 160 (.pointer (some ⟨J,0,none⟩))):=fun z l e hz=>by
    obtain⟨d,hz⟩:=ev z hz
    rw[e] at hc2 hm
    have hml:m<=1000000:=by
     have:(pkE (fun i=>if i=0 then x0 else x1) (fun i=>if i=0 then b0 else b1) 2).length<=2:=by
      cases b0<;>cases b1<;>simp[pkE]
     rw[e] at this;omega
    exact .inr ⟨rfl,d+1,.join d J bo 0 m co z hm0 hml (hc1 0 _ rfl).1 hJ hbo (hc2 0 _ rfl).1 (hz.up hB)⟩
   cases b0<;>cases b1
   ·simp[pkE] at hm;omega
   ·exact key x1 [] (by simp[pkE]) h1
   ·exact key x0 [] (by simp[pkE]) h0
   ·exact key x0 [x1] (by simp[pkE]) h0
theorem Tryz.directE (w:World):(Rtype.directlyAssignable 31 31).run Tryz.prog w= .ok true w:=by kernel_rfl
theorem Tryz.setE0 (ta b:Addr) (W:World):
 (ReflectliteValue.set #[.agg #[.pointer (some ⟨6,31,none⟩),.pointer (some ta),.int .u64 386],.agg #[.pointer (some ⟨6,31,none⟩),.pointer (some b),.int .u64 130]]).run Tryz.prog W
  =((do let v<-loadVar 31 b;storeVar 31 ta v;pure (.tuple #[])):Sem Value).run Tryz.prog W:=by kernel_rfl
theorem Tryz.setE (ta b:Addr) (n:Int) (old:Value) (W:World) (hb:W.cell? b=some (.int .i64 n)) (ht:W.cell? ta=some old) (hf:W.frozen? ta=false):
 (ReflectliteValue.set #[.agg #[.pointer (some ⟨6,31,none⟩),.pointer (some ta),.int .u64 386],.agg #[.pointer (some ⟨6,31,none⟩),.pointer (some b),.int .u64 130]]).run Tryz.prog W
  = .ok (.tuple #[]) (W.setCell ta (.int .i64 n)):=by
 rw[Tryz.setE0]
 simp[ReflectliteValue.flagAddr,loadVar,isAgg,underlying,Tryz.underlying31,hb,Result.andThen,Tryz.directE,storeVar,Value.cells,storeCells,Addr.add]
 rw[run_store Tryz.prog W ta _ _ (by rfl)]
 simp[ht,hf]
end
section
open Go.RowKit
def byp (a b c d:Int) (p:Nat):Int:=(if p/8=0 then a else if p/8=1 then b else if p/8=2 then c else d)/2^(p%8*8)%256
def CB (w:World) (n k:Nat) (a b c d:Int):Prop:= ∀j,j<32->w.cell? ⟨n,j,none⟩=some (.int .u8 (if 32<=j+k then byp a b c d (31 -j) else 0))/\w.frozen? ⟨n,j,none⟩=false
theorem CB.below {w w':World} {m n k:Nat} {a b c d:Int} (h:CB w n k a b c d) (hb:Below m w w') (hn:n<m):CB w' n k a b c d:=fun j hj=>by
 rw[hb.cell (p:=⟨n,j,none⟩) hn,hb.frozen (p:=⟨n,j,none⟩) hn];exact h j hj
theorem CB.set {w:World} {n k:Nat} {a b c d:Int} (h:CB w n k a b c d) (hk:k<32) (v:Int) (hv:v=byp a b c d k):CB (w.setCell ⟨n,31 -k,none⟩ (.int .u8 v)) n (k+1) a b c d:=fun j hj=>by
 rw[World.frozen?_setCell]
 obtain⟨hc,hf⟩:=h (31 -k) (by omega)
 by_cases e:j=31 -k
 ·subst e
  refine⟨?_,hf⟩
  rw[if_pos (by omega),show 31 -(31 -k)=k by omega,hv]
  simp[go_sem,hc]
 ·obtain⟨hc',hf'⟩:=h j hj
  refine⟨?_,hf'⟩
  rw[World.cell?_setCell_other _ _ _ _ (by simp<;>omega),hc']
  by_cases g:32<=j+k
  ·rw[if_pos g,if_pos (by omega)]
  ·rw[if_neg g,if_neg (by omega)]
def z32b:Array Value:=Array.replicate 32 (.int .u8 0)
theorem CB.new (w:World) (a b c d:Int):CB (w.alloc (.cells z32b 5)) w.heap.size 0 a b c d:=fun j hj=>by
 have hf:(w.alloc (.cells z32b 5)).frozen? ⟨w.heap.size,j,none⟩=false:=by simp[go_sem]
 refine⟨?_,hf⟩
 rw[cell_of_row _ w.heap.size j _ 5 (0,0) (heap_alloc_new _ _),if_neg (by omega)]
 simp[z32b,hj]
def byl (a b c d:Int):List Int:=(List.range 32).map fun j=>byp a b c d (31 -j)
theorem CB.get {w:World} {g:Nat} {a b c d:Int} (h:CB w g 32 a b c d): ∀i,i<32->w.cell? ⟨g,0+i,none⟩=some (.int .u8 ((byl a b c d).getD i 0)):=fun i hi=>by
 have:=(h i hi).1
 rw[if_pos (by omega)] at this
 rw[Nat.zero_add,this]
 unfold byl
 simp[List.getD,hi]
theorem Tryz.info5:(Tryz.prog.info? 5).map (fun i=>(i.zero,i.size,i.bytes))=some (some (.int .u8 0),1,1):=by kernel_rfl
def hexc (v:Int):Int:=if v<10 then 48+v else 87+v
def nib (a b c d:Int) (p:Nat):Int:=(if p/16=0 then a else if p/16=1 then b else if p/16=2 then c else d)/2^(p%16*4)%16
theorem hex_at (v:Int) (h0:0<=v) (h1:v<16) (hh:v.toNat<(ByteArray.mk #[48,49,50,51,52,53,54,55,56,57,97,98,99,100,101,102]).size):((((ByteArray.mk #[48,49,50,51,52,53,54,55,56,57,97,98,99,100,101,102])[v.toNat]'hh).toNat:Nat):Int)=hexc v:=by
 obtain⟨n,rfl⟩:=Int.eq_ofNat_of_zero_le h0
 have hn:n<16:=by omega
 have key: ∀m:Fin 16,((((ByteArray.mk #[48,49,50,51,52,53,54,55,56,57,97,98,99,100,101,102])[m.val]'(by have:=m.isLt;show m.val<16;omega)).toNat:Nat):Int)=hexc (m.val:Int):=by decide
 exact key ⟨n,hn⟩
theorem and15 (x:Int) (h:W64 x):bits .and .u64 x 15=x%16:=by
 obtain⟨h1,h2⟩:=h
 obtain⟨x,rfl⟩:=Int.eq_ofNat_of_zero_le h1
 have e:=bits_and_u64_nat x 15 (by omega) (by omega)
 have f:x&&&15=x%16:=Nat.and_two_pow_sub_one_eq_mod x 4
 rw[f] at e
 exact e.trans (by omega)
def CT (w:World) (n N k:Nat) (a b c d:Int):Prop:= ∀j,j<N->w.cell? ⟨n,j,none⟩=some (.int .u8 (if N<=j+k then hexc (nib a b c d (N -1 -j)) else 0))/\w.frozen? ⟨n,j,none⟩=false
theorem CT.set {w:World} {n N k o:Nat} {a b c d:Int} (h:CT w n N k a b c d) (hk:k<N) (ho:o=N -1 -k) (v:Int) (hv:v=hexc (nib a b c d k)):CT (w.setCell ⟨n,o,none⟩ (.int .u8 v)) n N (k+1) a b c d:=fun j hj=>by
 subst ho
 rw[World.frozen?_setCell]
 obtain⟨hc,hf⟩:=h (N -1 -k) (by omega)
 by_cases e:j=N -1 -k
 ·subst e
  refine⟨?_,hf⟩
  rw[if_pos (by omega),show N -1 -(N -1 -k)=k by omega,hv]
  simp[go_sem,hc]
 ·obtain⟨hc',hf'⟩:=h j hj
  refine⟨?_,hf'⟩
  rw[World.cell?_setCell_other _ _ _ _ (by simp<;>omega),hc']
  by_cases g:N<=j+k
  ·rw[if_pos g,if_pos (by omega)]
  ·rw[if_neg g,if_neg (by omega)]
theorem CT.new (w:World) (N:Nat) (a b c d:Int):CT (w.alloc (.cells (madeCells #[.int .u8 0] N) 5)) w.heap.size N 0 a b c d:=fun j hj=>by
 have hf:(w.alloc (.cells (madeCells #[.int .u8 0] N) 5)).frozen? ⟨w.heap.size,j,none⟩=false:=by simp[go_sem]
 refine⟨?_,hf⟩
 rw[cell_of_row _ w.heap.size j _ 5 (0,0) (heap_alloc_new _ _),if_neg (by omega)]
 simp[madeCells,hj,Nat.mod_one]
def txl (a b c d:Int) (N:Nat):List Int:=(List.range N).map fun j=>hexc (nib a b c d (N -1 -j))
theorem CT.get {w:World} {g N:Nat} {a b c d:Int} (h:CT w g N N a b c d): ∀i,i<N->w.cell? ⟨g,0+i,none⟩=some (.int .u8 ((txl a b c d N).getD i 0)):=fun i hi=>by
 have:=(h i hi).1
 rw[if_pos (by omega)] at this
 rw[Nat.zero_add,this]
 unfold txl
 simp[List.getD,hi]
def nd (a b c d:Int):Nat:=if blen a b c d=0 then 1 else ((blen a b c d+3)/4).toNat
theorem blen_bd (a b c d:Int) (ha:W64 a) (hb:W64 b) (hc:W64 c) (hd:W64 d):0<=blen a b c d/\blen a b c d<=256:=by
 have h1:=Vz a ha;have h2:=Vz b hb;have h3:=Vz c hc;have h4:=Vz d hd
 unfold blen;split
 ·omega
 ·split
  ·omega
  ·split
   ·omega
   ·split<;>omega
theorem Text_any (a b c d:Int) (w:World) (ha:W64 a) (hb:W64 b) (hc:W64 c) (hd:W64 d):
 CC 104 #[A4 a b c d] w (.string (strOfNums (txl a b c d (nd a b c d)))):=by
 have hbb:=blen_bd a b c d ha hb hc hd
 obtain⟨N,eN⟩: ∃N,nd a b c d=N:=⟨_,rfl⟩
 rw[eN]
 have hmax:(max 1 ((blen a b c d+3)/4):Int)=(N:Int):=by
  rw[<-eN];unfold nd;split<;>omega
 have hN1:1<=N:=by omega
 have hN2:N<=64:=by omega
 obtain⟨L,eL⟩: ∃L,blen a b c d=L:=⟨_,rfl⟩
 have hlen:=Up a b c d
 simp only[eL] at hlen hbb hmax
 have HLEN:Hid _:=hlen
 clear hlen eL eN
 have hmk:=fun w=>run_make_row' (P:=Tryz.prog) 118 5 (.int .u8 0) 1 Tryz.underlying118 Tryz.info5 rfl .i64 .i64 N (by omega) (by omega) w
 go_enter Tryz.func104,Tryz.ntmps104
 go_wp2_with fail
 refine(HLEN.out _ ha hb hc hd).mono ?_
 rintro en w1 ⟨rfl,hB⟩
 have hA1:C4 w1 w.heap.size a b c d:=C4.below (by unfold C4;simp[go_sem]) hB (by simp)
 have hq1:Bw w w1:=Z7 (Z3 (Zp w) _) hB
 have hs1:=hB.size
 simp only[World.size_alloc] at hs1
 clear hB
 have HM:Hid _:=hmax
 go_wp2
 go_loopw [14] (fun i wr=> ∃k:Nat,k<=N/\i= .int .i64 k/\Bw w wr/\w1.heap.size<wr.heap.size/\C4 wr w.heap.size a b c d/\CT wr w1.heap.size N k a b c d) (fun i _=>N -(intOf i).toNat)
 case atStart=>
  exact⟨0,by omega,rfl,Z3 hq1 _,by simp,hA1.alloc (by omega) _,CT.new w1 N a b c d⟩
 case round=>
  clear hA1 hq1 hmk hmax
  obtain⟨k,hk,rfl,hB,hs,hA,hO⟩:=hrel
  by_cases hlt:k<N
  ·have hlt':(k:Int)<(N:Int):=by omega
   have hA':=hA
   obtain⟨⟨ac0,ac1,ac2,ac3⟩,_⟩:=hA'
   obtain⟨oc,of⟩:=hO (N -1 -k) (by omega)
   have hz:(if N<=N -1 -k+k then hexc (nib a b c d (N -1 -(N -1 -k))) else 0)=0:=if_neg (by omega)
   rw[hz] at oc
   clear hz
   have hq:k/16=0\/k/16=1\/k/16=2\/k/16=3:=by omega
   rcases hq with hq | hq | hq | hq
   ·have hq':(k:Int)/16=0:=by omega
    have hnd:=and15 _ (W_shr a (k%16*4) ha)
    have hv0:0<=a/2^(k%16*4)%16:=by omega
    have hv1:a/2^(k%16*4)%16<16:=by omega
    go_wp2
    refine⟨⟨k+1,by omega,by go_num,?_,by simpa using hs,hA.other _ (by dsimp only;omega) _,hO.set hlt (by omega) _ ?_⟩,by simp[intOf];omega⟩
    ·exact hB.setCell (by show _<=_;dsimp only;omega) _
    ·rw[hex_at _ hv0 hv1];unfold nib;simp[hq]
   ·have hq':(k:Int)/16=1:=by omega
    have hnd:=and15 _ (W_shr b (k%16*4) hb)
    have hv0:0<=b/2^(k%16*4)%16:=by omega
    have hv1:b/2^(k%16*4)%16<16:=by omega
    go_wp2
    refine⟨⟨k+1,by omega,by go_num,?_,by simpa using hs,hA.other _ (by dsimp only;omega) _,hO.set hlt (by omega) _ ?_⟩,by simp[intOf];omega⟩
    ·exact hB.setCell (by show _<=_;dsimp only;omega) _
    ·rw[hex_at _ hv0 hv1];unfold nib;simp[hq]
   ·have hq':(k:Int)/16=2:=by omega
    have hnd:=and15 _ (W_shr c (k%16*4) hc)
    have hv0:0<=c/2^(k%16*4)%16:=by omega
    have hv1:c/2^(k%16*4)%16<16:=by omega
    go_wp2
    refine⟨⟨k+1,by omega,by go_num,?_,by simpa using hs,hA.other _ (by dsimp only;omega) _,hO.set hlt (by omega) _ ?_⟩,by simp[intOf];omega⟩
    ·exact hB.setCell (by show _<=_;dsimp only;omega) _
    ·rw[hex_at _ hv0 hv1];unfold nib;simp[hq]
   ·have hq':(k:Int)/16=3:=by omega
    have hnd:=and15 _ (W_shr d (k%16*4) hd)
    have hv0:0<=d/2^(k%16*4)%16:=by omega
    have hv1:d/2^(k%16*4)%16<16:=by omega
    go_wp2
    refine⟨⟨k+1,by omega,by go_num,?_,by simpa using hs,hA.other _ (by dsimp only;omega) _,hO.set hlt (by omega) _ ?_⟩,by simp[intOf];omega⟩
    ·exact hB.setCell (by show _<=_;dsimp only;omega) _
    ·rw[hex_at _ hv0 hv1];unfold nib;simp[hq]
  ·have hkN:k=N:=by omega
   subst hkN
   have hcv:=run_convert_bytes_arg (P:=Tryz.prog) wr 118 5 Tryz.underlying118 Tryz.underlying5 w1.heap.size 0 k k (txl a b c d k) (by simp[txl]) hO.get 9 Tryz.underlying9
   go_wp2
   go_ret
   exact⟨rfl,hB⟩
theorem bitd_any (g cap k:Nat) (x i r:Int) (w:World) (hk8:(k:Int)<8) (hk0:(0:Int)<=(k:Int)) (hc:w.cell? ⟨g,k,none⟩=some (.int .u64 x)) (x0:0<=x) (x1:x<18446744073709551616)
 (h0:0<=i) (h1:i<256) (hk:i/32=(k:Int)) (hr:i%32=r) (r0:0<=r) (r1:r<=31):
 Calls Tryz.prog 100 #[.slice (some ⟨g,0,none⟩) 8 cap,.int .i64 i] w fun en w'=>en= .returned (.int .u64 (x/2^r.toNat%2))/\w'=w:=by
 go_enter Tryz.func100,Tryz.ntmps100
 go_wp2
 go_loop [5,6] (fun s5 s6=> ∃j:Nat,(j:Int)<=r/\s6= .int .i64 j/\s5= .int .u64 (x/2^j)) (fun _ s6=>(r -intOf s6).toNat)
 case atStart=>exact⟨0,by omega,rfl,by simp⟩
 case round=>
  obtain⟨j,hj,rfl,rfl⟩:=hrel
  have hw:=W_shr x j ⟨x0,x1⟩
  obtain⟨hw0,hw1⟩:=hw
  have hstep:x/2^j/2=x/2^(j+1):=by rw[Int.pow_succ,Int.ediv_ediv_of_nonneg (Int.le_of_lt (Int.pow_pos (by omega)))]
  have HS:Hid (x/2^j/2=x/2^(j+1)):=hstep
  clear hstep hc
  by_cases hlt:(j:Int)<r
  ·go_wp2
   go_round
   case rel=>exact⟨j+1,by omega,by go_num,congrArg (Value.int IntKind.u64) HS.out⟩
   case measure=>simp[intOf];omega
  ·have hjr:j=r.toNat:=by omega
   subst hjr
   go_wp2
   go_ret
   exact⟨rfl,rfl⟩
theorem half_lo (x:Int) (n:Nat) (h:n<=31):x%4294967296/2^n%2=x/2^n%2:=by
 have p:(0:Int)<2^n:=Int.pow_pos (by omega)
 have e:(4294967296:Int)=2^n*(2*2^(31 -n)):=by
  rw[<-Int.mul_assoc,Int.mul_comm ((2:Int)^n) 2,Int.mul_assoc,<-Int.pow_add,show n+(31 -n)=31 by omega];rfl
 have m:=Int.mul_ediv_add_emod x 4294967296
 have hx:x=x%4294967296+2^n*(2*(2^(31 -n)*(x/4294967296))):=by
  have hq: ∀q:Int,(2:Int)^n*(2*(2^(31 -n)*q))=4294967296*q:=fun q=>by
   conv=>rhs;rw[e]
   rw[Int.mul_assoc,Int.mul_assoc]
  have:=hq (x/4294967296)
  omega
 have h2:x/2^n=x%4294967296/2^n+2*(2^(31 -n)*(x/4294967296)):=by
  conv=>lhs;rw[hx]
  rw[Int.add_mul_ediv_left _ _ (by omega)]
 rw[h2];omega
theorem half_hi (x:Int) (n:Nat):x/4294967296/2^n=x/2^(32+n):=by
 rw[Int.ediv_ediv_of_nonneg (by omega),Int.pow_add];rfl
theorem rbit_out (a b c d i:Int) (w:World) (h:i<0\/256<=i):
 CC 73 #[A4 a b c d,.int .i64 i] w (.bool false):=by
 by_cases h0:i<0
 ·go_enter Tryz.func73,Tryz.ntmps73
  go_wp2
  go_ret
  exact⟨rfl,by go_grown⟩
 ·have h1:256<=i:=by omega
  have h2:0<=i:=by omega
  go_enter Tryz.func73,Tryz.ntmps73
  go_wp2
  go_ret
  exact⟨rfl,by go_grown⟩
theorem Ww (a b c d i r x:Int) (k:Nat) (w:World) (ha:W64 a) (hb:W64 b) (hc:W64 c) (hd:W64 d) (h0:0<=i) (h1:i<256) (hk8:(k:Int)<8) (hk:i/32=(k:Int)) (hr:i%32=r) (hx:(dgl 4 a b c d)[k]?=some (.int .u64 x)) (x0:0<=x) (x1:x<18446744073709551616):
 CC 73 #[A4 a b c d,.int .i64 i] w (.bool (x/2^r.toNat%2==1)):=by
 have HX:Hid _:=hx
 clear hx
 go_enter Tryz.func73,Tryz.ntmps73
 go_wp2_with fail
 refine(Vh _ a b c d _ (by unfold C4;simp[go_sem]) ha hb hc hd).mono ?_
 rintro en w1 ⟨g,cap,rfl,hown,hB⟩
 have hcell:=hown.cells (g:=g) rfl k _ HX.out
 have hadd:(⟨g,0,none⟩:Addr).add k=⟨g,k,none⟩:=by unfold Addr.add;split<;>simp_all
 rw[hadd] at hcell
 have hB':Bw w w1:=Z7 (Z3 (Zp w) _) hB
 clear hown hB hadd
 have HC:Hid _:=hcell
 clear hcell
 go_wp2_with fail
 refine(bitd_any g cap k x i r _ hk8 (by omega) HC.out x0 x1 h0 h1 hk hr (by omega) (by omega)).mono ?_
 rintro en w2 ⟨rfl,rfl⟩
 go_wp2
 go_ret
 exact⟨rfl,hB'⟩
theorem rBit_any (a b c d i:Int) (w:World) (ha:W64 a) (hb:W64 b) (hc:W64 c) (hd:W64 d):
 CC 73 #[A4 a b c d,.int .i64 i] w (.bool (bitv a b c d i)):=by
 by_cases h:i<0\/256<=i
 ·have e:bitv a b c d i=false:=by
   unfold bitv;rcases h with h | h
   ·simp;omega
   ·simp;omega
  rw[e];exact rbit_out a b c d i w h
 ·have h0:0<=i:=by omega
  have h1:i<256:=by omega
  have hc8:i/32=0\/i/32=1\/i/32=2\/i/32=3\/i/32=4\/i/32=5\/i/32=6\/i/32=7:=by omega
  unfold bitv wordOf
  simp only[h0,h1,decide_true,Bool.true_and]
  have ha':=ha;have hb':=hb;have hc':=hc;have hd':=hd
  obtain⟨a1,a2⟩:=ha';obtain⟨b1,b2⟩:=hb';obtain⟨c1,c2⟩:=hc';obtain⟨d1,d2⟩:=hd'
  rcases hc8 with hk | hk | hk | hk | hk | hk | hk | hk
  ·have hq:i/64=0:=by omega
   have:=Ww a b c d i (i%32) (a%4294967296) 0 w ha hb hc hd h0 h1 (by omega) hk rfl rfl (by omega) (by omega)
   rw[hq]
   rw[half_lo a (i%32).toNat (by omega),show (i%32).toNat=(i%64).toNat by omega] at this
   exact this
  ·have hq:i/64=0:=by omega
   have:=Ww a b c d i (i%32) (a/4294967296) 1 w ha hb hc hd h0 h1 (by omega) hk rfl rfl (by omega) (by omega)
   rw[hq]
   rw[half_hi a (i%32).toNat,show 32+(i%32).toNat=(i%64).toNat by omega] at this
   exact this
  ·have hq:i/64=1:=by omega
   have:=Ww a b c d i (i%32) (b%4294967296) 2 w ha hb hc hd h0 h1 (by omega) hk rfl rfl (by omega) (by omega)
   rw[hq]
   rw[half_lo b (i%32).toNat (by omega),show (i%32).toNat=(i%64).toNat by omega] at this
   exact this
  ·have hq:i/64=1:=by omega
   have:=Ww a b c d i (i%32) (b/4294967296) 3 w ha hb hc hd h0 h1 (by omega) hk rfl rfl (by omega) (by omega)
   rw[hq]
   rw[half_hi b (i%32).toNat,show 32+(i%32).toNat=(i%64).toNat by omega] at this
   exact this
  ·have hq:i/64=2:=by omega
   have:=Ww a b c d i (i%32) (c%4294967296) 4 w ha hb hc hd h0 h1 (by omega) hk rfl rfl (by omega) (by omega)
   rw[hq]
   rw[half_lo c (i%32).toNat (by omega),show (i%32).toNat=(i%64).toNat by omega] at this
   exact this
  ·have hq:i/64=2:=by omega
   have:=Ww a b c d i (i%32) (c/4294967296) 5 w ha hb hc hd h0 h1 (by omega) hk rfl rfl (by omega) (by omega)
   rw[hq]
   rw[half_hi c (i%32).toNat,show 32+(i%32).toNat=(i%64).toNat by omega] at this
   exact this
  ·have hq:i/64=3:=by omega
   have:=Ww a b c d i (i%32) (d%4294967296) 6 w ha hb hc hd h0 h1 (by omega) hk rfl rfl (by omega) (by omega)
   rw[hq]
   rw[half_lo d (i%32).toNat (by omega),show (i%32).toNat=(i%64).toNat by omega] at this
   exact this
  ·have hq:i/64=3:=by omega
   have:=Ww a b c d i (i%32) (d/4294967296) 7 w ha hb hc hd h0 h1 (by omega) hk rfl rfl (by omega) (by omega)
   rw[hq]
   rw[half_hi d (i%32).toNat,show 32+(i%32).toNat=(i%64).toNat by omega] at this
   exact this
def lenD (x0 x1 x2 x3 x4 x5 x6 x7:Int):Int:=if x7≠0 then 224+bl x7 else if x6≠0 then 192+bl x6 else if x5≠0 then 160+bl x5 else if x4≠0 then 128+bl x4 else if x3≠0 then 96+bl x3 else if x2≠0 then 64+bl x2 else if x1≠0 then 32+bl x1 else if x0≠0 then 0+bl x0 else 0
theorem V9:bl 0=0:=by decide
theorem Va (x:Int) (h0:0<x) (h1:x<18446744073709551616):bl x=1+bl (x/2):=by
 unfold bl
 have e:=Lib.bitLen_half x.toNat (by omega) (by omega)
 rw[show (x/2).toNat=x.toNat/2 by omega,e];omega
theorem Xl (x:Int) (h0:0<x) (h1:x<18446744073709551616):0<bl x:=(bl_spec x ⟨by omega,h1⟩ (by omega)).1
theorem Yp (x:Int) (h:H32 x):0<=bl x/\bl x<=32:=by
 obtain⟨h0,h1⟩:=h
 have:=Lib.bitLen_le x.toNat 32 (by omega) (by omega)
 unfold bl;omega
theorem lo32' (x:Int):H32 (x%4294967296):=by unfold H32;omega
theorem hi32' (x:Int) (h:W64 x):H32 (x/4294967296):=by unfold W64 at h;unfold H32;omega
theorem len_any (g cap:Nat) (x0 x1 x2 x3 x4 x5 x6 x7:Int) (w:World) (c0:w.cell? ⟨g,0,none⟩=some (.int .u64 x0)) (c1:w.cell? ⟨g,1,none⟩=some (.int .u64 x1)) (c2:w.cell? ⟨g,2,none⟩=some (.int .u64 x2)) (c3:w.cell? ⟨g,3,none⟩=some (.int .u64 x3)) (c4:w.cell? ⟨g,4,none⟩=some (.int .u64 x4)) (c5:w.cell? ⟨g,5,none⟩=some (.int .u64 x5)) (c6:w.cell? ⟨g,6,none⟩=some (.int .u64 x6)) (c7:w.cell? ⟨g,7,none⟩=some (.int .u64 x7)) (h0:H32 x0) (h1:H32 x1) (h2:H32 x2) (h3:H32 x3) (h4:H32 x4) (h5:H32 x5) (h6:H32 x6) (h7:H32 x7):
 Calls Tryz.prog 99 #[.slice (some ⟨g,0,none⟩) 8 cap] w fun en w'=>en= .returned (.int .i64 (lenD x0 x1 x2 x3 x4 x5 x6 x7))/\w'=w:=by
 go_enter Tryz.func99,Tryz.ntmps99
 go_wp2
 go_loop [3] (fun s=>(s= .int .i64 7)\/(s= .int .i64 6/\x7=0)\/(s= .int .i64 5/\x7=0/\x6=0)\/(s= .int .i64 4/\x7=0/\x6=0/\x5=0)\/(s= .int .i64 3/\x7=0/\x6=0/\x5=0/\x4=0)\/(s= .int .i64 2/\x7=0/\x6=0/\x5=0/\x4=0/\x3=0)\/(s= .int .i64 1/\x7=0/\x6=0/\x5=0/\x4=0/\x3=0/\x2=0)\/(s= .int .i64 0/\x7=0/\x6=0/\x5=0/\x4=0/\x3=0/\x2=0/\x1=0)\/(s= .int .i64 (-1)/\x7=0/\x6=0/\x5=0/\x4=0/\x3=0/\x2=0/\x1=0/\x0=0)) (fun s=>(intOf s+1).toNat)
 case atStart=>exact .inl rfl
 case round=>
  rcases hrel with rfl | ⟨rfl,y7⟩ | ⟨rfl,y7,y6⟩ | ⟨rfl,y7,y6,y5⟩ | ⟨rfl,y7,y6,y5,y4⟩ | ⟨rfl,y7,y6,y5,y4,y3⟩ | ⟨rfl,y7,y6,y5,y4,y3,y2⟩ | ⟨rfl,y7,y6,y5,y4,y3,y2,y1⟩ | ⟨rfl,y7,y6,y5,y4,y3,y2,y1,y0⟩
  ·have xl:=h7.1
   have xu:=h7.2
   have hbd:=Yp x7 h7
   go_wp2
   go_loop [4,5] (fun s4 s5=> ∃n c:Int,s4= .int .i64 n/\s5= .int .u64 c/\0<=n/\n<=32/\0<=c/\c<4294967296/\Hid (n+bl c=bl x7)) (fun _ s5=>(intOf s5).toNat)
   case atStart=>exact⟨0,x7,rfl,rfl,by omega,by omega,xl,xu,by show _=_;omega⟩
   case round=>
    obtain⟨n,c,rfl,rfl,n0,n1,k0,k1,hn⟩:=hrel
    by_cases hlt:0<c
    ·have hh:=Va c hlt (by omega)
     have hp:=Xl c hlt (by omega)
     have hb2:=Yp (c/2) ⟨by omega,by omega⟩
     have hn':=hn.out
     have hn2:n+1<=32:=by omega
     have HH:Hid (n+1+bl (c/2)=bl x7):=by show _=_;omega
     clear hh hp hb2 hn'
     go_wp2
     go_round
     case rel=>exact⟨n+1,c/2,rfl,rfl,by omega,by omega,by omega,by omega,HH⟩
     case measure=>simp[intOf];omega
    ·have hc0:c=0:=by omega
     subst hc0
     have hn':=hn.out
     rw[V9] at hn'
     have hnx:n=bl x7:=by omega
     clear hn hn'
     by_cases hz:x7=0
     ·have hn0:n=0:=by rw[hnx,hz];decide
      subst hn0
      have hz0:Hid (x7=0):=hz
      clear hz hnx
      go_wp2
      go_round
      case rel=>exact .inr (.inl ⟨rfl,hz0.out⟩)
      case measure=>simp[intOf]
     ·have hpos:=Xl x7 (by omega) (by omega)
      have hn0:0<n:=by omega
      have HZ:Hid (¬x7=0):=hz
      have HN:Hid (n=bl x7):=hnx
      clear hz hnx hpos
      go_wp2
      go_ret
      refine⟨W2 ?_,rfl⟩
      have h1:=HZ.out
      unfold lenD
      simp[h1]
      exact HN.out
  ·have xl:=h6.1
   have xu:=h6.2
   have hbd:=Yp x6 h6
   have Y7:Hid (x7=0):=y7
   clear y7
   go_wp2
   go_loop [4,5] (fun s4 s5=> ∃n c:Int,s4= .int .i64 n/\s5= .int .u64 c/\0<=n/\n<=32/\0<=c/\c<4294967296/\Hid (n+bl c=bl x6)) (fun _ s5=>(intOf s5).toNat)
   case atStart=>exact⟨0,x6,rfl,rfl,by omega,by omega,xl,xu,by show _=_;omega⟩
   case round=>
    obtain⟨n,c,rfl,rfl,n0,n1,k0,k1,hn⟩:=hrel
    by_cases hlt:0<c
    ·have hh:=Va c hlt (by omega)
     have hp:=Xl c hlt (by omega)
     have hb2:=Yp (c/2) ⟨by omega,by omega⟩
     have hn':=hn.out
     have hn2:n+1<=32:=by omega
     have HH:Hid (n+1+bl (c/2)=bl x6):=by show _=_;omega
     clear hh hp hb2 hn'
     go_wp2
     go_round
     case rel=>exact⟨n+1,c/2,rfl,rfl,by omega,by omega,by omega,by omega,HH⟩
     case measure=>simp[intOf];omega
    ·have hc0:c=0:=by omega
     subst hc0
     have hn':=hn.out
     rw[V9] at hn'
     have hnx:n=bl x6:=by omega
     clear hn hn'
     by_cases hz:x6=0
     ·have hn0:n=0:=by rw[hnx,hz];decide
      subst hn0
      have hz0:Hid (x6=0):=hz
      clear hz hnx
      go_wp2
      go_round
      case rel=>exact .inr (.inr (.inl ⟨rfl,Y7.out,hz0.out⟩))
      case measure=>simp[intOf]
     ·have hpos:=Xl x6 (by omega) (by omega)
      have hn0:0<n:=by omega
      have HZ:Hid (¬x6=0):=hz
      have HN:Hid (n=bl x6):=hnx
      clear hz hnx hpos
      go_wp2
      go_ret
      refine⟨W2 ?_,rfl⟩
      have h1:=HZ.out
      unfold lenD
      simp[Y7.out,h1]
      exact HN.out
  ·have xl:=h5.1
   have xu:=h5.2
   have hbd:=Yp x5 h5
   have Y7:Hid (x7=0):=y7
   clear y7
   have Y6:Hid (x6=0):=y6
   clear y6
   go_wp2
   go_loop [4,5] (fun s4 s5=> ∃n c:Int,s4= .int .i64 n/\s5= .int .u64 c/\0<=n/\n<=32/\0<=c/\c<4294967296/\Hid (n+bl c=bl x5)) (fun _ s5=>(intOf s5).toNat)
   case atStart=>exact⟨0,x5,rfl,rfl,by omega,by omega,xl,xu,by show _=_;omega⟩
   case round=>
    obtain⟨n,c,rfl,rfl,n0,n1,k0,k1,hn⟩:=hrel
    by_cases hlt:0<c
    ·have hh:=Va c hlt (by omega)
     have hp:=Xl c hlt (by omega)
     have hb2:=Yp (c/2) ⟨by omega,by omega⟩
     have hn':=hn.out
     have hn2:n+1<=32:=by omega
     have HH:Hid (n+1+bl (c/2)=bl x5):=by show _=_;omega
     clear hh hp hb2 hn'
     go_wp2
     go_round
     case rel=>exact⟨n+1,c/2,rfl,rfl,by omega,by omega,by omega,by omega,HH⟩
     case measure=>simp[intOf];omega
    ·have hc0:c=0:=by omega
     subst hc0
     have hn':=hn.out
     rw[V9] at hn'
     have hnx:n=bl x5:=by omega
     clear hn hn'
     by_cases hz:x5=0
     ·have hn0:n=0:=by rw[hnx,hz];decide
      subst hn0
      have hz0:Hid (x5=0):=hz
      clear hz hnx
      go_wp2
      go_round
      case rel=>exact .inr (.inr (.inr (.inl ⟨rfl,Y7.out,Y6.out,hz0.out⟩)))
      case measure=>simp[intOf]
     ·have hpos:=Xl x5 (by omega) (by omega)
      have hn0:0<n:=by omega
      have HZ:Hid (¬x5=0):=hz
      have HN:Hid (n=bl x5):=hnx
      clear hz hnx hpos
      go_wp2
      go_ret
      refine⟨W2 ?_,rfl⟩
      have h1:=HZ.out
      unfold lenD
      simp[Y7.out,Y6.out,h1]
      exact HN.out
  ·have xl:=h4.1
   have xu:=h4.2
   have hbd:=Yp x4 h4
   have Y7:Hid (x7=0):=y7
   clear y7
   have Y6:Hid (x6=0):=y6
   clear y6
   have Y5:Hid (x5=0):=y5
   clear y5
   go_wp2
   go_loop [4,5] (fun s4 s5=> ∃n c:Int,s4= .int .i64 n/\s5= .int .u64 c/\0<=n/\n<=32/\0<=c/\c<4294967296/\Hid (n+bl c=bl x4)) (fun _ s5=>(intOf s5).toNat)
   case atStart=>exact⟨0,x4,rfl,rfl,by omega,by omega,xl,xu,by show _=_;omega⟩
   case round=>
    obtain⟨n,c,rfl,rfl,n0,n1,k0,k1,hn⟩:=hrel
    by_cases hlt:0<c
    ·have hh:=Va c hlt (by omega)
     have hp:=Xl c hlt (by omega)
     have hb2:=Yp (c/2) ⟨by omega,by omega⟩
     have hn':=hn.out
     have hn2:n+1<=32:=by omega
     have HH:Hid (n+1+bl (c/2)=bl x4):=by show _=_;omega
     clear hh hp hb2 hn'
     go_wp2
     go_round
     case rel=>exact⟨n+1,c/2,rfl,rfl,by omega,by omega,by omega,by omega,HH⟩
     case measure=>simp[intOf];omega
    ·have hc0:c=0:=by omega
     subst hc0
     have hn':=hn.out
     rw[V9] at hn'
     have hnx:n=bl x4:=by omega
     clear hn hn'
     by_cases hz:x4=0
     ·have hn0:n=0:=by rw[hnx,hz];decide
      subst hn0
      have hz0:Hid (x4=0):=hz
      clear hz hnx
      go_wp2
      go_round
      case rel=>exact .inr (.inr (.inr (.inr (.inl ⟨rfl,Y7.out,Y6.out,Y5.out,hz0.out⟩))))
      case measure=>simp[intOf]
     ·have hpos:=Xl x4 (by omega) (by omega)
      have hn0:0<n:=by omega
      have HZ:Hid (¬x4=0):=hz
      have HN:Hid (n=bl x4):=hnx
      clear hz hnx hpos
      go_wp2
      go_ret
      refine⟨W2 ?_,rfl⟩
      have h1:=HZ.out
      unfold lenD
      simp[Y7.out,Y6.out,Y5.out,h1]
      exact HN.out
  ·have xl:=h3.1
   have xu:=h3.2
   have hbd:=Yp x3 h3
   have Y7:Hid (x7=0):=y7
   clear y7
   have Y6:Hid (x6=0):=y6
   clear y6
   have Y5:Hid (x5=0):=y5
   clear y5
   have Y4:Hid (x4=0):=y4
   clear y4
   go_wp2
   go_loop [4,5] (fun s4 s5=> ∃n c:Int,s4= .int .i64 n/\s5= .int .u64 c/\0<=n/\n<=32/\0<=c/\c<4294967296/\Hid (n+bl c=bl x3)) (fun _ s5=>(intOf s5).toNat)
   case atStart=>exact⟨0,x3,rfl,rfl,by omega,by omega,xl,xu,by show _=_;omega⟩
   case round=>
    obtain⟨n,c,rfl,rfl,n0,n1,k0,k1,hn⟩:=hrel
    by_cases hlt:0<c
    ·have hh:=Va c hlt (by omega)
     have hp:=Xl c hlt (by omega)
     have hb2:=Yp (c/2) ⟨by omega,by omega⟩
     have hn':=hn.out
     have hn2:n+1<=32:=by omega
     have HH:Hid (n+1+bl (c/2)=bl x3):=by show _=_;omega
     clear hh hp hb2 hn'
     go_wp2
     go_round
     case rel=>exact⟨n+1,c/2,rfl,rfl,by omega,by omega,by omega,by omega,HH⟩
     case measure=>simp[intOf];omega
    ·have hc0:c=0:=by omega
     subst hc0
     have hn':=hn.out
     rw[V9] at hn'
     have hnx:n=bl x3:=by omega
     clear hn hn'
     by_cases hz:x3=0
     ·have hn0:n=0:=by rw[hnx,hz];decide
      subst hn0
      have hz0:Hid (x3=0):=hz
      clear hz hnx
      go_wp2
      go_round
      case rel=>exact .inr (.inr (.inr (.inr (.inr (.inl ⟨rfl,Y7.out,Y6.out,Y5.out,Y4.out,hz0.out⟩)))))
      case measure=>simp[intOf]
     ·have hpos:=Xl x3 (by omega) (by omega)
      have hn0:0<n:=by omega
      have HZ:Hid (¬x3=0):=hz
      have HN:Hid (n=bl x3):=hnx
      clear hz hnx hpos
      go_wp2
      go_ret
      refine⟨W2 ?_,rfl⟩
      have h1:=HZ.out
      unfold lenD
      simp[Y7.out,Y6.out,Y5.out,Y4.out,h1]
      exact HN.out
  ·have xl:=h2.1
   have xu:=h2.2
   have hbd:=Yp x2 h2
   have Y7:Hid (x7=0):=y7
   clear y7
   have Y6:Hid (x6=0):=y6
   clear y6
   have Y5:Hid (x5=0):=y5
   clear y5
   have Y4:Hid (x4=0):=y4
   clear y4
   have Y3:Hid (x3=0):=y3
   clear y3
   go_wp2
   go_loop [4,5] (fun s4 s5=> ∃n c:Int,s4= .int .i64 n/\s5= .int .u64 c/\0<=n/\n<=32/\0<=c/\c<4294967296/\Hid (n+bl c=bl x2)) (fun _ s5=>(intOf s5).toNat)
   case atStart=>exact⟨0,x2,rfl,rfl,by omega,by omega,xl,xu,by show _=_;omega⟩
   case round=>
    obtain⟨n,c,rfl,rfl,n0,n1,k0,k1,hn⟩:=hrel
    by_cases hlt:0<c
    ·have hh:=Va c hlt (by omega)
     have hp:=Xl c hlt (by omega)
     have hb2:=Yp (c/2) ⟨by omega,by omega⟩
     have hn':=hn.out
     have hn2:n+1<=32:=by omega
     have HH:Hid (n+1+bl (c/2)=bl x2):=by show _=_;omega
     clear hh hp hb2 hn'
     go_wp2
     go_round
     case rel=>exact⟨n+1,c/2,rfl,rfl,by omega,by omega,by omega,by omega,HH⟩
     case measure=>simp[intOf];omega
    ·have hc0:c=0:=by omega
     subst hc0
     have hn':=hn.out
     rw[V9] at hn'
     have hnx:n=bl x2:=by omega
     clear hn hn'
     by_cases hz:x2=0
     ·have hn0:n=0:=by rw[hnx,hz];decide
      subst hn0
      have hz0:Hid (x2=0):=hz
      clear hz hnx
      go_wp2
      go_round
      case rel=>exact .inr (.inr (.inr (.inr (.inr (.inr (.inl ⟨rfl,Y7.out,Y6.out,Y5.out,Y4.out,Y3.out,hz0.out⟩))))))
      case measure=>simp[intOf]
     ·have hpos:=Xl x2 (by omega) (by omega)
      have hn0:0<n:=by omega
      have HZ:Hid (¬x2=0):=hz
      have HN:Hid (n=bl x2):=hnx
      clear hz hnx hpos
      go_wp2
      go_ret
      refine⟨W2 ?_,rfl⟩
      have h1:=HZ.out
      unfold lenD
      simp[Y7.out,Y6.out,Y5.out,Y4.out,Y3.out,h1]
      exact HN.out
  ·have xl:=h1.1
   have xu:=h1.2
   have hbd:=Yp x1 h1
   have Y7:Hid (x7=0):=y7
   clear y7
   have Y6:Hid (x6=0):=y6
   clear y6
   have Y5:Hid (x5=0):=y5
   clear y5
   have Y4:Hid (x4=0):=y4
   clear y4
   have Y3:Hid (x3=0):=y3
   clear y3
   have Y2:Hid (x2=0):=y2
   clear y2
   go_wp2
   go_loop [4,5] (fun s4 s5=> ∃n c:Int,s4= .int .i64 n/\s5= .int .u64 c/\0<=n/\n<=32/\0<=c/\c<4294967296/\Hid (n+bl c=bl x1)) (fun _ s5=>(intOf s5).toNat)
   case atStart=>exact⟨0,x1,rfl,rfl,by omega,by omega,xl,xu,by show _=_;omega⟩
   case round=>
    obtain⟨n,c,rfl,rfl,n0,n1,k0,k1,hn⟩:=hrel
    by_cases hlt:0<c
    ·have hh:=Va c hlt (by omega)
     have hp:=Xl c hlt (by omega)
     have hb2:=Yp (c/2) ⟨by omega,by omega⟩
     have hn':=hn.out
     have hn2:n+1<=32:=by omega
     have HH:Hid (n+1+bl (c/2)=bl x1):=by show _=_;omega
     clear hh hp hb2 hn'
     go_wp2
     go_round
     case rel=>exact⟨n+1,c/2,rfl,rfl,by omega,by omega,by omega,by omega,HH⟩
     case measure=>simp[intOf];omega
    ·have hc0:c=0:=by omega
     subst hc0
     have hn':=hn.out
     rw[V9] at hn'
     have hnx:n=bl x1:=by omega
     clear hn hn'
     by_cases hz:x1=0
     ·have hn0:n=0:=by rw[hnx,hz];decide
      subst hn0
      have hz0:Hid (x1=0):=hz
      clear hz hnx
      go_wp2
      go_round
      case rel=>exact .inr (.inr (.inr (.inr (.inr (.inr (.inr (.inl ⟨rfl,Y7.out,Y6.out,Y5.out,Y4.out,Y3.out,Y2.out,hz0.out⟩)))))))
      case measure=>simp[intOf]
     ·have hpos:=Xl x1 (by omega) (by omega)
      have hn0:0<n:=by omega
      have HZ:Hid (¬x1=0):=hz
      have HN:Hid (n=bl x1):=hnx
      clear hz hnx hpos
      go_wp2
      go_ret
      refine⟨W2 ?_,rfl⟩
      have h1:=HZ.out
      unfold lenD
      simp[Y7.out,Y6.out,Y5.out,Y4.out,Y3.out,Y2.out,h1]
      exact HN.out
  ·have xl:=h0.1
   have xu:=h0.2
   have hbd:=Yp x0 h0
   have Y7:Hid (x7=0):=y7
   clear y7
   have Y6:Hid (x6=0):=y6
   clear y6
   have Y5:Hid (x5=0):=y5
   clear y5
   have Y4:Hid (x4=0):=y4
   clear y4
   have Y3:Hid (x3=0):=y3
   clear y3
   have Y2:Hid (x2=0):=y2
   clear y2
   have Y1:Hid (x1=0):=y1
   clear y1
   go_wp2
   go_loop [4,5] (fun s4 s5=> ∃n c:Int,s4= .int .i64 n/\s5= .int .u64 c/\0<=n/\n<=32/\0<=c/\c<4294967296/\Hid (n+bl c=bl x0)) (fun _ s5=>(intOf s5).toNat)
   case atStart=>exact⟨0,x0,rfl,rfl,by omega,by omega,xl,xu,by show _=_;omega⟩
   case round=>
    obtain⟨n,c,rfl,rfl,n0,n1,k0,k1,hn⟩:=hrel
    by_cases hlt:0<c
    ·have hh:=Va c hlt (by omega)
     have hp:=Xl c hlt (by omega)
     have hb2:=Yp (c/2) ⟨by omega,by omega⟩
     have hn':=hn.out
     have hn2:n+1<=32:=by omega
     have HH:Hid (n+1+bl (c/2)=bl x0):=by show _=_;omega
     clear hh hp hb2 hn'
     go_wp2
     go_round
     case rel=>exact⟨n+1,c/2,rfl,rfl,by omega,by omega,by omega,by omega,HH⟩
     case measure=>simp[intOf];omega
    ·have hc0:c=0:=by omega
     subst hc0
     have hn':=hn.out
     rw[V9] at hn'
     have hnx:n=bl x0:=by omega
     clear hn hn'
     by_cases hz:x0=0
     ·have hn0:n=0:=by rw[hnx,hz];decide
      subst hn0
      have hz0:Hid (x0=0):=hz
      clear hz hnx
      go_wp2
      go_round
      case rel=>exact .inr (.inr (.inr (.inr (.inr (.inr (.inr (.inr (⟨rfl,Y7.out,Y6.out,Y5.out,Y4.out,Y3.out,Y2.out,Y1.out,hz0.out⟩))))))))
      case measure=>simp[intOf]
     ·have hpos:=Xl x0 (by omega) (by omega)
      have hn0:0<n:=by omega
      have HZ:Hid (¬x0=0):=hz
      have HN:Hid (n=bl x0):=hnx
      clear hz hnx hpos
      go_wp2
      go_ret
      refine⟨W2 ?_,rfl⟩
      have h1:=HZ.out
      unfold lenD
      simp[Y7.out,Y6.out,Y5.out,Y4.out,Y3.out,Y2.out,Y1.out,h1]
      exact HN.out
  ·have e:0=lenD x0 x1 x2 x3 x4 x5 x6 x7:=by unfold lenD;simp[y0,y1,y2,y3,y4,y5,y6,y7]
   have E:Hid (0=lenD x0 x1 x2 x3 x4 x5 x6 x7):=e
   clear e y0 y1 y2 y3 y4 y5 y6 y7
   go_wp2
   go_ret
   exact⟨W2 E.out,rfl⟩
theorem bl_hi (x:Int) (h:W64 x) (hx: ¬x/4294967296=0):bl x=32+bl (x/4294967296):=by
 obtain⟨h0,h1⟩:=h
 unfold bl
 have e:=Lib.bitLen_shift32 x.toNat (by omega) (by omega)
 rw[show (x/4294967296).toNat=x.toNat/4294967296 by omega,e];omega
theorem bl_lo (x:Int) (h:W64 x) (hx:x/4294967296=0):bl x=bl (x%4294967296):=by
 obtain⟨h0,h1⟩:=h
 rw[show x%4294967296=x by omega]
theorem lenD_blen (a b c d:Int) (ha:W64 a) (hb:W64 b) (hc:W64 c) (hd:W64 d):lenD (a%4294967296) (a/4294967296) (b%4294967296) (b/4294967296) (c%4294967296) (c/4294967296) (d%4294967296) (d/4294967296)=blen a b c d:=by
 have ha':=ha;have hb':=hb;have hc':=hc;have hd':=hd
 obtain⟨_,_⟩:=ha';obtain⟨_,_⟩:=hb';obtain⟨_,_⟩:=hc';obtain⟨_,_⟩:=hd'
 unfold lenD blen
 by_cases d1:d/4294967296=0
 ·by_cases d2:d%4294967296=0
  ·have d3:d=0:=by omega
   by_cases c1:c/4294967296=0
   ·by_cases c2:c%4294967296=0
    ·have c3:c=0:=by omega
     by_cases b1:b/4294967296=0
     ·by_cases b2:b%4294967296=0
      ·have b3:b=0:=by omega
       by_cases a1:a/4294967296=0
       ·by_cases a2:a%4294967296=0
        ·have a3:a=0:=by omega
         subst d3 c3 b3 a3;simp
        ·have a3: ¬a=0:=by omega
         have k:=bl_lo a ha a1
         simp only[d1,d2,d3,c1,c2,c3,b1,b2,b3,a1,a2,a3,ne_eq,not_true_eq_false,not_false_eq_true,if_true,if_false,ite_true,ite_false,reduceIte]
         omega
       ·have a3: ¬a=0:=by omega
        have k:=bl_hi a ha a1
        simp only[d1,d2,d3,c1,c2,c3,b1,b2,b3,a1,a3,ne_eq,not_true_eq_false,not_false_eq_true,if_true,if_false,ite_true,ite_false,reduceIte]
        omega
      ·have b3: ¬b=0:=by omega
       have k:=bl_lo b hb b1
       simp only[d1,d2,d3,c1,c2,c3,b1,b2,b3,ne_eq,not_true_eq_false,not_false_eq_true,if_true,if_false,ite_true,ite_false,reduceIte]
       omega
     ·have b3: ¬b=0:=by omega
      have k:=bl_hi b hb b1
      simp only[d1,d2,d3,c1,c2,c3,b1,b3,ne_eq,not_true_eq_false,not_false_eq_true,if_true,if_false,ite_true,ite_false,reduceIte]
      omega
    ·have c3: ¬c=0:=by omega
     have k:=bl_lo c hc c1
     simp only[d1,d2,d3,c1,c2,c3,ne_eq,not_true_eq_false,not_false_eq_true,if_true,if_false,ite_true,ite_false,reduceIte]
     omega
   ·have c3: ¬c=0:=by omega
    have k:=bl_hi c hc c1
    simp only[d1,d2,d3,c1,c3,ne_eq,not_true_eq_false,not_false_eq_true,if_true,if_false,ite_true,ite_false,reduceIte]
    omega
  ·have d3: ¬d=0:=by omega
   have k:=bl_lo d hd d1
   simp only[d1,d2,d3,ne_eq,not_true_eq_false,not_false_eq_true,if_true,if_false,ite_true,ite_false,reduceIte]
   omega
 ·have d3: ¬d=0:=by omega
  have k:=bl_hi d hd d1
  simp only[d1,d3,ne_eq,not_true_eq_false,not_false_eq_true,if_true,if_false,ite_true,ite_false,reduceIte]
  omega
theorem rLength_any (a b c d:Int) (w:World) (ha:W64 a) (hb:W64 b) (hc:W64 c) (hd:W64 d):
 CC 72 #[A4 a b c d] w (.int .i64 (blen a b c d)):=by
 have HL:=lenD_blen a b c d ha hb hc hd
 have HD:Hid _:=HL
 clear HL
 go_enter Tryz.func72,Tryz.ntmps72
 go_wp2_with fail
 refine(Vh _ a b c d _ (by unfold C4;simp[go_sem]) ha hb hc hd).mono ?_
 rintro en w1 ⟨g,cap,rfl,hown,hB⟩
 have hadd: ∀k,(⟨g,0,none⟩:Addr).add k=⟨g,k,none⟩:=fun k=>by unfold Addr.add;split<;>simp_all
 have hcs: ∀k u,(dgl 4 a b c d)[k]?=some u->w1.cell? ⟨g,k,none⟩=some u:=fun k u hu=>by
  have:=hown.cells (g:=g) rfl k u hu
  rw[hadd] at this;exact this
 have HCS:Hid _:=hcs
 have hB':Bw w w1:=Z7 (Z3 (Zp w) _) hB
 clear hown hB hadd hcs
 go_wp2_with fail
 refine(len_any g cap (a%4294967296) (a/4294967296) (b%4294967296) (b/4294967296) (c%4294967296) (c/4294967296) (d%4294967296) (d/4294967296) _ (HCS.out 0 _ rfl) (HCS.out 1 _ rfl) (HCS.out 2 _ rfl) (HCS.out 3 _ rfl) (HCS.out 4 _ rfl) (HCS.out 5 _ rfl) (HCS.out 6 _ rfl) (HCS.out 7 _ rfl) (lo32' a) (hi32' a ha) (lo32' b) (hi32' b hb) (lo32' c) (hi32' c hc) (lo32' d) (hi32' d hd)).mono ?_
 rintro en w2 ⟨rfl,rfl⟩
 rw[HD.out]
 go_wp2
 go_ret
 exact⟨rfl,hB'⟩
end
end Go.Proofs.YtbbohmgjphpfeaaGreatDoor
