import Derived.Test.YtknpepgonhdbgaaGreatDoorB6
namespace Go.Proofs.YtknpepgonhdbgaaGreatDoor
set_option linter.unusedVariables false
set_option linter.unusedSimpArgs false
set_option maxRecDepth 100000
set_option maxHeartbeats 4000000
open Go.RowKit
def SBL(w:World)(g o:Nat)(xs:List Int):Prop:= ∀j,j<xs.length->w.cell? ⟨g,o+j,none⟩=some (.int .u8 (xs.getD j 0))
theorem SBL.below{w w':World}{m g o:Nat}{xs:List Int}(h:SBL w g o xs)(hb:Below m w w')(hg:g<m):SBL w' g o xs:=fun j hj=>(hb.cell (p:=⟨g,o+j,none⟩) hg).trans (h j hj)
theorem Read_any(g o cap:Nat)(xs:List Int)(w:World)(hn:xs.length<=32)(hx:Bytes8 xs)(hg:g<w.heap.size)(hS:SBL w g o xs):
 CC 82 #[.slice (some ⟨g,o,none⟩) xs.length cap] w (.tuple #[A4 (Tk xs 0 xs.length) (Tk xs 1 xs.length) (Tk xs 2 xs.length) (Tk xs 3 xs.length),.int .i64 0]):=by
 obtain⟨n,en⟩: ∃n,xs.length=n:=⟨_,rfl⟩
 have hn': ¬(32:Int)<(n:Int):=by omega
 have hn2:(n:Int)<=32:=by omega
 rw[en]
 have EN:Hid _:=en
 clear en
 go_enter Tryz.func82,Tryz.ntmps82
 go_wp2
 go_loopw [12] (fun i wr=> ∃k:Nat,k<=n/\i= .int .i64 k/\Bw w wr/\w.heap.size+1<wr.heap.size/\C4 wr w.heap.size 0 0 0 0/\C4 wr (w.heap.size+1) (Tk xs 0 k) (Tk xs 1 k) (Tk xs 2 k) (Tk xs 3 k)) (fun i _=>n -(intOf i).toNat)
 case atStart=>
  refine⟨0,by omega,rfl,?_,by simp,by unfold C4;simp[go_sem],by unfold C4;simp[go_sem,Tk]⟩
  iterate 6 all_goals (go_grown<;>try with_reducible refine below_drewN ?_ _)
 case round=>
  obtain⟨k,hk,rfl,hB,hs,hR,hA⟩:=hrel
  by_cases hlt:k<n
  ·have hlt':(k:Int)<(n:Int):=by omega
   have hA':=hA
   obtain⟨⟨ac0,ac1,ac2,ac3⟩,af0,af1,af2,af3⟩:=hA'
   have hc:=(hS.below hB hg) (n -1 -k) (by have:=EN.out;omega)
   have hxe:xs.getD (n -1 -k) 0=bv xs k:=by unfold bv;rw[EN.out]
   have hxb:=bv_bd xs hx k
   rw[hxe] at hc
   have T0:Hid _:=fun hq=>Tk_or xs hx k 0 hq
   have T1:Hid _:=fun hq=>Tk_or xs hx k 1 hq
   have T2:Hid _:=fun hq=>Tk_or xs hx k 2 hq
   have T3:Hid _:=fun hq=>Tk_or xs hx k 3 hq
   obtain⟨x,ex⟩: ∃x,bv xs k=x:=⟨_,rfl⟩
   rw[ex] at hc hxb
   obtain⟨x0,x1⟩:=hxb
   have EX:Hid _:=ex
   clear hxe ex
   have hq:k/8=0\/k/8=1\/k/8=2\/k/8=3:=by omega
   rcases hq with hq | hq | hq | hq
   ·have hq':(k:Int)/8=0:=by omega
    have HQ:Hid _:=hq
    clear hq
    generalize wr=u at *
    go_wp2
    go_region
    go_wp2
    refine⟨⟨k+1,by omega,by go_num,?_,by simpa using hs,hR.other _ (by simp<;>omega) _,?_⟩,by simp[intOf];omega⟩
    ·iterate 6 all_goals (go_grown<;>try with_reducible refine below_drewN ?_ _)
    ·have ht:=T0.out HQ.out
     rw[EX.out] at ht
     have hf:=HQ.out
     rw[<-ht,Xh xs k 1 (by omega),Xh xs k 2 (by omega),Xh xs k 3 (by omega)]
     exact(hA.set0 _)
   ·have hq':(k:Int)/8=1:=by omega
    have HQ:Hid _:=hq
    clear hq
    generalize wr=u at *
    go_wp2
    go_region
    go_wp2
    refine⟨⟨k+1,by omega,by go_num,?_,by simpa using hs,hR.other _ (by simp<;>omega) _,?_⟩,by simp[intOf];omega⟩
    ·iterate 6 all_goals (go_grown<;>try with_reducible refine below_drewN ?_ _)
    ·have ht:=T1.out HQ.out
     rw[EX.out] at ht
     have hf:=HQ.out
     rw[<-ht,Xh xs k 0 (by omega),Xh xs k 2 (by omega),Xh xs k 3 (by omega)]
     exact(hA.set1 _)
   ·have hq':(k:Int)/8=2:=by omega
    have HQ:Hid _:=hq
    clear hq
    generalize wr=u at *
    go_wp2
    go_region
    go_wp2
    refine⟨⟨k+1,by omega,by go_num,?_,by simpa using hs,hR.other _ (by simp<;>omega) _,?_⟩,by simp[intOf];omega⟩
    ·iterate 6 all_goals (go_grown<;>try with_reducible refine below_drewN ?_ _)
    ·have ht:=T2.out HQ.out
     rw[EX.out] at ht
     have hf:=HQ.out
     rw[<-ht,Xh xs k 0 (by omega),Xh xs k 1 (by omega),Xh xs k 3 (by omega)]
     exact(hA.set2 _)
   ·have hq':(k:Int)/8=3:=by omega
    have HQ:Hid _:=hq
    clear hq
    generalize wr=u at *
    go_wp2
    go_region
    go_wp2
    refine⟨⟨k+1,by omega,by go_num,?_,by simpa using hs,hR.other _ (by simp<;>omega) _,?_⟩,by simp[intOf];omega⟩
    ·iterate 6 all_goals (go_grown<;>try with_reducible refine below_drewN ?_ _)
    ·have ht:=T3.out HQ.out
     rw[EX.out] at ht
     have hf:=HQ.out
     rw[<-ht,Xh xs k 0 (by omega),Xh xs k 1 (by omega),Xh xs k 2 (by omega)]
     exact(hA.set3 _)
  ·have hkn:k=n:=by omega
   subst hkn
   obtain⟨⟨ac0,ac1,ac2,ac3⟩,_⟩:=hA
   obtain⟨⟨rc0,rc1,rc2,rc3⟩,rf0,rf1,rf2,rf3⟩:=hR
   have y0:w.heap.size<wr.heap.size:=by omega
   go_wp2
   refine bodyPost_ret (v:= .tuple #[A4 (Tk xs 0 k) (Tk xs 1 k) (Tk xs 2 k) (Tk xs 3 k),.int .i64 0]) (by simp[results,Tryz.results82,go_sem, *]) rfl ⟨rfl,?_⟩
   iterate 6 all_goals (go_grown<;>try with_reducible refine below_drewN ?_ _)
section
def flN:List Int->List Value
 | []=>[]
 | n::r=>LN n++flN r
def SN(w:World)(g o:Nat)(ns:List Int):Prop:= ∀j v,(flN ns)[j]?=some v->w.cell? ⟨g,o+j,none⟩=some v
theorem SN.below{w w':World}{m g o:Nat}{ns:List Int}(h:SN w g o ns)(hb:Below m w w')(hg:g<m):SN w' g o ns:=fun j v hj=>(hb.cell (p:=⟨g,o+j,none⟩) hg).trans (h j v hj)
theorem SN.empty{w:World}{g o:Nat}{ns:List Int}(h:ns.length=0):SN w g o ns:=fun j v hj=>by
 have e:ns=[]:=List.eq_nil_of_length_eq_zero h
 subst e;simp[flN] at hj
theorem SN.below2{w w':World}{m g o:Nat}{ns:List Int}(h:SN w g o ns)(hb:Below m w w')(hg:ns.length=0\/g<m):SN w' g o ns:=by
 rcases hg with e | hg
 ·exact SN.empty e
 ·exact h.below hb hg
theorem flN_len: ∀ns:List Int,(flN ns).length=4*ns.length
 | []=>rfl
 | n::r=>by rw[flN,List.length_append,flN_len r,List.length_cons];simp;omega
theorem flN_get: ∀(ns:List Int) (j c:Nat) (v:Value),j<ns.length->(LN (ns.getD j 0))[c]?=some v->(flN ns)[4*j+c]?=some v
 | [],j,c,v,h,_=>by simp at h
 | n::r,0,c,v,h,e=>by
  rw[flN,List.getElem?_append_left]
  ·simpa using e
  ·have:=(List.getElem?_eq_some_iff.1 e).1
   simpa using this
 | n::r,j+1,c,v,h,e=>by
  rw[flN,List.getElem?_append_right (by simp;omega)]
  have:=flN_get r j c v (by simpa using h) (by simpa using e)
  simpa [show 4*(j+1)+c -4=4*j+c by omega] using this
theorem SN.at{w:World}{g o:Nat}{ns:List Int}(h:SN w g o ns)(j:Nat)(hj:j<ns.length):w.rangeAt g (o+4*j) (LN (ns.getD j 0)):=fun c v hc=>by
 have:=h (4*j+c) v (flN_get ns j c v hj hc)
 rwa [<-Nat.add_assoc] at this
section
variable {R:Rg} {P:Program} {ops:Array Oper} {Q:Exit->Act->World->Prop} {i:Nat} {o:Oper}
end
theorem ixS(g o n cap j:Nat)(h:j<n)(w:World):(Instr.indexAt 35 (.slice (some ⟨g,o,none⟩) n cap) (.int .i64 j)).run Tryz.prog w= .ok (.pointer (some ⟨g,o+4*j,none⟩)) w:=by
 have h2:(j:Int)<n:=by omega
 go_simp
end
section
section
variable {R:Rg} {P:Program} {ops:Array Oper} {Q:Exit->Act->World->Prop} {f:Nat->Bool} {t:Nat->Value} {u:World} {a:Act} {i:Nat} {o:Oper}
end
end
section
section
variable {R:Rg} {P:Program} {ops:Array Oper} {Q:Exit->Act->World->Prop} {f:Nat->Bool} {t:Nat->Value} {u:World} {a:Act} {i:Nat} {o:Oper}
end
abbrev CE(n f a:Int):List Value:=[.int .u64 (D0 n),.int .u64 (D1 n),.int .u64 (D2 n),.int .u64 (D3 n),.int .u64 (D0 f),.int .u64 (D1 f),.int .u64 (D2 f),.int .u64 (D3 f),.int .u64 (D0 a),.int .u64 (D1 a),.int .u64 (D2 a),.int .u64 (D3 a)]
end
section
section
variable {R:Rg} {P:Program} {ops:Array Oper} {Q:Exit->Act->World->Prop} {f:Nat->Bool} {t:Nat->Value} {u:World} {a:Act} {i:Nat} {o:Oper}
end
end
theorem infoN:(Tryz.prog.info? 24).map (fun i=>(i.zero,i.size,i.bytes))=some (some (A4 0 0 0 0),4,32):=by kernel_rfl
def PE(base:Nat)(u:World)(v:Value):Prop:= ∃b,v= .slice (some ⟨b,0,none⟩) 0 0/\base<=b/\u.heap[b]?=some (.cells #[] 24 (0,0))
def PO(base:Nat)(ns:List Int)(u:World)(v:Value):Prop:=(∃b c,v= .slice (some ⟨b,0,none⟩) ns.length c)/\u.ownsRow base 24 4 v ns.length (flN ns)
theorem PE.stab{base:Nat}{u v:World}{x:Value}(hB:Bw u v)(h:PE base u x):PE base v x:=by
 obtain⟨b,e,h1,h2⟩:=h
 exact⟨b,e,h1,by rw[hB.block b (Array.getElem?_eq_some_iff.1 h2).1];exact h2⟩
theorem PO.stab{base:Nat}{ns:List Int}{u v:World}{x:Value}(hB:Bw u v)(h:PO base ns u x):PO base ns v x:=by
 obtain⟨⟨b,c,rfl⟩,h2⟩:=h
 exact⟨⟨b,c,rfl⟩,h2.kept (below_grown hB) (.inr (by simp[Value.ownBlock]))⟩
theorem PO.at{base:Nat}{ns:List Int}{u:World}{x:Value}(h:PO base ns u x): ∃b c,x= .slice (some ⟨b,0,none⟩) ns.length c/\b<u.heap.size/\SN u b 0 ns:=by
 obtain⟨⟨b,c,rfl⟩,h2⟩:=h
 have hl:=h2.lt b rfl
 refine⟨b,c,rfl,hl.2,fun j v hj=>?_⟩
 have:=h2.cells (g:=b) rfl j v hj
 have e:(⟨b,0,none⟩:Addr).add j=⟨b,j,none⟩:=by unfold Addr.add;split<;>simp_all
 rw[e] at this
 rw[Nat.zero_add];exact this
theorem SN.news{u:World}{g o:Nat}{ns:List Int}(h:SN u g o ns): ∀j v,(flN ns)[j]?=some v->u.cell? ((⟨g,o,none⟩:Addr).add j)=some v:=fun j v hj=>by
 have e:(⟨g,o,none⟩:Addr).add j=⟨g,o+j,none⟩:=by unfold Addr.add;split<;>simp_all
 rw[e];exact h j v hj
theorem app_none(u:World)(ty:TypeId)(b n cap:Nat)(sl:Option Addr)(c:Nat)(hn:n<=cap):(Builtin.append_ #[35,35] ty #[.slice (some ⟨b,0,none⟩) n cap,.slice sl 0 c]).run Tryz.prog u= .ok (.slice (some ⟨b,0,none⟩) n cap) u:=by
 obtain⟨i,hi,hm⟩:=Option.map_eq_some_iff.1 infoN
 cases sl<;>simp[Builtin.append_,run_underlying Tryz.underlying35,sizeOf,typeInfo,hi,Builtin.lenOf,Builtin.firstCells,loadCells,loadCellsFrom,hn,storeCells]
theorem app_empty(base:Nat)(u:World)(ty:TypeId)(vs:Value)(sl:Option Addr)(g o c:Nat)(ns:List Int)(hu:base<=u.heap.size)(hl:ns.length<=50)(hsl:ns=[]\/sl=some ⟨g,o,none⟩)(hS:SN u g o ns)(h:PE base u vs):
 ∃v u',(Builtin.append_ #[35,35] ty #[vs,.slice sl ns.length c]).run Tryz.prog u= .ok v u'/\Bw u u'/\PO base ns u' v:=by
 obtain⟨b,rfl,h1,h2⟩:=h
 obtain⟨i,hi,hm⟩:=Option.map_eq_some_iff.1 infoN
 simp only[Prod.mk.injEq] at hm
 obtain⟨hz,hsz,hby⟩:=hm
 by_cases hn:ns=[]
 ·subst hn
  refine⟨_,_,app_none u ty b 0 0 sl c (Nat.le_refl _),Below.refl _ _,⟨b,0,rfl⟩,rfl,.inr ⟨b,0,#[],rfl,h1,h2,Nat.le_refl _,by simp[maxLen],rfl,rfl⟩⟩
 ·have hp:0<ns.length:=List.length_pos_iff.2 hn
  have hs:=hsl.resolve_left hn
  subst hs
  have hr:=run_append_grow (P:=Tryz.prog) u 35 ty 24 i (A4 0 0 0 0) Tryz.underlying35 hi hz ⟨b,0,none⟩ 0 0 [] (by simp) (by simp) ⟨g,o,none⟩ ns.length c (flN ns) (by rw[flN_len,hsz];omega) hS.news (by omega) (by omega) (growslice_fits (by omega) (by rw[hby];omega))
  refine⟨_,_,hr,Z0 (Z5 u).drew _,⟨_,_,by rw[Nat.zero_add]⟩,?_⟩
  have hge:=grownCap_ge u (0+ns.length) 0 24
  have hcm:grownCap u (0+ns.length) 0 24<=maxLen:=grownCap_le_maxLen u (0+ns.length) 0 24 (by simp[maxLen];omega)
  rw[Nat.zero_add] at hge hcm⊢
  refine⟨by rw[flN_len];omega,.inr ⟨u.heap.size,_,_,rfl,hu,heap_alloc_new u.drew _,hge,hcm,?_,?_⟩⟩
  ·simp only[Array.size_append,List.size_toArray,size_zeroCells,flN_len]
   have e4:(A4 0 0 0 0).cells.size=4:=rfl
   rw[e4]
   simp only[List.length_nil]
   omega
  ·simp only[Array.toList_append,List.append_assoc]
   rw[show ns.length*4=(flN ns).length by rw[flN_len];omega]
   simp
theorem bsN(w:World):(Instr.buildSlice 35 0 #[]).run Tryz.prog w= .ok (.slice (some ⟨w.heap.size,0,none⟩) 0 0) (w.alloc (.cells #[] 24)):=by kernel_rfl
theorem PE.new{base:Nat}{u:World}(h:base<=u.heap.size):PE base (u.alloc (.cells #[] 24)) (.slice (some ⟨u.heap.size,0,none⟩) 0 0):=⟨_,rfl,h,heap_alloc_new u _⟩
theorem PO.cv{base:Nat}{ns:List Int}{u:World}{x:Value}(h:PO base ns u x): ∃b c,x= .slice (some ⟨b,0,none⟩) ns.length c/\base<=b/\b<u.heap.size/\CV u b (flN ns):=by
 obtain⟨⟨b,c,rfl⟩,h2⟩:=h
 have hl:=h2.lt b rfl
 refine⟨b,c,rfl,hl.1,hl.2,fun j v hj=>⟨?_,?_⟩⟩
 ·have:=h2.cells (g:=b) rfl j v hj
  have e:(⟨b,0,none⟩:Addr).add j=⟨b,j,none⟩:=by unfold Addr.add;split<;>simp_all
  rw[e] at this;exact this
 ·rcases h2.2 with⟨e,_⟩ | ⟨g',cap',cur,e,_,hh,_⟩
  ·cases e
  ·cases e;simp[World.frozen?,hh]
theorem CV.sn{u:World}{b:Nat}{ns:List Int}(h:CV u b (flN ns)):SN u b 0 ns:=fun j v hj=>by rw[Nat.zero_add];exact(h j v hj).1
theorem slH(sl:Option Addr)(n cap k:Nat)(h:k<=n)(hc:n<=cap)(hn:sl=none->cap=0)(w:World):(Instr.sliceAt 35 (.slice sl n cap) none (some (.int .i64 k)) none).run Tryz.prog w= .ok (.slice sl k cap) w:=by
 cases sl with
 | none=>
  have e0:=hn rfl
  have e1:n=0:=by omega
  have e2:k=0:=by omega
  subst e0 e1 e2
  show (Instr.sliceAt 35 (.slice none 0 0) none (some (.int .i64 0)) none).run Tryz.prog w=_
  kernel_rfl
 | some a=>
  have h3:k<=cap:=by omega
  simp[Instr.sliceAt,Instr.slice,go_sem,Tryz.underlying35,h3]
theorem bitd_any(g cap k:Nat)(x i r:Int)(w:World)(hk8:(k:Int)<8)(hk0:(0:Int)<=(k:Int))(hc:w.cell? ⟨g,k,none⟩=some (.int .u64 x))(x0:0<=x)(x1:x<18446744073709551616)
 (h0:0<=i)(h1:i<256)(hk:i/32=(k:Int))(hr:i%32=r)(r0:0<=r)(r1:r<=31):
 Calls Tryz.prog 96 #[.slice (some ⟨g,0,none⟩) 8 cap,.int .i64 i] w fun en w'=>en= .returned (.int .u64 (x/2^r.toNat%2))/\w'=w:=by
 go_enter Tryz.func96,Tryz.ntmps96
 go_wp2
 go_loop [5,6] (fun s5 s6=> ∃j:Nat,(j:Int)<=r/\s6= .int .i64 j/\s5= .int .u64 (x/2^j)) (fun _ s6=>(r -intOf s6).toNat)
 case atStart=>exact⟨0,by omega,rfl,by simp⟩
 case round=>
  obtain⟨j,hj,rfl,rfl⟩:=hrel
  have hw:=W_shr x j ⟨x0,x1⟩
  obtain⟨hw0,hw1⟩:=hw
  have hstep:x/2^j/2=x/2^(j+1):=by rw[Int.pow_succ,Int.ediv_ediv_of_nonneg (Int.le_of_lt (Int.pow_pos (by omega)))]
  have HS:Hid (x/2^j/2=x/2^(j+1)):=hstep
  clear hstep hc
  by_cases hlt:(j:Int)<r
  ·go_wp2
   go_round
   case rel=>exact⟨j+1,by omega,by go_num,congrArg (Value.int IntKind.u64) HS.out⟩
   case measure=>simp[intOf];omega
  ·have hjr:j=r.toNat:=by omega
   subst hjr
   go_wp2
   go_ret
   exact⟨rfl,rfl⟩
theorem half_lo(x:Int)(n:Nat)(h:n<=31):x%4294967296/2^n%2=x/2^n%2:=by
 have p:(0:Int)<2^n:=Int.pow_pos (by omega)
 have e:(4294967296:Int)=2^n*(2*2^(31 -n)):=by
  rw[<-Int.mul_assoc,Int.mul_comm ((2:Int)^n) 2,Int.mul_assoc,<-Int.pow_add,show n+(31 -n)=31 by omega];rfl
 have m:=Int.mul_ediv_add_emod x 4294967296
 have hx:x=x%4294967296+2^n*(2*(2^(31 -n)*(x/4294967296))):=by
  have hq: ∀q:Int,(2:Int)^n*(2*(2^(31 -n)*q))=4294967296*q:=fun q=>by
   conv=>rhs;rw[e]
   rw[Int.mul_assoc,Int.mul_assoc]
  have:=hq (x/4294967296)
  omega
 have h2:x/2^n=x%4294967296/2^n+2*(2^(31 -n)*(x/4294967296)):=by
  conv=>lhs;rw[hx]
  rw[Int.add_mul_ediv_left _ _ (by omega)]
 rw[h2];omega
theorem half_hi(x:Int)(n:Nat):x/4294967296/2^n=x/2^(32+n):=by
 rw[Int.ediv_ediv_of_nonneg (by omega),Int.pow_add];rfl
theorem rbit_out(a b c d i:Int)(w:World)(h:i<0\/256<=i):
 CC 68 #[A4 a b c d,.int .i64 i] w (.bool false):=by
 by_cases h0:i<0
 ·go_enter Tryz.func68,Tryz.ntmps68
  go_wp2
  go_ret
  exact⟨rfl,by go_grown⟩
 ·have h1:256<=i:=by omega
  have h2:0<=i:=by omega
  go_enter Tryz.func68,Tryz.ntmps68
  go_wp2
  go_ret
  exact⟨rfl,by go_grown⟩
theorem V0(a b c d i r x:Int)(k:Nat)(w:World)(ha:W64 a)(hb:W64 b)(hc:W64 c)(hd:W64 d)(h0:0<=i)(h1:i<256)(hk8:(k:Int)<8)(hk:i/32=(k:Int))(hr:i%32=r)(hx:(dgl 4 a b c d)[k]?=some (.int .u64 x))(x0:0<=x)(x1:x<18446744073709551616):
 CC 68 #[A4 a b c d,.int .i64 i] w (.bool (x/2^r.toNat%2==1)):=by
 have HX:Hid _:=hx
 clear hx
 go_enter Tryz.func68,Tryz.ntmps68
 go_wp2_with fail
 refine(Vn _ a b c d _ (by unfold C4;simp[go_sem]) ha hb hc hd).mono ?_
 rintro en w1 ⟨g,cap,rfl,hown,hB⟩
 have hcell:=hown.cells (g:=g) rfl k _ HX.out
 have hadd:(⟨g,0,none⟩:Addr).add k=⟨g,k,none⟩:=by unfold Addr.add;split<;>simp_all
 rw[hadd] at hcell
 have hB':Bw w w1:=Zt (Z0 (Z5 w) _) hB
 clear hown hB hadd
 have HC:Hid _:=hcell
 clear hcell
 go_wp2_with fail
 refine(bitd_any g cap k x i r _ hk8 (by omega) HC.out x0 x1 h0 h1 hk hr (by omega) (by omega)).mono ?_
 rintro en w2 ⟨rfl,rfl⟩
 go_wp2
 go_ret
 exact⟨rfl,hB'⟩
theorem rBit_any(a b c d i:Int)(w:World)(ha:W64 a)(hb:W64 b)(hc:W64 c)(hd:W64 d):
 CC 68 #[A4 a b c d,.int .i64 i] w (.bool (bitv a b c d i)):=by
 by_cases h:i<0\/256<=i
 ·have e:bitv a b c d i=false:=by
   unfold bitv;rcases h with h | h
   ·simp;omega
   ·simp;omega
  rw[e];exact rbit_out a b c d i w h
 ·have h0:0<=i:=by omega
  have h1:i<256:=by omega
  have hc8:i/32=0\/i/32=1\/i/32=2\/i/32=3\/i/32=4\/i/32=5\/i/32=6\/i/32=7:=by omega
  unfold bitv wordOf
  simp only[h0,h1,decide_true,Bool.true_and]
  have ha':=ha;have hb':=hb;have hc':=hc;have hd':=hd
  obtain⟨a1,a2⟩:=ha';obtain⟨b1,b2⟩:=hb';obtain⟨c1,c2⟩:=hc';obtain⟨d1,d2⟩:=hd'
  rcases hc8 with hk | hk | hk | hk | hk | hk | hk | hk
  ·have hq:i/64=0:=by omega
   have:=V0 a b c d i (i%32) (a%4294967296) 0 w ha hb hc hd h0 h1 (by omega) hk rfl rfl (by omega) (by omega)
   rw[hq]
   rw[half_lo a (i%32).toNat (by omega),show (i%32).toNat=(i%64).toNat by omega] at this
   exact this
  ·have hq:i/64=0:=by omega
   have:=V0 a b c d i (i%32) (a/4294967296) 1 w ha hb hc hd h0 h1 (by omega) hk rfl rfl (by omega) (by omega)
   rw[hq]
   rw[half_hi a (i%32).toNat,show 32+(i%32).toNat=(i%64).toNat by omega] at this
   exact this
  ·have hq:i/64=1:=by omega
   have:=V0 a b c d i (i%32) (b%4294967296) 2 w ha hb hc hd h0 h1 (by omega) hk rfl rfl (by omega) (by omega)
   rw[hq]
   rw[half_lo b (i%32).toNat (by omega),show (i%32).toNat=(i%64).toNat by omega] at this
   exact this
  ·have hq:i/64=1:=by omega
   have:=V0 a b c d i (i%32) (b/4294967296) 3 w ha hb hc hd h0 h1 (by omega) hk rfl rfl (by omega) (by omega)
   rw[hq]
   rw[half_hi b (i%32).toNat,show 32+(i%32).toNat=(i%64).toNat by omega] at this
   exact this
  ·have hq:i/64=2:=by omega
   have:=V0 a b c d i (i%32) (c%4294967296) 4 w ha hb hc hd h0 h1 (by omega) hk rfl rfl (by omega) (by omega)
   rw[hq]
   rw[half_lo c (i%32).toNat (by omega),show (i%32).toNat=(i%64).toNat by omega] at this
   exact this
  ·have hq:i/64=2:=by omega
   have:=V0 a b c d i (i%32) (c/4294967296) 5 w ha hb hc hd h0 h1 (by omega) hk rfl rfl (by omega) (by omega)
   rw[hq]
   rw[half_hi c (i%32).toNat,show 32+(i%32).toNat=(i%64).toNat by omega] at this
   exact this
  ·have hq:i/64=3:=by omega
   have:=V0 a b c d i (i%32) (d%4294967296) 6 w ha hb hc hd h0 h1 (by omega) hk rfl rfl (by omega) (by omega)
   rw[hq]
   rw[half_lo d (i%32).toNat (by omega),show (i%32).toNat=(i%64).toNat by omega] at this
   exact this
  ·have hq:i/64=3:=by omega
   have:=V0 a b c d i (i%32) (d/4294967296) 7 w ha hb hc hd h0 h1 (by omega) hk rfl rfl (by omega) (by omega)
   rw[hq]
   rw[half_hi d (i%32).toNat,show 32+(i%32).toNat=(i%64).toNat by omega] at this
   exact this
def lenD(x0 x1 x2 x3 x4 x5 x6 x7:Int):Int:=if x7≠0 then 224+bl x7 else if x6≠0 then 192+bl x6 else if x5≠0 then 160+bl x5 else if x4≠0 then 128+bl x4 else if x3≠0 then 96+bl x3 else if x2≠0 then 64+bl x2 else if x1≠0 then 32+bl x1 else if x0≠0 then 0+bl x0 else 0
theorem Ve:bl 0=0:=by decide
theorem Vf(x:Int)(h0:0<x)(h1:x<18446744073709551616):bl x=1+bl (x/2):=by
 unfold bl
 have e:=Lib.bitLen_half x.toNat (by omega) (by omega)
 rw[show (x/2).toNat=x.toNat/2 by omega,e];omega
theorem Xi(x:Int)(h0:0<x)(h1:x<18446744073709551616):0<bl x:=(bl_spec x ⟨by omega,h1⟩ (by omega)).1
theorem Yp(x:Int)(h:H32 x):0<=bl x/\bl x<=32:=by
 obtain⟨h0,h1⟩:=h
 have:=Lib.bitLen_le x.toNat 32 (by omega) (by omega)
 unfold bl;omega
theorem lo32'(x:Int):H32 (x%4294967296):=by unfold H32;omega
theorem hi32'(x:Int)(h:W64 x):H32 (x/4294967296):=by unfold W64 at h;unfold H32;omega
theorem len_any(g cap:Nat)(x0 x1 x2 x3 x4 x5 x6 x7:Int)(w:World)(c0:w.cell? ⟨g,0,none⟩=some (.int .u64 x0))(c1:w.cell? ⟨g,1,none⟩=some (.int .u64 x1))(c2:w.cell? ⟨g,2,none⟩=some (.int .u64 x2))(c3:w.cell? ⟨g,3,none⟩=some (.int .u64 x3))(c4:w.cell? ⟨g,4,none⟩=some (.int .u64 x4))(c5:w.cell? ⟨g,5,none⟩=some (.int .u64 x5))(c6:w.cell? ⟨g,6,none⟩=some (.int .u64 x6))(c7:w.cell? ⟨g,7,none⟩=some (.int .u64 x7))(h0:H32 x0)(h1:H32 x1)(h2:H32 x2)(h3:H32 x3)(h4:H32 x4)(h5:H32 x5)(h6:H32 x6)(h7:H32 x7):
 Calls Tryz.prog 95 #[.slice (some ⟨g,0,none⟩) 8 cap] w fun en w'=>en= .returned (.int .i64 (lenD x0 x1 x2 x3 x4 x5 x6 x7))/\w'=w:=by
 go_enter Tryz.func95,Tryz.ntmps95
 go_wp2
 go_loop [3] (fun s=>(s= .int .i64 7)\/(s= .int .i64 6/\x7=0)\/(s= .int .i64 5/\x7=0/\x6=0)\/(s= .int .i64 4/\x7=0/\x6=0/\x5=0)\/(s= .int .i64 3/\x7=0/\x6=0/\x5=0/\x4=0)\/(s= .int .i64 2/\x7=0/\x6=0/\x5=0/\x4=0/\x3=0)\/(s= .int .i64 1/\x7=0/\x6=0/\x5=0/\x4=0/\x3=0/\x2=0)\/(s= .int .i64 0/\x7=0/\x6=0/\x5=0/\x4=0/\x3=0/\x2=0/\x1=0)\/(s= .int .i64 (-1)/\x7=0/\x6=0/\x5=0/\x4=0/\x3=0/\x2=0/\x1=0/\x0=0)) (fun s=>(intOf s+1).toNat)
 case atStart=>exact .inl rfl
 case round=>
  rcases hrel with rfl | ⟨rfl,y7⟩ | ⟨rfl,y7,y6⟩ | ⟨rfl,y7,y6,y5⟩ | ⟨rfl,y7,y6,y5,y4⟩ | ⟨rfl,y7,y6,y5,y4,y3⟩ | ⟨rfl,y7,y6,y5,y4,y3,y2⟩ | ⟨rfl,y7,y6,y5,y4,y3,y2,y1⟩ | ⟨rfl,y7,y6,y5,y4,y3,y2,y1,y0⟩
  ·have xl:=h7.1
   have xu:=h7.2
   have hbd:=Yp x7 h7
   go_wp2
   go_loop [4,5] (fun s4 s5=> ∃n c:Int,s4= .int .i64 n/\s5= .int .u64 c/\0<=n/\n<=32/\0<=c/\c<4294967296/\Hid (n+bl c=bl x7)) (fun _ s5=>(intOf s5).toNat)
   case atStart=>exact⟨0,x7,rfl,rfl,by omega,by omega,xl,xu,by show _=_;omega⟩
   case round=>
    obtain⟨n,c,rfl,rfl,n0,n1,k0,k1,hn⟩:=hrel
    by_cases hlt:0<c
    ·have hh:=Vf c hlt (by omega)
     have hp:=Xi c hlt (by omega)
     have hb2:=Yp (c/2) ⟨by omega,by omega⟩
     have hn':=hn.out
     have hn2:n+1<=32:=by omega
     have HH:Hid (n+1+bl (c/2)=bl x7):=by show _=_;omega
     clear hh hp hb2 hn'
     go_wp2
     go_round
     case rel=>exact⟨n+1,c/2,rfl,rfl,by omega,by omega,by omega,by omega,HH⟩
     case measure=>simp[intOf];omega
    ·have hc0:c=0:=by omega
     subst hc0
     have hn':=hn.out
     rw[Ve] at hn'
     have hnx:n=bl x7:=by omega
     clear hn hn'
     by_cases hz:x7=0
     ·have hn0:n=0:=by rw[hnx,hz];decide
      subst hn0
      have hz0:Hid (x7=0):=hz
      clear hz hnx
      go_wp2
      go_round
      case rel=>exact .inr (.inl ⟨rfl,hz0.out⟩)
      case measure=>simp[intOf]
     ·have hpos:=Xi x7 (by omega) (by omega)
      have hn0:0<n:=by omega
      have HZ:Hid (¬x7=0):=hz
      have HN:Hid (n=bl x7):=hnx
      clear hz hnx hpos
      go_wp2
      go_ret
      refine⟨W4 ?_,rfl⟩
      have h1:=HZ.out
      unfold lenD
      simp[h1]
      exact HN.out
  ·have xl:=h6.1
   have xu:=h6.2
   have hbd:=Yp x6 h6
   have Y7:Hid (x7=0):=y7
   clear y7
   go_wp2
   go_loop [4,5] (fun s4 s5=> ∃n c:Int,s4= .int .i64 n/\s5= .int .u64 c/\0<=n/\n<=32/\0<=c/\c<4294967296/\Hid (n+bl c=bl x6)) (fun _ s5=>(intOf s5).toNat)
   case atStart=>exact⟨0,x6,rfl,rfl,by omega,by omega,xl,xu,by show _=_;omega⟩
   case round=>
    obtain⟨n,c,rfl,rfl,n0,n1,k0,k1,hn⟩:=hrel
    by_cases hlt:0<c
    ·have hh:=Vf c hlt (by omega)
     have hp:=Xi c hlt (by omega)
     have hb2:=Yp (c/2) ⟨by omega,by omega⟩
     have hn':=hn.out
     have hn2:n+1<=32:=by omega
     have HH:Hid (n+1+bl (c/2)=bl x6):=by show _=_;omega
     clear hh hp hb2 hn'
     go_wp2
     go_round
     case rel=>exact⟨n+1,c/2,rfl,rfl,by omega,by omega,by omega,by omega,HH⟩
     case measure=>simp[intOf];omega
    ·have hc0:c=0:=by omega
     subst hc0
     have hn':=hn.out
     rw[Ve] at hn'
     have hnx:n=bl x6:=by omega
     clear hn hn'
     by_cases hz:x6=0
     ·have hn0:n=0:=by rw[hnx,hz];decide
      subst hn0
      have hz0:Hid (x6=0):=hz
      clear hz hnx
      go_wp2
      go_round
      case rel=>exact .inr (.inr (.inl ⟨rfl,Y7.out,hz0.out⟩))
      case measure=>simp[intOf]
     ·have hpos:=Xi x6 (by omega) (by omega)
      have hn0:0<n:=by omega
      have HZ:Hid (¬x6=0):=hz
      have HN:Hid (n=bl x6):=hnx
      clear hz hnx hpos
      go_wp2
      go_ret
      refine⟨W4 ?_,rfl⟩
      have h1:=HZ.out
      unfold lenD
      simp[Y7.out,h1]
      exact HN.out
  ·have xl:=h5.1
   have xu:=h5.2
   have hbd:=Yp x5 h5
   have Y7:Hid (x7=0):=y7
   clear y7
   have Y6:Hid (x6=0):=y6
   clear y6
   go_wp2
   go_loop [4,5] (fun s4 s5=> ∃n c:Int,s4= .int .i64 n/\s5= .int .u64 c/\0<=n/\n<=32/\0<=c/\c<4294967296/\Hid (n+bl c=bl x5)) (fun _ s5=>(intOf s5).toNat)
   case atStart=>exact⟨0,x5,rfl,rfl,by omega,by omega,xl,xu,by show _=_;omega⟩
   case round=>
    obtain⟨n,c,rfl,rfl,n0,n1,k0,k1,hn⟩:=hrel
    by_cases hlt:0<c
    ·have hh:=Vf c hlt (by omega)
     have hp:=Xi c hlt (by omega)
     have hb2:=Yp (c/2) ⟨by omega,by omega⟩
     have hn':=hn.out
     have hn2:n+1<=32:=by omega
     have HH:Hid (n+1+bl (c/2)=bl x5):=by show _=_;omega
     clear hh hp hb2 hn'
     go_wp2
     go_round
     case rel=>exact⟨n+1,c/2,rfl,rfl,by omega,by omega,by omega,by omega,HH⟩
     case measure=>simp[intOf];omega
    ·have hc0:c=0:=by omega
     subst hc0
     have hn':=hn.out
     rw[Ve] at hn'
     have hnx:n=bl x5:=by omega
     clear hn hn'
     by_cases hz:x5=0
     ·have hn0:n=0:=by rw[hnx,hz];decide
      subst hn0
      have hz0:Hid (x5=0):=hz
      clear hz hnx
      go_wp2
      go_round
      case rel=>exact .inr (.inr (.inr (.inl ⟨rfl,Y7.out,Y6.out,hz0.out⟩)))
      case measure=>simp[intOf]
     ·have hpos:=Xi x5 (by omega) (by omega)
      have hn0:0<n:=by omega
      have HZ:Hid (¬x5=0):=hz
      have HN:Hid (n=bl x5):=hnx
      clear hz hnx hpos
      go_wp2
      go_ret
      refine⟨W4 ?_,rfl⟩
      have h1:=HZ.out
      unfold lenD
      simp[Y7.out,Y6.out,h1]
      exact HN.out
  ·have xl:=h4.1
   have xu:=h4.2
   have hbd:=Yp x4 h4
   have Y7:Hid (x7=0):=y7
   clear y7
   have Y6:Hid (x6=0):=y6
   clear y6
   have Y5:Hid (x5=0):=y5
   clear y5
   go_wp2
   go_loop [4,5] (fun s4 s5=> ∃n c:Int,s4= .int .i64 n/\s5= .int .u64 c/\0<=n/\n<=32/\0<=c/\c<4294967296/\Hid (n+bl c=bl x4)) (fun _ s5=>(intOf s5).toNat)
   case atStart=>exact⟨0,x4,rfl,rfl,by omega,by omega,xl,xu,by show _=_;omega⟩
   case round=>
    obtain⟨n,c,rfl,rfl,n0,n1,k0,k1,hn⟩:=hrel
    by_cases hlt:0<c
    ·have hh:=Vf c hlt (by omega)
     have hp:=Xi c hlt (by omega)
     have hb2:=Yp (c/2) ⟨by omega,by omega⟩
     have hn':=hn.out
     have hn2:n+1<=32:=by omega
     have HH:Hid (n+1+bl (c/2)=bl x4):=by show _=_;omega
     clear hh hp hb2 hn'
     go_wp2
     go_round
     case rel=>exact⟨n+1,c/2,rfl,rfl,by omega,by omega,by omega,by omega,HH⟩
     case measure=>simp[intOf];omega
    ·have hc0:c=0:=by omega
     subst hc0
     have hn':=hn.out
     rw[Ve] at hn'
     have hnx:n=bl x4:=by omega
     clear hn hn'
     by_cases hz:x4=0
     ·have hn0:n=0:=by rw[hnx,hz];decide
      subst hn0
      have hz0:Hid (x4=0):=hz
      clear hz hnx
      go_wp2
      go_round
      case rel=>exact .inr (.inr (.inr (.inr (.inl ⟨rfl,Y7.out,Y6.out,Y5.out,hz0.out⟩))))
      case measure=>simp[intOf]
     ·have hpos:=Xi x4 (by omega) (by omega)
      have hn0:0<n:=by omega
      have HZ:Hid (¬x4=0):=hz
      have HN:Hid (n=bl x4):=hnx
      clear hz hnx hpos
      go_wp2
      go_ret
      refine⟨W4 ?_,rfl⟩
      have h1:=HZ.out
      unfold lenD
      simp[Y7.out,Y6.out,Y5.out,h1]
      exact HN.out
  ·have xl:=h3.1
   have xu:=h3.2
   have hbd:=Yp x3 h3
   have Y7:Hid (x7=0):=y7
   clear y7
   have Y6:Hid (x6=0):=y6
   clear y6
   have Y5:Hid (x5=0):=y5
   clear y5
   have Y4:Hid (x4=0):=y4
   clear y4
   go_wp2
   go_loop [4,5] (fun s4 s5=> ∃n c:Int,s4= .int .i64 n/\s5= .int .u64 c/\0<=n/\n<=32/\0<=c/\c<4294967296/\Hid (n+bl c=bl x3)) (fun _ s5=>(intOf s5).toNat)
   case atStart=>exact⟨0,x3,rfl,rfl,by omega,by omega,xl,xu,by show _=_;omega⟩
   case round=>
    obtain⟨n,c,rfl,rfl,n0,n1,k0,k1,hn⟩:=hrel
    by_cases hlt:0<c
    ·have hh:=Vf c hlt (by omega)
     have hp:=Xi c hlt (by omega)
     have hb2:=Yp (c/2) ⟨by omega,by omega⟩
     have hn':=hn.out
     have hn2:n+1<=32:=by omega
     have HH:Hid (n+1+bl (c/2)=bl x3):=by show _=_;omega
     clear hh hp hb2 hn'
     go_wp2
     go_round
     case rel=>exact⟨n+1,c/2,rfl,rfl,by omega,by omega,by omega,by omega,HH⟩
     case measure=>simp[intOf];omega
    ·have hc0:c=0:=by omega
     subst hc0
     have hn':=hn.out
     rw[Ve] at hn'
     have hnx:n=bl x3:=by omega
     clear hn hn'
     by_cases hz:x3=0
     ·have hn0:n=0:=by rw[hnx,hz];decide
      subst hn0
      have hz0:Hid (x3=0):=hz
      clear hz hnx
      go_wp2
      go_round
      case rel=>exact .inr (.inr (.inr (.inr (.inr (.inl ⟨rfl,Y7.out,Y6.out,Y5.out,Y4.out,hz0.out⟩)))))
      case measure=>simp[intOf]
     ·have hpos:=Xi x3 (by omega) (by omega)
      have hn0:0<n:=by omega
      have HZ:Hid (¬x3=0):=hz
      have HN:Hid (n=bl x3):=hnx
      clear hz hnx hpos
      go_wp2
      go_ret
      refine⟨W4 ?_,rfl⟩
      have h1:=HZ.out
      unfold lenD
      simp[Y7.out,Y6.out,Y5.out,Y4.out,h1]
      exact HN.out
  ·have xl:=h2.1
   have xu:=h2.2
   have hbd:=Yp x2 h2
   have Y7:Hid (x7=0):=y7
   clear y7
   have Y6:Hid (x6=0):=y6
   clear y6
   have Y5:Hid (x5=0):=y5
   clear y5
   have Y4:Hid (x4=0):=y4
   clear y4
   have Y3:Hid (x3=0):=y3
   clear y3
   go_wp2
   go_loop [4,5] (fun s4 s5=> ∃n c:Int,s4= .int .i64 n/\s5= .int .u64 c/\0<=n/\n<=32/\0<=c/\c<4294967296/\Hid (n+bl c=bl x2)) (fun _ s5=>(intOf s5).toNat)
   case atStart=>exact⟨0,x2,rfl,rfl,by omega,by omega,xl,xu,by show _=_;omega⟩
   case round=>
    obtain⟨n,c,rfl,rfl,n0,n1,k0,k1,hn⟩:=hrel
    by_cases hlt:0<c
    ·have hh:=Vf c hlt (by omega)
     have hp:=Xi c hlt (by omega)
     have hb2:=Yp (c/2) ⟨by omega,by omega⟩
     have hn':=hn.out
     have hn2:n+1<=32:=by omega
     have HH:Hid (n+1+bl (c/2)=bl x2):=by show _=_;omega
     clear hh hp hb2 hn'
     go_wp2
     go_round
     case rel=>exact⟨n+1,c/2,rfl,rfl,by omega,by omega,by omega,by omega,HH⟩
     case measure=>simp[intOf];omega
    ·have hc0:c=0:=by omega
     subst hc0
     have hn':=hn.out
     rw[Ve] at hn'
     have hnx:n=bl x2:=by omega
     clear hn hn'
     by_cases hz:x2=0
     ·have hn0:n=0:=by rw[hnx,hz];decide
      subst hn0
      have hz0:Hid (x2=0):=hz
      clear hz hnx
      go_wp2
      go_round
      case rel=>exact .inr (.inr (.inr (.inr (.inr (.inr (.inl ⟨rfl,Y7.out,Y6.out,Y5.out,Y4.out,Y3.out,hz0.out⟩))))))
      case measure=>simp[intOf]
     ·have hpos:=Xi x2 (by omega) (by omega)
      have hn0:0<n:=by omega
      have HZ:Hid (¬x2=0):=hz
      have HN:Hid (n=bl x2):=hnx
      clear hz hnx hpos
      go_wp2
      go_ret
      refine⟨W4 ?_,rfl⟩
      have h1:=HZ.out
      unfold lenD
      simp[Y7.out,Y6.out,Y5.out,Y4.out,Y3.out,h1]
      exact HN.out
  ·have xl:=h1.1
   have xu:=h1.2
   have hbd:=Yp x1 h1
   have Y7:Hid (x7=0):=y7
   clear y7
   have Y6:Hid (x6=0):=y6
   clear y6
   have Y5:Hid (x5=0):=y5
   clear y5
   have Y4:Hid (x4=0):=y4
   clear y4
   have Y3:Hid (x3=0):=y3
   clear y3
   have Y2:Hid (x2=0):=y2
   clear y2
   go_wp2
   go_loop [4,5] (fun s4 s5=> ∃n c:Int,s4= .int .i64 n/\s5= .int .u64 c/\0<=n/\n<=32/\0<=c/\c<4294967296/\Hid (n+bl c=bl x1)) (fun _ s5=>(intOf s5).toNat)
   case atStart=>exact⟨0,x1,rfl,rfl,by omega,by omega,xl,xu,by show _=_;omega⟩
   case round=>
    obtain⟨n,c,rfl,rfl,n0,n1,k0,k1,hn⟩:=hrel
    by_cases hlt:0<c
    ·have hh:=Vf c hlt (by omega)
     have hp:=Xi c hlt (by omega)
     have hb2:=Yp (c/2) ⟨by omega,by omega⟩
     have hn':=hn.out
     have hn2:n+1<=32:=by omega
     have HH:Hid (n+1+bl (c/2)=bl x1):=by show _=_;omega
     clear hh hp hb2 hn'
     go_wp2
     go_round
     case rel=>exact⟨n+1,c/2,rfl,rfl,by omega,by omega,by omega,by omega,HH⟩
     case measure=>simp[intOf];omega
    ·have hc0:c=0:=by omega
     subst hc0
     have hn':=hn.out
     rw[Ve] at hn'
     have hnx:n=bl x1:=by omega
     clear hn hn'
     by_cases hz:x1=0
     ·have hn0:n=0:=by rw[hnx,hz];decide
      subst hn0
      have hz0:Hid (x1=0):=hz
      clear hz hnx
      go_wp2
      go_round
      case rel=>exact .inr (.inr (.inr (.inr (.inr (.inr (.inr (.inl ⟨rfl,Y7.out,Y6.out,Y5.out,Y4.out,Y3.out,Y2.out,hz0.out⟩)))))))
      case measure=>simp[intOf]
     ·have hpos:=Xi x1 (by omega) (by omega)
      have hn0:0<n:=by omega
      have HZ:Hid (¬x1=0):=hz
      have HN:Hid (n=bl x1):=hnx
      clear hz hnx hpos
      go_wp2
      go_ret
      refine⟨W4 ?_,rfl⟩
      have h1:=HZ.out
      unfold lenD
      simp[Y7.out,Y6.out,Y5.out,Y4.out,Y3.out,Y2.out,h1]
      exact HN.out
  ·have xl:=h0.1
   have xu:=h0.2
   have hbd:=Yp x0 h0
   have Y7:Hid (x7=0):=y7
   clear y7
   have Y6:Hid (x6=0):=y6
   clear y6
   have Y5:Hid (x5=0):=y5
   clear y5
   have Y4:Hid (x4=0):=y4
   clear y4
   have Y3:Hid (x3=0):=y3
   clear y3
   have Y2:Hid (x2=0):=y2
   clear y2
   have Y1:Hid (x1=0):=y1
   clear y1
   go_wp2
   go_loop [4,5] (fun s4 s5=> ∃n c:Int,s4= .int .i64 n/\s5= .int .u64 c/\0<=n/\n<=32/\0<=c/\c<4294967296/\Hid (n+bl c=bl x0)) (fun _ s5=>(intOf s5).toNat)
   case atStart=>exact⟨0,x0,rfl,rfl,by omega,by omega,xl,xu,by show _=_;omega⟩
   case round=>
    obtain⟨n,c,rfl,rfl,n0,n1,k0,k1,hn⟩:=hrel
    by_cases hlt:0<c
    ·have hh:=Vf c hlt (by omega)
     have hp:=Xi c hlt (by omega)
     have hb2:=Yp (c/2) ⟨by omega,by omega⟩
     have hn':=hn.out
     have hn2:n+1<=32:=by omega
     have HH:Hid (n+1+bl (c/2)=bl x0):=by show _=_;omega
     clear hh hp hb2 hn'
     go_wp2
     go_round
     case rel=>exact⟨n+1,c/2,rfl,rfl,by omega,by omega,by omega,by omega,HH⟩
     case measure=>simp[intOf];omega
    ·have hc0:c=0:=by omega
     subst hc0
     have hn':=hn.out
     rw[Ve] at hn'
     have hnx:n=bl x0:=by omega
     clear hn hn'
     by_cases hz:x0=0
     ·have hn0:n=0:=by rw[hnx,hz];decide
      subst hn0
      have hz0:Hid (x0=0):=hz
      clear hz hnx
      go_wp2
      go_round
      case rel=>exact .inr (.inr (.inr (.inr (.inr (.inr (.inr (.inr (⟨rfl,Y7.out,Y6.out,Y5.out,Y4.out,Y3.out,Y2.out,Y1.out,hz0.out⟩))))))))
      case measure=>simp[intOf]
     ·have hpos:=Xi x0 (by omega) (by omega)
      have hn0:0<n:=by omega
      have HZ:Hid (¬x0=0):=hz
      have HN:Hid (n=bl x0):=hnx
      clear hz hnx hpos
      go_wp2
      go_ret
      refine⟨W4 ?_,rfl⟩
      have h1:=HZ.out
      unfold lenD
      simp[Y7.out,Y6.out,Y5.out,Y4.out,Y3.out,Y2.out,Y1.out,h1]
      exact HN.out
  ·have e:0=lenD x0 x1 x2 x3 x4 x5 x6 x7:=by unfold lenD;simp[y0,y1,y2,y3,y4,y5,y6,y7]
   have E:Hid (0=lenD x0 x1 x2 x3 x4 x5 x6 x7):=e
   clear e y0 y1 y2 y3 y4 y5 y6 y7
   go_wp2
   go_ret
   exact⟨W4 E.out,rfl⟩
theorem bl_hi(x:Int)(h:W64 x)(hx: ¬x/4294967296=0):bl x=32+bl (x/4294967296):=by
 obtain⟨h0,h1⟩:=h
 unfold bl
 have e:=Lib.bitLen_shift32 x.toNat (by omega) (by omega)
 rw[show (x/4294967296).toNat=x.toNat/4294967296 by omega,e];omega
theorem bl_lo(x:Int)(h:W64 x)(hx:x/4294967296=0):bl x=bl (x%4294967296):=by
 obtain⟨h0,h1⟩:=h
 rw[show x%4294967296=x by omega]
theorem lenD_blen(a b c d:Int)(ha:W64 a)(hb:W64 b)(hc:W64 c)(hd:W64 d):lenD (a%4294967296) (a/4294967296) (b%4294967296) (b/4294967296) (c%4294967296) (c/4294967296) (d%4294967296) (d/4294967296)=blen a b c d:=by
 have ha':=ha;have hb':=hb;have hc':=hc;have hd':=hd
 obtain⟨_,_⟩:=ha';obtain⟨_,_⟩:=hb';obtain⟨_,_⟩:=hc';obtain⟨_,_⟩:=hd'
 unfold lenD blen
 by_cases d1:d/4294967296=0
 ·by_cases d2:d%4294967296=0
  ·have d3:d=0:=by omega
   by_cases c1:c/4294967296=0
   ·by_cases c2:c%4294967296=0
    ·have c3:c=0:=by omega
     by_cases b1:b/4294967296=0
     ·by_cases b2:b%4294967296=0
      ·have b3:b=0:=by omega
       by_cases a1:a/4294967296=0
       ·by_cases a2:a%4294967296=0
        ·have a3:a=0:=by omega
         subst d3 c3 b3 a3;simp
        ·have a3: ¬a=0:=by omega
         have k:=bl_lo a ha a1
         simp only[d1,d2,d3,c1,c2,c3,b1,b2,b3,a1,a2,a3,ne_eq,not_true_eq_false,not_false_eq_true,if_true,if_false,ite_true,ite_false,reduceIte]
         omega
       ·have a3: ¬a=0:=by omega
        have k:=bl_hi a ha a1
        simp only[d1,d2,d3,c1,c2,c3,b1,b2,b3,a1,a3,ne_eq,not_true_eq_false,not_false_eq_true,if_true,if_false,ite_true,ite_false,reduceIte]
        omega
      ·have b3: ¬b=0:=by omega
       have k:=bl_lo b hb b1
       simp only[d1,d2,d3,c1,c2,c3,b1,b2,b3,ne_eq,not_true_eq_false,not_false_eq_true,if_true,if_false,ite_true,ite_false,reduceIte]
       omega
     ·have b3: ¬b=0:=by omega
      have k:=bl_hi b hb b1
      simp only[d1,d2,d3,c1,c2,c3,b1,b3,ne_eq,not_true_eq_false,not_false_eq_true,if_true,if_false,ite_true,ite_false,reduceIte]
      omega
    ·have c3: ¬c=0:=by omega
     have k:=bl_lo c hc c1
     simp only[d1,d2,d3,c1,c2,c3,ne_eq,not_true_eq_false,not_false_eq_true,if_true,if_false,ite_true,ite_false,reduceIte]
     omega
   ·have c3: ¬c=0:=by omega
    have k:=bl_hi c hc c1
    simp only[d1,d2,d3,c1,c3,ne_eq,not_true_eq_false,not_false_eq_true,if_true,if_false,ite_true,ite_false,reduceIte]
    omega
  ·have d3: ¬d=0:=by omega
   have k:=bl_lo d hd d1
   simp only[d1,d2,d3,ne_eq,not_true_eq_false,not_false_eq_true,if_true,if_false,ite_true,ite_false,reduceIte]
   omega
 ·have d3: ¬d=0:=by omega
  have k:=bl_hi d hd d1
  simp only[d1,d3,ne_eq,not_true_eq_false,not_false_eq_true,if_true,if_false,ite_true,ite_false,reduceIte]
  omega
theorem rLength_any(a b c d:Int)(w:World)(ha:W64 a)(hb:W64 b)(hc:W64 c)(hd:W64 d):
 CC 67 #[A4 a b c d] w (.int .i64 (blen a b c d)):=by
 have HL:=lenD_blen a b c d ha hb hc hd
 have HD:Hid _:=HL
 clear HL
 go_enter Tryz.func67,Tryz.ntmps67
 go_wp2_with fail
 refine(Vn _ a b c d _ (by unfold C4;simp[go_sem]) ha hb hc hd).mono ?_
 rintro en w1 ⟨g,cap,rfl,hown,hB⟩
 have hadd: ∀k,(⟨g,0,none⟩:Addr).add k=⟨g,k,none⟩:=fun k=>by unfold Addr.add;split<;>simp_all
 have hcs: ∀k u,(dgl 4 a b c d)[k]?=some u->w1.cell? ⟨g,k,none⟩=some u:=fun k u hu=>by
  have:=hown.cells (g:=g) rfl k u hu
  rw[hadd] at this;exact this
 have HCS:Hid _:=hcs
 have hB':Bw w w1:=Zt (Z0 (Z5 w) _) hB
 clear hown hB hadd hcs
 go_wp2_with fail
 refine(len_any g cap (a%4294967296) (a/4294967296) (b%4294967296) (b/4294967296) (c%4294967296) (c/4294967296) (d%4294967296) (d/4294967296) _ (HCS.out 0 _ rfl) (HCS.out 1 _ rfl) (HCS.out 2 _ rfl) (HCS.out 3 _ rfl) (HCS.out 4 _ rfl) (HCS.out 5 _ rfl) (HCS.out 6 _ rfl) (HCS.out 7 _ rfl) (lo32' a) (hi32' a ha) (lo32' b) (hi32' b hb) (lo32' c) (hi32' c hc) (lo32' d) (hi32' d hd)).mono ?_
 rintro en w2 ⟨rfl,rfl⟩
 rw[HD.out]
 go_wp2
 go_ret
 exact⟨rfl,hB'⟩
end Go.Proofs.YtknpepgonhdbgaaGreatDoor
