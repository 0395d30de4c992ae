import Derived.Test.YtknpepgonhdbgaaGreatDoorNN
import Derived.Test.YtknpepgonhdbgaaGreatDoorRN2
namespace Go.Proofs.YtknpepgonhdbgaaGreatDoor
set_option linter.unusedVariables false
set_option linter.unusedSimpArgs false
set_option maxRecDepth 100000
set_option maxHeartbeats 4000000
section
open Go.RowKit
def byp(a b c d:Int)(p:Nat):Int:=(if p/8=0 then a else if p/8=1 then b else if p/8=2 then c else d)/2^(p%8*8)%256
def CB(w:World)(n k:Nat)(a b c d:Int):Prop:= ∀j,j<32->w.cell? ⟨n,j,none⟩=some (.int .u8 (if 32<=j+k then byp a b c d (31 -j) else 0))/\w.frozen? ⟨n,j,none⟩=false
theorem CB.below{w w':World}{m n k:Nat}{a b c d:Int}(h:CB w n k a b c d)(hb:Below m w w')(hn:n<m):CB w' n k a b c d:=fun j hj=>by
 rw[hb.cell (p:=⟨n,j,none⟩) hn,hb.frozen (p:=⟨n,j,none⟩) hn];exact h j hj
theorem CB.set{w:World}{n k:Nat}{a b c d:Int}(h:CB w n k a b c d)(hk:k<32)(v:Int)(hv:v=byp a b c d k):CB (w.setCell ⟨n,31 -k,none⟩ (.int .u8 v)) n (k+1) a b c d:=fun j hj=>by
 rw[World.frozen?_setCell]
 obtain⟨hc,hf⟩:=h (31 -k) (by omega)
 by_cases e:j=31 -k
 ·subst e
  refine⟨?_,hf⟩
  rw[if_pos (by omega),show 31 -(31 -k)=k by omega,hv]
  simp[go_sem,hc]
 ·obtain⟨hc',hf'⟩:=h j hj
  refine⟨?_,hf'⟩
  rw[World.cell?_setCell_other _ _ _ _ (by simp<;>omega),hc']
  by_cases g:32<=j+k
  ·rw[if_pos g,if_pos (by omega)]
  ·rw[if_neg g,if_neg (by omega)]
def z32b:Array Value:=Array.replicate 32 (.int .u8 0)
theorem CB.new(w:World)(a b c d:Int):CB (w.alloc (.cells z32b 5)) w.heap.size 0 a b c d:=fun j hj=>by
 have hf:(w.alloc (.cells z32b 5)).frozen? ⟨w.heap.size,j,none⟩=false:=by simp[go_sem]
 refine⟨?_,hf⟩
 rw[cell_of_row _ w.heap.size j _ 5 (0,0) (heap_alloc_new _ _),if_neg (by omega)]
 simp[z32b,hj]
theorem Bytes_any(a b c d:Int)(w:World)(ha:W64 a)(hb:W64 b)(hc:W64 c)(hd:W64 d):
 Calls Tryz.prog 108 #[A4 a b c d] w fun en w'=> ∃g,en= .returned (.slice (some ⟨g,0,none⟩) 32 32)/\CB w' g 32 a b c d/\w.heap.size<=g/\g<w'.heap.size/\Bw w w':=by
 have hmk: ∀w,(Instr.makeSlice 36 (.int .i64 32) (.int .i64 32)).run Tryz.prog w= .ok (.slice (some ⟨w.heap.size,0,none⟩) 32 32) (w.alloc (.cells z32b 5)):=fun _=>by kernel_rfl
 obtain⟨a1,a2⟩:=ha
 obtain⟨b1,b2⟩:=hb
 obtain⟨c1,c2⟩:=hc
 obtain⟨d1,d2⟩:=hd
 go_enter Tryz.func108,Tryz.ntmps108
 go_wp2
 go_loopw [6] (fun i wr=> ∃k:Nat,k<=32/\i= .int .i64 k/\Bw w wr/\w.heap.size+1<wr.heap.size/\C4 wr w.heap.size a b c d/\CB wr (w.heap.size+1) k a b c d) (fun i _=>32 -(intOf i).toNat)
 case atStart=>
  refine⟨0,by omega,rfl,?_,by simp,by unfold C4;simp[go_sem],?_⟩
  ·iterate 6 all_goals (go_grown<;>try with_reducible refine below_drewN ?_ _)
  ·have:=CB.new (w.alloc (.cells #[.int .u64 a,.int .u64 b,.int .u64 c,.int .u64 d] 24)) a b c d
   simpa using this
 case round=>
  obtain⟨k,hk,rfl,hB,hs,hA,hO⟩:=hrel
  by_cases hlt:k<32
  ·have hlt':(k:Int)<32:=by omega
   have hA':=hA
   obtain⟨⟨ac0,ac1,ac2,ac3⟩,_⟩:=hA'
   obtain⟨oc,of⟩:=hO (31 -k) (by omega)
   have hz:(if 32<=31 -k+k then byp a b c d (31 -(31 -k)) else 0)=0:=if_neg (by omega)
   rw[hz] at oc
   clear hz
   have hq:k/8=0\/k/8=1\/k/8=2\/k/8=3:=by omega
   rcases hq with hq | hq | hq | hq
   ·have hq':(k:Int)/8=0:=by omega
    go_wp2
    refine⟨⟨k+1,by omega,by go_num,?_,by simpa using hs,hA.other _ (by simp) _,hO.set hlt _ ?_⟩,by simp[intOf];omega⟩
    ·exact hB.setCell (by show _<=_;simp) _
    ·unfold byp;simp[hq]
   ·have hq':(k:Int)/8=1:=by omega
    go_wp2
    refine⟨⟨k+1,by omega,by go_num,?_,by simpa using hs,hA.other _ (by simp) _,hO.set hlt _ ?_⟩,by simp[intOf];omega⟩
    ·exact hB.setCell (by show _<=_;simp) _
    ·unfold byp;simp[hq]
   ·have hq':(k:Int)/8=2:=by omega
    go_wp2
    refine⟨⟨k+1,by omega,by go_num,?_,by simpa using hs,hA.other _ (by simp) _,hO.set hlt _ ?_⟩,by simp[intOf];omega⟩
    ·exact hB.setCell (by show _<=_;simp) _
    ·unfold byp;simp[hq]
   ·have hq':(k:Int)/8=3:=by omega
    go_wp2
    refine⟨⟨k+1,by omega,by go_num,?_,by simpa using hs,hA.other _ (by simp) _,hO.set hlt _ ?_⟩,by simp[intOf];omega⟩
    ·exact hB.setCell (by show _<=_;simp) _
    ·unfold byp;simp[hq]
  ·have hk32:k=32:=by omega
   subst hk32
   go_wp2
   go_ret
   exact⟨w.heap.size+1,rfl,hO,by omega,hs,hB⟩
theorem cGrow(n:Nat)(w:World)(h0:0<n)(hn:n<=100000):
 Calls Tryz.prog 126 #[.slice none 0 0,.int .i64 (n:Int)] w fun e u=> ∃y,e= .returned y/\PG w.heap.size 1 0 [] u y/\Bw w u:=by
 obtain⟨ti,hti,htm⟩:=Option.map_eq_some_iff.1 infoB
 simp only[Prod.mk.injEq] at htm
 obtain⟨hz,hs,hby⟩:=htm
 have hr:=Lib.run_append_nil_zeros (P:=Tryz.prog) w 36 3 36 5 ti (.int .u8 0) .i64 .i64 Tryz.underlying36 Tryz.underlying3 hti hz n h0 (by omega) (by omega) (by rw[hby];omega)
 have hcap:=grownCap_ge w n 0 5
 obtain⟨c,ec⟩: ∃c,grownCap w n 0 5=c:=⟨_,rfl⟩
 rw[ec] at hr hcap
 obtain⟨cs,ecs⟩: ∃cs:List Value,Builtin.zeroCells (Value.int .u8 0).cells n++Builtin.zeroCells (Value.int .u8 0).cells (c -n)=cs.toArray:=⟨(Builtin.zeroCells (Value.int .u8 0).cells n++Builtin.zeroCells (Value.int .u8 0).cells (c -n)).toList,by simp⟩
 have hcl:cs.length=c:=by
  have:=congrArg Array.size ecs
  rw[Array.size_append,size_zeroCells,size_zeroCells] at this
  simp[Value.cells] at this
  omega
 rw[ecs] at hr
 obtain⟨u,eu⟩: ∃u,w.drew.alloc (.cells cs.toArray 5)=u:=⟨_,rfl⟩
 have hB:Bw w u:=by rw[<-eu];exact Z0 (Z5 w).drew _
 have hC:CV u w.heap.size cs:=by rw[<-eu];exact CV.new w.drew cs 5
 have hlt:w.heap.size<u.heap.size:=by rw[<-eu];simp
 rw[eu] at hr
 clear ec ecs eu hz hs hby hti
 have hC:Hid _:=hC
 have n0: ¬((n:Int)<0):=by omega
 have n1:(0:Int)<(n:Int):=by omega
 have e1:IntKind.i64.wrap ((n:Int) -0)=(n:Int):=by rw[IntKind.wrap_i64];omega
 have e2:IntKind.i64.wrap (n:Int)=(n:Int):=by rw[IntKind.wrap_i64];omega
 go_enter Tryz.func126,Tryz.ntmps126
 go_wp2_with (at_builtin;refine Lib.wpList_append_run _ rfl _ _ 36 3 rfl _ _ rfl rfl _ _ hr ?_)
 exact bodyPost_ret (v:= .slice (some ⟨w.heap.size,0,none⟩) 0 c) (by simp[results,Tryz.results126,go_sem]) rfl ⟨_,rfl,⟨_,c,cs,rfl,Nat.le_refl _,hlt,Nat.zero_le _,by omega,(by rw[List.nil_append];exact hC.out)⟩,hB⟩
theorem cConcat2(gl n1 n2 c1 c2:Nat)(s1 s2:Option Addr)(xs ys:List Nat)(w:World)(h1:w.cell? ⟨gl,0,none⟩=some (.slice s1 n1 c1))(h2:w.cell? ⟨gl,1,none⟩=some (.slice s2 n2 c2))(hgl:gl<w.heap.size)(i1:IN w w.heap.size (.slice s1 n1 c1) xs)(i2:IN w w.heap.size (.slice s2 n2 c2) ys)(hx:xs.length=n1)(hy:ys.length=n2)(hp:0<n1)(hle:n1+n2<=10000):
 Calls Tryz.prog 109 #[.slice (some ⟨gl,0,none⟩) 2 2] w fun e u=> ∃y,e= .returned y/\PG w.heap.size 1 (n1+n2) (U8 (xs++ys)) u y/\Bw w u:=by
 have hG:=cGrow (n1+n2) w (by omega) (by omega)
 rw[Int.natCast_add] at hG
 have q1:Hid (∀u,Bw w u->NW n1 (U8 xs) u (.slice s1 n1 c1)):=fun u hB=>by subst hx;exact IN_NW (IN.below i1 hB)
 have q2:Hid (∀u,Bw w u->NW n2 (U8 ys) u (.slice s2 n2 c2)):=fun u hB=>by subst hy;exact IN_NW (IN.below i2 hB)
 clear i1 i2
 have hx:Hid _:=hx
 have hy:Hid _:=hy
 have a1:IntKind.i64.wrap (n1:Int)=(n1:Int):=by rw[IntKind.wrap_i64];omega
 have a2:IntKind.i64.wrap (0+(n1:Int))=(n1:Int):=by rw[IntKind.wrap_i64];omega
 have a3:IntKind.i64.wrap ((n1:Int)+(n2:Int))=(n1:Int)+(n2:Int):=by rw[IntKind.wrap_i64];omega
 have b1: ¬((n1:Int)<0):=by omega
 have b2: ¬((n1:Int)+(n2:Int)<0):=by omega
 obtain⟨w0,rfl⟩: ∃x,x=w:=⟨_,rfl⟩
 go_enter Tryz.func109,Tryz.ntmps109
 go_wp2_with fail
 go_loopw [3,11] (fun s3 s11 wr=>wr=w0/\((s11= .int .i64 0/\s3= .int .i64 0)\/(s11= .int .i64 1/\s3= .int .i64 (n1:Int))\/(s11= .int .i64 2/\s3= .int .i64 ((n1:Int)+(n2:Int))))) (fun _ s11 _=>2 -(intOf s11).toNat)
 case atStart=>exact⟨rfl,.inl ⟨rfl,rfl⟩⟩
 case round=>
  obtain⟨rfl,⟨rfl,rfl⟩ | ⟨rfl,rfl⟩ | ⟨rfl,rfl⟩⟩:=hrel
  ·go_wp2
   exact⟨⟨by simp,.inr (.inl ⟨by simp,by simp⟩)⟩,by simp[intOf]⟩
  ·go_wp2
   exact⟨⟨by simp,.inr (.inr ⟨by simp,by simp⟩)⟩,by simp[intOf]⟩
  ·obtain⟨wo,rfl⟩: ∃x,x=wr:=⟨_,rfl⟩
   go_wp2_with (go_at_call 126;refine hG.mono ?_;clear hG;rintro e ua ⟨y,rfl,hpg,hBa⟩)
   have hpg:Hid (PG wo.heap.size 1 0 [] ua y):=hpg
   go_loopw [6,27] (fun s6 s27 wr=>Bw wo wr/\((s27= .int .i64 0/\Hid (PG wo.heap.size 1 0 (U8 []) wr s6))\/(s27= .int .i64 1/\Hid (PG wo.heap.size 1 n1 (U8 xs) wr s6))\/(s27= .int .i64 2/\Hid (PG wo.heap.size 1 (n1+n2) (U8 (xs++ys)) wr s6)))) (fun _ s27 _=>2 -(intOf s27).toNat)
   case atStart=>exact⟨hBa,.inl ⟨rfl,hpg⟩⟩
   case round=>
    obtain⟨HBr,⟨rfl,hg⟩ | ⟨rfl,hg⟩ | ⟨rfl,hg⟩⟩:=hrel
    ·have k1:wr.cell? ⟨gl,0,none⟩=some (.slice s1 n1 c1):=(HBr.cell (p:=⟨gl,0,none⟩) hgl).trans h1
     have hnw:=q1.out wr HBr
     obtain⟨v,u,b,r,hb,hgr,hq⟩:=app_PG (ty:=36) (lo:=wo.heap.size) (xs:=[]) (n:=0) HBr.size rfl hx.out (by omega) hnw hg.out
     have hB2:=HBr.grown hgr HBr.size (fun j e=>by cases e;exact hb)
     rw[List.nil_append,Nat.zero_add] at hq
     have hq0:=hq
     have hq:Hid _:=hq
     obtain⟨b',c',z',rfl,-⟩:=hq0
     have hg0:=hg.out
     obtain⟨b2,c2',z2,rfl,-⟩:=hg0
     clear hgr hnw
     go_wp2_with (at_builtin;refine Yv rfl _ _ 36 rfl _ _ _ rfl rfl r ?_;clear r)
     exact⟨⟨hB2,.inr (.inl ⟨by simp,hq⟩)⟩,by simp[intOf]⟩
    ·have k1:wr.cell? ⟨gl,1,none⟩=some (.slice s2 n2 c2):=(HBr.cell (p:=⟨gl,1,none⟩) hgl).trans h2
     have hnw:=q2.out wr HBr
     obtain⟨v,u,b,r,hb,hgr,hq⟩:=app_PG (ty:=36) (lo:=wo.heap.size) HBr.size hx.out hy.out (by omega) hnw hg.out
     have hB2:=HBr.grown hgr HBr.size (fun j e=>by cases e;exact hb)
     have hq0:=hq
     have hq:Hid _:=hq
     obtain⟨b',c',z',rfl,-⟩:=hq0
     have hg0:=hg.out
     obtain⟨b2,c2',z2,rfl,-⟩:=hg0
     clear hgr hnw
     go_wp2_with (at_builtin;refine Yv rfl _ _ 36 rfl _ _ _ rfl rfl r ?_;clear r)
     exact⟨⟨hB2,.inr (.inr ⟨by simp,hq⟩)⟩,by simp[intOf]⟩
    ·have hg0:=hg.out
     obtain⟨b2,c2',z2,rfl,-⟩:=hg0
     go_wp2
     exact bodyPost_ret (v:= .slice (some ⟨b2,0,none⟩) (n1+n2) c2') (by simp[results,Tryz.results109,go_sem]) rfl ⟨_,rfl,hg.out,HBr⟩
end
section
def bv(xs:List Int)(p:Nat):Int:=xs.getD (xs.length -1 -p) 0
def Tk(xs:List Int)(q:Nat):Nat->Int
 | 0=>0
 | k+1=>Tk xs q k+if k/8=q then bv xs k*2^(k%8*8) else 0
def Bytes8(xs:List Int):Prop:= ∀x∈xs,0<=x/\x<256
theorem bv_bd(xs:List Int)(h:Bytes8 xs)(p:Nat):0<=bv xs p/\bv xs p<256:=by
 unfold bv
 by_cases hl:xs.length -1 -p<xs.length
 ·rw[List.getD_eq_getElem?_getD,List.getElem?_eq_getElem hl,Option.getD_some];exact h _ (List.getElem_mem hl)
 ·rw[List.getD_eq_getElem?_getD,List.getElem?_eq_none (by omega)];simp
theorem Tk_lo(xs:List Int)(q:Nat): ∀k,k<=8*q->Tk xs q k=0
 | 0,_=>rfl
 | k+1,h=>by
  unfold Tk
  rw[Tk_lo xs q k (by omega),if_neg (by omega)];omega
theorem Tk_mid(xs:List Int)(h:Bytes8 xs)(q:Nat): ∀k,8*q<=k->k<=8*q+8->0<=Tk xs q k/\Tk xs q k<2^((k -8*q)*8)
 | 0,h1,h2=>by
  have:q=0:=by omega
  subst this;unfold Tk;simp
 | k+1,h1,h2=>by
  by_cases e:8*q<=k
  ·obtain⟨i1,i2⟩:=Tk_mid xs h q k e (by omega)
   have b:=bv_bd xs h k
   unfold Tk
   rw[if_pos (by omega),show (k+1 -8*q)*8=(k -8*q)*8+8 by omega,Int.pow_add,show k%8*8=(k -8*q)*8 by omega]
   have p:=Y0 ((k -8*q)*8)
   generalize (2:Int)^((k -8*q)*8)=s at *
   have m1:0<=bv xs k*s:=Int.mul_nonneg b.1 (by omega)
   have m2:bv xs k*s<=255*s:=Int.mul_le_mul_of_nonneg_right (by omega) (by omega)
   have m3:s*2^8=256*s:=by rw[Int.mul_comm];rfl
   omega
  ·have e2:8*q=k+1:=by omega
   rw[Tk_lo xs q (k+1) (by omega),show k+1 -8*q=0 by omega];simp
theorem Tk_hi(xs:List Int)(q:Nat): ∀k,8*q+8<=k->Tk xs q k=Tk xs q (8*q+8)
 | 0,h=>by omega
 | k+1,h=>by
  by_cases e:8*q+8=k+1
  ·rw[e]
  ·have:=Tk_hi xs q k (by omega)
   show Tk xs q k+_=_
   rw[if_neg (by omega),this];omega
theorem Tk_W(xs:List Int)(h:Bytes8 xs)(q k:Nat):W64 (Tk xs q k):=by
 by_cases h1:k<=8*q
 ·rw[Tk_lo xs q k h1];exact⟨by omega,by omega⟩
 ·by_cases h2:k<=8*q+8
  ·obtain⟨i1,i2⟩:=Tk_mid xs h q k (by omega) h2
   refine⟨i1,?_⟩
   have e:(18446744073709551616:Int)=2^((k -8*q)*8)*2^(64 -(k -8*q)*8):=by
    rw[<-Int.pow_add,show (k -8*q)*8+(64 -(k -8*q)*8)=64 by omega];rfl
   have p:=Y0 (64 -(k -8*q)*8)
   have m:=Int.mul_le_mul_of_nonneg_left (show (1:Int)<=2^(64 -(k -8*q)*8) by omega) (Int.le_of_lt (Y0 ((k -8*q)*8)))
   rw[e];omega
  ·rw[Tk_hi xs q k (by omega)]
   obtain⟨i1,i2⟩:=Tk_mid xs h q (8*q+8) (by omega) (by omega)
   refine⟨i1,?_⟩
   rw[show (8*q+8 -8*q)*8=64 by omega] at i2
   exact i2
theorem Tk_or(xs:List Int)(h:Bytes8 xs)(k q:Nat)(hq:k/8=q):bits .or .u64 (Tk xs q k) (IntKind.u64.wrap (bv xs k*2^(k%8*8)))=Tk xs q (k+1):=by
 obtain⟨i1,i2⟩:=Tk_mid xs h q k (by omega) (by omega)
 rw[show (k -8*q)*8=k%8*8 by omega] at i2
 have b:=bv_bd xs h k
 have wn:=Tk_W xs h q (k+1)
 have e:Tk xs q (k+1)=Tk xs q k+bv xs k*2^(k%8*8):=by
  show Tk xs q k+_=_
  rw[if_pos hq]
 have m1:0<=bv xs k*2^(k%8*8):=Int.mul_nonneg b.1 (Int.le_of_lt (Y0 _))
 rw[e] at wn⊢
 rw[IntKind.wrap_u64,Int.emod_eq_of_lt m1 (by have:=wn.2;omega)]
 exact or_int _ _ (k%8*8) ⟨i1,i2⟩ b.1 wn.2
theorem Xh(xs:List Int)(k q:Nat)(hq:k/8≠q):Tk xs q (k+1)=Tk xs q k:=by
 show Tk xs q k+_=_
 rw[if_neg hq];omega
end
section
open Go.RowKit
end
end Go.Proofs.YtknpepgonhdbgaaGreatDoor
