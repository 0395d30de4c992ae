import Derived.Test.YtgieoghechekpaaGreatDoorRR
import Derived.Lib.AppendZerosOnto
import Derived.Laws.CopyOwn
namespace Go.Proofs.YtgieoghechekpaaGreatDoor
set_option linter.unusedVariables false
set_option linter.unusedSimpArgs false
set_option maxRecDepth 100000
set_option maxHeartbeats 4000000
section
open Go.RowKit
theorem neq_w(p q:Operand)(a b c d x y z t:Int)(w:World):(do eqGuard .neq 24 p q (A4 a b c d) (A4 x y z t);binOp .neq 24 (A4 a b c d) (A4 x y z t):Sem Value).run Tryz.prog w= .ok (.bool (!eq4 a b c d x y z t)) w:=by
 go_simp
theorem eql_w(p q:Operand)(a b c d x y z t:Int)(w:World):(do eqGuard .eql 24 p q (A4 a b c d) (A4 x y z t);binOp .eql 24 (A4 a b c d) (A4 x y z t):Sem Value).run Tryz.prog w= .ok (.bool (eq4 a b c d x y z t)) w:=by
 go_simp
theorem eq4_N{n m:Int}(hn:In n)(hm:In m):eq4 (D0 n) (D1 n) (D2 n) (D3 n) (D0 m) (D1 m) (D2 m) (D3 m)=decide (n=m):=by
 rw[Bool.eq_iff_iff,eq4_V _ _ _ _ _ _ _ _ (W_D0 _) (W_D1 _) (W_D2 _) (W_D3 _) (W_D0 _) (W_D1 _) (W_D2 _) (W_D3 _),V_In hn,V_In hm];simp
theorem eq4_N0{n:Int}(hn:In n):eq4 (D0 n) (D1 n) (D2 n) (D3 n) 0 0 0 0=decide (n=0):=by
 have w0:W64 0:=by unfold W64;omega
 rw[Bool.eq_iff_iff,eq4_V _ _ _ _ _ _ _ _ (W_D0 _) (W_D1 _) (W_D2 _) (W_D3 _) w0 w0 w0 w0,V_In hn];simp[V]
theorem neq_n(p q:Operand){n m:Int}(hn:In n)(hm:In m)(b:Bool)(hb:decide (n=m)=!b)(w:World):(do eqGuard .neq 24 p q (NV n) (NV m);binOp .neq 24 (NV n) (NV m):Sem Value).run Tryz.prog w= .ok (.bool b) w:=by
 rw[neq_w,eq4_N hn hm,hb];simp
theorem neq_0(p q:Operand){n:Int}(hn:In n)(b:Bool)(hb:decide (n=0)=!b)(w:World):(do eqGuard .neq 24 p q (NV n) (A4 0 0 0 0);binOp .neq 24 (NV n) (A4 0 0 0 0):Sem Value).run Tryz.prog w= .ok (.bool b) w:=by
 rw[neq_w,eq4_N0 hn,hb];simp
theorem eql_n(p q:Operand){n m:Int}(hn:In n)(hm:In m)(b:Bool)(hb:decide (n=m)=b)(w:World):(do eqGuard .eql 24 p q (NV n) (NV m);binOp .eql 24 (NV n) (NV m):Sem Value).run Tryz.prog w= .ok (.bool b) w:=by
 rw[eql_w,eq4_N hn hm,hb]
theorem eql_0(p q:Operand){n:Int}(hn:In n)(b:Bool)(hb:decide (n=0)=b)(w:World):(do eqGuard .eql 24 p q (NV n) (A4 0 0 0 0);binOp .eql 24 (NV n) (A4 0 0 0 0):Sem Value).run Tryz.prog w= .ok (.bool b) w:=by
 rw[eql_w,eq4_N0 hn,hb]
theorem st_u64(w:World)(b k:Nat)(v x:Int)(h:w.cell? ⟨b,k,none⟩=some (.int .u64 v))(hf:w.frozen? ⟨b,k,none⟩=false):(Instr.storeAt 22 (.pointer (some ⟨b,k,none⟩)) (.int .u64 x)).run Tryz.prog w= .ok () (w.setCell ⟨b,k,none⟩ (.int .u64 x)):=by
 go_simp
theorem ix_wide(w:World)(b k:Nat)(h:k<8):(Instr.indexAt 59 (.pointer (some ⟨b,0,none⟩)) (.int .i64 k)).run Tryz.prog w= .ok (.pointer (some ⟨b,k,none⟩)) w:=by
 have h0:(0:Int)<=k:=by omega
 have h1:(k:Int)<8:=by omega
 go_simp
end
section
def natAt(w:World)(b:Nat):Nat:=(V (wordAt w b 0) (wordAt w b 1) (wordAt w b 2) (wordAt w b 3)).toNat
theorem natAt_of{w:World}{b:Nat}{n:Int}(h:CV w b (LN n))(hn:In n):natAt w b=n.toNat:=by
 have h0:=(h 0 _ rfl).1;have h1:=(h 1 _ rfl).1;have h2:=(h 2 _ rfl).1;have h3:=(h 3 _ rfl).1
 unfold natAt wordAt
 rw[h0,h1,h2,h3]
 show (V (D0 n) (D1 n) (D2 n) (D3 n)).toNat=_
 rw[V_In hn]
end
section
open Go.RowKit
section
section
variable {P:Program} {o:Oper} {a:Act} {w:World} {K:Act->World->Prop} {Q:Exit->Act->World->Prop}
end
end
theorem neq_i(T:TypeId)(p q:Operand)(x y:Int)(b:Bool)(w:World)(h:(x !=y)=b):(do eqGuard .neq T p q (.int .i64 x) (.int .i64 y);binOp .neq T (.int .i64 x) (.int .i64 y):Sem Value).run Tryz.prog w= .ok (.bool b) w:=by
 subst h;go_simp
section
section
variable {R:Rg} {P:Program} {ops:Array Oper} {Q:Exit->Act->World->Prop} {f:Nat->Bool} {t:Nat->Value} {u:World} {a:Act} {i:Nat} {o:Oper}
end
end
section
section
variable {R:Rg} {P:Program} {ops:Array Oper} {Q:Exit->Act->World->Prop} {f:Nat->Bool} {t:Nat->Value} {u:World} {a:Act} {i:Nat} {o:Oper}
end
end
section
section
variable {R:Rg} {P:Program} {ops:Array Oper} {Q:Exit->Act->World->Prop} {f:Nat->Bool} {t:Nat->Value} {u:World} {a:Act} {i:Nat} {o:Oper}
end
section
variable {P:Program} {ops:Array Oper} {Q:Exit->Act->World->Prop} {id:Nat} {w0 w:World} {fr:List Value} {lo:Nat} {ks:List Blk}
end
end
theorem uN:Tryz.prog.underlying 24=some (.array 4 22):=Tryz.underlying24
theorem uW:Tryz.prog.underlying 59=some (.array 8 22):=Tryz.underlying59
theorem iN:(Tryz.prog.info? 24).map (·.size)=some 4:=info_api_Nat
theorem iW:(Tryz.prog.info? 59).map (·.size)=some 8:=info_api_Wide
theorem aN(w:World):(Instr.alloc 24 true (.tuple #[])).run Tryz.prog w= .ok (.pointer (some ⟨w.heap.size,0,none⟩)) (w.alloc (.cells L0s.toArray 24)):=al_api_Nat w
theorem aW(w:World):(Instr.alloc 59 true (.tuple #[])).run Tryz.prog w= .ok (.pointer (some ⟨w.heap.size,0,none⟩)) (w.alloc (.cells L0w.toArray 59)):=al_api_Wide w
theorem zN(w:World):(Instr.build 24 [].toArray).run Tryz.prog w= .ok (A4 0 0 0 0) w:=by kernel_rfl
theorem sU{b c:Nat}{v x:Int}(w:World)(h:w.cell? ⟨b,c,none⟩=some (.int .u64 v))(hf:w.frozen? ⟨b,c,none⟩=false):(Instr.storeAt 22 (.pointer (some ⟨b,c,none⟩)) (.int .u64 x)).run Tryz.prog w= .ok () (w.setCell ⟨b,c,none⟩ (.int .u64 x)):=st_u64 w b c v x h hf
theorem jW{b:Nat}(k:Nat)(w:World)(h:k<8:=by decide):(Instr.indexAt 59 (.pointer (some ⟨b,0,none⟩)) (.int .i64 k)).run Tryz.prog w= .ok (.pointer (some ⟨b,k,none⟩)) w:=ix_wide w b k h
theorem NV_of(n a b c d k:Int)(ha:W64 a)(hb:W64 b)(hc:W64 c)(hd:W64 d)(h:n=V a b c d+k*115792089237316195423570985008687907853269984665640564039457584007913129639936):NV n=A4 a b c d:=by
 obtain⟨h0,h1,h2,h3,_⟩:=D_of n a b c d k ha hb hc hd h
 rw[NV,h0,h1,h2,h3]
theorem WV_of(n a b c d e f g h:Int)(ha:W64 a)(hb:W64 b)(hc:W64 c)(hd:W64 d)(he:W64 e)(hf:W64 f)(hg:W64 g)(hh:W64 h)(hn:n=V a b c d+V e f g h*115792089237316195423570985008687907853269984665640564039457584007913129639936):WV n=A8 a b c d e f g h:=by
 obtain⟨h0,h1,h2,h3,h4⟩:=D_of n a b c d (V e f g h) ha hb hc hd hn
 obtain⟨k0,k1,k2,k3,k4⟩:=D_of (V e f g h) e f g h 0 he hf hg hh (by omega)
 rw[WV,h0,h1,h2,h3,h4,k0,k1,k2,k3]
def H32(x:Int):Prop:=0<=x/\x<4294967296
theorem wide_any(g cap:Nat)(xw0 xw1 xw2 xw3 xw4 xw5 xw6 xw7 xw8 xw9 xw10 xw11 xw12 xw13 xw14 xw15:Int)(w:World)(c0:w.cell? ⟨g,0,none⟩=some (.int .u64 xw0))(c1:w.cell? ⟨g,1,none⟩=some (.int .u64 xw1))(c2:w.cell? ⟨g,2,none⟩=some (.int .u64 xw2))(c3:w.cell? ⟨g,3,none⟩=some (.int .u64 xw3))(c4:w.cell? ⟨g,4,none⟩=some (.int .u64 xw4))(c5:w.cell? ⟨g,5,none⟩=some (.int .u64 xw5))(c6:w.cell? ⟨g,6,none⟩=some (.int .u64 xw6))(c7:w.cell? ⟨g,7,none⟩=some (.int .u64 xw7))(c8:w.cell? ⟨g,8,none⟩=some (.int .u64 xw8))(c9:w.cell? ⟨g,9,none⟩=some (.int .u64 xw9))(c10:w.cell? ⟨g,10,none⟩=some (.int .u64 xw10))(c11:w.cell? ⟨g,11,none⟩=some (.int .u64 xw11))(c12:w.cell? ⟨g,12,none⟩=some (.int .u64 xw12))(c13:w.cell? ⟨g,13,none⟩=some (.int .u64 xw13))(c14:w.cell? ⟨g,14,none⟩=some (.int .u64 xw14))(c15:w.cell? ⟨g,15,none⟩=some (.int .u64 xw15))(h0:H32 xw0)(h1:H32 xw1)(h2:H32 xw2)(h3:H32 xw3)(h4:H32 xw4)(h5:H32 xw5)(h6:H32 xw6)(h7:H32 xw7)(h8:H32 xw8)(h9:H32 xw9)(h10:H32 xw10)(h11:H32 xw11)(h12:H32 xw12)(h13:H32 xw13)(h14:H32 xw14)(h15:H32 xw15):
 CC 49 #[.slice (some ⟨g,0,none⟩) 16 cap] w (A8 (xw0+xw1*4294967296) (xw2+xw3*4294967296) (xw4+xw5*4294967296) (xw6+xw7*4294967296) (xw8+xw9*4294967296) (xw10+xw11*4294967296) (xw12+xw13*4294967296) (xw14+xw15*4294967296)):=by
 obtain⟨l0,u0⟩:=h0
 obtain⟨l1,u1⟩:=h1
 obtain⟨l2,u2⟩:=h2
 obtain⟨l3,u3⟩:=h3
 obtain⟨l4,u4⟩:=h4
 obtain⟨l5,u5⟩:=h5
 obtain⟨l6,u6⟩:=h6
 obtain⟨l7,u7⟩:=h7
 obtain⟨l8,u8⟩:=h8
 obtain⟨l9,u9⟩:=h9
 obtain⟨l10,u10⟩:=h10
 obtain⟨l11,u11⟩:=h11
 obtain⟨l12,u12⟩:=h12
 obtain⟨l13,u13⟩:=h13
 obtain⟨l14,u14⟩:=h14
 obtain⟨l15,u15⟩:=h15
 have lg:g<w.heap.size:=World.block_lt_of_cell? w _ c0
 have lg1:g<w.heap.size+1:=by omega
 have lg2:g<w.heap.size+1+1:=by omega
 go_enter Tryz.func49,Tryz.ntmps49
 go_wp2
 refine wp_loop_rounds 9 ?_
 rw[rounds_succ]
 go_wp2
 go_region
 go_wp2
 rw[rounds_succ]
 go_wp2
 go_region
 go_wp2
 rw[rounds_succ]
 go_wp2
 go_region
 go_wp2
 rw[rounds_succ]
 go_wp2
 go_region
 go_wp2
 rw[rounds_succ]
 go_wp2
 go_region
 go_wp2
 rw[rounds_succ]
 go_wp2
 go_region
 go_wp2
 rw[rounds_succ]
 go_wp2
 go_region
 go_wp2
 rw[rounds_succ]
 go_wp2
 go_region
 go_wp2
 rw[rounds_succ]
 go_wp2
 refine bodyPost_ret (v:=A8 (xw0+xw1*4294967296) (xw2+xw3*4294967296) (xw4+xw5*4294967296) (xw6+xw7*4294967296) (xw8+xw9*4294967296) (xw10+xw11*4294967296) (xw12+xw13*4294967296) (xw14+xw15*4294967296)) (by simp[results,Tryz.results49,go_sem]) rfl ⟨rfl,?_⟩
 iterate 6 all_goals (go_grown<;>try with_reducible refine below_drewN ?_ _)
theorem zc8L:Builtin.zeroCells (Value.int .u64 0).cells 8=#[.int .u64 0,.int .u64 0,.int .u64 0,.int .u64 0,.int .u64 0,.int .u64 0,.int .u64 0,.int .u64 0]:=by kernel_rfl
abbrev z8L:List Value:=[.int .u64 0,.int .u64 0,.int .u64 0,.int .u64 0,.int .u64 0,.int .u64 0,.int .u64 0,.int .u64 0]
theorem run_app16(w:World)(base b cap:Nat)(xs:List Value)(hbase:base<=w.heap.size)(hown:w.ownsRow base 22 1 (.slice (some ⟨b,0,none⟩) 8 cap) 8 xs):
 ∃b' cap' w',(Builtin.append_ #[90,3] 90 #[.slice (some ⟨b,0,none⟩) 8 cap,.int .i64 8]).run Tryz.prog w= .ok (.slice (some ⟨b',0,none⟩) 16 cap') w'/\
  (∀i u,(xs++z8L)[i]?=some u->w'.cell? ⟨b',i,none⟩=some u)/\Below base w w':=by
 obtain⟨i0,hi0,hz0,hz1,hz2⟩:=info_parts Tryz.info22
 obtain⟨hlen,hr⟩:=hown
 rcases hr with⟨h,_⟩ | ⟨g,cap',cur,hv,hbg,hg,hcap,hcm,hcs,htake⟩
 ·simp at h
 ·simp at hv
  obtain⟨rfl,rfl⟩:=hv
  simp only[Nat.mul_one] at hcs htake hlen
  by_cases hroom:16<=cap
  ·refine⟨b,cap,w.setRow b (cur.toList.take 8++z8L++cur.toList.drop 16).toArray,?_,?_,?_⟩
   ·have hst:=run_storeCells_at (P:=Tryz.prog) b 8 22 z8L 0 cur w hg (by simp;omega) (by intro v hv;simp at hv;subst hv;rfl)
    simp only[Nat.add_zero] at hst
    have hw:IntKind.i64.wrap (8:Int)=8:=by decide
    simp[Builtin.append_,run_underlying Tryz.underlying90,run_underlying Tryz.underlying3,sizeOf,typeInfo,zeroValue,hi0,hz0,hz1,hz2,asInt,asIntOf,hw,hroom,zc8L,Addr.add_lit,hst]
   ·intro i u hu
    rw[cell_setRow_same w b i cur _ 22 (0,0) hg]
    rw[htake]
    have hi:i<16:=by
     have:=(List.getElem?_eq_some_iff.1 hu).1
     simp[hlen] at this;exact this
    rw[List.getElem?_toArray,List.getElem?_append_left (by simp[hlen];omega)]
    exact hu
   ·exact below_setRow (Below.refl _ _) hbg _
  ·have hold:(Builtin.firstCells i0.size 8 (.slice (some ⟨b,0,none⟩) 8 cap)).run Tryz.prog w.drew= .ok xs.toArray w.drew:=by
    refine run_firstCells_some (P:=Tryz.prog) w.drew i0.size 8 ⟨b,0,none⟩ 8 cap xs (by rw[hz1];simpa using hlen) ?_
    intro j v hj
    have hadd:(⟨b,0,none⟩:Addr).add j=⟨b,j,none⟩:=by unfold Addr.add;split<;>simp_all
    rw[hadd]
    show w.cell? ⟨b,j,none⟩=some v
    rw[cell_of_row w b j cur 22 (0,0) hg]
    rw[<-htake,List.getElem?_take] at hj
    split at hj
    ·simpa using hj
    ·cases hj
   have hrun:=Lib.run_append_grow_zeros (P:=Tryz.prog) w 90 3 90 22 i0 (.int .u64 0) .i64 .i64 Tryz.underlying90 Tryz.underlying3 hi0 hz0 (some ⟨b,0,none⟩) 8 cap xs hold 8 (by omega) (by omega) (by omega) (by simp) (by rw[hz2];omega) (by
    rw[hz2];unfold Builtin.nextslicecap;split
    ·omega
    ·rw[if_pos (by omega)];omega)
   refine⟨_,_,_,hrun,?_,?_⟩
   ·intro i u hu
    rw[cell_of_row _ w.heap.size i _ 22 (0,0) (heap_alloc_new w.drew _)]
    rw[zc8L]
    have hi:i<16:=by
     have:=(List.getElem?_eq_some_iff.1 hu).1
     simp[hlen] at this;exact this
    rw[Array.getElem?_append_left (by simp[hlen];omega)]
    simpa using hu
   ·exact((Below.refl _ _).drew).alloc hbase _
theorem lo32(x:Int):H32 (x%4294967296):=by unfold H32;omega
theorem hi32(x:Int)(h:W64 x):H32 (x/4294967296):=by unfold W64 at h;unfold H32;omega
theorem z32L:H32 0:=by unfold H32;omega
theorem lohi(x:Int):x%4294967296+x/4294967296*4294967296=x:=by omega
theorem zz:(0:Int)+0*4294967296=0:=by omega
theorem rWiden_any(p q r s:Int)(w:World)(hp:W64 p)(hq:W64 q)(hr:W64 r)(hs:W64 s):
 CC 26 #[A4 p q r s] w (A8 p q r s 0 0 0 0):=by
 have hW:=fun(g cap:Nat) (w:World)=>wide_any g cap (p%4294967296) (p/4294967296) (q%4294967296) (q/4294967296) (r%4294967296) (r/4294967296) (s%4294967296) (s/4294967296) 0 0 0 0 0 0 0 0 w
 simp only[lohi,zz] at hW
 have HW:=hW
 clear hW
 have hWW:Hid _:=HW
 clear HW
 go_enter Tryz.func26,Tryz.ntmps26
 go_wp2_with fail
 refine(digits_any _ p q r s _ (by unfold C4;simp[go_sem]) hp hq hr hs).mono ?_
 rintro e w1 ⟨b,cap,rfl,hown,hB⟩
 simp only[World.size_alloc] at hown
 obtain⟨b',cap',w2,hrun,hcells,hB2⟩:=run_app16 w1 _ b cap _ (by have:=hB.size;simp at this;omega) hown
 clear hown
 have hR:Hid _:=hrun
 clear hrun
 go_wp2_with (at_builtin;refine Lib.wpList_append_run _ rfl _ _ _ _ rfl _ _ rfl rfl _ _ hR.out ?_)
 refine(hWW.out b' cap' _ (hcells 0 _ rfl) (hcells 1 _ rfl) (hcells 2 _ rfl) (hcells 3 _ rfl) (hcells 4 _ rfl) (hcells 5 _ rfl) (hcells 6 _ rfl) (hcells 7 _ rfl) (hcells 8 _ rfl) (hcells 9 _ rfl) (hcells 10 _ rfl) (hcells 11 _ rfl) (hcells 12 _ rfl) (hcells 13 _ rfl) (hcells 14 _ rfl) (hcells 15 _ rfl) (lo32 p) (hi32 p hp) (lo32 q) (hi32 q hq) (lo32 r) (hi32 r hr) (lo32 s) (hi32 s hs) z32L z32L z32L z32L z32L z32L z32L z32L).mono ?_
 rintro e w3 ⟨rfl,hB3⟩
 simp only[Bw,World.size_alloc] at hB
 have hsz1:=hB.size
 have hsz2:=hB2.size
 have hsz3:=hB3.size
 simp only[World.size_alloc] at hsz1
 have hall:=hB.trans (hB2.trans (hB3.mono (by omega)))
 clear hB hB2 hB3 hcells
 have hcell: ∀o,w3.cell? ⟨w.heap.size+1,o,none⟩=_:=fun o=>hall.cell (p:=⟨w.heap.size+1,o,none⟩) (by show w.heap.size+1<w.heap.size+1+1;omega)
 have hfroz: ∀o,w3.frozen? ⟨w.heap.size+1,o,none⟩=_:=fun o=>hall.frozen (p:=⟨w.heap.size+1,o,none⟩) (by show w.heap.size+1<w.heap.size+1+1;omega)
 go_wp2
 refine bodyPost_ret (v:=A8 p q r s 0 0 0 0) (by simp[results,Tryz.results26,go_sem,hcell]) rfl ⟨rfl,?_⟩
 have hB':Bw w w3:=Below.trans (by go_grown) (hall.mono (by omega))
 go_grown
end
end Go.Proofs.YtgieoghechekpaaGreatDoor
