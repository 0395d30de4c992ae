import Derived.Test.YtdhlekdohebbbaaGreatDoorU0
import Derived.Laws.CopyOwn
namespace Go.Proofs.YtdhlekdohebbbaaGreatDoor
set_option linter.unusedVariables false
set_option linter.unusedSimpArgs false
set_option maxRecDepth 100000
set_option maxHeartbeats 4000000
section
open Go.RowKit
def SBL(w:World)(g o:Nat)(xs:List Int):Prop:= ∀j,j<xs.length->w.cell? ⟨g,o+j,none⟩=some (.int .u8 (xs.getD j 0))
theorem SBL.below{w w':World}{m g o:Nat}{xs:List Int}(h:SBL w g o xs)(hb:Below m w w')(hg:g<m):SBL w' g o xs:=fun j hj=>(hb.cell (p:=⟨g,o+j,none⟩) hg).trans (h j hj)
theorem Read_any(g o cap:Nat)(xs:List Int)(w:World)(hn:xs.length<=32)(hx:Yf xs)(hg:g<w.heap.size)(hS:SBL w g o xs):
 CC 46 #[.slice (some ⟨g,o,none⟩) xs.length cap] w (.tuple #[A4 (Tk xs 0 xs.length) (Tk xs 1 xs.length) (Tk xs 2 xs.length) (Tk xs 3 xs.length),iI 0]):=by
 obtain⟨n,en⟩: ∃n,xs.length=n:=⟨_,rfl⟩
 have hn': ¬(32:Int)<(n:Int):=by omega
 have hn2:(n:Int)<=32:=by omega
 rw[en]
 have EN:Hid _:=en
 clear en
 go_enter Tryz.func46,Tryz.ntmps46
 go_wp2
 go_loopw [12] (fun i wr=> ∃k:Nat,k<=n/\i=iI k/\Bw w wr/\w.heap.size+1<wr.heap.size/\C4 wr w.heap.size 0 0 0 0/\C4 wr (w.heap.size+1) (Tk xs 0 k) (Tk xs 1 k) (Tk xs 2 k) (Tk xs 3 k)) (fun i _=>n -(intOf i).toNat)
 case atStart=>
  refine⟨0,by omega,rfl,?_,by simp,by unfold C4;simp[go_sem],by unfold C4;simp[go_sem,Tk]⟩
  iterate 6 all_goals (go_grown<;>try with_reducible refine below_drewN ?_ _)
 case round=>
  obtain⟨k,hk,rfl,hB,hs,hR,hA⟩:=hrel
  by_cases hlt:k<n
  ·have hlt':(k:Int)<(n:Int):=by omega
   have hA':=hA
   obtain⟨⟨ac0,ac1,ac2,ac3⟩,af0,af1,af2,af3⟩:=hA'
   have hc:=(hS.below hB hg) (n -1 -k) (by have:=EN.out;omega)
   have hxe:xs.getD (n -1 -k) 0=bv xs k:=by unfold bv;rw[EN.out]
   have hxb:=bv_bd xs hx k
   rw[hxe] at hc
   have T0:Hid _:=fun hq=>Tk_or xs hx k 0 hq
   have T1:Hid _:=fun hq=>Tk_or xs hx k 1 hq
   have T2:Hid _:=fun hq=>Tk_or xs hx k 2 hq
   have T3:Hid _:=fun hq=>Tk_or xs hx k 3 hq
   obtain⟨x,ex⟩: ∃x,bv xs k=x:=⟨_,rfl⟩
   rw[ex] at hc hxb
   obtain⟨x0,x1⟩:=hxb
   have EX:Hid _:=ex
   clear hxe ex
   have hq:k/8=0\/k/8=1\/k/8=2\/k/8=3:=by omega
   rcases hq with hq | hq | hq | hq
   ·have hq':(k:Int)/8=0:=by omega
    have HQ:Hid _:=hq
    clear hq
    generalize wr=u at *
    go_wp2
    go_region
    go_wp2
    refine⟨⟨k+1,by omega,by go_num,?_,by simpa using hs,hR.other _ (by simp<;>omega) _,?_⟩,by simp[intOf];omega⟩
    ·iterate 6 all_goals (go_grown<;>try with_reducible refine below_drewN ?_ _)
    ·have ht:=T0.out HQ.out
     rw[EX.out] at ht
     have hf:=HQ.out
     rw[<-ht,Xp xs k 1 (by omega),Xp xs k 2 (by omega),Xp xs k 3 (by omega)]
     exact(hA.set0 _)
   ·have hq':(k:Int)/8=1:=by omega
    have HQ:Hid _:=hq
    clear hq
    generalize wr=u at *
    go_wp2
    go_region
    go_wp2
    refine⟨⟨k+1,by omega,by go_num,?_,by simpa using hs,hR.other _ (by simp<;>omega) _,?_⟩,by simp[intOf];omega⟩
    ·iterate 6 all_goals (go_grown<;>try with_reducible refine below_drewN ?_ _)
    ·have ht:=T1.out HQ.out
     rw[EX.out] at ht
     have hf:=HQ.out
     rw[<-ht,Xp xs k 0 (by omega),Xp xs k 2 (by omega),Xp xs k 3 (by omega)]
     exact(hA.set1 _)
   ·have hq':(k:Int)/8=2:=by omega
    have HQ:Hid _:=hq
    clear hq
    generalize wr=u at *
    go_wp2
    go_region
    go_wp2
    refine⟨⟨k+1,by omega,by go_num,?_,by simpa using hs,hR.other _ (by simp<;>omega) _,?_⟩,by simp[intOf];omega⟩
    ·iterate 6 all_goals (go_grown<;>try with_reducible refine below_drewN ?_ _)
    ·have ht:=T2.out HQ.out
     rw[EX.out] at ht
     have hf:=HQ.out
     rw[<-ht,Xp xs k 0 (by omega),Xp xs k 1 (by omega),Xp xs k 3 (by omega)]
     exact(hA.set2 _)
   ·have hq':(k:Int)/8=3:=by omega
    have HQ:Hid _:=hq
    clear hq
    generalize wr=u at *
    go_wp2
    go_region
    go_wp2
    refine⟨⟨k+1,by omega,by go_num,?_,by simpa using hs,hR.other _ (by simp<;>omega) _,?_⟩,by simp[intOf];omega⟩
    ·iterate 6 all_goals (go_grown<;>try with_reducible refine below_drewN ?_ _)
    ·have ht:=T3.out HQ.out
     rw[EX.out] at ht
     have hf:=HQ.out
     rw[<-ht,Xp xs k 0 (by omega),Xp xs k 1 (by omega),Xp xs k 2 (by omega)]
     exact(hA.set3 _)
  ·have hkn:k=n:=by omega
   subst hkn
   obtain⟨⟨ac0,ac1,ac2,ac3⟩,_⟩:=hA
   obtain⟨⟨rc0,rc1,rc2,rc3⟩,rf0,rf1,rf2,rf3⟩:=hR
   have y0:w.heap.size<wr.heap.size:=by omega
   go_wp2
   refine bodyPost_ret (v:= .tuple #[A4 (Tk xs 0 k) (Tk xs 1 k) (Tk xs 2 k) (Tk xs 3 k),iI 0]) (by simp[results,Tryz.results46,go_sem, *]) rfl ⟨rfl,?_⟩
   iterate 6 all_goals (go_grown<;>try with_reducible refine below_drewN ?_ _)
section
section
variable {R:Rg} {P:Program} {ops:Array Oper} {Q:Exit->Act->World->Prop} {f:Nat->Bool} {t:Nat->Value} {u:World} {a:Act} {i:Nat} {o:Oper}
end
theorem Vb(T:TypeId)(p q:Operand)(x y:Int)(b:Bool)(w:World)(h:(x==y)=b):(do eqGuard .eql T p q (iI x) (iI y);binOp .eql T (iI x) (iI y):Sem Value).run Tryz.prog w= .ok (.bool b) w:=by
 subst h;go_simp
end
theorem neq_w(p q:Operand)(a b c d x y z t:Int)(w:World):(do eqGuard .neq 24 p q (A4 a b c d) (A4 x y z t);binOp .neq 24 (A4 a b c d) (A4 x y z t):Sem Value).run Tryz.prog w= .ok (.bool (!eq4 a b c d x y z t)) w:=by
 go_simp
theorem eql_w(p q:Operand)(a b c d x y z t:Int)(w:World):(do eqGuard .eql 24 p q (A4 a b c d) (A4 x y z t);binOp .eql 24 (A4 a b c d) (A4 x y z t):Sem Value).run Tryz.prog w= .ok (.bool (eq4 a b c d x y z t)) w:=by
 go_simp
theorem eq4_N{n m:Int}(hn:In n)(hm:In m):eq4 (D0 n) (D1 n) (D2 n) (D3 n) (D0 m) (D1 m) (D2 m) (D3 m)=decide (n=m):=by
 rw[Bool.eq_iff_iff,eq4_V _ _ _ _ _ _ _ _ (W_D0 _) (W_D1 _) (W_D2 _) (W_D3 _) (W_D0 _) (W_D1 _) (W_D2 _) (W_D3 _),V_In hn,V_In hm];simp
theorem eq4_N0{n:Int}(hn:In n):eq4 (D0 n) (D1 n) (D2 n) (D3 n) 0 0 0 0=decide (n=0):=by
 have w0:W64 0:=by unfold W64;omega
 rw[Bool.eq_iff_iff,eq4_V _ _ _ _ _ _ _ _ (W_D0 _) (W_D1 _) (W_D2 _) (W_D3 _) w0 w0 w0 w0,V_In hn];simp[V]
theorem Yy(p q:Operand){n m:Int}(hn:In n)(hm:In m)(b:Bool)(hb:decide (n=m)=!b)(w:World):(do eqGuard .neq 24 p q (NV n) (NV m);binOp .neq 24 (NV n) (NV m):Sem Value).run Tryz.prog w= .ok (.bool b) w:=by
 rw[neq_w,eq4_N hn hm,hb];simp
theorem neq_0(p q:Operand){n:Int}(hn:In n)(b:Bool)(hb:decide (n=0)=!b)(w:World):(do eqGuard .neq 24 p q (NV n) (A4 0 0 0 0);binOp .neq 24 (NV n) (A4 0 0 0 0):Sem Value).run Tryz.prog w= .ok (.bool b) w:=by
 rw[neq_w,eq4_N0 hn,hb];simp
theorem W3(p q:Operand){n m:Int}(hn:In n)(hm:In m)(b:Bool)(hb:decide (n=m)=b)(w:World):(do eqGuard .eql 24 p q (NV n) (NV m);binOp .eql 24 (NV n) (NV m):Sem Value).run Tryz.prog w= .ok (.bool b) w:=by
 rw[eql_w,eq4_N hn hm,hb]
theorem eql_0(p q:Operand){n:Int}(hn:In n)(b:Bool)(hb:decide (n=0)=b)(w:World):(do eqGuard .eql 24 p q (NV n) (A4 0 0 0 0);binOp .eql 24 (NV n) (A4 0 0 0 0):Sem Value).run Tryz.prog w= .ok (.bool b) w:=by
 rw[eql_w,eq4_N0 hn,hb]
theorem ld_u64(w:World)(b k:Nat)(v:Int)(h:w.cell? ⟨b,k,none⟩=some (iU v)):(Instr.loadAt 22 (.pointer (some ⟨b,k,none⟩))).run Tryz.prog w= .ok (iU v) w:=by
 go_simp
theorem st_u64(w:World)(b k:Nat)(v x:Int)(h:w.cell? ⟨b,k,none⟩=some (iU v))(hf:w.frozen? ⟨b,k,none⟩=false):(Instr.storeAt 22 (.pointer (some ⟨b,k,none⟩)) (iU x)).run Tryz.prog w= .ok () (w.setCell ⟨b,k,none⟩ (iU x)):=by
 go_simp
theorem ix_nat(w:World)(b k:Nat)(h:k<4):(Instr.indexAt 24 (.pointer (some ⟨b,0,none⟩)) (iI k)).run Tryz.prog w= .ok (.pointer (some ⟨b,k,none⟩)) w:=by
 have h0:(0:Int)<=k:=by omega
 have h1:(k:Int)<4:=by omega
 go_simp
theorem ix_wide(w:World)(b k:Nat)(h:k<8):(Instr.indexAt 85 (.pointer (some ⟨b,0,none⟩)) (iI k)).run Tryz.prog w= .ok (.pointer (some ⟨b,k,none⟩)) w:=by
 have h0:(0:Int)<=k:=by omega
 have h1:(k:Int)<8:=by omega
 go_simp
theorem Yh(w:World)(b k:Nat)(h:k<5):(Instr.indexAt 164 (.pointer (some ⟨b,0,none⟩)) (iI k)).run Tryz.prog w= .ok (.pointer (some ⟨b,k,none⟩)) w:=by
 have h0:(0:Int)<=k:=by omega
 have h1:(k:Int)<5:=by omega
 go_simp
theorem add_u(p q:Operand)(x y z:Int)(w:World)(h:(x+y)%18446744073709551616=z):(do eqGuard .add 22 p q (iU x) (iU y);binOp .add 22 (iU x) (iU y):Sem Value).run Tryz.prog w= .ok (iU z) w:=by
 subst h
 go_simp
 simp[IntKind.wrap,IntKind.signed,IntKind.bits]
theorem mul_u(p q:Operand)(x y z:Int)(w:World)(h:(x*y)%18446744073709551616=z):(do eqGuard .mul 22 p q (iU x) (iU y);binOp .mul 22 (iU x) (iU y):Sem Value).run Tryz.prog w= .ok (iU z) w:=by
 subst h
 go_simp
 simp[IntKind.wrap,IntKind.signed,IntKind.bits]
end
section
def natAt(w:World)(b:Nat):Nat:=(V (wordAt w b 0) (wordAt w b 1) (wordAt w b 2) (wordAt w b 3)).toNat
theorem natAt_of{w:World}{b:Nat}{n:Int}(h:CV w b (LN n))(hn:In n):natAt w b=n.toNat:=by
 have h0:=(h 0 _ rfl).1;have h1:=(h 1 _ rfl).1;have h2:=(h 2 _ rfl).1;have h3:=(h 3 _ rfl).1
 unfold natAt wordAt
 rw[h0,h1,h2,h3]
 show (V (D0 n) (D1 n) (D2 n) (D3 n)).toNat=_
 rw[V_In hn]
end
section
open Go.RowKit
section
section
variable {P:Program} {o:Oper} {a:Act} {w:World} {K:Act->World->Prop} {Q:Exit->Act->World->Prop}
end
theorem al__5_uint64(w:World):(Instr.alloc 164 true (.tuple #[])).run Tryz.prog w= .ok (.pointer (some ⟨w.heap.size,0,none⟩)) (w.alloc (.cells L05.toArray 164)):=by kernel_rfl
theorem sl_five(b:Nat)(w:World):(Instr.sliceAt 164 (.pointer (some ⟨b,0,none⟩)) none (some (iI 4)) none).run Tryz.prog w= .ok (.slice (some ⟨b,0,none⟩) 4 5) w:=by kernel_rfl
theorem ap_five(b:Nat)(w:World):(Instr.arrayAt 24 (.slice (some ⟨b,0,none⟩) 4 5)).run Tryz.prog w= .ok (.pointer (some ⟨b,0,none⟩)) w:=by kernel_rfl
theorem fd_m(b:Nat)(w:World):(Instr.fieldAt 156 (.pointer (some ⟨b,0,none⟩)) 0).run Tryz.prog w= .ok (.pointer (some ⟨b,0,none⟩)) w:=by kernel_rfl
theorem fd_c(b:Nat)(w:World):(Instr.fieldAt 156 (.pointer (some ⟨b,0,none⟩)) 1).run Tryz.prog w= .ok (.pointer (some ⟨b,4,none⟩)) w:=by go_simp
end
theorem eql_same(p q:Operand)(n:Int)(w:World):(do eqGuard .eql 24 p q (NV n) (NV n);binOp .eql 24 (NV n) (NV n):Sem Value).run Tryz.prog w= .ok (.bool true) w:=by
 rw[eql_w,eq4_same]
theorem V9(T:TypeId)(p q:Operand)(x y:Int)(b:Bool)(w:World)(h:(x !=y)=b):(do eqGuard .neq T p q (iI x) (iI y);binOp .neq T (iI x) (iI y):Sem Value).run Tryz.prog w= .ok (.bool b) w:=by
 subst h;go_simp
section
section
variable {R:Rg} {P:Program} {ops:Array Oper} {Q:Exit->Act->World->Prop} {f:Nat->Bool} {t:Nat->Value} {u:World} {a:Act} {i:Nat} {o:Oper}
end
end
section
section
variable {R:Rg} {P:Program} {ops:Array Oper} {Q:Exit->Act->World->Prop} {f:Nat->Bool} {t:Nat->Value} {u:World} {a:Act} {i:Nat} {o:Oper}
end
end
section
section
variable {R:Rg} {P:Program} {ops:Array Oper} {Q:Exit->Act->World->Prop} {f:Nat->Bool} {t:Nat->Value} {u:World} {a:Act} {i:Nat} {o:Oper}
end
section
variable {P:Program} {ops:Array Oper} {Q:Exit->Act->World->Prop} {id:Nat} {w0 w:World} {fr:List Value} {lo:Nat} {ks:List Blk}
end
end
theorem uN:Tryz.prog.underlying 24=some (.array 4 22):=Tryz.underlying24
theorem uW:Tryz.prog.underlying 85=some (.array 8 22):=Tryz.underlying85
theorem iN:(Tryz.prog.info? 24).map (·.size)=some 4:=info_api_Nat
theorem iW:(Tryz.prog.info? 85).map (·.size)=some 8:=info_api_Wide
theorem aN(w:World):(Instr.alloc 24 true (.tuple #[])).run Tryz.prog w= .ok (.pointer (some ⟨w.heap.size,0,none⟩)) (w.alloc (.cells L0s.toArray 24)):=al_api_Nat w
theorem aW(w:World):(Instr.alloc 85 true (.tuple #[])).run Tryz.prog w= .ok (.pointer (some ⟨w.heap.size,0,none⟩)) (w.alloc (.cells L0w.toArray 85)):=al_api_Wide w
theorem zN(w:World):(Instr.build 24 [].toArray).run Tryz.prog w= .ok (A4 0 0 0 0) w:=by kernel_rfl
theorem lU{b c:Nat}{v:Int}(w:World)(h:w.cell? ⟨b,c,none⟩=some (iU v)):(Instr.loadAt 22 (.pointer (some ⟨b,c,none⟩))).run Tryz.prog w= .ok (iU v) w:=ld_u64 w b c v h
theorem sU{b c:Nat}{v x:Int}(w:World)(h:w.cell? ⟨b,c,none⟩=some (iU v))(hf:w.frozen? ⟨b,c,none⟩=false):(Instr.storeAt 22 (.pointer (some ⟨b,c,none⟩)) (iU x)).run Tryz.prog w= .ok () (w.setCell ⟨b,c,none⟩ (iU x)):=st_u64 w b c v x h hf
theorem jN{b:Nat}(k:Nat)(w:World)(h:k<4:=by decide):(Instr.indexAt 24 (.pointer (some ⟨b,0,none⟩)) (iI k)).run Tryz.prog w= .ok (.pointer (some ⟨b,k,none⟩)) w:=ix_nat w b k h
theorem jW{b:Nat}(k:Nat)(w:World)(h:k<8:=by decide):(Instr.indexAt 85 (.pointer (some ⟨b,0,none⟩)) (iI k)).run Tryz.prog w= .ok (.pointer (some ⟨b,k,none⟩)) w:=ix_wide w b k h
section
def flN:List Int->List Value
 | []=>[]
 | n::r=>LN n++flN r
def SN(w:World)(g o:Nat)(ns:List Int):Prop:= ∀j v,(flN ns)[j]?=some v->w.cell? ⟨g,o+j,none⟩=some v
theorem SN.below{w w':World}{m g o:Nat}{ns:List Int}(h:SN w g o ns)(hb:Below m w w')(hg:g<m):SN w' g o ns:=fun j v hj=>(hb.cell (p:=⟨g,o+j,none⟩) hg).trans (h j v hj)
theorem SN.empty{w:World}{g o:Nat}{ns:List Int}(h:ns.length=0):SN w g o ns:=fun j v hj=>by
 have e:ns=[]:=List.eq_nil_of_length_eq_zero h
 subst e;simp[flN] at hj
theorem flN_len: ∀ns:List Int,(flN ns).length=4*ns.length
 | []=>rfl
 | n::r=>by rw[flN,List.length_append,flN_len r,List.length_cons];simp;omega
theorem flN_get: ∀(ns:List Int) (j c:Nat) (v:Value),j<ns.length->(LN (ns.getD j 0))[c]?=some v->(flN ns)[4*j+c]?=some v
 | [],j,c,v,h,_=>by simp at h
 | n::r,0,c,v,h,e=>by
  rw[flN,List.getElem?_append_left]
  ·simpa using e
  ·have:=(List.getElem?_eq_some_iff.1 e).1
   simpa using this
 | n::r,j+1,c,v,h,e=>by
  rw[flN,List.getElem?_append_right (by simp;omega)]
  have:=flN_get r j c v (by simpa using h) (by simpa using e)
  simpa [show 4*(j+1)+c -4=4*j+c by omega] using this
theorem SN.at{w:World}{g o:Nat}{ns:List Int}(h:SN w g o ns)(j:Nat)(hj:j<ns.length):w.rangeAt g (o+4*j) (LN (ns.getD j 0)):=fun c v hc=>by
 have:=h (4*j+c) v (flN_get ns j c v hj hc)
 rwa [<-Nat.add_assoc] at this
section
variable {R:Rg} {P:Program} {ops:Array Oper} {Q:Exit->Act->World->Prop} {i:Nat} {o:Oper}
end
theorem ixS(g o n cap j:Nat)(h:j<n)(w:World):(Instr.indexAt 61 (.slice (some ⟨g,o,none⟩) n cap) (iI j)).run Tryz.prog w= .ok (.pointer (some ⟨g,o+4*j,none⟩)) w:=by
 have h2:(j:Int)<n:=by omega
 go_simp
end
section
section
variable {R:Rg} {P:Program} {ops:Array Oper} {Q:Exit->Act->World->Prop} {f:Nat->Bool} {t:Nat->Value} {u:World} {a:Act} {i:Nat} {o:Oper}
end
end
section
section
variable {R:Rg} {P:Program} {ops:Array Oper} {Q:Exit->Act->World->Prop} {f:Nat->Bool} {t:Nat->Value} {u:World} {a:Act} {i:Nat} {o:Oper}
end
abbrev CE(n f a:Int):List Value:=[iU (D0 n),iU (D1 n),iU (D2 n),iU (D3 n),iU (D0 f),iU (D1 f),iU (D2 f),iU (D3 f),iU (D0 a),iU (D1 a),iU (D2 a),iU (D3 a)]
abbrev CX(n f a:Int):Value:= .agg #[iU (D0 n),iU (D1 n),iU (D2 n),iU (D3 n),iU (D0 f),iU (D1 f),iU (D2 f),iU (D3 f),iU (D0 a),iU (D1 a),iU (D2 a),iU (D3 a)]
theorem Yu:(Tryz.prog.info? 48).map (·.size)=some 12:=by kernel_rfl
theorem fdC0(b:Nat)(w:World):(Instr.fieldAt 48 (.pointer (some ⟨b,0,none⟩)) 0).run Tryz.prog w= .ok (.pointer (some ⟨b,0,none⟩)) w:=by go_simp
theorem fdC1(b:Nat)(w:World):(Instr.fieldAt 48 (.pointer (some ⟨b,0,none⟩)) 1).run Tryz.prog w= .ok (.pointer (some ⟨b,4,none⟩)) w:=by go_simp
theorem fdC2(b:Nat)(w:World):(Instr.fieldAt 48 (.pointer (some ⟨b,0,none⟩)) 2).run Tryz.prog w= .ok (.pointer (some ⟨b,8,none⟩)) w:=by go_simp
end
section
section
variable {R:Rg} {P:Program} {ops:Array Oper} {Q:Exit->Act->World->Prop} {f:Nat->Bool} {t:Nat->Value} {u:World} {a:Act} {i:Nat} {o:Oper}
end
end
theorem infoN:(Tryz.prog.info? 24).map (fun i=>(i.zero,i.size,i.bytes))=some (some (A4 0 0 0 0),4,32):=by kernel_rfl
def PE(base:Nat)(u:World)(v:Value):Prop:= ∃b,v= .slice (some ⟨b,0,none⟩) 0 0/\base<=b/\u.heap[b]?=some (.cells #[] 24 (0,0))
def PO(base:Nat)(ns:List Int)(u:World)(v:Value):Prop:=(∃b c,v= .slice (some ⟨b,0,none⟩) ns.length c)/\u.ownsRow base 24 4 v ns.length (flN ns)
theorem PE.stab{base:Nat}{u v:World}{x:Value}(hB:Bw u v)(h:PE base u x):PE base v x:=by
 obtain⟨b,e,h1,h2⟩:=h
 exact⟨b,e,h1,by rw[hB.block b (Array.getElem?_eq_some_iff.1 h2).1];exact h2⟩
theorem PO.stab{base:Nat}{ns:List Int}{u v:World}{x:Value}(hB:Bw u v)(h:PO base ns u x):PO base ns v x:=by
 obtain⟨⟨b,c,rfl⟩,h2⟩:=h
 exact⟨⟨b,c,rfl⟩,h2.kept (below_grown hB) (.inr (by simp[Value.ownBlock]))⟩
theorem PO.at{base:Nat}{ns:List Int}{u:World}{x:Value}(h:PO base ns u x): ∃b c,x= .slice (some ⟨b,0,none⟩) ns.length c/\b<u.heap.size/\SN u b 0 ns:=by
 obtain⟨⟨b,c,rfl⟩,h2⟩:=h
 have hl:=h2.lt b rfl
 refine⟨b,c,rfl,hl.2,fun j v hj=>?_⟩
 have:=h2.cells (g:=b) rfl j v hj
 have e:(⟨b,0,none⟩:Addr).add j=⟨b,j,none⟩:=by unfold Addr.add;split<;>simp_all
 rw[e] at this
 rw[Nat.zero_add];exact this
theorem SN.news{u:World}{g o:Nat}{ns:List Int}(h:SN u g o ns): ∀j v,(flN ns)[j]?=some v->u.cell? ((⟨g,o,none⟩:Addr).add j)=some v:=fun j v hj=>by
 have e:(⟨g,o,none⟩:Addr).add j=⟨g,o+j,none⟩:=by unfold Addr.add;split<;>simp_all
 rw[e];exact h j v hj
theorem flN_app: ∀(a b:List Int),flN (a++b)=flN a++flN b
 | [],_=>rfl
 | n::r,b=>by rw[List.cons_append,flN,flN,flN_app r b,List.append_assoc]
theorem PE.new{base:Nat}{u:World}(h:base<=u.heap.size):PE base (u.alloc (.cells #[] 24)) (.slice (some ⟨u.heap.size,0,none⟩) 0 0):=⟨_,rfl,h,heap_alloc_new u _⟩
theorem PO.cv{base:Nat}{ns:List Int}{u:World}{x:Value}(h:PO base ns u x): ∃b c,x= .slice (some ⟨b,0,none⟩) ns.length c/\base<=b/\b<u.heap.size/\CV u b (flN ns):=by
 obtain⟨⟨b,c,rfl⟩,h2⟩:=h
 have hl:=h2.lt b rfl
 refine⟨b,c,rfl,hl.1,hl.2,fun j v hj=>⟨?_,?_⟩⟩
 ·have:=h2.cells (g:=b) rfl j v hj
  have e:(⟨b,0,none⟩:Addr).add j=⟨b,j,none⟩:=by unfold Addr.add;split<;>simp_all
  rw[e] at this;exact this
 ·rcases h2.2 with⟨e,_⟩ | ⟨g',cap',cur,e,_,hh,_⟩
  ·cases e
  ·cases e;simp[World.frozen?,hh]
theorem CV.sn{u:World}{b:Nat}{ns:List Int}(h:CV u b (flN ns)):SN u b 0 ns:=fun j v hj=>by rw[Nat.zero_add];exact(h j v hj).1
theorem WV_of(n a b c d e f g h:Int)(ha:W64 a)(hb:W64 b)(hc:W64 c)(hd:W64 d)(he:W64 e)(hf:W64 f)(hg:W64 g)(hh:W64 h)(hn:n=V a b c d+V e f g h*0x10000000000000000000000000000000000000000000000000000000000000000):WV n=A8 a b c d e f g h:=by
 obtain⟨h0,h1,h2,h3,h4⟩:=D_of n a b c d (V e f g h) ha hb hc hd hn
 obtain⟨k0,k1,k2,k3,k4⟩:=D_of (V e f g h) e f g h 0 he hf hg hh (by omega)
 rw[WV,h0,h1,h2,h3,h4,k0,k1,k2,k3]
def H32(x:Int):Prop:=0<=x/\x<4294967296
theorem wide_any(g cap:Nat)(xw0 xw1 xw2 xw3 xw4 xw5 xw6 xw7 xw8 xw9 xw10 xw11 xw12 xw13 xw14 xw15:Int)(w:World)(c0:w.cell? ⟨g,0,none⟩=some (iU xw0))(c1:w.cell? ⟨g,1,none⟩=some (iU xw1))(c2:w.cell? ⟨g,2,none⟩=some (iU xw2))(c3:w.cell? ⟨g,3,none⟩=some (iU xw3))(c4:w.cell? ⟨g,4,none⟩=some (iU xw4))(c5:w.cell? ⟨g,5,none⟩=some (iU xw5))(c6:w.cell? ⟨g,6,none⟩=some (iU xw6))(c7:w.cell? ⟨g,7,none⟩=some (iU xw7))(c8:w.cell? ⟨g,8,none⟩=some (iU xw8))(c9:w.cell? ⟨g,9,none⟩=some (iU xw9))(c10:w.cell? ⟨g,10,none⟩=some (iU xw10))(c11:w.cell? ⟨g,11,none⟩=some (iU xw11))(c12:w.cell? ⟨g,12,none⟩=some (iU xw12))(c13:w.cell? ⟨g,13,none⟩=some (iU xw13))(c14:w.cell? ⟨g,14,none⟩=some (iU xw14))(c15:w.cell? ⟨g,15,none⟩=some (iU xw15))(h0:H32 xw0)(h1:H32 xw1)(h2:H32 xw2)(h3:H32 xw3)(h4:H32 xw4)(h5:H32 xw5)(h6:H32 xw6)(h7:H32 xw7)(h8:H32 xw8)(h9:H32 xw9)(h10:H32 xw10)(h11:H32 xw11)(h12:H32 xw12)(h13:H32 xw13)(h14:H32 xw14)(h15:H32 xw15):
 CC 81 #[.slice (some ⟨g,0,none⟩) 16 cap] w (A8 (xw0+xw1*4294967296) (xw2+xw3*4294967296) (xw4+xw5*4294967296) (xw6+xw7*4294967296) (xw8+xw9*4294967296) (xw10+xw11*4294967296) (xw12+xw13*4294967296) (xw14+xw15*4294967296)):=by
 obtain⟨l0,u0⟩:=h0
 obtain⟨l1,u1⟩:=h1
 obtain⟨l2,u2⟩:=h2
 obtain⟨l3,u3⟩:=h3
 obtain⟨l4,u4⟩:=h4
 obtain⟨l5,u5⟩:=h5
 obtain⟨l6,u6⟩:=h6
 obtain⟨l7,u7⟩:=h7
 obtain⟨l8,u8⟩:=h8
 obtain⟨l9,u9⟩:=h9
 obtain⟨l10,u10⟩:=h10
 obtain⟨l11,u11⟩:=h11
 obtain⟨l12,u12⟩:=h12
 obtain⟨l13,u13⟩:=h13
 obtain⟨l14,u14⟩:=h14
 obtain⟨l15,u15⟩:=h15
 have lg:g<w.heap.size:=World.block_lt_of_cell? w _ c0
 have lg1:g<w.heap.size+1:=by omega
 have lg2:g<w.heap.size+1+1:=by omega
 go_enter Tryz.func81,Tryz.ntmps81
 go_wp2
 refine wp_loop_rounds 9 ?_
 rw[rounds_succ]
 go_wp2
 go_region
 go_wp2
 rw[rounds_succ]
 go_wp2
 go_region
 go_wp2
 rw[rounds_succ]
 go_wp2
 go_region
 go_wp2
 rw[rounds_succ]
 go_wp2
 go_region
 go_wp2
 rw[rounds_succ]
 go_wp2
 go_region
 go_wp2
 rw[rounds_succ]
 go_wp2
 go_region
 go_wp2
 rw[rounds_succ]
 go_wp2
 go_region
 go_wp2
 rw[rounds_succ]
 go_wp2
 go_region
 go_wp2
 rw[rounds_succ]
 go_wp2
 refine bodyPost_ret (v:=A8 (xw0+xw1*4294967296) (xw2+xw3*4294967296) (xw4+xw5*4294967296) (xw6+xw7*4294967296) (xw8+xw9*4294967296) (xw10+xw11*4294967296) (xw12+xw13*4294967296) (xw14+xw15*4294967296)) (by simp[results,Tryz.results81,go_sem]) rfl ⟨rfl,?_⟩
 iterate 6 all_goals (go_grown<;>try with_reducible refine below_drewN ?_ _)
theorem zc8L:Builtin.zeroCells (Value.int .u64 0).cells 8=#[iU 0,iU 0,iU 0,iU 0,iU 0,iU 0,iU 0,iU 0]:=by kernel_rfl
abbrev z8L:List Value:=[iU 0,iU 0,iU 0,iU 0,iU 0,iU 0,iU 0,iU 0]
theorem run_app16(w:World)(base b cap:Nat)(xs:List Value)(hbase:base<=w.heap.size)(hown:w.ownsRow base 22 1 (.slice (some ⟨b,0,none⟩) 8 cap) 8 xs):
 ∃b' cap' w',(Builtin.append_ #[87,3] 87 #[.slice (some ⟨b,0,none⟩) 8 cap,iI 8]).run Tryz.prog w= .ok (.slice (some ⟨b',0,none⟩) 16 cap') w'/\
  (∀i u,(xs++z8L)[i]?=some u->w'.cell? ⟨b',i,none⟩=some u)/\Below base w w':=by
 obtain⟨i0,hi0,hz0,hz1,hz2⟩:=info_parts Tryz.info22
 obtain⟨hlen,hr⟩:=hown
 rcases hr with⟨h,_⟩ | ⟨g,cap',cur,hv,hbg,hg,hcap,hcm,hcs,htake⟩
 ·simp at h
 ·simp at hv
  obtain⟨rfl,rfl⟩:=hv
  simp only[Nat.mul_one] at hcs htake hlen
  by_cases hroom:16<=cap
  ·refine⟨b,cap,w.setRow b (cur.toList.take 8++z8L++cur.toList.drop 16).toArray,?_,?_,?_⟩
   ·have hst:=run_storeCells_at (P:=Tryz.prog) b 8 22 z8L 0 cur w hg (by simp;omega) (by intro v hv;simp at hv;subst hv;rfl)
    simp only[Nat.add_zero] at hst
    have hw:IntKind.i64.wrap (8:Int)=8:=by decide
    simp[Builtin.append_,run_underlying Tryz.underlying87,run_underlying Tryz.underlying3,sizeOf,typeInfo,zeroValue,hi0,hz0,hz1,hz2,asInt,asIntOf,hw,hroom,zc8L,Addr.add_lit,hst]
   ·intro i u hu
    rw[cell_setRow_same w b i cur _ 22 (0,0) hg]
    rw[htake]
    have hi:i<16:=by
     have:=(List.getElem?_eq_some_iff.1 hu).1
     simp[hlen] at this;exact this
    rw[List.getElem?_toArray,List.getElem?_append_left (by simp[hlen];omega)]
    exact hu
   ·exact below_setRow (Below.refl _ _) hbg _
  ·have hold:(Builtin.firstCells i0.size 8 (.slice (some ⟨b,0,none⟩) 8 cap)).run Tryz.prog w.drew= .ok xs.toArray w.drew:=by
    refine run_firstCells_some (P:=Tryz.prog) w.drew i0.size 8 ⟨b,0,none⟩ 8 cap xs (by rw[hz1];simpa using hlen) ?_
    intro j v hj
    have hadd:(⟨b,0,none⟩:Addr).add j=⟨b,j,none⟩:=by unfold Addr.add;split<;>simp_all
    rw[hadd]
    show w.cell? ⟨b,j,none⟩=some v
    rw[cell_of_row w b j cur 22 (0,0) hg]
    rw[<-htake,List.getElem?_take] at hj
    split at hj
    ·simpa using hj
    ·cases hj
   have hrun:=Lib.run_append_grow_zeros (P:=Tryz.prog) w 87 3 87 22 i0 (iU 0) .i64 .i64 Tryz.underlying87 Tryz.underlying3 hi0 hz0 (some ⟨b,0,none⟩) 8 cap xs hold 8 (by omega) (by omega) (by omega) (by simp) (by rw[hz2];omega) (by
    rw[hz2];unfold Builtin.nextslicecap;split
    ·omega
    ·rw[if_pos (by omega)];omega)
   refine⟨_,_,_,hrun,?_,?_⟩
   ·intro i u hu
    rw[cell_of_row _ w.heap.size i _ 22 (0,0) (heap_alloc_new w.drew _)]
    rw[zc8L]
    have hi:i<16:=by
     have:=(List.getElem?_eq_some_iff.1 hu).1
     simp[hlen] at this;exact this
    rw[Array.getElem?_append_left (by simp[hlen];omega)]
    simpa using hu
   ·exact((Below.refl _ _).drew).alloc hbase _
theorem lo32(x:Int):H32 (x%4294967296):=by unfold H32;omega
theorem hi32(x:Int)(h:W64 x):H32 (x/4294967296):=by unfold W64 at h;unfold H32;omega
theorem z32L:H32 0:=by unfold H32;omega
theorem lohi(x:Int):x%4294967296+x/4294967296*4294967296=x:=by omega
theorem zz:(0:Int)+0*4294967296=0:=by omega
theorem rWiden_any(p q r s:Int)(w:World)(hp:W64 p)(hq:W64 q)(hr:W64 r)(hs:W64 s):
 CC 61 #[A4 p q r s] w (A8 p q r s 0 0 0 0):=by
 have hW:=fun(g cap:Nat) (w:World)=>wide_any g cap (p%4294967296) (p/4294967296) (q%4294967296) (q/4294967296) (r%4294967296) (r/4294967296) (s%4294967296) (s/4294967296) 0 0 0 0 0 0 0 0 w
 simp only[lohi,zz] at hW
 have HW:=hW
 clear hW
 have hWW:Hid _:=HW
 clear HW
 go_enter Tryz.func61,Tryz.ntmps61
 go_wp2_with fail
 refine(Vr _ p q r s _ (by unfold C4;simp[go_sem]) hp hq hr hs).mono ?_
 rintro e w1 ⟨b,cap,rfl,hown,hB⟩
 simp only[World.size_alloc] at hown
 obtain⟨b',cap',w2,hrun,hcells,hB2⟩:=run_app16 w1 _ b cap _ (by have:=hB.size;simp at this;omega) hown
 clear hown
 have hR:Hid _:=hrun
 clear hrun
 go_wp2_with (at_builtin;refine Lib.wpList_append_run _ rfl _ _ _ _ rfl _ _ rfl rfl _ _ hR.out ?_)
 refine(hWW.out b' cap' _ (hcells 0 _ rfl) (hcells 1 _ rfl) (hcells 2 _ rfl) (hcells 3 _ rfl) (hcells 4 _ rfl) (hcells 5 _ rfl) (hcells 6 _ rfl) (hcells 7 _ rfl) (hcells 8 _ rfl) (hcells 9 _ rfl) (hcells 10 _ rfl) (hcells 11 _ rfl) (hcells 12 _ rfl) (hcells 13 _ rfl) (hcells 14 _ rfl) (hcells 15 _ rfl) (lo32 p) (hi32 p hp) (lo32 q) (hi32 q hq) (lo32 r) (hi32 r hr) (lo32 s) (hi32 s hs) z32L z32L z32L z32L z32L z32L z32L z32L).mono ?_
 rintro e w3 ⟨rfl,hB3⟩
 simp only[Bw,World.size_alloc] at hB
 have hsz1:=hB.size
 have hsz2:=hB2.size
 have hsz3:=hB3.size
 simp only[World.size_alloc] at hsz1
 have hall:=hB.trans (hB2.trans (hB3.mono (by omega)))
 clear hB hB2 hB3 hcells
 have hcell: ∀o,w3.cell? ⟨w.heap.size+1,o,none⟩=_:=fun o=>hall.cell (p:=⟨w.heap.size+1,o,none⟩) (by show w.heap.size+1<w.heap.size+1+1;omega)
 have hfroz: ∀o,w3.frozen? ⟨w.heap.size+1,o,none⟩=_:=fun o=>hall.frozen (p:=⟨w.heap.size+1,o,none⟩) (by show w.heap.size+1<w.heap.size+1+1;omega)
 go_wp2
 refine bodyPost_ret (v:=A8 p q r s 0 0 0 0) (by simp[results,Tryz.results61,go_sem,hcell]) rfl ⟨rfl,?_⟩
 have hB':Bw w w3:=Below.trans (by go_grown) (hall.mono (by omega))
 go_grown
end
end Go.Proofs.YtdhlekdohebbbaaGreatDoor
