import Derived.Test.YtgieoghechekpaaDoorMC3
import Derived.Test.YtgieoghechekpaaDoorRR
import Derived.Lib.AppendZerosOnto
import Derived.Laws.CopyOwn
namespace Go.Proofs.YtgieoghechekpaaDoor
set_option linter.unusedVariables false
set_option linter.unusedSimpArgs false
set_option maxRecDepth 100000
set_option maxHeartbeats 4000000
section
open Go.RowKit
theorem neq_w(p q:Operand)(a b c d x y z t:Int)(w:World):(do eqGuard .neq 26 p q (A4 a b c d) (A4 x y z t);binOp .neq 26 (A4 a b c d) (A4 x y z t):Sem Value).run Tryd.prog w= .ok (.bool (!eq4 a b c d x y z t)) w:=by
 go_simp
theorem eql_w(p q:Operand)(a b c d x y z t:Int)(w:World):(do eqGuard .eql 26 p q (A4 a b c d) (A4 x y z t);binOp .eql 26 (A4 a b c d) (A4 x y z t):Sem Value).run Tryd.prog w= .ok (.bool (eq4 a b c d x y z t)) w:=by
 go_simp
theorem eq4_N{n m:Int}(hn:In n)(hm:In m):eq4 (D0 n) (D1 n) (D2 n) (D3 n) (D0 m) (D1 m) (D2 m) (D3 m)=decide (n=m):=by
 rw[Bool.eq_iff_iff,eq4_V _ _ _ _ _ _ _ _ (W_D0 _) (W_D1 _) (W_D2 _) (W_D3 _) (W_D0 _) (W_D1 _) (W_D2 _) (W_D3 _),V_In hn,V_In hm];simp
theorem eq4_N0{n:Int}(hn:In n):eq4 (D0 n) (D1 n) (D2 n) (D3 n) 0 0 0 0=decide (n=0):=by
 have w0:W64 0:=by unfold W64;omega
 rw[Bool.eq_iff_iff,eq4_V _ _ _ _ _ _ _ _ (W_D0 _) (W_D1 _) (W_D2 _) (W_D3 _) w0 w0 w0 w0,V_In hn];simp[V]
theorem neq_n(p q:Operand){n m:Int}(hn:In n)(hm:In m)(b:Bool)(hb:decide (n=m)=!b)(w:World):(do eqGuard .neq 26 p q (NV n) (NV m);binOp .neq 26 (NV n) (NV m):Sem Value).run Tryd.prog w= .ok (.bool b) w:=by
 rw[neq_w,eq4_N hn hm,hb];simp
theorem neq_0(p q:Operand){n:Int}(hn:In n)(b:Bool)(hb:decide (n=0)=!b)(w:World):(do eqGuard .neq 26 p q (NV n) (A4 0 0 0 0);binOp .neq 26 (NV n) (A4 0 0 0 0):Sem Value).run Tryd.prog w= .ok (.bool b) w:=by
 rw[neq_w,eq4_N0 hn,hb];simp
theorem eql_n(p q:Operand){n m:Int}(hn:In n)(hm:In m)(b:Bool)(hb:decide (n=m)=b)(w:World):(do eqGuard .eql 26 p q (NV n) (NV m);binOp .eql 26 (NV n) (NV m):Sem Value).run Tryd.prog w= .ok (.bool b) w:=by
 rw[eql_w,eq4_N hn hm,hb]
theorem eql_0(p q:Operand){n:Int}(hn:In n)(b:Bool)(hb:decide (n=0)=b)(w:World):(do eqGuard .eql 26 p q (NV n) (A4 0 0 0 0);binOp .eql 26 (NV n) (A4 0 0 0 0):Sem Value).run Tryd.prog w= .ok (.bool b) w:=by
 rw[eql_w,eq4_N0 hn,hb]
theorem st_u64(w:World)(b k:Nat)(v x:Int)(h:w.cell? ⟨b,k,none⟩=some (.int .u64 v))(hf:w.frozen? ⟨b,k,none⟩=false):(Instr.storeAt 24 (.pointer (some ⟨b,k,none⟩)) (.int .u64 x)).run Tryd.prog w= .ok () (w.setCell ⟨b,k,none⟩ (.int .u64 x)):=by
 go_simp
theorem ix_wide(w:World)(b k:Nat)(h:k<8):(Instr.indexAt 91 (.pointer (some ⟨b,0,none⟩)) (.int .i64 k)).run Tryd.prog w= .ok (.pointer (some ⟨b,k,none⟩)) w:=by
 have h0:(0:Int)<=k:=by omega
 have h1:(k:Int)<8:=by omega
 go_simp
end
section
def natAt(w:World)(b:Nat):Nat:=(V (wordAt w b 0) (wordAt w b 1) (wordAt w b 2) (wordAt w b 3)).toNat
theorem natAt_of{w:World}{b:Nat}{n:Int}(h:CV w b (LN n))(hn:In n):natAt w b=n.toNat:=by
 have h0:=(h 0 _ rfl).1;have h1:=(h 1 _ rfl).1;have h2:=(h 2 _ rfl).1;have h3:=(h 3 _ rfl).1
 unfold natAt wordAt
 rw[h0,h1,h2,h3]
 show (V (D0 n) (D1 n) (D2 n) (D3 n)).toNat=_
 rw[V_In hn]
end
section
open Go.RowKit
section
section
variable {P:Program} {o:Oper} {a:Act} {w:World} {K:Act->World->Prop} {Q:Exit->Act->World->Prop}
end
end
theorem neq_i(T:TypeId)(p q:Operand)(x y:Int)(b:Bool)(w:World)(h:(x !=y)=b):(do eqGuard .neq T p q (.int .i64 x) (.int .i64 y);binOp .neq T (.int .i64 x) (.int .i64 y):Sem Value).run Tryd.prog w= .ok (.bool b) w:=by
 subst h;go_simp
section
section
variable {R:Rg} {P:Program} {ops:Array Oper} {Q:Exit->Act->World->Prop} {f:Nat->Bool} {t:Nat->Value} {u:World} {a:Act} {i:Nat} {o:Oper}
end
end
section
section
variable {R:Rg} {P:Program} {ops:Array Oper} {Q:Exit->Act->World->Prop} {f:Nat->Bool} {t:Nat->Value} {u:World} {a:Act} {i:Nat} {o:Oper}
end
end
section
section
variable {R:Rg} {P:Program} {ops:Array Oper} {Q:Exit->Act->World->Prop} {f:Nat->Bool} {t:Nat->Value} {u:World} {a:Act} {i:Nat} {o:Oper}
end
section
variable {P:Program} {ops:Array Oper} {Q:Exit->Act->World->Prop} {id:Nat} {w0 w:World} {fr:List Value} {lo:Nat} {ks:List Blk}
end
end
theorem uN:Tryd.prog.underlying 26=some (.array 4 24):=Tryd.underlying26
theorem uW:Tryd.prog.underlying 91=some (.array 8 24):=Tryd.underlying91
theorem iN:(Tryd.prog.info? 26).map (·.size)=some 4:=info_api_Nat
theorem iW:(Tryd.prog.info? 91).map (·.size)=some 8:=info_api_Wide
theorem aN(w:World):(Instr.alloc 26 true (.tuple #[])).run Tryd.prog w= .ok (.pointer (some ⟨w.heap.size,0,none⟩)) (w.alloc (.cells L0s.toArray 26)):=al_api_Nat w
theorem aW(w:World):(Instr.alloc 91 true (.tuple #[])).run Tryd.prog w= .ok (.pointer (some ⟨w.heap.size,0,none⟩)) (w.alloc (.cells L0w.toArray 91)):=al_api_Wide w
theorem zN(w:World):(Instr.build 26 [].toArray).run Tryd.prog w= .ok (A4 0 0 0 0) w:=by kernel_rfl
theorem sU{b c:Nat}{v x:Int}(w:World)(h:w.cell? ⟨b,c,none⟩=some (.int .u64 v))(hf:w.frozen? ⟨b,c,none⟩=false):(Instr.storeAt 24 (.pointer (some ⟨b,c,none⟩)) (.int .u64 x)).run Tryd.prog w= .ok () (w.setCell ⟨b,c,none⟩ (.int .u64 x)):=st_u64 w b c v x h hf
theorem jW{b:Nat}(k:Nat)(w:World)(h:k<8:=by decide):(Instr.indexAt 91 (.pointer (some ⟨b,0,none⟩)) (.int .i64 k)).run Tryd.prog w= .ok (.pointer (some ⟨b,k,none⟩)) w:=ix_wide w b k h
theorem WV_of(n a b c d e f g h:Int)(ha:W64 a)(hb:W64 b)(hc:W64 c)(hd:W64 d)(he:W64 e)(hf:W64 f)(hg:W64 g)(hh:W64 h)(hn:n=V a b c d+V e f g h*115792089237316195423570985008687907853269984665640564039457584007913129639936):WV n=A8 a b c d e f g h:=by
 obtain⟨h0,h1,h2,h3,h4⟩:=D_of n a b c d (V e f g h) ha hb hc hd hn
 obtain⟨k0,k1,k2,k3,k4⟩:=D_of (V e f g h) e f g h 0 he hf hg hh (by omega)
 rw[WV,h0,h1,h2,h3,h4,k0,k1,k2,k3]
def H32(x:Int):Prop:=0<=x/\x<4294967296
end
end Go.Proofs.YtgieoghechekpaaDoor
