import Derived.Test.YtgfggkinmhhdnaaRR
import Derived.Test.YtgfggkinmhhdnaaN1
/- What is held against what: numbers and words. -/
namespace Go.Proofs.Ytgfggkinmhhdnaa
open Go.RowKit
set_option linter.unusedVariables false
set_option linter.unusedSimpArgs false
set_option maxRecDepth 100000 in
set_option maxHeartbeats 1000000 in
theorem neq_w (p q : Operand) (a b c d x y z t : Int) (w : World) : (do eqGuard .neq 24 p q (A4 a b c d) (A4 x y z t); binOp .neq 24 (A4 a b c d) (A4 x y z t) : Sem Value).run Try.prog w = .ok (.bool (!eq4 a b c d x y z t)) w := by
  go_simp
set_option maxRecDepth 100000 in
set_option maxHeartbeats 1000000 in
theorem eql_w (p q : Operand) (a b c d x y z t : Int) (w : World) : (do eqGuard .eql 24 p q (A4 a b c d) (A4 x y z t); binOp .eql 24 (A4 a b c d) (A4 x y z t) : Sem Value).run Try.prog w = .ok (.bool (eq4 a b c d x y z t)) w := by
  go_simp
theorem eq4_N {n m : Int} (hn : In n) (hm : In m) : eq4 (D0 n) (D1 n) (D2 n) (D3 n) (D0 m) (D1 m) (D2 m) (D3 m) = decide (n = m) := by
  rw [Bool.eq_iff_iff, eq4_V _ _ _ _ _ _ _ _ (W_D0 _) (W_D1 _) (W_D2 _) (W_D3 _) (W_D0 _) (W_D1 _) (W_D2 _) (W_D3 _), V_In hn, V_In hm]; simp
theorem eq4_N0 {n : Int} (hn : In n) : eq4 (D0 n) (D1 n) (D2 n) (D3 n) 0 0 0 0 = decide (n = 0) := by
  have w0 : W64 0 := by unfold W64; omega
  rw [Bool.eq_iff_iff, eq4_V _ _ _ _ _ _ _ _ (W_D0 _) (W_D1 _) (W_D2 _) (W_D3 _) w0 w0 w0 w0, V_In hn]; simp [V]
theorem neq_n (p q : Operand) {n m : Int} (hn : In n) (hm : In m) (b : Bool) (hb : decide (n = m) = !b) (w : World) : (do eqGuard .neq 24 p q (NV n) (NV m); binOp .neq 24 (NV n) (NV m) : Sem Value).run Try.prog w = .ok (.bool b) w := by
  rw [neq_w, eq4_N hn hm, hb]; simp
theorem neq_0 (p q : Operand) {n : Int} (hn : In n) (b : Bool) (hb : decide (n = 0) = !b) (w : World) : (do eqGuard .neq 24 p q (NV n) (A4 0 0 0 0); binOp .neq 24 (NV n) (A4 0 0 0 0) : Sem Value).run Try.prog w = .ok (.bool b) w := by
  rw [neq_w, eq4_N0 hn, hb]; simp
theorem eql_n (p q : Operand) {n m : Int} (hn : In n) (hm : In m) (b : Bool) (hb : decide (n = m) = b) (w : World) : (do eqGuard .eql 24 p q (NV n) (NV m); binOp .eql 24 (NV n) (NV m) : Sem Value).run Try.prog w = .ok (.bool b) w := by
  rw [eql_w, eq4_N hn hm, hb]
theorem eql_0 (p q : Operand) {n : Int} (hn : In n) (b : Bool) (hb : decide (n = 0) = b) (w : World) : (do eqGuard .eql 24 p q (NV n) (A4 0 0 0 0); binOp .eql 24 (NV n) (A4 0 0 0 0) : Sem Value).run Try.prog w = .ok (.bool b) w := by
  rw [eql_w, eq4_N0 hn, hb]
theorem ld_u64 (w : World) (b k : Nat) (v : Int) (h : w.cell? ⟨b, k, none⟩ = some (.int .u64 v)) : (Instr.loadAt 22 (.pointer (some ⟨b, k, none⟩))).run Try.prog w = .ok (.int .u64 v) w := by
  go_simp
theorem st_u64 (w : World) (b k : Nat) (v x : Int) (h : w.cell? ⟨b, k, none⟩ = some (.int .u64 v)) (hf : w.frozen? ⟨b, k, none⟩ = false) : (Instr.storeAt 22 (.pointer (some ⟨b, k, none⟩)) (.int .u64 x)).run Try.prog w = .ok () (w.setCell ⟨b, k, none⟩ (.int .u64 x)) := by
  go_simp
theorem ix_nat (w : World) (b k : Nat) (h : k < 4) : (Instr.indexAt 24 (.pointer (some ⟨b, 0, none⟩)) (.int .i64 k)).run Try.prog w = .ok (.pointer (some ⟨b, k, none⟩)) w := by
  have h0 : (0 : Int) ≤ k := by omega
  have h1 : (k : Int) < 4 := by omega
  go_simp
theorem ix_wide (w : World) (b k : Nat) (h : k < 8) : (Instr.indexAt 45 (.pointer (some ⟨b, 0, none⟩)) (.int .i64 k)).run Try.prog w = .ok (.pointer (some ⟨b, k, none⟩)) w := by
  have h0 : (0 : Int) ≤ k := by omega
  have h1 : (k : Int) < 8 := by omega
  go_simp
theorem ix_five (w : World) (b k : Nat) (h : k < 5) : (Instr.indexAt 112 (.pointer (some ⟨b, 0, none⟩)) (.int .i64 k)).run Try.prog w = .ok (.pointer (some ⟨b, k, none⟩)) w := by
  have h0 : (0 : Int) ≤ k := by omega
  have h1 : (k : Int) < 5 := by omega
  go_simp
theorem add_u (p q : Operand) (x y z : Int) (w : World) (h : (x + y) % 18446744073709551616 = z) : (do eqGuard .add 22 p q (.int .u64 x) (.int .u64 y); binOp .add 22 (.int .u64 x) (.int .u64 y) : Sem Value).run Try.prog w = .ok (.int .u64 z) w := by
  subst h
  go_simp
  simp [IntKind.wrap, IntKind.signed, IntKind.bits]
theorem mul_u (p q : Operand) (x y z : Int) (w : World) (h : (x * y) % 18446744073709551616 = z) : (do eqGuard .mul 22 p q (.int .u64 x) (.int .u64 y); binOp .mul 22 (.int .u64 x) (.int .u64 y) : Sem Value).run Try.prog w = .ok (.int .u64 z) w := by
  subst h
  go_simp
  simp [IntKind.wrap, IntKind.signed, IntKind.bits]
theorem CV.pre {w : World} {b : Nat} {l r : List Value} (h : CV w b (l ++ r)) : CV w b l := fun j v hj => h j v (by
  have hl : j < l.length := (List.getElem?_eq_some_iff.1 hj).1
  rw [List.getElem?_append_left hl]; exact hj)
end Go.Proofs.Ytgfggkinmhhdnaa
/- A number that lies in memory, as a measure. -/
namespace Go.Proofs.Ytgfggkinmhhdnaa
set_option linter.unusedVariables false
def wordAt (w : World) (b k : Nat) : Int := match w.cell? ⟨b, k, none⟩ with | some (.int _ x) => x | _ => 0
def natAt (w : World) (b : Nat) : Nat := (V (wordAt w b 0) (wordAt w b 1) (wordAt w b 2) (wordAt w b 3)).toNat
theorem natAt_of {w : World} {b : Nat} {n : Int} (h : CV w b (LN n)) (hn : In n) : natAt w b = n.toNat := by
  have h0 := (h 0 _ rfl).1; have h1 := (h 1 _ rfl).1; have h2 := (h 2 _ rfl).1; have h3 := (h 3 _ rfl).1
  unfold natAt wordAt
  rw [h0, h1, h2, h3]
  show (V (D0 n) (D1 n) (D2 n) (D3 n)).toNat = _
  rw [V_In hn]
end Go.Proofs.Ytgfggkinmhhdnaa
/- More rules: cells of one block that are written one by one; slices; arrays of five. -/
namespace Go.Proofs.Ytgfggkinmhhdnaa
open Go.RowKit
set_option linter.unusedVariables false
section
variable {P : Program} {o : Oper} {a : Act} {w : World} {K : Act → World → Prop} {Q : Exit → Act → World → Prop}
theorem wp_slice {T : TypeId} {x : Operand} {lo hi mx : Option Operand} {vx v : Value} {vl vh vm : Option Value} (ho : o.op = .slice T x lo hi mx) (hx : a.eval x = vx) (hl : lo.map a.eval = vl) (hh : hi.map a.eval = vh) (hm : mx.map a.eval = vm)
    (hr : (Instr.sliceAt T vx vl vh vm).run P w = .ok v w) (hk : K (a.put o.dst v) w) : o.wp P a w K Q :=
  wp_val (by
    unfold execOp; rw [ho]
    show Sem.run P (do pure (Next.value (← Instr.sliceAt T (a.eval x) (lo.map a.eval) (hi.map a.eval) (mx.map a.eval)))) w = _
    rw [hx, hl, hh, hm, Sem.run_bind, hr, Result.andThen_ok, Sem.run_pure]) hk
theorem wp_sap {T : TypeId} {x : Operand} {vx v : Value} (ho : o.op = .sliceToArrayPointer T x) (hx : a.eval x = vx)
    (hr : (Instr.arrayAt T vx).run P w = .ok v w) (hk : K (a.put o.dst v) w) : o.wp P a w K Q :=
  wp_val (by
    unfold execOp; rw [ho]
    show Sem.run P (do pure (Next.value (← Instr.arrayAt T (a.eval x)))) w = _
    rw [hx, Sem.run_bind, hr, Result.andThen_ok, Sem.run_pure]) hk
theorem wp_make {fn : Fn} {first cap : List Operand} {vf : List Value} (ho : o.op = .makeFunc fn first.toArray cap.toArray) (hf : first.map a.eval = vf) (hc : cap = [])
    {v : Value} (hr : (Instr.makeFunc fn vf.toArray #[]).run P w = .ok v w) (hk : K (a.put o.dst v) w) : o.wp P a w K Q :=
  wp_val (by
    subst hc
    unfold execOp; rw [ho]
    show Sem.run P (do pure (Next.value (← Instr.makeFunc fn (first.toArray.map a.eval) (#[].map a.eval)))) w = _
    rw [List.map_toArray, hf, show (#[].map a.eval : Array Value) = #[] by simp, Sem.run_bind, hr, Result.andThen_ok, Sem.run_pure]) hk
end
theorem add_i (p q : Operand) (x y z : Int) (w : World) (h : x + y = z) (h1 : -9223372036854775808 ≤ z) (h2 : z < 9223372036854775808) : (do eqGuard .add 3 p q (.int .i64 x) (.int .i64 y); binOp .add 3 (.int .i64 x) (.int .i64 y) : Sem Value).run Try.prog w = .ok (.int .i64 z) w := by
  subst h
  have e : IntKind.i64.wrap (x + y) = x + y := by simp [IntKind.wrap, IntKind.signed, IntKind.bits]; omega
  go_simp
theorem sub_i (p q : Operand) (x y z : Int) (w : World) (h : x - y = z) (h1 : -9223372036854775808 ≤ z) (h2 : z < 9223372036854775808) : (do eqGuard .sub 3 p q (.int .i64 x) (.int .i64 y); binOp .sub 3 (.int .i64 x) (.int .i64 y) : Sem Value).run Try.prog w = .ok (.int .i64 z) w := by
  subst h
  have e : IntKind.i64.wrap (x - y) = x - y := by simp [IntKind.wrap, IntKind.signed, IntKind.bits]; omega
  go_simp
abbrev L05 : List Value := [.int .u64 0, .int .u64 0, .int .u64 0, .int .u64 0, .int .u64 0]
theorem al__5_uint64 (w : World) : (Instr.alloc 112 true (.tuple #[])).run Try.prog w = .ok (.pointer (some ⟨w.heap.size, 0, none⟩)) (w.alloc (.cells L05.toArray 112)) := by kernel_rfl
theorem sl_five (b : Nat) (w : World) : (Instr.sliceAt 112 (.pointer (some ⟨b, 0, none⟩)) none (some (.int .i64 4)) none).run Try.prog w = .ok (.slice (some ⟨b, 0, none⟩) 4 5) w := by kernel_rfl
theorem ap_five (b : Nat) (w : World) : (Instr.arrayAt 24 (.slice (some ⟨b, 0, none⟩) 4 5)).run Try.prog w = .ok (.pointer (some ⟨b, 0, none⟩)) w := by kernel_rfl
theorem fd_m (b : Nat) (w : World) : (Instr.fieldAt 105 (.pointer (some ⟨b, 0, none⟩)) 0).run Try.prog w = .ok (.pointer (some ⟨b, 0, none⟩)) w := by kernel_rfl
theorem fd_c (b : Nat) (w : World) : (Instr.fieldAt 105 (.pointer (some ⟨b, 0, none⟩)) 1).run Try.prog w = .ok (.pointer (some ⟨b, 4, none⟩)) w := by go_simp
end Go.Proofs.Ytgfggkinmhhdnaa
/- Guards, and what integers are held against. -/
namespace Go.Proofs.Ytgfggkinmhhdnaa
open Go.RowKit
set_option linter.unusedVariables false
theorem wanted_of {ops : Array Oper} {a : Act} {o : Oper} {g s : Nat} {b : Bool} (hg : o.guard = some (g, b)) (hs : (ops[g]?.bind fun x => x.dst) = some s) (hx : a.tmps[s]? = some (.bool b)) : Region.wanted o (yielded ops a.tmps) = true := by
  unfold Region.wanted yielded
  rw [hg]
  simp only [hs, Option.bind_some, hx]
  cases b <;> rfl
theorem unwanted_of {ops : Array Oper} {a : Act} {o : Oper} {g s : Nat} {b c : Bool} (hg : o.guard = some (g, b)) (hs : (ops[g]?.bind fun x => x.dst) = some s) (hx : a.tmps[s]? = some (.bool c)) (hn : c = !b) : ¬ Region.wanted o (yielded ops a.tmps) = true := by
  unfold Region.wanted yielded
  rw [hg]
  simp only [hs, Option.bind_some, hx, hn]
  cases b <;> simp
theorem Fr.tmps {fr : List Value} {S : List Nat} {a : Act} {t : Nat → Value} {N : Nat} (h : Fr fr S a t) (n : S.Nodup) (hl : fr.length = N) (s : Nat) (hs : s ∈ S) (hN : s < N) : a.tmps[s]? = some (t s) := by
  rw [h]
  show (ovr fr S t).toArray[s]? = _
  have := ovr_in t s S fr n hs (by omega)
  simpa using this
theorem eql_same (p q : Operand) (n : Int) (w : World) : (do eqGuard .eql 24 p q (NV n) (NV n); binOp .eql 24 (NV n) (NV n) : Sem Value).run Try.prog w = .ok (.bool true) w := by
  rw [eql_w, eq4_same]
theorem eql_i (T : TypeId) (p q : Operand) (x y : Int) (b : Bool) (w : World) (h : (x == y) = b) : (do eqGuard .eql T p q (.int .i64 x) (.int .i64 y); binOp .eql T (.int .i64 x) (.int .i64 y) : Sem Value).run Try.prog w = .ok (.bool b) w := by
  subst h; go_simp
theorem neq_i (T : TypeId) (p q : Operand) (x y : Int) (b : Bool) (w : World) (h : (x != y) = b) : (do eqGuard .neq T p q (.int .i64 x) (.int .i64 y); binOp .neq T (.int .i64 x) (.int .i64 y) : Sem Value).run Try.prog w = .ok (.bool b) w := by
  subst h; go_simp
end Go.Proofs.Ytgfggkinmhhdnaa
