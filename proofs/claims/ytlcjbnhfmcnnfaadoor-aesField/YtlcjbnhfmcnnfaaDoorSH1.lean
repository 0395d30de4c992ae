/- SHA-256: words of 32 bits. -/

import Derived.Test.YtlcjbnhfmcnnfaaDoorProg
import Derived.Test.YtlcjbnhfmcnnfaaDoorGR
import Derived.Laws.BitsLemmas
import Derived.Laws.Shifts
namespace Go.Proofs.YtlcjbnhfmcnnfaaDoor
open Go.RowKit
set_option linter.unusedVariables false
set_option linter.unusedSimpArgs false
section
variable {R : Rg} {P : Program} {ops : Array Oper} {Q : Exit → Act → World → Prop} {f : Nat → Bool} {t : Nat → Value} {u : World} {a : Act} {i : Nat} {o : Oper}
/-- An operation that only reckons. -/
theorem g_op {v : Value} (h : ∀ (ev : Operand → Value) (u : World), (∀ x y, evR R i o x = some y → ev x = y) → (execOp ev o).run P u = .ok (.value v) u) (hv : some v = pickV i R.G := by rfl) (hc : R.chk ops i o = true := by rfl) : OG R P ops Q i o :=
  g_pure hv hc fun f t u a X K hK => wp_val (h a.eval u (fun x y hxy => X.ev hxy)) hK
end
/-- Turned right. -/
def rotr (x n : Nat) : Nat := (x <<< (32 - n)) % 4294967296 ||| x >>> n
def chN (e f g : Nat) : Nat := (e &&& f) ^^^ ((4294967295 ^^^ e) &&& g)
def maN (a b c : Nat) : Nat := (a &&& b) ^^^ (a &&& c) ^^^ (b &&& c)
def ls0 (x : Nat) : Nat := rotr x 7 ^^^ rotr x 18 ^^^ x >>> 3
def ls1 (x : Nat) : Nat := rotr x 17 ^^^ rotr x 19 ^^^ x >>> 10
def gs0 (x : Nat) : Nat := rotr x 2 ^^^ rotr x 13 ^^^ rotr x 22
def gs1 (x : Nat) : Nat := rotr x 6 ^^^ rotr x 11 ^^^ rotr x 25
abbrev M32 : Nat := 4294967296
theorem wraps_u32 (n : Int) (h0 : 0 ≤ n) (h1 : n < 2 ^ 32) : IntKind.u32.wrap n = n := by simp [IntKind.wrap, IntKind.signed, IntKind.bits]; omega
theorem and_lt {a b : Nat} (h : b < M32) : a &&& b < M32 := Nat.and_lt_two_pow a (n := 32) h
theorem or_lt {a b : Nat} (ha : a < M32) (hb : b < M32) : a ||| b < M32 := Nat.or_lt_two_pow (n := 32) ha hb
theorem xor_lt {a b : Nat} (ha : a < M32) (hb : b < M32) : a ^^^ b < M32 := Nat.xor_lt_two_pow (n := 32) ha hb
theorem shr_lt {a n : Nat} (ha : a < M32) : a >>> n < M32 := by rw [Nat.shiftRight_eq_div_pow]; exact Nat.lt_of_le_of_lt (Nat.div_le_self _ _) ha
theorem rotr_lt {x n : Nat} (h : x < M32) : rotr x n < M32 := or_lt (Nat.mod_lt _ (by decide)) (shr_lt h)
theorem ch_lt {e f g : Nat} (hf : f < M32) (hg : g < M32) : chN e f g < M32 := xor_lt (and_lt hf) (and_lt hg)
theorem ma_lt {a b c : Nat} (hb : b < M32) (hc : c < M32) : maN a b c < M32 := xor_lt (xor_lt (and_lt hb) (and_lt hc)) (and_lt hc)
theorem ls0_lt {x : Nat} (h : x < M32) : ls0 x < M32 := xor_lt (xor_lt (rotr_lt h) (rotr_lt h)) (shr_lt h)
theorem ls1_lt {x : Nat} (h : x < M32) : ls1 x < M32 := xor_lt (xor_lt (rotr_lt h) (rotr_lt h)) (shr_lt h)
theorem gs0_lt {x : Nat} (h : x < M32) : gs0 x < M32 := xor_lt (xor_lt (rotr_lt h) (rotr_lt h)) (rotr_lt h)
theorem gs1_lt {x : Nat} (h : x < M32) : gs1 x < M32 := xor_lt (xor_lt (rotr_lt h) (rotr_lt h)) (rotr_lt h)
theorem bit_and (a b : Nat) (ha : a < M32) (hb : b < M32) : bits .and .u32 a b = ((a &&& b : Nat) : Int) := (bits_nat .u32 32 (by decide) wraps_u32 a b ha hb).1
theorem bit_or (a b : Nat) (ha : a < M32) (hb : b < M32) : bits .or .u32 a b = ((a ||| b : Nat) : Int) := (bits_nat .u32 32 (by decide) wraps_u32 a b ha hb).2
theorem bit_xor (a b : Nat) (ha : a < M32) (hb : b < M32) : bits .xor .u32 a b = ((a ^^^ b : Nat) : Int) := by
  have ha' : a % 2 ^ 32 = a := Nat.mod_eq_of_lt ha
  have hb' : b % 2 ^ 32 = b := Nat.mod_eq_of_lt hb
  have h : (BitVec.ofNat 32 a ^^^ BitVec.ofNat 32 b).toNat = a ^^^ b := by rw [BitVec.toNat_xor, BitVec.toNat_ofNat, BitVec.toNat_ofNat, ha', hb']
  show IntKind.u32.wrap ((BitVec.ofInt 32 (a : Int) ^^^ BitVec.ofInt 32 (b : Int)).toNat : Int) = _
  rw [BitVec.ofInt_natCast, BitVec.ofInt_natCast, h]
  exact wraps_u32 _ (Int.natCast_nonneg _) (by exact_mod_cast xor_lt ha hb)
theorem and32 (p q : Operand) (a b : Nat) (w : World) (ha : a < M32) (hb : b < M32) : (do eqGuard .and 64 p q (.int .u32 a) (.int .u32 b); binOp .and 64 (.int .u32 a) (.int .u32 b) : Sem Value).run Tryd.prog w = .ok (.int .u32 ((a &&& b : Nat) : Int)) w := by
  rw [← bit_and a b ha hb]; go_simp
theorem or32 (p q : Operand) (a b : Nat) (w : World) (ha : a < M32) (hb : b < M32) : (do eqGuard .or 64 p q (.int .u32 a) (.int .u32 b); binOp .or 64 (.int .u32 a) (.int .u32 b) : Sem Value).run Tryd.prog w = .ok (.int .u32 ((a ||| b : Nat) : Int)) w := by
  rw [← bit_or a b ha hb]; go_simp
theorem xor32 (p q : Operand) (a b : Nat) (w : World) (ha : a < M32) (hb : b < M32) : (do eqGuard .xor 64 p q (.int .u32 a) (.int .u32 b); binOp .xor 64 (.int .u32 a) (.int .u32 b) : Sem Value).run Tryd.prog w = .ok (.int .u32 ((a ^^^ b : Nat) : Int)) w := by
  rw [← bit_xor a b ha hb]; go_simp
theorem add32 (p q : Operand) (a b : Nat) (w : World) : (do eqGuard .add 64 p q (.int .u32 a) (.int .u32 b); binOp .add 64 (.int .u32 a) (.int .u32 b) : Sem Value).run Tryd.prog w = .ok (.int .u32 (((a + b) % 4294967296 : Nat) : Int)) w := by
  have e : IntKind.u32.wrap ((a : Int) + b) = (((a + b) % 4294967296 : Nat) : Int) := by simp [IntKind.wrap, IntKind.signed, IntKind.bits]
  go_simp
theorem not32 (a : Nat) (w : World) (ha : a < M32) : (Op.unary .xor (.int .u32 a)).run Tryd.prog w = .ok (.int .u32 ((4294967295 ^^^ a : Nat) : Int)) w := by
  have e := bit_xor 4294967295 a (by decide) ha
  have e2 : (if IntKind.u32.signed = true then (-1 : Int) else IntKind.u32.max) = ((4294967295 : Nat) : Int) := rfl
  rw [← e]
  go_simp
  first | done | rw [e2] | rfl
theorem shl32 (p q : Operand) (a n : Nat) (w : World) (hn : n ≤ 32) : (do eqGuard .shl 64 p q (.int .u32 a) (.int .u64 n); binOp .shl 64 (.int .u32 a) (.int .u64 n) : Sem Value).run Tryd.prog w = .ok (.int .u32 (((a <<< n) % 4294967296 : Nat) : Int)) w := by
  have e : IntKind.u32.wrap ((a : Int) * 2 ^ n) = (a : Int) <<< n % 4294967296 := by
    rw [Int.shiftLeft_eq]; simp [IntKind.wrap, IntKind.signed, IntKind.bits]
  have e2 : min n 32 = n := by omega
  go_simp
  first | done | exact e
theorem shr32 (p q : Operand) (a n : Nat) (w : World) (hn : n ≤ 32) : (do eqGuard .shr 64 p q (.int .u32 a) (.int .u64 n); binOp .shr 64 (.int .u32 a) (.int .u64 n) : Sem Value).run Tryd.prog w = .ok (.int .u32 ((a >>> n : Nat) : Int)) w := by
  have e : ((a : Int) / 2 ^ n) = (a : Int) >>> n := by rw [Int.shiftRight_eq_div_pow]; simp
  have e2 : min n 32 = n := by omega
  go_simp
  first | done | exact e
theorem sub_n (p q : Operand) (a b c : Nat) (w : World) (h : b + c = a) (ha : a < 4294967296) : (do eqGuard .sub 41 p q (.int .u64 a) (.int .u64 b); binOp .sub 41 (.int .u64 a) (.int .u64 b) : Sem Value).run Tryd.prog w = .ok (.int .u64 ((c : Nat) : Int)) w := by
  have e : IntKind.u64.wrap ((a : Int) - b) = (c : Int) := by simp [IntKind.wrap, IntKind.signed, IntKind.bits]; omega
  go_simp
theorem turnM (n : Nat) (h1 : 1 ≤ n) (h2 : n ≤ 31) : IntKind.u64.wrap (-(n : Int)) = ((18446744073709551616 - n : Nat) : Int) := by simp [IntKind.wrap, IntKind.signed, IntKind.bits]; omega
theorem and31 (n : Nat) (h1 : 1 ≤ n) (h2 : n ≤ 31) : bits .and .u64 ((18446744073709551616 - n : Nat) : Int) 31 = ((32 - n : Nat) : Int) := by
  have : ∀ n : Nat, n ≤ 31 → 1 ≤ n → bits .and .u64 ((18446744073709551616 - n : Nat) : Int) 31 = ((32 - n : Nat) : Int) := by decide
  exact this n h2 h1
theorem cvN {o : Oper} {ev : Operand → Value} {x : Operand} {n : Nat} (u : World) (h1 : 1 ≤ n) (h2 : n ≤ 31) (ho : o.op = .convert 3 41 x) (hx : ev x = .int .i64 (-(n : Int))) : (execOp ev o).run Tryd.prog u = .ok (.value (.int .u64 ((18446744073709551616 - n : Nat) : Int))) u := by
  have e1 := turnM n h1 h2
  unfold execOp; rw [ho]; simp only [hx]; go_simp
theorem andu (p q : Operand) (n : Nat) (w : World) (h1 : 1 ≤ n) (h2 : n ≤ 31) : (do eqGuard .and 41 p q (.int .u64 ((18446744073709551616 - n : Nat) : Int)) (.int .u64 31); binOp .and 41 (.int .u64 ((18446744073709551616 - n : Nat) : Int)) (.int .u64 31) : Sem Value).run Tryd.prog w = .ok (.int .u64 ((32 - n : Nat) : Int)) w := by
  have e2 := and31 n h1 h2
  go_simp
theorem negn (n : Nat) (w : World) (h2 : n ≤ 31) : (Op.unary .neg (.int .i64 n)).run Tryd.prog w = .ok (.int .i64 (-(n : Int))) w := by
  have e : IntKind.i64.wrap (-(n : Int)) = -(n : Int) := by rw [IntKind.wrap_i64]; omega
  go_simp
end Go.Proofs.YtlcjbnhfmcnnfaaDoor
