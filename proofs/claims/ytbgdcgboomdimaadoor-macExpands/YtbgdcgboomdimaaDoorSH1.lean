/- SHA-256: words of 32 bits. -/

import Derived.Test.YtbgdcgboomdimaaDoorProg
import Derived.Test.YtbgdcgboomdimaaDoorGR
import Derived.Laws.BitsLemmas
import Derived.Laws.Shifts
namespace Go.Proofs.YtbgdcgboomdimaaDoor
open Go.RowKit
set_option linter.unusedVariables false
set_option linter.unusedSimpArgs false
section
variable {R : Rg} {P : Program} {ops : Array Oper} {Q : Exit → Act → World → Prop} {f : Nat → Bool} {t : Nat → Value} {u : World} {a : Act} {i : Nat} {o : Oper}
/-- An operation that only reckons. -/
theorem g_op {v : Value} (h : ∀ (ev : Operand → Value) (u : World), (∀ x y, evR R i o x = some y → ev x = y) → (execOp ev o).run P u = .ok (.value v) u) (hv : some v = pickV i R.G := by rfl) (hc : R.chk ops i o = true := by rfl) : OG R P ops Q i o :=
  g_pure hv hc fun f t u a X K hK => wp_val (h a.eval u (fun x y hxy => X.ev hxy)) hK
end
/-- Turned right. -/
def rotr (x n : Nat) : Nat := (x <<< (32 - n)) % 4294967296 ||| x >>> n
def chN (e f g : Nat) : Nat := (e &&& f) ^^^ ((4294967295 ^^^ e) &&& g)
def maN (a b c : Nat) : Nat := (a &&& b) ^^^ (a &&& c) ^^^ (b &&& c)
def ls0 (x : Nat) : Nat := rotr x 7 ^^^ rotr x 18 ^^^ x >>> 3
def ls1 (x : Nat) : Nat := rotr x 17 ^^^ rotr x 19 ^^^ x >>> 10
def gs0 (x : Nat) : Nat := rotr x 2 ^^^ rotr x 13 ^^^ rotr x 22
def gs1 (x : Nat) : Nat := rotr x 6 ^^^ rotr x 11 ^^^ rotr x 25
abbrev M32 : Nat := 4294967296
theorem wraps_u32 (n : Int) (h0 : 0 ≤ n) (h1 : n < 2 ^ 32) : IntKind.u32.wrap n = n := by simp [IntKind.wrap, IntKind.signed, IntKind.bits]; omega
theorem and_lt {a b : Nat} (h : b < M32) : a &&& b < M32 := Nat.and_lt_two_pow a (n := 32) h
theorem or_lt {a b : Nat} (ha : a < M32) (hb : b < M32) : a ||| b < M32 := Nat.or_lt_two_pow (n := 32) ha hb
theorem xor_lt {a b : Nat} (ha : a < M32) (hb : b < M32) : a ^^^ b < M32 := Nat.xor_lt_two_pow (n := 32) ha hb
theorem shr_lt {a n : Nat} (ha : a < M32) : a >>> n < M32 := by rw [Nat.shiftRight_eq_div_pow]; exact Nat.lt_of_le_of_lt (Nat.div_le_self _ _) ha
theorem rotr_lt {x n : Nat} (h : x < M32) : rotr x n < M32 := or_lt (Nat.mod_lt _ (by decide)) (shr_lt h)
theorem ch_lt {e f g : Nat} (hf : f < M32) (hg : g < M32) : chN e f g < M32 := xor_lt (and_lt hf) (and_lt hg)
theorem ma_lt {a b c : Nat} (hb : b < M32) (hc : c < M32) : maN a b c < M32 := xor_lt (xor_lt (and_lt hb) (and_lt hc)) (and_lt hc)
theorem ls0_lt {x : Nat} (h : x < M32) : ls0 x < M32 := xor_lt (xor_lt (rotr_lt h) (rotr_lt h)) (shr_lt h)
theorem ls1_lt {x : Nat} (h : x < M32) : ls1 x < M32 := xor_lt (xor_lt (rotr_lt h) (rotr_lt h)) (shr_lt h)
theorem gs0_lt {x : Nat} (h : x < M32) : gs0 x < M32 := xor_lt (xor_lt (rotr_lt h) (rotr_lt h)) (rotr_lt h)
theorem gs1_lt {x : Nat} (h : x < M32) : gs1 x < M32 := xor_lt (xor_lt (rotr_lt h) (rotr_lt h)) (rotr_lt h)
theorem bit_and (a b : Nat) (ha : a < M32) (hb : b < M32) : bits .and .u32 a b = ((a &&& b : Nat) : Int) := (bits_nat .u32 32 (by decide) wraps_u32 a b ha hb).1
theorem bit_or (a b : Nat) (ha : a < M32) (hb : b < M32) : bits .or .u32 a b = ((a ||| b : Nat) : Int) := (bits_nat .u32 32 (by decide) wraps_u32 a b ha hb).2
theorem bit_xor (a b : Nat) (ha : a < M32) (hb : b < M32) : bits .xor .u32 a b = ((a ^^^ b : Nat) : Int) := by
  have ha' : a % 2 ^ 32 = a := Nat.mod_eq_of_lt ha
  have hb' : b % 2 ^ 32 = b := Nat.mod_eq_of_lt hb
  have h : (BitVec.ofNat 32 a ^^^ BitVec.ofNat 32 b).toNat = a ^^^ b := by rw [BitVec.toNat_xor, BitVec.toNat_ofNat, BitVec.toNat_ofNat, ha', hb']
  show IntKind.u32.wrap ((BitVec.ofInt 32 (a : Int) ^^^ BitVec.ofInt 32 (b : Int)).toNat : Int) = _
  rw [BitVec.ofInt_natCast, BitVec.ofInt_natCast, h]
  exact wraps_u32 _ (Int.natCast_nonneg _) (by exact_mod_cast xor_lt ha hb)
theorem and32 (p q : Operand) (a b : Nat) (w : World) (ha : a < M32) (hb : b < M32) : (do eqGuard .and 31 p q (.int .u32 a) (.int .u32 b); binOp .and 31 (.int .u32 a) (.int .u32 b) : Sem Value).run Tryd.prog w = .ok (.int .u32 ((a &&& b : Nat) : Int)) w := by
  rw [← bit_and a b ha hb]; go_simp
theorem or32 (p q : Operand) (a b : Nat) (w : World) (ha : a < M32) (hb : b < M32) : (do eqGuard .or 31 p q (.int .u32 a) (.int .u32 b); binOp .or 31 (.int .u32 a) (.int .u32 b) : Sem Value).run Tryd.prog w = .ok (.int .u32 ((a ||| b : Nat) : Int)) w := by
  rw [← bit_or a b ha hb]; go_simp
theorem xor32 (p q : Operand) (a b : Nat) (w : World) (ha : a < M32) (hb : b < M32) : (do eqGuard .xor 31 p q (.int .u32 a) (.int .u32 b); binOp .xor 31 (.int .u32 a) (.int .u32 b) : Sem Value).run Tryd.prog w = .ok (.int .u32 ((a ^^^ b : Nat) : Int)) w := by
  rw [← bit_xor a b ha hb]; go_simp
theorem add32 (p q : Operand) (a b : Nat) (w : World) : (do eqGuard .add 31 p q (.int .u32 a) (.int .u32 b); binOp .add 31 (.int .u32 a) (.int .u32 b) : Sem Value).run Tryd.prog w = .ok (.int .u32 (((a + b) % 4294967296 : Nat) : Int)) w := by
  have e : IntKind.u32.wrap ((a : Int) + b) = (((a + b) % 4294967296 : Nat) : Int) := by simp [IntKind.wrap, IntKind.signed, IntKind.bits]
  go_simp
theorem not32 (a : Nat) (w : World) (ha : a < M32) : (Op.unary .xor (.int .u32 a)).run Tryd.prog w = .ok (.int .u32 ((4294967295 ^^^ a : Nat) : Int)) w := by
  have e := bit_xor 4294967295 a (by decide) ha
  have e2 : (if IntKind.u32.signed = true then (-1 : Int) else IntKind.u32.max) = ((4294967295 : Nat) : Int) := rfl
  rw [← e]
  go_simp
  first | done | rw [e2] | rfl
theorem shl32 (p q : Operand) (a n : Nat) (w : World) (hn : n ≤ 32) : (do eqGuard .shl 31 p q (.int .u32 a) (.int .u64 n); binOp .shl 31 (.int .u32 a) (.int .u64 n) : Sem Value).run Tryd.prog w = .ok (.int .u32 (((a <<< n) % 4294967296 : Nat) : Int)) w := by
  have e : IntKind.u32.wrap ((a : Int) * 2 ^ n) = (a : Int) <<< n % 4294967296 := by
    rw [Int.shiftLeft_eq]; simp [IntKind.wrap, IntKind.signed, IntKind.bits]
  have e2 : min n 32 = n := by omega
  go_simp
  first | done | exact e
theorem shr32 (p q : Operand) (a n : Nat) (w : World) (hn : n ≤ 32) : (do eqGuard .shr 31 p q (.int .u32 a) (.int .u64 n); binOp .shr 31 (.int .u32 a) (.int .u64 n) : Sem Value).run Tryd.prog w = .ok (.int .u32 ((a >>> n : Nat) : Int)) w := by
  have e : ((a : Int) / 2 ^ n) = (a : Int) >>> n := by rw [Int.shiftRight_eq_div_pow]; simp
  have e2 : min n 32 = n := by omega
  go_simp
  first | done | exact e
set_option maxRecDepth 100000 in
set_option maxHeartbeats 4000000 in
theorem cChoice (e f g : Nat) (w : World) (he : e < M32) (hf : f < M32) (hg : g < M32) : Calls Tryd.prog 44 #[.int .u32 e, .int .u32 f, .int .u32 g] w fun en w' => en = .returned (.int .u32 (chN e f g : Nat)) ∧ Below w.heap.size w w' := by
  go_enter Tryd.func44, Tryd.ntmps44
  have HB0 : Below w.heap.size w w := Below.refl _ _
  have K0_1 := Bk.nil (w.heap.size) w
  go_upto_region 1 with fail
  refine rgP K0_1 HB0 HB0.size [] [] [(0, 7, .int .u32 ((e : Nat) : Int)), (1, 8, .int .u32 ((f : Nat) : Int)), (2, 9, .int .u32 ((e &&& f : Nat) : Int)), (3, 10, .int .u32 ((e : Nat) : Int)), (4, 11, .int .u32 ((4294967295 ^^^ e : Nat) : Int)), (5, 12, .int .u32 ((g : Nat) : Int)), (6, 13, .int .u32 (((4294967295 ^^^ e) &&& g : Nat) : Int)), (7, 14, .int .u32 (((e &&& f) ^^^ ((4294967295 ^^^ e) &&& g) : Nat) : Int)), (8, 6, .int .u32 (((e &&& f) ^^^ ((4294967295 ^^^ e) &&& g) : Nat) : Int))] [] [] [] ?_ ?_
  · refine oc g_mv ?_
    refine oc g_mv ?_
    refine oc (g_bn (fun uZ => and32 _ _ e f uZ he hf)) ?_
    refine oc g_mv ?_
    refine oc (g_un (fun uZ => not32 e uZ he)) ?_
    refine oc g_mv ?_
    refine oc (g_bn (fun uZ => and32 _ _ (4294967295 ^^^ e) g uZ (xor_lt (by decide) he) hg)) ?_
    refine oc (g_bn (fun uZ => xor32 _ _ (e &&& f) ((4294967295 ^^^ e) &&& g) uZ (and_lt hf) (and_lt hg))) ?_
    exact oc g_as on
  intro u1 HB1 sz1 K1
  simp only [fX, nK, nP, Wr.f, aK, pM] at K1
  simp only [setG, setN, List.set_cons_zero, List.set_cons_succ]
  clear HB0
  go_wp2
  refine bodyPost_ret (v := .int .u32 (((e &&& f) ^^^ ((4294967295 ^^^ e) &&& g) : Nat) : Int)) (by simp [results, Tryd.results44, go_sem, ]) rfl ⟨rfl, HB1⟩
set_option maxRecDepth 100000 in
set_option maxHeartbeats 4000000 in
theorem cMajority (a b c : Nat) (w : World) (ha : a < M32) (hb : b < M32) (hc : c < M32) : Calls Tryd.prog 46 #[.int .u32 a, .int .u32 b, .int .u32 c] w fun en w' => en = .returned (.int .u32 (maN a b c : Nat)) ∧ Below w.heap.size w w' := by
  go_enter Tryd.func46, Tryd.ntmps46
  have HB0 : Below w.heap.size w w := Below.refl _ _
  have K0_1 := Bk.nil (w.heap.size) w
  go_upto_region 1 with fail
  refine rgP K0_1 HB0 HB0.size [] [] [(0, 7, .int .u32 ((a : Nat) : Int)), (1, 8, .int .u32 ((b : Nat) : Int)), (2, 9, .int .u32 ((a &&& b : Nat) : Int)), (3, 10, .int .u32 ((a : Nat) : Int)), (4, 11, .int .u32 ((c : Nat) : Int)), (5, 12, .int .u32 ((a &&& c : Nat) : Int)), (6, 13, .int .u32 (((a &&& b) ^^^ (a &&& c) : Nat) : Int)), (7, 14, .int .u32 ((b : Nat) : Int)), (8, 15, .int .u32 ((c : Nat) : Int)), (9, 16, .int .u32 ((b &&& c : Nat) : Int)), (10, 17, .int .u32 (((a &&& b) ^^^ (a &&& c) ^^^ (b &&& c) : Nat) : Int)), (11, 6, .int .u32 (((a &&& b) ^^^ (a &&& c) ^^^ (b &&& c) : Nat) : Int))] [] [] [] ?_ ?_
  · refine oc g_mv ?_
    refine oc g_mv ?_
    refine oc (g_bn (fun uZ => and32 _ _ a b uZ ha hb)) ?_
    refine oc g_mv ?_
    refine oc g_mv ?_
    refine oc (g_bn (fun uZ => and32 _ _ a c uZ ha hc)) ?_
    refine oc (g_bn (fun uZ => xor32 _ _ (a &&& b) (a &&& c) uZ (and_lt hb) (and_lt hc))) ?_
    refine oc g_mv ?_
    refine oc g_mv ?_
    refine oc (g_bn (fun uZ => and32 _ _ b c uZ hb hc)) ?_
    refine oc (g_bn (fun uZ => xor32 _ _ ((a &&& b) ^^^ (a &&& c)) (b &&& c) uZ (xor_lt (and_lt hb) (and_lt hc)) (and_lt hc))) ?_
    exact oc g_as on
  intro u1 HB1 sz1 K1
  simp only [fX, nK, nP, Wr.f, aK, pM] at K1
  simp only [setG, setN, List.set_cons_zero, List.set_cons_succ]
  clear HB0
  go_wp2
  refine bodyPost_ret (v := .int .u32 (((a &&& b) ^^^ (a &&& c) ^^^ (b &&& c) : Nat) : Int)) (by simp [results, Tryd.results46, go_sem, ]) rfl ⟨rfl, HB1⟩
theorem sub_n (p q : Operand) (a b c : Nat) (w : World) (h : b + c = a) (ha : a < 4294967296) : (do eqGuard .sub 55 p q (.int .u64 a) (.int .u64 b); binOp .sub 55 (.int .u64 a) (.int .u64 b) : Sem Value).run Tryd.prog w = .ok (.int .u64 ((c : Nat) : Int)) w := by
  have e : IntKind.u64.wrap ((a : Int) - b) = (c : Int) := by simp [IntKind.wrap, IntKind.signed, IntKind.bits]; omega
  go_simp
theorem turnM (n : Nat) (h1 : 1 ≤ n) (h2 : n ≤ 31) : IntKind.u64.wrap (-(n : Int)) = ((18446744073709551616 - n : Nat) : Int) := by simp [IntKind.wrap, IntKind.signed, IntKind.bits]; omega
theorem and31 (n : Nat) (h1 : 1 ≤ n) (h2 : n ≤ 31) : bits .and .u64 ((18446744073709551616 - n : Nat) : Int) 31 = ((32 - n : Nat) : Int) := by
  have : ∀ n : Nat, n ≤ 31 → 1 ≤ n → bits .and .u64 ((18446744073709551616 - n : Nat) : Int) 31 = ((32 - n : Nat) : Int) := by decide
  exact this n h2 h1
theorem cvN {o : Oper} {ev : Operand → Value} {x : Operand} {n : Nat} (u : World) (h1 : 1 ≤ n) (h2 : n ≤ 31) (ho : o.op = .convert 3 55 x) (hx : ev x = .int .i64 (-(n : Int))) : (execOp ev o).run Tryd.prog u = .ok (.value (.int .u64 ((18446744073709551616 - n : Nat) : Int))) u := by
  have e1 := turnM n h1 h2
  unfold execOp; rw [ho]; simp only [hx]; go_simp
theorem andu (p q : Operand) (n : Nat) (w : World) (h1 : 1 ≤ n) (h2 : n ≤ 31) : (do eqGuard .and 55 p q (.int .u64 ((18446744073709551616 - n : Nat) : Int)) (.int .u64 31); binOp .and 55 (.int .u64 ((18446744073709551616 - n : Nat) : Int)) (.int .u64 31) : Sem Value).run Tryd.prog w = .ok (.int .u64 ((32 - n : Nat) : Int)) w := by
  have e2 := and31 n h1 h2
  go_simp
theorem negn (n : Nat) (w : World) (h2 : n ≤ 31) : (Op.unary .neg (.int .i64 n)).run Tryd.prog w = .ok (.int .i64 (-(n : Int))) w := by
  have e : IntKind.i64.wrap (-(n : Int)) = -(n : Int) := by rw [IntKind.wrap_i64]; omega
  go_simp
set_option maxRecDepth 100000 in
set_option maxHeartbeats 4000000 in
theorem cRotate (x n : Nat) (w : World) (hx : x < M32) (h1 : 1 ≤ n) (h2 : n ≤ 31) : Calls Tryd.prog 62 #[.int .u32 x, .int .i64 (-(n : Int))] w fun en w' => en = .returned (.int .u32 (rotr x n : Nat)) ∧ Below w.heap.size w w' := by
  go_enter Tryd.func62, Tryd.ntmps62
  have HB0 : Below w.heap.size w w := Below.refl _ _
  have K0_1 := Bk.nil (w.heap.size) w
  go_upto_region 1 with fail
  refine rgP K0_1 HB0 HB0.size [] [] [(0, 6, .int .i64 (-(n : Int))), (1, 7, .int .u64 ((18446744073709551616 - n : Nat) : Int)), (2, 8, .int .u64 ((32 - n : Nat) : Int)), (3, 5, .int .u64 ((32 - n : Nat) : Int))] [] [] [] ?_ ?_
  · refine oc g_mv ?_
    refine oc (g_op (fun ev uZ he => cvN uZ h1 h2 rfl (he _ _ rfl))) ?_
    refine oc (g_bn (fun uZ => andu _ _ n uZ h1 h2)) ?_
    exact oc g_as on
  intro u1 HB1 sz1 K1
  simp only [fX, nK, nP, Wr.f, aK, pM] at K1
  simp only [setG, setN, List.set_cons_zero, List.set_cons_succ]
  clear HB0
  go_upto_region 2 with fail
  refine rgP K1 HB1 HB1.size [] [] [(0, 9, .int .u32 ((x : Nat) : Int)), (1, 10, .int .u64 ((32 - n : Nat) : Int)), (2, 11, .int .u32 (((x <<< (32 - n)) % 4294967296 : Nat) : Int)), (3, 12, .int .u32 ((x : Nat) : Int)), (4, 13, .int .u64 ((32 - n : Nat) : Int)), (5, 14, .int .u64 ((n : Nat) : Int)), (6, 15, .int .u32 ((x >>> n : Nat) : Int)), (7, 16, .int .u32 (((x <<< (32 - n)) % 4294967296 ||| x >>> n : Nat) : Int)), (8, 4, .int .u32 (((x <<< (32 - n)) % 4294967296 ||| x >>> n : Nat) : Int))] [] [] [] ?_ ?_
  · refine oc g_mv ?_
    refine oc g_mv ?_
    refine oc (g_bn (fun uZ => shl32 _ _ x (32 - n) uZ (by omega))) ?_
    refine oc g_mv ?_
    refine oc g_mv ?_
    refine oc (g_bn (fun uZ => sub_n _ _ 32 (32 - n) n uZ (by omega) (by decide))) ?_
    refine oc (g_bn (fun uZ => shr32 _ _ x n uZ (by omega))) ?_
    refine oc (g_bn (fun uZ => or32 _ _ ((x <<< (32 - n)) % 4294967296) (x >>> n) uZ (Nat.mod_lt _ (by decide)) (shr_lt hx))) ?_
    exact oc g_as on
  intro u2 HB2 sz2 K2
  simp only [fX, nK, nP, Wr.f, aK, pM] at K2
  simp only [setG, setN, List.set_cons_zero, List.set_cons_succ]
  clear K1 HB1
  go_wp2
  refine bodyPost_ret (v := .int .u32 (((x <<< (32 - n)) % 4294967296 ||| x >>> n : Nat) : Int)) (by simp [results, Tryd.results62, go_sem, ]) rfl ⟨rfl, HB2⟩
theorem ent_math_bits_RotateLeft32 (vs : Array Value) (w : World) : (callFunc 62 vs).run Tryd.prog w = .ok (.enter 62 vs) w := by kernel_rfl
theorem ent_sha_right (vs : Array Value) (w : World) : (callFunc 60 vs).run Tryd.prog w = .ok (.enter 60 vs) w := by kernel_rfl
theorem ent_sha_choice (vs : Array Value) (w : World) : (callFunc 44 vs).run Tryd.prog w = .ok (.enter 44 vs) w := by kernel_rfl
theorem ent_sha_majority (vs : Array Value) (w : World) : (callFunc 46 vs).run Tryd.prog w = .ok (.enter 46 vs) w := by kernel_rfl
theorem ent_sha_small0 (vs : Array Value) (w : World) : (callFunc 59 vs).run Tryd.prog w = .ok (.enter 59 vs) w := by kernel_rfl
theorem ent_sha_small1 (vs : Array Value) (w : World) : (callFunc 58 vs).run Tryd.prog w = .ok (.enter 58 vs) w := by kernel_rfl
theorem ent_sha_great0 (vs : Array Value) (w : World) : (callFunc 45 vs).run Tryd.prog w = .ok (.enter 45 vs) w := by kernel_rfl
theorem ent_sha_great1 (vs : Array Value) (w : World) : (callFunc 43 vs).run Tryd.prog w = .ok (.enter 43 vs) w := by kernel_rfl
theorem ent_sha_spread (vs : Array Value) (w : World) : (callFunc 42 vs).run Tryd.prog w = .ok (.enter 42 vs) w := by kernel_rfl
theorem ent_sha_Block (vs : Array Value) (w : World) : (callFunc 22 vs).run Tryd.prog w = .ok (.enter 22 vs) w := by kernel_rfl
theorem ent_sha_told (vs : Array Value) (w : World) : (callFunc 52 vs).run Tryd.prog w = .ok (.enter 52 vs) w := by kernel_rfl
theorem ent_sha_ending (vs : Array Value) (w : World) : (callFunc 41 vs).run Tryd.prog w = .ok (.enter 41 vs) w := by kernel_rfl
theorem ent_sha_Parts (vs : Array Value) (w : World) : (callFunc 25 vs).run Tryd.prog w = .ok (.enter 25 vs) w := by kernel_rfl
theorem ent___sha_running__take (vs : Array Value) (w : World) : (callFunc 51 vs).run Tryd.prog w = .ok (.enter 51 vs) w := by kernel_rfl
theorem ent_sha_Sum (vs : Array Value) (w : World) : (callFunc 14 vs).run Tryd.prog w = .ok (.enter 14 vs) w := by kernel_rfl
theorem ent_sha_Pad (vs : Array Value) (w : World) : (callFunc 17 vs).run Tryd.prog w = .ok (.enter 17 vs) w := by kernel_rfl
theorem ent_sha_Prefix (vs : Array Value) (w : World) : (callFunc 19 vs).run Tryd.prog w = .ok (.enter 19 vs) w := by kernel_rfl
set_option maxRecDepth 100000 in
set_option maxHeartbeats 4000000 in
theorem cRight (x n : Nat) (w : World) (hx : x < M32) (h1 : 1 ≤ n) (h2 : n ≤ 31) : Calls Tryd.prog 60 #[.int .u32 x, .int .i64 (n : Int)] w fun en w' => en = .returned (.int .u32 (rotr x n : Nat)) ∧ Below w.heap.size w w' := by
  go_enter Tryd.func60, Tryd.ntmps60
  have HB0 : Below w.heap.size w w := Below.refl _ _
  have K0_1 := Bk.nil (w.heap.size) w
  go_upto_region 1 with fail
  refine rgP K0_1 HB0 HB0.size [] [] [(0, 5, .int .u32 ((x : Nat) : Int)), (1, 6, .int .i64 (n : Int)), (2, 7, .int .i64 (-(n : Int))), (3, 8, .int .u32 ((rotr x n : Nat) : Int)), (4, 4, .int .u32 ((rotr x n : Nat) : Int))] [] [] [] ?_ ?_
  · refine oc g_mv ?_
    refine oc g_mv ?_
    refine oc (g_un (fun uZ => negn n uZ h2)) ?_
    refine oc (g_cl ent_math_bits_RotateLeft32 (fun uZ => cRotate x n uZ hx h1 h2)) ?_
    exact oc g_as on
  intro u1 HB1 sz1 K1
  simp only [fX, nK, nP, Wr.f, aK, pM] at K1
  simp only [setG, setN, List.set_cons_zero, List.set_cons_succ]
  clear HB0
  go_wp2
  refine bodyPost_ret (v := .int .u32 ((rotr x n : Nat) : Int)) (by simp [results, Tryd.results60, go_sem, ]) rfl ⟨rfl, HB1⟩
set_option maxRecDepth 100000 in
set_option maxHeartbeats 4000000 in
theorem cSmall0 (x : Nat) (w : World) (hx : x < M32) : Calls Tryd.prog 59 #[.int .u32 x] w fun en w' => en = .returned (.int .u32 (ls0 x : Nat)) ∧ Below w.heap.size w w' := by
  go_enter Tryd.func59, Tryd.ntmps59
  have HB0 : Below w.heap.size w w := Below.refl _ _
  have K0_1 := Bk.nil (w.heap.size) w
  go_upto_region 1 with fail
  refine rgP K0_1 HB0 HB0.size [] [] [(0, 3, .int .u32 ((x : Nat) : Int)), (1, 4, .int .u32 ((rotr x 7 : Nat) : Int)), (2, 5, .int .u32 ((x : Nat) : Int)), (3, 6, .int .u32 ((rotr x 18 : Nat) : Int)), (4, 7, .int .u32 ((rotr x 7 ^^^ rotr x 18 : Nat) : Int)), (5, 8, .int .u32 ((x : Nat) : Int)), (6, 9, .int .u32 ((x >>> 3 : Nat) : Int)), (7, 10, .int .u32 ((rotr x 7 ^^^ rotr x 18 ^^^ x >>> 3 : Nat) : Int)), (8, 2, .int .u32 ((rotr x 7 ^^^ rotr x 18 ^^^ x >>> 3 : Nat) : Int))] [] [] [] ?_ ?_
  · refine oc g_mv ?_
    refine oc (g_cl ent_sha_right (fun uZ => cRight x 7 uZ hx (by decide) (by decide))) ?_
    refine oc g_mv ?_
    refine oc (g_cl ent_sha_right (fun uZ => cRight x 18 uZ hx (by decide) (by decide))) ?_
    refine oc (g_bn (fun uZ => xor32 _ _ (rotr x 7) (rotr x 18) uZ (rotr_lt hx) (rotr_lt hx))) ?_
    refine oc g_mv ?_
    refine oc (g_bn (fun uZ => shr32 _ _ x 3 uZ (by decide))) ?_
    refine oc (g_bn (fun uZ => xor32 _ _ (rotr x 7 ^^^ rotr x 18) (x >>> 3) uZ (xor_lt (rotr_lt hx) (rotr_lt hx)) (shr_lt hx))) ?_
    exact oc g_as on
  intro u1 HB1 sz1 K1
  simp only [fX, nK, nP, Wr.f, aK, pM] at K1
  simp only [setG, setN, List.set_cons_zero, List.set_cons_succ]
  clear HB0
  go_wp2
  refine bodyPost_ret (v := .int .u32 ((rotr x 7 ^^^ rotr x 18 ^^^ x >>> 3 : Nat) : Int)) (by simp [results, Tryd.results59, go_sem, ]) rfl ⟨rfl, HB1⟩
set_option maxRecDepth 100000 in
set_option maxHeartbeats 4000000 in
theorem cSmall1 (x : Nat) (w : World) (hx : x < M32) : Calls Tryd.prog 58 #[.int .u32 x] w fun en w' => en = .returned (.int .u32 (ls1 x : Nat)) ∧ Below w.heap.size w w' := by
  go_enter Tryd.func58, Tryd.ntmps58
  have HB0 : Below w.heap.size w w := Below.refl _ _
  have K0_1 := Bk.nil (w.heap.size) w
  go_upto_region 1 with fail
  refine rgP K0_1 HB0 HB0.size [] [] [(0, 3, .int .u32 ((x : Nat) : Int)), (1, 4, .int .u32 ((rotr x 17 : Nat) : Int)), (2, 5, .int .u32 ((x : Nat) : Int)), (3, 6, .int .u32 ((rotr x 19 : Nat) : Int)), (4, 7, .int .u32 ((rotr x 17 ^^^ rotr x 19 : Nat) : Int)), (5, 8, .int .u32 ((x : Nat) : Int)), (6, 9, .int .u32 ((x >>> 10 : Nat) : Int)), (7, 10, .int .u32 ((rotr x 17 ^^^ rotr x 19 ^^^ x >>> 10 : Nat) : Int)), (8, 2, .int .u32 ((rotr x 17 ^^^ rotr x 19 ^^^ x >>> 10 : Nat) : Int))] [] [] [] ?_ ?_
  · refine oc g_mv ?_
    refine oc (g_cl ent_sha_right (fun uZ => cRight x 17 uZ hx (by decide) (by decide))) ?_
    refine oc g_mv ?_
    refine oc (g_cl ent_sha_right (fun uZ => cRight x 19 uZ hx (by decide) (by decide))) ?_
    refine oc (g_bn (fun uZ => xor32 _ _ (rotr x 17) (rotr x 19) uZ (rotr_lt hx) (rotr_lt hx))) ?_
    refine oc g_mv ?_
    refine oc (g_bn (fun uZ => shr32 _ _ x 10 uZ (by decide))) ?_
    refine oc (g_bn (fun uZ => xor32 _ _ (rotr x 17 ^^^ rotr x 19) (x >>> 10) uZ (xor_lt (rotr_lt hx) (rotr_lt hx)) (shr_lt hx))) ?_
    exact oc g_as on
  intro u1 HB1 sz1 K1
  simp only [fX, nK, nP, Wr.f, aK, pM] at K1
  simp only [setG, setN, List.set_cons_zero, List.set_cons_succ]
  clear HB0
  go_wp2
  refine bodyPost_ret (v := .int .u32 ((rotr x 17 ^^^ rotr x 19 ^^^ x >>> 10 : Nat) : Int)) (by simp [results, Tryd.results58, go_sem, ]) rfl ⟨rfl, HB1⟩
set_option maxRecDepth 100000 in
set_option maxHeartbeats 4000000 in
theorem cGreat0 (x : Nat) (w : World) (hx : x < M32) : Calls Tryd.prog 45 #[.int .u32 x] w fun en w' => en = .returned (.int .u32 (gs0 x : Nat)) ∧ Below w.heap.size w w' := by
  go_enter Tryd.func45, Tryd.ntmps45
  have HB0 : Below w.heap.size w w := Below.refl _ _
  have K0_1 := Bk.nil (w.heap.size) w
  go_upto_region 1 with fail
  refine rgP K0_1 HB0 HB0.size [] [] [(0, 3, .int .u32 ((x : Nat) : Int)), (1, 4, .int .u32 ((rotr x 2 : Nat) : Int)), (2, 5, .int .u32 ((x : Nat) : Int)), (3, 6, .int .u32 ((rotr x 13 : Nat) : Int)), (4, 7, .int .u32 ((rotr x 2 ^^^ rotr x 13 : Nat) : Int)), (5, 8, .int .u32 ((x : Nat) : Int)), (6, 9, .int .u32 ((rotr x 22 : Nat) : Int)), (7, 10, .int .u32 ((rotr x 2 ^^^ rotr x 13 ^^^ rotr x 22 : Nat) : Int)), (8, 2, .int .u32 ((rotr x 2 ^^^ rotr x 13 ^^^ rotr x 22 : Nat) : Int))] [] [] [] ?_ ?_
  · refine oc g_mv ?_
    refine oc (g_cl ent_sha_right (fun uZ => cRight x 2 uZ hx (by decide) (by decide))) ?_
    refine oc g_mv ?_
    refine oc (g_cl ent_sha_right (fun uZ => cRight x 13 uZ hx (by decide) (by decide))) ?_
    refine oc (g_bn (fun uZ => xor32 _ _ (rotr x 2) (rotr x 13) uZ (rotr_lt hx) (rotr_lt hx))) ?_
    refine oc g_mv ?_
    refine oc (g_cl ent_sha_right (fun uZ => cRight x 22 uZ hx (by decide) (by decide))) ?_
    refine oc (g_bn (fun uZ => xor32 _ _ (rotr x 2 ^^^ rotr x 13) (rotr x 22) uZ (xor_lt (rotr_lt hx) (rotr_lt hx)) (rotr_lt hx))) ?_
    exact oc g_as on
  intro u1 HB1 sz1 K1
  simp only [fX, nK, nP, Wr.f, aK, pM] at K1
  simp only [setG, setN, List.set_cons_zero, List.set_cons_succ]
  clear HB0
  go_wp2
  refine bodyPost_ret (v := .int .u32 ((rotr x 2 ^^^ rotr x 13 ^^^ rotr x 22 : Nat) : Int)) (by simp [results, Tryd.results45, go_sem, ]) rfl ⟨rfl, HB1⟩
set_option maxRecDepth 100000 in
set_option maxHeartbeats 4000000 in
theorem cGreat1 (x : Nat) (w : World) (hx : x < M32) : Calls Tryd.prog 43 #[.int .u32 x] w fun en w' => en = .returned (.int .u32 (gs1 x : Nat)) ∧ Below w.heap.size w w' := by
  go_enter Tryd.func43, Tryd.ntmps43
  have HB0 : Below w.heap.size w w := Below.refl _ _
  have K0_1 := Bk.nil (w.heap.size) w
  go_upto_region 1 with fail
  refine rgP K0_1 HB0 HB0.size [] [] [(0, 3, .int .u32 ((x : Nat) : Int)), (1, 4, .int .u32 ((rotr x 6 : Nat) : Int)), (2, 5, .int .u32 ((x : Nat) : Int)), (3, 6, .int .u32 ((rotr x 11 : Nat) : Int)), (4, 7, .int .u32 ((rotr x 6 ^^^ rotr x 11 : Nat) : Int)), (5, 8, .int .u32 ((x : Nat) : Int)), (6, 9, .int .u32 ((rotr x 25 : Nat) : Int)), (7, 10, .int .u32 ((rotr x 6 ^^^ rotr x 11 ^^^ rotr x 25 : Nat) : Int)), (8, 2, .int .u32 ((rotr x 6 ^^^ rotr x 11 ^^^ rotr x 25 : Nat) : Int))] [] [] [] ?_ ?_
  · refine oc g_mv ?_
    refine oc (g_cl ent_sha_right (fun uZ => cRight x 6 uZ hx (by decide) (by decide))) ?_
    refine oc g_mv ?_
    refine oc (g_cl ent_sha_right (fun uZ => cRight x 11 uZ hx (by decide) (by decide))) ?_
    refine oc (g_bn (fun uZ => xor32 _ _ (rotr x 6) (rotr x 11) uZ (rotr_lt hx) (rotr_lt hx))) ?_
    refine oc g_mv ?_
    refine oc (g_cl ent_sha_right (fun uZ => cRight x 25 uZ hx (by decide) (by decide))) ?_
    refine oc (g_bn (fun uZ => xor32 _ _ (rotr x 6 ^^^ rotr x 11) (rotr x 25) uZ (xor_lt (rotr_lt hx) (rotr_lt hx)) (rotr_lt hx))) ?_
    exact oc g_as on
  intro u1 HB1 sz1 K1
  simp only [fX, nK, nP, Wr.f, aK, pM] at K1
  simp only [setG, setN, List.set_cons_zero, List.set_cons_succ]
  clear HB0
  go_wp2
  refine bodyPost_ret (v := .int .u32 ((rotr x 6 ^^^ rotr x 11 ^^^ rotr x 25 : Nat) : Int)) (by simp [results, Tryd.results43, go_sem, ]) rfl ⟨rfl, HB1⟩
end Go.Proofs.YtbgdcgboomdimaaDoor
