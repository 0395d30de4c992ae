/- HMAC: the numbers. -/
import Derived.Test.YtlcjbnhfmcnnfaaDoorSO
import Derived.Test.YtlcjbnhfmcnnfaaDoorGA
namespace Go.Proofs.YtlcjbnhfmcnnfaaDoor
open Go.RowKit
set_option linter.unusedVariables false
set_option linter.unusedSimpArgs false
theorem getD_app1 {a b : List Nat} {j : Nat} (h : j < a.length) : (a ++ b).getD j 0 = a.getD j 0 := by
  rw [List.getD_eq_getElem?_getD, List.getD_eq_getElem?_getD, List.getElem?_append_left h]
theorem getD_app2 {a b : List Nat} {j : Nat} (h : a.length ≤ j) : (a ++ b).getD j 0 = b.getD (j - a.length) 0 := by
  rw [List.getD_eq_getElem?_getD, List.getD_eq_getElem?_getD, List.getElem?_append_right h]
/-- Bytes, each xor a number. -/
def msk (x : Nat) (l : List Nat) : List Nat := l.map (· ^^^ x)
/-- The first so many of them. -/
def mkL (x : Nat) (l : List Nat) : Nat → List Nat
  | 0 => l
  | i + 1 => (mkL x l i).set i ((mkL x l i).getD i 0 ^^^ x)
theorem mkL_is (x : Nat) (l : List Nat) : ∀ i, i ≤ l.length → mkL x l i = (l.take i).map (· ^^^ x) ++ l.drop i
  | 0, _ => by simp [mkL]
  | i + 1, h => by
    have hi : i < l.length := by omega
    have e1 : ((l.take i).map (· ^^^ x)).length = i := by rw [List.length_map, List.length_take]; omega
    rw [mkL, mkL_is x l i (by omega)]
    have e2 : l.drop i = l[i] :: l.drop (i + 1) := List.drop_eq_getElem_cons hi
    rw [e2, List.take_succ_eq_append_getElem hi, List.map_append, List.append_assoc]
    rw [getD_app2 (by omega), List.set_append_right _ _ (by omega), e1, Nat.sub_self]
    rfl
theorem mkL_all (x : Nat) (l : List Nat) : mkL x l l.length = msk x l := by
  rw [mkL_is x l _ (Nat.le_refl _)]; simp [msk]
theorem xor_lt8 {a b : Nat} (ha : a < 256) (hb : b < 256) : a ^^^ b < 256 := Nat.xor_lt_two_pow (n := 8) ha hb
theorem mkL_B {x n : Nat} {l : List Nat} (h : BB n l) (hx : x < 256) : ∀ i, BB n (mkL x l i)
  | 0 => h
  | i + 1 => (mkL_B h hx i).set _ _ (xor_lt8 ((mkL_B h hx i).lt i) hx)
theorem msk_B {x n : Nat} {l : List Nat} (h : BB n l) (hx : x < 256) : BB n (msk x l) := by
  rw [← mkL_all]; exact mkL_B h hx _
/-- A key as a block. -/
def whk (ks : List Nat) : List Nat := if 64 < ks.length then dig ks else ks
def whl (ks : List Nat) : List Nat := whk ks ++ List.replicate (64 - (whk ks).length) 0
theorem whk_len (ks : List Nat) : (whk ks).length ≤ 64 := by
  unfold whk; split
  · rw [(dig_B ks).len]; decide
  · omega
theorem app_B {n m : Nat} {a b : List Nat} (ha : BB n a) (hb : BB m b) : BB (n + m) (a ++ b) := ⟨by rw [List.length_append, ha.len, hb.len], fun j => by
  by_cases h : j < a.length
  · rw [getD_app1 h]; exact ha.lt j
  · rw [getD_app2 (by omega)]; exact hb.lt _⟩
theorem BB_of {l : List Nat} (h : ∀ x ∈ l, x < 256) : BB l.length l := ⟨rfl, by_getD h⟩
theorem whk_m {ks : List Nat} (h : ∀ x ∈ ks, x < 256) : ∀ x ∈ whk ks, x < 256 := by
  unfold whk; split
  · exact (dig_B ks).mem
  · exact h
theorem whl_B {ks : List Nat} (h : ∀ x ∈ ks, x < 256) : BB 64 (whl ks) := by
  have := app_B (BB_of (whk_m h)) (BB_rep (64 - (whk ks).length))
  rwa [show (whk ks).length + (64 - (whk ks).length) = 64 by have := whk_len ks; omega] at this
/-- HMAC of a whole key. -/
def hm (k xs : List Nat) : List Nat := dig (msk 92 k ++ dig (msk 54 k ++ xs))
theorem hm_B (k xs : List Nat) : BB 32 (hm k xs) := dig_B _
/-- What differs, up to so many bytes. -/
def dif (xs ys : List Nat) : Nat → Nat
  | 0 => xs.length ^^^ ys.length
  | i + 1 => dif xs ys i ||| (xs.getD i 0 ^^^ ys.getD i 0)
theorem dif_lt {xs ys : List Nat} (hx : ∀ x ∈ xs, x < 256) (hy : ∀ x ∈ ys, x < 256) (h1 : xs.length < 4294967296) (h2 : ys.length < 4294967296) : ∀ i, dif xs ys i < 4294967296
  | 0 => Nat.xor_lt_two_pow (n := 32) h1 h2
  | i + 1 => Nat.or_lt_two_pow (n := 32) (dif_lt hx hy h1 h2 i) (Nat.lt_trans (xor_lt8 (by_getD hx i) (by_getD hy i)) (by decide))
theorem or_zero {a b : Nat} : a ||| b = 0 ↔ a = 0 ∧ b = 0 := by
  constructor
  · intro h
    constructor
    · exact Nat.eq_of_testBit_eq fun i => by
        have := congrArg (fun n => n.testBit i) h
        simp at this
        simp [this.1]
    · exact Nat.eq_of_testBit_eq fun i => by
        have := congrArg (fun n => n.testBit i) h
        simp at this
        simp [this.2]
  · rintro ⟨rfl, rfl⟩; rfl
theorem xor_zero {a b : Nat} : a ^^^ b = 0 ↔ a = b := by
  constructor
  · intro h
    exact Nat.eq_of_testBit_eq fun i => by
      have := congrArg (fun n => n.testBit i) h
      simp at this
      exact this
  · rintro rfl; exact Nat.xor_self a
theorem dif_zero (xs ys : List Nat) : ∀ i, dif xs ys i = 0 ↔ xs.length = ys.length ∧ ∀ j, j < i → xs.getD j 0 = ys.getD j 0
  | 0 => by simp [dif, xor_zero]
  | i + 1 => by
    rw [dif, or_zero, dif_zero xs ys i, xor_zero]
    constructor
    · rintro ⟨⟨h1, h2⟩, h3⟩
      refine ⟨h1, fun j hj => ?_⟩
      rcases Nat.lt_or_ge j i with h | h
      · exact h2 j h
      · rw [show j = i by omega]; exact h3
    · rintro ⟨h1, h2⟩
      exact ⟨⟨h1, fun j hj => h2 j (by omega)⟩, h2 i (by omega)⟩
theorem dif_same (xs ys : List Nat) : dif xs ys (min xs.length ys.length) = 0 ↔ xs = ys := by
  rw [dif_zero]
  constructor
  · rintro ⟨h1, h2⟩
    refine List.ext_getElem h1 fun j a b => ?_
    have := h2 j (by omega)
    simpa [List.getElem?_eq_getElem a, List.getElem?_eq_getElem b] using this
  · rintro rfl; exact ⟨rfl, fun _ _ => rfl⟩
theorem wraps_u8 (n : Int) (h0 : 0 ≤ n) (h1 : n < 2 ^ 8) : IntKind.u8.wrap n = n := by simp [IntKind.wrap, IntKind.signed, IntKind.bits]; omega
theorem bit_xor8 (a b : Nat) (ha : a < 256) (hb : b < 256) : bits .xor .u8 a b = ((a ^^^ b : Nat) : Int) := by
  have ha' : a % 2 ^ 8 = a := Nat.mod_eq_of_lt ha
  have hb' : b % 2 ^ 8 = b := Nat.mod_eq_of_lt hb
  have h : (BitVec.ofNat 8 a ^^^ BitVec.ofNat 8 b).toNat = a ^^^ b := by rw [BitVec.toNat_xor, BitVec.toNat_ofNat, BitVec.toNat_ofNat, ha', hb']
  show IntKind.u8.wrap ((BitVec.ofInt 8 (a : Int) ^^^ BitVec.ofInt 8 (b : Int)).toNat : Int) = _
  rw [BitVec.ofInt_natCast, BitVec.ofInt_natCast, h]
  exact wraps_u8 _ (Int.natCast_nonneg _) (by exact_mod_cast xor_lt8 ha hb)
theorem xor8 (p q : Operand) (a b : Nat) (w : World) (ha : a < 256) (hb : b < 256) : (do eqGuard .xor 5 p q (.int .u8 a) (.int .u8 b); binOp .xor 5 (.int .u8 a) (.int .u8 b) : Sem Value).run Tryd.prog w = .ok (.int .u8 ((a ^^^ b : Nat) : Int)) w := by
  rw [← bit_xor8 a b ha hb]; go_simp
theorem wraps_i64 (n : Int) (h0 : 0 ≤ n) (h1 : n < 2 ^ 62) : IntKind.i64.wrap n = n := by rw [IntKind.wrap_i64]; omega
theorem bit_xori (a b : Nat) (ha : a < 4294967296) (hb : b < 4294967296) : bits .xor .i64 a b = ((a ^^^ b : Nat) : Int) := by
  have ha' : a % 2 ^ 64 = a := Nat.mod_eq_of_lt (by omega)
  have hb' : b % 2 ^ 64 = b := Nat.mod_eq_of_lt (by omega)
  have h : (BitVec.ofNat 64 a ^^^ BitVec.ofNat 64 b).toNat = a ^^^ b := by rw [BitVec.toNat_xor, BitVec.toNat_ofNat, BitVec.toNat_ofNat, ha', hb']
  have h3 : a ^^^ b < 2 ^ 32 := Nat.xor_lt_two_pow (n := 32) ha hb
  show IntKind.i64.wrap ((BitVec.ofInt 64 (a : Int) ^^^ BitVec.ofInt 64 (b : Int)).toNat : Int) = _
  rw [BitVec.ofInt_natCast, BitVec.ofInt_natCast, h]
  exact wraps_i64 _ (Int.natCast_nonneg _) (by omega)
theorem bit_ori (a b : Nat) (ha : a < 4294967296) (hb : b < 4294967296) : bits .or .i64 a b = ((a ||| b : Nat) : Int) := by
  have ha' : a % 2 ^ 64 = a := Nat.mod_eq_of_lt (by omega)
  have hb' : b % 2 ^ 64 = b := Nat.mod_eq_of_lt (by omega)
  have h : (BitVec.ofNat 64 a ||| BitVec.ofNat 64 b).toNat = a ||| b := by rw [BitVec.toNat_or, BitVec.toNat_ofNat, BitVec.toNat_ofNat, ha', hb']
  have h3 : a ||| b < 2 ^ 32 := Nat.or_lt_two_pow (n := 32) ha hb
  show IntKind.i64.wrap ((BitVec.ofInt 64 (a : Int) ||| BitVec.ofInt 64 (b : Int)).toNat : Int) = _
  rw [BitVec.ofInt_natCast, BitVec.ofInt_natCast, h]
  exact wraps_i64 _ (Int.natCast_nonneg _) (by omega)
theorem xori (p q : Operand) (a b : Nat) (w : World) (ha : a < 4294967296) (hb : b < 4294967296) : (do eqGuard .xor 3 p q (.int .i64 a) (.int .i64 b); binOp .xor 3 (.int .i64 a) (.int .i64 b) : Sem Value).run Tryd.prog w = .ok (.int .i64 ((a ^^^ b : Nat) : Int)) w := by
  rw [← bit_xori a b ha hb]; go_simp
theorem ori (p q : Operand) (a b : Nat) (w : World) (ha : a < 4294967296) (hb : b < 4294967296) : (do eqGuard .or 3 p q (.int .i64 a) (.int .i64 b); binOp .or 3 (.int .i64 a) (.int .i64 b) : Sem Value).run Tryd.prog w = .ok (.int .i64 ((a ||| b : Nat) : Int)) w := by
  rw [← bit_ori a b ha hb]; go_simp
theorem cv8i {o : Oper} {ev : Operand → Value} {x : Operand} {n : Nat} (u : World) (h1 : n < 256) (ho : o.op = .convert 5 3 x) (hx : ev x = .int .u8 (n : Int)) : (execOp ev o).run Tryd.prog u = .ok (.value (.int .i64 (n : Int))) u := by
  have e1 : IntKind.i64.wrap (n : Int) = (n : Int) := wraps_i64 _ (by omega) (by omega)
  unfold execOp; rw [ho]; simp only [hx]; go_simp
/-- A slice of slices of bytes. -/
def PQ (lo : Nat) (ps : List (List Nat)) (u : World) (y : Value) : Prop := ∃ b cap, y = .slice (some ⟨b, 0, none⟩) ps.length cap ∧ lo ≤ b ∧ b < u.heap.size ∧ PL u b 0 ps
theorem PL.below {u v : World} {b o : Nat} {ps : List (List Nat)} (h : PL u b o ps) (hb : b < u.heap.size) (hB : Below u.heap.size u v) : PL v b o ps := fun i p hp => by
  obtain ⟨x, h1, h2⟩ := h i p hp
  exact ⟨x, (hB.cell (p := ⟨b, o + i, none⟩) hb).trans h1, (h2.below hB).mono hB.size⟩
theorem PQ.stab {lo : Nat} {ps : List (List Nat)} {u v : World} {x : Value} (hB : Below u.heap.size u v) (h : PQ lo ps u x) : PQ lo ps v x := by
  obtain ⟨b, cap, e, h1, h2, h3⟩ := h
  exact ⟨b, cap, e, h1, Nat.lt_of_lt_of_le h2 hB.size, h3.below h2 hB⟩
theorem PF_in {lo : Nat} {xs : List Nat} {u : World} {y : Value} (h : PF lo xs.length (U8 xs) u y) : IN u u.heap.size y xs := by
  obtain ⟨b, rfl, _, h2, h4⟩ := h
  refine ⟨_, _, b, 0, rfl, Nat.le_refl _, .inr rfl, h2, fun j hj => ?_⟩
  rw [Nat.zero_add]; exact (h4 j _ (U8_get xs j hj)).1
end Go.Proofs.YtlcjbnhfmcnnfaaDoor
