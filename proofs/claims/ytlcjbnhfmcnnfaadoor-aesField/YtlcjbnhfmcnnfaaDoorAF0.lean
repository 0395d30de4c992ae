/- The field of 256 and the substitutes: the numbers of AES. -/
import Derived.Test.YtlcjbnhfmcnnfaaDoorGR
namespace Go.Proofs.YtlcjbnhfmcnnfaaDoor
open Go.RowKit
set_option linter.unusedVariables false
set_option linter.unusedSimpArgs false
/-- Times x, in the field. -/
def xt (x : Nat) : Nat := if 256 ≤ 2 * x then (2 * x) ^^^ 283 else 2 * x
/-- The product's loop. -/
def tmL : Nat → Nat → Nat → Nat → Nat
  | 0, o, _, _ => o
  | n + 1, o, x, y => tmL n (if y % 2 = 1 then o ^^^ x else o) (xt x) (y / 2)
/-- The product in the field. -/
def tm (a b : Nat) : Nat := tmL 8 0 a b
theorem xr8 {a b : Nat} (ha : a < 256) (hb : b < 256) : a ^^^ b < 256 := Nat.xor_lt_two_pow (n := 8) ha hb
theorem xt_lt : ∀ x, x < 256 → xt x < 256 := by decide +kernel
theorem xx4 (a b c d : Nat) : (a ^^^ b) ^^^ (c ^^^ d) = (a ^^^ c) ^^^ (b ^^^ d) := by
  rw [Nat.xor_assoc, Nat.xor_assoc, ← Nat.xor_assoc b, Nat.xor_comm b c, Nat.xor_assoc c]
theorem xt_eq : ∀ x, x < 256 → xt x = (2 * x) ^^^ (283 * (x / 128)) := by decide +kernel
theorem xt_xor (x : Nat) (hx : x < 256) (y : Nat) (hy : y < 256) : xt (x ^^^ y) = xt x ^^^ xt y := by
  have e1 : (x ^^^ y) / 128 = x / 128 ^^^ y / 128 := by
    have := Nat.shiftRight_xor_distrib (a := x) (b := y) (i := 7)
    simpa [Nat.shiftRight_eq_div_pow] using this
  have e2 : 2 * (x ^^^ y) = (2 * x) ^^^ (2 * y) := by
    have := Nat.shiftLeft_xor_distrib (a := x) (b := y) (i := 1)
    simpa [Nat.shiftLeft_eq, Nat.mul_comm] using this
  rw [xt_eq _ (xr8 hx hy), xt_eq x hx, xt_eq y hy, e1, e2, xx4]
  congr 1
  have h1 : x / 128 = 0 ∨ x / 128 = 1 := by omega
  have h2 : y / 128 = 0 ∨ y / 128 = 1 := by omega
  rcases h1 with h1 | h1 <;> rcases h2 with h2 | h2 <;> rw [h1, h2] <;> rfl
theorem tmL_lt : ∀ n {o x y : Nat}, o < 256 → x < 256 → tmL n o x y < 256
  | 0, o, x, y, ho, _ => ho
  | n + 1, o, x, y, ho, hx => by
    rw [tmL]; refine tmL_lt n ?_ (xt_lt x hx)
    split
    · exact xr8 ho hx
    · exact ho
theorem tm_lt {a b : Nat} (ha : a < 256) : tm a b < 256 := tmL_lt 8 (by decide) ha
theorem tmL_zero : ∀ n (o x : Nat), tmL n o x 0 = o
  | 0, _, _ => rfl
  | n + 1, o, x => by rw [tmL]; simpa using tmL_zero n o (xt x)
theorem tmL_left : ∀ n {o o' x x' y : Nat}, x < 256 → x' < 256 → tmL n (o ^^^ o') (x ^^^ x') y = tmL n o x y ^^^ tmL n o' x' y
  | 0, _, _, _, _, _, _, _ => rfl
  | n + 1, o, o', x, x', y, hx, hx' => by
    rw [tmL, tmL, tmL, xt_xor x hx x' hx']
    by_cases h : y % 2 = 1
    · rw [if_pos h, if_pos h, if_pos h, xx4]; exact tmL_left n (xt_lt x hx) (xt_lt x' hx')
    · rw [if_neg h, if_neg h, if_neg h]; exact tmL_left n (xt_lt x hx) (xt_lt x' hx')
theorem tm_left {a a' b : Nat} (h : a < 256) (h' : a' < 256) : tm (a ^^^ a') b = tm a b ^^^ tm a' b :=
  tmL_left (o := 0) (o' := 0) 8 h h'
theorem xor_d2 (y z : Nat) : (y ^^^ z) / 2 = y / 2 ^^^ z / 2 := by
  have := Nat.shiftRight_xor_distrib (a := y) (b := z) (i := 1)
  simpa [Nat.shiftRight_eq_div_pow] using this
theorem xor_m2 (y z : Nat) : (y ^^^ z) % 2 = (y % 2 + z % 2) % 2 := by
  have h := Nat.xor_mod_two_pow (a := y) (b := z) (n := 1)
  simp only [Nat.pow_one] at h
  rw [h]
  rcases Nat.mod_two_eq_zero_or_one y with e | e <;> rcases Nat.mod_two_eq_zero_or_one z with f | f <;> rw [e, f] <;> rfl
theorem tmL_right : ∀ n {o o' x y z : Nat}, tmL n (o ^^^ o') x (y ^^^ z) = tmL n o x y ^^^ tmL n o' x z
  | 0, _, _, _, _, _ => rfl
  | n + 1, o, o', x, y, z => by
    rw [tmL, tmL, tmL, xor_d2, ← tmL_right n, xor_m2]
    congr 1
    rcases Nat.mod_two_eq_zero_or_one y with e | e <;> rcases Nat.mod_two_eq_zero_or_one z with f | f <;> rw [e, f] <;> simp
    · rw [Nat.xor_assoc]
    · rw [Nat.xor_assoc, Nat.xor_assoc, Nat.xor_comm o' x]
    · rw [xx4, Nat.xor_self, Nat.xor_zero]
theorem tm_right {a b c : Nat} : tm a (b ^^^ c) = tm a b ^^^ tm a c := tmL_right (o := 0) (o' := 0) 8
theorem top8 : ∀ k, k < 8 → ∀ a, a < 2 ^ (k + 1) → 2 ^ k ≤ a → a ^^^ 2 ^ k < 2 ^ k := by decide +kernel
/-- What agrees on the powers of two, and goes over sums, agrees. -/
theorem lin8 {f g : Nat → Nat} (hf : ∀ a b, a < 256 → b < 256 → f (a ^^^ b) = f a ^^^ f b) (hg : ∀ a b, a < 256 → b < 256 → g (a ^^^ b) = g a ^^^ g b)
    (h : ∀ i, i < 8 → f (2 ^ i) = g (2 ^ i)) {a : Nat} (ha : a < 256) : f a = g a := by
  have f0 : f 0 = 0 := by have := hf 0 0 (by decide) (by decide); rw [Nat.xor_self, Nat.xor_self] at this; exact this
  have g0 : g 0 = 0 := by have := hg 0 0 (by decide) (by decide); rw [Nat.xor_self, Nat.xor_self] at this; exact this
  have key : ∀ k, k ≤ 8 → ∀ a, a < 2 ^ k → f a = g a := by
    intro k
    induction k with
    | zero => intro _ a ha; have : a = 0 := by simpa using ha
              rw [this, f0, g0]
    | succ k ih =>
      intro hk a ha
      by_cases hl : a < 2 ^ k
      · exact ih (by omega) a hl
      · have h1 := top8 k (by omega) a ha (by omega)
        have h2 : (2 : Nat) ^ k < 256 := Nat.lt_of_lt_of_le (Nat.pow_lt_pow_right (by decide) (show k < 8 by omega)) (by decide)
        have e : a = (a ^^^ 2 ^ k) ^^^ 2 ^ k := by rw [Nat.xor_assoc, Nat.xor_self, Nat.xor_zero]
        rw [e, hf _ _ (by omega) h2, hg _ _ (by omega) h2, ih (by omega) _ h1, h k (by omega)]
  exact key 8 (Nat.le_refl _) a ha
theorem p8 {i : Nat} (h : i < 8) : (2 : Nat) ^ i < 256 := Nat.lt_of_lt_of_le (Nat.pow_lt_pow_right (by decide) h) (by decide)
theorem comm_pp : ∀ i, i < 8 → ∀ j, j < 8 → tm (2 ^ i) (2 ^ j) = tm (2 ^ j) (2 ^ i) := by decide +kernel
theorem tm_comm {a b : Nat} (ha : a < 256) (hb : b < 256) : tm a b = tm b a :=
  lin8 (f := fun a => tm a b) (g := fun a => tm b a) (fun _ _ h h' => tm_left h h') (fun _ _ _ _ => tm_right)
    (fun i hi => lin8 (f := fun b => tm (2 ^ i) b) (g := fun b => tm b (2 ^ i)) (fun _ _ _ _ => tm_right) (fun _ _ h h' => tm_left h h') (fun j hj => comm_pp i hi j hj) hb) ha
theorem assoc_ppp : ∀ i, i < 8 → ∀ j, j < 8 → ∀ k, k < 8 → tm (tm (2 ^ i) (2 ^ j)) (2 ^ k) = tm (2 ^ i) (tm (2 ^ j) (2 ^ k)) := by decide +kernel
theorem tm_assoc {a b c : Nat} (ha : a < 256) (hb : b < 256) (hc : c < 256) : tm (tm a b) c = tm a (tm b c) := by
  refine lin8 (f := fun a => tm (tm a b) c) (g := fun a => tm a (tm b c)) ?_ (fun _ _ h h' => tm_left h h') ?_ ha
  · intro x y hx hy; show tm (tm (x ^^^ y) b) c = _; rw [tm_left hx hy, tm_left (tm_lt hx) (tm_lt hy)]
  intro i hi
  refine lin8 (f := fun b => tm (tm (2 ^ i) b) c) (g := fun b => tm (2 ^ i) (tm b c)) ?_ ?_ ?_ hb
  · intro x y hx hy; show tm (tm (2 ^ i) (x ^^^ y)) c = _; rw [tm_right, tm_left (tm_lt (p8 hi)) (tm_lt (p8 hi))]
  · intro x y hx hy; show tm (2 ^ i) (tm (x ^^^ y) c) = _; rw [tm_left hx hy, tm_right]
  intro j hj
  refine lin8 (f := fun c => tm (tm (2 ^ i) (2 ^ j)) c) (g := fun c => tm (2 ^ i) (tm (2 ^ j) c)) (fun _ _ _ _ => tm_right) ?_ (fun k hk => assoc_ppp i hi j hj k hk) hc
  intro x y hx hy; show tm (2 ^ i) (tm (2 ^ j) (x ^^^ y)) = _; rw [tm_right, tm_right]
theorem tm_one : ∀ a, a < 256 → tm a 1 = a := by decide +kernel
theorem tm_zero (a : Nat) : tm a 0 = 0 := tmL_zero 8 0 a
theorem zero_tm {b : Nat} (h : b < 256) : tm 0 b = 0 := by rw [tm_comm (by decide) h]; exact tm_zero b
def ivT : List Nat := [0, 1, 141, 246, 203, 82, 123, 209, 232, 79, 41, 192, 176, 225, 229, 199, 116, 180, 170, 75, 153, 43, 96, 95, 88, 63, 253, 204, 255, 64, 238, 178, 58, 110, 90, 241, 85, 77, 168, 201, 193, 10, 152, 21, 48, 68, 162, 194, 44, 69, 146, 108, 243, 57, 102, 66, 242, 53, 32, 111, 119, 187, 89, 25, 29, 254, 55, 103, 45, 49, 245, 105, 167, 100, 171, 19, 84, 37, 233, 9, 237, 92, 5, 202, 76, 36, 135, 191, 24, 62, 34, 240, 81, 236, 97, 23, 22, 94, 175, 211, 73, 166, 54, 67, 244, 71, 145, 223, 51, 147, 33, 59, 121, 183, 151, 133, 16, 181, 186, 60, 182, 112, 208, 6, 161, 250, 129, 130, 131, 126, 127, 128, 150, 115, 190, 86, 155, 158, 149, 217, 247, 2, 185, 164, 222, 106, 50, 109, 216, 138, 132, 114, 42, 20, 159, 136, 249, 220, 137, 154, 251, 124, 46, 195, 143, 184, 101, 72, 38, 200, 18, 74, 206, 231, 210, 98, 12, 224, 31, 239, 17, 117, 120, 113, 165, 142, 118, 61, 189, 188, 134, 87, 11, 40, 47, 163, 218, 212, 228, 15, 169, 39, 83, 4, 27, 252, 172, 230, 122, 7, 174, 99, 197, 219, 226, 234, 148, 139, 196, 213, 157, 248, 144, 107, 177, 13, 214, 235, 198, 14, 207, 173, 8, 78, 215, 227, 93, 80, 30, 179, 91, 35, 56, 52, 104, 70, 3, 140, 221, 156, 125, 160, 205, 26, 65, 28]
def sbT : List Nat := [99, 124, 119, 123, 242, 107, 111, 197, 48, 1, 103, 43, 254, 215, 171, 118, 202, 130, 201, 125, 250, 89, 71, 240, 173, 212, 162, 175, 156, 164, 114, 192, 183, 253, 147, 38, 54, 63, 247, 204, 52, 165, 229, 241, 113, 216, 49, 21, 4, 199, 35, 195, 24, 150, 5, 154, 7, 18, 128, 226, 235, 39, 178, 117, 9, 131, 44, 26, 27, 110, 90, 160, 82, 59, 214, 179, 41, 227, 47, 132, 83, 209, 0, 237, 32, 252, 177, 91, 106, 203, 190, 57, 74, 76, 88, 207, 208, 239, 170, 251, 67, 77, 51, 133, 69, 249, 2, 127, 80, 60, 159, 168, 81, 163, 64, 143, 146, 157, 56, 245, 188, 182, 218, 33, 16, 255, 243, 210, 205, 12, 19, 236, 95, 151, 68, 23, 196, 167, 126, 61, 100, 93, 25, 115, 96, 129, 79, 220, 34, 42, 144, 136, 70, 238, 184, 20, 222, 94, 11, 219, 224, 50, 58, 10, 73, 6, 36, 92, 194, 211, 172, 98, 145, 149, 228, 121, 231, 200, 55, 109, 141, 213, 78, 169, 108, 86, 244, 234, 101, 122, 174, 8, 186, 120, 37, 46, 28, 166, 180, 198, 232, 221, 116, 31, 75, 189, 139, 138, 112, 62, 181, 102, 72, 3, 246, 14, 97, 53, 87, 185, 134, 193, 29, 158, 225, 248, 152, 17, 105, 217, 142, 148, 155, 30, 135, 233, 206, 85, 40, 223, 140, 161, 137, 13, 191, 230, 66, 104, 65, 153, 45, 15, 176, 84, 187, 22]
theorem ivT_lt : ∀ a, a < 256 → ivT.getD a 0 < 256 := by decide +kernel
theorem ivT_is : ∀ a, a < 256 → a ≠ 0 → tm a (ivT.getD a 0) = 1 := by decide +kernel
/-- The search for an inverse. -/
def srch (a : Nat) : Nat → Nat
  | 0 => 0
  | n + 1 => if tm a (n + 1) = 1 then n + 1 else srch a n
theorem iv_uniq {a y : Nat} (ha : a < 256) (hy : y < 256) (h : tm a y = 1) : y = ivT.getD a 0 := by
  have h0 : a ≠ 0 := by rintro rfl; rw [zero_tm hy] at h; cases h
  have e := tm_assoc (ivT_lt a ha) ha hy
  rw [h, tm_comm (ivT_lt a ha) ha, ivT_is a ha h0, tm_comm (by decide) hy, tm_one y hy, tm_one _ (ivT_lt a ha)] at e
  exact e
theorem srch_is {a : Nat} (ha : a < 256) : ∀ n, n < 256 → srch a n = if ivT.getD a 0 ≤ n then ivT.getD a 0 else 0
  | 0, _ => by rw [srch]; split <;> omega
  | n + 1, hn => by
    rw [srch, srch_is ha n (by omega)]
    by_cases h : tm a (n + 1) = 1
    · rw [if_pos h, ← iv_uniq ha hn h, if_pos (Nat.le_refl _)]
    · rw [if_neg h]
      by_cases h1 : ivT.getD a 0 ≤ n
      · rw [if_pos h1, if_pos (by omega)]
      · rw [if_neg h1]
        by_cases h2 : ivT.getD a 0 ≤ n + 1
        · exfalso
          have e : ivT.getD a 0 = n + 1 := by omega
          have h0 : a ≠ 0 := by rintro rfl; exact absurd e (by rw [show ivT.getD 0 0 = 0 from rfl]; omega)
          exact h (e ▸ ivT_is a ha h0)
        · rw [if_neg h2]
theorem srch_all {a : Nat} (ha : a < 256) : srch a 255 = ivT.getD a 0 := by
  rw [srch_is ha 255 (by decide), if_pos (by have := ivT_lt a ha; omega)]
/-- Turned left by one bit. -/
def rotb (y : Nat) : Nat := (2 * y + y / 128) % 256
/-- The rest of the substitute. -/
def aff (y : Nat) : Nat := y ^^^ rotb y ^^^ rotb (rotb y) ^^^ rotb (rotb (rotb y)) ^^^ rotb (rotb (rotb (rotb y))) ^^^ 99
theorem sb_is : ∀ a, a < 256 → aff (ivT.getD a 0) = sbT.getD a 0 := by decide +kernel
theorem sb_lt : ∀ a, a < 256 → sbT.getD a 0 < 256 := by decide +kernel
/-- Powers of three. -/
def pw3 : Nat → Nat
  | 0 => 1
  | i + 1 => tm (pw3 i) 3
/-- The table's loop. -/
def tbL : Nat → List Nat
  | 0 => (List.replicate 256 0).set 0 99
  | i + 1 => (tbL i).set (pw3 i) (aff (pw3 ((255 - i) % 255)))
def p3T : List Nat := [1, 3, 5, 15, 17, 51, 85, 255, 26, 46, 114, 150, 161, 248, 19, 53, 95, 225, 56, 72, 216, 115, 149, 164, 247, 2, 6, 10, 30, 34, 102, 170, 229, 52, 92, 228, 55, 89, 235, 38, 106, 190, 217, 112, 144, 171, 230, 49, 83, 245, 4, 12, 20, 60, 68, 204, 79, 209, 104, 184, 211, 110, 178, 205, 76, 212, 103, 169, 224, 59, 77, 215, 98, 166, 241, 8, 24, 40, 120, 136, 131, 158, 185, 208, 107, 189, 220, 127, 129, 152, 179, 206, 73, 219, 118, 154, 181, 196, 87, 249, 16, 48, 80, 240, 11, 29, 39, 105, 187, 214, 97, 163, 254, 25, 43, 125, 135, 146, 173, 236, 47, 113, 147, 174, 233, 32, 96, 160, 251, 22, 58, 78, 210, 109, 183, 194, 93, 231, 50, 86, 250, 21, 63, 65, 195, 94, 226, 61, 71, 201, 64, 192, 91, 237, 44, 116, 156, 191, 218, 117, 159, 186, 213, 100, 172, 239, 42, 126, 130, 157, 188, 223, 122, 142, 137, 128, 155, 182, 193, 88, 232, 35, 101, 175, 234, 37, 111, 177, 200, 67, 197, 84, 252, 31, 33, 99, 165, 244, 7, 9, 27, 45, 119, 153, 176, 203, 70, 202, 69, 207, 74, 222, 121, 139, 134, 145, 168, 227, 62, 66, 198, 81, 243, 14, 18, 54, 90, 238, 41, 123, 141, 140, 143, 138, 133, 148, 167, 242, 13, 23, 57, 75, 221, 124, 132, 151, 162, 253, 28, 36, 108, 180, 199, 82, 246, 1]
theorem p3_s : ∀ i, i < 255 → tm (p3T.getD i 0) 3 = p3T.getD (i + 1) 0 := by decide +kernel
theorem pw3_is : ∀ i, i < 256 → pw3 i = p3T.getD i 0
  | 0, _ => rfl
  | i + 1, h => by rw [pw3, pw3_is i (by omega)]; exact p3_s i (by omega)
def tbM : Nat → List Nat
  | 0 => (List.replicate 256 0).set 0 99
  | i + 1 => (tbM i).set (p3T.getD i 0) (aff (p3T.getD ((255 - i) % 255) 0))
theorem tbL_is : ∀ i, i < 256 → tbL i = tbM i
  | 0, _ => rfl
  | i + 1, h => by rw [tbL, tbM, tbL_is i (by omega), pw3_is i (by omega), pw3_is _ (by omega)]
theorem tbM_all : tbM 255 = sbT := by decide +kernel
theorem tbL_all : tbL 255 = sbT := (tbL_is 255 (by decide)).trans tbM_all
end Go.Proofs.YtlcjbnhfmcnnfaaDoor
