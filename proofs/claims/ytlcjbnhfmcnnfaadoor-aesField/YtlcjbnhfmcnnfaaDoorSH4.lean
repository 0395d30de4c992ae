/- SHA-256: a state's bytes. -/

import Derived.Test.YtlcjbnhfmcnnfaaDoorSH3
namespace Go.Proofs.YtlcjbnhfmcnnfaaDoor
open Go.RowKit
set_option linter.unusedVariables false
set_option linter.unusedSimpArgs false
theorem rem_n (p q : Operand) (x y : Nat) (w : World) (h1 : x < 1000000) (h2 : 0 < y) : (do eqGuard .rem 3 p q (.int .i64 x) (.int .i64 y); binOp .rem 3 (.int .i64 x) (.int .i64 y) : Sem Value).run Tryd.prog w = .ok (.int .i64 ((x % y : Nat) : Int)) w := by
  have e0 : ((x : Int)).tmod y = ((x % y : Nat) : Int) := by rw [Int.tmod_eq_emod_of_nonneg (Int.natCast_nonneg _)]; simp
  have hle : x % y ≤ x := Nat.mod_le _ _
  obtain ⟨z, hz⟩ : ∃ z, x % y = z := ⟨_, rfl⟩
  rw [hz] at e0 hle ⊢
  have e : IntKind.i64.wrap (z : Int) = (z : Int) := by rw [IntKind.wrap_i64]; omega
  have hy : (y : Int) ≠ 0 := by omega
  have hy2 : ¬ y = 0 := by omega
  go_simp
theorem mul_i (p q : Operand) (x y z : Int) (w : World) (h : x * y = z) (h0 : -9223372036854775808 ≤ z) (h1 : z < 9223372036854775808) : (do eqGuard .mul 3 p q (.int .i64 x) (.int .i64 y); binOp .mul 3 (.int .i64 x) (.int .i64 y) : Sem Value).run Tryd.prog w = .ok (.int .i64 z) w := by
  have e : IntKind.i64.wrap z = z := by rw [IntKind.wrap_i64]; omega
  subst h; go_simp
theorem shr32i (p q : Operand) (a n : Nat) (w : World) (hn : n ≤ 32) : (do eqGuard .shr 64 p q (.int .u32 a) (.int .i64 n); binOp .shr 64 (.int .u32 a) (.int .i64 n) : Sem Value).run Tryd.prog w = .ok (.int .u32 ((a >>> n : Nat) : Int)) w := by
  have e : ((a : Int) / 2 ^ n) = (a : Int) >>> n := by rw [Int.shiftRight_eq_div_pow]; simp
  have e2 : min n 32 = n := by omega
  go_simp
  first | done | exact e
theorem cv328 {o : Oper} {ev : Operand → Value} {x : Operand} {n : Nat} (u : World) (ho : o.op = .convert 64 5 x) (hx : ev x = .int .u32 (n : Int)) : (execOp ev o).run Tryd.prog u = .ok (.value (.int .u8 ((n % 256 : Nat) : Int))) u := by
  have e1 : IntKind.u8.wrap (n : Int) = ((n % 256 : Nat) : Int) := by simp [IntKind.wrap, IntKind.signed, IntKind.bits]
  unfold execOp; rw [ho]; simp only [hx]; go_simp
/-- The bytes of a state, the first so many. -/
def tld (ss : List Nat) : Nat → List Nat
  | 0 => z32
  | i + 1 => (tld ss i).set i ((ss.getD (i / 4) 0 >>> (8 * (3 - i % 4))) % 256)
def told (ss : List Nat) : List Nat := tld ss 32
structure BB (n : Nat) (l : List Nat) : Prop where
  len : l.length = n
  lt : ∀ j, l.getD j 0 < 256
theorem BB.set {n : Nat} {l : List Nat} (h : BB n l) (i x : Nat) (hx : x < 256) : BB n (l.set i x) where
  len := by rw [List.length_set]; exact h.len
  lt := fun j => by
    rw [getD_set]; split
    · exact hx
    · exact h.lt j
theorem BB_z32 : BB 32 z32 := ⟨rfl, fun j => by
  unfold z32; simp only [List.getD_eq_getElem?_getD, List.getElem?_replicate]; split <;> decide⟩
theorem tld_B (ss : List Nat) : ∀ i, BB 32 (tld ss i)
  | 0 => BB_z32
  | i + 1 => (tld_B ss i).set _ _ (Nat.mod_lt _ (by decide))
end Go.Proofs.YtlcjbnhfmcnnfaaDoor
