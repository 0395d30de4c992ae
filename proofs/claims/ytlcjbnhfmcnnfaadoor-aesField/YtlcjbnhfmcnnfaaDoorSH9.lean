/- SHA-256: the digest, and its beginning. -/

import Derived.Test.YtlcjbnhfmcnnfaaDoorSO
namespace Go.Proofs.YtlcjbnhfmcnnfaaDoor
open Go.RowKit
set_option linter.unusedVariables false
set_option linter.unusedSimpArgs false
abbrev M64 : Nat := 18446744073709551616
theorem wraps_u64 (n : Int) (h0 : 0 ≤ n) (h1 : n < 2 ^ 64) : IntKind.u64.wrap n = n := by simp [IntKind.wrap, IntKind.signed, IntKind.bits]; omega
theorem bit_or64 (a b : Nat) (ha : a < M64) (hb : b < M64) : bits .or .u64 a b = ((a ||| b : Nat) : Int) := (bits_nat .u64 64 (by decide) wraps_u64 a b ha hb).2
section
variable {R : Rg} {P : Program} {ops : Array Oper} {Q : Exit → Act → World → Prop} {f : Nat → Bool} {t : Nat → Value} {u : World} {a : Act} {i : Nat} {o : Oper}
/-- The greater of two. -/
theorem g_mx {x y : Operand} {tys : Array TypeId} {m n r : Int} (hr : max m n = r) (hop : o.op = .call { callee := .builtin .max, args := [x, y].toArray, argTypes := tys } := by rfl) (hx : evR R i o x = some (.int .i64 m) := by rfl) (hy : evR R i o y = some (.int .i64 n) := by rfl) (hv : some (.int .i64 r) = pickV i R.G := by rfl) (hc : R.chk ops i o = true := by rfl) : OG R P ops Q i o :=
  g_pure hv hc fun f t u a X K hK => by
    have h1 := X.ev hx
    have h2 := X.ev hy
    refine wp_val (v := .int .i64 r) (w' := u) ?_ hK
    unfold execOp
    simp only [hop, resolve, invoke, builtin, Sem.run_bind, Sem.run_pure, Result.andThen_ok, List.map_toArray, List.map_cons, List.map_nil, h1, h2]
    subst hr
    simp [go_sem]
    all_goals (rw [Int.max_def]; split <;> split <;> omega)
end
/-- The first bytes as a number. -/
def pre8 (ds : List Nat) : Nat → Nat
  | 0 => 0
  | i + 1 => (pre8 ds i <<< 8) % 18446744073709551616 ||| ds.getD i 0
theorem pre8_lt {ds : List Nat} (h : ∀ j, ds.getD j 0 < 256) : ∀ i, pre8 ds i < M64
  | 0 => by show 0 < M64; decide
  | i + 1 => Nat.or_lt_two_pow (n := 64) (Nat.mod_lt _ (by decide)) (by have := h i; omega)
/-- The beginning of a digest. -/
def pfx (xs : List Nat) (k : Int) : Nat := pre8 (dig xs) 8 >>> (64 - (min (max k 0) 64).toNat)
end Go.Proofs.YtlcjbnhfmcnnfaaDoor
