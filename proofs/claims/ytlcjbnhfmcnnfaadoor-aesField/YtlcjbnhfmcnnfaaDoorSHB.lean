/- SHA-256: what is hashed: bytes and what is put behind them. -/

import Derived.Test.YtlcjbnhfmcnnfaaDoorSH9
namespace Go.Proofs.YtlcjbnhfmcnnfaaDoor
open Go.RowKit
set_option linter.unusedVariables false
set_option linter.unusedSimpArgs false
theorem CV.src {w : World} {b : Nat} {xs : List Value} (h : CV w b xs) : ∀ j v, xs[j]? = some v → w.cell? ((⟨b, 0, none⟩ : Addr).add j) = some v := fun j v hj => by
  rw [Addr.add_lit, Nat.zero_add]; exact (h j v hj).1
theorem slN (b N n m : Nat) (h : n + m = N) (hm : 0 < m) (w : World) : (Instr.sliceAt 24 (.slice (some ⟨b, 0, none⟩) N N) (some (.int .i64 n)) none none).run Tryd.prog w = .ok (.slice (some ⟨b, n, none⟩) m m) w := by
  subst h
  have h1 : (n : Int) ≤ (n + m : Nat) := by omega
  have h3 : n ≤ n + m := by omega
  have h5 : ¬ n + m = n := by omega
  have h6 : ¬ n + m - n = 0 := by omega
  have h7 : n + m - n = m := by omega
  have h8 : (n : Int) ≤ (n : Int) + (m : Int) := by omega
  have h9 : ¬ m = 0 := by omega
  simp [h8, h9, Instr.sliceAt, Instr.slice, go_sem, Tryd.underlying24, h1, h3, h5, h6, h7]
  try (intro h; omega)
section
variable {R : Rg} {P : Program} {ops : Array Oper} {Q : Exit → Act → World → Prop} {f : Nat → Bool} {t : Nat → Value} {u : World} {a : Act} {i : Nat} {o : Oper}
/-- A copy that writes nothing. -/
theorem g_cp0 {T T2 : TypeId} {x y : Operand} {vx vy v : Value} (hr : ∀ u, (Builtin.copy_ #[T, T2] o.type #[vx, vy]).run P u = .ok v u) (hop : o.op = .call { callee := .builtin .copy, args := [x, y].toArray, argTypes := [T, T2].toArray } := by rfl) (hx : evR R i o x = some vx := by rfl) (hy : evR R i o y = some vy := by rfl) (hv : some v = pickV i R.G := by rfl) (hc : R.chk ops i o = true := by rfl) : OG R P ops Q i o :=
  g_pure hv hc fun f t u a X K hK => wp_cp hop (X.ev hx) (X.ev hy) (hr u) hK
end
theorem cpN (b N : Nat) (ty : TypeId) (u : World) : (Builtin.copy_ #[24, 24] ty #[.slice (some ⟨b, 0, none⟩) N N, .slice none 0 0]).run Tryd.prog u = .ok (.int .i64 0) u := by
  obtain ⟨ti, hti, _⟩ := Option.map_eq_some_iff.1 infoB
  simp [hti, Builtin.copy_, go_sem, run_underlying Tryd.underlying24, sizeOf, typeInfo, Builtin.lenOf, Builtin.firstCells, loadCells, loadCellsFrom, storeCells]
/-- Bytes and what is put behind them. -/
def pad (xs : List Nat) : List Nat := xs ++ ending xs.length
end Go.Proofs.YtlcjbnhfmcnnfaaDoor
