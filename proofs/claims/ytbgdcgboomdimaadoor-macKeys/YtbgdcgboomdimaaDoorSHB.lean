/- SHA-256: what is hashed: bytes and what is put behind them. -/

import Derived.Test.YtbgdcgboomdimaaDoorSH9
namespace Go.Proofs.YtbgdcgboomdimaaDoor
open Go.RowKit
set_option linter.unusedVariables false
set_option linter.unusedSimpArgs false
theorem CV.src {w : World} {b : Nat} {xs : List Value} (h : CV w b xs) : ∀ j v, xs[j]? = some v → w.cell? ((⟨b, 0, none⟩ : Addr).add j) = some v := fun j v hj => by
  rw [Addr.add_lit, Nat.zero_add]; exact (h j v hj).1
section
variable {R : Rg} {P : Program} {ops : Array Oper} {Q : Exit → Act → World → Prop} {f : Nat → Bool} {t : Nat → Value} {u : World} {a : Act} {i : Nat} {o : Oper}
/-- A copy that writes nothing. -/
theorem g_cp0 {T T2 : TypeId} {x y : Operand} {vx vy v : Value} (hr : ∀ u, (Builtin.copy_ #[T, T2] o.type #[vx, vy]).run P u = .ok v u) (hop : o.op = .call { callee := .builtin .copy, args := [x, y].toArray, argTypes := [T, T2].toArray } := by rfl) (hx : evR R i o x = some vx := by rfl) (hy : evR R i o y = some vy := by rfl) (hv : some v = pickV i R.G := by rfl) (hc : R.chk ops i o = true := by rfl) : OG R P ops Q i o :=
  g_pure hv hc fun f t u a X K hK => wp_cp hop (X.ev hx) (X.ev hy) (hr u) hK
end
theorem cpN (b N : Nat) (ty : TypeId) (u : World) : (Builtin.copy_ #[22, 22] ty #[.slice (some ⟨b, 0, none⟩) N N, .slice none 0 0]).run Tryd.prog u = .ok (.int .i64 0) u := by
  obtain ⟨ti, hti, _⟩ := Option.map_eq_some_iff.1 infoB
  simp [hti, Builtin.copy_, go_sem, run_underlying Tryd.underlying22, sizeOf, typeInfo, Builtin.lenOf, Builtin.firstCells, loadCells, loadCellsFrom, storeCells]
end Go.Proofs.YtbgdcgboomdimaaDoor
