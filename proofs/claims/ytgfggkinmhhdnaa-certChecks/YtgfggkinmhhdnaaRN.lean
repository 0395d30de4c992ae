/- The lesser of two, a store in a block's midst, and copies of slices of any kind. -/
import Derived.Test.YtgfggkinmhhdnaaRG
namespace Go.Proofs.Ytgfggkinmhhdnaa
open Go.RowKit
set_option linter.unusedVariables false
set_option linter.unusedSimpArgs false
section
variable {R : Rg} {P : Program} {ops : Array Oper} {Q : Exit → Act → World → Prop} {f : Nat → Bool} {t : Nat → Value} {u : World} {a : Act} {i : Nat} {o : Oper}
/-- The lesser of two. -/
theorem g_mn {x y : Operand} {tys : Array TypeId} {m n r : Int} (hr : min m n = r) (hop : o.op = .call { callee := .builtin .min, args := [x, y].toArray, argTypes := tys } := by rfl) (hx : evR R i o x = some (.int .i64 m) := by rfl) (hy : evR R i o y = some (.int .i64 n) := by rfl) (hv : some (.int .i64 r) = pickV i R.G := by rfl) (hc : R.chk ops i o = true := by rfl) : OG R P ops Q i o :=
  g_pure hv hc fun f t u a X K hK => by
    have h1 := X.ev hx
    have h2 := X.ev hy
    refine wp_val (v := .int .i64 r) (w' := u) ?_ hK
    unfold execOp
    simp only [hop, resolve, invoke, builtin, Sem.run_bind, Sem.run_pure, Result.andThen_ok, List.map_toArray, List.map_cons, List.map_nil, h1, h2]
    subst hr
    simp [go_sem]
end
/-- An empty slice of one's own. -/
def PZ (base : Nat) (u : World) (v : Value) : Prop := ∃ b, v = .slice (some ⟨b, 0, none⟩) 0 0 ∧ base ≤ b ∧ b < u.heap.size
theorem PZ.stab {base : Nat} {u v : World} {x : Value} (hB : Below u.heap.size u v) (h : PZ base u x) : PZ base v x := by
  obtain ⟨b, e, h1, h2⟩ := h
  exact ⟨b, e, h1, Nat.lt_of_lt_of_le h2 hB.size⟩
theorem PZ.new {base : Nat} {u : World} {e : TypeId} (h : base ≤ u.heap.size) : PZ base (u.alloc (.cells #[] e)) (.slice (some ⟨u.heap.size, 0, none⟩) 0 0) := ⟨_, rfl, h, by simp⟩
theorem app_emptyG {P : Program} {T e : TypeId} {ti : TypeInfo} {z : Value} (ht : P.underlying T = some (.slice e)) (hi : P.info? e = some ti) (hz : ti.zero = some z) (hzs : z.cells.size = ti.size) (base : Nat) (u : World) (ty : TypeId) (vs : Value) (sl : Option Addr) (g o c n : Nat) (xs : List Value) (hxl : xs.length = n * ti.size) (hu : base ≤ u.heap.size) (hb : n * ti.bytes ≤ 140737488355328) (h63 : n ≤ 9223372036854775807) (hsl : n = 0 ∨ sl = some ⟨g, o, none⟩) (hS : ∀ j v, xs[j]? = some v → u.cell? ⟨g, o + j, none⟩ = some v) (h : PZ base u vs) :
    ∃ v u', (Builtin.append_ #[T, T] ty #[vs, .slice sl n c]).run P u = .ok v u' ∧ Below u.heap.size u u' ∧ PS base n xs u' v := by
  obtain ⟨b, rfl, h1, h2⟩ := h
  by_cases hn : n = 0
  · subst hn
    have hxs : xs = [] := List.eq_nil_of_length_eq_zero (by omega)
    subst hxs
    refine ⟨.slice (some ⟨b, 0, none⟩) 0 0, u, ?_, Below.refl _ _, b, 0, rfl, h1, h2, Nat.le_refl _, fun j v hj => by simp at hj⟩
    cases sl <;> simp [Builtin.append_, run_underlying ht, sizeOf, typeInfo, hi, Builtin.lenOf, Builtin.firstCells, loadCells, loadCellsFrom, storeCells]
  · have hs := hsl.resolve_left hn
    subst hs
    have hadd : ∀ j : Nat, (⟨g, o, none⟩ : Addr).add j = ⟨g, o + j, none⟩ := fun j => by unfold Addr.add; split <;> simp_all
    have hr := run_append_grow (P := P) u T ty e ti z ht hi hz ⟨b, 0, none⟩ 0 0 [] (by simp) (by simp) ⟨g, o, none⟩ n c xs hxl (fun j v hj => by rw [hadd]; exact hS j v hj) (by omega) (by omega) (growslice_fits (by omega) (by rw [Nat.zero_add]; exact hb))
    refine ⟨_, _, hr, balloc (bself u).drew _, u.heap.size, grownCap u (0 + n) 0 e, by simp only [Nat.zero_add], hu, by simp, ?_, ?_⟩
    · have := grownCap_ge u (0 + n) 0 e
      omega
    · have e1 : (([] : List Value).toArray ++ xs.toArray ++ Builtin.zeroCells z.cells (grownCap u (0 + n) 0 e - (0 + n))) = (xs ++ (Builtin.zeroCells z.cells (grownCap u (0 + n) 0 e - (0 + n))).toList).toArray := by apply Array.ext'; simp
      rw [e1]
      exact (CV.new u.drew _ e).pre2
end Go.Proofs.Ytgfggkinmhhdnaa
