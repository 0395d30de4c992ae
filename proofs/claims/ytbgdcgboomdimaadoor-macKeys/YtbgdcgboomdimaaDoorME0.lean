/- What is expanded: the numbers, and more rules. -/
import Derived.Test.YtbgdcgboomdimaaDoorMC5
namespace Go.Proofs.YtbgdcgboomdimaaDoor
open Go.RowKit
set_option linter.unusedVariables false
set_option linter.unusedSimpArgs false
section
variable {R : Rg} {P : Program} {ops : Array Oper} {Q : Exit → Act → World → Prop} {f : Nat → Bool} {t : Nat → Value} {u : World} {a : Act} {i : Nat} {o : Oper}
/-- An operation that makes a value and leaves all there was as it was. -/
theorem g_vE (n : Nat) (p : World → Value → Prop) (h : ∀ (ev : Operand → Value) (u : World), (∀ x y, evR R i o x = some y → ev x = y) → Below R.lo R.w u → R.base ≤ u.heap.size → ∃ v u', (execOp ev o).run P u = .ok (.value v) u' ∧ Below u.heap.size u u' ∧ p u' v) (hn : (R.E[n]?).map (·.p) = some p := by rfl) (hc : R.chkE ops n i o = true := by rfl) : OG R P ops Q i o := fun f t u a X => by
  obtain ⟨d, q, hd, hq, _, _, _, _, _, _, _, _, hw⟩ := chkE_parts hc
  obtain ⟨v, u', hr, hB, hp⟩ := h a.eval u (fun x y hxy => X.ev hxy) X.I.1.bel X.I.1.sz
  exact X.go hw fun K hK => wp_val hr (hK _ _ (X.putE hc (fun q hq => by rw [hq] at hn; cases hn; exact hp) hB))
end
theorem IN.sl {u : World} {m : Nat} {v : Value} {xs : List Nat} (h : IN u m v xs) : ∃ sl n cap, v = .slice sl n cap := by
  obtain ⟨sl, cap, gb, go, rfl, _⟩ := h; exact ⟨_, _, _, rfl⟩
theorem PS.sl {lo n : Nat} {xs : List Value} {u : World} {y : Value} (h : PS lo n xs u y) : ∃ sl n cap, y = .slice sl n cap := by
  obtain ⟨b, cap, rfl, _⟩ := h; exact ⟨_, _, _, rfl⟩
/-- The empty slice with room for so many bytes. -/
def PM (lo n : Nat) (u : World) (v : Value) : Prop := ∃ b zs, v = .slice (some ⟨b, 0, none⟩) 0 n ∧ lo ≤ b ∧ b < u.heap.size ∧ zs.length = n ∧ CV u b zs
theorem PM.stab {lo n : Nat} {u v : World} {x : Value} (hB : Below u.heap.size u v) (h : PM lo n u x) : PM lo n v x := by
  obtain ⟨b, zs, e, h1, h2, h3, h4⟩ := h
  exact ⟨b, zs, e, h1, Nat.lt_of_lt_of_le h2 hB.size, h3, h4.below hB h2⟩
end Go.Proofs.YtbgdcgboomdimaaDoor
