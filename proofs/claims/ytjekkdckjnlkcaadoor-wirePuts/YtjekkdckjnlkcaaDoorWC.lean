/- AES: substitutes and products. -/
import Derived.Test.YtjekkdckjnlkcaaDoorWB
import Derived.Test.YtjekkdckjnlkcaaDoorSB
import Derived.Test.YtjekkdckjnlkcaaDoorWA
namespace Go.Proofs.YtjekkdckjnlkcaaDoor
open Go.RowKit
set_option linter.unusedVariables false
set_option linter.unusedSimpArgs false
end Go.Proofs.YtjekkdckjnlkcaaDoor
/- AES: products. -/
namespace Go.Proofs.YtjekkdckjnlkcaaDoor
open Go.RowKit
set_option linter.unusedVariables false
set_option linter.unusedSimpArgs false
end Go.Proofs.YtjekkdckjnlkcaaDoor
/- AES: what a round does with a block. -/
namespace Go.Proofs.YtjekkdckjnlkcaaDoor
open Go.RowKit
set_option linter.unusedVariables false
set_option linter.unusedSimpArgs false
end Go.Proofs.YtjekkdckjnlkcaaDoor
/- AES: rows turned, columns mixed, and whose the substitutes are. -/
namespace Go.Proofs.YtjekkdckjnlkcaaDoor
open Go.RowKit
set_option linter.unusedVariables false
set_option linter.unusedSimpArgs false
end Go.Proofs.YtjekkdckjnlkcaaDoor
/- AES: columns mixed. -/
namespace Go.Proofs.YtjekkdckjnlkcaaDoor
open Go.RowKit
set_option linter.unusedVariables false
set_option linter.unusedSimpArgs false
end Go.Proofs.YtjekkdckjnlkcaaDoor
/- AES: the key of the next round. -/
namespace Go.Proofs.YtjekkdckjnlkcaaDoor
open Go.RowKit
set_option linter.unusedVariables false
set_option linter.unusedSimpArgs false
end Go.Proofs.YtjekkdckjnlkcaaDoor
/- AES: a round, and its way back. -/
namespace Go.Proofs.YtjekkdckjnlkcaaDoor
open Go.RowKit
set_option linter.unusedVariables false
set_option linter.unusedSimpArgs false
end Go.Proofs.YtjekkdckjnlkcaaDoor
/- AES: the keys of all rounds. -/
namespace Go.Proofs.YtjekkdckjnlkcaaDoor
open Go.RowKit
set_option linter.unusedVariables false
set_option linter.unusedSimpArgs false
end Go.Proofs.YtjekkdckjnlkcaaDoor
/- AES: what is begun with, and blocks that are encrypted. -/
namespace Go.Proofs.YtjekkdckjnlkcaaDoor
open Go.RowKit
set_option linter.unusedVariables false
set_option linter.unusedSimpArgs false
end Go.Proofs.YtjekkdckjnlkcaaDoor
/- AES: blocks that are encrypted and decrypted. -/
namespace Go.Proofs.YtjekkdckjnlkcaaDoor
open Go.RowKit
set_option linter.unusedVariables false
set_option linter.unusedSimpArgs false
end Go.Proofs.YtjekkdckjnlkcaaDoor
/- The chapter's example works. -/
namespace Go.Proofs.YtjekkdckjnlkcaaDoor
open Go.RowKit
set_option linter.unusedVariables false
set_option linter.unusedSimpArgs false
end Go.Proofs.YtjekkdckjnlkcaaDoor
/- The reference's products and substitutes. -/
namespace Go.Proofs.YtjekkdckjnlkcaaDoor
open Go.RowKit
set_option linter.unusedVariables false
set_option linter.unusedSimpArgs false
end Go.Proofs.YtjekkdckjnlkcaaDoor
/- The reference's table of substitutes. -/
namespace Go.Proofs.YtjekkdckjnlkcaaDoor
open Go.RowKit
set_option linter.unusedVariables false
set_option linter.unusedSimpArgs false
end Go.Proofs.YtjekkdckjnlkcaaDoor
/- The law AesTimes: its walk. -/
namespace Go.Proofs.YtjekkdckjnlkcaaDoor
open Go.RowKit
set_option linter.unusedVariables false
set_option linter.unusedSimpArgs false
end Go.Proofs.YtjekkdckjnlkcaaDoor
/- The law AesField: its walk. -/
namespace Go.Proofs.YtjekkdckjnlkcaaDoor
open Go.RowKit
set_option linter.unusedVariables false
set_option linter.unusedSimpArgs false
/-- A pointer to that value. -/
def PV (v : Value) (u : World) (y : Value) : Prop := ∃ b c, y = .pointer (some ⟨b, c, none⟩) ∧ b < u.heap.size ∧ u.cell? ⟨b, c, none⟩ = some v
theorem PV.stab {v : Value} {u u' : World} {x : Value} (hB : Below u.heap.size u u') (h : PV v u x) : PV v u' x := by
  obtain ⟨b, c, e, h1, h2⟩ := h
  exact ⟨b, c, e, Nat.lt_of_lt_of_le h1 hB.size, (hB.cell (p := ⟨b, c, none⟩) h1).trans h2⟩
section
variable {R : Rg} {P : Program} {ops : Array Oper} {Q : Exit → Act → World → Prop} {f : Nat → Bool} {t : Nat → Value} {u : World} {a : Act} {i : Nat} {o : Oper}
/-- The place in such a slice. -/
theorem g_iE (m n : Nat) (p p' : World → Value → Prop) {T : TypeId} {y : Operand} {vy : Value} {j d : Nat} {c : Option Nat} (hp : ∀ u vs, p u vs → ∃ z, (Instr.indexAt T vs vy).run P u = .ok z u ∧ p' u z) (hop : o.op = .indexAddr T (.tmp d) y := by rfl) (hm : R.E[m]? = some ⟨j, d, c, p⟩ := by rfl) (hcc : (c.all (· == i)) = true := by rfl) (hn0 : (R.E[n]?).map (·.p) = some p' := by rfl) (hy : evR R i o y = some vy := by rfl) (hd : (hasDep o j && R.S.contains d) = true := by rfl) (hc : R.chkE ops n i o = true := by rfl) : OG R P ops Q i o := fun f t u a X => by
  rw [Bool.and_eq_true, List.contains_iff_mem] at hd
  obtain ⟨h2, h4⟩ := hd
  obtain ⟨d', q', hd', hq', _, _, _, _, _, _, _, _, hw⟩ := chkE_parts hc
  obtain ⟨z, e1, hv⟩ := hp u (t d) (X.val2 hm h2 hcc)
  exact X.go hw fun K hK => wp_index hop (X.inS h4) (X.ev hy) e1 (hK _ _ (X.putE hc (fun q' hq' => by rw [hq'] at hn0; cases hn0; exact hv) (Below.refl _ _)))
/-- What lies there. -/
theorem g_dE (m : Nat) (p : World → Value → Prop) {T : TypeId} {j d : Nat} {c : Option Nat} {v : Value} (hp : ∀ u vs, p u vs → (Instr.loadAt T vs).run P u = .ok v u) (hop : o.op = .load T (.tmp d) := by rfl) (hm : R.E[m]? = some ⟨j, d, c, p⟩ := by rfl) (hcc : (c.all (· == i)) = true := by rfl) (hd : (hasDep o j && R.S.contains d) = true := by rfl) (hv : some v = pickV i R.G := by rfl) (hc : R.chk ops i o = true := by rfl) : OG R P ops Q i o :=
  g_pure hv hc fun f t u a X K hK => by
    rw [Bool.and_eq_true, List.contains_iff_mem] at hd
    obtain ⟨h2, h4⟩ := hd
    exact wp_load hop (X.inS h4) (hp u (t d) (X.val2 hm h2 hcc)) hK
end
theorem ldV {x : Int} (u : World) (y : Value) (h : PV (.int .u8 x) u y) : (Instr.loadAt 5 y).run Tryd.prog u = .ok (.int .u8 x) u := by
  obtain ⟨b, c, rfl, _, h2⟩ := h
  exact l8 u h2
end Go.Proofs.YtjekkdckjnlkcaaDoor
