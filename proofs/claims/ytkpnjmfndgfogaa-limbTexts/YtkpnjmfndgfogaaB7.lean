/- Walks: the reference's Bytes; SameBytes. -/
import Derived.Test.YtkpnjmfndgfogaaB6
namespace Go.Proofs.Ytkpnjmfndgfogaa
open Go.RowKit
set_option linter.unusedSimpArgs false
set_option linter.unusedVariables false

theorem CB.set' {w : World} {n k o : Nat} {a b c d : Int} (h : CB w n k a b c d) (hk : k < 32) (ho : o = 31 - k) (v : Int) (hv : v = byp a b c d k) : CB (w.setCell ⟨n, o, none⟩ (.int .u8 v)) n (k + 1) a b c d := by
  subst ho; exact h.set hk v hv
theorem shr8 (x : Int) (k : Nat) : x / 2 ^ (k * 8) / 256 = x / 2 ^ ((k + 1) * 8) := by
  rw [Int.ediv_ediv_of_nonneg (Int.le_of_lt (Int.pow_pos (by omega))), show (k + 1) * 8 = k * 8 + 8 by omega, Int.pow_add]; rfl
def byl (a b c d : Int) : List Int := (List.range 32).map fun j => byp a b c d (31 - j)
theorem CB.get {w : World} {g : Nat} {a b c d : Int} (h : CB w g 32 a b c d) : ∀ i, i < 32 → w.cell? ⟨g, 0 + i, none⟩ = some (.int .u8 ((byl a b c d).getD i 0)) := fun i hi => by
  have := (h i hi).1
  rw [if_pos (by omega)] at this
  rw [Nat.zero_add, this]
  unfold byl
  simp [List.getD, hi]
end Go.Proofs.Ytkpnjmfndgfogaa
