/- AES: the two tables of the card. -/
import Derived.Test.YtlcjbnhfmcnnfaaDoorAY
namespace Go.Proofs.YtlcjbnhfmcnnfaaDoor
open Go.ChangeShapes Go.WideShapes Go.ChangeAt Go.RowKit
set_option linter.unusedVariables false
set_option linter.unusedSimpArgs false
abbrev lstA : List (String × DataW Unit) := [("seneschal/aes.lowSubstitutes", Rows.laid_seneschal_aes_lowSubstitutes), ("seneschal/aes.highSubstitutes", Rows.laid_seneschal_aes_highSubstitutes)]
set_option maxRecDepth 100000 in
/-- What the condition gives the walks. -/
theorem of_laidA {W : World} (h : laidMetH Tryd.prog lstA W) : GS6 W := by
  rw [MakeChecks.laidMetH_plain _ _ _ (by kernel_rfl)] at h
  obtain ⟨ps, ⟨g0, t0, cs0, f0, p0, q0, hg0, ht0, hv0, hd0, ⟨g1, t1, cs1, f1, p1, q1, hg1, ht1, hv1, hd1, _, _⟩, _⟩, _, _⟩ := h
  obtain rfl := Option.some.inj (gLo.symm.trans hg0)
  obtain rfl := Option.some.inj (gHi.symm.trans hg1)
  obtain rfl := Option.some.inj (tLo.symm.trans ht0)
  obtain rfl := Option.some.inj (tHi.symm.trans ht1)
  rw [low_is] at hd0
  rw [high_is] at hd1
  have k0 := arr_cells8 Tryd.underlying40 hd0 lo_len
  have k1 := arr_cells8 Tryd.underlying40 hd1 hi_len
  have c0 : ∀ t, t < 128 → W.cell? ⟨0, t, none⟩ = some (.int .u8 ((sbT.getD t 0 : Nat) : Int)) := fun t ht => by
    rw [World.var?_cell hg0 hv0 t, ← Array.getElem?_toList, k0 t ht, sb_lo t ht]
  have c1 : ∀ t, t < 128 → W.cell? ⟨1, t, none⟩ = some (.int .u8 ((sbT.getD (t + 128) 0 : Nat) : Int)) := fun t ht => by
    rw [World.var?_cell hg1 hv1 t, ← Array.getElem?_toList, k1 t ht, sb_hi t]
  exact ⟨World.block_lt_of_cell? W _ (c0 0 (by decide)), World.block_lt_of_cell? W _ (c1 0 (by decide)), c0, c1⟩
set_option maxRecDepth 100000 in
/-- The door's own heap meets the condition. -/
theorem doorA (os : Go.Os) (args : Array Value) : laidMetH Tryd.prog lstA ((World.doorLaid Tryd.prog 400 os).forCall (fun _ _ => 0) ⟨#[], args, []⟩).memory :=
  laidMetH_of_parts3 (fuel := 8) (laidMet_of_run' 8 (by kernel_rfl) (by kernel_rfl)) (by kernel_rfl) (by kernel_rfl)
end Go.Proofs.YtlcjbnhfmcnnfaaDoor
