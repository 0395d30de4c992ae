/- AES: what the two tables read as, and blocks that come in. -/
import Derived.Test.YtlcjbnhfmcnnfaaDoorSX
import Derived.Test.YtlcjbnhfmcnnfaaDoorAE1
namespace Go.Proofs.YtlcjbnhfmcnnfaaDoor
open Go.ChangeShapes Go.WideShapes Go.ChangeAt Go.RowKit
set_option linter.unusedVariables false
set_option linter.unusedSimpArgs false
theorem gLo : Tryd.prog.globalNamed "seneschal/aes.lowSubstitutes" = some 0 := by kernel_rfl
theorem gHi : Tryd.prog.globalNamed "seneschal/aes.highSubstitutes" = some 1 := by kernel_rfl
theorem tLo : (Tryd.prog.globals[0]?).map (·.type) = some 40 := by kernel_rfl
theorem tHi : (Tryd.prog.globals[1]?).map (·.type) = some 40 := by kernel_rfl
def lits8 {H : Type} (ks : List Nat) : DataW H := .agg (ks.map fun (k : Nat) => .lit (.int .u8 (k : Int)))
theorem low_is {H : Type} : (Rows.laid_seneschal_aes_lowSubstitutes : DataW H) = lits8 (sbT.take 128) := by kernel_rfl
theorem high_is {H : Type} : (Rows.laid_seneschal_aes_highSubstitutes : DataW H) = lits8 (sbT.drop 128) := by kernel_rfl
theorem arr_cells8 {H : Type} {enc : TypeId × Value → H} {W : World} {base fuel : Nat} {sp : Nat → Bool} {held : Bool} {t : TypeId} {n : Nat} (ht : Tryd.prog.underlying t = some (.array n 5)) {cs : List Value} {ks : List Nat} {pl : List MemPlace} (h : DataW.trod enc Tryd.prog W base sp held fuel t cs = some (lits8 ks, pl)) (hk : ks.length = n) : ∀ i, i < n → cs[i]? = some (.int .u8 ((ks.getD i 0 : Nat) : Int)) := fun i hi => by
  obtain ⟨xs, m, rfl, hx, hlen, hn, hel⟩ := DataW.trod_array ht h
  simp only [Prod.mk.injEq, lits8, DataW.agg.injEq] at hx
  have h1 := hel i hi
  rw [cells8, Nat.mul_one, List.getElem?_eq_getElem (by omega)] at h1
  obtain ⟨k, e1, e2, _⟩ := DataW.trod_int Tryd.underlying5 h1
  have e3 : (xs.map (·.1))[i]? = some (.lit (.int .u8 k)) := by
    rw [List.getElem?_map, List.getElem?_eq_getElem (by omega)]
    simp [e2]
  rw [← hx.1, List.getElem?_map, List.getElem?_eq_getElem (by omega)] at e3
  simp at e3
  have e4 : (cs.drop i)[0]? = some (.int .u8 k) := by
    have : ((cs.drop i).take 1)[0]? = some (.int .u8 k) := by rw [e1]; rfl
    rwa [List.getElem?_take_of_lt (by omega)] at this
  rw [List.getElem?_drop, Nat.add_zero] at e4
  rw [e4, List.getD_eq_getElem?_getD, List.getElem?_eq_getElem (by omega), ← e3]
  rfl
theorem sb_lo (t : Nat) (h : t < 128) : (sbT.take 128).getD t 0 = sbT.getD t 0 := by
  rw [List.getD_eq_getElem?_getD, List.getD_eq_getElem?_getD, List.getElem?_take_of_lt h]
theorem sb_hi (t : Nat) : (sbT.drop 128).getD t 0 = sbT.getD (t + 128) 0 := by
  rw [List.getD_eq_getElem?_getD, List.getD_eq_getElem?_getD, List.getElem?_drop, Nat.add_comm]
theorem lo_len : (sbT.take 128).length = 128 := by decide +kernel
theorem hi_len : (sbT.drop 128).length = 128 := by decide +kernel
end Go.Proofs.YtlcjbnhfmcnnfaaDoor
