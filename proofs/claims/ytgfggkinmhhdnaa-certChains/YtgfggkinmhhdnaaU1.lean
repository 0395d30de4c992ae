/- Walks: strings.IndexByte among the digits; limb's isText. -/
import Derived.Test.YtgfggkinmhhdnaaU0
import Derived.Test.YtgfggkinmhhdnaaW2
import Derived.Laws.BytesArg
import Derived.Laws.StandIn
namespace Go.Proofs.Ytgfggkinmhhdnaa
open Go.RowKit
set_option linter.unusedSimpArgs false
set_option linter.unusedVariables false
/-- The place of a byte among the digits, or -1. -/
def ixv (c : Int) : Int := if 48 ≤ c ∧ c ≤ 57 then c - 48 else if 97 ≤ c ∧ c ≤ 102 then c - 87 else -1
theorem ixv_bd (c : Int) : -1 ≤ ixv c ∧ ixv c < 16 := by unfold ixv; split <;> (try split) <;> omega
theorem find_ix : ∀ n : Nat, n < 256 → (match (List.range (ByteArray.mk #[48, 49, 50, 51, 52, 53, 54, 55, 56, 57, 97, 98, 99, 100, 101, 102]).size).find? fun i => (ByteArray.mk #[48, 49, 50, 51, 52, 53, 54, 55, 56, 57, 97, 98, 99, 100, 101, 102])[i]! == n.toUInt8 with | some i => (i : Int) | none => (-1 : Int)) = ixv (n : Int) := by decide +kernel
theorem ext_ix (c : Int) (h0 : 0 ≤ c) (h1 : c < 256) (w : World) : (callFunc 95 #[.string (ByteArray.mk #[48, 49, 50, 51, 52, 53, 54, 55, 56, 57, 97, 98, 99, 100, 101, 102]), .int .u8 c]).run Try.prog w = .ok (.value (.int .i64 (ixv c))) w := by
  rw [run_callFunc_indexByte (f := 95) (fn := Try.f95) (by kernel_rfl) (by kernel_rfl) (by kernel_rfl) (by kernel_rfl) (by kernel_rfl)]
  have k := find_ix c.toNat (by omega)
  rw [show ((c.toNat : Nat) : Int) = c by omega] at k
  show (Sem.run Try.prog (match (List.range (ByteArray.mk #[48, 49, 50, 51, 52, 53, 54, 55, 56, 57, 97, 98, 99, 100, 101, 102]).size).find? fun i => (ByteArray.mk #[48, 49, 50, 51, 52, 53, 54, 55, 56, 57, 97, 98, 99, 100, 101, 102])[i]! == c.toNat.toUInt8 with | some i => pure (goInt i) | none => pure (goInt (-1))) w).andThen _ = _
  revert k
  generalize List.find? _ _ = r
  intro k
  cases r with
  | none => rw [← k]; rfl
  | some i => rw [← k]; rfl
set_option maxRecDepth 100000 in
theorem liteIx (c : Int) (h0 : 0 ≤ c) (h1 : c < 256) (w : World) : Calls Try.prog 93 #[.string (ByteArray.mk #[48, 49, 50, 51, 52, 53, 54, 55, 56, 57, 97, 98, 99, 100, 101, 102]), .int .u8 c] w fun e w' => e = .returned (.int .i64 (ixv c)) ∧ w' = w := by
  have k := fun W => ext_ix c h0 h1 W
  generalize ixv c = v at *
  go_enter Try.func93, Try.ntmps93
  go_wp2
  go_ret
  exact ⟨rfl, rfl⟩
set_option maxRecDepth 100000 in
theorem IndexByte_any (c : Int) (h0 : 0 ≤ c) (h1 : c < 256) (w : World) : Calls Try.prog 87 #[.string (ByteArray.mk #[48, 49, 50, 51, 52, 53, 54, 55, 56, 57, 97, 98, 99, 100, 101, 102]), .int .u8 c] w fun e w' => e = .returned (.int .i64 (ixv c)) ∧ w' = w := by
  go_enter Try.func87, Try.ntmps87
  go_wp2_with fail
  refine (liteIx c h0 h1 _).mono ?_
  rintro e w' ⟨rfl, rfl⟩
  go_wp2
  go_ret
  exact ⟨rfl, rfl⟩
/-- A byte of a text. -/
theorem str_ix (cs : List Int) (hb : Bytes8 cs) (j : Nat) (hj : j < cs.length) (W : World) : (Instr.index 9 (.string (strOfNums cs)) (.int .i64 j)).run Try.prog W = .ok (.int .u8 (cs.getD j 0)) W := by
  have hx := hb (cs[j]) (List.getElem_mem hj)
  have hs : (strOfNums cs).size = cs.length := strOfNums_size cs
  have hd : (strOfNums cs).data.toList = cs.map fun n => UInt8.ofNat n.toNat := strOfNums_data cs
  have hg : ∀ h, ((strOfNums cs)[j]'h).toNat = (cs[j]).toNat := fun h => by
    show (((strOfNums cs).data[j]'_).toNat) = _
    simp only [← Array.getElem_toList, hd, List.getElem_map]
    simp; omega
  simp [Instr.index, go_sem, Try.underlying9, hs, hj]
  rw [hg]; simp [List.getElem?_eq_getElem hj]; omega
end Go.Proofs.Ytgfggkinmhhdnaa
