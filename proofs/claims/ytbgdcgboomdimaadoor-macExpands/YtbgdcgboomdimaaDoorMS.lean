/- What the laws of layer 5 draw. -/
import Derived.Test.YtbgdcgboomdimaaDoorMC5
import Derived.Test.YtbgdcgboomdimaaDoorSY
namespace Go.Proofs.YtbgdcgboomdimaaDoor
open Go.RowKit
set_option linter.unusedVariables false
set_option linter.unusedSimpArgs false
/-- Bytes that came in, made short. -/
theorem short_any {sl : Option Addr} {cap gb go : Nat} {xs : List Nat} {W : World} (k1 : xs.length ≤ cap) (k2 : sl = none → cap = 0) (k3 : xs.length = 0 ∨ sl = some ⟨gb, go, none⟩) (k4 : gb < W.heap.size) (k5 : SB W gb go xs) (k6 : ∀ x ∈ xs, x < 256) :
    ∃ ys : List Nat, ys.length ≤ 300 ∧ (∀ y ∈ ys, y < 256) ∧ (∀ u, Below W.heap.size W u → IN u u.heap.size (.slice sl ys.length cap) ys) ∧ (∀ n c, (Value.slice sl ys.length cap) = .slice none n c → c = 0) ∧ (sl = none → cap = 0) ∧ ys.length ≤ cap ∧ ∀ u, Calls Tryd.prog 26 #[.slice sl xs.length cap] u fun e u' => e = .returned (.slice sl ys.length cap) ∧ Below u.heap.size u u' := by
  have hin := in_short k1 k3 k4 k5
  have hyl : (xs.take 300).length = min xs.length 300 := by rw [List.length_take, Nat.min_comm]
  refine ⟨xs.take 300, by omega, fun y hy => k6 y (List.mem_of_mem_take hy), fun u hB => (hin.below hB).mono hB.size, fun n c e => ?_, k2, by omega, fun u => cShort5 sl xs.length cap _ u (by omega) (by omega) k1 k2⟩
  rw [Value.slice.injEq] at e
  rw [← e.2.2]; exact k2 e.1
end Go.Proofs.YtbgdcgboomdimaaDoor
