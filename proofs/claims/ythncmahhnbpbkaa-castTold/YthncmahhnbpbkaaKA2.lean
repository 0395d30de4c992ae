/- Cast: the small functions of a node. -/
import Derived.Test.YthncmahhnbpbkaaKA1
namespace Go.Proofs.Ythncmahhnbpbkaa
open Go.RowKit Go.ChangeMaps Go.Maps Go.WideMaps
set_option linter.unusedVariables false
set_option linter.unusedSimpArgs false
theorem cOf (s : Nat) (a : Value) (f : ByteArray → Int) (v : ByteArray) (w : World) (hv : v.size ≤ maxLen) (h2 : MM w s f) :
    Calls Try.prog 32 #[.agg #[a, .map (some s)], .string v] w fun e' w' => e' = .returned (.int .i64 (f v)) ∧ Below w.heap.size w w' := by
  go_enter Try.func32, Try.ntmps32
  go_upto_region 1 with fail
  have hB0 : Below w.heap.size w (w.alloc (.cells #[a, .map (some s)] 64)) := balloc (bself w) _
  have hc : CV (w.alloc (.cells #[a, .map (some s)] 64)) w.heap.size [a, .map (some s)] := CV.new w [a, .map (some s)] _
  have l2 := h2.lt
  have g2 := h2.same (hB0.block _ l2)
  have c1 := (hc 1 _ rfl).1
  have hl := g2.look hv
  clear hc
  generalize (w.alloc (.cells #[a, .map (some s)] 64)) = v0 at *
  go_wp2
  refine bodyPost_ret (v := .int .i64 (f v)) (by simp [results, Try.results32, go_sem]) rfl ⟨rfl, hB0⟩
theorem cChoose_yes (b o : Nat) (q : ByteArray) (v : ByteArray) (w : World) (h1 : w.cell? ⟨b, o + 1, none⟩ = some (.bool true)) :
    Calls Try.prog 33 #[.pointer (some ⟨b, o, none⟩), .string v] w fun e' w' => e' = .returned (.bool false) ∧ w' = w := by
  go_enter Try.func33, Try.ntmps33
  go_wp2
  refine bodyPost_ret (v := .bool false) (by simp [results, Try.results33, go_sem]) rfl ⟨rfl, rfl⟩
theorem cChoose_no (b o : Nat) (z : Value) (v : ByteArray) (w : World) (h0 : w.cell? ⟨b, o, none⟩ = some z) (h1 : w.cell? ⟨b, o + 1, none⟩ = some (.bool false)) (f0 : w.frozen? ⟨b, o, none⟩ = false) (f1 : w.frozen? ⟨b, o + 1, none⟩ = false) :
    Calls Try.prog 33 #[.pointer (some ⟨b, o, none⟩), .string v] w fun e' w' => e' = .returned (.bool true) ∧ w' = (w.setCell ⟨b, o, none⟩ (.string v)).setCell ⟨b, o + 1, none⟩ (.bool true) := by
  go_enter Try.func33, Try.ntmps33
  go_wp2
  refine bodyPost_ret (v := .bool true) (by simp [results, Try.results33, go_sem]) rfl ⟨rfl, rfl⟩
theorem cIsMade0 (w : World) : Calls Try.prog 28 #[.pointer none] w fun e' w' => e' = .returned (.bool false) ∧ w' = w := by
  go_enter Try.func28, Try.ntmps28
  go_wp2
  refine bodyPost_ret (v := .bool false) (by simp [results, Try.results28, go_sem]) rfl ⟨rfl, rfl⟩
theorem cIsMade (b : Nat) (n : Int) (w : World) (h0 : w.cell? ⟨b, 0, none⟩ = some (.int .i64 n)) : Calls Try.prog 28 #[.pointer (some ⟨b, 0, none⟩)] w fun e' w' => e' = .returned (.bool (decide (0 < n))) ∧ w' = w := by
  go_enter Try.func28, Try.ntmps28
  go_wp2
  refine bodyPost_ret (v := .bool (decide (0 < n))) (by simp [results, Try.results28, go_sem]) rfl ⟨rfl, rfl⟩
theorem cIsNode (n no : Int) (w : World) : Calls Try.prog 26 #[.int .i64 n, .int .i64 no] w fun e' w' => e' = .returned (.bool (decide (1 ≤ no ∧ no ≤ n))) ∧ w' = w := by
  go_enter Try.func26, Try.ntmps26
  by_cases h1 : 1 ≤ no
  · by_cases h2 : no ≤ n
    · go_wp2
      refine bodyPost_ret (v := .bool true) (by simp [results, Try.results26, go_sem]) rfl ⟨by simp [h1, h2], rfl⟩
    · go_wp2
      refine bodyPost_ret (v := .bool false) (by simp [results, Try.results26, go_sem]) rfl ⟨by simp [h1, h2], rfl⟩
  · go_wp2
    refine bodyPost_ret (v := .bool false) (by simp [results, Try.results26, go_sem]) rfl ⟨by simp; omega, rfl⟩
end Go.Proofs.Ythncmahhnbpbkaa
