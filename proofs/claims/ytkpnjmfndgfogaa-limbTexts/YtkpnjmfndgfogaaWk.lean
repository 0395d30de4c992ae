/- The chapter's examples: works. -/
import Derived.Test.YtkpnjmfndgfogaaW2
import Derived.Laws.BytesArg
namespace Go.Proofs.Ytkpnjmfndgfogaa
open Go.RowKit
set_option linter.unusedSimpArgs false
set_option linter.unusedVariables false
set_option maxRecDepth 100000 in
set_option maxHeartbeats 1000000 in
theorem len64_255 (w : World) : Calls Try.prog 81 #[.int .u64 255] w fun e w' => e = .returned (.int .i64 8) ∧ w' = w := by
  go_enter Try.func81, Try.ntmps81
  go_wp2
  go_ret
  exact ⟨ret_int (by decide +kernel), rfl⟩
set_option maxRecDepth 100000 in
set_option maxHeartbeats 1000000 in
theorem len64_8 (w : World) : Calls Try.prog 81 #[.int .u64 8] w fun e w' => e = .returned (.int .i64 4) ∧ w' = w := by
  go_enter Try.func81, Try.ntmps81
  go_wp2
  go_ret
  exact ⟨ret_int (by decide +kernel), rfl⟩
set_option maxRecDepth 100000 in
set_option maxHeartbeats 1000000 in
theorem length_255 (w : World) : Calls Try.prog 55 #[A4 255 0 0 0] w fun e w' => e = .returned (.int .i64 8) ∧ Below w.heap.size w w' := by
  go_enter Try.func55, Try.ntmps55
  go_wp2
  refine wp_loop_rounds 5 ?_
  repeat any_goals (rw [rounds_succ]; go_wp2_with (go_at_call 81; refine (len64_255 _).mono ?_; rintro e w' ⟨rfl, rfl⟩))
  go_ret
  exact ⟨rfl, by go_grown⟩
set_option maxRecDepth 100000 in
set_option maxHeartbeats 1000000 in
theorem length_8 (w : World) : Calls Try.prog 55 #[A4 8 0 0 0] w fun e w' => e = .returned (.int .i64 4) ∧ Below w.heap.size w w' := by
  go_enter Try.func55, Try.ntmps55
  go_wp2
  refine wp_loop_rounds 5 ?_
  repeat any_goals (rw [rounds_succ]; go_wp2_with (go_at_call 81; refine (len64_8 _).mono ?_; rintro e w' ⟨rfl, rfl⟩))
  go_ret
  exact ⟨rfl, by go_grown⟩
set_option maxRecDepth 100000 in
set_option maxHeartbeats 1000000 in
theorem text_255 (w : World) : Calls Try.prog 20 #[A4 255 0 0 0] w fun e w' => e = .returned (.string ⟨#[102, 102]⟩) ∧ Below w.heap.size w w' := by
  have hmk : ∀ w, (Instr.makeSlice 22 (.int .i64 2) (.int .i64 2)).run Try.prog w = .ok (.slice (some ⟨w.heap.size, 0, none⟩) 2 2) (w.alloc (.cells #[.int .u8 0, .int .u8 0] 5)) := fun _ => by kernel_rfl
  go_enter Try.func20, Try.ntmps20
  go_wp2_with fail
  refine (length_255 _).mono ?_
  rintro e w1 ⟨rfl, hB⟩
  obtain ⟨hcell, hfroz, hsize⟩ := bcell hB
  simp only [World.size_alloc] at hsize hcell hfroz
  have z0 : w.heap.size < w1.heap.size := by omega
  have hB' : Below w.heap.size w w1 := Below.trans (by go_grown) (hB.mono (by simp))
  clear hB
  go_wp2
  go_rounds 3
  rw [run_convert_bytes_arg _ 22 5 Try.underlying22 Try.underlying5 _ 0 2 2 [102, 102] rfl ?hc 9 Try.underlying9]
  case hc =>
    intro i hi
    have hi' : i = 0 ∨ i = 1 := by omega
    rcases hi' with rfl | rfl
    · simp [go_sem]; rfl
    · simp [go_sem]; rfl
  go_wp2
  go_ret
  have hs1 := hB'.size
  exact ⟨rfl, by go_grown⟩

set_option maxRecDepth 100000 in
set_option maxHeartbeats 1000000 in
theorem works_any (w : World) : Calls Try.prog 18 #[] w fun e w' => e = .returned (.bool true) ∧ Below w.heap.size w w' := by
  have w0 : W64 0 := by unfold W64; omega
  have w1 : W64 1 := by unfold W64; omega
  have e0 : D0 (V 0 0 0 0 - V 1 0 0 0) = 18446744073709551615 := by decide +kernel
  have e1 : D1 (V 0 0 0 0 - V 1 0 0 0) = 18446744073709551615 := by decide +kernel
  have e2 : D2 (V 0 0 0 0 - V 1 0 0 0) = 18446744073709551615 := by decide +kernel
  have e3 : D3 (V 0 0 0 0 - V 1 0 0 0) = 18446744073709551615 := by decide +kernel
  have e4 : (-D4 (V 0 0 0 0 - V 1 0 0 0) == 1) = true := by decide +kernel
  have hs := Sub_any 0 0 0 0 1 0 0 0
  simp only [e0, e1, e2, e3, e4] at hs
  clear e0 e1 e2 e3 e4
  have hS : Hid (∀ w, Calls Try.prog 53 #[A4 0 0 0 0, A4 1 0 0 0] w fun e w' => e = .returned (.tuple #[A4 18446744073709551615 18446744073709551615 18446744073709551615 18446744073709551615, .bool true]) ∧ Below w.heap.size w w') := fun w => hs w w0 w0 w0 w0 w1 w0 w0 w0
  clear hs
  go_enter Try.func18, Try.ntmps18
  go_wp2_with fail
  refine (of_any _ _).mono ?_
  rintro e v1 ⟨rfl, hB1⟩
  go_wp2_with fail
  refine (of_any _ _).mono ?_
  rintro e v2 ⟨rfl, hB2⟩
  go_wp2_with fail
  refine (hS.out _).mono ?_
  rintro e v3 ⟨rfl, hB3⟩
  go_wp2_with fail
  refine (of_any _ _).mono ?_
  rintro e v4 ⟨rfl, hB4⟩
  go_wp2_with fail
  refine (text_255 _).mono ?_
  rintro e v5 ⟨rfl, hB5⟩
  have hz3 := hB3.size
  have hz4 := hB4.size
  have hz5 := hB5.size
  simp only [World.size_alloc] at hz4 hz5
  have c0 : v5.cell? ⟨v3.heap.size, 0, none⟩ = some (.int .u64 18446744073709551615) := by
    rw [hB5.cell (by show v3.heap.size < v4.heap.size; omega), hB4.cell (by simp)]; simp [go_sem]
  have c1 : v5.cell? ⟨v3.heap.size, 1, none⟩ = some (.int .u64 18446744073709551615) := by
    rw [hB5.cell (by show v3.heap.size < v4.heap.size; omega), hB4.cell (by simp)]; simp [go_sem]
  have c2 : v5.cell? ⟨v3.heap.size, 2, none⟩ = some (.int .u64 18446744073709551615) := by
    rw [hB5.cell (by show v3.heap.size < v4.heap.size; omega), hB4.cell (by simp)]; simp [go_sem]
  have c3 : v5.cell? ⟨v3.heap.size, 3, none⟩ = some (.int .u64 18446744073709551615) := by
    rw [hB5.cell (by show v3.heap.size < v4.heap.size; omega), hB4.cell (by simp)]; simp [go_sem]
  have hC : Below w.heap.size w v5 := bstep (bstep (balloc (bstep (bstep hB1 hB2) hB3) _) hB4) hB5
  clear hB1 hB2 hB3 hB4 hB5
  go_wp2_with fail
  refine (of_any _ _).mono ?_
  rintro e v6 ⟨rfl, hB6⟩
  go_wp2_with fail
  refine (length_8 _).mono ?_
  rintro e v7 ⟨rfl, hB7⟩
  have hD : Below w.heap.size w v7 := bstep (bstep hC hB6) hB7
  clear hC hB6 hB7
  go_wp2
  go_ret
  exact ⟨rfl, hD⟩
end Go.Proofs.Ytkpnjmfndgfogaa
