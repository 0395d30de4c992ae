/- Cast: the law's example, walked. -/
import Derived.Test.YthncmahhnbpbkaaKB2
namespace Go.Proofs.Ythncmahhnbpbkaa
open Go.RowKit Go.ChangeMaps Go.Maps Go.WideMaps
set_option linter.unusedVariables false
set_option linter.unusedSimpArgs false
set_option maxHeartbeats 4000000 in
theorem cWorks (w : World) : Calls Try.prog 11 #[] w fun e' w' => e' = .returned (.bool true) ∧ Below w.heap.size w w' := by
  have hmk := cMake_ok 4 1 2 1 w (by decide)
  go_enter Try.func11, Try.ntmps11
  go_upto_region 4 with (first | (go_at_call 9; refine hmk.mono ?_; rintro e w1 ⟨rfl, hB1, hz1, hN1⟩))
  have hN1 : NM w1 w.heap.size wx0 := hN1
  have htk := cTake w.heap.size wx0 1 1 vV w1 (by decide) wx0_wf.w hN1
  obtain ⟨s, hs⟩ : ∃ s, Hid (w.heap.size = s) := ⟨_, rfl⟩
  go_upto_region 5 with (first | (go_at_call 14; refine htk.mono ?_; rintro e w2 ⟨r, rfl, hk2, hN2, hO2⟩; rw [wo1] at hO2; obtain ⟨b, hb, rfl, hc2⟩ := hO2))
  have c0 := (hc2 0 _ rfl).1
  have c1 := (hc2 1 _ rfl).1
  have c2 := (hc2 2 _ rfl).1
  have hN2 : NM w2 w.heap.size wx1 := hN2
  have hO2 : OutM w1.heap.size w2 (.slice (some ⟨b, 0, none⟩) 1 1) (some (2, 2, vV)) := ⟨b, hb, rfl, hc2⟩
  go_upto_region 7 with fail
  clear c0 c1 c2 hc2 htk hmk hN1
  go_wp2_with fail
  go_loopw [4, 3] (fun s4 s3 wr => ∃ i : Nat, i ≤ 3 ∧ s4 = .int .i64 ((i : Int) + 1) ∧ Kp w.heap.size (w.heap.size + 7) w2 wr ∧ NM wr w.heap.size (rn wx1 2 vV i).1 ∧ (i = 3 → OutM (w.heap.size + 7) wr s3 (some (3, 2, vV)))) (fun s4 _ _ => 4 - (intOf s4).toNat)
  case atStart => exact ⟨0, by omega, rfl, Kp.refl _ _ _, hN2, by omega⟩
  case round =>
    obtain ⟨i, hi, rfl, hk, hN, hO⟩ := hrel
    by_cases hj : i < 3
    · have htk := cTake w.heap.size (rn wx1 2 vV i).1 2 ((i : Int) + 1) vV wr (by decide) (rn_wf wx1_wf 2 vV i).1.w hN
      have hl : ((i : Int) + 1 ≤ 3) := by omega
      have ew := wr64 (n := (i : Int) + 1 + 1) (by omega)
      have hzr := hk.size
      have hz2 := hk2.size
      clear hO hO2 hN
      go_wp2_with (first | (go_at_call 14; refine htk.mono ?_; rintro e w3 ⟨r, rfl, hk3, hN3, hO3⟩))
      refine ⟨⟨i + 1, by omega, by simp, hk.trans hk3, hN3, fun h3 => ?_⟩, by simp [intOf]; omega⟩
      have h4 : i = 2 := by omega
      subst h4
      have hO4 : OutM wr.heap.size w3 r (rn wx1 2 vV 3).2 := hO3
      rw [wo2] at hO4
      exact hO4.mono (by omega)
    · obtain rfl : i = 3 := by omega
      obtain ⟨b3, hb3, rfl, hc3⟩ := hO rfl
      have hN : NM wr w.heap.size wx2 := hN
      have hl : ¬ (((3 : Nat) : Int) + 1 ≤ 3) := by omega
      clear hO
      obtain ⟨wa, rfl⟩ : ∃ x, x = wr := ⟨_, rfl⟩
      go_wp2_with fail
      go_loopw [5] (fun s5 wq => ∃ i : Nat, i ≤ 3 ∧ s5 = .int .i64 ((i : Int) + 1) ∧ Kp w.heap.size (w.heap.size + 7) wa wq ∧ NM wq w.heap.size (rn wx2 3 vV i).1) (fun s5 _ => 4 - (intOf s5).toNat)
      case atStart => exact ⟨0, by omega, rfl, Kp.refl _ _ _, hN⟩
      case round =>
        obtain ⟨i, hi, rfl, hkq, hNq⟩ := hrel
        by_cases hj : i < 3
        · have htk := cTake w.heap.size (rn wx2 3 vV i).1 3 ((i : Int) + 1) vV wr (by decide) (rn_wf wx2_wf 3 vV i).1.w hNq
          have hl : ((i : Int) + 1 ≤ 3) := by omega
          have ew := wr64 (n := (i : Int) + 1 + 1) (by omega)
          clear hN hNq
          go_wp2_with (first | (go_at_call 14; refine htk.mono ?_; rintro e w3 ⟨r, rfl, hk3, hN3, hO3⟩))
          exact ⟨⟨i + 1, by omega, by simp, hkq.trans hk3, hN3⟩, by simp [intOf]; omega⟩
        · obtain rfl : i = 3 := by omega
          have hNq : NM wr w.heap.size wx3 := hNq
          have hcq := hNq.c
          have d0 := (hcq 0 _ rfl).1
          have d1 := (hcq 13 _ rfl).1
          have d2 := (hcq 14 _ rfl).1
          rw [wo3] at d1 d2
          have hV := cValue (w.heap.size + 6) wx3.n vV true wr d0 d1 d2 (by rw [wn3]; omega)
          have hc4 := hc3.kp hkq (hc3.lt (by simp)) (.inr (by omega))
          have lb4 := hc4.lt (by simp)
          have hl : ¬ (((3 : Nat) : Int) + 1 ≤ 3) := by omega
          have hBw : Below w.heap.size w w1 := hB1
          have hz2 := hk2.size
          have hzk := hk.size
          have hzq := hkq.size
          have hBf : Below w.heap.size w wr := ((hB1.trans (hk2.bel (Nat.le_refl _) hB1.size)).trans (hk.bel (Nat.le_refl _) (by omega))).trans (hkq.bel (Nat.le_refl _) (by omega))
          clear d0 d1 d2 hcq
          go_upto_region 16 with (first | (go_at_call 16; refine hV.mono ?_; rintro e w5 ⟨rfl, hB5⟩))
          have hc5 := hc4.below hB5 lb4
          have e0 := (hc5 0 _ rfl).1
          go_wp2
          refine bodyPost_ret (v := .bool true) (by simp [results, Try.results11, go_sem]) rfl ⟨rfl, hBf.trans (hB5.mono (by omega))⟩
end Go.Proofs.Ythncmahhnbpbkaa
