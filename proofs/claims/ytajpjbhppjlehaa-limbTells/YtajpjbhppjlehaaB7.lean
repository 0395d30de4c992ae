/- Walks: the reference's Bytes; SameBytes. -/
import Derived.Test.YtajpjbhppjlehaaB6
namespace Go.Proofs.Ytajpjbhppjlehaa
open Go.RowKit
set_option linter.unusedSimpArgs false
set_option linter.unusedVariables false

theorem CB.set' {w : World} {n k o : Nat} {a b c d : Int} (h : CB w n k a b c d) (hk : k < 32) (ho : o = 31 - k) (v : Int) (hv : v = byp a b c d k) : CB (w.setCell ⟨n, o, none⟩ (.int .u8 v)) n (k + 1) a b c d := by
  subst ho; exact h.set hk v hv
theorem shr8 (x : Int) (k : Nat) : x / 2 ^ (k * 8) / 256 = x / 2 ^ ((k + 1) * 8) := by
  rw [Int.ediv_ediv_of_nonneg (Int.le_of_lt (Int.pow_pos (by omega))), show (k + 1) * 8 = k * 8 + 8 by omega, Int.pow_add]; rfl
set_option maxRecDepth 100000 in
set_option maxHeartbeats 4000000 in
theorem rBytes_any (a b c d : Int) (w : World) (ha : W64 a) (hb : W64 b) (hc : W64 c) (hd : W64 d) :
    Calls Try.prog 28 #[A4 a b c d] w fun en w' => ∃ g, en = .returned (.slice (some ⟨g, 0, none⟩) 32 32) ∧ CB w' g 32 a b c d ∧ w.heap.size ≤ g ∧ g < w'.heap.size ∧ Below w.heap.size w w' := by
  have hmk : ∀ w, (Instr.makeSlice 41 (.int .i64 32) (.int .i64 32)).run Try.prog w = .ok (.slice (some ⟨w.heap.size, 0, none⟩) 32 32) (w.alloc (.cells z32b 5)) := fun _ => by kernel_rfl
  go_enter Try.func28, Try.ntmps28
  go_wp2
  go_loopw [4, 5, 6] (fun i _ _ wr => Below w.heap.size w wr ∧ w.heap.size + 1 < wr.heap.size ∧ C4 wr w.heap.size a b c d ∧ ((i = .int .i64 0 ∧ CB wr (w.heap.size + 1) 0 a b c d) ∨ (i = .int .i64 1 ∧ CB wr (w.heap.size + 1) 8 a b c d) ∨ (i = .int .i64 2 ∧ CB wr (w.heap.size + 1) 16 a b c d) ∨ (i = .int .i64 3 ∧ CB wr (w.heap.size + 1) 24 a b c d) ∨ (i = .int .i64 4 ∧ CB wr (w.heap.size + 1) 32 a b c d))) (fun i _ _ _ => 4 - (intOf i).toNat)
  case atStart =>
    refine ⟨?_, by simp, by unfold C4; simp [go_sem], .inl ⟨rfl, ?_⟩⟩
    · repeat' (first | (with_reducible exact Below.refl _ _) | (with_reducible assumption) | (with_reducible refine below_drewN ?_ _) | (with_reducible refine Below.drew ?_) | (with_reducible refine Below.setCell ?_ ?_ _) | (with_reducible refine Below.alloc ?_ ?_ _) | go_size)
    · have := CB.new (w.alloc (.cells #[.int .u64 a, .int .u64 b, .int .u64 c, .int .u64 d] 24)) a b c d
      simpa using this
  case round =>
    obtain ⟨hB, hs, hA, hr⟩ := hrel
    rcases hr with ⟨rfl, hO⟩ | ⟨rfl, hO⟩ | ⟨rfl, hO⟩ | ⟨rfl, hO⟩ | ⟨rfl, hO⟩
    · have hA' := hA
      obtain ⟨⟨ac0, ac1, ac2, ac3⟩, _⟩ := hA'
      have hv := W_shr a 0 ha
      go_wp2
      go_loopw [5, 6] (fun x k wq => ∃ j : Nat, j ≤ 8 ∧ k = .int .i64 j ∧ x = .int .u64 (a / 2 ^ (j * 8)) ∧ Below w.heap.size w wq ∧ w.heap.size + 1 < wq.heap.size ∧ C4 wq w.heap.size a b c d ∧ CB wq (w.heap.size + 1) (0 + j) a b c d) (fun _ k _ => 8 - (intOf k).toNat)
      case atStart => exact ⟨0, by omega, rfl, by simp, hB, hs, hA, hO⟩
      case round =>
        clear hB hs hA hO ac0 ac1 ac2 ac3 hv
        obtain ⟨j, hj, rfl, rfl, hB, hs, hA, hO⟩ := hrel
        obtain ⟨x0, x1⟩ := W_shr a (j * 8) ha
        by_cases hlt : j < 8
        · have hlt' : (j : Int) < 8 := by omega
          obtain ⟨oc, of⟩ := hO (31 - (0 + j)) (by omega)
          have hz : (if 32 ≤ 31 - (0 + j) + (0 + j) then byp a b c d (31 - (31 - (0 + j))) else 0) = 0 := if_neg (by omega)
          rw [hz, show 31 - (0 + j) = 31 - j by omega] at oc
          rw [show 31 - (0 + j) = 31 - j by omega] at of
          clear hz
          have H8 : Hid _ := shr8 a j
          go_wp2
          refine ⟨⟨j + 1, by omega, by go_num, congrArg (Value.int IntKind.u64) H8.out, ?_, by simpa using hs, hA.other _ (by simp) _, hO.set' (by omega) (by omega) _ ?_⟩, by simp [intOf]; omega⟩
          · exact hB.setCell (by show _ ≤ _; simp) _
          · unfold byp
            rw [show (0 + j) / 8 = 0 by omega, show (0 + j) % 8 = j by omega]
            simp
        · have hj8 : j = 8 := by omega
          subst hj8
          go_wp2
          go_roundw
          case rel => exact ⟨hB, hs, hA, .inr (.inl ⟨rfl, hO⟩)⟩
          case measure => simp [intOf]
    · have hA' := hA
      obtain ⟨⟨ac0, ac1, ac2, ac3⟩, _⟩ := hA'
      have hv := W_shr b 0 hb
      go_wp2
      go_loopw [5, 6] (fun x k wq => ∃ j : Nat, j ≤ 8 ∧ k = .int .i64 j ∧ x = .int .u64 (b / 2 ^ (j * 8)) ∧ Below w.heap.size w wq ∧ w.heap.size + 1 < wq.heap.size ∧ C4 wq w.heap.size a b c d ∧ CB wq (w.heap.size + 1) (8 + j) a b c d) (fun _ k _ => 8 - (intOf k).toNat)
      case atStart => exact ⟨0, by omega, rfl, by simp, hB, hs, hA, hO⟩
      case round =>
        clear hB hs hA hO ac0 ac1 ac2 ac3 hv
        obtain ⟨j, hj, rfl, rfl, hB, hs, hA, hO⟩ := hrel
        obtain ⟨x0, x1⟩ := W_shr b (j * 8) hb
        by_cases hlt : j < 8
        · have hlt' : (j : Int) < 8 := by omega
          obtain ⟨oc, of⟩ := hO (31 - (8 + j)) (by omega)
          have hz : (if 32 ≤ 31 - (8 + j) + (8 + j) then byp a b c d (31 - (31 - (8 + j))) else 0) = 0 := if_neg (by omega)
          rw [hz, show 31 - (8 + j) = 23 - j by omega] at oc
          rw [show 31 - (8 + j) = 23 - j by omega] at of
          clear hz
          have H8 : Hid _ := shr8 b j
          go_wp2
          refine ⟨⟨j + 1, by omega, by go_num, congrArg (Value.int IntKind.u64) H8.out, ?_, by simpa using hs, hA.other _ (by simp) _, hO.set' (by omega) (by omega) _ ?_⟩, by simp [intOf]; omega⟩
          · exact hB.setCell (by show _ ≤ _; simp) _
          · unfold byp
            rw [show (8 + j) / 8 = 1 by omega, show (8 + j) % 8 = j by omega]
            simp
        · have hj8 : j = 8 := by omega
          subst hj8
          go_wp2
          go_roundw
          case rel => exact ⟨hB, hs, hA, .inr (.inr (.inl ⟨rfl, hO⟩))⟩
          case measure => simp [intOf]
    · have hA' := hA
      obtain ⟨⟨ac0, ac1, ac2, ac3⟩, _⟩ := hA'
      have hv := W_shr c 0 hc
      go_wp2
      go_loopw [5, 6] (fun x k wq => ∃ j : Nat, j ≤ 8 ∧ k = .int .i64 j ∧ x = .int .u64 (c / 2 ^ (j * 8)) ∧ Below w.heap.size w wq ∧ w.heap.size + 1 < wq.heap.size ∧ C4 wq w.heap.size a b c d ∧ CB wq (w.heap.size + 1) (16 + j) a b c d) (fun _ k _ => 8 - (intOf k).toNat)
      case atStart => exact ⟨0, by omega, rfl, by simp, hB, hs, hA, hO⟩
      case round =>
        clear hB hs hA hO ac0 ac1 ac2 ac3 hv
        obtain ⟨j, hj, rfl, rfl, hB, hs, hA, hO⟩ := hrel
        obtain ⟨x0, x1⟩ := W_shr c (j * 8) hc
        by_cases hlt : j < 8
        · have hlt' : (j : Int) < 8 := by omega
          obtain ⟨oc, of⟩ := hO (31 - (16 + j)) (by omega)
          have hz : (if 32 ≤ 31 - (16 + j) + (16 + j) then byp a b c d (31 - (31 - (16 + j))) else 0) = 0 := if_neg (by omega)
          rw [hz, show 31 - (16 + j) = 15 - j by omega] at oc
          rw [show 31 - (16 + j) = 15 - j by omega] at of
          clear hz
          have H8 : Hid _ := shr8 c j
          go_wp2
          refine ⟨⟨j + 1, by omega, by go_num, congrArg (Value.int IntKind.u64) H8.out, ?_, by simpa using hs, hA.other _ (by simp) _, hO.set' (by omega) (by omega) _ ?_⟩, by simp [intOf]; omega⟩
          · exact hB.setCell (by show _ ≤ _; simp) _
          · unfold byp
            rw [show (16 + j) / 8 = 2 by omega, show (16 + j) % 8 = j by omega]
            simp
        · have hj8 : j = 8 := by omega
          subst hj8
          go_wp2
          go_roundw
          case rel => exact ⟨hB, hs, hA, .inr (.inr (.inr (.inl ⟨rfl, hO⟩)))⟩
          case measure => simp [intOf]
    · have hA' := hA
      obtain ⟨⟨ac0, ac1, ac2, ac3⟩, _⟩ := hA'
      have hv := W_shr d 0 hd
      go_wp2
      go_loopw [5, 6] (fun x k wq => ∃ j : Nat, j ≤ 8 ∧ k = .int .i64 j ∧ x = .int .u64 (d / 2 ^ (j * 8)) ∧ Below w.heap.size w wq ∧ w.heap.size + 1 < wq.heap.size ∧ C4 wq w.heap.size a b c d ∧ CB wq (w.heap.size + 1) (24 + j) a b c d) (fun _ k _ => 8 - (intOf k).toNat)
      case atStart => exact ⟨0, by omega, rfl, by simp, hB, hs, hA, hO⟩
      case round =>
        clear hB hs hA hO ac0 ac1 ac2 ac3 hv
        obtain ⟨j, hj, rfl, rfl, hB, hs, hA, hO⟩ := hrel
        obtain ⟨x0, x1⟩ := W_shr d (j * 8) hd
        by_cases hlt : j < 8
        · have hlt' : (j : Int) < 8 := by omega
          obtain ⟨oc, of⟩ := hO (31 - (24 + j)) (by omega)
          have hz : (if 32 ≤ 31 - (24 + j) + (24 + j) then byp a b c d (31 - (31 - (24 + j))) else 0) = 0 := if_neg (by omega)
          rw [hz, show 31 - (24 + j) = 7 - j by omega] at oc
          rw [show 31 - (24 + j) = 7 - j by omega] at of
          clear hz
          have H8 : Hid _ := shr8 d j
          go_wp2
          refine ⟨⟨j + 1, by omega, by go_num, congrArg (Value.int IntKind.u64) H8.out, ?_, by simpa using hs, hA.other _ (by simp) _, hO.set' (by omega) (by omega) _ ?_⟩, by simp [intOf]; omega⟩
          · exact hB.setCell (by show _ ≤ _; simp) _
          · unfold byp
            rw [show (24 + j) / 8 = 3 by omega, show (24 + j) % 8 = j by omega]
            simp
        · have hj8 : j = 8 := by omega
          subst hj8
          go_wp2
          go_roundw
          case rel => exact ⟨hB, hs, hA, .inr (.inr (.inr (.inr (⟨rfl, hO⟩))))⟩
          case measure => simp [intOf]
    · go_wp2
      go_ret
      exact ⟨w.heap.size + 1, rfl, hO, by omega, hs, hB⟩
/-- The bytes as a list. -/
def byl (a b c d : Int) : List Int := (List.range 32).map fun j => byp a b c d (31 - j)
theorem CB.get {w : World} {g : Nat} {a b c d : Int} (h : CB w g 32 a b c d) : ∀ i, i < 32 → w.cell? ⟨g, 0 + i, none⟩ = some (.int .u8 ((byl a b c d).getD i 0)) := fun i hi => by
  have := (h i hi).1
  rw [if_pos (by omega)] at this
  rw [Nat.zero_add, this]
  unfold byl
  simp [List.getD, hi]
set_option maxHeartbeats 1000000 in
theorem same_any (g1 g2 : Nat) (a b c d : Int) (w : World) (h1 : CB w g1 32 a b c d) (h2 : CB w g2 32 a b c d) :
    Calls Try.prog 26 #[.slice (some ⟨g1, 0, none⟩) 32 32, .slice (some ⟨g2, 0, none⟩) 32 32] w fun en w' => en = .returned (.bool true) ∧ w' = w := by
  have k1 := run_convert_bytes_arg (P := Try.prog) w 41 5 Try.underlying41 Try.underlying5 g1 0 32 32 (byl a b c d) (by simp [byl]) h1.get 9 Try.underlying9
  have k2 := run_convert_bytes_arg (P := Try.prog) w 41 5 Try.underlying41 Try.underlying5 g2 0 32 32 (byl a b c d) (by simp [byl]) h2.get 9 Try.underlying9
  clear h1 h2
  go_enter Try.func26, Try.ntmps26
  go_wp2
  go_ret
  exact ⟨by simp, rfl⟩
end Go.Proofs.Ytajpjbhppjlehaa
