/- Walks: limb's Bytes. -/
import Derived.Test.YtkpnjmfndgfogaaNN
import Derived.Laws.BytesArg
namespace Go.Proofs.Ytkpnjmfndgfogaa
open Go.RowKit
set_option linter.unusedSimpArgs false
set_option linter.unusedVariables false

/-- The byte at a place, counted from the lowest. -/
def byp (a b c d : Int) (p : Nat) : Int := (if p / 8 = 0 then a else if p / 8 = 1 then b else if p / 8 = 2 then c else d) / 2 ^ (p % 8 * 8) % 256
/-- Thirty-two bytes in a block, those from place 32 - k on laid. -/
def CB (w : World) (n k : Nat) (a b c d : Int) : Prop := ∀ j, j < 32 → w.cell? ⟨n, j, none⟩ = some (.int .u8 (if 32 ≤ j + k then byp a b c d (31 - j) else 0)) ∧ w.frozen? ⟨n, j, none⟩ = false
theorem CB.below {w w' : World} {m n k : Nat} {a b c d : Int} (h : CB w n k a b c d) (hb : Below m w w') (hn : n < m) : CB w' n k a b c d := fun j hj => by
  rw [hb.cell (p := ⟨n, j, none⟩) hn, hb.frozen (p := ⟨n, j, none⟩) hn]; exact h j hj
theorem CB.set {w : World} {n k : Nat} {a b c d : Int} (h : CB w n k a b c d) (hk : k < 32) (v : Int) (hv : v = byp a b c d k) : CB (w.setCell ⟨n, 31 - k, none⟩ (.int .u8 v)) n (k + 1) a b c d := fun j hj => by
  rw [World.frozen?_setCell]
  obtain ⟨hc, hf⟩ := h (31 - k) (by omega)
  by_cases e : j = 31 - k
  · subst e
    refine ⟨?_, hf⟩
    rw [if_pos (by omega), show 31 - (31 - k) = k by omega, hv]
    simp [go_sem, hc]
  · obtain ⟨hc', hf'⟩ := h j hj
    refine ⟨?_, hf'⟩
    rw [World.cell?_setCell_other _ _ _ _ (by simp <;> omega), hc']
    by_cases g : 32 ≤ j + k
    · rw [if_pos g, if_pos (by omega)]
    · rw [if_neg g, if_neg (by omega)]
def z32b : Array Value := Array.replicate 32 (.int .u8 0)
theorem CB.new (w : World) (a b c d : Int) : CB (w.alloc (.cells z32b 5)) w.heap.size 0 a b c d := fun j hj => by
  have hf : (w.alloc (.cells z32b 5)).frozen? ⟨w.heap.size, j, none⟩ = false := by simp [go_sem]
  refine ⟨?_, hf⟩
  rw [cell_of_row _ w.heap.size j _ 5 (0, 0) (heap_alloc_new _ _), if_neg (by omega)]
  simp [z32b, hj]
theorem byp_bd (a b c d : Int) (p : Nat) : 0 ≤ byp a b c d p ∧ byp a b c d p < 256 := by unfold byp; omega
set_option maxRecDepth 100000 in
set_option maxHeartbeats 4000000 in
theorem Bytes_any (a b c d : Int) (w : World) (ha : W64 a) (hb : W64 b) (hc : W64 c) (hd : W64 d) :
    Calls Try.prog 19 #[A4 a b c d] w fun en w' => ∃ g, en = .returned (.slice (some ⟨g, 0, none⟩) 32 32) ∧ CB w' g 32 a b c d ∧ w.heap.size ≤ g ∧ g < w'.heap.size ∧ Below w.heap.size w w' := by
  have hmk : ∀ w, (Instr.makeSlice 22 (.int .i64 32) (.int .i64 32)).run Try.prog w = .ok (.slice (some ⟨w.heap.size, 0, none⟩) 32 32) (w.alloc (.cells z32b 5)) := fun _ => by kernel_rfl
  obtain ⟨a1, a2⟩ := ha
  obtain ⟨b1, b2⟩ := hb
  obtain ⟨c1, c2⟩ := hc
  obtain ⟨d1, d2⟩ := hd
  go_enter Try.func19, Try.ntmps19
  go_wp2
  go_loopw [6] (fun i wr => ∃ k : Nat, k ≤ 32 ∧ i = .int .i64 k ∧ Below w.heap.size w wr ∧ w.heap.size + 1 < wr.heap.size ∧ C4 wr w.heap.size a b c d ∧ CB wr (w.heap.size + 1) k a b c d) (fun i _ => 32 - (intOf i).toNat)
  case atStart =>
    refine ⟨0, by omega, rfl, ?_, by simp, by unfold C4; simp [go_sem], ?_⟩
    · repeat' (first | (with_reducible exact Below.refl _ _) | (with_reducible assumption) | (with_reducible refine below_drewN ?_ _) | (with_reducible refine Below.drew ?_) | (with_reducible refine Below.setCell ?_ ?_ _) | (with_reducible refine Below.alloc ?_ ?_ _) | go_size)
    · have := CB.new (w.alloc (.cells #[.int .u64 a, .int .u64 b, .int .u64 c, .int .u64 d] 25)) a b c d
      simpa using this
  case round =>
    obtain ⟨k, hk, rfl, hB, hs, hA, hO⟩ := hrel
    by_cases hlt : k < 32
    · have hlt' : (k : Int) < 32 := by omega
      have hA' := hA
      obtain ⟨⟨ac0, ac1, ac2, ac3⟩, _⟩ := hA'
      obtain ⟨oc, of⟩ := hO (31 - k) (by omega)
      have hz : (if 32 ≤ 31 - k + k then byp a b c d (31 - (31 - k)) else 0) = 0 := if_neg (by omega)
      rw [hz] at oc
      clear hz
      have hq : k / 8 = 0 ∨ k / 8 = 1 ∨ k / 8 = 2 ∨ k / 8 = 3 := by omega
      rcases hq with hq | hq | hq | hq
      · have hq' : (k : Int) / 8 = 0 := by omega
        go_wp2
        refine ⟨⟨k + 1, by omega, by go_num, ?_, by simpa using hs, hA.other _ (by simp) _, hO.set hlt _ ?_⟩, by simp [intOf]; omega⟩
        · exact hB.setCell (by show _ ≤ _; simp) _
        · unfold byp; simp [hq]
      · have hq' : (k : Int) / 8 = 1 := by omega
        go_wp2
        refine ⟨⟨k + 1, by omega, by go_num, ?_, by simpa using hs, hA.other _ (by simp) _, hO.set hlt _ ?_⟩, by simp [intOf]; omega⟩
        · exact hB.setCell (by show _ ≤ _; simp) _
        · unfold byp; simp [hq]
      · have hq' : (k : Int) / 8 = 2 := by omega
        go_wp2
        refine ⟨⟨k + 1, by omega, by go_num, ?_, by simpa using hs, hA.other _ (by simp) _, hO.set hlt _ ?_⟩, by simp [intOf]; omega⟩
        · exact hB.setCell (by show _ ≤ _; simp) _
        · unfold byp; simp [hq]
      · have hq' : (k : Int) / 8 = 3 := by omega
        go_wp2
        refine ⟨⟨k + 1, by omega, by go_num, ?_, by simpa using hs, hA.other _ (by simp) _, hO.set hlt _ ?_⟩, by simp [intOf]; omega⟩
        · exact hB.setCell (by show _ ≤ _; simp) _
        · unfold byp; simp [hq]
    · have hk32 : k = 32 := by omega
      subst hk32
      go_wp2
      go_ret
      exact ⟨w.heap.size + 1, rfl, hO, by omega, hs, hB⟩
end Go.Proofs.Ytkpnjmfndgfogaa
