/- Walks: limb's Read. -/
import Derived.Test.YtkpnjmfndgfogaaC0
import Derived.Test.YtkpnjmfndgfogaaW2
import Derived.BigRegion
namespace Go.Proofs.Ytkpnjmfndgfogaa
open Go.RowKit
set_option linter.unusedSimpArgs false
set_option linter.unusedVariables false

/-- The bytes xs lie from o on in block g. -/
def SB (w : World) (g o : Nat) (xs : List Int) : Prop := ∀ j, j < xs.length → w.cell? ⟨g, o + j, none⟩ = some (.int .u8 (xs.getD j 0))
theorem SB.below {w w' : World} {m g o : Nat} {xs : List Int} (h : SB w g o xs) (hb : Below m w w') (hg : g < m) : SB w' g o xs := fun j hj => (hb.cell (p := ⟨g, o + j, none⟩) hg).trans (h j hj)
set_option maxHeartbeats 1000000 in
theorem Read_long (g o n cap : Nat) (w : World) (hn : 32 < n) (hm : n ≤ 100) :
    Calls Try.prog 13 #[.slice (some ⟨g, o, none⟩) n cap] w fun en w' => en = .returned (.tuple #[A4 0 0 0 0, .int .i64 3]) ∧ Below w.heap.size w w' := by
  have hn' : (32 : Int) < (n : Int) := by omega
  go_enter Try.func13, Try.ntmps13
  go_wp2
  refine bodyPost_ret (v := .tuple #[A4 0 0 0 0, .int .i64 3]) (by simp [results, Try.results13, go_sem]) rfl ⟨rfl, ?_⟩
  repeat' (first | (with_reducible exact Below.refl _ _) | (with_reducible assumption) | (with_reducible refine below_drewN ?_ _) | (with_reducible refine Below.drew ?_) | (with_reducible refine Below.setCell ?_ ?_ _) | (with_reducible refine Below.alloc ?_ ?_ _) | go_size)
set_option maxRecDepth 100000 in
set_option maxHeartbeats 4000000 in
theorem Read_any (g o cap : Nat) (xs : List Int) (w : World) (hn : xs.length ≤ 32) (hx : Bytes8 xs) (hg : g < w.heap.size) (hS : SB w g o xs) :
    Calls Try.prog 13 #[.slice (some ⟨g, o, none⟩) xs.length cap] w fun en w' => en = .returned (.tuple #[A4 (Tk xs 0 xs.length) (Tk xs 1 xs.length) (Tk xs 2 xs.length) (Tk xs 3 xs.length), .int .i64 0]) ∧ Below w.heap.size w w' := by
  obtain ⟨n, en⟩ : ∃ n, xs.length = n := ⟨_, rfl⟩
  have hn' : ¬ (32 : Int) < (n : Int) := by omega
  have hn2 : (n : Int) ≤ 32 := by omega
  rw [en]
  have EN : Hid _ := en
  clear en
  go_enter Try.func13, Try.ntmps13
  go_wp2
  go_loopw [12] (fun i wr => ∃ k : Nat, k ≤ n ∧ i = .int .i64 k ∧ Below w.heap.size w wr ∧ w.heap.size + 1 < wr.heap.size ∧ C4 wr w.heap.size 0 0 0 0 ∧ C4 wr (w.heap.size + 1) (Tk xs 0 k) (Tk xs 1 k) (Tk xs 2 k) (Tk xs 3 k)) (fun i _ => n - (intOf i).toNat)
  case atStart =>
    refine ⟨0, by omega, rfl, ?_, by simp, by unfold C4; simp [go_sem], by unfold C4; simp [go_sem, Tk]⟩
    repeat' (first | (with_reducible exact Below.refl _ _) | (with_reducible assumption) | (with_reducible refine below_drewN ?_ _) | (with_reducible refine Below.drew ?_) | (with_reducible refine Below.setCell ?_ ?_ _) | (with_reducible refine Below.alloc ?_ ?_ _) | go_size)
  case round =>
    obtain ⟨k, hk, rfl, hB, hs, hR, hA⟩ := hrel
    by_cases hlt : k < n
    · have hlt' : (k : Int) < (n : Int) := by omega
      have hA' := hA
      obtain ⟨⟨ac0, ac1, ac2, ac3⟩, af0, af1, af2, af3⟩ := hA'
      have hc := (hS.below hB hg) (n - 1 - k) (by have := EN.out; omega)
      have hxe : xs.getD (n - 1 - k) 0 = bv xs k := by unfold bv; rw [EN.out]
      have hxb := bv_bd xs hx k
      rw [hxe] at hc
      have T0 : Hid _ := fun hq => Tk_or xs hx k 0 hq
      have T1 : Hid _ := fun hq => Tk_or xs hx k 1 hq
      have T2 : Hid _ := fun hq => Tk_or xs hx k 2 hq
      have T3 : Hid _ := fun hq => Tk_or xs hx k 3 hq
      obtain ⟨x, ex⟩ : ∃ x, bv xs k = x := ⟨_, rfl⟩
      rw [ex] at hc hxb
      obtain ⟨x0, x1⟩ := hxb
      have EX : Hid _ := ex
      clear hxe ex
      have hq : k / 8 = 0 ∨ k / 8 = 1 ∨ k / 8 = 2 ∨ k / 8 = 3 := by omega
      rcases hq with hq | hq | hq | hq
      · have hq' : (k : Int) / 8 = 0 := by omega
        have HQ : Hid _ := hq
        clear hq
        generalize wr = u at *
        go_wp2
        go_region
        go_wp2
        refine ⟨⟨k + 1, by omega, by go_num, ?_, by simpa using hs, hR.other _ (by simp <;> omega) _, ?_⟩, by simp [intOf]; omega⟩
        · repeat' (first | (with_reducible exact Below.refl _ _) | (with_reducible assumption) | (with_reducible refine below_drewN ?_ _) | (with_reducible refine Below.drew ?_) | (with_reducible refine Below.setCell ?_ ?_ _) | (with_reducible refine Below.alloc ?_ ?_ _) | go_size)
        · have ht := T0.out HQ.out
          rw [EX.out] at ht
          have hf := HQ.out
          rw [← ht, Tk_keep xs k 1 (by omega), Tk_keep xs k 2 (by omega), Tk_keep xs k 3 (by omega)]
          exact (hA.set0 _)
      · have hq' : (k : Int) / 8 = 1 := by omega
        have HQ : Hid _ := hq
        clear hq
        generalize wr = u at *
        go_wp2
        go_region
        go_wp2
        refine ⟨⟨k + 1, by omega, by go_num, ?_, by simpa using hs, hR.other _ (by simp <;> omega) _, ?_⟩, by simp [intOf]; omega⟩
        · repeat' (first | (with_reducible exact Below.refl _ _) | (with_reducible assumption) | (with_reducible refine below_drewN ?_ _) | (with_reducible refine Below.drew ?_) | (with_reducible refine Below.setCell ?_ ?_ _) | (with_reducible refine Below.alloc ?_ ?_ _) | go_size)
        · have ht := T1.out HQ.out
          rw [EX.out] at ht
          have hf := HQ.out
          rw [← ht, Tk_keep xs k 0 (by omega), Tk_keep xs k 2 (by omega), Tk_keep xs k 3 (by omega)]
          exact (hA.set1 _)
      · have hq' : (k : Int) / 8 = 2 := by omega
        have HQ : Hid _ := hq
        clear hq
        generalize wr = u at *
        go_wp2
        go_region
        go_wp2
        refine ⟨⟨k + 1, by omega, by go_num, ?_, by simpa using hs, hR.other _ (by simp <;> omega) _, ?_⟩, by simp [intOf]; omega⟩
        · repeat' (first | (with_reducible exact Below.refl _ _) | (with_reducible assumption) | (with_reducible refine below_drewN ?_ _) | (with_reducible refine Below.drew ?_) | (with_reducible refine Below.setCell ?_ ?_ _) | (with_reducible refine Below.alloc ?_ ?_ _) | go_size)
        · have ht := T2.out HQ.out
          rw [EX.out] at ht
          have hf := HQ.out
          rw [← ht, Tk_keep xs k 0 (by omega), Tk_keep xs k 1 (by omega), Tk_keep xs k 3 (by omega)]
          exact (hA.set2 _)
      · have hq' : (k : Int) / 8 = 3 := by omega
        have HQ : Hid _ := hq
        clear hq
        generalize wr = u at *
        go_wp2
        go_region
        go_wp2
        refine ⟨⟨k + 1, by omega, by go_num, ?_, by simpa using hs, hR.other _ (by simp <;> omega) _, ?_⟩, by simp [intOf]; omega⟩
        · repeat' (first | (with_reducible exact Below.refl _ _) | (with_reducible assumption) | (with_reducible refine below_drewN ?_ _) | (with_reducible refine Below.drew ?_) | (with_reducible refine Below.setCell ?_ ?_ _) | (with_reducible refine Below.alloc ?_ ?_ _) | go_size)
        · have ht := T3.out HQ.out
          rw [EX.out] at ht
          have hf := HQ.out
          rw [← ht, Tk_keep xs k 0 (by omega), Tk_keep xs k 1 (by omega), Tk_keep xs k 2 (by omega)]
          exact (hA.set3 _)
    · have hkn : k = n := by omega
      subst hkn
      obtain ⟨⟨ac0, ac1, ac2, ac3⟩, _⟩ := hA
      obtain ⟨⟨rc0, rc1, rc2, rc3⟩, rf0, rf1, rf2, rf3⟩ := hR
      have y0 : w.heap.size < wr.heap.size := by omega
      go_wp2
      refine bodyPost_ret (v := .tuple #[A4 (Tk xs 0 k) (Tk xs 1 k) (Tk xs 2 k) (Tk xs 3 k), .int .i64 0]) (by simp [results, Try.results13, go_sem, *]) rfl ⟨rfl, ?_⟩
      repeat' (first | (with_reducible exact Below.refl _ _) | (with_reducible assumption) | (with_reducible refine below_drewN ?_ _) | (with_reducible refine Below.drew ?_) | (with_reducible refine Below.setCell ?_ ?_ _) | (with_reducible refine Below.alloc ?_ ?_ _) | go_size)
end Go.Proofs.Ytkpnjmfndgfogaa
