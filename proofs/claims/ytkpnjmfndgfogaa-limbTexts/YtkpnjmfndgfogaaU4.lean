/- Walks: the reference's Read. -/
import Derived.Test.YtkpnjmfndgfogaaC1
import Derived.Test.YtkpnjmfndgfogaaU0
namespace Go.Proofs.Ytkpnjmfndgfogaa
open Go.RowKit
set_option linter.unusedSimpArgs false
set_option linter.unusedVariables false
theorem step8 (b : Int) (j q : Nat) (h0 : 0 ≤ b) (h1 : b < 256) (hj : j < q) (hq : q < 8) : IntKind.u64.wrap (b * 2 ^ (j * 8) * 256) = b * 2 ^ ((j + 1) * 8) := by
  rw [show (j + 1) * 8 = j * 8 + 8 by omega, Int.pow_add, show (2 : Int) ^ 8 = 256 by rfl, IntKind.wrap_u64, Int.mul_assoc]
  refine Int.emod_eq_of_lt (Int.mul_nonneg h0 (by have := pow_pos2 (j * 8); omega)) ?_
  have hp : (2 : Int) ^ (j * 8) ≤ 2 ^ 48 := by
    obtain ⟨d, hd⟩ : ∃ d, 48 = j * 8 + d := ⟨48 - j * 8, by omega⟩
    rw [hd, Int.pow_add]
    have p1 := pow_pos2 d
    have := Int.mul_le_mul_of_nonneg_left (show (1 : Int) ≤ 2 ^ d by omega) (Int.le_of_lt (pow_pos2 (j * 8)))
    omega
  have m : b * (2 ^ (j * 8) * 256) ≤ 255 * (2 ^ (j * 8) * 256) := Int.mul_le_mul_of_nonneg_right (by omega) (by have := pow_pos2 (j * 8); omega)
  have : (2 : Int) ^ 48 = 281474976710656 := by rfl
  omega
set_option maxHeartbeats 1000000 in
theorem rRead_long (sl : Option Addr) (n cap : Nat) (w : World) (hn : 32 < n) (hm : n ≤ 100) :
    Calls Try.prog 15 #[.slice sl n cap] w fun en w' => en = .returned (.tuple #[A4 0 0 0 0, .int .i64 3]) ∧ Below w.heap.size w w' := by
  have hn' : (32 : Int) < (n : Int) := by omega
  go_enter Try.func15, Try.ntmps15
  go_wp2
  refine bodyPost_ret (v := .tuple #[A4 0 0 0 0, .int .i64 3]) (by simp [results, Try.results15, go_sem]) rfl ⟨rfl, ?_⟩
  repeat' (first | (with_reducible exact Below.refl _ _) | (with_reducible assumption) | (with_reducible refine below_drewN ?_ _) | (with_reducible refine Below.drew ?_) | (with_reducible refine Below.setCell ?_ ?_ _) | (with_reducible refine Below.alloc ?_ ?_ _) | go_size)
set_option maxRecDepth 100000 in
set_option maxHeartbeats 4000000 in
theorem rRead_nil (sl : Option Addr) (cap : Nat) (w : World) :
    Calls Try.prog 15 #[.slice sl 0 cap] w fun en w' => en = .returned (.tuple #[A4 0 0 0 0, .int .i64 0]) ∧ Below w.heap.size w w' := by
  go_enter Try.func15, Try.ntmps15
  go_wp2
  go_loopw [5, 6, 7, 8] (fun i _ _ _ wr => i = .int .i64 0 ∧ Below w.heap.size w wr ∧ w.heap.size + 1 < wr.heap.size ∧ C4 wr w.heap.size 0 0 0 0 ∧ C4 wr (w.heap.size + 1) 0 0 0 0) (fun i _ _ _ _ => 0)
  case atStart =>
    refine ⟨rfl, ?_, by simp, by unfold C4; simp [go_sem], by unfold C4; simp [go_sem]⟩
    repeat' (first | (with_reducible exact Below.refl _ _) | (with_reducible assumption) | (with_reducible refine below_drewN ?_ _) | (with_reducible refine Below.drew ?_) | (with_reducible refine Below.setCell ?_ ?_ _) | (with_reducible refine Below.alloc ?_ ?_ _) | go_size)
  case round =>
    obtain ⟨rfl, hB, hs, hR, hA⟩ := hrel
    obtain ⟨⟨ac0, ac1, ac2, ac3⟩, _⟩ := hA
    obtain ⟨⟨rc0, rc1, rc2, rc3⟩, rf0, rf1, rf2, rf3⟩ := hR
    have y0 : w.heap.size < wr.heap.size := by omega
    go_wp2
    refine bodyPost_ret (v := .tuple #[A4 0 0 0 0, .int .i64 0]) (by simp [results, Try.results15, go_sem, *]) rfl ⟨rfl, ?_⟩
    repeat' (first | (with_reducible exact Below.refl _ _) | (with_reducible assumption) | (with_reducible refine below_drewN ?_ _) | (with_reducible refine Below.drew ?_) | (with_reducible refine Below.setCell ?_ ?_ _) | (with_reducible refine Below.alloc ?_ ?_ _) | go_size)
set_option maxRecDepth 100000 in
set_option maxHeartbeats 4000000 in
theorem rRead_any (g o cap : Nat) (xs : List Int) (w : World) (hn : xs.length ≤ 32) (hx : Bytes8 xs) (hg : g < w.heap.size) (hS : SB w g o xs) :
    Calls Try.prog 15 #[.slice (some ⟨g, o, none⟩) xs.length cap] w fun en w' => en = .returned (.tuple #[A4 (Tk xs 0 xs.length) (Tk xs 1 xs.length) (Tk xs 2 xs.length) (Tk xs 3 xs.length), .int .i64 0]) ∧ Below w.heap.size w w' := by
  obtain ⟨n, en⟩ : ∃ n, xs.length = n := ⟨_, rfl⟩
  have hn' : ¬ (32 : Int) < (n : Int) := by omega
  have hn2 : (n : Int) ≤ 32 := by omega
  rw [en]
  have EN : Hid _ := en
  clear en
  go_enter Try.func15, Try.ntmps15
  go_wp2
  go_loopw [5, 6, 7, 8] (fun i _ _ _ wr => ∃ k : Nat, k ≤ n ∧ i = .int .i64 k ∧ Below w.heap.size w wr ∧ w.heap.size + 1 < wr.heap.size ∧ C4 wr w.heap.size 0 0 0 0 ∧ C4 wr (w.heap.size + 1) (Tk xs 0 n - Tk xs 0 (n - k)) (Tk xs 1 n - Tk xs 1 (n - k)) (Tk xs 2 n - Tk xs 2 (n - k)) (Tk xs 3 n - Tk xs 3 (n - k))) (fun i _ _ _ _ => n - (intOf i).toNat)
  case atStart =>
    refine ⟨0, by omega, rfl, ?_, by simp, by unfold C4; simp [go_sem], by unfold C4; simp [go_sem]⟩
    repeat' (first | (with_reducible exact Below.refl _ _) | (with_reducible assumption) | (with_reducible refine below_drewN ?_ _) | (with_reducible refine Below.drew ?_) | (with_reducible refine Below.setCell ?_ ?_ _) | (with_reducible refine Below.alloc ?_ ?_ _) | go_size)
  case round =>
    obtain ⟨k, hk, rfl, hB, hs, hR, hA⟩ := hrel
    by_cases hlt : k < n
    · have hlt' : (k : Int) < (n : Int) := by omega
      obtain ⟨p, hp⟩ : ∃ p, p = n - 1 - k := ⟨_, rfl⟩
      have hp' : (n : Int) - 1 - k = p := by omega
      have HP : Hid (n - k = p + 1 ∧ p < n) := ⟨by omega, by omega⟩
      have hpb : (p : Int) < 32 := by omega
      have hc := (hS.below hB hg) k (by have := EN.out; omega)
      have hxe : xs.getD k 0 = bv xs p := by unfold bv; rw [EN.out]; congr 1; omega
      rw [hxe] at hc
      rw [HP.out.1] at hA
      have hxb := bv_bd xs hx p
      have hA' := hA
      obtain ⟨⟨ac0, ac1, ac2, ac3⟩, af0, af1, af2, af3⟩ := hA'
      have T0 : Hid _ := fun hq => Tk_top xs hx p n 0 HP.out.2 hq
      have T1 : Hid _ := fun hq => Tk_top xs hx p n 1 HP.out.2 hq
      have T2 : Hid _ := fun hq => Tk_top xs hx p n 2 HP.out.2 hq
      have T3 : Hid _ := fun hq => Tk_top xs hx p n 3 HP.out.2 hq
      obtain ⟨x, ex⟩ : ∃ x, bv xs p = x := ⟨_, rfl⟩
      rw [ex] at hc hxb
      obtain ⟨x0, x1⟩ := hxb
      have EX : Hid _ := ex
      have HS : Hid _ := hS
      clear hxe ex hp hS
      generalize wr = u at *
      go_wp2
      go_loop [7, 8] (fun vx vj => ∃ j : Nat, j ≤ p % 8 ∧ vj = .int .i64 j ∧ vx = .int .u64 (x * 2 ^ (j * 8))) (fun _ vj => p % 8 - (intOf vj).toNat)
      case atStart => exact ⟨0, by omega, rfl, by simp⟩
      case round =>
        obtain ⟨j, hj, rfl, rfl⟩ := hrel
        by_cases hj2 : j < p % 8
        · have hj3 : (j : Int) < (p : Int) % 8 := by omega
          have H8 : Hid _ := step8 x j (p % 8) x0 x1 hj2 (by omega)
          generalize x * 2 ^ (j * 8) = y at *
          go_wp2
          go_roundw
          case rel => exact ⟨j + 1, by omega, by go_num, congrArg (Value.int IntKind.u64) H8.out⟩
          case measure => simp [intOf]; omega
        · have hje : j = p % 8 := by omega
          subst hje
          have hj3 : ¬ ((p % 8 : Nat) : Int) < (p : Int) % 8 := by omega
          obtain ⟨y, ey⟩ : ∃ y, x * 2 ^ (p % 8 * 8) = y := ⟨_, rfl⟩
          rw [ey]
          have hq : p / 8 = 0 ∨ p / 8 = 1 ∨ p / 8 = 2 ∨ p / 8 = 3 := by omega
          have EY : Hid _ := ey
          clear ey
          rcases hq with hq | hq | hq | hq
          · have hq' : (p : Int) / 8 = 0 := by omega
            have HQ : Hid _ := hq
            clear hq
            go_wp2
            go_roundw
            case rel =>
              refine ⟨k + 1, by omega, by go_num, ?_, by simpa using hs, hR.other _ (by simp <;> omega) _, ?_⟩
              · repeat' (first | (with_reducible exact Below.refl _ _) | (with_reducible assumption) | (with_reducible refine below_drewN ?_ _) | (with_reducible refine Below.drew ?_) | (with_reducible refine Below.setCell ?_ ?_ _) | (with_reducible refine Below.alloc ?_ ?_ _) | go_size)
              · have ht := T0.out HQ.out
                rw [EX.out, EY.out] at ht
                have hf := HQ.out
                rw [show n - (k + 1) = p by have := HP.out; omega, ← ht, ← Tk_keep xs p 1 (by omega), ← Tk_keep xs p 2 (by omega), ← Tk_keep xs p 3 (by omega)]
                exact (hA.set0 _)
            case measure => simp [intOf]; omega
          · have hq' : (p : Int) / 8 = 1 := by omega
            have HQ : Hid _ := hq
            clear hq
            go_wp2
            go_roundw
            case rel =>
              refine ⟨k + 1, by omega, by go_num, ?_, by simpa using hs, hR.other _ (by simp <;> omega) _, ?_⟩
              · repeat' (first | (with_reducible exact Below.refl _ _) | (with_reducible assumption) | (with_reducible refine below_drewN ?_ _) | (with_reducible refine Below.drew ?_) | (with_reducible refine Below.setCell ?_ ?_ _) | (with_reducible refine Below.alloc ?_ ?_ _) | go_size)
              · have ht := T1.out HQ.out
                rw [EX.out, EY.out] at ht
                have hf := HQ.out
                rw [show n - (k + 1) = p by have := HP.out; omega, ← ht, ← Tk_keep xs p 0 (by omega), ← Tk_keep xs p 2 (by omega), ← Tk_keep xs p 3 (by omega)]
                exact (hA.set1 _)
            case measure => simp [intOf]; omega
          · have hq' : (p : Int) / 8 = 2 := by omega
            have HQ : Hid _ := hq
            clear hq
            go_wp2
            go_roundw
            case rel =>
              refine ⟨k + 1, by omega, by go_num, ?_, by simpa using hs, hR.other _ (by simp <;> omega) _, ?_⟩
              · repeat' (first | (with_reducible exact Below.refl _ _) | (with_reducible assumption) | (with_reducible refine below_drewN ?_ _) | (with_reducible refine Below.drew ?_) | (with_reducible refine Below.setCell ?_ ?_ _) | (with_reducible refine Below.alloc ?_ ?_ _) | go_size)
              · have ht := T2.out HQ.out
                rw [EX.out, EY.out] at ht
                have hf := HQ.out
                rw [show n - (k + 1) = p by have := HP.out; omega, ← ht, ← Tk_keep xs p 0 (by omega), ← Tk_keep xs p 1 (by omega), ← Tk_keep xs p 3 (by omega)]
                exact (hA.set2 _)
            case measure => simp [intOf]; omega
          · have hq' : (p : Int) / 8 = 3 := by omega
            have HQ : Hid _ := hq
            clear hq
            go_wp2
            go_roundw
            case rel =>
              refine ⟨k + 1, by omega, by go_num, ?_, by simpa using hs, hR.other _ (by simp <;> omega) _, ?_⟩
              · repeat' (first | (with_reducible exact Below.refl _ _) | (with_reducible assumption) | (with_reducible refine below_drewN ?_ _) | (with_reducible refine Below.drew ?_) | (with_reducible refine Below.setCell ?_ ?_ _) | (with_reducible refine Below.alloc ?_ ?_ _) | go_size)
              · have ht := T3.out HQ.out
                rw [EX.out, EY.out] at ht
                have hf := HQ.out
                rw [show n - (k + 1) = p by have := HP.out; omega, ← ht, ← Tk_keep xs p 0 (by omega), ← Tk_keep xs p 1 (by omega), ← Tk_keep xs p 2 (by omega)]
                exact (hA.set3 _)
            case measure => simp [intOf]; omega
    · have hkn : k = n := by omega
      subst hkn
      have e0 : ∀ q, Tk xs q k - Tk xs q (k - k) = Tk xs q k := fun q => by rw [Nat.sub_self]; show _ - 0 = _; omega
      rw [e0, e0, e0, e0] at hA
      obtain ⟨⟨ac0, ac1, ac2, ac3⟩, _⟩ := hA
      obtain ⟨⟨rc0, rc1, rc2, rc3⟩, rf0, rf1, rf2, rf3⟩ := hR
      have y0 : w.heap.size < wr.heap.size := by omega
      clear e0
      go_wp2
      refine bodyPost_ret (v := .tuple #[A4 (Tk xs 0 k) (Tk xs 1 k) (Tk xs 2 k) (Tk xs 3 k), .int .i64 0]) (by simp [results, Try.results15, go_sem, *]) rfl ⟨rfl, ?_⟩
      repeat' (first | (with_reducible exact Below.refl _ _) | (with_reducible assumption) | (with_reducible refine below_drewN ?_ _) | (with_reducible refine Below.drew ?_) | (with_reducible refine Below.setCell ?_ ?_ _) | (with_reducible refine Below.alloc ?_ ?_ _) | go_size)
end Go.Proofs.Ytkpnjmfndgfogaa
