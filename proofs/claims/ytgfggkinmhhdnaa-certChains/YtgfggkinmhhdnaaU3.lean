/- Walks: limb's Parse. -/
import Derived.Test.YtgfggkinmhhdnaaU2
import Derived.BigRegion
namespace Go.Proofs.Ytgfggkinmhhdnaa
open Go.RowKit
set_option linter.unusedSimpArgs false
set_option linter.unusedVariables false
theorem isT_digs {cs : List Int} (h : isT cs = true) : Digs (cs.map ixv) := fun x hx => by
  obtain ⟨c, hc, rfl⟩ := List.mem_map.1 hx
  unfold isT at h
  simp only [Bool.and_eq_true, List.all_eq_true, decide_eq_true_eq] at h
  exact ⟨h.2 c hc, (ixv_bd c).2⟩
theorem isT_len {cs : List Int} (h : isT cs = true) : 0 < cs.length := by
  unfold isT at h
  simp only [Bool.and_eq_true, Bool.not_eq_true', beq_eq_false_iff_ne] at h
  omega
set_option maxRecDepth 100000 in
set_option maxHeartbeats 1000000 in
theorem Parse_bad (cs : List Int) (hb : Bytes8 cs) (hn : cs.length ≤ 200) (h : isT cs = false) (w : World) :
    Calls Try.prog 74 #[.string (strOfNums cs)] w fun en w' => en = .returned (.tuple #[A4 0 0 0 0, .int .i64 2]) ∧ Below w.heap.size w w' := by
  have kt := fun W => isText_any cs hb hn W
  rw [h] at kt
  generalize strOfNums cs = S at *
  go_enter Try.func74, Try.ntmps74
  go_wp2_with fail
  refine (kt _).mono ?_
  rintro e w' ⟨rfl, rfl⟩
  go_wp2
  refine bodyPost_ret (v := .tuple #[A4 0 0 0 0, .int .i64 2]) (by simp [results, Try.results74, go_sem]) rfl ⟨rfl, ?_⟩
  repeat' (first | (with_reducible exact Below.refl _ _) | (with_reducible assumption) | (with_reducible refine below_drewN ?_ _) | (with_reducible refine Below.drew ?_) | (with_reducible refine Below.setCell ?_ ?_ _) | (with_reducible refine Below.alloc ?_ ?_ _) | go_size)
set_option maxRecDepth 100000 in
set_option maxHeartbeats 1000000 in
theorem Parse_long (cs : List Int) (hb : Bytes8 cs) (hn : cs.length ≤ 200) (h : isT cs = true) (hl : 64 < cs.length) (w : World) :
    Calls Try.prog 74 #[.string (strOfNums cs)] w fun en w' => en = .returned (.tuple #[A4 0 0 0 0, .int .i64 3]) ∧ Below w.heap.size w w' := by
  have kt := fun W => isText_any cs hb hn W
  rw [h] at kt
  have hS : (strOfNums cs).size = cs.length := strOfNums_size cs
  generalize strOfNums cs = S at *
  have hl' : (64 : Int) < cs.length := by omega
  generalize cs.length = n at *
  go_enter Try.func74, Try.ntmps74
  go_wp2_with fail
  refine (kt _).mono ?_
  rintro e w' ⟨rfl, rfl⟩
  go_wp2
  refine bodyPost_ret (v := .tuple #[A4 0 0 0 0, .int .i64 3]) (by simp [results, Try.results74, go_sem]) rfl ⟨rfl, ?_⟩
  repeat' (first | (with_reducible exact Below.refl _ _) | (with_reducible assumption) | (with_reducible refine below_drewN ?_ _) | (with_reducible refine Below.drew ?_) | (with_reducible refine Below.setCell ?_ ?_ _) | (with_reducible refine Below.alloc ?_ ?_ _) | go_size)
set_option maxRecDepth 100000 in
set_option maxHeartbeats 4000000 in
theorem Parse_any (cs ds : List Int) (hds : ds = cs.map ixv) (hb : Bytes8 cs) (h : isT cs = true) (hn : cs.length ≤ 64) (w : World) :
    Calls Try.prog 74 #[.string (strOfNums cs)] w fun en w' => en = .returned (.tuple #[A4 (Uk ds 0 cs.length) (Uk ds 1 cs.length) (Uk ds 2 cs.length) (Uk ds 3 cs.length), .int .i64 0]) ∧ Below w.heap.size w w' := by
  have kt := fun W => isText_any cs hb (by omega) W
  rw [h] at kt
  have hS : (strOfNums cs).size = cs.length := strOfNums_size cs
  have hD : Digs ds := by rw [hds]; exact isT_digs h
  have hstep : ∀ k, k < cs.length → ∃ c, 0 ≤ c ∧ c < 256 ∧ ixv c = dv ds k ∧ 0 ≤ dv ds k ∧ dv ds k < 16 ∧ ∀ W, (Instr.index 9 (.string (strOfNums cs)) (.int .i64 ((cs.length : Int) - 1 - k))).run Try.prog W = .ok (.int .u8 c) W := fun k hk => by
    have hj : cs.length - 1 - k < cs.length := by omega
    have hx := hb cs[cs.length - 1 - k] (List.getElem_mem hj)
    refine ⟨cs[cs.length - 1 - k], hx.1, hx.2, ?_, (dv_bd ds hD k).1, (dv_bd ds hD k).2, fun W => ?_⟩
    · unfold dv; rw [hds]; simp [List.getElem?_eq_getElem hj]
    · have := str_ix cs hb (cs.length - 1 - k) hj W
      rw [show ((cs.length - 1 - k : Nat) : Int) = (cs.length : Int) - 1 - k by omega] at this
      rw [this]; simp [List.getElem?_eq_getElem hj]
  have hd2 := hds
  clear hds hb h
  generalize strOfNums cs = S at *
  obtain ⟨n, en⟩ : ∃ n, cs.length = n := ⟨_, rfl⟩
  rw [en] at hS hn hstep ⊢
  have HST : Hid _ := hstep
  have HD : Hid _ := hD
  clear en hstep hd2 hD
  have hn' : ¬ (64 : Int) < (n : Int) := by omega
  have hn2 : (n : Int) ≤ 64 := by omega
  go_enter Try.func74, Try.ntmps74
  go_wp2_with fail
  refine (kt _).mono ?_
  rintro e w' ⟨rfl, rfl⟩
  clear kt
  go_wp2
  go_loopw [17] (fun i wr => ∃ k : Nat, k ≤ n ∧ i = .int .i64 k ∧ Below w.heap.size w wr ∧ w.heap.size + 1 < wr.heap.size ∧ C4 wr w.heap.size 0 0 0 0 ∧ C4 wr (w.heap.size + 1) (Uk ds 0 k) (Uk ds 1 k) (Uk ds 2 k) (Uk ds 3 k)) (fun i _ => n - (intOf i).toNat)
  case atStart =>
    refine ⟨0, by omega, rfl, ?_, by simp, by unfold C4; simp [go_sem], by unfold C4; simp [go_sem, Uk]⟩
    repeat' (first | (with_reducible exact Below.refl _ _) | (with_reducible assumption) | (with_reducible refine below_drewN ?_ _) | (with_reducible refine Below.drew ?_) | (with_reducible refine Below.setCell ?_ ?_ _) | (with_reducible refine Below.alloc ?_ ?_ _) | go_size)
  case round =>
    obtain ⟨k, hk, rfl, hB, hs, hR, hA⟩ := hrel
    by_cases hlt : k < n
    · have hlt' : (k : Int) < (n : Int) := by omega
      have hA' := hA
      obtain ⟨⟨ac0, ac1, ac2, ac3⟩, af0, af1, af2, af3⟩ := hA'
      obtain ⟨c, c0, c1, ec, d0, d1, hc⟩ := HST.out k hlt
      have kx := fun W => IndexByte_any c c0 c1 W
      rw [ec] at kx
      have T0 : Hid _ := fun hq => Uk_or ds HD.out k 0 hq
      have T1 : Hid _ := fun hq => Uk_or ds HD.out k 1 hq
      have T2 : Hid _ := fun hq => Uk_or ds HD.out k 2 hq
      have T3 : Hid _ := fun hq => Uk_or ds HD.out k 3 hq
      obtain ⟨x, ex⟩ : ∃ x, dv ds k = x := ⟨_, rfl⟩
      rw [ex] at d0 d1
      simp only [ex] at kx
      have EX : Hid _ := ex
      have kw : IntKind.u64.wrap x = x := by rw [IntKind.wrap_u64]; omega
      clear ec ex
      have hq : k / 16 = 0 ∨ k / 16 = 1 ∨ k / 16 = 2 ∨ k / 16 = 3 := by omega
      rcases hq with hq | hq | hq | hq
      · have hq' : (k : Int) / 16 = 0 := by omega
        have HQ : Hid _ := hq
        clear hq
        generalize wr = u at *
        go_wp2_with fail
        refine (kx _).mono ?_
        rintro en w' ⟨rfl, rfl⟩
        go_wp2
        go_region
        go_wp2
        refine ⟨⟨k + 1, by omega, by go_num, ?_, by simpa using hs, hR.other _ (by simp <;> omega) _, ?_⟩, by simp [intOf]; omega⟩
        · repeat' (first | (with_reducible exact Below.refl _ _) | (with_reducible assumption) | (with_reducible refine below_drewN ?_ _) | (with_reducible refine Below.drew ?_) | (with_reducible refine Below.setCell ?_ ?_ _) | (with_reducible refine Below.alloc ?_ ?_ _) | go_size)
        · have ht := T0.out HQ.out
          rw [EX.out] at ht
          have hf := HQ.out
          rw [← ht, Uk_keep ds k 1 (by omega), Uk_keep ds k 2 (by omega), Uk_keep ds k 3 (by omega)]
          exact (hA.set0 _)
      · have hq' : (k : Int) / 16 = 1 := by omega
        have HQ : Hid _ := hq
        clear hq
        generalize wr = u at *
        go_wp2_with fail
        refine (kx _).mono ?_
        rintro en w' ⟨rfl, rfl⟩
        go_wp2
        go_region
        go_wp2
        refine ⟨⟨k + 1, by omega, by go_num, ?_, by simpa using hs, hR.other _ (by simp <;> omega) _, ?_⟩, by simp [intOf]; omega⟩
        · repeat' (first | (with_reducible exact Below.refl _ _) | (with_reducible assumption) | (with_reducible refine below_drewN ?_ _) | (with_reducible refine Below.drew ?_) | (with_reducible refine Below.setCell ?_ ?_ _) | (with_reducible refine Below.alloc ?_ ?_ _) | go_size)
        · have ht := T1.out HQ.out
          rw [EX.out] at ht
          have hf := HQ.out
          rw [← ht, Uk_keep ds k 0 (by omega), Uk_keep ds k 2 (by omega), Uk_keep ds k 3 (by omega)]
          exact (hA.set1 _)
      · have hq' : (k : Int) / 16 = 2 := by omega
        have HQ : Hid _ := hq
        clear hq
        generalize wr = u at *
        go_wp2_with fail
        refine (kx _).mono ?_
        rintro en w' ⟨rfl, rfl⟩
        go_wp2
        go_region
        go_wp2
        refine ⟨⟨k + 1, by omega, by go_num, ?_, by simpa using hs, hR.other _ (by simp <;> omega) _, ?_⟩, by simp [intOf]; omega⟩
        · repeat' (first | (with_reducible exact Below.refl _ _) | (with_reducible assumption) | (with_reducible refine below_drewN ?_ _) | (with_reducible refine Below.drew ?_) | (with_reducible refine Below.setCell ?_ ?_ _) | (with_reducible refine Below.alloc ?_ ?_ _) | go_size)
        · have ht := T2.out HQ.out
          rw [EX.out] at ht
          have hf := HQ.out
          rw [← ht, Uk_keep ds k 0 (by omega), Uk_keep ds k 1 (by omega), Uk_keep ds k 3 (by omega)]
          exact (hA.set2 _)
      · have hq' : (k : Int) / 16 = 3 := by omega
        have HQ : Hid _ := hq
        clear hq
        generalize wr = u at *
        go_wp2_with fail
        refine (kx _).mono ?_
        rintro en w' ⟨rfl, rfl⟩
        go_wp2
        go_region
        go_wp2
        refine ⟨⟨k + 1, by omega, by go_num, ?_, by simpa using hs, hR.other _ (by simp <;> omega) _, ?_⟩, by simp [intOf]; omega⟩
        · repeat' (first | (with_reducible exact Below.refl _ _) | (with_reducible assumption) | (with_reducible refine below_drewN ?_ _) | (with_reducible refine Below.drew ?_) | (with_reducible refine Below.setCell ?_ ?_ _) | (with_reducible refine Below.alloc ?_ ?_ _) | go_size)
        · have ht := T3.out HQ.out
          rw [EX.out] at ht
          have hf := HQ.out
          rw [← ht, Uk_keep ds k 0 (by omega), Uk_keep ds k 1 (by omega), Uk_keep ds k 2 (by omega)]
          exact (hA.set3 _)
    · have hkn : k = n := by omega
      subst hkn
      obtain ⟨⟨ac0, ac1, ac2, ac3⟩, _⟩ := hA
      obtain ⟨⟨rc0, rc1, rc2, rc3⟩, rf0, rf1, rf2, rf3⟩ := hR
      have y0 : w.heap.size < wr.heap.size := by omega
      go_wp2
      refine bodyPost_ret (v := .tuple #[A4 (Uk ds 0 k) (Uk ds 1 k) (Uk ds 2 k) (Uk ds 3 k), .int .i64 0]) (by simp [results, Try.results74, go_sem, *]) rfl ⟨rfl, ?_⟩
      repeat' (first | (with_reducible exact Below.refl _ _) | (with_reducible assumption) | (with_reducible refine below_drewN ?_ _) | (with_reducible refine Below.drew ?_) | (with_reducible refine Below.setCell ?_ ?_ _) | (with_reducible refine Below.alloc ?_ ?_ _) | go_size)
end Go.Proofs.Ytgfggkinmhhdnaa
