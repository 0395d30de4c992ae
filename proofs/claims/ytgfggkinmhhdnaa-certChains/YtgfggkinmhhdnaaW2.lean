/- Walks over limb's own calls: Of, Add, Sub, Compare; the reference's Compare. -/
import Derived.Test.YtgfggkinmhhdnaaW1
import Derived.Test.YtgfggkinmhhdnaaMem
import Derived.Deep.QuietTactic
import Derived.BigQuiet
namespace Go.Proofs.Ytgfggkinmhhdnaa
open Go.RowKit
set_option linter.unusedSimpArgs false
set_option linter.unusedVariables false

abbrev NV (n : Int) : Value := A4 (D0 n) (D1 n) (D2 n) (D3 n)
theorem ret_int {k : IntKind} {a b : Int} (h : a = b) : Ending.returned (.int k a) = .returned (.int k b) := by rw [h]
def cmpI (n m : Int) : Int := if n < m then -1 else if m < n then 1 else 0

set_option maxHeartbeats 400000 in
theorem of_any (n : Int) (w : World) :
    Calls Try.prog 31 #[.int .u64 n] w fun e w' => e = .returned (A4 n 0 0 0) ∧ Below w.heap.size w w' := by
  go_enter Try.func31, Try.ntmps31
  go_wp2
  go_returns
  exact ⟨rfl, by go_grown⟩

set_option maxHeartbeats 400000 in
theorem Add_any (a b c d x y z t : Int) (w : World) (ha : W64 a) (hb : W64 b) (hc : W64 c) (hd : W64 d) (hx : W64 x) (hy : W64 y) (hz : W64 z) (ht : W64 t) :
    Calls Try.prog 70 #[A4 a b c d, A4 x y z t] w fun e w' => e = .returned (.tuple #[NV (V a b c d + V x y z t), .bool (D4 (V a b c d + V x y z t) == 1)]) ∧ Below w.heap.size w w' := by
  go_enter Try.func70, Try.ntmps70
  go_wp2_with fail
  refine (add_any a b c d x y z t _ ha hb hc hd hx hy hz ht).mono ?_
  rintro e w1 ⟨rfl, hB⟩
  obtain ⟨hcell, hfroz, hsize⟩ := bcell hB
  simp only [World.size_alloc] at hsize hcell hfroz
  have z0 : w.heap.size < w1.heap.size := by omega
  have z1 : w.heap.size + 1 < w1.heap.size := by omega
  have z2 : w.heap.size + 1 + 1 < w1.heap.size := by omega
  go_wp2
  refine bodyPost_ret (v := .tuple #[NV (V a b c d + V x y z t), .bool (D4 (V a b c d + V x y z t) == 1)]) (by simp [results, Try.results70, go_sem, hcell, z0, z1, z2]) rfl ⟨rfl, ?_⟩
  have hB' : Below w.heap.size w w1 := Below.trans (by go_grown) (hB.mono (by simp; omega))
  go_grown

set_option maxHeartbeats 400000 in
theorem Sub_any (a b c d x y z t : Int) (w : World) (ha : W64 a) (hb : W64 b) (hc : W64 c) (hd : W64 d) (hx : W64 x) (hy : W64 y) (hz : W64 z) (ht : W64 t) :
    Calls Try.prog 45 #[A4 a b c d, A4 x y z t] w fun e w' => e = .returned (.tuple #[NV (V a b c d - V x y z t), .bool (-D4 (V a b c d - V x y z t) == 1)]) ∧ Below w.heap.size w w' := by
  go_enter Try.func45, Try.ntmps45
  go_wp2_with fail
  refine (sub_any a b c d x y z t _ ha hb hc hd hx hy hz ht).mono ?_
  rintro e w1 ⟨rfl, hB⟩
  obtain ⟨hcell, hfroz, hsize⟩ := bcell hB
  simp only [World.size_alloc] at hsize hcell hfroz
  have z0 : w.heap.size < w1.heap.size := by omega
  have z1 : w.heap.size + 1 < w1.heap.size := by omega
  have z2 : w.heap.size + 1 + 1 < w1.heap.size := by omega
  go_wp2
  refine bodyPost_ret (v := .tuple #[NV (V a b c d - V x y z t), .bool (-D4 (V a b c d - V x y z t) == 1)]) (by simp [results, Try.results45, go_sem, hcell, z0, z1, z2]) rfl ⟨rfl, ?_⟩
  have hB' : Below w.heap.size w w1 := Below.trans (by go_grown) (hB.mono (by simp; omega))
  go_grown

set_option maxHeartbeats 400000 in
theorem rCompare_any (a b c d x y z t : Int) (w : World) (ha : W64 a) (hb : W64 b) (hc : W64 c) (hd : W64 d) (hx : W64 x) (hy : W64 y) (hz : W64 z) (ht : W64 t) :
    Calls Try.prog 19 #[A4 a b c d, A4 x y z t] w fun e w' => e = .returned (.int .i64 (cmpI (V a b c d) (V x y z t))) ∧ Below w.heap.size w w' := by
  obtain ⟨a1, a2⟩ := ha
  obtain ⟨b1, b2⟩ := hb
  obtain ⟨c1, c2⟩ := hc
  obtain ⟨d1, d2⟩ := hd
  obtain ⟨x1, x2⟩ := hx
  obtain ⟨y1, y2⟩ := hy
  obtain ⟨z1, z2⟩ := hz
  obtain ⟨t1, t2⟩ := ht
  go_enter Try.func19, Try.ntmps19
  go_wp2
  refine wp_loop_rounds 5 ?_
  repeat any_goals (rw [rounds_succ]; go_wp2; all_goals (try (go_quiet (fail); go_wp2)); all_goals (try (go_quiet (fail); go_wp2)))
  all_goals
    go_returns
    refine ⟨?_, ?_⟩
    · refine ret_int ?_; unfold cmpI V; split <;> (try split) <;> omega
    · repeat' (first | (with_reducible exact Below.refl _ _) | (with_reducible assumption) | (with_reducible refine below_drewN ?_ _) | (with_reducible refine Below.drew ?_) | (with_reducible refine Below.setCell ?_ ?_ _) | (with_reducible refine Below.alloc ?_ ?_ _) | go_size)

theorem cmp_lt {n m : Int} (h : n < m) : cmpI n m = -1 := by unfold cmpI; simp [h]
theorem cmp_gt {n m : Int} (h : m < n) : cmpI n m = 1 := by unfold cmpI; rw [if_neg (by omega), if_pos h]
theorem cmp_eq (n : Int) : cmpI n n = 0 := by unfold cmpI; simp

set_option maxHeartbeats 400000 in
theorem Compare_any (a b c d x y z t : Int) (w : World) (ha : W64 a) (hb : W64 b) (hc : W64 c) (hd : W64 d) (hx : W64 x) (hy : W64 y) (hz : W64 z) (ht : W64 t) :
    Calls Try.prog 30 #[A4 a b c d, A4 x y z t] w fun e w' => e = .returned (.int .i64 (cmpI (V a b c d) (V x y z t))) ∧ Below w.heap.size w w' := by
  have k1 := V_bd a b c d ha hb hc hd
  have k2 := V_bd x y z t hx hy hz ht
  have hiff := eq4_V a b c d x y z t ha hb hc hd hx hy hz ht
  by_cases hq : V a b c d = V x y z t
  · have he : eq4 a b c d x y z t = true := hiff.2 hq
    rw [hq, cmp_eq]
    clear hq hiff k1 k2
    go_enter Try.func30, Try.ntmps30
    go_wp2
    go_ret
    exact ⟨rfl, by go_grown⟩
  · have he : eq4 a b c d x y z t = false := by rw [Bool.eq_false_iff]; exact fun h => hq (hiff.1 h)
    by_cases hl : V a b c d < V x y z t
    · have hbo : (-D4 (V a b c d - V x y z t) == 1) = true := by unfold D4; simp; omega
      rw [cmp_lt hl]
      clear hq hiff k1 k2 hl
      go_enter Try.func30, Try.ntmps30
      go_wp2_with fail
      refine (sub_any a b c d x y z t _ ha hb hc hd hx hy hz ht).mono ?_
      rintro e w1 ⟨rfl, hB⟩
      have hB' : Below w.heap.size w w1 := Below.trans (by go_grown) (hB.mono (by simp; omega))
      have hs1 := hB'.size
      clear hB
      go_wp2
      go_ret
      exact ⟨rfl, by go_grown⟩
    · have hbo : (-D4 (V a b c d - V x y z t) == 1) = false := by unfold D4; simp; omega
      rw [cmp_gt (by omega)]
      clear hq hiff k1 k2 hl
      go_enter Try.func30, Try.ntmps30
      go_wp2_with fail
      refine (sub_any a b c d x y z t _ ha hb hc hd hx hy hz ht).mono ?_
      rintro e w1 ⟨rfl, hB⟩
      have hB' : Below w.heap.size w w1 := Below.trans (by go_grown) (hB.mono (by simp; omega))
      have hs1 := hB'.size
      clear hB
      go_wp2
      go_ret
      exact ⟨rfl, by go_grown⟩
end Go.Proofs.Ytgfggkinmhhdnaa
