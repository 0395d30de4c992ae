/- AES: substitutes and products. -/
import Derived.Test.YtlcjbnhfmcnnfaaDoorAG
namespace Go.Proofs.YtlcjbnhfmcnnfaaDoor
open Go.RowKit
set_option linter.unusedVariables false
set_option linter.unusedSimpArgs false
/-- The two tables hold what the text says. -/
structure GS6 (w : World) : Prop where
  s0 : 0 < w.heap.size
  s1 : 1 < w.heap.size
  lo : ∀ t, t < 128 → w.cell? ⟨0, t, none⟩ = some (.int .u8 ((sbT.getD t 0 : Nat) : Int))
  hi : ∀ t, t < 128 → w.cell? ⟨1, t, none⟩ = some (.int .u8 ((sbT.getD (t + 128) 0 : Nat) : Int))
theorem GS6.below {w w' : World} {m : Nat} (h : GS6 w) (hB : Below m w w') (h0 : 0 < m) (h1 : 1 < m) : GS6 w' where
  s0 := Nat.lt_of_lt_of_le h.s0 hB.size
  s1 := Nat.lt_of_lt_of_le h.s1 hB.size
  lo := fun t ht => (hB.cell (p := ⟨0, t, none⟩) h0).trans (h.lo t ht)
  hi := fun t ht => (hB.cell (p := ⟨1, t, none⟩) h1).trans (h.hi t ht)
theorem GS6.up {w w' : World} (h : GS6 w) (hB : Below w.heap.size w w') : GS6 w' := h.below hB h.s0 h.s1
theorem xt_lo : ∀ a, a < 256 → a < 128 → (2 * a) % 256 = xt a := by decide +kernel
theorem xt_hi : ∀ a, a < 256 → ¬ a < 128 → (2 * a) % 256 ^^^ 27 = xt a := by decide +kernel
theorem ent_aes_Substitute (vs : Array Value) (w : World) : (callFunc 8 vs).run Tryd.prog w = .ok (.enter 8 vs) w := by kernel_rfl
theorem ent_aes_doubled (vs : Array Value) (w : World) : (callFunc 22 vs).run Tryd.prog w = .ok (.enter 22 vs) w := by kernel_rfl
theorem ent_aes_Times (vs : Array Value) (w : World) : (callFunc 10 vs).run Tryd.prog w = .ok (.enter 10 vs) w := by kernel_rfl
theorem ent_aes_ahead (vs : Array Value) (w : World) : (callFunc 24 vs).run Tryd.prog w = .ok (.enter 24 vs) w := by kernel_rfl
theorem ent_aes_substituted (vs : Array Value) (w : World) : (callFunc 32 vs).run Tryd.prog w = .ok (.enter 32 vs) w := by kernel_rfl
theorem ent_aes_turned (vs : Array Value) (w : World) : (callFunc 31 vs).run Tryd.prog w = .ok (.enter 31 vs) w := by kernel_rfl
theorem ent_aes_mixed (vs : Array Value) (w : World) : (callFunc 33 vs).run Tryd.prog w = .ok (.enter 33 vs) w := by kernel_rfl
theorem ent_aes_xored (vs : Array Value) (w : World) : (callFunc 34 vs).run Tryd.prog w = .ok (.enter 34 vs) w := by kernel_rfl
theorem ent_aes_nextKey (vs : Array Value) (w : World) : (callFunc 30 vs).run Tryd.prog w = .ok (.enter 30 vs) w := by kernel_rfl
theorem ent_aes_Keys (vs : Array Value) (w : World) : (callFunc 19 vs).run Tryd.prog w = .ok (.enter 19 vs) w := by kernel_rfl
theorem ent_aes_begun (vs : Array Value) (w : World) : (callFunc 23 vs).run Tryd.prog w = .ok (.enter 23 vs) w := by kernel_rfl
theorem ent_aes_Encrypt (vs : Array Value) (w : World) : (callFunc 15 vs).run Tryd.prog w = .ok (.enter 15 vs) w := by kernel_rfl
set_option maxRecDepth 100000 in
set_option maxHeartbeats 4000000 in
theorem cDoubled (a : Nat) (w : World) (ha : a < 256) : Calls Tryd.prog 22 #[.int .u8 a] w fun en w' => en = .returned (.int .u8 (xt a : Nat)) ∧ Below w.heap.size w w' := by
  go_enter Tryd.func22, Tryd.ntmps22
  have HB0 : Below w.heap.size w w := Below.refl _ _
  by_cases hj : a < 128
  · have hl : decide ((a : Int) < 128) = true := by simp; omega
    have hx := xt_lo a ha hj
    have K0_1 := Bk.nil (w.heap.size) w
    go_upto_region 1 with fail
    refine rgP K0_1 HB0 HB0.size [] [] [(0, 3, .int .u8 ((a : Nat) : Int)), (1, 4, .bool true)] [] [] [] ?_ ?_
    · refine oc g_mv ?_
      exact oc (g_bn (fun uZ => lss8 _ _ (a : Int) 128 _ uZ hl)) on
    intro u1 HB1 sz1 K1
    simp only [fX, nK, nP, Wr.f, aK, pM] at K1
    simp only [setG, setN, List.set_cons_zero, List.set_cons_succ]
    clear HB0
    go_upto_region 2 with fail
    refine rgP K1 HB1 HB1.size [] [] [(0, 5, .int .u8 ((a : Nat) : Int)), (1, 6, .int .u8 ((xt a : Nat) : Int)), (2, 2, .int .u8 ((xt a : Nat) : Int))] [] [] [] ?_ ?_
    · refine oc g_mv ?_
      refine oc (g_bn (fun uZ => (shl8 _ _ a uZ).trans (by rw [hx]))) ?_
      exact oc g_as on
    intro u2 HB2 sz2 K2
    simp only [fX, nK, nP, Wr.f, aK, pM] at K2
    simp only [setG, setN, List.set_cons_zero, List.set_cons_succ]
    clear K1 HB1
    go_wp2
    refine bodyPost_ret (v := .int .u8 ((xt a : Nat) : Int)) (by simp [results, Tryd.results22, go_sem, ]) rfl ⟨rfl, HB2⟩
  · have hl : decide ((a : Int) < 128) = false := by simp; omega
    have hx := xt_hi a ha hj
    have K0_1 := Bk.nil (w.heap.size) w
    go_upto_region 1 with fail
    refine rgP K0_1 HB0 HB0.size [] [] [(0, 3, .int .u8 ((a : Nat) : Int)), (1, 4, .bool false)] [] [] [] ?_ ?_
    · refine oc g_mv ?_
      exact oc (g_bn (fun uZ => lss8 _ _ (a : Int) 128 _ uZ hl)) on
    intro u1 HB1 sz1 K1
    simp only [fX, nK, nP, Wr.f, aK, pM] at K1
    simp only [setG, setN, List.set_cons_zero, List.set_cons_succ]
    clear HB0
    go_upto_region 3 with fail
    refine rgP K1 HB1 HB1.size [] [] [(0, 7, .int .u8 ((a : Nat) : Int)), (1, 8, .int .u8 (((2 * a) % 256 : Nat) : Int)), (2, 9, .int .u8 ((xt a : Nat) : Int)), (3, 2, .int .u8 ((xt a : Nat) : Int))] [] [] [] ?_ ?_
    · refine oc g_mv ?_
      refine oc (g_bn (fun uZ => shl8 _ _ a uZ)) ?_
      refine oc (g_bn (fun uZ => (xor8 _ _ ((2 * a) % 256) 27 uZ (Nat.mod_lt _ (by decide)) (by decide)).trans (by rw [hx]))) ?_
      exact oc g_as on
    intro u2 HB2 sz2 K2
    simp only [fX, nK, nP, Wr.f, aK, pM] at K2
    simp only [setG, setN, List.set_cons_zero, List.set_cons_succ]
    clear K1 HB1
    go_wp2
    refine bodyPost_ret (v := .int .u8 ((xt a : Nat) : Int)) (by simp [results, Tryd.results22, go_sem, ]) rfl ⟨rfl, HB2⟩
set_option maxRecDepth 100000 in
set_option maxHeartbeats 4000000 in
theorem cSubst (a : Nat) (w : World) (ha : a < 256) (hV : GS6 w) : Calls Tryd.prog 8 #[.int .u8 a] w fun en w' => en = .returned (.int .u8 (sbT.getD a 0 : Nat)) ∧ Below w.heap.size w w' := by
  go_enter Tryd.func8, Tryd.ntmps8
  have HB0 : Below w.heap.size w w := Below.refl _ _
  obtain ⟨y, ey⟩ : ∃ y, sbT.getD a 0 = y := ⟨_, rfl⟩
  have g0 := hV.s0
  have g1 := hV.s1
  by_cases hj : a < 128
  · have hl : decide ((a : Int) < 128) = true := by simp; omega
    have hk := hV.lo a hj
    rw [ey] at hk ⊢
    clear ey
    have K0_1 := Bk.nil (w.heap.size) w
    go_upto_region 1 with fail
    refine rgP K0_1 HB0 HB0.size [] [] [(0, 3, .int .u8 ((a : Nat) : Int)), (1, 4, .bool true)] [] [] [] ?_ ?_
    · refine oc g_mv ?_
      exact oc (g_bn (fun uZ => lss8 _ _ (a : Int) 128 _ uZ hl)) on
    intro u1 HB1 sz1 K1
    simp only [fX, nK, nP, Wr.f, aK, pM] at K1
    simp only [setG, setN, List.set_cons_zero, List.set_cons_succ]
    clear HB0
    go_upto_region 2 with fail
    refine rgP K1 HB1 HB1.size [] [] [(0, 5, .int .u8 ((a : Nat) : Int)), (1, 6, .pointer (some ⟨0, a, none⟩)), (2, 7, .int .u8 ((y : Nat) : Int)), (3, 2, .int .u8 ((y : Nat) : Int))] [] [] [] ?_ ?_
    · refine oc g_mv ?_
      refine oc (g_ix (fun uZ => xb128 0 a uZ hj)) ?_
      refine oc (g_lg 0 (a) l8 (hk) (g0)) ?_
      exact oc g_as on
    intro u2 HB2 sz2 K2
    simp only [fX, nK, nP, Wr.f, aK, pM] at K2
    simp only [setG, setN, List.set_cons_zero, List.set_cons_succ]
    clear K1 HB1
    go_wp2
    refine bodyPost_ret (v := .int .u8 ((y : Nat) : Int)) (by simp [results, Tryd.results8, go_sem, ]) rfl ⟨rfl, HB2⟩
  · have hl : decide ((a : Int) < 128) = false := by simp; omega
    obtain ⟨c, rfl⟩ : ∃ c, a = c + 128 := ⟨a - 128, by omega⟩
    have hk := hV.hi c (by omega)
    rw [ey] at hk ⊢
    clear ey
    have K0_1 := Bk.nil (w.heap.size) w
    go_upto_region 1 with fail
    refine rgP K0_1 HB0 HB0.size [] [] [(0, 3, .int .u8 ((c + 128 : Nat) : Int)), (1, 4, .bool false)] [] [] [] ?_ ?_
    · refine oc g_mv ?_
      exact oc (g_bn (fun uZ => lss8 _ _ ((c + 128 : Nat) : Int) 128 _ uZ hl)) on
    intro u1 HB1 sz1 K1
    simp only [fX, nK, nP, Wr.f, aK, pM] at K1
    simp only [setG, setN, List.set_cons_zero, List.set_cons_succ]
    clear HB0
    go_upto_region 3 with fail
    refine rgP K1 HB1 HB1.size [] [] [(0, 8, .int .u8 ((c + 128 : Nat) : Int)), (1, 9, .int .u8 ((c : Nat) : Int)), (2, 10, .pointer (some ⟨1, c, none⟩)), (3, 11, .int .u8 ((y : Nat) : Int)), (4, 2, .int .u8 ((y : Nat) : Int))] [] [] [] ?_ ?_
    · refine oc g_mv ?_
      refine oc (g_bn (fun uZ => sub8 _ _ (c + 128) 128 c uZ (by omega) ha)) ?_
      refine oc (g_ix (fun uZ => xb128 1 c uZ (by omega))) ?_
      refine oc (g_lg 1 (c) l8 (hk) (g1)) ?_
      exact oc g_as on
    intro u2 HB2 sz2 K2
    simp only [fX, nK, nP, Wr.f, aK, pM] at K2
    simp only [setG, setN, List.set_cons_zero, List.set_cons_succ]
    clear K1 HB1
    go_wp2
    refine bodyPost_ret (v := .int .u8 ((y : Nat) : Int)) (by simp [results, Tryd.results8, go_sem, ]) rfl ⟨rfl, HB2⟩
end Go.Proofs.YtlcjbnhfmcnnfaaDoor
