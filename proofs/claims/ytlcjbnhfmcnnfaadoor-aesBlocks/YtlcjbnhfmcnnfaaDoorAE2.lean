/- AES: products. -/
import Derived.Test.YtlcjbnhfmcnnfaaDoorAE1
namespace Go.Proofs.YtlcjbnhfmcnnfaaDoor
open Go.RowKit
set_option linter.unusedVariables false
set_option linter.unusedSimpArgs false
set_option maxRecDepth 100000 in
set_option maxHeartbeats 4000000 in
theorem cTimes_core (a b r : Nat) (TL : Nat → Nat → Nat → Nat → Nat) (w : World) (ha : a < 256) (hb : b < 256) (h8 : Hid (TL 8 0 a b = r)) (hZ : Hid (∀ {n o x}, TL n o x 0 = o)) (hS : Hid (∀ {n o x y}, TL (n + 1) o x y = TL n (if y % 2 = 1 then o ^^^ x else o) (xt x) (y / 2))) : Calls Tryd.prog 10 #[.int .u8 a, .int .u8 b] w fun en w' => en = .returned (.int .u8 (r : Nat)) ∧ Below w.heap.size w w' := by
  go_enter Tryd.func10, Tryd.ntmps10
  have HB0 : Below w.heap.size w w := Below.refl _ _
  have K0_1 := Bk.nil (w.heap.size) w
  go_upto_region 1 with fail
  refine rgP K0_1 HB0 HB0.size [] [] [(0, 5, (Go.Value.int Go.IntKind.u8 0))] [] [] [] ?_ ?_
  · exact oc g_as on
  intro u1 HB1 sz1 K1
  simp only [fX, nK, nP, Wr.f, aK, pM] at K1
  simp only [setG, setN, List.set_cons_zero, List.set_cons_succ]
  clear HB0
  go_wp2_with fail
  go_loopw [0, 1, 5] (fun s0 s1 s5 wr => ∃ (n o x y : Nat), s0 = .int .u8 (x : Int) ∧ s1 = .int .u8 (y : Int) ∧ s5 = .int .u8 (o : Int) ∧ o < 256 ∧ x < 256 ∧ y < 256 ∧ y < 2 ^ n ∧ Hid (TL n o x y = r) ∧ Below w.heap.size w wr) (fun _ s1 _ _ => (intOf s1).toNat)
  case atStart => exact ⟨8, 0, a, b, rfl, rfl, rfl, by decide, ha, hb, hb, h8, HB1⟩
  case round =>
    obtain ⟨n, o, x, y, rfl, rfl, rfl, ho, hx, hy, hyn, hr, HBr⟩ := hrel
    clear HB1
    by_cases hj : 0 < y
    · obtain ⟨n, rfl⟩ : ∃ m, n = m + 1 := by
        cases n with
        | zero => simp at hyn; omega
        | succ m => exact ⟨m, rfl⟩
      by_cases ho2 : y % 2 = 1
      · have hl1 : decide ((0 : Int) < (y : Int)) = true := by simp; omega
        have he1 : decide (((y % 2 : Nat) : Int) = 1) = true := by simp; omega
        have K1_2 := Bk.nil (w.heap.size) wr
        go_upto_region 2 with fail
        refine rgP K1_2 HBr HBr.size [] [] [(0, 6, .int .u8 ((y : Nat) : Int)), (1, 7, .bool true)] [] [] [] ?_ ?_
        · refine oc g_mv ?_
          exact oc (g_bn (fun uZ => gtr8 _ _ (y : Int) 0 _ uZ hl1)) on
        intro u2 HB2 sz2 K2
        simp only [fX, nK, nP, Wr.f, aK, pM] at K2
        simp only [setG, setN, List.set_cons_zero, List.set_cons_succ]
        go_upto_region 4 with fail
        refine rgP K2 HB2 HB2.size [] [] [(0, 10, .int .u8 ((y : Nat) : Int)), (1, 11, .int .u8 ((y % 2 : Nat) : Int)), (2, 12, .bool true)] [] [] [] ?_ ?_
        · refine oc g_mv ?_
          refine oc (g_bn (fun uZ => and81 _ _ y uZ hy)) ?_
          exact oc (g_bn (fun uZ => eql8 _ _ ((y % 2 : Nat) : Int) 1 _ uZ he1)) on
        intro u3 HB3 sz3 K3
        simp only [fX, nK, nP, Wr.f, aK, pM] at K3
        simp only [setG, setN, List.set_cons_zero, List.set_cons_succ]
        clear K2 HB2
        go_upto_region 5 with fail
        refine rgP K3 HB3 HB3.size [] [] [(0, 13, .int .u8 ((o : Nat) : Int)), (1, 14, .int .u8 ((x : Nat) : Int)), (2, 15, .int .u8 ((o ^^^ x : Nat) : Int)), (3, 5, .int .u8 ((o ^^^ x : Nat) : Int))] [(3, 0)] [(3, 5)] [] ?_ ?_
        · refine oc g_mv ?_
          refine oc g_mv ?_
          refine oc (g_bn (fun uZ => xor8 _ _ o x uZ ho hx)) ?_
          exact oc g_as on
        intro u4 HB4 sz4 K4
        simp only [fX, nK, nP, Wr.f, aK, pM] at K4
        simp only [setG, setN, List.set_cons_zero, List.set_cons_succ]
        clear K3 HB3
        go_upto_region 6 with fail
        refine rgP K4 HB4 HB4.size [] [] [(0, 16, .int .u8 ((x : Nat) : Int)), (1, 17, .int .u8 ((xt x : Nat) : Int)), (2, 0, .int .u8 ((xt x : Nat) : Int))] [(2, 0)] [(2, 0)] [] ?_ ?_
        · refine oc g_mv ?_
          refine oc (g_cl ent_aes_doubled (fun uZ => cDoubled x uZ hx)) ?_
          exact oc g_as on
        intro u5 HB5 sz5 K5
        simp only [fX, nK, nP, Wr.f, aK, pM] at K5
        simp only [setG, setN, List.set_cons_zero, List.set_cons_succ]
        clear K4 HB4
        go_upto_region 3 with fail
        refine rgP K5 HB5 HB5.size [] [] [(0, 8, .int .u8 ((y : Nat) : Int)), (1, 9, .int .u8 ((y / 2 : Nat) : Int)), (2, 1, .int .u8 ((y / 2 : Nat) : Int))] [(2, 0)] [(2, 1)] [] ?_ ?_
        · refine oc g_mv ?_
          refine oc (g_bn (fun uZ => shr8 _ _ y uZ hy)) ?_
          exact oc g_as on
        intro u6 HB6 sz6 K6
        simp only [fX, nK, nP, Wr.f, aK, pM] at K6
        simp only [setG, setN, List.set_cons_zero, List.set_cons_succ]
        clear K5 HB5
        go_wp2
        refine ⟨⟨n, o ^^^ x, xt x, y / 2, rfl, rfl, rfl, xr8 ho hx, xt_lt x hx, by omega, by rw [Nat.pow_succ] at hyn; omega, (by show TL n (o ^^^ x) (xt x) (y / 2) = r; rw [← hr.out, hS.out, if_pos (by omega)]), HB6⟩, ?_⟩
        simp [intOf] <;> omega
      · have hl1 : decide ((0 : Int) < (y : Int)) = true := by simp; omega
        have he1 : decide (((y % 2 : Nat) : Int) = 1) = false := by simp; omega
        have K1_2 := Bk.nil (w.heap.size) wr
        go_upto_region 2 with fail
        refine rgP K1_2 HBr HBr.size [] [] [(0, 6, .int .u8 ((y : Nat) : Int)), (1, 7, .bool true)] [] [] [] ?_ ?_
        · refine oc g_mv ?_
          exact oc (g_bn (fun uZ => gtr8 _ _ (y : Int) 0 _ uZ hl1)) on
        intro u2 HB2 sz2 K2
        simp only [fX, nK, nP, Wr.f, aK, pM] at K2
        simp only [setG, setN, List.set_cons_zero, List.set_cons_succ]
        go_upto_region 4 with fail
        refine rgP K2 HB2 HB2.size [] [] [(0, 10, .int .u8 ((y : Nat) : Int)), (1, 11, .int .u8 ((y % 2 : Nat) : Int)), (2, 12, .bool false)] [] [] [] ?_ ?_
        · refine oc g_mv ?_
          refine oc (g_bn (fun uZ => and81 _ _ y uZ hy)) ?_
          exact oc (g_bn (fun uZ => eql8 _ _ ((y % 2 : Nat) : Int) 1 _ uZ he1)) on
        intro u3 HB3 sz3 K3
        simp only [fX, nK, nP, Wr.f, aK, pM] at K3
        simp only [setG, setN, List.set_cons_zero, List.set_cons_succ]
        clear K2 HB2
        go_upto_region 6 with fail
        refine rgP K3 HB3 HB3.size [] [] [(0, 16, .int .u8 ((x : Nat) : Int)), (1, 17, .int .u8 ((xt x : Nat) : Int)), (2, 0, .int .u8 ((xt x : Nat) : Int))] [(2, 0)] [(2, 0)] [] ?_ ?_
        · refine oc g_mv ?_
          refine oc (g_cl ent_aes_doubled (fun uZ => cDoubled x uZ hx)) ?_
          exact oc g_as on
        intro u4 HB4 sz4 K4
        simp only [fX, nK, nP, Wr.f, aK, pM] at K4
        simp only [setG, setN, List.set_cons_zero, List.set_cons_succ]
        clear K3 HB3
        go_upto_region 3 with fail
        refine rgP K4 HB4 HB4.size [] [] [(0, 8, .int .u8 ((y : Nat) : Int)), (1, 9, .int .u8 ((y / 2 : Nat) : Int)), (2, 1, .int .u8 ((y / 2 : Nat) : Int))] [(2, 0)] [(2, 1)] [] ?_ ?_
        · refine oc g_mv ?_
          refine oc (g_bn (fun uZ => shr8 _ _ y uZ hy)) ?_
          exact oc g_as on
        intro u5 HB5 sz5 K5
        simp only [fX, nK, nP, Wr.f, aK, pM] at K5
        simp only [setG, setN, List.set_cons_zero, List.set_cons_succ]
        clear K4 HB4
        go_wp2
        refine ⟨⟨n, o, xt x, y / 2, rfl, rfl, rfl, ho, xt_lt x hx, by omega, by rw [Nat.pow_succ] at hyn; omega, (by show TL n (o) (xt x) (y / 2) = r; rw [← hr.out, hS.out, if_neg (by omega)]), HB5⟩, ?_⟩
        simp [intOf] <;> omega
    · have hl1 : decide ((0 : Int) < (y : Int)) = false := by simp; omega
      have hy0 : y = 0 := by omega
      subst hy0
      have hr2 := hr.out
      rw [hZ.out] at hr2
      subst hr2
      have K1_2 := Bk.nil (w.heap.size) wr
      go_upto_region 2 with fail
      refine rgP K1_2 HBr HBr.size [] [] [(0, 6, .int .u8 ((0 : Nat) : Int)), (1, 7, .bool false)] [] [] [] ?_ ?_
      · refine oc g_mv ?_
        exact oc (g_bn (fun uZ => gtr8 _ _ ((0 : Nat) : Int) 0 _ uZ hl1)) on
      intro u2 HB2 sz2 K2
      simp only [fX, nK, nP, Wr.f, aK, pM] at K2
      simp only [setG, setN, List.set_cons_zero, List.set_cons_succ]
      go_upto_region 7 with fail
      refine rgP K2 HB2 HB2.size [] [] [(0, 18, .int .u8 ((o : Nat) : Int)), (1, 4, .int .u8 ((o : Nat) : Int))] [] [] [] ?_ ?_
      · refine oc g_mv ?_
        exact oc g_as on
      intro u3 HB3 sz3 K3
      simp only [fX, nK, nP, Wr.f, aK, pM] at K3
      simp only [setG, setN, List.set_cons_zero, List.set_cons_succ]
      clear K2 HB2
      go_wp2
      refine bodyPost_ret (v := .int .u8 ((o : Nat) : Int)) (by simp [results, Tryd.results10, go_sem, ]) rfl ⟨rfl, HB3⟩
theorem cTimes (a b : Nat) (w : World) (ha : a < 256) (hb : b < 256) : Calls Tryd.prog 10 #[.int .u8 a, .int .u8 b] w fun en w' => en = .returned (.int .u8 (tm a b : Nat)) ∧ Below w.heap.size w w' :=
  cTimes_core a b _ tmL w ha hb rfl (fun {n o x} => tmL_zero n o x) (fun {n o x y} => rfl)
end Go.Proofs.YtlcjbnhfmcnnfaaDoor
