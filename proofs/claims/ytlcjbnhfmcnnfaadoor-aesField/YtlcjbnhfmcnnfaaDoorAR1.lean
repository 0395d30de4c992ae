/- The reference's products and substitutes. -/
import Derived.Test.YtlcjbnhfmcnnfaaDoorAH
namespace Go.Proofs.YtlcjbnhfmcnnfaaDoor
open Go.RowKit
set_option linter.unusedVariables false
set_option linter.unusedSimpArgs false
theorem ent_seneschalref06_Times (vs : Array Value) (w : World) : (callFunc 11 vs).run Tryd.prog w = .ok (.enter 11 vs) w := by kernel_rfl
theorem ent_seneschalref06_Substitute (vs : Array Value) (w : World) : (callFunc 9 vs).run Tryd.prog w = .ok (.enter 9 vs) w := by kernel_rfl
theorem ent_seneschalref06_Table (vs : Array Value) (w : World) : (callFunc 12 vs).run Tryd.prog w = .ok (.enter 12 vs) w := by kernel_rfl
theorem mul8 (p q : Operand) (a : Nat) (w : World) : (do eqGuard .mul 5 p q (.int .u8 a) (.int .u8 2); binOp .mul 5 (.int .u8 a) (.int .u8 2) : Sem Value).run Tryd.prog w = .ok (.int .u8 (((2 * a) % 256 : Nat) : Int)) w := by
  have e : IntKind.u8.wrap ((a : Int) * 2) = 2 * (a : Int) % 256 := by
    simp [IntKind.wrap, IntKind.signed, IntKind.bits]; omega
  go_simp
  all_goals first | exact e | (simp [IntKind.wrap, IntKind.signed, IntKind.bits]; omega)
theorem quo128 (p q : Operand) (a : Nat) (w : World) (h : a < 256) : (do eqGuard .quo 5 p q (.int .u8 a) (.int .u8 128); binOp .quo 5 (.int .u8 a) (.int .u8 128) : Sem Value).run Tryd.prog w = .ok (.int .u8 ((a / 128 : Nat) : Int)) w := by
  have e0 : ((a : Int)).tdiv 128 = ((a / 128 : Nat) : Int) := by rw [Int.tdiv_eq_ediv_of_nonneg (Int.natCast_nonneg _)]; simp
  have hle : a / 128 ≤ a := Nat.div_le_self _ _
  obtain ⟨z, hz⟩ : ∃ z, a / 128 = z := ⟨_, rfl⟩
  rw [hz] at e0 hle ⊢
  have e : IntKind.u8.wrap (z : Int) = (z : Int) := wraps_u8 _ (by omega) (by omega)
  go_simp
theorem add8z (p q : Operand) (a b c : Nat) (w : World) (h : a + b = c) (hc : c < 256) : (do eqGuard .add 5 p q (.int .u8 a) (.int .u8 b); binOp .add 5 (.int .u8 a) (.int .u8 b) : Sem Value).run Tryd.prog w = .ok (.int .u8 (c : Int)) w := by
  have e : IntKind.u8.wrap ((a : Int) + b) = (c : Int) := by rw [show (a : Int) + b = (c : Int) by omega]; exact wraps_u8 _ (by omega) (by omega)
  go_simp
theorem rotb_eq : ∀ y, y < 256 → (2 * y) % 256 + y / 128 = rotb y := by decide +kernel
theorem rotb_lt (y : Nat) : rotb y < 256 := Nat.mod_lt _ (by decide)
theorem xtp {x : Nat} (h : 256 ≤ 2 * x) : (2 * x) ^^^ 283 = xt x := by rw [xt, if_pos h]
theorem xtn {x : Nat} (h : ¬ 256 ≤ 2 * x) : 2 * x = xt x := by rw [xt, if_neg h]
set_option maxRecDepth 100000 in
set_option maxHeartbeats 4000000 in
theorem cTimesR_core (a b r : Nat) (TL : Nat → Nat → Nat → Nat → Nat) (w : World) (ha : a < 256) (hb : b < 256) (h8 : Hid (TL 8 0 a b = r)) (hZ : Hid (∀ {n o x}, TL n o x 0 = o)) (hS : Hid (∀ {n o x y}, TL (n + 1) o x y = TL n (if y % 2 = 1 then o ^^^ x else o) (xt x) (y / 2))) : Calls Tryd.prog 11 #[.int .u8 a, .int .u8 b] w fun en w' => en = .returned (.int .u8 (r : Nat)) ∧ Below w.heap.size w w' := by
  go_enter Tryd.func11, Tryd.ntmps11
  have HB0 : Below w.heap.size w w := Below.refl _ _
  have K0_1 := Bk.nil (w.heap.size) w
  go_upto_region 1 with fail
  refine rgP K0_1 HB0 HB0.size [] [] [(0, 8, .int .u8 ((a : Nat) : Int)), (1, 9, .int .i64 ((a : Nat) : Int)), (2, 5, (Go.Value.int Go.IntKind.i64 0)), (3, 6, .int .i64 ((a : Nat) : Int))] [] [] [] ?_ ?_
  · refine oc g_mv ?_
    refine oc (g_op (fun ev uZ he => cv8i uZ ha rfl (he _ _ rfl))) ?_
    refine oc g_as ?_
    exact oc g_as on
  intro u1 HB1 sz1 K1
  simp only [fX, nK, nP, Wr.f, aK, pM] at K1
  simp only [setG, setN, List.set_cons_zero, List.set_cons_succ]
  clear HB0
  go_upto_region 2 with fail
  refine rgP K1 HB1 HB1.size [] [] [(0, 10, .int .u8 ((b : Nat) : Int)), (1, 11, .int .i64 ((b : Nat) : Int)), (2, 7, .int .i64 ((b : Nat) : Int))] [] [] [] ?_ ?_
  · refine oc g_mv ?_
    refine oc (g_op (fun ev uZ he => cv8i uZ hb rfl (he _ _ rfl))) ?_
    exact oc g_as on
  intro u2 HB2 sz2 K2
  simp only [fX, nK, nP, Wr.f, aK, pM] at K2
  simp only [setG, setN, List.set_cons_zero, List.set_cons_succ]
  clear K1 HB1
  go_wp2_with fail
  go_loopw [5, 6, 7] (fun s5 s6 s7 wr => ∃ (n o x y : Nat), s6 = .int .i64 (x : Int) ∧ s7 = .int .i64 (y : Int) ∧ s5 = .int .i64 (o : Int) ∧ o < 256 ∧ x < 256 ∧ y < 256 ∧ y < 2 ^ n ∧ Hid (TL n o x y = r) ∧ Below w.heap.size w wr) (fun _ _ s7 _ => (intOf s7).toNat)
  case atStart => exact ⟨8, 0, a, b, rfl, rfl, rfl, by decide, ha, hb, hb, h8, HB2⟩
  case round =>
    obtain ⟨n, o, x, y, rfl, rfl, rfl, ho, hx, hy, hyn, hr, HBr⟩ := hrel
    clear HB2
    by_cases hj : 0 < y
    · obtain ⟨n, rfl⟩ : ∃ m, n = m + 1 := by
        cases n with
        | zero => simp at hyn; omega
        | succ m => exact ⟨m, rfl⟩
      by_cases ho2 : y % 2 = 1
      · by_cases hbig : 256 ≤ 2 * x
        · have hl1 : decide ((0 : Int) < (y : Int)) = true := by simp; omega
          have he1 : decide (((y % 2 : Nat) : Int) = 1) = true := by simp; omega
          have hg1 : decide ((256 : Int) ≤ ((2 * x : Nat) : Int)) = true := by simp; omega
          have hxt := xtp hbig
          have K2_2 := Bk.nil (w.heap.size) wr
          go_upto_region 3 with fail
          refine rgP K2_2 HBr HBr.size [] [] [(0, 12, .int .i64 ((y : Nat) : Int)), (1, 13, .bool true)] [] [] [] ?_ ?_
          · refine oc g_mv ?_
            exact oc (g_bn (fun uZ => gtr_i _ _ (y : Int) 0 true uZ hl1)) on
          intro u3 HB3 sz3 K3
          simp only [fX, nK, nP, Wr.f, aK, pM] at K3
          simp only [setG, setN, List.set_cons_zero, List.set_cons_succ]
          go_upto_region 5 with fail
          refine rgP K3 HB3 HB3.size [] [] [(0, 16, .int .i64 ((y : Nat) : Int)), (1, 17, .int .i64 ((y % 2 : Nat) : Int)), (2, 18, .bool true)] [] [] [] ?_ ?_
          · refine oc g_mv ?_
            refine oc (g_bn (fun uZ => remi _ _ y 2 uZ (by omega) (by decide))) ?_
            exact oc (g_bn (fun uZ => eqz_i _ _ ((y % 2 : Nat) : Int) 1 true uZ he1)) on
          intro u4 HB4 sz4 K4
          simp only [fX, nK, nP, Wr.f, aK, pM] at K4
          simp only [setG, setN, List.set_cons_zero, List.set_cons_succ]
          clear K3 HB3
          go_upto_region 6 with fail
          refine rgP K4 HB4 HB4.size [] [] [(0, 19, .int .i64 ((o : Nat) : Int)), (1, 20, .int .i64 ((x : Nat) : Int)), (2, 21, .int .i64 ((o ^^^ x : Nat) : Int)), (3, 5, .int .i64 ((o ^^^ x : Nat) : Int))] [(3, 0)] [(3, 5)] [] ?_ ?_
          · refine oc g_mv ?_
            refine oc g_mv ?_
            refine oc (g_bn (fun uZ => xori _ _ o x uZ (by omega) (by omega))) ?_
            exact oc g_as on
          intro u5 HB5 sz5 K5
          simp only [fX, nK, nP, Wr.f, aK, pM] at K5
          simp only [setG, setN, List.set_cons_zero, List.set_cons_succ]
          clear K4 HB4
          go_upto_region 7 with fail
          refine rgP K5 HB5 HB5.size [] [] [(0, 22, .int .i64 ((x : Nat) : Int)), (1, 23, .int .i64 ((2 * x : Nat) : Int)), (2, 6, .int .i64 ((2 * x : Nat) : Int))] [(2, 0)] [(2, 6)] [] ?_ ?_
          · refine oc g_mv ?_
            refine oc (g_bn (fun uZ => muli _ _ 2 x (2 * x) uZ rfl (by omega))) ?_
            exact oc g_as on
          intro u6 HB6 sz6 K6
          simp only [fX, nK, nP, Wr.f, aK, pM] at K6
          simp only [setG, setN, List.set_cons_zero, List.set_cons_succ]
          clear K5 HB5
          go_upto_region 8 with fail
          refine rgP K6 HB6 HB6.size [] [] [(0, 24, .int .i64 ((2 * x : Nat) : Int)), (1, 25, .bool true)] [] [] [] ?_ ?_
          · refine oc g_mv ?_
            exact oc (g_bn (fun uZ => geq_z _ _ ((2 * x : Nat) : Int) 256 true uZ hg1)) on
          intro u7 HB7 sz7 K7
          simp only [fX, nK, nP, Wr.f, aK, pM] at K7
          simp only [setG, setN, List.set_cons_zero, List.set_cons_succ]
          clear K6 HB6
          go_upto_region 9 with fail
          refine rgP K7 HB7 HB7.size [] [] [(0, 26, .int .i64 ((2 * x : Nat) : Int)), (1, 27, .int .i64 (((2 * x) ^^^ 283 : Nat) : Int)), (2, 6, .int .i64 (((2 * x) ^^^ 283 : Nat) : Int))] [(2, 0)] [(2, 6)] [] ?_ ?_
          · refine oc g_mv ?_
            refine oc (g_bn (fun uZ => xori _ _ (2 * x) 283 uZ (by omega) (by decide))) ?_
            exact oc g_as on
          intro u8 HB8 sz8 K8
          simp only [fX, nK, nP, Wr.f, aK, pM] at K8
          simp only [setG, setN, List.set_cons_zero, List.set_cons_succ]
          clear K7 HB7
          go_upto_region 4 with fail
          refine rgP K8 HB8 HB8.size [] [] [(0, 14, .int .i64 ((y : Nat) : Int)), (1, 15, .int .i64 ((y / 2 : Nat) : Int)), (2, 7, .int .i64 ((y / 2 : Nat) : Int))] [(2, 0)] [(2, 7)] [] ?_ ?_
          · refine oc g_mv ?_
            refine oc (g_bn (fun uZ => quo_n _ _ y 2 uZ (by omega) (by decide))) ?_
            exact oc g_as on
          intro u9 HB9 sz9 K9
          simp only [fX, nK, nP, Wr.f, aK, pM] at K9
          simp only [setG, setN, List.set_cons_zero, List.set_cons_succ]
          clear K8 HB8
          go_wp2
          refine ⟨⟨n, o ^^^ x, xt x, y / 2, (by rw [← hxt]), rfl, rfl, xr8 ho hx, xt_lt x hx, by omega, by rw [Nat.pow_succ] at hyn; omega, (by show TL n (o ^^^ x) (xt x) (y / 2) = r; rw [← hr.out, hS.out, if_pos (by omega)]), HB9⟩, ?_⟩
          simp [intOf] <;> omega
        · have hl1 : decide ((0 : Int) < (y : Int)) = true := by simp; omega
          have he1 : decide (((y % 2 : Nat) : Int) = 1) = true := by simp; omega
          have hg1 : decide ((256 : Int) ≤ ((2 * x : Nat) : Int)) = false := by simp; omega
          have hxt := xtn hbig
          have K2_2 := Bk.nil (w.heap.size) wr
          go_upto_region 3 with fail
          refine rgP K2_2 HBr HBr.size [] [] [(0, 12, .int .i64 ((y : Nat) : Int)), (1, 13, .bool true)] [] [] [] ?_ ?_
          · refine oc g_mv ?_
            exact oc (g_bn (fun uZ => gtr_i _ _ (y : Int) 0 true uZ hl1)) on
          intro u3 HB3 sz3 K3
          simp only [fX, nK, nP, Wr.f, aK, pM] at K3
          simp only [setG, setN, List.set_cons_zero, List.set_cons_succ]
          go_upto_region 5 with fail
          refine rgP K3 HB3 HB3.size [] [] [(0, 16, .int .i64 ((y : Nat) : Int)), (1, 17, .int .i64 ((y % 2 : Nat) : Int)), (2, 18, .bool true)] [] [] [] ?_ ?_
          · refine oc g_mv ?_
            refine oc (g_bn (fun uZ => remi _ _ y 2 uZ (by omega) (by decide))) ?_
            exact oc (g_bn (fun uZ => eqz_i _ _ ((y % 2 : Nat) : Int) 1 true uZ he1)) on
          intro u4 HB4 sz4 K4
          simp only [fX, nK, nP, Wr.f, aK, pM] at K4
          simp only [setG, setN, List.set_cons_zero, List.set_cons_succ]
          clear K3 HB3
          go_upto_region 6 with fail
          refine rgP K4 HB4 HB4.size [] [] [(0, 19, .int .i64 ((o : Nat) : Int)), (1, 20, .int .i64 ((x : Nat) : Int)), (2, 21, .int .i64 ((o ^^^ x : Nat) : Int)), (3, 5, .int .i64 ((o ^^^ x : Nat) : Int))] [(3, 0)] [(3, 5)] [] ?_ ?_
          · refine oc g_mv ?_
            refine oc g_mv ?_
            refine oc (g_bn (fun uZ => xori _ _ o x uZ (by omega) (by omega))) ?_
            exact oc g_as on
          intro u5 HB5 sz5 K5
          simp only [fX, nK, nP, Wr.f, aK, pM] at K5
          simp only [setG, setN, List.set_cons_zero, List.set_cons_succ]
          clear K4 HB4
          go_upto_region 7 with fail
          refine rgP K5 HB5 HB5.size [] [] [(0, 22, .int .i64 ((x : Nat) : Int)), (1, 23, .int .i64 ((2 * x : Nat) : Int)), (2, 6, .int .i64 ((2 * x : Nat) : Int))] [(2, 0)] [(2, 6)] [] ?_ ?_
          · refine oc g_mv ?_
            refine oc (g_bn (fun uZ => muli _ _ 2 x (2 * x) uZ rfl (by omega))) ?_
            exact oc g_as on
          intro u6 HB6 sz6 K6
          simp only [fX, nK, nP, Wr.f, aK, pM] at K6
          simp only [setG, setN, List.set_cons_zero, List.set_cons_succ]
          clear K5 HB5
          go_upto_region 8 with fail
          refine rgP K6 HB6 HB6.size [] [] [(0, 24, .int .i64 ((2 * x : Nat) : Int)), (1, 25, .bool false)] [] [] [] ?_ ?_
          · refine oc g_mv ?_
            exact oc (g_bn (fun uZ => geq_z _ _ ((2 * x : Nat) : Int) 256 false uZ hg1)) on
          intro u7 HB7 sz7 K7
          simp only [fX, nK, nP, Wr.f, aK, pM] at K7
          simp only [setG, setN, List.set_cons_zero, List.set_cons_succ]
          clear K6 HB6
          go_upto_region 4 with fail
          refine rgP K7 HB7 HB7.size [] [] [(0, 14, .int .i64 ((y : Nat) : Int)), (1, 15, .int .i64 ((y / 2 : Nat) : Int)), (2, 7, .int .i64 ((y / 2 : Nat) : Int))] [(2, 0)] [(2, 7)] [] ?_ ?_
          · refine oc g_mv ?_
            refine oc (g_bn (fun uZ => quo_n _ _ y 2 uZ (by omega) (by decide))) ?_
            exact oc g_as on
          intro u8 HB8 sz8 K8
          simp only [fX, nK, nP, Wr.f, aK, pM] at K8
          simp only [setG, setN, List.set_cons_zero, List.set_cons_succ]
          clear K7 HB7
          go_wp2
          refine ⟨⟨n, o ^^^ x, xt x, y / 2, (by rw [← hxt]), rfl, rfl, xr8 ho hx, xt_lt x hx, by omega, by rw [Nat.pow_succ] at hyn; omega, (by show TL n (o ^^^ x) (xt x) (y / 2) = r; rw [← hr.out, hS.out, if_pos (by omega)]), HB8⟩, ?_⟩
          simp [intOf] <;> omega
      · by_cases hbig : 256 ≤ 2 * x
        · have hl1 : decide ((0 : Int) < (y : Int)) = true := by simp; omega
          have he1 : decide (((y % 2 : Nat) : Int) = 1) = false := by simp; omega
          have hg1 : decide ((256 : Int) ≤ ((2 * x : Nat) : Int)) = true := by simp; omega
          have hxt := xtp hbig
          have K2_2 := Bk.nil (w.heap.size) wr
          go_upto_region 3 with fail
          refine rgP K2_2 HBr HBr.size [] [] [(0, 12, .int .i64 ((y : Nat) : Int)), (1, 13, .bool true)] [] [] [] ?_ ?_
          · refine oc g_mv ?_
            exact oc (g_bn (fun uZ => gtr_i _ _ (y : Int) 0 true uZ hl1)) on
          intro u3 HB3 sz3 K3
          simp only [fX, nK, nP, Wr.f, aK, pM] at K3
          simp only [setG, setN, List.set_cons_zero, List.set_cons_succ]
          go_upto_region 5 with fail
          refine rgP K3 HB3 HB3.size [] [] [(0, 16, .int .i64 ((y : Nat) : Int)), (1, 17, .int .i64 ((y % 2 : Nat) : Int)), (2, 18, .bool false)] [] [] [] ?_ ?_
          · refine oc g_mv ?_
            refine oc (g_bn (fun uZ => remi _ _ y 2 uZ (by omega) (by decide))) ?_
            exact oc (g_bn (fun uZ => eqz_i _ _ ((y % 2 : Nat) : Int) 1 false uZ he1)) on
          intro u4 HB4 sz4 K4
          simp only [fX, nK, nP, Wr.f, aK, pM] at K4
          simp only [setG, setN, List.set_cons_zero, List.set_cons_succ]
          clear K3 HB3
          go_upto_region 7 with fail
          refine rgP K4 HB4 HB4.size [] [] [(0, 22, .int .i64 ((x : Nat) : Int)), (1, 23, .int .i64 ((2 * x : Nat) : Int)), (2, 6, .int .i64 ((2 * x : Nat) : Int))] [(2, 0)] [(2, 6)] [] ?_ ?_
          · refine oc g_mv ?_
            refine oc (g_bn (fun uZ => muli _ _ 2 x (2 * x) uZ rfl (by omega))) ?_
            exact oc g_as on
          intro u5 HB5 sz5 K5
          simp only [fX, nK, nP, Wr.f, aK, pM] at K5
          simp only [setG, setN, List.set_cons_zero, List.set_cons_succ]
          clear K4 HB4
          go_upto_region 8 with fail
          refine rgP K5 HB5 HB5.size [] [] [(0, 24, .int .i64 ((2 * x : Nat) : Int)), (1, 25, .bool true)] [] [] [] ?_ ?_
          · refine oc g_mv ?_
            exact oc (g_bn (fun uZ => geq_z _ _ ((2 * x : Nat) : Int) 256 true uZ hg1)) on
          intro u6 HB6 sz6 K6
          simp only [fX, nK, nP, Wr.f, aK, pM] at K6
          simp only [setG, setN, List.set_cons_zero, List.set_cons_succ]
          clear K5 HB5
          go_upto_region 9 with fail
          refine rgP K6 HB6 HB6.size [] [] [(0, 26, .int .i64 ((2 * x : Nat) : Int)), (1, 27, .int .i64 (((2 * x) ^^^ 283 : Nat) : Int)), (2, 6, .int .i64 (((2 * x) ^^^ 283 : Nat) : Int))] [(2, 0)] [(2, 6)] [] ?_ ?_
          · refine oc g_mv ?_
            refine oc (g_bn (fun uZ => xori _ _ (2 * x) 283 uZ (by omega) (by decide))) ?_
            exact oc g_as on
          intro u7 HB7 sz7 K7
          simp only [fX, nK, nP, Wr.f, aK, pM] at K7
          simp only [setG, setN, List.set_cons_zero, List.set_cons_succ]
          clear K6 HB6
          go_upto_region 4 with fail
          refine rgP K7 HB7 HB7.size [] [] [(0, 14, .int .i64 ((y : Nat) : Int)), (1, 15, .int .i64 ((y / 2 : Nat) : Int)), (2, 7, .int .i64 ((y / 2 : Nat) : Int))] [(2, 0)] [(2, 7)] [] ?_ ?_
          · refine oc g_mv ?_
            refine oc (g_bn (fun uZ => quo_n _ _ y 2 uZ (by omega) (by decide))) ?_
            exact oc g_as on
          intro u8 HB8 sz8 K8
          simp only [fX, nK, nP, Wr.f, aK, pM] at K8
          simp only [setG, setN, List.set_cons_zero, List.set_cons_succ]
          clear K7 HB7
          go_wp2
          refine ⟨⟨n, o, xt x, y / 2, (by rw [← hxt]), rfl, rfl, ho, xt_lt x hx, by omega, by rw [Nat.pow_succ] at hyn; omega, (by show TL n (o) (xt x) (y / 2) = r; rw [← hr.out, hS.out, if_neg (by omega)]), HB8⟩, ?_⟩
          simp [intOf] <;> omega
        · have hl1 : decide ((0 : Int) < (y : Int)) = true := by simp; omega
          have he1 : decide (((y % 2 : Nat) : Int) = 1) = false := by simp; omega
          have hg1 : decide ((256 : Int) ≤ ((2 * x : Nat) : Int)) = false := by simp; omega
          have hxt := xtn hbig
          have K2_2 := Bk.nil (w.heap.size) wr
          go_upto_region 3 with fail
          refine rgP K2_2 HBr HBr.size [] [] [(0, 12, .int .i64 ((y : Nat) : Int)), (1, 13, .bool true)] [] [] [] ?_ ?_
          · refine oc g_mv ?_
            exact oc (g_bn (fun uZ => gtr_i _ _ (y : Int) 0 true uZ hl1)) on
          intro u3 HB3 sz3 K3
          simp only [fX, nK, nP, Wr.f, aK, pM] at K3
          simp only [setG, setN, List.set_cons_zero, List.set_cons_succ]
          go_upto_region 5 with fail
          refine rgP K3 HB3 HB3.size [] [] [(0, 16, .int .i64 ((y : Nat) : Int)), (1, 17, .int .i64 ((y % 2 : Nat) : Int)), (2, 18, .bool false)] [] [] [] ?_ ?_
          · refine oc g_mv ?_
            refine oc (g_bn (fun uZ => remi _ _ y 2 uZ (by omega) (by decide))) ?_
            exact oc (g_bn (fun uZ => eqz_i _ _ ((y % 2 : Nat) : Int) 1 false uZ he1)) on
          intro u4 HB4 sz4 K4
          simp only [fX, nK, nP, Wr.f, aK, pM] at K4
          simp only [setG, setN, List.set_cons_zero, List.set_cons_succ]
          clear K3 HB3
          go_upto_region 7 with fail
          refine rgP K4 HB4 HB4.size [] [] [(0, 22, .int .i64 ((x : Nat) : Int)), (1, 23, .int .i64 ((2 * x : Nat) : Int)), (2, 6, .int .i64 ((2 * x : Nat) : Int))] [(2, 0)] [(2, 6)] [] ?_ ?_
          · refine oc g_mv ?_
            refine oc (g_bn (fun uZ => muli _ _ 2 x (2 * x) uZ rfl (by omega))) ?_
            exact oc g_as on
          intro u5 HB5 sz5 K5
          simp only [fX, nK, nP, Wr.f, aK, pM] at K5
          simp only [setG, setN, List.set_cons_zero, List.set_cons_succ]
          clear K4 HB4
          go_upto_region 8 with fail
          refine rgP K5 HB5 HB5.size [] [] [(0, 24, .int .i64 ((2 * x : Nat) : Int)), (1, 25, .bool false)] [] [] [] ?_ ?_
          · refine oc g_mv ?_
            exact oc (g_bn (fun uZ => geq_z _ _ ((2 * x : Nat) : Int) 256 false uZ hg1)) on
          intro u6 HB6 sz6 K6
          simp only [fX, nK, nP, Wr.f, aK, pM] at K6
          simp only [setG, setN, List.set_cons_zero, List.set_cons_succ]
          clear K5 HB5
          go_upto_region 4 with fail
          refine rgP K6 HB6 HB6.size [] [] [(0, 14, .int .i64 ((y : Nat) : Int)), (1, 15, .int .i64 ((y / 2 : Nat) : Int)), (2, 7, .int .i64 ((y / 2 : Nat) : Int))] [(2, 0)] [(2, 7)] [] ?_ ?_
          · refine oc g_mv ?_
            refine oc (g_bn (fun uZ => quo_n _ _ y 2 uZ (by omega) (by decide))) ?_
            exact oc g_as on
          intro u7 HB7 sz7 K7
          simp only [fX, nK, nP, Wr.f, aK, pM] at K7
          simp only [setG, setN, List.set_cons_zero, List.set_cons_succ]
          clear K6 HB6
          go_wp2
          refine ⟨⟨n, o, xt x, y / 2, (by rw [← hxt]), rfl, rfl, ho, xt_lt x hx, by omega, by rw [Nat.pow_succ] at hyn; omega, (by show TL n (o) (xt x) (y / 2) = r; rw [← hr.out, hS.out, if_neg (by omega)]), HB7⟩, ?_⟩
          simp [intOf] <;> omega
    · have hl1 : decide ((0 : Int) < (y : Int)) = false := by simp; omega
      have hy0 : y = 0 := by omega
      subst hy0
      have hr2 := hr.out
      rw [hZ.out] at hr2
      subst hr2
      have K2_2 := Bk.nil (w.heap.size) wr
      go_upto_region 3 with fail
      refine rgP K2_2 HBr HBr.size [] [] [(0, 12, .int .i64 ((0 : Nat) : Int)), (1, 13, .bool false)] [] [] [] ?_ ?_
      · refine oc g_mv ?_
        exact oc (g_bn (fun uZ => gtr_i _ _ ((0 : Nat) : Int) 0 false uZ hl1)) on
      intro u3 HB3 sz3 K3
      simp only [fX, nK, nP, Wr.f, aK, pM] at K3
      simp only [setG, setN, List.set_cons_zero, List.set_cons_succ]
      go_upto_region 10 with fail
      refine rgP K3 HB3 HB3.size [] [] [(0, 28, .int .i64 ((o : Nat) : Int)), (1, 29, .int .u8 ((o : Nat) : Int)), (2, 4, .int .u8 ((o : Nat) : Int))] [] [] [] ?_ ?_
      · refine oc g_mv ?_
        refine oc (g_op (fun ev uZ he => cvi8z uZ ho rfl (he _ _ rfl))) ?_
        exact oc g_as on
      intro u4 HB4 sz4 K4
      simp only [fX, nK, nP, Wr.f, aK, pM] at K4
      simp only [setG, setN, List.set_cons_zero, List.set_cons_succ]
      clear K3 HB3
      go_wp2
      refine bodyPost_ret (v := .int .u8 ((o : Nat) : Int)) (by simp [results, Tryd.results11, go_sem, ]) rfl ⟨rfl, HB4⟩
theorem cTimesR (a b : Nat) (w : World) (ha : a < 256) (hb : b < 256) : Calls Tryd.prog 11 #[.int .u8 a, .int .u8 b] w fun en w' => en = .returned (.int .u8 (tm a b : Nat)) ∧ Below w.heap.size w w' :=
  cTimesR_core a b _ tmL w ha hb rfl (fun {n o x} => tmL_zero n o x) (fun {n o x y} => rfl)
set_option maxRecDepth 100000 in
set_option maxHeartbeats 4000000 in
theorem cSubstR_core (a : Nat) (iv tf oF yF : Nat → Nat) (w : World) (hv0 : Hid (iv 0 = 0)) (hvs : Hid (∀ k, iv (k + 1) = if tf (k + 1) = 1 then k + 1 else iv k)) (htl : Hid (∀ k, tf k < 256)) (hvl : Hid (iv 255 < 256)) (hTm : Hid (∀ k : Nat, k < 256 → ∀ u, Calls Tryd.prog 11 #[.int .u8 (a : Int), .int .u8 ((k : Nat) : Int)] u fun e w' => e = .returned (.int .u8 ((tf k : Nat) : Int)) ∧ Below u.heap.size u w'))
    (hy0 : Hid (yF 0 = iv 255 ∧ oF 0 = iv 255)) (hys : Hid (∀ j, yF (j + 1) = rotb (yF j))) (hos : Hid (∀ j, oF (j + 1) = oF j ^^^ yF (j + 1))) (hyl : Hid (∀ j, yF j < 256)) (hol : Hid (∀ j, oF j < 256)) :
    Calls Tryd.prog 9 #[.int .u8 a] w fun en w' => en = .returned (.int .u8 ((oF 4 ^^^ 99 : Nat) : Int)) ∧ Below w.heap.size w w' := by
  go_enter Tryd.func9, Tryd.ntmps9
  have HB0 : Below w.heap.size w w := Below.refl _ _
  have K0_1 := Bk.nil (w.heap.size) w
  go_upto_region 1 with fail
  refine rgP K0_1 HB0 HB0.size [] [] [(0, 3, (Go.Value.int Go.IntKind.u8 0))] [] [] [] ?_ ?_
  · exact oc g_as on
  intro u1 HB1 sz1 K1
  simp only [fX, nK, nP, Wr.f, aK, pM] at K1
  simp only [setG, setN, List.set_cons_zero, List.set_cons_succ]
  clear HB0
  go_upto_region 2 with fail
  refine rgP K1 HB1 HB1.size [] [] [(0, 4, (Go.Value.int Go.IntKind.i64 1))] [] [] [] ?_ ?_
  · exact oc g_as on
  intro u2 HB2 sz2 K2
  simp only [fX, nK, nP, Wr.f, aK, pM] at K2
  simp only [setG, setN, List.set_cons_zero, List.set_cons_succ]
  clear K1 HB1
  go_wp2_with fail
  go_loopw [3, 4] (fun s3 s4 wr => ∃ (k : Nat), k ≤ 255 ∧ s4 = .int .i64 ((k + 1 : Nat) : Int) ∧ s3 = .int .u8 ((iv k : Nat) : Int) ∧ Below w.heap.size w wr) (fun _ s4 _ => 256 - (intOf s4).toNat)
  case atStart => exact ⟨0, by omega, rfl, (by rw [hv0.out]; rfl), HB2⟩
  case round =>
    obtain ⟨k, hk, rfl, rfl, HBr⟩ := hrel
    clear HB2
    by_cases hj : k < 255
    · have hl1 : decide (((k + 1 : Nat) : Int) < 256) = true := by simp; omega
      have hT := hTm.out (k + 1) (by omega)
      have hs := hvs.out k
      have hy := htl.out (k + 1)
      obtain ⟨y, ey⟩ : ∃ y, tf (k + 1) = y := ⟨_, rfl⟩
      rw [ey] at hT hs hy
      have hT : Hid _ := hT
      by_cases h1 : y = 1
      · have he1 : decide (((y : Nat) : Int) = 1) = true := by simp; omega
        rw [if_pos h1] at hs
        have K2_2 := Bk.nil (w.heap.size) wr
        go_upto_region 3 with fail
        refine rgP K2_2 HBr HBr.size [] [] [(0, 8, .int .i64 ((k + 1 : Nat) : Int)), (1, 9, .bool true)] [] [] [] ?_ ?_
        · refine oc g_mv ?_
          exact oc (g_bn (fun uZ => lss_i _ _ ((k + 1 : Nat) : Int) 256 true uZ hl1)) on
        intro u3 HB3 sz3 K3
        simp only [fX, nK, nP, Wr.f, aK, pM] at K3
        simp only [setG, setN, List.set_cons_zero, List.set_cons_succ]
        go_upto_region 5 with fail
        refine rgP K3 HB3 HB3.size [] [] [(0, 12, .int .u8 ((a : Nat) : Int)), (1, 13, .int .i64 ((k + 1 : Nat) : Int)), (2, 14, .int .u8 ((k + 1 : Nat) : Int)), (3, 15, .int .u8 ((y : Nat) : Int)), (4, 16, .bool true)] [] [] [] ?_ ?_
        · refine oc g_mv ?_
          refine oc g_mv ?_
          refine oc (g_op (fun ev uZ he => cvi8z uZ (by omega) rfl (he _ _ rfl))) ?_
          refine oc (g_cl ent_seneschalref06_Times (fun uZ => hT.out uZ)) ?_
          exact oc (g_bn (fun uZ => eql8 _ _ ((y : Nat) : Int) 1 true uZ he1)) on
        intro u4 HB4 sz4 K4
        simp only [fX, nK, nP, Wr.f, aK, pM] at K4
        simp only [setG, setN, List.set_cons_zero, List.set_cons_succ]
        clear K3 HB3
        go_upto_region 6 with fail
        refine rgP K4 HB4 HB4.size [] [] [(0, 17, .int .i64 ((k + 1 : Nat) : Int)), (1, 18, .int .u8 ((k + 1 : Nat) : Int)), (2, 3, .int .u8 ((k + 1 : Nat) : Int))] [] [] [] ?_ ?_
        · refine oc g_mv ?_
          refine oc (g_op (fun ev uZ he => cvi8z uZ (by omega) rfl (he _ _ rfl))) ?_
          exact oc g_as on
        intro u5 HB5 sz5 K5
        simp only [fX, nK, nP, Wr.f, aK, pM] at K5
        simp only [setG, setN, List.set_cons_zero, List.set_cons_succ]
        clear K4 HB4
        go_upto_region 4 with fail
        refine rgP K5 HB5 HB5.size [] [] [(0, 10, .int .i64 ((k + 1 : Nat) : Int)), (1, 11, .int .i64 ((k + 1 + 1 : Nat) : Int)), (2, 4, .int .i64 ((k + 1 + 1 : Nat) : Int))] [(2, 0)] [(2, 4)] [] ?_ ?_
        · refine oc g_mv ?_
          refine oc (g_bn (fun uZ => add_i _ _ ((k + 1 : Nat) : Int) 1 ((k + 1 + 1 : Nat) : Int) uZ (by omega) (by omega) (by omega))) ?_
          exact oc g_as on
        intro u6 HB6 sz6 K6
        simp only [fX, nK, nP, Wr.f, aK, pM] at K6
        simp only [setG, setN, List.set_cons_zero, List.set_cons_succ]
        clear K5 HB5
        go_wp2
        refine ⟨⟨k + 1, by omega, rfl, (by rw [hs]), HB6⟩, ?_⟩
        simp [intOf] <;> omega
      · have he1 : decide (((y : Nat) : Int) = 1) = false := by simp; omega
        rw [if_neg h1] at hs
        have K2_2 := Bk.nil (w.heap.size) wr
        go_upto_region 3 with fail
        refine rgP K2_2 HBr HBr.size [] [] [(0, 8, .int .i64 ((k + 1 : Nat) : Int)), (1, 9, .bool true)] [] [] [] ?_ ?_
        · refine oc g_mv ?_
          exact oc (g_bn (fun uZ => lss_i _ _ ((k + 1 : Nat) : Int) 256 true uZ hl1)) on
        intro u3 HB3 sz3 K3
        simp only [fX, nK, nP, Wr.f, aK, pM] at K3
        simp only [setG, setN, List.set_cons_zero, List.set_cons_succ]
        go_upto_region 5 with fail
        refine rgP K3 HB3 HB3.size [] [] [(0, 12, .int .u8 ((a : Nat) : Int)), (1, 13, .int .i64 ((k + 1 : Nat) : Int)), (2, 14, .int .u8 ((k + 1 : Nat) : Int)), (3, 15, .int .u8 ((y : Nat) : Int)), (4, 16, .bool false)] [] [] [] ?_ ?_
        · refine oc g_mv ?_
          refine oc g_mv ?_
          refine oc (g_op (fun ev uZ he => cvi8z uZ (by omega) rfl (he _ _ rfl))) ?_
          refine oc (g_cl ent_seneschalref06_Times (fun uZ => hT.out uZ)) ?_
          exact oc (g_bn (fun uZ => eql8 _ _ ((y : Nat) : Int) 1 false uZ he1)) on
        intro u4 HB4 sz4 K4
        simp only [fX, nK, nP, Wr.f, aK, pM] at K4
        simp only [setG, setN, List.set_cons_zero, List.set_cons_succ]
        clear K3 HB3
        go_upto_region 4 with fail
        refine rgP K4 HB4 HB4.size [] [] [(0, 10, .int .i64 ((k + 1 : Nat) : Int)), (1, 11, .int .i64 ((k + 1 + 1 : Nat) : Int)), (2, 4, .int .i64 ((k + 1 + 1 : Nat) : Int))] [(2, 0)] [(2, 4)] [] ?_ ?_
        · refine oc g_mv ?_
          refine oc (g_bn (fun uZ => add_i _ _ ((k + 1 : Nat) : Int) 1 ((k + 1 + 1 : Nat) : Int) uZ (by omega) (by omega) (by omega))) ?_
          exact oc g_as on
        intro u5 HB5 sz5 K5
        simp only [fX, nK, nP, Wr.f, aK, pM] at K5
        simp only [setG, setN, List.set_cons_zero, List.set_cons_succ]
        clear K4 HB4
        go_wp2
        refine ⟨⟨k + 1, by omega, rfl, (by rw [hs]), HB5⟩, ?_⟩
        simp [intOf] <;> omega
    · have hl1 : decide (((k + 1 : Nat) : Int) < 256) = false := by simp; omega
      have hk5 : k = 255 := by omega
      subst hk5
      have hv5 := hvl.out
      obtain ⟨v, ev⟩ : ∃ v, iv 255 = v := ⟨_, rfl⟩
      rw [ev] at hv5 hy0
      rw [ev]
      have K2_2 := Bk.nil (w.heap.size) wr
      go_upto_region 3 with fail
      refine rgP K2_2 HBr HBr.size [] [] [(0, 8, .int .i64 ((255 + 1 : Nat) : Int)), (1, 9, .bool false)] [] [] [] ?_ ?_
      · refine oc g_mv ?_
        exact oc (g_bn (fun uZ => lss_i _ _ ((255 + 1 : Nat) : Int) 256 false uZ hl1)) on
      intro u3 HB3 sz3 K3
      simp only [fX, nK, nP, Wr.f, aK, pM] at K3
      simp only [setG, setN, List.set_cons_zero, List.set_cons_succ]
      go_upto_region 7 with fail
      refine rgP K3 HB3 HB3.size [] [] [(0, 19, .int .u8 ((v : Nat) : Int)), (1, 20, .int .u8 ((v : Nat) : Int)), (2, 5, .int .u8 ((v : Nat) : Int)), (3, 6, .int .u8 ((v : Nat) : Int))] [] [] [] ?_ ?_
      · refine oc g_mv ?_
        refine oc g_mv ?_
        refine oc g_as ?_
        exact oc g_as on
      intro u4 HB4 sz4 K4
      simp only [fX, nK, nP, Wr.f, aK, pM] at K4
      simp only [setG, setN, List.set_cons_zero, List.set_cons_succ]
      clear K3 HB3
      go_upto_region 8 with fail
      refine rgP K4 HB4 HB4.size [] [] [(0, 7, (Go.Value.int Go.IntKind.i64 0))] [] [] [] ?_ ?_
      · exact oc g_as on
      intro u5 HB5 sz5 K5
      simp only [fX, nK, nP, Wr.f, aK, pM] at K5
      simp only [setG, setN, List.set_cons_zero, List.set_cons_succ]
      clear K4 HB4
      go_wp2_with fail
      go_loopw [5, 6, 7] (fun s5 s6 s7 wq => ∃ (j : Nat), j ≤ 4 ∧ s7 = .int .i64 (j : Int) ∧ s5 = .int .u8 ((oF j : Nat) : Int) ∧ s6 = .int .u8 ((yF j : Nat) : Int) ∧ Below w.heap.size w wq) (fun _ _ s7 _ => 4 - (intOf s7).toNat)
      case atStart => exact ⟨0, by omega, rfl, (by rw [hy0.out.2]), (by rw [hy0.out.1]), HB5⟩
      case round =>
        obtain ⟨j, hj4, rfl, rfl, rfl, HBq⟩ := hrel
        clear hl1 HB5
        by_cases hjj : j < 4
        · have hl1 : decide ((j : Int) < 4) = true := by simp; omega
          have h1 := hys.out j
          have h2 := hos.out j
          have h3 := hyl.out j
          have h4 := hol.out j
          have h5 := hyl.out (j + 1)
          rw [h1] at h2 h5
          obtain ⟨y, ey⟩ : ∃ y, yF j = y := ⟨_, rfl⟩
          obtain ⟨o, eo⟩ : ∃ o, oF j = o := ⟨_, rfl⟩
          rw [ey] at h1 h2 h3 h5
          rw [eo] at h2 h4
          rw [ey, eo]
          have h6 := rotb_eq y h3
          have K5_3 := Bk.nil (w.heap.size) wr
          go_upto_region 9 with fail
          refine rgP K5_3 HBq HBq.size [] [] [(0, 21, .int .i64 ((j : Nat) : Int)), (1, 22, .bool true)] [] [] [] ?_ ?_
          · refine oc g_mv ?_
            exact oc (g_bn (fun uZ => lss_i _ _ (j : Int) 4 true uZ hl1)) on
          intro u6 HB6 sz6 K6
          simp only [fX, nK, nP, Wr.f, aK, pM] at K6
          simp only [setG, setN, List.set_cons_zero, List.set_cons_succ]
          go_upto_region 11 with fail
          refine rgP K6 HB6 HB6.size [] [] [(0, 25, .int .u8 ((y : Nat) : Int)), (1, 26, .int .u8 (((2 * y) % 256 : Nat) : Int)), (2, 27, .int .u8 ((y : Nat) : Int)), (3, 28, .int .u8 ((y / 128 : Nat) : Int)), (4, 29, .int .u8 ((rotb y : Nat) : Int)), (5, 6, .int .u8 ((rotb y : Nat) : Int))] [(5, 0), (5, 2)] [(5, 6)] [] ?_ ?_
          · refine oc g_mv ?_
            refine oc (g_bn (fun uZ => mul8 _ _ y uZ)) ?_
            refine oc g_mv ?_
            refine oc (g_bn (fun uZ => quo128 _ _ y uZ h3)) ?_
            refine oc (g_bn (fun uZ => add8z _ _ ((2 * y) % 256) (y / 128) (rotb y) uZ h6 h5)) ?_
            exact oc g_as on
          intro u7 HB7 sz7 K7
          simp only [fX, nK, nP, Wr.f, aK, pM] at K7
          simp only [setG, setN, List.set_cons_zero, List.set_cons_succ]
          clear K6 HB6
          go_upto_region 12 with fail
          refine rgP K7 HB7 HB7.size [] [] [(0, 30, .int .u8 ((o : Nat) : Int)), (1, 31, .int .u8 ((rotb y : Nat) : Int)), (2, 32, .int .u8 ((o ^^^ rotb y : Nat) : Int)), (3, 5, .int .u8 ((o ^^^ rotb y : Nat) : Int))] [(3, 0)] [(3, 5)] [] ?_ ?_
          · refine oc g_mv ?_
            refine oc g_mv ?_
            refine oc (g_bn (fun uZ => xor8 _ _ o (rotb y) uZ h4 h5)) ?_
            exact oc g_as on
          intro u8 HB8 sz8 K8
          simp only [fX, nK, nP, Wr.f, aK, pM] at K8
          simp only [setG, setN, List.set_cons_zero, List.set_cons_succ]
          clear K7 HB7
          go_upto_region 10 with fail
          refine rgP K8 HB8 HB8.size [] [] [(0, 23, .int .i64 ((j : Nat) : Int)), (1, 24, .int .i64 ((j + 1 : Nat) : Int)), (2, 7, .int .i64 ((j + 1 : Nat) : Int))] [(2, 0)] [(2, 7)] [] ?_ ?_
          · refine oc g_mv ?_
            refine oc (g_bn (fun uZ => add_i _ _ (j : Int) 1 ((j + 1 : Nat) : Int) uZ (by omega) (by omega) (by omega))) ?_
            exact oc g_as on
          intro u9 HB9 sz9 K9
          simp only [fX, nK, nP, Wr.f, aK, pM] at K9
          simp only [setG, setN, List.set_cons_zero, List.set_cons_succ]
          clear K8 HB8
          go_wp2
          refine ⟨⟨j + 1, by omega, rfl, (by rw [h2]), (by rw [h1]), HB9⟩, ?_⟩
          simp [intOf] <;> omega
        · have hl1 : decide ((j : Int) < 4) = false := by simp; omega
          have hj4 : j = 4 := by omega
          subst hj4
          have h4 := hol.out 4
          have K5_3 := Bk.nil (w.heap.size) wr
          go_upto_region 9 with fail
          refine rgP K5_3 HBq HBq.size [] [] [(0, 21, .int .i64 ((4 : Nat) : Int)), (1, 22, .bool false)] [] [] [] ?_ ?_
          · refine oc g_mv ?_
            exact oc (g_bn (fun uZ => lss_i _ _ ((4 : Nat) : Int) 4 false uZ hl1)) on
          intro u6 HB6 sz6 K6
          simp only [fX, nK, nP, Wr.f, aK, pM] at K6
          simp only [setG, setN, List.set_cons_zero, List.set_cons_succ]
          go_upto_region 13 with fail
          refine rgP K6 HB6 HB6.size [] [] [(0, 33, .int .u8 ((oF 4 : Nat) : Int)), (1, 34, .int .u8 ((oF 4 ^^^ 99 : Nat) : Int)), (2, 2, .int .u8 ((oF 4 ^^^ 99 : Nat) : Int))] [] [] [] ?_ ?_
          · refine oc g_mv ?_
            refine oc (g_bn (fun uZ => xor8 _ _ (oF 4) 99 uZ h4 (by decide))) ?_
            exact oc g_as on
          intro u7 HB7 sz7 K7
          simp only [fX, nK, nP, Wr.f, aK, pM] at K7
          simp only [setG, setN, List.set_cons_zero, List.set_cons_succ]
          clear K6 HB6
          go_wp2
          refine bodyPost_ret (v := .int .u8 ((oF 4 ^^^ 99 : Nat) : Int)) (by simp [results, Tryd.results9, go_sem, ]) rfl ⟨rfl, HB7⟩
def rotK (v : Nat) : Nat → Nat
  | 0 => v
  | j + 1 => rotb (rotK v j)
def outK (v : Nat) : Nat → Nat
  | 0 => v
  | j + 1 => outK v j ^^^ rotK v (j + 1)
theorem rotK_lt {v : Nat} (h : v < 256) : ∀ j, rotK v j < 256
  | 0 => h
  | j + 1 => rotb_lt _
theorem outK_lt {v : Nat} (h : v < 256) : ∀ j, outK v j < 256
  | 0 => h
  | j + 1 => xr8 (outK_lt h j) (rotK_lt h _)
theorem outK_4 (v : Nat) : outK v 4 ^^^ 99 = aff v := rfl
theorem cSubstR (a : Nat) (w : World) (ha : a < 256) : Calls Tryd.prog 9 #[.int .u8 a] w fun en w' => en = .returned (.int .u8 (sbT.getD a 0 : Nat)) ∧ Below w.heap.size w w' := by
  have e : aff (srch a 255) = sbT.getD a 0 := by rw [srch_all ha]; exact sb_is a ha
  have hv : srch a 255 < 256 := by rw [srch_all ha]; exact ivT_lt a ha
  rw [← e, ← outK_4]
  exact cSubstR_core a (srch a) (tm a) (outK (srch a 255)) (rotK (srch a 255)) w rfl (fun k => by rw [srch]) (fun k => tm_lt ha) hv (fun k hk u => cTimesR a k u ha hk) ⟨rfl, rfl⟩ (fun _ => rfl) (fun _ => rfl) (rotK_lt hv) (outK_lt hv)
end Go.Proofs.YtlcjbnhfmcnnfaaDoor
