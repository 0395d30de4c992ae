/- The reference's products and substitutes. -/
import Derived.Test.YtlcjbnhfmcnnfaaDoorAH
namespace Go.Proofs.YtlcjbnhfmcnnfaaDoor
open Go.RowKit
set_option linter.unusedVariables false
set_option linter.unusedSimpArgs false
theorem ent_seneschalref06_Times (vs : Array Value) (w : World) : (callFunc 11 vs).run Tryd.prog w = .ok (.enter 11 vs) w := by kernel_rfl
theorem ent_seneschalref06_Table (vs : Array Value) (w : World) : (callFunc 12 vs).run Tryd.prog w = .ok (.enter 12 vs) w := by kernel_rfl
theorem ent_seneschalref06_Keys (vs : Array Value) (w : World) : (callFunc 20 vs).run Tryd.prog w = .ok (.enter 20 vs) w := by kernel_rfl
theorem ent_seneschalref06_keysBy (vs : Array Value) (w : World) : (callFunc 25 vs).run Tryd.prog w = .ok (.enter 25 vs) w := by kernel_rfl
theorem ent_seneschalref06_xor (vs : Array Value) (w : World) : (callFunc 26 vs).run Tryd.prog w = .ok (.enter 26 vs) w := by kernel_rfl
theorem ent_seneschalref06_mix (vs : Array Value) (w : World) : (callFunc 27 vs).run Tryd.prog w = .ok (.enter 27 vs) w := by kernel_rfl
theorem ent_seneschalref06_Encrypt (vs : Array Value) (w : World) : (callFunc 16 vs).run Tryd.prog w = .ok (.enter 16 vs) w := by kernel_rfl
theorem ent_seneschalref06_Decrypt (vs : Array Value) (w : World) : (callFunc 18 vs).run Tryd.prog w = .ok (.enter 18 vs) w := by kernel_rfl
theorem mul8 (p q : Operand) (a : Nat) (w : World) : (do eqGuard .mul 5 p q (.int .u8 a) (.int .u8 2); binOp .mul 5 (.int .u8 a) (.int .u8 2) : Sem Value).run Tryd.prog w = .ok (.int .u8 (((2 * a) % 256 : Nat) : Int)) w := by
  have e : IntKind.u8.wrap ((a : Int) * 2) = 2 * (a : Int) % 256 := by
    simp [IntKind.wrap, IntKind.signed, IntKind.bits]; omega
  go_simp
  all_goals first | exact e | (simp [IntKind.wrap, IntKind.signed, IntKind.bits]; omega)
theorem quo128 (p q : Operand) (a : Nat) (w : World) (h : a < 256) : (do eqGuard .quo 5 p q (.int .u8 a) (.int .u8 128); binOp .quo 5 (.int .u8 a) (.int .u8 128) : Sem Value).run Tryd.prog w = .ok (.int .u8 ((a / 128 : Nat) : Int)) w := by
  have e0 : ((a : Int)).tdiv 128 = ((a / 128 : Nat) : Int) := by rw [Int.tdiv_eq_ediv_of_nonneg (Int.natCast_nonneg _)]; simp
  have hle : a / 128 ≤ a := Nat.div_le_self _ _
  obtain ⟨z, hz⟩ : ∃ z, a / 128 = z := ⟨_, rfl⟩
  rw [hz] at e0 hle ⊢
  have e : IntKind.u8.wrap (z : Int) = (z : Int) := wraps_u8 _ (by omega) (by omega)
  go_simp
theorem add8z (p q : Operand) (a b c : Nat) (w : World) (h : a + b = c) (hc : c < 256) : (do eqGuard .add 5 p q (.int .u8 a) (.int .u8 b); binOp .add 5 (.int .u8 a) (.int .u8 b) : Sem Value).run Tryd.prog w = .ok (.int .u8 (c : Int)) w := by
  have e : IntKind.u8.wrap ((a : Int) + b) = (c : Int) := by rw [show (a : Int) + b = (c : Int) by omega]; exact wraps_u8 _ (by omega) (by omega)
  go_simp
theorem rotb_eq : ∀ y, y < 256 → (2 * y) % 256 + y / 128 = rotb y := by decide +kernel
theorem rotb_lt (y : Nat) : rotb y < 256 := Nat.mod_lt _ (by decide)
theorem xtp {x : Nat} (h : 256 ≤ 2 * x) : (2 * x) ^^^ 283 = xt x := by rw [xt, if_pos h]
theorem xtn {x : Nat} (h : ¬ 256 ≤ 2 * x) : 2 * x = xt x := by rw [xt, if_neg h]
set_option maxRecDepth 100000 in
set_option maxHeartbeats 4000000 in
theorem cTimesR_core (a b r : Nat) (TL : Nat → Nat → Nat → Nat → Nat) (w : World) (ha : a < 256) (hb : b < 256) (h8 : Hid (TL 8 0 a b = r)) (hZ : Hid (∀ {n o x}, TL n o x 0 = o)) (hS : Hid (∀ {n o x y}, TL (n + 1) o x y = TL n (if y % 2 = 1 then o ^^^ x else o) (xt x) (y / 2))) : Calls Tryd.prog 11 #[.int .u8 a, .int .u8 b] w fun en w' => en = .returned (.int .u8 (r : Nat)) ∧ Below w.heap.size w w' := by
  go_enter Tryd.func11, Tryd.ntmps11
  have HB0 : Below w.heap.size w w := Below.refl _ _
  have K0_1 := Bk.nil (w.heap.size) w
  go_upto_region 1 with fail
  refine rgP K0_1 HB0 HB0.size [] [] [(0, 8, .int .u8 ((a : Nat) : Int)), (1, 9, .int .i64 ((a : Nat) : Int)), (2, 5, (Go.Value.int Go.IntKind.i64 0)), (3, 6, .int .i64 ((a : Nat) : Int))] [] [] [] ?_ ?_
  · refine oc g_mv ?_
    refine oc (g_op (fun ev uZ he => cv8i uZ ha rfl (he _ _ rfl))) ?_
    refine oc g_as ?_
    exact oc g_as on
  intro u1 HB1 sz1 K1
  simp only [fX, nK, nP, Wr.f, aK, pM] at K1
  simp only [setG, setN, List.set_cons_zero, List.set_cons_succ]
  clear HB0
  go_upto_region 2 with fail
  refine rgP K1 HB1 HB1.size [] [] [(0, 10, .int .u8 ((b : Nat) : Int)), (1, 11, .int .i64 ((b : Nat) : Int)), (2, 7, .int .i64 ((b : Nat) : Int))] [] [] [] ?_ ?_
  · refine oc g_mv ?_
    refine oc (g_op (fun ev uZ he => cv8i uZ hb rfl (he _ _ rfl))) ?_
    exact oc g_as on
  intro u2 HB2 sz2 K2
  simp only [fX, nK, nP, Wr.f, aK, pM] at K2
  simp only [setG, setN, List.set_cons_zero, List.set_cons_succ]
  clear K1 HB1
  go_wp2_with fail
  go_loopw [5, 6, 7] (fun s5 s6 s7 wr => ∃ (n o x y : Nat), s6 = .int .i64 (x : Int) ∧ s7 = .int .i64 (y : Int) ∧ s5 = .int .i64 (o : Int) ∧ o < 256 ∧ x < 256 ∧ y < 256 ∧ y < 2 ^ n ∧ Hid (TL n o x y = r) ∧ Below w.heap.size w wr) (fun _ _ s7 _ => (intOf s7).toNat)
  case atStart => exact ⟨8, 0, a, b, rfl, rfl, rfl, by decide, ha, hb, hb, h8, HB2⟩
  case round =>
    obtain ⟨n, o, x, y, rfl, rfl, rfl, ho, hx, hy, hyn, hr, HBr⟩ := hrel
    clear HB2
    by_cases hj : 0 < y
    · obtain ⟨n, rfl⟩ : ∃ m, n = m + 1 := by
        cases n with
        | zero => simp at hyn; omega
        | succ m => exact ⟨m, rfl⟩
      by_cases ho2 : y % 2 = 1
      · by_cases hbig : 256 ≤ 2 * x
        · have hl1 : decide ((0 : Int) < (y : Int)) = true := by simp; omega
          have he1 : decide (((y % 2 : Nat) : Int) = 1) = true := by simp; omega
          have hg1 : decide ((256 : Int) ≤ ((2 * x : Nat) : Int)) = true := by simp; omega
          have hxt := xtp hbig
          have K2_2 := Bk.nil (w.heap.size) wr
          go_upto_region 3 with fail
          refine rgP K2_2 HBr HBr.size [] [] [(0, 12, .int .i64 ((y : Nat) : Int)), (1, 13, .bool true)] [] [] [] ?_ ?_
          · refine oc g_mv ?_
            exact oc (g_bn (fun uZ => gtr_i _ _ (y : Int) 0 true uZ hl1)) on
          intro u3 HB3 sz3 K3
          simp only [fX, nK, nP, Wr.f, aK, pM] at K3
          simp only [setG, setN, List.set_cons_zero, List.set_cons_succ]
          go_upto_region 5 with fail
          refine rgP K3 HB3 HB3.size [] [] [(0, 16, .int .i64 ((y : Nat) : Int)), (1, 17, .int .i64 ((y % 2 : Nat) : Int)), (2, 18, .bool true)] [] [] [] ?_ ?_
          · refine oc g_mv ?_
            refine oc (g_bn (fun uZ => remi _ _ y 2 uZ (by omega) (by decide))) ?_
            exact oc (g_bn (fun uZ => eqz_i _ _ ((y % 2 : Nat) : Int) 1 true uZ he1)) on
          intro u4 HB4 sz4 K4
          simp only [fX, nK, nP, Wr.f, aK, pM] at K4
          simp only [setG, setN, List.set_cons_zero, List.set_cons_succ]
          clear K3 HB3
          go_upto_region 6 with fail
          refine rgP K4 HB4 HB4.size [] [] [(0, 19, .int .i64 ((o : Nat) : Int)), (1, 20, .int .i64 ((x : Nat) : Int)), (2, 21, .int .i64 ((o ^^^ x : Nat) : Int)), (3, 5, .int .i64 ((o ^^^ x : Nat) : Int))] [(3, 0)] [(3, 5)] [] ?_ ?_
          · refine oc g_mv ?_
            refine oc g_mv ?_
            refine oc (g_bn (fun uZ => xori _ _ o x uZ (by omega) (by omega))) ?_
            exact oc g_as on
          intro u5 HB5 sz5 K5
          simp only [fX, nK, nP, Wr.f, aK, pM] at K5
          simp only [setG, setN, List.set_cons_zero, List.set_cons_succ]
          clear K4 HB4
          go_upto_region 7 with fail
          refine rgP K5 HB5 HB5.size [] [] [(0, 22, .int .i64 ((x : Nat) : Int)), (1, 23, .int .i64 ((2 * x : Nat) : Int)), (2, 6, .int .i64 ((2 * x : Nat) : Int))] [(2, 0)] [(2, 6)] [] ?_ ?_
          · refine oc g_mv ?_
            refine oc (g_bn (fun uZ => muli _ _ 2 x (2 * x) uZ rfl (by omega))) ?_
            exact oc g_as on
          intro u6 HB6 sz6 K6
          simp only [fX, nK, nP, Wr.f, aK, pM] at K6
          simp only [setG, setN, List.set_cons_zero, List.set_cons_succ]
          clear K5 HB5
          go_upto_region 8 with fail
          refine rgP K6 HB6 HB6.size [] [] [(0, 24, .int .i64 ((2 * x : Nat) : Int)), (1, 25, .bool true)] [] [] [] ?_ ?_
          · refine oc g_mv ?_
            exact oc (g_bn (fun uZ => geq_z _ _ ((2 * x : Nat) : Int) 256 true uZ hg1)) on
          intro u7 HB7 sz7 K7
          simp only [fX, nK, nP, Wr.f, aK, pM] at K7
          simp only [setG, setN, List.set_cons_zero, List.set_cons_succ]
          clear K6 HB6
          go_upto_region 9 with fail
          refine rgP K7 HB7 HB7.size [] [] [(0, 26, .int .i64 ((2 * x : Nat) : Int)), (1, 27, .int .i64 (((2 * x) ^^^ 283 : Nat) : Int)), (2, 6, .int .i64 (((2 * x) ^^^ 283 : Nat) : Int))] [(2, 0)] [(2, 6)] [] ?_ ?_
          · refine oc g_mv ?_
            refine oc (g_bn (fun uZ => xori _ _ (2 * x) 283 uZ (by omega) (by decide))) ?_
            exact oc g_as on
          intro u8 HB8 sz8 K8
          simp only [fX, nK, nP, Wr.f, aK, pM] at K8
          simp only [setG, setN, List.set_cons_zero, List.set_cons_succ]
          clear K7 HB7
          go_upto_region 4 with fail
          refine rgP K8 HB8 HB8.size [] [] [(0, 14, .int .i64 ((y : Nat) : Int)), (1, 15, .int .i64 ((y / 2 : Nat) : Int)), (2, 7, .int .i64 ((y / 2 : Nat) : Int))] [(2, 0)] [(2, 7)] [] ?_ ?_
          · refine oc g_mv ?_
            refine oc (g_bn (fun uZ => quo_n _ _ y 2 uZ (by omega) (by decide))) ?_
            exact oc g_as on
          intro u9 HB9 sz9 K9
          simp only [fX, nK, nP, Wr.f, aK, pM] at K9
          simp only [setG, setN, List.set_cons_zero, List.set_cons_succ]
          clear K8 HB8
          go_wp2
          refine ⟨⟨n, o ^^^ x, xt x, y / 2, (by rw [← hxt]), rfl, rfl, xr8 ho hx, xt_lt x hx, by omega, by rw [Nat.pow_succ] at hyn; omega, (by show TL n (o ^^^ x) (xt x) (y / 2) = r; rw [← hr.out, hS.out, if_pos (by omega)]), HB9⟩, ?_⟩
          simp [intOf] <;> omega
        · have hl1 : decide ((0 : Int) < (y : Int)) = true := by simp; omega
          have he1 : decide (((y % 2 : Nat) : Int) = 1) = true := by simp; omega
          have hg1 : decide ((256 : Int) ≤ ((2 * x : Nat) : Int)) = false := by simp; omega
          have hxt := xtn hbig
          have K2_2 := Bk.nil (w.heap.size) wr
          go_upto_region 3 with fail
          refine rgP K2_2 HBr HBr.size [] [] [(0, 12, .int .i64 ((y : Nat) : Int)), (1, 13, .bool true)] [] [] [] ?_ ?_
          · refine oc g_mv ?_
            exact oc (g_bn (fun uZ => gtr_i _ _ (y : Int) 0 true uZ hl1)) on
          intro u3 HB3 sz3 K3
          simp only [fX, nK, nP, Wr.f, aK, pM] at K3
          simp only [setG, setN, List.set_cons_zero, List.set_cons_succ]
          go_upto_region 5 with fail
          refine rgP K3 HB3 HB3.size [] [] [(0, 16, .int .i64 ((y : Nat) : Int)), (1, 17, .int .i64 ((y % 2 : Nat) : Int)), (2, 18, .bool true)] [] [] [] ?_ ?_
          · refine oc g_mv ?_
            refine oc (g_bn (fun uZ => remi _ _ y 2 uZ (by omega) (by decide))) ?_
            exact oc (g_bn (fun uZ => eqz_i _ _ ((y % 2 : Nat) : Int) 1 true uZ he1)) on
          intro u4 HB4 sz4 K4
          simp only [fX, nK, nP, Wr.f, aK, pM] at K4
          simp only [setG, setN, List.set_cons_zero, List.set_cons_succ]
          clear K3 HB3
          go_upto_region 6 with fail
          refine rgP K4 HB4 HB4.size [] [] [(0, 19, .int .i64 ((o : Nat) : Int)), (1, 20, .int .i64 ((x : Nat) : Int)), (2, 21, .int .i64 ((o ^^^ x : Nat) : Int)), (3, 5, .int .i64 ((o ^^^ x : Nat) : Int))] [(3, 0)] [(3, 5)] [] ?_ ?_
          · refine oc g_mv ?_
            refine oc g_mv ?_
            refine oc (g_bn (fun uZ => xori _ _ o x uZ (by omega) (by omega))) ?_
            exact oc g_as on
          intro u5 HB5 sz5 K5
          simp only [fX, nK, nP, Wr.f, aK, pM] at K5
          simp only [setG, setN, List.set_cons_zero, List.set_cons_succ]
          clear K4 HB4
          go_upto_region 7 with fail
          refine rgP K5 HB5 HB5.size [] [] [(0, 22, .int .i64 ((x : Nat) : Int)), (1, 23, .int .i64 ((2 * x : Nat) : Int)), (2, 6, .int .i64 ((2 * x : Nat) : Int))] [(2, 0)] [(2, 6)] [] ?_ ?_
          · refine oc g_mv ?_
            refine oc (g_bn (fun uZ => muli _ _ 2 x (2 * x) uZ rfl (by omega))) ?_
            exact oc g_as on
          intro u6 HB6 sz6 K6
          simp only [fX, nK, nP, Wr.f, aK, pM] at K6
          simp only [setG, setN, List.set_cons_zero, List.set_cons_succ]
          clear K5 HB5
          go_upto_region 8 with fail
          refine rgP K6 HB6 HB6.size [] [] [(0, 24, .int .i64 ((2 * x : Nat) : Int)), (1, 25, .bool false)] [] [] [] ?_ ?_
          · refine oc g_mv ?_
            exact oc (g_bn (fun uZ => geq_z _ _ ((2 * x : Nat) : Int) 256 false uZ hg1)) on
          intro u7 HB7 sz7 K7
          simp only [fX, nK, nP, Wr.f, aK, pM] at K7
          simp only [setG, setN, List.set_cons_zero, List.set_cons_succ]
          clear K6 HB6
          go_upto_region 4 with fail
          refine rgP K7 HB7 HB7.size [] [] [(0, 14, .int .i64 ((y : Nat) : Int)), (1, 15, .int .i64 ((y / 2 : Nat) : Int)), (2, 7, .int .i64 ((y / 2 : Nat) : Int))] [(2, 0)] [(2, 7)] [] ?_ ?_
          · refine oc g_mv ?_
            refine oc (g_bn (fun uZ => quo_n _ _ y 2 uZ (by omega) (by decide))) ?_
            exact oc g_as on
          intro u8 HB8 sz8 K8
          simp only [fX, nK, nP, Wr.f, aK, pM] at K8
          simp only [setG, setN, List.set_cons_zero, List.set_cons_succ]
          clear K7 HB7
          go_wp2
          refine ⟨⟨n, o ^^^ x, xt x, y / 2, (by rw [← hxt]), rfl, rfl, xr8 ho hx, xt_lt x hx, by omega, by rw [Nat.pow_succ] at hyn; omega, (by show TL n (o ^^^ x) (xt x) (y / 2) = r; rw [← hr.out, hS.out, if_pos (by omega)]), HB8⟩, ?_⟩
          simp [intOf] <;> omega
      · by_cases hbig : 256 ≤ 2 * x
        · have hl1 : decide ((0 : Int) < (y : Int)) = true := by simp; omega
          have he1 : decide (((y % 2 : Nat) : Int) = 1) = false := by simp; omega
          have hg1 : decide ((256 : Int) ≤ ((2 * x : Nat) : Int)) = true := by simp; omega
          have hxt := xtp hbig
          have K2_2 := Bk.nil (w.heap.size) wr
          go_upto_region 3 with fail
          refine rgP K2_2 HBr HBr.size [] [] [(0, 12, .int .i64 ((y : Nat) : Int)), (1, 13, .bool true)] [] [] [] ?_ ?_
          · refine oc g_mv ?_
            exact oc (g_bn (fun uZ => gtr_i _ _ (y : Int) 0 true uZ hl1)) on
          intro u3 HB3 sz3 K3
          simp only [fX, nK, nP, Wr.f, aK, pM] at K3
          simp only [setG, setN, List.set_cons_zero, List.set_cons_succ]
          go_upto_region 5 with fail
          refine rgP K3 HB3 HB3.size [] [] [(0, 16, .int .i64 ((y : Nat) : Int)), (1, 17, .int .i64 ((y % 2 : Nat) : Int)), (2, 18, .bool false)] [] [] [] ?_ ?_
          · refine oc g_mv ?_
            refine oc (g_bn (fun uZ => remi _ _ y 2 uZ (by omega) (by decide))) ?_
            exact oc (g_bn (fun uZ => eqz_i _ _ ((y % 2 : Nat) : Int) 1 false uZ he1)) on
          intro u4 HB4 sz4 K4
          simp only [fX, nK, nP, Wr.f, aK, pM] at K4
          simp only [setG, setN, List.set_cons_zero, List.set_cons_succ]
          clear K3 HB3
          go_upto_region 7 with fail
          refine rgP K4 HB4 HB4.size [] [] [(0, 22, .int .i64 ((x : Nat) : Int)), (1, 23, .int .i64 ((2 * x : Nat) : Int)), (2, 6, .int .i64 ((2 * x : Nat) : Int))] [(2, 0)] [(2, 6)] [] ?_ ?_
          · refine oc g_mv ?_
            refine oc (g_bn (fun uZ => muli _ _ 2 x (2 * x) uZ rfl (by omega))) ?_
            exact oc g_as on
          intro u5 HB5 sz5 K5
          simp only [fX, nK, nP, Wr.f, aK, pM] at K5
          simp only [setG, setN, List.set_cons_zero, List.set_cons_succ]
          clear K4 HB4
          go_upto_region 8 with fail
          refine rgP K5 HB5 HB5.size [] [] [(0, 24, .int .i64 ((2 * x : Nat) : Int)), (1, 25, .bool true)] [] [] [] ?_ ?_
          · refine oc g_mv ?_
            exact oc (g_bn (fun uZ => geq_z _ _ ((2 * x : Nat) : Int) 256 true uZ hg1)) on
          intro u6 HB6 sz6 K6
          simp only [fX, nK, nP, Wr.f, aK, pM] at K6
          simp only [setG, setN, List.set_cons_zero, List.set_cons_succ]
          clear K5 HB5
          go_upto_region 9 with fail
          refine rgP K6 HB6 HB6.size [] [] [(0, 26, .int .i64 ((2 * x : Nat) : Int)), (1, 27, .int .i64 (((2 * x) ^^^ 283 : Nat) : Int)), (2, 6, .int .i64 (((2 * x) ^^^ 283 : Nat) : Int))] [(2, 0)] [(2, 6)] [] ?_ ?_
          · refine oc g_mv ?_
            refine oc (g_bn (fun uZ => xori _ _ (2 * x) 283 uZ (by omega) (by decide))) ?_
            exact oc g_as on
          intro u7 HB7 sz7 K7
          simp only [fX, nK, nP, Wr.f, aK, pM] at K7
          simp only [setG, setN, List.set_cons_zero, List.set_cons_succ]
          clear K6 HB6
          go_upto_region 4 with fail
          refine rgP K7 HB7 HB7.size [] [] [(0, 14, .int .i64 ((y : Nat) : Int)), (1, 15, .int .i64 ((y / 2 : Nat) : Int)), (2, 7, .int .i64 ((y / 2 : Nat) : Int))] [(2, 0)] [(2, 7)] [] ?_ ?_
          · refine oc g_mv ?_
            refine oc (g_bn (fun uZ => quo_n _ _ y 2 uZ (by omega) (by decide))) ?_
            exact oc g_as on
          intro u8 HB8 sz8 K8
          simp only [fX, nK, nP, Wr.f, aK, pM] at K8
          simp only [setG, setN, List.set_cons_zero, List.set_cons_succ]
          clear K7 HB7
          go_wp2
          refine ⟨⟨n, o, xt x, y / 2, (by rw [← hxt]), rfl, rfl, ho, xt_lt x hx, by omega, by rw [Nat.pow_succ] at hyn; omega, (by show TL n (o) (xt x) (y / 2) = r; rw [← hr.out, hS.out, if_neg (by omega)]), HB8⟩, ?_⟩
          simp [intOf] <;> omega
        · have hl1 : decide ((0 : Int) < (y : Int)) = true := by simp; omega
          have he1 : decide (((y % 2 : Nat) : Int) = 1) = false := by simp; omega
          have hg1 : decide ((256 : Int) ≤ ((2 * x : Nat) : Int)) = false := by simp; omega
          have hxt := xtn hbig
          have K2_2 := Bk.nil (w.heap.size) wr
          go_upto_region 3 with fail
          refine rgP K2_2 HBr HBr.size [] [] [(0, 12, .int .i64 ((y : Nat) : Int)), (1, 13, .bool true)] [] [] [] ?_ ?_
          · refine oc g_mv ?_
            exact oc (g_bn (fun uZ => gtr_i _ _ (y : Int) 0 true uZ hl1)) on
          intro u3 HB3 sz3 K3
          simp only [fX, nK, nP, Wr.f, aK, pM] at K3
          simp only [setG, setN, List.set_cons_zero, List.set_cons_succ]
          go_upto_region 5 with fail
          refine rgP K3 HB3 HB3.size [] [] [(0, 16, .int .i64 ((y : Nat) : Int)), (1, 17, .int .i64 ((y % 2 : Nat) : Int)), (2, 18, .bool false)] [] [] [] ?_ ?_
          · refine oc g_mv ?_
            refine oc (g_bn (fun uZ => remi _ _ y 2 uZ (by omega) (by decide))) ?_
            exact oc (g_bn (fun uZ => eqz_i _ _ ((y % 2 : Nat) : Int) 1 false uZ he1)) on
          intro u4 HB4 sz4 K4
          simp only [fX, nK, nP, Wr.f, aK, pM] at K4
          simp only [setG, setN, List.set_cons_zero, List.set_cons_succ]
          clear K3 HB3
          go_upto_region 7 with fail
          refine rgP K4 HB4 HB4.size [] [] [(0, 22, .int .i64 ((x : Nat) : Int)), (1, 23, .int .i64 ((2 * x : Nat) : Int)), (2, 6, .int .i64 ((2 * x : Nat) : Int))] [(2, 0)] [(2, 6)] [] ?_ ?_
          · refine oc g_mv ?_
            refine oc (g_bn (fun uZ => muli _ _ 2 x (2 * x) uZ rfl (by omega))) ?_
            exact oc g_as on
          intro u5 HB5 sz5 K5
          simp only [fX, nK, nP, Wr.f, aK, pM] at K5
          simp only [setG, setN, List.set_cons_zero, List.set_cons_succ]
          clear K4 HB4
          go_upto_region 8 with fail
          refine rgP K5 HB5 HB5.size [] [] [(0, 24, .int .i64 ((2 * x : Nat) : Int)), (1, 25, .bool false)] [] [] [] ?_ ?_
          · refine oc g_mv ?_
            exact oc (g_bn (fun uZ => geq_z _ _ ((2 * x : Nat) : Int) 256 false uZ hg1)) on
          intro u6 HB6 sz6 K6
          simp only [fX, nK, nP, Wr.f, aK, pM] at K6
          simp only [setG, setN, List.set_cons_zero, List.set_cons_succ]
          clear K5 HB5
          go_upto_region 4 with fail
          refine rgP K6 HB6 HB6.size [] [] [(0, 14, .int .i64 ((y : Nat) : Int)), (1, 15, .int .i64 ((y / 2 : Nat) : Int)), (2, 7, .int .i64 ((y / 2 : Nat) : Int))] [(2, 0)] [(2, 7)] [] ?_ ?_
          · refine oc g_mv ?_
            refine oc (g_bn (fun uZ => quo_n _ _ y 2 uZ (by omega) (by decide))) ?_
            exact oc g_as on
          intro u7 HB7 sz7 K7
          simp only [fX, nK, nP, Wr.f, aK, pM] at K7
          simp only [setG, setN, List.set_cons_zero, List.set_cons_succ]
          clear K6 HB6
          go_wp2
          refine ⟨⟨n, o, xt x, y / 2, (by rw [← hxt]), rfl, rfl, ho, xt_lt x hx, by omega, by rw [Nat.pow_succ] at hyn; omega, (by show TL n (o) (xt x) (y / 2) = r; rw [← hr.out, hS.out, if_neg (by omega)]), HB7⟩, ?_⟩
          simp [intOf] <;> omega
    · have hl1 : decide ((0 : Int) < (y : Int)) = false := by simp; omega
      have hy0 : y = 0 := by omega
      subst hy0
      have hr2 := hr.out
      rw [hZ.out] at hr2
      subst hr2
      have K2_2 := Bk.nil (w.heap.size) wr
      go_upto_region 3 with fail
      refine rgP K2_2 HBr HBr.size [] [] [(0, 12, .int .i64 ((0 : Nat) : Int)), (1, 13, .bool false)] [] [] [] ?_ ?_
      · refine oc g_mv ?_
        exact oc (g_bn (fun uZ => gtr_i _ _ ((0 : Nat) : Int) 0 false uZ hl1)) on
      intro u3 HB3 sz3 K3
      simp only [fX, nK, nP, Wr.f, aK, pM] at K3
      simp only [setG, setN, List.set_cons_zero, List.set_cons_succ]
      go_upto_region 10 with fail
      refine rgP K3 HB3 HB3.size [] [] [(0, 28, .int .i64 ((o : Nat) : Int)), (1, 29, .int .u8 ((o : Nat) : Int)), (2, 4, .int .u8 ((o : Nat) : Int))] [] [] [] ?_ ?_
      · refine oc g_mv ?_
        refine oc (g_op (fun ev uZ he => cvi8z uZ ho rfl (he _ _ rfl))) ?_
        exact oc g_as on
      intro u4 HB4 sz4 K4
      simp only [fX, nK, nP, Wr.f, aK, pM] at K4
      simp only [setG, setN, List.set_cons_zero, List.set_cons_succ]
      clear K3 HB3
      go_wp2
      refine bodyPost_ret (v := .int .u8 ((o : Nat) : Int)) (by simp [results, Tryd.results11, go_sem, ]) rfl ⟨rfl, HB4⟩
theorem cTimesR (a b : Nat) (w : World) (ha : a < 256) (hb : b < 256) : Calls Tryd.prog 11 #[.int .u8 a, .int .u8 b] w fun en w' => en = .returned (.int .u8 (tm a b : Nat)) ∧ Below w.heap.size w w' :=
  cTimesR_core a b _ tmL w ha hb rfl (fun {n o x} => tmL_zero n o x) (fun {n o x y} => rfl)
def rotK (v : Nat) : Nat → Nat
  | 0 => v
  | j + 1 => rotb (rotK v j)
def outK (v : Nat) : Nat → Nat
  | 0 => v
  | j + 1 => outK v j ^^^ rotK v (j + 1)
theorem rotK_lt {v : Nat} (h : v < 256) : ∀ j, rotK v j < 256
  | 0 => h
  | j + 1 => rotb_lt _
theorem outK_lt {v : Nat} (h : v < 256) : ∀ j, outK v j < 256
  | 0 => h
  | j + 1 => xr8 (outK_lt h j) (rotK_lt h _)
theorem outK_4 (v : Nat) : outK v 4 ^^^ 99 = aff v := rfl
end Go.Proofs.YtlcjbnhfmcnnfaaDoor
