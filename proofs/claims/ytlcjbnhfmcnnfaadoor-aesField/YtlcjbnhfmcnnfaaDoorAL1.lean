/- The law AesTimes: its walk. -/
import Derived.Test.YtlcjbnhfmcnnfaaDoorAH
namespace Go.Proofs.YtlcjbnhfmcnnfaaDoor
open Go.RowKit
set_option linter.unusedVariables false
set_option linter.unusedSimpArgs false
theorem eqb (p q : Operand) (x y b : Bool) (w : World) (h : decide (x = y) = b) : (do eqGuard .eql 4 p q (.bool x) (.bool y); binOp .eql 4 (.bool x) (.bool y) : Sem Value).run Tryd.prog w = .ok (.bool b) w := by
  subst h; go_simp
  all_goals first | rfl | (cases x <;> cases y <;> rfl)
set_option maxRecDepth 100000 in
set_option maxHeartbeats 4000000 in
theorem aesTimes_a (a b c ab bc ac r : Nat) (w : World) (hb : b < 256) (hc : c < 256) (hab : ab < 256) (hac : ac < 256) (hW : Hid (∀ u, Below w.heap.size w u → Calls Tryd.prog 13 #[] u fun e u' => e = .returned (.bool true) ∧ Below u.heap.size u u')) (hT1 : Hid (∀ u, Calls Tryd.prog 10 #[.int .u8 ((a : Nat) : Int), .int .u8 ((b : Nat) : Int)] u fun e w' => e = .returned (.int .u8 ((ab : Nat) : Int)) ∧ Below u.heap.size u w')) (hT2 : Hid (∀ u, Calls Tryd.prog 10 #[.int .u8 ((b : Nat) : Int), .int .u8 ((a : Nat) : Int)] u fun e w' => e = .returned (.int .u8 ((ab : Nat) : Int)) ∧ Below u.heap.size u w')) (hT3 : Hid (∀ u, Calls Tryd.prog 10 #[.int .u8 ((ab : Nat) : Int), .int .u8 ((c : Nat) : Int)] u fun e w' => e = .returned (.int .u8 ((r : Nat) : Int)) ∧ Below u.heap.size u w')) (hT4 : Hid (∀ u, Calls Tryd.prog 10 #[.int .u8 ((b : Nat) : Int), .int .u8 ((c : Nat) : Int)] u fun e w' => e = .returned (.int .u8 ((bc : Nat) : Int)) ∧ Below u.heap.size u w')) (hT5 : Hid (∀ u, Calls Tryd.prog 10 #[.int .u8 ((a : Nat) : Int), .int .u8 ((bc : Nat) : Int)] u fun e w' => e = .returned (.int .u8 ((r : Nat) : Int)) ∧ Below u.heap.size u w')) (hT6 : Hid (∀ u, Calls Tryd.prog 10 #[.int .u8 ((a : Nat) : Int), .int .u8 ((b ^^^ c : Nat) : Int)] u fun e w' => e = .returned (.int .u8 ((ab ^^^ ac : Nat) : Int)) ∧ Below u.heap.size u w')) (hT7 : Hid (∀ u, Calls Tryd.prog 10 #[.int .u8 ((a : Nat) : Int), .int .u8 ((c : Nat) : Int)] u fun e w' => e = .returned (.int .u8 ((ac : Nat) : Int)) ∧ Below u.heap.size u w')) (hT8 : Hid (∀ u, Calls Tryd.prog 10 #[.int .u8 ((a : Nat) : Int), .int .u8 1] u fun e w' => e = .returned (.int .u8 ((a : Nat) : Int)) ∧ Below u.heap.size u w')) (z0 : decide (((ab : Nat) : Int) = 0) = true) (z1 : decide (((a : Nat) : Int) = 0) = true) :
    Calls Tryd.prog 7 #[.int .u8 (a : Int), .int .u8 (b : Int), .int .u8 (c : Int)] w fun e w' => e = .returned (.bool true) ∧ Below w.heap.size w w' := by
  go_enter Tryd.func7, Tryd.ntmps7
  have HB0 : Below w.heap.size w w := Below.refl _ _
  have K0_1 := Bk.nil (w.heap.size) w
  go_upto_region 1 with fail
  refine rgP K0_1 HB0 HB0.size [] [] [(0, 8, .bool true), (1, 9, .bool false)] [] [] [] ?_ ?_
  · refine oc (g_cb ent_seneschallaw06_works (fun uZ bZ => hW.out uZ bZ)) ?_
    exact oc (g_un (fun uZ => not_t uZ)) on
  intro u1 HB1 sz1 K1
  simp only [fX, nK, nP, Wr.f, aK, pM] at K1
  simp only [setG, setN, List.set_cons_zero, List.set_cons_succ]
  clear HB0
  go_upto_region 3 with fail
  refine rgP K1 HB1 HB1.size [] [] [(0, 10, .int .u8 ((a : Nat) : Int)), (1, 11, .int .u8 ((b : Nat) : Int)), (2, 12, .int .u8 ((ab : Nat) : Int)), (3, 7, .int .u8 ((ab : Nat) : Int))] [] [] [] ?_ ?_
  · refine oc g_mv ?_
    refine oc g_mv ?_
    refine oc (g_cl ent_aes_Times (fun uZ => hT1.out uZ)) ?_
    exact oc g_as on
  intro u2 HB2 sz2 K2
  simp only [fX, nK, nP, Wr.f, aK, pM] at K2
  simp only [setG, setN, List.set_cons_zero, List.set_cons_succ]
  clear K1 HB1
  go_upto_region 4 with fail
  refine rgP K2 HB2 HB2.size [] [] [(0, 13, .int .u8 ((ab : Nat) : Int)), (1, 14, .int .u8 ((b : Nat) : Int)), (2, 15, .int .u8 ((a : Nat) : Int)), (3, 16, .int .u8 ((ab : Nat) : Int)), (4, 17, .bool true), (5, 18, .bool true), (6, 19, .int .u8 ((ab : Nat) : Int)), (7, 20, .int .u8 ((c : Nat) : Int)), (8, 21, .int .u8 ((r : Nat) : Int)), (9, 22, .int .u8 ((a : Nat) : Int)), (10, 23, .int .u8 ((b : Nat) : Int)), (11, 24, .int .u8 ((c : Nat) : Int)), (12, 25, .int .u8 ((bc : Nat) : Int)), (13, 26, .int .u8 ((r : Nat) : Int)), (14, 27, .bool true), (15, 28, .bool true), (16, 29, .bool true), (17, 30, .int .u8 ((a : Nat) : Int)), (18, 31, .int .u8 ((b : Nat) : Int)), (19, 32, .int .u8 ((c : Nat) : Int)), (20, 33, .int .u8 ((b ^^^ c : Nat) : Int)), (21, 34, .int .u8 ((ab ^^^ ac : Nat) : Int)), (22, 35, .int .u8 ((ab : Nat) : Int)), (23, 36, .int .u8 ((a : Nat) : Int)), (24, 37, .int .u8 ((c : Nat) : Int)), (25, 38, .int .u8 ((ac : Nat) : Int)), (26, 39, .int .u8 ((ab ^^^ ac : Nat) : Int)), (27, 40, .bool true), (28, 41, .bool true), (29, 42, .bool true), (30, 43, .int .u8 ((ab : Nat) : Int)), (31, 44, .bool true), (32, 45, .int .u8 ((a : Nat) : Int)), (33, 46, .bool true), (34, 47, .bool true), (35, 48, undef), (36, 49, undef), (37, 50, (Go.Value.bool Bool.true)), (38, 51, .bool true), (39, 52, .bool true), (40, 53, .bool true), (41, 54, .int .u8 ((a : Nat) : Int)), (42, 55, .int .u8 ((a : Nat) : Int)), (43, 56, .int .u8 ((a : Nat) : Int)), (44, 57, .bool true), (45, 58, .bool true), (46, 6, .bool true)] [] [] [] ?_ ?_
  · refine oc g_mv ?_
    refine oc g_mv ?_
    refine oc g_mv ?_
    refine oc (g_cl ent_aes_Times (fun uZ => hT2.out uZ)) ?_
    refine oc (g_bn (fun uZ => eql8 _ _ ((ab : Nat) : Int) ((ab : Nat) : Int) true uZ (by simp))) ?_
    refine oc g_mv ?_
    refine oc g_mv ?_
    refine oc g_mv ?_
    refine oc (g_cl ent_aes_Times (fun uZ => hT3.out uZ)) ?_
    refine oc g_mv ?_
    refine oc g_mv ?_
    refine oc g_mv ?_
    refine oc (g_cl ent_aes_Times (fun uZ => hT4.out uZ)) ?_
    refine oc (g_cl ent_aes_Times (fun uZ => hT5.out uZ)) ?_
    refine oc (g_bn (fun uZ => eql8 _ _ ((r : Nat) : Int) ((r : Nat) : Int) true uZ (by simp))) ?_
    refine oc g_pk ?_
    refine oc g_mv ?_
    refine oc g_mv ?_
    refine oc g_mv ?_
    refine oc g_mv ?_
    refine oc (g_bn (fun uZ => xor8 _ _ b c uZ hb hc)) ?_
    refine oc (g_cl ent_aes_Times (fun uZ => hT6.out uZ)) ?_
    refine oc g_mv ?_
    refine oc g_mv ?_
    refine oc g_mv ?_
    refine oc (g_cl ent_aes_Times (fun uZ => hT7.out uZ)) ?_
    refine oc (g_bn (fun uZ => xor8 _ _ ab ac uZ hab hac)) ?_
    refine oc (g_bn (fun uZ => eql8 _ _ ((ab ^^^ ac : Nat) : Int) ((ab ^^^ ac : Nat) : Int) true uZ (by simp))) ?_
    refine oc g_pk ?_
    refine oc g_mv ?_
    refine oc g_mv ?_
    refine oc (g_bn (fun uZ => eql8 _ _ ((ab : Nat) : Int) 0 true uZ z0)) ?_
    refine oc g_mv ?_
    refine oc (g_bn (fun uZ => eql8 _ _ ((a : Nat) : Int) 0 true uZ z1)) ?_
    refine oc g_mv ?_
    refine oc g_sk ?_
    refine oc g_sk ?_
    refine oc g_pk ?_
    refine oc (g_bn (fun uZ => eqb _ _ true true true uZ (by decide))) ?_
    refine oc g_pk ?_
    refine oc g_mv ?_
    refine oc g_mv ?_
    refine oc (g_cl ent_aes_Times (fun uZ => hT8.out uZ)) ?_
    refine oc g_mv ?_
    refine oc (g_bn (fun uZ => eql8 _ _ ((a : Nat) : Int) ((a : Nat) : Int) true uZ (by simp))) ?_
    refine oc g_pk ?_
    exact oc g_as on
  intro u3 HB3 sz3 K3
  simp only [fX, nK, nP, Wr.f, aK, pM] at K3
  simp only [setG, setN, List.set_cons_zero, List.set_cons_succ]
  clear K2 HB2
  go_wp2
  refine bodyPost_ret (v := .bool true) (by simp [results, Tryd.results7, go_sem, ]) rfl ⟨rfl, HB3⟩
set_option maxRecDepth 100000 in
set_option maxHeartbeats 4000000 in
theorem aesTimes_b (a b c ab bc ac r : Nat) (w : World) (hb : b < 256) (hc : c < 256) (hab : ab < 256) (hac : ac < 256) (hW : Hid (∀ u, Below w.heap.size w u → Calls Tryd.prog 13 #[] u fun e u' => e = .returned (.bool true) ∧ Below u.heap.size u u')) (hT1 : Hid (∀ u, Calls Tryd.prog 10 #[.int .u8 ((a : Nat) : Int), .int .u8 ((b : Nat) : Int)] u fun e w' => e = .returned (.int .u8 ((ab : Nat) : Int)) ∧ Below u.heap.size u w')) (hT2 : Hid (∀ u, Calls Tryd.prog 10 #[.int .u8 ((b : Nat) : Int), .int .u8 ((a : Nat) : Int)] u fun e w' => e = .returned (.int .u8 ((ab : Nat) : Int)) ∧ Below u.heap.size u w')) (hT3 : Hid (∀ u, Calls Tryd.prog 10 #[.int .u8 ((ab : Nat) : Int), .int .u8 ((c : Nat) : Int)] u fun e w' => e = .returned (.int .u8 ((r : Nat) : Int)) ∧ Below u.heap.size u w')) (hT4 : Hid (∀ u, Calls Tryd.prog 10 #[.int .u8 ((b : Nat) : Int), .int .u8 ((c : Nat) : Int)] u fun e w' => e = .returned (.int .u8 ((bc : Nat) : Int)) ∧ Below u.heap.size u w')) (hT5 : Hid (∀ u, Calls Tryd.prog 10 #[.int .u8 ((a : Nat) : Int), .int .u8 ((bc : Nat) : Int)] u fun e w' => e = .returned (.int .u8 ((r : Nat) : Int)) ∧ Below u.heap.size u w')) (hT6 : Hid (∀ u, Calls Tryd.prog 10 #[.int .u8 ((a : Nat) : Int), .int .u8 ((b ^^^ c : Nat) : Int)] u fun e w' => e = .returned (.int .u8 ((ab ^^^ ac : Nat) : Int)) ∧ Below u.heap.size u w')) (hT7 : Hid (∀ u, Calls Tryd.prog 10 #[.int .u8 ((a : Nat) : Int), .int .u8 ((c : Nat) : Int)] u fun e w' => e = .returned (.int .u8 ((ac : Nat) : Int)) ∧ Below u.heap.size u w')) (hT8 : Hid (∀ u, Calls Tryd.prog 10 #[.int .u8 ((a : Nat) : Int), .int .u8 1] u fun e w' => e = .returned (.int .u8 ((a : Nat) : Int)) ∧ Below u.heap.size u w')) (z0 : decide (((ab : Nat) : Int) = 0) = true) (z1 : decide (((a : Nat) : Int) = 0) = false) (z2 : decide (((b : Nat) : Int) = 0) = true) :
    Calls Tryd.prog 7 #[.int .u8 (a : Int), .int .u8 (b : Int), .int .u8 (c : Int)] w fun e w' => e = .returned (.bool true) ∧ Below w.heap.size w w' := by
  go_enter Tryd.func7, Tryd.ntmps7
  have HB0 : Below w.heap.size w w := Below.refl _ _
  have K0_1 := Bk.nil (w.heap.size) w
  go_upto_region 1 with fail
  refine rgP K0_1 HB0 HB0.size [] [] [(0, 8, .bool true), (1, 9, .bool false)] [] [] [] ?_ ?_
  · refine oc (g_cb ent_seneschallaw06_works (fun uZ bZ => hW.out uZ bZ)) ?_
    exact oc (g_un (fun uZ => not_t uZ)) on
  intro u1 HB1 sz1 K1
  simp only [fX, nK, nP, Wr.f, aK, pM] at K1
  simp only [setG, setN, List.set_cons_zero, List.set_cons_succ]
  clear HB0
  go_upto_region 3 with fail
  refine rgP K1 HB1 HB1.size [] [] [(0, 10, .int .u8 ((a : Nat) : Int)), (1, 11, .int .u8 ((b : Nat) : Int)), (2, 12, .int .u8 ((ab : Nat) : Int)), (3, 7, .int .u8 ((ab : Nat) : Int))] [] [] [] ?_ ?_
  · refine oc g_mv ?_
    refine oc g_mv ?_
    refine oc (g_cl ent_aes_Times (fun uZ => hT1.out uZ)) ?_
    exact oc g_as on
  intro u2 HB2 sz2 K2
  simp only [fX, nK, nP, Wr.f, aK, pM] at K2
  simp only [setG, setN, List.set_cons_zero, List.set_cons_succ]
  clear K1 HB1
  go_upto_region 4 with fail
  refine rgP K2 HB2 HB2.size [] [] [(0, 13, .int .u8 ((ab : Nat) : Int)), (1, 14, .int .u8 ((b : Nat) : Int)), (2, 15, .int .u8 ((a : Nat) : Int)), (3, 16, .int .u8 ((ab : Nat) : Int)), (4, 17, .bool true), (5, 18, .bool true), (6, 19, .int .u8 ((ab : Nat) : Int)), (7, 20, .int .u8 ((c : Nat) : Int)), (8, 21, .int .u8 ((r : Nat) : Int)), (9, 22, .int .u8 ((a : Nat) : Int)), (10, 23, .int .u8 ((b : Nat) : Int)), (11, 24, .int .u8 ((c : Nat) : Int)), (12, 25, .int .u8 ((bc : Nat) : Int)), (13, 26, .int .u8 ((r : Nat) : Int)), (14, 27, .bool true), (15, 28, .bool true), (16, 29, .bool true), (17, 30, .int .u8 ((a : Nat) : Int)), (18, 31, .int .u8 ((b : Nat) : Int)), (19, 32, .int .u8 ((c : Nat) : Int)), (20, 33, .int .u8 ((b ^^^ c : Nat) : Int)), (21, 34, .int .u8 ((ab ^^^ ac : Nat) : Int)), (22, 35, .int .u8 ((ab : Nat) : Int)), (23, 36, .int .u8 ((a : Nat) : Int)), (24, 37, .int .u8 ((c : Nat) : Int)), (25, 38, .int .u8 ((ac : Nat) : Int)), (26, 39, .int .u8 ((ab ^^^ ac : Nat) : Int)), (27, 40, .bool true), (28, 41, .bool true), (29, 42, .bool true), (30, 43, .int .u8 ((ab : Nat) : Int)), (31, 44, .bool true), (32, 45, .int .u8 ((a : Nat) : Int)), (33, 46, .bool false), (34, 47, .bool false), (35, 48, .int .u8 ((b : Nat) : Int)), (36, 49, .bool true), (37, 50, .bool true), (38, 51, .bool true), (39, 52, .bool true), (40, 53, .bool true), (41, 54, .int .u8 ((a : Nat) : Int)), (42, 55, .int .u8 ((a : Nat) : Int)), (43, 56, .int .u8 ((a : Nat) : Int)), (44, 57, .bool true), (45, 58, .bool true), (46, 6, .bool true)] [] [] [] ?_ ?_
  · refine oc g_mv ?_
    refine oc g_mv ?_
    refine oc g_mv ?_
    refine oc (g_cl ent_aes_Times (fun uZ => hT2.out uZ)) ?_
    refine oc (g_bn (fun uZ => eql8 _ _ ((ab : Nat) : Int) ((ab : Nat) : Int) true uZ (by simp))) ?_
    refine oc g_mv ?_
    refine oc g_mv ?_
    refine oc g_mv ?_
    refine oc (g_cl ent_aes_Times (fun uZ => hT3.out uZ)) ?_
    refine oc g_mv ?_
    refine oc g_mv ?_
    refine oc g_mv ?_
    refine oc (g_cl ent_aes_Times (fun uZ => hT4.out uZ)) ?_
    refine oc (g_cl ent_aes_Times (fun uZ => hT5.out uZ)) ?_
    refine oc (g_bn (fun uZ => eql8 _ _ ((r : Nat) : Int) ((r : Nat) : Int) true uZ (by simp))) ?_
    refine oc g_pk ?_
    refine oc g_mv ?_
    refine oc g_mv ?_
    refine oc g_mv ?_
    refine oc g_mv ?_
    refine oc (g_bn (fun uZ => xor8 _ _ b c uZ hb hc)) ?_
    refine oc (g_cl ent_aes_Times (fun uZ => hT6.out uZ)) ?_
    refine oc g_mv ?_
    refine oc g_mv ?_
    refine oc g_mv ?_
    refine oc (g_cl ent_aes_Times (fun uZ => hT7.out uZ)) ?_
    refine oc (g_bn (fun uZ => xor8 _ _ ab ac uZ hab hac)) ?_
    refine oc (g_bn (fun uZ => eql8 _ _ ((ab ^^^ ac : Nat) : Int) ((ab ^^^ ac : Nat) : Int) true uZ (by simp))) ?_
    refine oc g_pk ?_
    refine oc g_mv ?_
    refine oc g_mv ?_
    refine oc (g_bn (fun uZ => eql8 _ _ ((ab : Nat) : Int) 0 true uZ z0)) ?_
    refine oc g_mv ?_
    refine oc (g_bn (fun uZ => eql8 _ _ ((a : Nat) : Int) 0 false uZ z1)) ?_
    refine oc g_mv ?_
    refine oc g_mv ?_
    refine oc (g_bn (fun uZ => eql8 _ _ ((b : Nat) : Int) 0 true uZ z2)) ?_
    refine oc g_pk ?_
    refine oc (g_bn (fun uZ => eqb _ _ true true true uZ (by decide))) ?_
    refine oc g_pk ?_
    refine oc g_mv ?_
    refine oc g_mv ?_
    refine oc (g_cl ent_aes_Times (fun uZ => hT8.out uZ)) ?_
    refine oc g_mv ?_
    refine oc (g_bn (fun uZ => eql8 _ _ ((a : Nat) : Int) ((a : Nat) : Int) true uZ (by simp))) ?_
    refine oc g_pk ?_
    exact oc g_as on
  intro u3 HB3 sz3 K3
  simp only [fX, nK, nP, Wr.f, aK, pM] at K3
  simp only [setG, setN, List.set_cons_zero, List.set_cons_succ]
  clear K2 HB2
  go_wp2
  refine bodyPost_ret (v := .bool true) (by simp [results, Tryd.results7, go_sem, ]) rfl ⟨rfl, HB3⟩
set_option maxRecDepth 100000 in
set_option maxHeartbeats 4000000 in
theorem aesTimes_n (a b c ab bc ac r : Nat) (w : World) (hb : b < 256) (hc : c < 256) (hab : ab < 256) (hac : ac < 256) (hW : Hid (∀ u, Below w.heap.size w u → Calls Tryd.prog 13 #[] u fun e u' => e = .returned (.bool true) ∧ Below u.heap.size u u')) (hT1 : Hid (∀ u, Calls Tryd.prog 10 #[.int .u8 ((a : Nat) : Int), .int .u8 ((b : Nat) : Int)] u fun e w' => e = .returned (.int .u8 ((ab : Nat) : Int)) ∧ Below u.heap.size u w')) (hT2 : Hid (∀ u, Calls Tryd.prog 10 #[.int .u8 ((b : Nat) : Int), .int .u8 ((a : Nat) : Int)] u fun e w' => e = .returned (.int .u8 ((ab : Nat) : Int)) ∧ Below u.heap.size u w')) (hT3 : Hid (∀ u, Calls Tryd.prog 10 #[.int .u8 ((ab : Nat) : Int), .int .u8 ((c : Nat) : Int)] u fun e w' => e = .returned (.int .u8 ((r : Nat) : Int)) ∧ Below u.heap.size u w')) (hT4 : Hid (∀ u, Calls Tryd.prog 10 #[.int .u8 ((b : Nat) : Int), .int .u8 ((c : Nat) : Int)] u fun e w' => e = .returned (.int .u8 ((bc : Nat) : Int)) ∧ Below u.heap.size u w')) (hT5 : Hid (∀ u, Calls Tryd.prog 10 #[.int .u8 ((a : Nat) : Int), .int .u8 ((bc : Nat) : Int)] u fun e w' => e = .returned (.int .u8 ((r : Nat) : Int)) ∧ Below u.heap.size u w')) (hT6 : Hid (∀ u, Calls Tryd.prog 10 #[.int .u8 ((a : Nat) : Int), .int .u8 ((b ^^^ c : Nat) : Int)] u fun e w' => e = .returned (.int .u8 ((ab ^^^ ac : Nat) : Int)) ∧ Below u.heap.size u w')) (hT7 : Hid (∀ u, Calls Tryd.prog 10 #[.int .u8 ((a : Nat) : Int), .int .u8 ((c : Nat) : Int)] u fun e w' => e = .returned (.int .u8 ((ac : Nat) : Int)) ∧ Below u.heap.size u w')) (hT8 : Hid (∀ u, Calls Tryd.prog 10 #[.int .u8 ((a : Nat) : Int), .int .u8 1] u fun e w' => e = .returned (.int .u8 ((a : Nat) : Int)) ∧ Below u.heap.size u w')) (z0 : decide (((ab : Nat) : Int) = 0) = false) (z1 : decide (((a : Nat) : Int) = 0) = false) (z2 : decide (((b : Nat) : Int) = 0) = false) :
    Calls Tryd.prog 7 #[.int .u8 (a : Int), .int .u8 (b : Int), .int .u8 (c : Int)] w fun e w' => e = .returned (.bool true) ∧ Below w.heap.size w w' := by
  go_enter Tryd.func7, Tryd.ntmps7
  have HB0 : Below w.heap.size w w := Below.refl _ _
  have K0_1 := Bk.nil (w.heap.size) w
  go_upto_region 1 with fail
  refine rgP K0_1 HB0 HB0.size [] [] [(0, 8, .bool true), (1, 9, .bool false)] [] [] [] ?_ ?_
  · refine oc (g_cb ent_seneschallaw06_works (fun uZ bZ => hW.out uZ bZ)) ?_
    exact oc (g_un (fun uZ => not_t uZ)) on
  intro u1 HB1 sz1 K1
  simp only [fX, nK, nP, Wr.f, aK, pM] at K1
  simp only [setG, setN, List.set_cons_zero, List.set_cons_succ]
  clear HB0
  go_upto_region 3 with fail
  refine rgP K1 HB1 HB1.size [] [] [(0, 10, .int .u8 ((a : Nat) : Int)), (1, 11, .int .u8 ((b : Nat) : Int)), (2, 12, .int .u8 ((ab : Nat) : Int)), (3, 7, .int .u8 ((ab : Nat) : Int))] [] [] [] ?_ ?_
  · refine oc g_mv ?_
    refine oc g_mv ?_
    refine oc (g_cl ent_aes_Times (fun uZ => hT1.out uZ)) ?_
    exact oc g_as on
  intro u2 HB2 sz2 K2
  simp only [fX, nK, nP, Wr.f, aK, pM] at K2
  simp only [setG, setN, List.set_cons_zero, List.set_cons_succ]
  clear K1 HB1
  go_upto_region 4 with fail
  refine rgP K2 HB2 HB2.size [] [] [(0, 13, .int .u8 ((ab : Nat) : Int)), (1, 14, .int .u8 ((b : Nat) : Int)), (2, 15, .int .u8 ((a : Nat) : Int)), (3, 16, .int .u8 ((ab : Nat) : Int)), (4, 17, .bool true), (5, 18, .bool true), (6, 19, .int .u8 ((ab : Nat) : Int)), (7, 20, .int .u8 ((c : Nat) : Int)), (8, 21, .int .u8 ((r : Nat) : Int)), (9, 22, .int .u8 ((a : Nat) : Int)), (10, 23, .int .u8 ((b : Nat) : Int)), (11, 24, .int .u8 ((c : Nat) : Int)), (12, 25, .int .u8 ((bc : Nat) : Int)), (13, 26, .int .u8 ((r : Nat) : Int)), (14, 27, .bool true), (15, 28, .bool true), (16, 29, .bool true), (17, 30, .int .u8 ((a : Nat) : Int)), (18, 31, .int .u8 ((b : Nat) : Int)), (19, 32, .int .u8 ((c : Nat) : Int)), (20, 33, .int .u8 ((b ^^^ c : Nat) : Int)), (21, 34, .int .u8 ((ab ^^^ ac : Nat) : Int)), (22, 35, .int .u8 ((ab : Nat) : Int)), (23, 36, .int .u8 ((a : Nat) : Int)), (24, 37, .int .u8 ((c : Nat) : Int)), (25, 38, .int .u8 ((ac : Nat) : Int)), (26, 39, .int .u8 ((ab ^^^ ac : Nat) : Int)), (27, 40, .bool true), (28, 41, .bool true), (29, 42, .bool true), (30, 43, .int .u8 ((ab : Nat) : Int)), (31, 44, .bool false), (32, 45, .int .u8 ((a : Nat) : Int)), (33, 46, .bool false), (34, 47, .bool false), (35, 48, .int .u8 ((b : Nat) : Int)), (36, 49, .bool false), (37, 50, .bool false), (38, 51, .bool true), (39, 52, .bool true), (40, 53, .bool true), (41, 54, .int .u8 ((a : Nat) : Int)), (42, 55, .int .u8 ((a : Nat) : Int)), (43, 56, .int .u8 ((a : Nat) : Int)), (44, 57, .bool true), (45, 58, .bool true), (46, 6, .bool true)] [] [] [] ?_ ?_
  · refine oc g_mv ?_
    refine oc g_mv ?_
    refine oc g_mv ?_
    refine oc (g_cl ent_aes_Times (fun uZ => hT2.out uZ)) ?_
    refine oc (g_bn (fun uZ => eql8 _ _ ((ab : Nat) : Int) ((ab : Nat) : Int) true uZ (by simp))) ?_
    refine oc g_mv ?_
    refine oc g_mv ?_
    refine oc g_mv ?_
    refine oc (g_cl ent_aes_Times (fun uZ => hT3.out uZ)) ?_
    refine oc g_mv ?_
    refine oc g_mv ?_
    refine oc g_mv ?_
    refine oc (g_cl ent_aes_Times (fun uZ => hT4.out uZ)) ?_
    refine oc (g_cl ent_aes_Times (fun uZ => hT5.out uZ)) ?_
    refine oc (g_bn (fun uZ => eql8 _ _ ((r : Nat) : Int) ((r : Nat) : Int) true uZ (by simp))) ?_
    refine oc g_pk ?_
    refine oc g_mv ?_
    refine oc g_mv ?_
    refine oc g_mv ?_
    refine oc g_mv ?_
    refine oc (g_bn (fun uZ => xor8 _ _ b c uZ hb hc)) ?_
    refine oc (g_cl ent_aes_Times (fun uZ => hT6.out uZ)) ?_
    refine oc g_mv ?_
    refine oc g_mv ?_
    refine oc g_mv ?_
    refine oc (g_cl ent_aes_Times (fun uZ => hT7.out uZ)) ?_
    refine oc (g_bn (fun uZ => xor8 _ _ ab ac uZ hab hac)) ?_
    refine oc (g_bn (fun uZ => eql8 _ _ ((ab ^^^ ac : Nat) : Int) ((ab ^^^ ac : Nat) : Int) true uZ (by simp))) ?_
    refine oc g_pk ?_
    refine oc g_mv ?_
    refine oc g_mv ?_
    refine oc (g_bn (fun uZ => eql8 _ _ ((ab : Nat) : Int) 0 false uZ z0)) ?_
    refine oc g_mv ?_
    refine oc (g_bn (fun uZ => eql8 _ _ ((a : Nat) : Int) 0 false uZ z1)) ?_
    refine oc g_mv ?_
    refine oc g_mv ?_
    refine oc (g_bn (fun uZ => eql8 _ _ ((b : Nat) : Int) 0 false uZ z2)) ?_
    refine oc g_pk ?_
    refine oc (g_bn (fun uZ => eqb _ _ false false true uZ (by decide))) ?_
    refine oc g_pk ?_
    refine oc g_mv ?_
    refine oc g_mv ?_
    refine oc (g_cl ent_aes_Times (fun uZ => hT8.out uZ)) ?_
    refine oc g_mv ?_
    refine oc (g_bn (fun uZ => eql8 _ _ ((a : Nat) : Int) ((a : Nat) : Int) true uZ (by simp))) ?_
    refine oc g_pk ?_
    exact oc g_as on
  intro u3 HB3 sz3 K3
  simp only [fX, nK, nP, Wr.f, aK, pM] at K3
  simp only [setG, setN, List.set_cons_zero, List.set_cons_succ]
  clear K2 HB2
  go_wp2
  refine bodyPost_ret (v := .bool true) (by simp [results, Tryd.results7, go_sem, ]) rfl ⟨rfl, HB3⟩
theorem aesTimes_any (a b c : Nat) (w : World) (hV : GS6 w) (ha : a < 256) (hb : b < 256) (hc : c < 256) :
    Calls Tryd.prog 7 #[.int .u8 (a : Int), .int .u8 (b : Int), .int .u8 (c : Int)] w fun e w' => e = .returned (.bool true) ∧ Below w.heap.size w w' := by
  have hW := fun u (hB : Below w.heap.size w u) => works6 u (hV.up hB)
  have T := fun x (hx : x < 256) y (hy : y < 256) u => cTimes x y u hx hy
  have T2 : ∀ u, Calls Tryd.prog 10 #[.int .u8 (b : Int), .int .u8 (a : Int)] u fun e w' => e = .returned (.int .u8 ((tm a b : Nat) : Int)) ∧ Below u.heap.size u w' := fun u => by rw [tm_comm ha hb]; exact T b hb a ha u
  have T5 : ∀ u, Calls Tryd.prog 10 #[.int .u8 (a : Int), .int .u8 ((tm b c : Nat) : Int)] u fun e w' => e = .returned (.int .u8 ((tm (tm a b) c : Nat) : Int)) ∧ Below u.heap.size u w' := fun u => by rw [tm_assoc ha hb hc]; exact T a ha _ (tm_lt hb) u
  have T6 : ∀ u, Calls Tryd.prog 10 #[.int .u8 (a : Int), .int .u8 ((b ^^^ c : Nat) : Int)] u fun e w' => e = .returned (.int .u8 ((tm a b ^^^ tm a c : Nat) : Int)) ∧ Below u.heap.size u w' := fun u => by rw [← tm_right]; exact T a ha _ (xr8 hb hc) u
  have T8 : ∀ u, Calls Tryd.prog 10 #[.int .u8 (a : Int), .int .u8 1] u fun e w' => e = .returned (.int .u8 ((a : Nat) : Int)) ∧ Below u.heap.size u w' := fun u => by
    have h := T a ha 1 (by decide) u
    rw [tm_one a ha] at h; exact h
  have z := tm_eq0 ha hb
  have D : ∀ (x : Nat), x = 0 → decide (((x : Nat) : Int) = 0) = true := fun x h => by simp [h]
  have D' : ∀ (x : Nat), x ≠ 0 → decide (((x : Nat) : Int) = 0) = false := fun x h => by simp [h]
  by_cases h0 : a = 0
  · exact aesTimes_a a b c (tm a b) (tm b c) (tm a c) _ w hb hc (tm_lt ha) (tm_lt ha) hW (T a ha b hb) T2 (T _ (tm_lt ha) c hc) (T b hb c hc) T5 T6 (T a ha c hc) T8 (D _ (z.2 (.inl h0))) (D _ h0)
  · by_cases h1 : b = 0
    · exact aesTimes_b a b c (tm a b) (tm b c) (tm a c) _ w hb hc (tm_lt ha) (tm_lt ha) hW (T a ha b hb) T2 (T _ (tm_lt ha) c hc) (T b hb c hc) T5 T6 (T a ha c hc) T8 (D _ (z.2 (.inr h1))) (D' _ h0) (D _ h1)
    · exact aesTimes_n a b c (tm a b) (tm b c) (tm a c) _ w hb hc (tm_lt ha) (tm_lt ha) hW (T a ha b hb) T2 (T _ (tm_lt ha) c hc) (T b hb c hc) T5 T6 (T a ha c hc) T8 (D' _ (fun h => (z.1 h).elim h0 h1)) (D' _ h0) (D' _ h1)
end Go.Proofs.YtlcjbnhfmcnnfaaDoor
