/- The law ShaPrefixes. -/

import Derived.Test.YtgfggkinmhhdnaaDoorSW
namespace Go.Proofs.YtgfggkinmhhdnaaDoor
open Go.RowKit
set_option linter.unusedVariables false
set_option linter.unusedSimpArgs false
theorem ent_seneschallaw04_works (vs : Array Value) (w : World) : (callFunc 17 vs).run Tryd.prog w = .ok (.enter 17 vs) w := by kernel_rfl
theorem ent_seneschallaw04_short (vs : Array Value) (w : World) : (callFunc 8 vs).run Tryd.prog w = .ok (.enter 8 vs) w := by kernel_rfl
theorem not_t (w : World) : (Op.unary .not (.bool true)).run Tryd.prog w = .ok (.bool false) w := by go_simp
set_option maxRecDepth 100000 in
set_option maxHeartbeats 4000000 in
theorem shaPrefixes_core (n cap m : Nat) (sl : Option Addr) (x : Int) (k al wt : Nat) (ds : List Nat) (pr : Nat → Nat) (w : World) (hds : ds.length = 32) (hk65 : k < 65) (hdb : Hid (∀ j, ds.getD j 0 < 256)) (hp0 : pr 0 = 0) (hps : Hid (∀ i, pr (i + 1) = (pr i <<< 8) % 18446744073709551616 ||| ds.getD i 0)) (hpl : Hid (∀ i, pr i < M64)) (hal : pr 8 = al) (hwt0 : k = 0 → wt = 0) (hwt1 : ¬ k = 0 → al >>> (64 - k) = wt)
    (hW : Hid (∀ (u : World), Below w.heap.size w u → Calls Tryd.prog 17 #[] u fun e u' => e = .returned (.bool true) ∧ Below u.heap.size u u')) (hSh : Hid (∀ (u : World), Calls Tryd.prog 8 #[(.slice sl n cap)] u fun e u' => e = .returned (.slice sl m cap) ∧ Below u.heap.size u u')) (hA : Hid (∀ (u : World), Calls Tryd.prog 21 #[.int .i64 x, .int .i64 65] u fun e u' => e = .returned (.int .i64 (k : Int)) ∧ Below u.heap.size u u'))
    (hSu : Hid (∀ (u : World), Below w.heap.size w u → Calls Tryd.prog 10 #[(.slice sl m cap)] u fun e u' => e = .returned (.agg (U8 (ds)).toArray) ∧ Below u.heap.size u u')) (hP64 : Hid (∀ (u : World), Below w.heap.size w u → Calls Tryd.prog 15 #[(.slice sl m cap), .int .i64 64] u fun e u' => e = .returned (.int .u64 ((al : Nat) : Int)) ∧ Below u.heap.size u u')) (hPk : Hid (∀ (u : World), Below w.heap.size w u → Calls Tryd.prog 15 #[(.slice sl m cap), .int .i64 (k : Int)] u fun e u' => e = .returned (.int .u64 ((wt : Nat) : Int)) ∧ Below u.heap.size u u')) (hP99 : Hid (∀ (u : World), Below w.heap.size w u → Calls Tryd.prog 15 #[(.slice sl m cap), .int .i64 99] u fun e u' => e = .returned (.int .u64 ((al : Nat) : Int)) ∧ Below u.heap.size u u')) (hP5 : Hid (∀ (u : World), Below w.heap.size w u → Calls Tryd.prog 15 #[(.slice sl m cap), .int .i64 (-5)] u fun e u' => e = .returned (.int .u64 0) ∧ Below u.heap.size u u')) :
    Calls Tryd.prog 7 #[(.slice sl n cap), .int .i64 x] w fun e w' => e = .returned (.bool true) ∧ Below w.heap.size w w' := by
  go_enter Tryd.func7, Tryd.ntmps7
  have HB0 : Below w.heap.size w w := Below.refl _ _
  have K0_1 := Bk.nil (w.heap.size) w
  go_upto_region 1 with fail
  refine rgP K0_1 HB0 HB0.size [] [] [(0, 10, .bool true), (1, 11, .bool false)] [] [] [] ?_ ?_
  · refine oc (g_cb ent_seneschallaw04_works (fun uZ bZ => hW.out uZ bZ)) ?_
    exact oc (g_un (fun uZ => not_t uZ)) on
  intro u1 HB1 sz1 K1
  simp only [fX, nK, nP, Wr.f, aK, pM] at K1
  simp only [setG, setN, List.set_cons_zero, List.set_cons_succ]
  clear HB0
  go_upto_region 3 with fail
  refine rgP K1 HB1 HB1.size [] [] [(0, 12, (.slice sl n cap)), (1, 13, (.slice sl m cap)), (2, 0, (.slice sl m cap))] [(2, 0)] [(2, 0)] [] ?_ ?_
  · refine oc g_mv ?_
    refine oc (g_cl ent_seneschallaw04_short (fun uZ => hSh.out uZ)) ?_
    exact oc g_as on
  intro u2 HB2 sz2 K2
  simp only [fX, nK, nP, Wr.f, aK, pM] at K2
  simp only [setG, setN, List.set_cons_zero, List.set_cons_succ]
  clear K1 HB1
  go_upto_region 4 with fail
  refine rgP K2 HB2 HB2.size [] [] [(0, 14, .int .i64 x), (1, 15, .int .i64 (k : Int)), (2, 1, .int .i64 (k : Int))] [(2, 0)] [(2, 1)] [] ?_ ?_
  · refine oc g_mv ?_
    refine oc (g_cl ent_seneschalbase_Among (fun uZ => hA.out uZ)) ?_
    exact oc g_as on
  intro u3 HB3 sz3 K3
  simp only [fX, nK, nP, Wr.f, aK, pM] at K3
  simp only [setG, setN, List.set_cons_zero, List.set_cons_succ]
  clear K2 HB2
  go_upto_region 5 with fail
  refine rgP K3 HB3 HB3.size [] [] [(0, 16, (.slice sl m cap)), (1, 17, .int .u64 ((al : Nat) : Int)), (2, 5, .int .u64 ((al : Nat) : Int))] [] [] [] ?_ ?_
  · refine oc g_mv ?_
    refine oc (g_cb ent_sha_Prefix (fun uZ bZ => hP64.out uZ bZ)) ?_
    exact oc g_as on
  intro u4 HB4 sz4 K4
  simp only [fX, nK, nP, Wr.f, aK, pM] at K4
  simp only [setG, setN, List.set_cons_zero, List.set_cons_succ]
  clear K3 HB3
  go_upto_region 6 with fail
  refine rgP K4 HB4 HB4.size [] [(2, 6, U8 (z32), some (3, U8 (ds)))] [(0, 18, (.slice sl m cap)), (1, 19, .agg (U8 (ds)).toArray)] [(3, 2)] [] [] ?_ ?_
  · refine oc g_mv ?_
    refine oc (g_cb ent_sha_Sum (fun uZ bZ => hSu.out uZ bZ)) ?_
    refine oc (g_al 0 al__32_uint8) ?_
    exact oc (g_sn 0 info__32_uint8 (h1 := U8_one _) (hm := by rw [U8_len, hds]) (hl := by rw [U8_len, U8_len, hds, show z32.length = 32 from rfl])) on
  intro u5 b5_2 HB5 sz5 K5
  simp only [fX, nK, nP, Wr.f, aK, pM] at K5
  simp only [setG, setN, List.set_cons_zero, List.set_cons_succ]
  clear K4 HB4
  go_upto_region 7 with fail
  refine rgP K5 HB5 HB5.size [] [] [(0, 7, (Go.Value.int Go.IntKind.u64 0))] [] [] [] ?_ ?_
  · exact oc g_as on
  intro u6 HB6 sz6 K6
  simp only [fX, nK, nP, Wr.f, aK, pM] at K6
  simp only [setG, setN, List.set_cons_zero, List.set_cons_succ]
  clear K5 HB5
  go_upto_region 8 with fail
  refine rgP K6 HB6 HB6.size [] [] [(0, 8, (Go.Value.int Go.IntKind.i64 0))] [] [] [] ?_ ?_
  · exact oc g_as on
  intro u7 HB7 sz7 K7
  simp only [fX, nK, nP, Wr.f, aK, pM] at K7
  simp only [setG, setN, List.set_cons_zero, List.set_cons_succ]
  clear K6 HB6
  go_wp2_with fail
  go_loopw [8, 7] (fun s8 s7 wr => ∃ (i : Nat), i ≤ 8 ∧ s8 = .int .i64 (i : Int) ∧ s7 = .int .u64 ((pr i : Nat) : Int) ∧ Below w.heap.size w wr ∧ Hid (CV wr b5_2 (U8 (ds))) ∧ b5_2 < wr.heap.size) (fun s8 _ _ => 8 - (intOf s8).toNat)
  case atStart => exact ⟨0, by omega, rfl, by rw [hp0]; rfl, HB7, (K7.cv 0), (K7.lt 0)⟩
  case round =>
    obtain ⟨i, hi, rfl, rfl, HBr, Kd, ld⟩ := hrel
    have hlo := K7.lo 0
    clear HB7
    by_cases hj : i < 8
    · have hl1 : decide ((i : Int) < 8) = true := by simp; omega
      have hS := hps.out i
      have hpl := hpl.out i
      have gi : (U8 (ds))[i]? = some (.int .u8 ((ds.getD i 0 : Nat) : Int)) := U8_get ds i (by omega)
      have hx := hdb.out i
      obtain ⟨y, ey⟩ : ∃ y, ds.getD i 0 = y := ⟨_, rfl⟩
      obtain ⟨q, eq⟩ : ∃ q, pr i = q := ⟨_, rfl⟩
      rw [ey] at gi hx hS
      rw [eq] at hpl hS
      try rw [eq]
      obtain ⟨q2, eq2⟩ : ∃ q2, (q <<< 8) % 18446744073709551616 = q2 := ⟨_, rfl⟩
      have hq2 : q2 < M64 := by rw [← eq2]; exact Nat.mod_lt _ (by decide)
      rw [eq2] at hS
      obtain ⟨q3, eq3⟩ : ∃ q3, q2 ||| y = q3 := ⟨_, rfl⟩
      rw [eq3] at hS
      have hS : Hid _ := hS
      clear ey eq
      have K7_2 : Bk w.heap.size wr [(false, b5_2, U8 (ds))] := ⟨.c ld Kd.out <| trivial, by simp⟩
      go_upto_region 9 with fail
      refine rgP K7_2 HBr HBr.size [] [] [(0, 20, .int .i64 (i : Int)), (1, 21, .bool true)] [] [] [] ?_ ?_
      · refine oc g_mv ?_
        exact oc (g_bn (fun uZ => lss_i _ _ (i : Int) 8 _ uZ hl1)) on
      intro u8 HB8 sz8 K8
      simp only [fX, nK, nP, Wr.f, aK, pM] at K8
      simp only [setG, setN, List.set_cons_zero, List.set_cons_succ]
      go_upto_region 11 with fail
      refine rgP K8 HB8 HB8.size [] [] [(0, 24, .int .u64 ((q : Nat) : Int)), (1, 25, .int .u64 ((q2 : Nat) : Int)), (2, 26, .int .i64 (i : Int)), (3, 27, .pointer (some ⟨b5_2, i, none⟩)), (4, 28, .int .u8 ((y : Nat) : Int)), (5, 29, .int .u64 ((y : Nat) : Int)), (6, 30, .int .u64 ((q3 : Nat) : Int)), (7, 7, .int .u64 ((q3 : Nat) : Int))] [(7, 0)] [(7, 7)] [] ?_ ?_
      · refine oc g_mv ?_
        refine oc (g_bn (fun uZ => (shl64 _ _ q 8 uZ (by decide)).trans (by rw [eq2]))) ?_
        refine oc g_mv ?_
        refine oc (g_ix (fun uZ => x32 b5_2 i uZ (by omega))) ?_
        refine oc (g_lw 0 (i) l8 (gi)) ?_
        refine oc (g_op (fun ev uZ he => cv864 uZ hx rfl (he _ _ rfl))) ?_
        refine oc (g_bn (fun uZ => (or64 _ _ q2 y uZ hq2 (Nat.lt_trans hx (by decide))).trans (by rw [eq3]))) ?_
        exact oc g_as on
      intro u9 HB9 sz9 K9
      simp only [fX, nK, nP, Wr.f, aK, pM] at K9
      simp only [setG, setN, List.set_cons_zero, List.set_cons_succ]
      clear K8 HB8
      go_upto_region 10 with fail
      refine rgP K9 HB9 HB9.size [] [] [(0, 22, .int .i64 (i : Int)), (1, 23, .int .i64 ((i + 1 : Nat) : Int)), (2, 8, .int .i64 ((i + 1 : Nat) : Int))] [(2, 0)] [(2, 8)] [] ?_ ?_
      · refine oc g_mv ?_
        refine oc (g_bn (fun uZ => add_i _ _ (i : Int) 1 ((i + 1 : Nat) : Int) uZ (by omega) (by omega) (by omega))) ?_
        exact oc g_as on
      intro u10 HB10 sz10 K10
      simp only [fX, nK, nP, Wr.f, aK, pM] at K10
      simp only [setG, setN, List.set_cons_zero, List.set_cons_succ]
      clear K9 HB9
      go_wp2
      refine ⟨⟨i + 1, by omega, rfl, by rw [hS.out], HB10, (K10.cv 0), (K10.lt 0)⟩, ?_⟩
      simp [intOf] <;> omega
    · have hl1 : decide ((i : Int) < 8) = false := by simp; omega
      have hi8 : i = 8 := by omega
      subst hi8
      have hal : Hid (pr 8 = al) := hal
      try rw [hal.out]
      have K7_2 := Bk.nil (w.heap.size) wr
      go_upto_region 9 with fail
      refine rgP K7_2 HBr HBr.size [] [] [(0, 20, .int .i64 ((8 : Nat) : Int)), (1, 21, .bool false)] [] [] [] ?_ ?_
      · refine oc g_mv ?_
        exact oc (g_bn (fun uZ => lss_i _ _ ((8 : Nat) : Int) 8 _ uZ hl1)) on
      intro u8 HB8 sz8 K8
      simp only [fX, nK, nP, Wr.f, aK, pM] at K8
      simp only [setG, setN, List.set_cons_zero, List.set_cons_succ]
      go_upto_region 12 with fail
      refine rgP K8 HB8 HB8.size [] [] [(0, 9, (Go.Value.int Go.IntKind.u64 0))] [] [] [] ?_ ?_
      · exact oc g_as on
      intro u9 HB9 sz9 K9
      simp only [fX, nK, nP, Wr.f, aK, pM] at K9
      simp only [setG, setN, List.set_cons_zero, List.set_cons_succ]
      clear K8 HB8
      by_cases hk : k = 0
      · have hg : decide (0 < (k : Int)) = false := by simp; omega
        have hw0 : wt = 0 := hwt0 hk
        subst hw0
        go_upto_region 13 with fail
        refine rgP K9 HB9 HB9.size [] [] [(0, 31, .int .i64 (k : Int)), (1, 32, .bool false)] [] [] [] ?_ ?_
        · refine oc g_mv ?_
          exact oc (g_bn (fun uZ => gtr_i _ _ (k : Int) 0 _ uZ hg)) on
        intro u10 HB10 sz10 K10
        simp only [fX, nK, nP, Wr.f, aK, pM] at K10
        simp only [setG, setN, List.set_cons_zero, List.set_cons_succ]
        clear K9 HB9
        go_upto_region 15 with fail
        refine rgP K10 HB10 HB10.size [] [] [(0, 37, .int .u64 ((al : Nat) : Int)), (1, 38, .int .u64 ((al : Nat) : Int)), (2, 39, .bool true), (3, 40, .bool true), (4, 41, (.slice sl m cap)), (5, 42, .int .i64 (k : Int)), (6, 43, .int .u64 ((0 : Nat) : Int)), (7, 44, .int .u64 ((0 : Nat) : Int)), (8, 45, .bool true), (9, 46, .bool true), (10, 47, .bool true), (11, 48, (.slice sl m cap)), (12, 49, .int .u64 ((al : Nat) : Int)), (13, 50, .int .u64 ((al : Nat) : Int)), (14, 51, .bool true), (15, 52, .bool true), (16, 53, .bool true), (17, 54, (.slice sl m cap)), (18, 55, .int .u64 0), (19, 56, .bool true), (20, 57, .bool true), (21, 4, .bool true)] [] [] [] ?_ ?_
        · refine oc g_mv ?_
          refine oc g_mv ?_
          refine oc (g_bn (fun uZ => eql_u _ _ _ ((al : Nat) : Int) ((al : Nat) : Int) true uZ (by simp))) ?_
          refine oc g_mv ?_
          refine oc g_mv ?_
          refine oc g_mv ?_
          refine oc (g_cb ent_sha_Prefix (fun uZ bZ => hPk.out uZ bZ)) ?_
          refine oc g_mv ?_
          refine oc (g_bn (fun uZ => eql_u _ _ _ ((0 : Nat) : Int) ((0 : Nat) : Int) true uZ (by simp))) ?_
          refine oc g_pk ?_
          refine oc g_mv ?_
          refine oc g_mv ?_
          refine oc (g_cb ent_sha_Prefix (fun uZ bZ => hP99.out uZ bZ)) ?_
          refine oc g_mv ?_
          refine oc (g_bn (fun uZ => eql_u _ _ _ ((al : Nat) : Int) ((al : Nat) : Int) true uZ (by simp))) ?_
          refine oc g_pk ?_
          refine oc g_mv ?_
          refine oc g_mv ?_
          refine oc (g_cb ent_sha_Prefix (fun uZ bZ => hP5.out uZ bZ)) ?_
          refine oc (g_bn (fun uZ => eql_u _ _ _ 0 0 true uZ rfl)) ?_
          refine oc g_pk ?_
          exact oc g_as on
        intro u11 HB11 sz11 K11
        simp only [fX, nK, nP, Wr.f, aK, pM] at K11
        simp only [setG, setN, List.set_cons_zero, List.set_cons_succ]
        clear K10 HB10
        go_wp2
        refine bodyPost_ret (v := .bool true) (by simp [results, Tryd.results7, go_sem, ]) rfl ⟨rfl, HB11⟩
      · have hg : decide (0 < (k : Int)) = true := by simp; omega
        have hw1 : al >>> (64 - k) = wt := hwt1 hk
        have hk3 : (64 : Int) - (k : Int) = ((64 - k : Nat) : Int) := by omega
        go_upto_region 13 with fail
        refine rgP K9 HB9 HB9.size [] [] [(0, 31, .int .i64 (k : Int)), (1, 32, .bool true)] [] [] [] ?_ ?_
        · refine oc g_mv ?_
          exact oc (g_bn (fun uZ => gtr_i _ _ (k : Int) 0 _ uZ hg)) on
        intro u10 HB10 sz10 K10
        simp only [fX, nK, nP, Wr.f, aK, pM] at K10
        simp only [setG, setN, List.set_cons_zero, List.set_cons_succ]
        clear K9 HB9
        go_upto_region 14 with fail
        refine rgP K10 HB10 HB10.size [] [] [(0, 33, .int .u64 ((al : Nat) : Int)), (1, 34, .int .i64 (k : Int)), (2, 35, .int .i64 ((64 - k : Nat) : Int)), (3, 36, .int .u64 ((wt : Nat) : Int)), (4, 9, .int .u64 ((wt : Nat) : Int))] [] [] [] ?_ ?_
        · refine oc g_mv ?_
          refine oc g_mv ?_
          refine oc (g_bn (fun uZ => sub_i _ _ 64 (k : Int) ((64 - k : Nat) : Int) uZ hk3 (by omega) (by omega))) ?_
          refine oc (g_bn (fun uZ => (shr64i _ _ al (64 - k) uZ (by omega)).trans (by rw [hw1]))) ?_
          exact oc g_as on
        intro u11 HB11 sz11 K11
        simp only [fX, nK, nP, Wr.f, aK, pM] at K11
        simp only [setG, setN, List.set_cons_zero, List.set_cons_succ]
        clear K10 HB10
        go_upto_region 15 with fail
        refine rgP K11 HB11 HB11.size [] [] [(0, 37, .int .u64 ((al : Nat) : Int)), (1, 38, .int .u64 ((al : Nat) : Int)), (2, 39, .bool true), (3, 40, .bool true), (4, 41, (.slice sl m cap)), (5, 42, .int .i64 (k : Int)), (6, 43, .int .u64 ((wt : Nat) : Int)), (7, 44, .int .u64 ((wt : Nat) : Int)), (8, 45, .bool true), (9, 46, .bool true), (10, 47, .bool true), (11, 48, (.slice sl m cap)), (12, 49, .int .u64 ((al : Nat) : Int)), (13, 50, .int .u64 ((al : Nat) : Int)), (14, 51, .bool true), (15, 52, .bool true), (16, 53, .bool true), (17, 54, (.slice sl m cap)), (18, 55, .int .u64 0), (19, 56, .bool true), (20, 57, .bool true), (21, 4, .bool true)] [] [] [] ?_ ?_
        · refine oc g_mv ?_
          refine oc g_mv ?_
          refine oc (g_bn (fun uZ => eql_u _ _ _ ((al : Nat) : Int) ((al : Nat) : Int) true uZ (by simp))) ?_
          refine oc g_mv ?_
          refine oc g_mv ?_
          refine oc g_mv ?_
          refine oc (g_cb ent_sha_Prefix (fun uZ bZ => hPk.out uZ bZ)) ?_
          refine oc g_mv ?_
          refine oc (g_bn (fun uZ => eql_u _ _ _ ((wt : Nat) : Int) ((wt : Nat) : Int) true uZ (by simp))) ?_
          refine oc g_pk ?_
          refine oc g_mv ?_
          refine oc g_mv ?_
          refine oc (g_cb ent_sha_Prefix (fun uZ bZ => hP99.out uZ bZ)) ?_
          refine oc g_mv ?_
          refine oc (g_bn (fun uZ => eql_u _ _ _ ((al : Nat) : Int) ((al : Nat) : Int) true uZ (by simp))) ?_
          refine oc g_pk ?_
          refine oc g_mv ?_
          refine oc g_mv ?_
          refine oc (g_cb ent_sha_Prefix (fun uZ bZ => hP5.out uZ bZ)) ?_
          refine oc (g_bn (fun uZ => eql_u _ _ _ 0 0 true uZ rfl)) ?_
          refine oc g_pk ?_
          exact oc g_as on
        intro u12 HB12 sz12 K12
        simp only [fX, nK, nP, Wr.f, aK, pM] at K12
        simp only [setG, setN, List.set_cons_zero, List.set_cons_succ]
        clear K11 HB11
        go_wp2
        refine bodyPost_ret (v := .bool true) (by simp [results, Tryd.results7, go_sem, ]) rfl ⟨rfl, HB12⟩
end Go.Proofs.YtgfggkinmhhdnaaDoor
