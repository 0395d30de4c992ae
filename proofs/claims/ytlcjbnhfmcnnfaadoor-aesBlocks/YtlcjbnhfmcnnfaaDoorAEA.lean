/- AES: blocks that are encrypted and decrypted. -/
import Derived.Test.YtlcjbnhfmcnnfaaDoorAE9
namespace Go.Proofs.YtlcjbnhfmcnnfaaDoor
open Go.RowKit
set_option linter.unusedVariables false
set_option linter.unusedSimpArgs false
def enS (ks bs : List Nat) : Nat → List Nat
  | 0 => bs
  | i + 1 => ahB i (enS ks bs i) (rky ks i)
def deS (ks bs : List Nat) : Nat → List Nat
  | 0 => bs
  | j + 1 => bkB (10 - j) (deS ks bs j) (rky ks (10 - j))
theorem enS_B {ks bs : List Nat} (hk : BY 16 ks) (hb : BY 16 bs) : ∀ i, BY 16 (enS ks bs i)
  | 0 => hb
  | i + 1 => ahB_B (enS_B hk hb i) (rky_B hk i)
theorem deS_B {ks bs : List Nat} (hk : BY 16 ks) (hb : BY 16 bs) : ∀ i, BY 16 (deS ks bs i)
  | 0 => hb
  | j + 1 => bkB_B (deS_B hk hb j) (rky_B hk _)
theorem enS_is (ks bs : List Nat) : ∀ i, enS ks bs (i + 1) = encR (rky ks) bs i
  | 0 => rfl
  | i + 1 => by rw [enS, enS_is ks bs i, encR, ahB, if_neg (by omega)]
theorem deS_is (ks bs : List Nat) : ∀ j, j ≤ 10 → deS ks bs j = decR (rky ks) bs j
  | 0, _ => rfl
  | j + 1, h => by rw [deS, deS_is ks bs j (by omega), decR, bkB, if_neg (by omega)]
theorem enS_all (ks bs : List Nat) : enS ks bs 11 = encB (rky ks) bs := enS_is ks bs 10
theorem deS_all (ks bs : List Nat) : deS ks bs 11 = decB (rky ks) bs := by rw [deS, deS_is ks bs 10 (by decide)]; rfl
set_option maxRecDepth 100000 in
set_option maxHeartbeats 4000000 in
theorem cEnc_n (vk vb : Value) (w : World) (hz176 : z176.length = 176) (hG : Hid (∀ u, Below w.heap.size w u → Calls Tryd.prog 23 #[vk, vb] u fun e w' => e = .returned (.tuple #[.agg (U8 z176).toArray, .agg (U8 z16).toArray, .int .i64 2]) ∧ Below u.heap.size u w')) :
    Calls Tryd.prog 15 #[vk, vb] w fun e w' => e = .returned (.tuple #[.slice none 0 0, .int .i64 2]) ∧ Below w.heap.size w w' := by
  go_enter Tryd.func15, Tryd.ntmps15
  have HB0 : Below w.heap.size w w := Below.refl _ _
  have K0_1 := Bk.nil (w.heap.size) w
  go_upto_region 1 with fail
  refine rgP K0_1 HB0 HB0.size [] [(7, 6, U8 (z176), some (9, U8 (z176))), (8, 7, U8 (z16), some (10, U8 (z16)))] [(0, 12, vk), (1, 13, vb), (2, 14, .tuple #[.agg (U8 (z176)).toArray, .agg (U8 (z16)).toArray, .int .i64 2]), (3, 11, .tuple #[.agg (U8 (z176)).toArray, .agg (U8 (z16)).toArray, .int .i64 2]), (4, 15, .agg (U8 (z176)).toArray), (5, 16, .agg (U8 (z16)).toArray), (6, 17, .int .i64 2), (11, 8, .int .i64 2)] [(9, 7), (10, 8)] [] [false, false] ?_ ?_
  · refine oc g_mv ?_
    refine oc g_mv ?_
    refine oc (g_cb ent_aes_begun (fun uZ bZ => hG.out uZ bZ)) ?_
    refine oc g_mv ?_
    refine oc g_ex ?_
    refine oc g_ex ?_
    refine oc g_ex ?_
    refine oc (g_al 0 al__11__16_uint8) ?_
    refine oc (g_al 1 al__16_uint8) ?_
    refine oc (g_sn 0 info__11__16_uint8 (h1 := U8_one _) (hm := by rw [U8_len, hz176]) (hl := by first | rw [U8_len, U8_len, hz176, show z176.length = 176 from hz176] | rfl)) ?_
    refine oc (g_sn 1 info__16_uint8 (h1 := U8_one _) (hm := by rw [U8_len, show z16.length = 16 from rfl]) (hl := by first | rw [U8_len, U8_len, show z16.length = 16 from rfl, show z16.length = 16 from rfl] | rfl)) ?_
    exact oc g_as on
  intro u1 b1_7 b1_8 HB1 sz1 K1
  simp only [fX, nK, nP, Wr.f, aK, pM] at K1
  simp only [setG, setN, List.set_cons_zero, List.set_cons_succ]
  clear HB0
  go_upto_region 2 with fail
  refine rgP K1 HB1 HB1.size [] [] [(0, 18, .int .i64 2), (1, 19, .bool true)] [] [] [] ?_ ?_
  · refine oc g_mv ?_
    exact oc (g_bn (fun uZ => neq_e _ _ 2 0 true uZ (by decide))) on
  intro u2 HB2 sz2 K2
  simp only [fX, nK, nP, Wr.f, aK, pM] at K2
  simp only [setG, setN, List.set_cons_zero, List.set_cons_succ]
  clear K1 HB1
  go_upto_region 3 with fail
  refine rgP K2 HB2 HB2.size [] [] [(0, 20, .int .i64 2), (1, 4, (Go.Value.slice Option.none 0 0)), (2, 5, .int .i64 2)] [] [] [] ?_ ?_
  · refine oc g_mv ?_
    refine oc g_as ?_
    exact oc g_as on
  intro u3 HB3 sz3 K3
  simp only [fX, nK, nP, Wr.f, aK, pM] at K3
  simp only [setG, setN, List.set_cons_zero, List.set_cons_succ]
  clear K2 HB2
  go_wp2
  refine bodyPost_ret (v := .tuple #[.slice none 0 0, .int .i64 2]) (by simp [results, Tryd.results15, go_sem, ]) rfl ⟨rfl, HB3⟩
set_option maxRecDepth 100000 in
set_option maxHeartbeats 4000000 in
theorem cDec_n (vk vb : Value) (w : World) (hz176 : z176.length = 176) (hG : Hid (∀ u, Below w.heap.size w u → Calls Tryd.prog 23 #[vk, vb] u fun e w' => e = .returned (.tuple #[.agg (U8 z176).toArray, .agg (U8 z16).toArray, .int .i64 2]) ∧ Below u.heap.size u w')) :
    Calls Tryd.prog 17 #[vk, vb] w fun e w' => e = .returned (.tuple #[.slice none 0 0, .int .i64 2]) ∧ Below w.heap.size w w' := by
  go_enter Tryd.func17, Tryd.ntmps17
  have HB0 : Below w.heap.size w w := Below.refl _ _
  have K0_1 := Bk.nil (w.heap.size) w
  go_upto_region 1 with fail
  refine rgP K0_1 HB0 HB0.size [] [(7, 6, U8 (z176), some (9, U8 (z176))), (8, 7, U8 (z16), some (10, U8 (z16)))] [(0, 12, vk), (1, 13, vb), (2, 14, .tuple #[.agg (U8 (z176)).toArray, .agg (U8 (z16)).toArray, .int .i64 2]), (3, 11, .tuple #[.agg (U8 (z176)).toArray, .agg (U8 (z16)).toArray, .int .i64 2]), (4, 15, .agg (U8 (z176)).toArray), (5, 16, .agg (U8 (z16)).toArray), (6, 17, .int .i64 2), (11, 8, .int .i64 2)] [(9, 7), (10, 8)] [] [false, false] ?_ ?_
  · refine oc g_mv ?_
    refine oc g_mv ?_
    refine oc (g_cb ent_aes_begun (fun uZ bZ => hG.out uZ bZ)) ?_
    refine oc g_mv ?_
    refine oc g_ex ?_
    refine oc g_ex ?_
    refine oc g_ex ?_
    refine oc (g_al 0 al__11__16_uint8) ?_
    refine oc (g_al 1 al__16_uint8) ?_
    refine oc (g_sn 0 info__11__16_uint8 (h1 := U8_one _) (hm := by rw [U8_len, hz176]) (hl := by first | rw [U8_len, U8_len, hz176, show z176.length = 176 from hz176] | rfl)) ?_
    refine oc (g_sn 1 info__16_uint8 (h1 := U8_one _) (hm := by rw [U8_len, show z16.length = 16 from rfl]) (hl := by first | rw [U8_len, U8_len, show z16.length = 16 from rfl, show z16.length = 16 from rfl] | rfl)) ?_
    exact oc g_as on
  intro u1 b1_7 b1_8 HB1 sz1 K1
  simp only [fX, nK, nP, Wr.f, aK, pM] at K1
  simp only [setG, setN, List.set_cons_zero, List.set_cons_succ]
  clear HB0
  go_upto_region 2 with fail
  refine rgP K1 HB1 HB1.size [] [] [(0, 18, .int .i64 2), (1, 19, .bool true)] [] [] [] ?_ ?_
  · refine oc g_mv ?_
    exact oc (g_bn (fun uZ => neq_e _ _ 2 0 true uZ (by decide))) on
  intro u2 HB2 sz2 K2
  simp only [fX, nK, nP, Wr.f, aK, pM] at K2
  simp only [setG, setN, List.set_cons_zero, List.set_cons_succ]
  clear K1 HB1
  go_upto_region 3 with fail
  refine rgP K2 HB2 HB2.size [] [] [(0, 20, .int .i64 2), (1, 4, (Go.Value.slice Option.none 0 0)), (2, 5, .int .i64 2)] [] [] [] ?_ ?_
  · refine oc g_mv ?_
    refine oc g_as ?_
    exact oc g_as on
  intro u3 HB3 sz3 K3
  simp only [fX, nK, nP, Wr.f, aK, pM] at K3
  simp only [setG, setN, List.set_cons_zero, List.set_cons_succ]
  clear K2 HB2
  go_wp2
  refine bodyPost_ret (v := .tuple #[.slice none 0 0, .int .i64 2]) (by simp [results, Tryd.results17, go_sem, ]) rfl ⟨rfl, HB3⟩
set_option maxRecDepth 100000 in
set_option maxHeartbeats 4000000 in
theorem cEnc_s (vk vb : Value) (kx bs : List Nat) (sE sR : Nat → List Nat) (w : World) (hz176 : z176.length = 176) (hkx : kx.length = 176) (hbl : bs.length = 16) (hG : Hid (∀ u, Below w.heap.size w u → Calls Tryd.prog 23 #[vk, vb] u fun e w' => e = .returned (.tuple #[.agg (U8 kx).toArray, .agg (U8 bs).toArray, .int .i64 0]) ∧ Below u.heap.size u w')) (hRw : Hid (∀ i, i ≤ 10 → rowB kx i = sR i)) (hRl : Hid (∀ i, (sR i).length = 16)) (hEl : Hid (∀ i, (sE i).length = 16)) (hE0 : Hid (sE 0 = bs)) 
    (hAh : Hid (∀ i : Nat, i ≤ 10 → ∀ u, Below w.heap.size w u → Calls Tryd.prog 24 #[.int .i64 (i : Int), .agg (U8 (sE i)).toArray, .agg (U8 (sR i)).toArray] u fun e w' => e = .returned (.agg (U8 (sE (i + 1))).toArray) ∧ Below u.heap.size u w')) :
    Calls Tryd.prog 15 #[vk, vb] w fun e w' => ∃ v, e = .returned v ∧ PT 0 w.heap.size 16 (U8 (sE 11)) w' v ∧ Below w.heap.size w w' := by
  go_enter Tryd.func15, Tryd.ntmps15
  have HB0 : Below w.heap.size w w := Below.refl _ _
  have K0_1 := Bk.nil (w.heap.size) w
  go_upto_region 1 with fail
  refine rgP K0_1 HB0 HB0.size [] [(7, 6, U8 (z176), some (9, U8 (kx))), (8, 7, U8 (z16), some (10, U8 (bs)))] [(0, 12, vk), (1, 13, vb), (2, 14, .tuple #[.agg (U8 (kx)).toArray, .agg (U8 (bs)).toArray, .int .i64 0]), (3, 11, .tuple #[.agg (U8 (kx)).toArray, .agg (U8 (bs)).toArray, .int .i64 0]), (4, 15, .agg (U8 (kx)).toArray), (5, 16, .agg (U8 (bs)).toArray), (6, 17, .int .i64 0), (11, 8, .int .i64 0)] [(9, 7), (10, 8)] [] [] ?_ ?_
  · refine oc g_mv ?_
    refine oc g_mv ?_
    refine oc (g_cb ent_aes_begun (fun uZ bZ => hG.out uZ bZ)) ?_
    refine oc g_mv ?_
    refine oc g_ex ?_
    refine oc g_ex ?_
    refine oc g_ex ?_
    refine oc (g_al 0 al__11__16_uint8) ?_
    refine oc (g_al 1 al__16_uint8) ?_
    refine oc (g_sn 0 info__11__16_uint8 (h1 := U8_one _) (hm := by rw [U8_len, hkx]) (hl := by first | rw [U8_len, U8_len, hkx, show z176.length = 176 from hz176] | rfl)) ?_
    refine oc (g_sn 1 info__16_uint8 (h1 := U8_one _) (hm := by rw [U8_len, hbl]) (hl := by first | rw [U8_len, U8_len, hbl, show z16.length = 16 from rfl] | rfl)) ?_
    exact oc g_as on
  intro u1 b1_7 b1_8 HB1 sz1 K1
  simp only [fX, nK, nP, Wr.f, aK, pM] at K1
  simp only [setG, setN, List.set_cons_zero, List.set_cons_succ]
  clear HB0
  go_upto_region 2 with fail
  refine rgP K1 HB1 HB1.size [] [] [(0, 18, .int .i64 0), (1, 19, .bool false)] [] [] [] ?_ ?_
  · refine oc g_mv ?_
    exact oc (g_bn (fun uZ => neq_e _ _ 0 0 false uZ (by decide))) on
  intro u2 HB2 sz2 K2
  simp only [fX, nK, nP, Wr.f, aK, pM] at K2
  simp only [setG, setN, List.set_cons_zero, List.set_cons_succ]
  clear K1 HB1
  go_upto_region 4 with fail
  refine rgP K2 HB2 HB2.size [] [] [(0, 21, .agg (U8 (kx)).toArray), (1, 22, (Go.Value.int Go.IntKind.i64 0))] [] [] [false] ?_ ?_
  · refine oc (g_lR 0 0 (cs := U8 (kx)) (fun j v h => by rw [Nat.zero_add]; exact h) Tryd.underlying33 (by rw [U8_len, hkx]; exact info__11__16_uint8)) ?_
    exact oc g_mv on
  intro u3 HB3 sz3 K3
  simp only [fX, nK, nP, Wr.f, aK, pM] at K3
  simp only [setG, setN, List.set_cons_zero, List.set_cons_succ]
  clear K2 HB2
  go_wp2_with fail
  go_loopw [22] (fun s22 wr => ∃ (i : Nat), i ≤ 11 ∧ s22 = .int .i64 (i : Int) ∧ Below w.heap.size w wr ∧ Hid (CV wr b1_8 (U8 (sE i))) ∧ b1_8 < wr.heap.size) (fun s22 _ => 11 - (intOf s22).toNat)
  case atStart => exact ⟨0, by omega, rfl, HB3, (by rw [hE0.out]; exact (K3.cv 0)), (K3.lt 0)⟩
  case round =>
    have lo7 := K3.lo 0
    obtain ⟨i, hi, rfl, HBr, Kb, lb⟩ := hrel
    clear HB3
    by_cases hj : i < 11
    · have hl1 : decide ((i : Int) < 11) = true := by simp; omega
      have hA := hAh.out i (by omega)
      have hs1 := hEl.out i
      have hs2 := hEl.out (i + 1)
      have hr := hRl.out i
      have hix := fun (o : Oper) (ev : Operand → Value) (x z : Operand) u => @ix11v o ev 33 x z kx i u rfl
      rw [hRw.out i (by omega)] at hix
      obtain ⟨s, es⟩ : ∃ s, sE i = s := ⟨_, rfl⟩
      obtain ⟨r, er⟩ : ∃ r, sR i = r := ⟨_, rfl⟩
      rw [es] at hA hs1 Kb
      rw [er] at hA hr hix
      have hA : Hid _ := hA
      have hix : Hid _ := hix
      clear es er
      have K3_2 : Bk w.heap.size wr [(true, b1_8, U8 (s))] := ⟨.o lb (K3.lo 0) Kb.out <| trivial, by simp⟩
      go_upto_region 5 with fail
      refine rgP K3_2 HBr HBr.size [] [] [(0, 23, .bool true)] [] [] [] ?_ ?_
      · exact oc (g_bn (fun uZ => lss_i _ _ (i : Int) 11 true uZ hl1)) on
      intro u4 HB4 sz4 K4
      simp only [fX, nK, nP, Wr.f, aK, pM] at K4
      simp only [setG, setN, List.set_cons_zero, List.set_cons_succ]
      go_upto_region 6 with fail
      refine rgP K4 HB4 HB4.size [] [(2, 10, U8 (z16), some (4, U8 (r)))] [(0, 24, .int .i64 (i : Int)), (1, 25, .agg (U8 (r)).toArray), (3, 9, .int .i64 (i : Int))] [(4, 2)] [] [] ?_ ?_
      · refine oc g_mv ?_
        refine oc (g_op (fun ev uZ he => hix.out _ ev _ _ uZ rfl (he _ _ rfl) (he _ _ rfl) hkx hj)) ?_
        refine oc (g_al 0 al__16_uint8) ?_
        refine oc g_as ?_
        exact oc (g_sn 0 info__16_uint8 (h1 := U8_one _) (hm := by rw [U8_len, hr]) (hl := by first | rw [U8_len, U8_len, hr, show z16.length = 16 from rfl] | rfl)) on
      intro u5 b5_2 HB5 sz5 K5
      simp only [fX, nK, nP, Wr.f, aK, pM] at K5
      simp only [setG, setN, List.set_cons_zero, List.set_cons_succ]
      clear K4 HB4
      go_upto_region 7 with fail
      refine rgP K5 HB5 HB5.size [.all 4 (U8 (sE (i + 1)))] [] [(0, 26, .int .i64 (i : Int)), (1, 27, .agg (U8 (s)).toArray), (2, 28, .agg (U8 (r)).toArray), (3, 29, .agg (U8 (sE (i + 1))).toArray)] [(4, 1)] [] [true, false] ?_ ?_
      · refine oc g_mv ?_
        refine oc (g_lR 0 0 (cs := U8 (s)) (fun j v h => by rw [Nat.zero_add]; exact h) Tryd.underlying32 (by rw [U8_len, hs1]; exact info__16_uint8)) ?_
        refine oc (g_lR 1 0 (cs := U8 (r)) (fun j v h => by rw [Nat.zero_add]; exact h) Tryd.underlying32 (by rw [U8_len, hr]; exact info__16_uint8)) ?_
        refine oc (g_cb ent_aes_ahead (fun uZ bZ => hA.out uZ bZ)) ?_
        exact oc (g_st 0 info__16_uint8 (h1 := U8_one _) (hm := by rw [U8_len, hs2]) (hl := by first | rw [U8_len, U8_len, hs2, hs1] | rfl)) on
      intro u6 HB6 sz6 K6
      simp only [fX, nK, nP, Wr.f, aK, pM] at K6
      simp only [setG, setN, List.set_cons_zero, List.set_cons_succ]
      clear K5 HB5
      go_upto_region 8 with fail
      refine rgP K6 HB6 HB6.size [] [] [(0, 30, .int .i64 ((i + 1 : Nat) : Int)), (1, 22, .int .i64 ((i + 1 : Nat) : Int))] [(1, 0)] [(1, 22)] [] ?_ ?_
      · refine oc (g_bn (fun uZ => add_i _ _ (i : Int) 1 ((i + 1 : Nat) : Int) uZ (by omega) (by omega) (by omega))) ?_
        exact oc g_mv on
      intro u7 HB7 sz7 K7
      simp only [fX, nK, nP, Wr.f, aK, pM] at K7
      simp only [setG, setN, List.set_cons_zero, List.set_cons_succ]
      clear K6 HB6
      go_wp2
      refine ⟨⟨i + 1, by omega, rfl, HB7, (K7.cv 0), (K7.lt 0)⟩, ?_⟩
      simp [intOf] <;> omega
    · have hl1 : decide ((i : Int) < 11) = false := by simp; omega
      have hk11 : i = 11 := by omega
      subst hk11
      have K3_2 : Bk w.heap.size wr [(false, b1_8, U8 (sE 11))] := ⟨.c lb Kb.out <| trivial, by simp⟩
      go_upto_region 5 with fail
      refine rgP K3_2 HBr HBr.size [] [] [(0, 23, .bool false)] [] [] [] ?_ ?_
      · exact oc (g_bn (fun uZ => lss_i _ _ ((11 : Nat) : Int) 11 false uZ hl1)) on
      intro u4 HB4 sz4 K4
      simp only [fX, nK, nP, Wr.f, aK, pM] at K4
      simp only [setG, setN, List.set_cons_zero, List.set_cons_succ]
      go_upto_region 9 with fail
      refine rgP K4 HB4 HB4.size [] [] [(0, 31, .slice (some ⟨b1_8, 0, none⟩) 16 16), (1, 4, .slice (some ⟨b1_8, 0, none⟩) 16 16), (2, 5, (Go.Value.int Go.IntKind.i64 0))] [] [] [] ?_ ?_
      · refine oc (g_sl (fun uZ => slW16 b1_8 uZ)) ?_
        refine oc g_as ?_
        exact oc g_as on
      intro u5 HB5 sz5 K5
      simp only [fX, nK, nP, Wr.f, aK, pM] at K5
      simp only [setG, setN, List.set_cons_zero, List.set_cons_succ]
      clear K4 HB4
      go_wp2
      refine bodyPost_ret (v := .tuple #[.slice (some ⟨b1_8, 0, none⟩) 16 16, .int .i64 0]) (by simp [results, Tryd.results15, go_sem]) rfl ⟨_, rfl, ⟨_, rfl, b1_8, 16, rfl, lo7, (K5.lt 0), Nat.le_refl _, (K5.cv 0)⟩, HB5⟩
set_option maxRecDepth 100000 in
set_option maxHeartbeats 4000000 in
theorem cDec_s (vk vb : Value) (kx bs ts : List Nat) (sE sR : Nat → List Nat) (w : World) (hz176 : z176.length = 176) (hz256 : z256.length = 256) (htl : ts.length = 256) (hkx : kx.length = 176) (hbl : bs.length = 16) (hG : Hid (∀ u, Below w.heap.size w u → Calls Tryd.prog 23 #[vk, vb] u fun e w' => e = .returned (.tuple #[.agg (U8 kx).toArray, .agg (U8 bs).toArray, .int .i64 0]) ∧ Below u.heap.size u w')) (hRw : Hid (∀ i, i ≤ 10 → rowB kx i = sR i)) (hRl : Hid (∀ i, (sR i).length = 16)) (hEl : Hid (∀ i, (sE i).length = 16)) (hE0 : Hid (sE 0 = bs)) 
    (hO : Hid (∀ u, Below w.heap.size w u → Calls Tryd.prog 28 #[] u fun e w' => e = .returned (.agg (U8 (ts)).toArray) ∧ Below u.heap.size u w'))
    (hAh : Hid (∀ j i : Nat, j + i = 10 → ∀ u, Below w.heap.size w u → Calls Tryd.prog 29 #[.int .i64 (i : Int), .agg (U8 (sE j)).toArray, .agg (U8 (sR i)).toArray, .agg (U8 (ts)).toArray] u fun e w' => e = .returned (.agg (U8 (sE (j + 1))).toArray) ∧ Below u.heap.size u w')) :
    Calls Tryd.prog 17 #[vk, vb] w fun e w' => ∃ v, e = .returned v ∧ PT 0 w.heap.size 16 (U8 (sE 11)) w' v ∧ Below w.heap.size w w' := by
  go_enter Tryd.func17, Tryd.ntmps17
  have HB0 : Below w.heap.size w w := Below.refl _ _
  have K0_1 := Bk.nil (w.heap.size) w
  go_upto_region 1 with fail
  refine rgP K0_1 HB0 HB0.size [] [(7, 6, U8 (z176), some (9, U8 (kx))), (8, 7, U8 (z16), some (10, U8 (bs)))] [(0, 12, vk), (1, 13, vb), (2, 14, .tuple #[.agg (U8 (kx)).toArray, .agg (U8 (bs)).toArray, .int .i64 0]), (3, 11, .tuple #[.agg (U8 (kx)).toArray, .agg (U8 (bs)).toArray, .int .i64 0]), (4, 15, .agg (U8 (kx)).toArray), (5, 16, .agg (U8 (bs)).toArray), (6, 17, .int .i64 0), (11, 8, .int .i64 0)] [(9, 7), (10, 8)] [] [] ?_ ?_
  · refine oc g_mv ?_
    refine oc g_mv ?_
    refine oc (g_cb ent_aes_begun (fun uZ bZ => hG.out uZ bZ)) ?_
    refine oc g_mv ?_
    refine oc g_ex ?_
    refine oc g_ex ?_
    refine oc g_ex ?_
    refine oc (g_al 0 al__11__16_uint8) ?_
    refine oc (g_al 1 al__16_uint8) ?_
    refine oc (g_sn 0 info__11__16_uint8 (h1 := U8_one _) (hm := by rw [U8_len, hkx]) (hl := by first | rw [U8_len, U8_len, hkx, show z176.length = 176 from hz176] | rfl)) ?_
    refine oc (g_sn 1 info__16_uint8 (h1 := U8_one _) (hm := by rw [U8_len, hbl]) (hl := by first | rw [U8_len, U8_len, hbl, show z16.length = 16 from rfl] | rfl)) ?_
    exact oc g_as on
  intro u1 b1_7 b1_8 HB1 sz1 K1
  simp only [fX, nK, nP, Wr.f, aK, pM] at K1
  simp only [setG, setN, List.set_cons_zero, List.set_cons_succ]
  clear HB0
  go_upto_region 2 with fail
  refine rgP K1 HB1 HB1.size [] [] [(0, 18, .int .i64 0), (1, 19, .bool false)] [] [] [] ?_ ?_
  · refine oc g_mv ?_
    exact oc (g_bn (fun uZ => neq_e _ _ 0 0 false uZ (by decide))) on
  intro u2 HB2 sz2 K2
  simp only [fX, nK, nP, Wr.f, aK, pM] at K2
  simp only [setG, setN, List.set_cons_zero, List.set_cons_succ]
  clear K1 HB1
  go_upto_region 4 with fail
  refine rgP K2 HB2 HB2.size [] [(1, 9, U8 (z256), some (2, U8 (ts)))] [(0, 21, .agg (U8 (ts)).toArray)] [(2, 1)] [] [] ?_ ?_
  · refine oc (g_cb ent_aes_originals (fun uZ bZ => hO.out uZ bZ)) ?_
    refine oc (g_al 0 al__256_uint8) ?_
    exact oc (g_sn 0 info__256_uint8 (h1 := U8_one _) (hm := by rw [U8_len, htl]) (hl := by first | rw [U8_len, U8_len, htl, show z256.length = 256 from hz256] | rfl)) on
  intro u3 b3_1 HB3 sz3 K3
  simp only [fX, nK, nP, Wr.f, aK, pM] at K3
  simp only [setG, setN, List.set_cons_zero, List.set_cons_succ]
  clear K2 HB2
  go_upto_region 5 with fail
  refine rgP K3 HB3 HB3.size [] [] [(0, 10, (Go.Value.int Go.IntKind.i64 10))] [] [] [] ?_ ?_
  · exact oc g_as on
  intro u4 HB4 sz4 K4
  simp only [fX, nK, nP, Wr.f, aK, pM] at K4
  simp only [setG, setN, List.set_cons_zero, List.set_cons_succ]
  clear K3 HB3
  go_wp2_with fail
  go_loopw [10] (fun s10 wr => ∃ (j : Nat), j ≤ 11 ∧ s10 = .int .i64 (10 - (j : Int)) ∧ Below w.heap.size w wr ∧ Hid (CV wr b1_7 (U8 (kx))) ∧ Hid (CV wr b1_8 (U8 (sE j))) ∧ Hid (CV wr b3_1 (U8 (ts))) ∧ b1_7 < wr.heap.size ∧ b1_8 < wr.heap.size ∧ b3_1 < wr.heap.size) (fun s10 _ => (intOf s10 + 1).toNat)
  case atStart => exact ⟨0, by omega, rfl, HB4, (K4.cv 0), (by rw [hE0.out]; exact (K4.cv 1)), (K4.cv 2), (K4.lt 0), (K4.lt 1), (K4.lt 2)⟩
  case round =>
    have lo7 := K4.lo 1
    obtain ⟨j, hj11, rfl, HBr, Ka, Kb, Kc, la, lb, lc⟩ := hrel
    clear HB4
    by_cases hj : j < 11
    · obtain ⟨i, hi⟩ : ∃ i, j + i = 10 := ⟨10 - j, by omega⟩
      have ei : 10 - (j : Int) = (i : Int) := by omega
      rw [ei]
      have hl1 : decide ((0 : Int) ≤ (i : Int)) = true := by simp
      have hA := hAh.out j i hi
      have hs1 := hEl.out j
      have hs2 := hEl.out (j + 1)
      have hr := hRl.out i
      have hrw := hRw.out i (by omega)
      obtain ⟨s, es⟩ : ∃ s, sE j = s := ⟨_, rfl⟩
      obtain ⟨r, er⟩ : ∃ r, sR i = r := ⟨_, rfl⟩
      rw [es] at hA hs1 Kb
      rw [er] at hA hr hrw
      have hrw2 : ∀ j v, (U8 r)[j]? = some v → (U8 kx)[16 * i + j]? = some v := by
        refine row_at (by omega) hr fun j hj => ?_
        rw [← hrw, rowB_get hj]
      have hA : Hid _ := hA
      clear es er hrw ei
      have hnK := K4.n
      simp at hnK
      have hoK0 := K4.lo 0
      have hoK1 := K4.lo 1
      have hoK2 := K4.lo 2
      have K4_2 : Bk w.heap.size wr [(false, b1_7, U8 (kx)), (true, b1_8, U8 (s)), (false, b3_1, U8 (ts))] := ⟨.c la Ka.out <| .o lb (K4.lo 1) Kb.out <| .c lc Kc.out <| trivial, by simp <;> omega⟩
      go_upto_region 6 with fail
      refine rgP K4_2 HBr HBr.size [] [] [(0, 22, .int .i64 (i : Int)), (1, 23, .bool true)] [] [] [] ?_ ?_
      · refine oc g_mv ?_
        exact oc (g_bn (fun uZ => geq_z _ _ (i : Int) 0 true uZ hl1)) on
      intro u5 HB5 sz5 K5
      simp only [fX, nK, nP, Wr.f, aK, pM] at K5
      simp only [setG, setN, List.set_cons_zero, List.set_cons_succ]
      go_upto_region 8 with fail
      refine rgD K5 HB5 HB5.size [.no, .all 7 (U8 (sE (j + 1)))] [] [(0, 26, .int .i64 (i : Int)), (1, 27, .agg (U8 (s)).toArray), (2, 28, .int .i64 (i : Int)), (3, 29, .pointer (some ⟨b1_7, 16 * i, none⟩)), (4, 30, .agg (U8 (r)).toArray), (5, 31, .agg (U8 (ts)).toArray), (6, 32, .agg (U8 (sE (j + 1))).toArray)] [(7, 1)] [] [] ?_ ?_
      · refine oc g_mv ?_
        refine oc (g_lR 1 0 (cs := U8 (s)) (fun j v h => by rw [Nat.zero_add]; exact h) Tryd.underlying32 (by rw [U8_len, hs1]; exact info__16_uint8)) ?_
        refine oc g_mv ?_
        refine oc (g_ix (fun uZ => xb11 b1_7 i uZ (by omega))) ?_
        refine oc (g_lR 0 (16 * i) (cs := U8 (r)) (hrw2) Tryd.underlying32 (by rw [U8_len, hr]; exact info__16_uint8)) ?_
        refine oc (g_lR 2 0 (cs := U8 (ts)) (fun j v h => by rw [Nat.zero_add]; exact h) Tryd.underlying49 (by rw [U8_len, htl]; exact info__256_uint8)) ?_
        refine oc (g_cb ent_aes_back (fun uZ bZ => hA.out uZ bZ)) ?_
        exact oc (g_st 1 info__16_uint8 (h1 := U8_one _) (hm := by rw [U8_len, hs2]) (hl := by first | rw [U8_len, U8_len, hs2, hs1] | rfl)) on
      intro u6 HB6 sz6 K6
      simp only [fX, nK, nP, Wr.f, aK, pM] at K6
      simp only [setG, setN, List.set_cons_zero, List.set_cons_succ]
      clear K5 HB5
      go_upto_region 7 with fail
      refine rgP K6 HB6 HB6.size [] [] [(0, 24, .int .i64 (i : Int)), (1, 25, .int .i64 (10 - ((j + 1 : Nat) : Int))), (2, 10, .int .i64 (10 - ((j + 1 : Nat) : Int)))] [(2, 0)] [(2, 10)] [] ?_ ?_
      · refine oc g_mv ?_
        refine oc (g_bn (fun uZ => sub_i _ _ (i : Int) 1 (10 - ((j + 1 : Nat) : Int)) uZ (by omega) (by omega) (by omega))) ?_
        exact oc g_as on
      intro u7 HB7 sz7 K7
      simp only [fX, nK, nP, Wr.f, aK, pM] at K7
      simp only [setG, setN, List.set_cons_zero, List.set_cons_succ]
      clear K6 HB6
      go_wp2
      refine ⟨⟨j + 1, by omega, rfl, HB7, (K7.cv 0), (K7.cv 1), (K7.cv 2), (K7.lt 0), (K7.lt 1), (K7.lt 2)⟩, ?_⟩
      simp [intOf] <;> omega
    · have hk11 : j = 11 := by omega
      subst hk11
      have hl1 : decide ((0 : Int) ≤ 10 - ((11 : Nat) : Int)) = false := by decide
      have hnK := K4.n
      simp at hnK
      have hoK0 := K4.lo 0
      have hoK1 := K4.lo 1
      have hoK2 := K4.lo 2
      have K4_2 : Bk w.heap.size wr [(false, b1_8, U8 (sE 11))] := ⟨.c lb Kb.out <| trivial, by simp⟩
      go_upto_region 6 with fail
      refine rgP K4_2 HBr HBr.size [] [] [(0, 22, .int .i64 (10 - ((11 : Nat) : Int))), (1, 23, .bool false)] [] [] [] ?_ ?_
      · refine oc g_mv ?_
        exact oc (g_bn (fun uZ => geq_z _ _ (10 - ((11 : Nat) : Int)) 0 false uZ hl1)) on
      intro u5 HB5 sz5 K5
      simp only [fX, nK, nP, Wr.f, aK, pM] at K5
      simp only [setG, setN, List.set_cons_zero, List.set_cons_succ]
      go_upto_region 9 with fail
      refine rgP K5 HB5 HB5.size [] [] [(0, 33, .slice (some ⟨b1_8, 0, none⟩) 16 16), (1, 4, .slice (some ⟨b1_8, 0, none⟩) 16 16), (2, 5, (Go.Value.int Go.IntKind.i64 0))] [] [] [] ?_ ?_
      · refine oc (g_sl (fun uZ => slW16 b1_8 uZ)) ?_
        refine oc g_as ?_
        exact oc g_as on
      intro u6 HB6 sz6 K6
      simp only [fX, nK, nP, Wr.f, aK, pM] at K6
      simp only [setG, setN, List.set_cons_zero, List.set_cons_succ]
      clear K5 HB5
      go_wp2
      refine bodyPost_ret (v := .tuple #[.slice (some ⟨b1_8, 0, none⟩) 16 16, .int .i64 0]) (by simp [results, Tryd.results17, go_sem]) rfl ⟨_, rfl, ⟨_, rfl, b1_8, 16, rfl, lo7, (K6.lt 0), Nat.le_refl _, (K6.cv 0)⟩, HB6⟩
/-- What is refused. -/
def noB : Value := .tuple #[.slice none 0 0, .int .i64 2]
theorem cEncrypt (ks bs : List Nat) (v v2 : Value) (w : World) (hV : GS6 w) (hin : IN w w.heap.size v ks) (hin2 : IN w w.heap.size v2 bs) (hk : BY 16 ks) (hb : BY 16 bs) (hx : ∀ x ∈ ks, x < 256) (hy : ∀ x ∈ bs, x < 256) :
    Calls Tryd.prog 15 #[v, v2] w fun e w' => ∃ v, e = .returned v ∧ PT 0 w.heap.size 16 (U8 (encB (rky ks) bs)) w' v ∧ Below w.heap.size w w' := by
  have hG := fun u (hB : Below w.heap.size w u) => cBegun ks bs v v2 u (hV.up hB) ((hin.below hB).mono hB.size) ((hin2.below hB).mono hB.size) hx hy
  unfold begV at hG
  simp only [if_pos (And.intro hk.len hb.len)] at hG
  rw [← enS_all]
  exact cEnc_s v v2 (kyX ks 10) bs (enS ks bs) (rky ks) w List.length_replicate (kyX_B hk 10).len hb.len hG (fun i hi => row_ky hk hi) (fun i => (rky_B hk i).len) (fun i => (enS_B hk hb i).len) rfl (fun i hi u hB => cAhead i _ _ u hi (hV.up hB) (enS_B hk hb i) (rky_B hk i))
theorem cDecrypt (ks bs : List Nat) (v v2 : Value) (w : World) (hV : GS6 w) (hin : IN w w.heap.size v ks) (hin2 : IN w w.heap.size v2 bs) (hk : BY 16 ks) (hb : BY 16 bs) (hx : ∀ x ∈ ks, x < 256) (hy : ∀ x ∈ bs, x < 256) :
    Calls Tryd.prog 17 #[v, v2] w fun e w' => ∃ v, e = .returned v ∧ PT 0 w.heap.size 16 (U8 (decB (rky ks) bs)) w' v ∧ Below w.heap.size w w' := by
  have hG := fun u (hB : Below w.heap.size w u) => cBegun ks bs v v2 u (hV.up hB) ((hin.below hB).mono hB.size) ((hin2.below hB).mono hB.size) hx hy
  unfold begV at hG
  simp only [if_pos (And.intro hk.len hb.len)] at hG
  rw [← deS_all]
  exact cDec_s v v2 (kyX ks 10) bs rbT (deS ks bs) (rky ks) w List.length_replicate List.length_replicate rbT_len (kyX_B hk 10).len hb.len hG (fun i hi => row_ky hk hi) (fun i => (rky_B hk i).len) (fun i => (deS_B hk hb i).len) rfl (fun u hB => cOrig u (hV.up hB)) (fun j i hi u hB => by
    have h := cBack i (deS ks bs j) (rky ks i) u (by omega) (deS_B hk hb j) (rky_B hk i)
    rw [show deS ks bs (j + 1) = bkB i (deS ks bs j) (rky ks i) by rw [deS, show 10 - j = i by omega]]
    exact h)
theorem cEncrypt_n (ks bs : List Nat) (v v2 : Value) (w : World) (hV : GS6 w) (hin : IN w w.heap.size v ks) (hin2 : IN w w.heap.size v2 bs) (hn : ¬ (ks.length = 16 ∧ bs.length = 16)) (hx : ∀ x ∈ ks, x < 256) (hy : ∀ x ∈ bs, x < 256) :
    Calls Tryd.prog 15 #[v, v2] w fun e w' => e = .returned noB ∧ Below w.heap.size w w' := by
  have hG := fun u (hB : Below w.heap.size w u) => cBegun ks bs v v2 u (hV.up hB) ((hin.below hB).mono hB.size) ((hin2.below hB).mono hB.size) hx hy
  unfold begV at hG
  simp only [if_neg hn] at hG
  exact cEnc_n v v2 w List.length_replicate hG
theorem cDecrypt_n (ks bs : List Nat) (v v2 : Value) (w : World) (hV : GS6 w) (hin : IN w w.heap.size v ks) (hin2 : IN w w.heap.size v2 bs) (hn : ¬ (ks.length = 16 ∧ bs.length = 16)) (hx : ∀ x ∈ ks, x < 256) (hy : ∀ x ∈ bs, x < 256) :
    Calls Tryd.prog 17 #[v, v2] w fun e w' => e = .returned noB ∧ Below w.heap.size w w' := by
  have hG := fun u (hB : Below w.heap.size w u) => cBegun ks bs v v2 u (hV.up hB) ((hin.below hB).mono hB.size) ((hin2.below hB).mono hB.size) hx hy
  unfold begV at hG
  simp only [if_neg hn] at hG
  exact cDec_n v v2 w List.length_replicate hG
end Go.Proofs.YtlcjbnhfmcnnfaaDoor
