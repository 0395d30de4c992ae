/- AES: blocks that are encrypted and decrypted. -/
import Derived.Test.YtlcjbnhfmcnnfaaDoorAE9
namespace Go.Proofs.YtlcjbnhfmcnnfaaDoor
open Go.RowKit
set_option linter.unusedVariables false
set_option linter.unusedSimpArgs false
def enS (ks bs : List Nat) : Nat → List Nat
  | 0 => bs
  | i + 1 => ahB i (enS ks bs i) (rky ks i)
theorem enS_B {ks bs : List Nat} (hk : BY 16 ks) (hb : BY 16 bs) : ∀ i, BY 16 (enS ks bs i)
  | 0 => hb
  | i + 1 => ahB_B (enS_B hk hb i) (rky_B hk i)
theorem enS_is (ks bs : List Nat) : ∀ i, enS ks bs (i + 1) = encR (rky ks) bs i
  | 0 => rfl
  | i + 1 => by rw [enS, enS_is ks bs i, encR, ahB, if_neg (by omega)]
theorem enS_all (ks bs : List Nat) : enS ks bs 11 = encB (rky ks) bs := enS_is ks bs 10
set_option maxRecDepth 100000 in
set_option maxHeartbeats 4000000 in
theorem cEnc_s (vk vb : Value) (kx bs : List Nat) (sE sR : Nat → List Nat) (w : World) (hz176 : z176.length = 176) (hkx : kx.length = 176) (hbl : bs.length = 16) (hG : Hid (∀ u, Below w.heap.size w u → Calls Tryd.prog 23 #[vk, vb] u fun e w' => e = .returned (.tuple #[.agg (U8 kx).toArray, .agg (U8 bs).toArray, .int .i64 0]) ∧ Below u.heap.size u w')) (hRw : Hid (∀ i, i ≤ 10 → rowB kx i = sR i)) (hRl : Hid (∀ i, (sR i).length = 16)) (hEl : Hid (∀ i, (sE i).length = 16)) (hE0 : Hid (sE 0 = bs)) 
    (hAh : Hid (∀ i : Nat, i ≤ 10 → ∀ u, Below w.heap.size w u → Calls Tryd.prog 24 #[.int .i64 (i : Int), .agg (U8 (sE i)).toArray, .agg (U8 (sR i)).toArray] u fun e w' => e = .returned (.agg (U8 (sE (i + 1))).toArray) ∧ Below u.heap.size u w')) :
    Calls Tryd.prog 15 #[vk, vb] w fun e w' => ∃ v, e = .returned v ∧ PT 0 w.heap.size 16 (U8 (sE 11)) w' v ∧ Below w.heap.size w w' := by
  go_enter Tryd.func15, Tryd.ntmps15
  have HB0 : Below w.heap.size w w := Below.refl _ _
  have K0_1 := Bk.nil (w.heap.size) w
  go_upto_region 1 with fail
  refine rgP K0_1 HB0 HB0.size [] [(7, 6, U8 (z176), some (9, U8 (kx))), (8, 7, U8 (z16), some (10, U8 (bs)))] [(0, 12, vk), (1, 13, vb), (2, 14, .tuple #[.agg (U8 (kx)).toArray, .agg (U8 (bs)).toArray, .int .i64 0]), (3, 11, .tuple #[.agg (U8 (kx)).toArray, .agg (U8 (bs)).toArray, .int .i64 0]), (4, 15, .agg (U8 (kx)).toArray), (5, 16, .agg (U8 (bs)).toArray), (6, 17, .int .i64 0), (11, 8, .int .i64 0)] [(9, 7), (10, 8)] [] [] ?_ ?_
  · refine oc g_mv ?_
    refine oc g_mv ?_
    refine oc (g_cb ent_aes_begun (fun uZ bZ => hG.out uZ bZ)) ?_
    refine oc g_mv ?_
    refine oc g_ex ?_
    refine oc g_ex ?_
    refine oc g_ex ?_
    refine oc (g_al 0 al__11__16_uint8) ?_
    refine oc (g_al 1 al__16_uint8) ?_
    refine oc (g_sn 0 info__11__16_uint8 (h1 := U8_one _) (hm := by rw [U8_len, hkx]) (hl := by first | rw [U8_len, U8_len, hkx, show z176.length = 176 from hz176] | rfl)) ?_
    refine oc (g_sn 1 info__16_uint8 (h1 := U8_one _) (hm := by rw [U8_len, hbl]) (hl := by first | rw [U8_len, U8_len, hbl, show z16.length = 16 from rfl] | rfl)) ?_
    exact oc g_as on
  intro u1 b1_7 b1_8 HB1 sz1 K1
  simp only [fX, nK, nP, Wr.f, aK, pM] at K1
  simp only [setG, setN, List.set_cons_zero, List.set_cons_succ]
  clear HB0
  go_upto_region 2 with fail
  refine rgP K1 HB1 HB1.size [] [] [(0, 18, .int .i64 0), (1, 19, .bool false)] [] [] [] ?_ ?_
  · refine oc g_mv ?_
    exact oc (g_bn (fun uZ => neq_e _ _ 0 0 false uZ (by decide))) on
  intro u2 HB2 sz2 K2
  simp only [fX, nK, nP, Wr.f, aK, pM] at K2
  simp only [setG, setN, List.set_cons_zero, List.set_cons_succ]
  clear K1 HB1
  go_upto_region 4 with fail
  refine rgP K2 HB2 HB2.size [] [] [(0, 21, .agg (U8 (kx)).toArray), (1, 22, (Go.Value.int Go.IntKind.i64 0))] [] [] [false] ?_ ?_
  · refine oc (g_lR 0 0 (cs := U8 (kx)) (fun j v h => by rw [Nat.zero_add]; exact h) Tryd.underlying33 (by rw [U8_len, hkx]; exact info__11__16_uint8)) ?_
    exact oc g_mv on
  intro u3 HB3 sz3 K3
  simp only [fX, nK, nP, Wr.f, aK, pM] at K3
  simp only [setG, setN, List.set_cons_zero, List.set_cons_succ]
  clear K2 HB2
  go_wp2_with fail
  go_loopw [22] (fun s22 wr => ∃ (i : Nat), i ≤ 11 ∧ s22 = .int .i64 (i : Int) ∧ Below w.heap.size w wr ∧ Hid (CV wr b1_8 (U8 (sE i))) ∧ b1_8 < wr.heap.size) (fun s22 _ => 11 - (intOf s22).toNat)
  case atStart => exact ⟨0, by omega, rfl, HB3, (by rw [hE0.out]; exact (K3.cv 0)), (K3.lt 0)⟩
  case round =>
    have lo7 := K3.lo 0
    obtain ⟨i, hi, rfl, HBr, Kb, lb⟩ := hrel
    clear HB3
    by_cases hj : i < 11
    · have hl1 : decide ((i : Int) < 11) = true := by simp; omega
      have hA := hAh.out i (by omega)
      have hs1 := hEl.out i
      have hs2 := hEl.out (i + 1)
      have hr := hRl.out i
      have hix := fun (o : Oper) (ev : Operand → Value) (x z : Operand) u => @ix11v o ev 33 x z kx i u rfl
      rw [hRw.out i (by omega)] at hix
      obtain ⟨s, es⟩ : ∃ s, sE i = s := ⟨_, rfl⟩
      obtain ⟨r, er⟩ : ∃ r, sR i = r := ⟨_, rfl⟩
      rw [es] at hA hs1 Kb
      rw [er] at hA hr hix
      have hA : Hid _ := hA
      have hix : Hid _ := hix
      clear es er
      have K3_2 : Bk w.heap.size wr [(true, b1_8, U8 (s))] := ⟨.o lb (K3.lo 0) Kb.out <| trivial, by simp⟩
      go_upto_region 5 with fail
      refine rgP K3_2 HBr HBr.size [] [] [(0, 23, .bool true)] [] [] [] ?_ ?_
      · exact oc (g_bn (fun uZ => lss_i _ _ (i : Int) 11 true uZ hl1)) on
      intro u4 HB4 sz4 K4
      simp only [fX, nK, nP, Wr.f, aK, pM] at K4
      simp only [setG, setN, List.set_cons_zero, List.set_cons_succ]
      go_upto_region 6 with fail
      refine rgP K4 HB4 HB4.size [] [(2, 10, U8 (z16), some (4, U8 (r)))] [(0, 24, .int .i64 (i : Int)), (1, 25, .agg (U8 (r)).toArray), (3, 9, .int .i64 (i : Int))] [(4, 2)] [] [] ?_ ?_
      · refine oc g_mv ?_
        refine oc (g_op (fun ev uZ he => hix.out _ ev _ _ uZ rfl (he _ _ rfl) (he _ _ rfl) hkx hj)) ?_
        refine oc (g_al 0 al__16_uint8) ?_
        refine oc g_as ?_
        exact oc (g_sn 0 info__16_uint8 (h1 := U8_one _) (hm := by rw [U8_len, hr]) (hl := by first | rw [U8_len, U8_len, hr, show z16.length = 16 from rfl] | rfl)) on
      intro u5 b5_2 HB5 sz5 K5
      simp only [fX, nK, nP, Wr.f, aK, pM] at K5
      simp only [setG, setN, List.set_cons_zero, List.set_cons_succ]
      clear K4 HB4
      go_upto_region 7 with fail
      refine rgP K5 HB5 HB5.size [.all 4 (U8 (sE (i + 1)))] [] [(0, 26, .int .i64 (i : Int)), (1, 27, .agg (U8 (s)).toArray), (2, 28, .agg (U8 (r)).toArray), (3, 29, .agg (U8 (sE (i + 1))).toArray)] [(4, 1)] [] [true, false] ?_ ?_
      · refine oc g_mv ?_
        refine oc (g_lR 0 0 (cs := U8 (s)) (fun j v h => by rw [Nat.zero_add]; exact h) Tryd.underlying32 (by rw [U8_len, hs1]; exact info__16_uint8)) ?_
        refine oc (g_lR 1 0 (cs := U8 (r)) (fun j v h => by rw [Nat.zero_add]; exact h) Tryd.underlying32 (by rw [U8_len, hr]; exact info__16_uint8)) ?_
        refine oc (g_cb ent_aes_ahead (fun uZ bZ => hA.out uZ bZ)) ?_
        exact oc (g_st 0 info__16_uint8 (h1 := U8_one _) (hm := by rw [U8_len, hs2]) (hl := by first | rw [U8_len, U8_len, hs2, hs1] | rfl)) on
      intro u6 HB6 sz6 K6
      simp only [fX, nK, nP, Wr.f, aK, pM] at K6
      simp only [setG, setN, List.set_cons_zero, List.set_cons_succ]
      clear K5 HB5
      go_upto_region 8 with fail
      refine rgP K6 HB6 HB6.size [] [] [(0, 30, .int .i64 ((i + 1 : Nat) : Int)), (1, 22, .int .i64 ((i + 1 : Nat) : Int))] [(1, 0)] [(1, 22)] [] ?_ ?_
      · refine oc (g_bn (fun uZ => add_i _ _ (i : Int) 1 ((i + 1 : Nat) : Int) uZ (by omega) (by omega) (by omega))) ?_
        exact oc g_mv on
      intro u7 HB7 sz7 K7
      simp only [fX, nK, nP, Wr.f, aK, pM] at K7
      simp only [setG, setN, List.set_cons_zero, List.set_cons_succ]
      clear K6 HB6
      go_wp2
      refine ⟨⟨i + 1, by omega, rfl, HB7, (K7.cv 0), (K7.lt 0)⟩, ?_⟩
      simp [intOf] <;> omega
    · have hl1 : decide ((i : Int) < 11) = false := by simp; omega
      have hk11 : i = 11 := by omega
      subst hk11
      have K3_2 : Bk w.heap.size wr [(false, b1_8, U8 (sE 11))] := ⟨.c lb Kb.out <| trivial, by simp⟩
      go_upto_region 5 with fail
      refine rgP K3_2 HBr HBr.size [] [] [(0, 23, .bool false)] [] [] [] ?_ ?_
      · exact oc (g_bn (fun uZ => lss_i _ _ ((11 : Nat) : Int) 11 false uZ hl1)) on
      intro u4 HB4 sz4 K4
      simp only [fX, nK, nP, Wr.f, aK, pM] at K4
      simp only [setG, setN, List.set_cons_zero, List.set_cons_succ]
      go_upto_region 9 with fail
      refine rgP K4 HB4 HB4.size [] [] [(0, 31, .slice (some ⟨b1_8, 0, none⟩) 16 16), (1, 4, .slice (some ⟨b1_8, 0, none⟩) 16 16), (2, 5, (Go.Value.int Go.IntKind.i64 0))] [] [] [] ?_ ?_
      · refine oc (g_sl (fun uZ => slW16 b1_8 uZ)) ?_
        refine oc g_as ?_
        exact oc g_as on
      intro u5 HB5 sz5 K5
      simp only [fX, nK, nP, Wr.f, aK, pM] at K5
      simp only [setG, setN, List.set_cons_zero, List.set_cons_succ]
      clear K4 HB4
      go_wp2
      refine bodyPost_ret (v := .tuple #[.slice (some ⟨b1_8, 0, none⟩) 16 16, .int .i64 0]) (by simp [results, Tryd.results15, go_sem]) rfl ⟨_, rfl, ⟨_, rfl, b1_8, 16, rfl, lo7, (K5.lt 0), Nat.le_refl _, (K5.cv 0)⟩, HB5⟩
theorem cEncrypt (ks bs : List Nat) (v v2 : Value) (w : World) (hV : GS6 w) (hin : IN w w.heap.size v ks) (hin2 : IN w w.heap.size v2 bs) (hk : BY 16 ks) (hb : BY 16 bs) (hx : ∀ x ∈ ks, x < 256) (hy : ∀ x ∈ bs, x < 256) :
    Calls Tryd.prog 15 #[v, v2] w fun e w' => ∃ v, e = .returned v ∧ PT 0 w.heap.size 16 (U8 (encB (rky ks) bs)) w' v ∧ Below w.heap.size w w' := by
  have hG := fun u (hB : Below w.heap.size w u) => cBegun ks bs v v2 u (hV.up hB) ((hin.below hB).mono hB.size) ((hin2.below hB).mono hB.size) hx hy
  unfold begV at hG
  simp only [if_pos (And.intro hk.len hb.len)] at hG
  rw [← enS_all]
  exact cEnc_s v v2 (kyX ks 10) bs (enS ks bs) (rky ks) w List.length_replicate (kyX_B hk 10).len hb.len hG (fun i hi => row_ky hk hi) (fun i => (rky_B hk i).len) (fun i => (enS_B hk hb i).len) rfl (fun i hi u hB => cAhead i _ _ u hi (hV.up hB) (enS_B hk hb i) (rky_B hk i))
end Go.Proofs.YtlcjbnhfmcnnfaaDoor
