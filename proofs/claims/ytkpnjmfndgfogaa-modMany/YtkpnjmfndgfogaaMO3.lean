/- Numbers modulo one: product. -/
import Derived.Test.YtkpnjmfndgfogaaRC
import Derived.Test.YtkpnjmfndgfogaaMO2
import Derived.Test.YtkpnjmfndgfogaaMM
import Derived.Test.YtkpnjmfndgfogaaRS
import Derived.Test.YtkpnjmfndgfogaaMA2
namespace Go.Proofs.Ytkpnjmfndgfogaa
open Go.RowKit
set_option linter.unusedVariables false
set_option linter.unusedSimpArgs false
abbrev LM (m c : Int) : List Value := [.int .u64 (D0 m), .int .u64 (D1 m), .int .u64 (D2 m), .int .u64 (D3 m), .int .u64 c]
theorem L5_0 : L05 = L5 0 := by simp [L5, D0, D1, D2, D3, D4]
theorem NV_lo (S : Int) : NV (S % 115792089237316195423570985008687907853269984665640564039457584007913129639936) = NV S := (LN_LW S).symm
theorem sub_a (S m : Int) (w : World) (h0 : 0 ≤ S) (hm : In m) (h : S < m) : Calls Try.prog 53 #[NV S, NV m] w fun e w' => e = .returned (.tuple #[NV (S - m + 115792089237316195423570985008687907853269984665640564039457584007913129639936), .bool true]) ∧ Below w.heap.size w w' :=
  nSub_lt S m w ⟨h0, by have := hm.2; omega⟩ hm h
theorem sub_b (S m : Int) (w : World) (hm : In m) (h : m ≤ S) (h1 : S < 115792089237316195423570985008687907853269984665640564039457584007913129639936) : Calls Try.prog 53 #[NV S, NV m] w fun e w' => e = .returned (.tuple #[NV (S - m), .bool false]) ∧ Below w.heap.size w w' :=
  nSub_ge S m w ⟨by have := hm.1; omega, h1⟩ hm h
theorem sub_c (S m : Int) (w : World) (hm : In m) (h : S < 2 * m) (h1 : 115792089237316195423570985008687907853269984665640564039457584007913129639936 ≤ S) : Calls Try.prog 53 #[NV S, NV m] w fun e w' => e = .returned (.tuple #[NV (S - m), .bool true]) ∧ Below w.heap.size w w' := by
  have hm2 := hm.2
  have k := nSub_lt (S - 115792089237316195423570985008687907853269984665640564039457584007913129639936) m w ⟨by omega, by omega⟩ hm (by omega)
  rw [NV_less S, show S - 115792089237316195423570985008687907853269984665640564039457584007913129639936 - m + 115792089237316195423570985008687907853269984665640564039457584007913129639936 = S - m by omega] at k
  exact k
set_option maxRecDepth 100000 in
set_option maxHeartbeats 8000000 in
theorem mprod (bo : Nat) (a b m cl x : Int) (w : World) (ha : In a) (hb : In b) (hm : In m) (ham : a < m) (ho : m % 2 = 1) (hcw : W64 cl) (hcl : 18446744073709551616 ∣ cl * D0 m + 1) (hx : IsMg a b m x) (Ko : CV w bo (LM m cl)) (lo : bo < w.heap.size) :
    Calls Try.prog 106 #[.pointer (some ⟨bo, 0, none⟩), NV a, NV b] w fun e w' => e = .returned (NV x) ∧ Below w.heap.size w w' := by
  have hm0 : 0 ≤ m := hm.1
  go_enter Try.func106, Try.ntmps106
  go_upto_region 1 with fail
  generalize hC : (((w.alloc (.cells (LN a : List Value).toArray 25)).alloc (.cells (LN b : List Value).toArray 25)).alloc (.cells (L0s : List Value).toArray 25)) = v0 at *
  have HB0 : Below w.heap.size w v0 := by rw [← hC]; exact balloc (balloc (balloc (bself w) _) _) _
  have K0 : Bk w.heap.size v0 [(true, w.heap.size, LN a), (true, w.heap.size + 1, LN b), (true, w.heap.size + 1 + 1, L0s)] := by rw [← hC]; exact (Bk.nil _ w).ad.ad.ad
  clear hC
  have Ko0 : CV v0 bo (LM m cl) := Ko.below HB0 lo
  have lo0 : bo < v0.heap.size := Nat.lt_of_lt_of_le lo HB0.size
  clear Ko
  have K0_1 : Bk w.heap.size v0 [(false, w.heap.size, LN a), (false, w.heap.size + 1, LN b), (true, w.heap.size + 1 + 1, L0s), (false, bo, LM (m) (cl))] := ⟨.c (K0.lt 0) (K0.cv 0) <| .c (K0.lt 1) (K0.cv 1) <| .o (K0.lt 2) (by omega) (K0.cv 2) <| .c lo0 Ko0 <| trivial, by simp; omega⟩
  refine rgP K0_1 HB0 HB0.size [] [(0, 7, L05, none)] [] [] [] [] ?_ ?_
  · exact oc (g_al 0 al__5_uint64) on
  intro u1 b1_0 HB1 sz1 K1
  simp only [fX, nK, nP, Wr.f, aK, pM] at K1
  simp only [setG, setN, List.set_cons_zero, List.set_cons_succ]
  clear HB0
  go_wp2_with fail
  go_loopw [13] (fun s13 wr => ∃ (k : Nat) (S : Int), k ≤ 4 ∧ s13 = .int .i64 k ∧ 0 ≤ S ∧ S < 2 * m ∧ Hid (m ∣ 18446744073709551616 ^ k * S - a * (b % 18446744073709551616 ^ k)) ∧ Below w.heap.size w wr ∧ CV wr (w.heap.size) (LN a) ∧ CV wr (w.heap.size + 1) (LN b) ∧ CV wr (w.heap.size + 1 + 1) L0s ∧ CV wr bo (LM (m) (cl)) ∧ CV wr b1_0 (L5 (S)) ∧ b1_0 < wr.heap.size) (fun s13 _ => 4 - (intOf s13).toNat)
  case atStart => exact ⟨0, 0, by omega, rfl, by omega, by omega, ⟨0, by simp⟩, HB1, (K1.cv 0), (K1.cv 1), (K1.cv 2), (K1.cv 3), by rw [← L5_0]; exact (K1.cv 4), (K1.lt 4)⟩
  case round =>
    obtain ⟨k, S, hk, rfl, hS0, hSl, hI, HBr, Ka, Kb, Kr, Ko, Ks, ls⟩ := hrel
    clear HB1
    have hn := K1.n
    simp at hn
    have ho4 := K1.lo 4
    by_cases hk4 : k < 4
    · have hk4' : (k : Int) < 4 := by omega
      have hdg := W_dgt b k
      have hsp := mS_spec S a (dgt b k) m cl hS0 hSl ha.1 ham hdg hm.2 hcl
      have hnx : Hid (m ∣ 18446744073709551616 ^ (k + 1) * mS S a (dgt b k) m cl - a * (b % 18446744073709551616 ^ (k + 1))) := mS_next S a b m cl k hsp.1 hI
      obtain ⟨_, hn0, hn1, hl5⟩ := hsp
      have kW := mK_W S a (dgt b k) cl
      have bb1 := mul_bd (x := a) (y := dgt b k) (X := m - 1) (Y := 18446744073709551615) ha.1 (by omega) hdg.1 (by have := hdg.2; omega)
      have bb2 := mul_bd (x := m) (y := mK S a (dgt b k) cl) (X := m) (Y := 18446744073709551615) hm.1 (Int.le_refl _) kW.1 (by have := kW.2; omega)
      have hm2 := hm.2
      have hS5 : S < 2135987035920910082395021706169552114602704522356652769947041607822219725780640550022962086936576 := by omega
      have hT0 : 0 ≤ (S + a * dgt b k) % 2135987035920910082395021706169552114602704522356652769947041607822219725780640550022962086936576 := Int.emod_nonneg _ (by decide)
      have hT1 : (S + a * dgt b k) % 2135987035920910082395021706169552114602704522356652769947041607822219725780640550022962086936576 < 2135987035920910082395021706169552114602704522356652769947041607822219725780640550022962086936576 := Int.emod_lt_of_pos _ (by decide)
      have Hl5 : Hid _ := hl5
      clear hl5 bb1 bb2
      obtain ⟨t1, ht1⟩ : ∃ t1, (S + a * dgt b k) % 2135987035920910082395021706169552114602704522356652769947041607822219725780640550022962086936576 = t1 := ⟨_, rfl⟩
      obtain ⟨c1, hc1⟩ : ∃ c1, (S + a * dgt b k) / 2135987035920910082395021706169552114602704522356652769947041607822219725780640550022962086936576 = c1 := ⟨_, rfl⟩
      obtain ⟨κ, hκ⟩ : ∃ κ, mK S a (dgt b k) cl = κ := ⟨_, rfl⟩
      obtain ⟨E1, hE1⟩ : ∃ E1, (t1 + m * κ) % 2135987035920910082395021706169552114602704522356652769947041607822219725780640550022962086936576 = E1 := ⟨_, rfl⟩
      obtain ⟨c2, hc2⟩ : ∃ c2, (t1 + m * κ) / 2135987035920910082395021706169552114602704522356652769947041607822219725780640550022962086936576 = c2 := ⟨_, rfl⟩
      have A1 : Hid (∀ u, b1_0 < u.heap.size → CV u b1_0 (L5 S) → CV u (w.heap.size) (LN a) → Calls Try.prog 112 #[.pointer (some ⟨b1_0, 0, none⟩), .pointer (some ⟨w.heap.size, 0, none⟩), .int .u64 (dgt b k)] u fun e u' => e = .returned (.int .u64 c1) ∧ Below b1_0 u u' ∧ CV u' b1_0 (L5 t1)) := fun u h1 h2 h3 => by
        rw [← ht1, ← hc1]; exact amul b1_0 (w.heap.size) S a (dgt b k) u hS0 hS5 ha hdg (by omega) h1 h2 h3
      have A2 : Hid (∀ u, b1_0 < u.heap.size → CV u b1_0 (L5 t1) → CV u bo (LN m) → Calls Try.prog 112 #[.pointer (some ⟨b1_0, 0, none⟩), .pointer (some ⟨bo, 0, none⟩), .int .u64 κ] u fun e u' => e = .returned (.int .u64 c2) ∧ Below b1_0 u u' ∧ CV u' b1_0 (L5 E1)) := fun u h1 h2 h3 => by
        rw [← hE1, ← hc2]; exact amul b1_0 bo t1 m κ u (by rw [← ht1]; exact hT0) (by rw [← ht1]; exact hT1) hm (by rw [← hκ]; exact kW) (by omega) h1 h2 h3
      have hmk : Hid (D0 t1 * cl % 18446744073709551616 = κ) := by rw [← hκ, ← ht1]; rfl
      rw [ht1, hc1, hκ, hE1, hc2] at Hl5
      clear ht1 hc1 hκ hE1 hc2 hT0 hT1 kW
      have K1_2 : Bk w.heap.size wr [(false, w.heap.size, LN a), (false, w.heap.size + 1, LN b), (false, w.heap.size + 1 + 1, L0s), (false, bo, LM (m) (cl)), (true, b1_0, L5 (S))] := ⟨.c (by omega) Ka <| .c (by omega) Kb <| .c (by omega) Kr <| .c (by omega) Ko <| .o ls (K1.lo 4) Ks <| trivial, by simp; omega⟩
      go_upto_region 4 with fail
      refine rgP K1_2 HBr HBr.size [] [] [(0, 15, .int .i64 k), (1, 8, .int .i64 k)] [] [] [] ?_ ?_
      · refine oc g_mv ?_
        exact oc g_as on
      intro u2 HB2 sz2 K2
      simp only [fX, nK, nP, Wr.f, aK, pM] at K2
      simp only [setG, setN, List.set_cons_zero, List.set_cons_succ]
      go_upto_region 5 with fail
      refine rgP K2 HB2 HB2.size [.no, .no, .no, .no, .all 3 (L5 (t1))] [] [(0, 16, .int .i64 k), (1, 17, .pointer (some ⟨w.heap.size + 1, k, none⟩)), (2, 18, .int .u64 (dgt b k)), (3, 19, .int .u64 c1), (4, 9, .int .u64 c1)] [] [] [] ?_ ?_
      · refine oc g_mv ?_
        refine oc (g_ix (fun uZ => ix_nat uZ _ k (by omega))) ?_
        refine oc (g_lv 1 k lU (LN_at b k hk4)) ?_
        refine oc (g_cx 4 ent_mod_addMultiple (fun fZ uZ kZ sZ kk => A1.out uZ (kZ.lb sZ 4) kk (kZ.cv 0)) ⟨by simp <;> omega, by simp <;> omega, by simp <;> omega, by simp <;> omega, trivial⟩) ?_
        exact oc g_as on
      intro u3 HB3 sz3 K3
      simp only [fX, nK, nP, Wr.f, aK, pM] at K3
      simp only [setG, setN, List.set_cons_zero, List.set_cons_succ]
      clear K2 HB2
      go_upto_region 6 with fail
      refine rgD K3 HB3 HB3.size [.no, .no, .no, .no, .all 11 (L5 (E1))] [] [(0, 20, .int .u64 c1), (1, 21, .pointer (some ⟨bo, 0, none⟩)), (2, 22, .pointer (some ⟨bo, 0, none⟩)), (3, 23, .pointer (some ⟨bo, 0, none⟩)), (4, 24, .pointer (some ⟨b1_0, 0, none⟩)), (5, 25, .int .u64 (D0 (t1))), (6, 26, .pointer (some ⟨bo, 0, none⟩)), (7, 27, .pointer (some ⟨bo, 0, none⟩)), (8, 28, .pointer (some ⟨bo, 4, none⟩)), (9, 29, .int .u64 (cl)), (10, 30, .int .u64 κ), (11, 31, .int .u64 c2), (12, 32, .int .u64 ((c1 + c2) % 18446744073709551616)), (13, 9, .int .u64 ((c1 + c2) % 18446744073709551616))] [(11, 5), (13, 0), (10, 5)] [(13, 9)] [] ?_ ?_
      · refine oc g_mv ?_
        refine oc g_mv ?_
        refine oc g_nl ?_
        refine oc (g_fd (fun uZ => fd_m bo uZ)) ?_
        refine oc (g_ix (fun uZ => ix_five uZ _ 0 (by omega))) ?_
        refine oc (g_lc 4 0 lU) ?_
        refine oc g_mv ?_
        refine oc g_nl ?_
        refine oc (g_fd (fun uZ => fd_c bo uZ)) ?_
        refine oc (g_lc 3 4 lU) ?_
        refine oc (g_bn (fun uZ => mul_u _ _ (D0 t1) cl κ uZ hmk.out)) ?_
        refine oc (g_cx 4 ent_mod_addMultiple (fun fZ uZ kZ sZ kk => A2.out uZ (kZ.lb sZ 4) kk (CV.pre (r := [.int .u64 cl]) (kZ.cv 3))) ⟨by simp <;> omega, by simp <;> omega, by simp <;> omega, by simp <;> omega, trivial⟩) ?_
        refine oc (g_bn (fun uZ => add_u _ _ c1 c2 ((c1 + c2) % 18446744073709551616) uZ rfl)) ?_
        exact oc g_as on
      intro u4 HB4 sz4 K4
      simp only [fX, nK, nP, Wr.f, aK, pM] at K4
      simp only [setG, setN, List.set_cons_zero, List.set_cons_succ]
      clear K3 HB3
      go_upto_region 7 with fail
      refine rgP K4 HB4 HB4.size [.no, .no, .no, .no, .cs [(0, 10, .int .u64 (D1 (E1))), (1, 12, .int .u64 (D2 (E1))), (2, 14, .int .u64 (D3 (E1))), (3, 16, .int .u64 (D4 (E1))), (4, 18, .int .u64 ((c1 + c2) % 18446744073709551616))]] [] [(0, 33, .pointer (some ⟨b1_0, 1, none⟩)), (1, 34, .int .u64 (D1 (E1))), (2, 35, .pointer (some ⟨b1_0, 2, none⟩)), (3, 36, .int .u64 (D2 (E1))), (4, 37, .pointer (some ⟨b1_0, 3, none⟩)), (5, 38, .int .u64 (D3 (E1))), (6, 39, .pointer (some ⟨b1_0, 4, none⟩)), (7, 40, .int .u64 (D4 (E1))), (8, 41, .int .u64 ((c1 + c2) % 18446744073709551616)), (9, 42, .pointer (some ⟨b1_0, 0, none⟩)), (11, 43, .pointer (some ⟨b1_0, 1, none⟩)), (13, 44, .pointer (some ⟨b1_0, 2, none⟩)), (15, 45, .pointer (some ⟨b1_0, 3, none⟩)), (17, 46, .pointer (some ⟨b1_0, 4, none⟩))] [(12, 1), (14, 3), (16, 5), (18, 7)] [] [] ?_ ?_
      · refine oc (g_ix (fun uZ => ix_five uZ _ 1 (by omega))) ?_
        refine oc (g_lc 4 1 lU) ?_
        refine oc (g_ix (fun uZ => ix_five uZ _ 2 (by omega))) ?_
        refine oc (g_lc 4 2 lU) ?_
        refine oc (g_ix (fun uZ => ix_five uZ _ 3 (by omega))) ?_
        refine oc (g_lc 4 3 lU) ?_
        refine oc (g_ix (fun uZ => ix_five uZ _ 4 (by omega))) ?_
        refine oc (g_lc 4 4 lU) ?_
        refine oc g_mv ?_
        refine oc (g_ix (fun uZ => ix_five uZ _ 0 (by omega))) ?_
        refine oc (g_sc 4 0 sU) ?_
        refine oc (g_ix (fun uZ => ix_five uZ _ 1 (by omega))) ?_
        refine oc (g_sc 4 1 sU) ?_
        refine oc (g_ix (fun uZ => ix_five uZ _ 2 (by omega))) ?_
        refine oc (g_sc 4 2 sU) ?_
        refine oc (g_ix (fun uZ => ix_five uZ _ 3 (by omega))) ?_
        refine oc (g_sc 4 3 sU) ?_
        refine oc (g_ix (fun uZ => ix_five uZ _ 4 (by omega))) ?_
        exact oc (g_sc 4 4 sU) on
      intro u5 HB5 sz5 K5
      simp only [fX, nK, nP, Wr.f, aK, pM, List.foldl, List.set_cons_zero, List.set_cons_succ] at K5
      simp only [setG, setN, List.set_cons_zero, List.set_cons_succ]
      clear K4 HB4
      go_upto_region 8 with fail
      refine rgP K5 HB5 HB5.size [] [] [(0, 47, .int .i64 ((k + 1 : Nat) : Int)), (1, 13, .int .i64 ((k + 1 : Nat) : Int))] [(1, 0)] [(1, 13)] [] ?_ ?_
      · refine oc (g_bn (fun uZ => add_i _ _ (k : Int) 1 ((k + 1 : Nat) : Int) uZ (by omega) (by omega) (by omega))) ?_
        exact oc g_mv on
      intro u6 HB6 sz6 K6
      simp only [fX, nK, nP, Wr.f, aK, pM] at K6
      simp only [setG, setN, List.set_cons_zero, List.set_cons_succ]
      clear K5 HB5
      go_wp2
      refine ⟨⟨k + 1, mS S a (dgt b k) m cl, by omega, rfl, hn0, hn1, hnx, HB6, (K6.cv 0), (K6.cv 1), (K6.cv 2), (K6.cv 3), by rw [L5, ← Hl5.out]; exact (K6.cv 4), (K6.lt 4)⟩, ?_⟩
      simp [intOf]; omega
    · have hk4' : ¬ (k : Int) < 4 := by omega
      have h4 : k = 4 := by omega
      subst h4
      have hm2 := hm.2
      by_cases hc : S < m
      · have hx' : Hid (x = S) := hx.uniq ho (mg_lt hS0 hc hI.out hb)
        have d4 : (D4 S == 0) = true := by unfold D4; simp; omega
        clear hI hx hcl
        have K1_2 : Bk w.heap.size wr [(false, w.heap.size, LN a), (false, w.heap.size + 1, LN b), (true, w.heap.size + 1 + 1, L0s), (false, bo, LM (m) (cl)), (false, b1_0, L5 (S))] := ⟨.c (by omega) Ka <| .c (by omega) Kb <| .o (by omega) (K1.lo 2) Kr <| .c (by omega) Ko <| .c ls Ks <| trivial, by simp; omega⟩
        go_upto_region 9 with fail
        refine rgP K1_2 HBr HBr.size [] [(3, 10, L0s, some (4, LN S))] [(0, 48, .slice (some ⟨b1_0, 0, none⟩) 4 5), (1, 49, .pointer (some ⟨b1_0, 0, none⟩)), (2, 50, NV S)] [(4, 3)] [] [false, false] ?_ ?_
        · refine oc (g_sl (fun uZ => sl_five b1_0 uZ)) ?_
          refine oc (g_sp (fun uZ => ap_five b1_0 uZ)) ?_
          refine oc (g_ld 4 uN iN) ?_
          refine oc (g_al 0 aN) ?_
          exact oc (g_sn 0 iN) on
        intro u2 b2_3 HB2 sz2 K2
        simp only [fX, nK, nP, Wr.f, aK, pM] at K2
        simp only [setG, setN, List.set_cons_zero, List.set_cons_succ]
        go_upto_region 10 with fail
        refine rgD K2 HB2 HB2.size [] [(9, 11, L0s, some (10, LN (S - m + 115792089237316195423570985008687907853269984665640564039457584007913129639936)))] [(0, 52, NV S), (1, 53, .pointer (some ⟨bo, 0, none⟩)), (2, 54, .pointer (some ⟨bo, 0, none⟩)), (3, 55, .pointer (some ⟨bo, 0, none⟩)), (4, 56, NV m), (5, 57, .tuple #[NV (S - m + 115792089237316195423570985008687907853269984665640564039457584007913129639936), .bool true]), (6, 51, .tuple #[NV (S - m + 115792089237316195423570985008687907853269984665640564039457584007913129639936), .bool true]), (7, 58, NV (S - m + 115792089237316195423570985008687907853269984665640564039457584007913129639936)), (8, 59, .bool true), (11, 12, .bool true)] [(10, 9)] [] [true, false, true, true, false] ?_ ?_
        · refine oc (g_ld 3 uN iN) ?_
          refine oc g_mv ?_
          refine oc g_nl ?_
          refine oc (g_fd (fun uZ => fd_m bo uZ)) ?_
          refine oc (g_ld 1 uN iN) ?_
          refine oc (g_cl ent_limb_Sub (fun uZ => sub_a S m uZ hS0 hm hc)) ?_
          refine oc g_mv ?_
          refine oc g_ex ?_
          refine oc g_ex ?_
          refine oc (g_al 0 aN) ?_
          refine oc (g_sn 0 iN) ?_
          exact oc g_as on
        intro u3 b3_9 HB3 sz3 K3
        simp only [fX, nK, nP, Wr.f, aK, pM] at K3
        simp only [setG, setN, List.set_cons_zero, List.set_cons_succ]
        clear K2 HB2
        have c4 := ((K3.cv 1) 4 _ rfl).1
        go_upto_region 12 with fail
        refine rgP K3 HB3 HB3.size [.all 1 (LN S)] [] [(0, 66, NV S)] [] [] [true, false, false] ?_ ?_
        · refine oc (g_ld 2 uN iN) ?_
          exact oc (g_st 0 iN) on
        intro u4 HB4 sz4 K4
        simp only [fX, nK, nP, Wr.f, aK, pM] at K4
        simp only [setG, setN, List.set_cons_zero, List.set_cons_succ]
        clear K3 HB3
        have c6_0 := ((K4.cv 0) 0 _ rfl).1
        have c6_1 := ((K4.cv 0) 1 _ rfl).1
        have c6_2 := ((K4.cv 0) 2 _ rfl).1
        have c6_3 := ((K4.cv 0) 3 _ rfl).1
        go_wp2
        refine bodyPost_ret (v := NV S) (by simp [results, Try.results106, go_sem, c6_0, c6_1, c6_2, c6_3]) rfl ⟨by rw [hx'.out], HB4⟩
      · have hx' : Hid (x = S - m) := hx.uniq ho (mg_ge (by omega) hSl hI.out hb)
        clear hI hx hcl
        have hc : m ≤ S := by omega
        by_cases h4 : S < 115792089237316195423570985008687907853269984665640564039457584007913129639936
        · skip
          have K1_2 : Bk w.heap.size wr [(false, w.heap.size, LN a), (false, w.heap.size + 1, LN b), (true, w.heap.size + 1 + 1, L0s), (false, bo, LM (m) (cl)), (false, b1_0, L5 (S))] := ⟨.c (by omega) Ka <| .c (by omega) Kb <| .o (by omega) (K1.lo 2) Kr <| .c (by omega) Ko <| .c ls Ks <| trivial, by simp; omega⟩
          go_upto_region 9 with fail
          refine rgP K1_2 HBr HBr.size [] [(3, 10, L0s, some (4, LN S))] [(0, 48, .slice (some ⟨b1_0, 0, none⟩) 4 5), (1, 49, .pointer (some ⟨b1_0, 0, none⟩)), (2, 50, NV S)] [(4, 3)] [] [false, false] ?_ ?_
          · refine oc (g_sl (fun uZ => sl_five b1_0 uZ)) ?_
            refine oc (g_sp (fun uZ => ap_five b1_0 uZ)) ?_
            refine oc (g_ld 4 uN iN) ?_
            refine oc (g_al 0 aN) ?_
            exact oc (g_sn 0 iN) on
          intro u2 b2_3 HB2 sz2 K2
          simp only [fX, nK, nP, Wr.f, aK, pM] at K2
          simp only [setG, setN, List.set_cons_zero, List.set_cons_succ]
          go_upto_region 10 with fail
          refine rgD K2 HB2 HB2.size [] [(9, 11, L0s, some (10, LN (S - m)))] [(0, 52, NV S), (1, 53, .pointer (some ⟨bo, 0, none⟩)), (2, 54, .pointer (some ⟨bo, 0, none⟩)), (3, 55, .pointer (some ⟨bo, 0, none⟩)), (4, 56, NV m), (5, 57, .tuple #[NV (S - m), .bool false]), (6, 51, .tuple #[NV (S - m), .bool false]), (7, 58, NV (S - m)), (8, 59, .bool false), (11, 12, .bool false)] [(10, 9)] [] [true, false, true, false] ?_ ?_
          · refine oc (g_ld 3 uN iN) ?_
            refine oc g_mv ?_
            refine oc g_nl ?_
            refine oc (g_fd (fun uZ => fd_m bo uZ)) ?_
            refine oc (g_ld 1 uN iN) ?_
            refine oc (g_cl ent_limb_Sub (fun uZ => sub_b S m uZ hm hc h4)) ?_
            refine oc g_mv ?_
            refine oc g_ex ?_
            refine oc g_ex ?_
            refine oc (g_al 0 aN) ?_
            refine oc (g_sn 0 iN) ?_
            exact oc g_as on
          intro u3 b3_9 HB3 sz3 K3
          simp only [fX, nK, nP, Wr.f, aK, pM] at K3
          simp only [setG, setN, List.set_cons_zero, List.set_cons_succ]
          clear K2 HB2
          have c4 := ((K3.cv 1) 4 _ rfl).1
          go_upto_region 13 with fail
          refine rgP K3 HB3 HB3.size [.all 1 (LN (S - m))] [] [(0, 67, NV (S - m))] [] [] [true, false, false] ?_ ?_
          · refine oc (g_ld 2 uN iN) ?_
            exact oc (g_st 0 iN) on
          intro u4 HB4 sz4 K4
          simp only [fX, nK, nP, Wr.f, aK, pM] at K4
          simp only [setG, setN, List.set_cons_zero, List.set_cons_succ]
          clear K3 HB3
          have c6_0 := ((K4.cv 0) 0 _ rfl).1
          have c6_1 := ((K4.cv 0) 1 _ rfl).1
          have c6_2 := ((K4.cv 0) 2 _ rfl).1
          have c6_3 := ((K4.cv 0) 3 _ rfl).1
          go_wp2
          refine bodyPost_ret (v := NV (S - m)) (by simp [results, Try.results106, go_sem, c6_0, c6_1, c6_2, c6_3]) rfl ⟨by rw [hx'.out], HB4⟩
        · have h4 : 115792089237316195423570985008687907853269984665640564039457584007913129639936 ≤ S := by omega
          have d4 : (D4 S == 0) = false := by unfold D4; simp; omega
          have K1_2 : Bk w.heap.size wr [(false, w.heap.size, LN a), (false, w.heap.size + 1, LN b), (true, w.heap.size + 1 + 1, L0s), (false, bo, LM (m) (cl)), (false, b1_0, L5 (S))] := ⟨.c (by omega) Ka <| .c (by omega) Kb <| .o (by omega) (K1.lo 2) Kr <| .c (by omega) Ko <| .c ls Ks <| trivial, by simp; omega⟩
          go_upto_region 9 with fail
          refine rgP K1_2 HBr HBr.size [] [(3, 10, L0s, some (4, LN S))] [(0, 48, .slice (some ⟨b1_0, 0, none⟩) 4 5), (1, 49, .pointer (some ⟨b1_0, 0, none⟩)), (2, 50, NV S)] [(4, 3)] [] [false, false] ?_ ?_
          · refine oc (g_sl (fun uZ => sl_five b1_0 uZ)) ?_
            refine oc (g_sp (fun uZ => ap_five b1_0 uZ)) ?_
            refine oc (g_ld 4 uN iN) ?_
            refine oc (g_al 0 aN) ?_
            exact oc (g_sn 0 iN) on
          intro u2 b2_3 HB2 sz2 K2
          simp only [fX, nK, nP, Wr.f, aK, pM] at K2
          simp only [setG, setN, List.set_cons_zero, List.set_cons_succ]
          go_upto_region 10 with fail
          refine rgD K2 HB2 HB2.size [] [(9, 11, L0s, some (10, LN (S - m)))] [(0, 52, NV S), (1, 53, .pointer (some ⟨bo, 0, none⟩)), (2, 54, .pointer (some ⟨bo, 0, none⟩)), (3, 55, .pointer (some ⟨bo, 0, none⟩)), (4, 56, NV m), (5, 57, .tuple #[NV (S - m), .bool true]), (6, 51, .tuple #[NV (S - m), .bool true]), (7, 58, NV (S - m)), (8, 59, .bool true), (11, 12, .bool true)] [(10, 9)] [] [true, false, true, false] ?_ ?_
          · refine oc (g_ld 3 uN iN) ?_
            refine oc g_mv ?_
            refine oc g_nl ?_
            refine oc (g_fd (fun uZ => fd_m bo uZ)) ?_
            refine oc (g_ld 1 uN iN) ?_
            refine oc (g_cl ent_limb_Sub (fun uZ => sub_c S m uZ hm hSl h4)) ?_
            refine oc g_mv ?_
            refine oc g_ex ?_
            refine oc g_ex ?_
            refine oc (g_al 0 aN) ?_
            refine oc (g_sn 0 iN) ?_
            exact oc g_as on
          intro u3 b3_9 HB3 sz3 K3
          simp only [fX, nK, nP, Wr.f, aK, pM] at K3
          simp only [setG, setN, List.set_cons_zero, List.set_cons_succ]
          clear K2 HB2
          have c4 := ((K3.cv 1) 4 _ rfl).1
          go_upto_region 13 with fail
          refine rgP K3 HB3 HB3.size [.all 1 (LN (S - m))] [] [(0, 67, NV (S - m))] [] [] [true, false, false] ?_ ?_
          · refine oc (g_ld 2 uN iN) ?_
            exact oc (g_st 0 iN) on
          intro u4 HB4 sz4 K4
          simp only [fX, nK, nP, Wr.f, aK, pM] at K4
          simp only [setG, setN, List.set_cons_zero, List.set_cons_succ]
          clear K3 HB3
          have c6_0 := ((K4.cv 0) 0 _ rfl).1
          have c6_1 := ((K4.cv 0) 1 _ rfl).1
          have c6_2 := ((K4.cv 0) 2 _ rfl).1
          have c6_3 := ((K4.cv 0) 3 _ rfl).1
          go_wp2
          refine bodyPost_ret (v := NV (S - m)) (by simp [results, Try.results106, go_sem, c6_0, c6_1, c6_2, c6_3]) rfl ⟨by rw [hx'.out], HB4⟩
end Go.Proofs.Ytkpnjmfndgfogaa
