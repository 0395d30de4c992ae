/- Numbers modulo one: product. -/
import Derived.Test.YtkpnjmfndgfogaaMO2
import Derived.Test.YtkpnjmfndgfogaaMM
import Derived.Test.YtkpnjmfndgfogaaRS
import Derived.Test.YtkpnjmfndgfogaaMA3
namespace Go.Proofs.Ytkpnjmfndgfogaa
open Go.RowKit
set_option linter.unusedVariables false
set_option linter.unusedSimpArgs false
abbrev LM (m c : Int) : List Value := [.int .u64 (D0 m), .int .u64 (D1 m), .int .u64 (D2 m), .int .u64 (D3 m), .int .u64 c]
theorem L5_0 : L05 = L5 0 := by simp [L5, D0, D1, D2, D3, D4]
theorem NV_lo (S : Int) : NV (S % 115792089237316195423570985008687907853269984665640564039457584007913129639936) = NV S := (LN_LW S).symm
theorem sub_a (S m : Int) (w : World) (h0 : 0 ≤ S) (hm : In m) (h : S < m) : Calls Try.prog 53 #[NV S, NV m] w fun e w' => e = .returned (.tuple #[NV (S - m + 115792089237316195423570985008687907853269984665640564039457584007913129639936), .bool true]) ∧ Below w.heap.size w w' :=
  nSub_lt S m w ⟨h0, by have := hm.2; omega⟩ hm h
theorem sub_b (S m : Int) (w : World) (hm : In m) (h : m ≤ S) (h1 : S < 115792089237316195423570985008687907853269984665640564039457584007913129639936) : Calls Try.prog 53 #[NV S, NV m] w fun e w' => e = .returned (.tuple #[NV (S - m), .bool false]) ∧ Below w.heap.size w w' :=
  nSub_ge S m w ⟨by have := hm.1; omega, h1⟩ hm h
theorem sub_c (S m : Int) (w : World) (hm : In m) (h : S < 2 * m) (h1 : 115792089237316195423570985008687907853269984665640564039457584007913129639936 ≤ S) : Calls Try.prog 53 #[NV S, NV m] w fun e w' => e = .returned (.tuple #[NV (S - m), .bool true]) ∧ Below w.heap.size w w' := by
  have hm2 := hm.2
  have k := nSub_lt (S - 115792089237316195423570985008687907853269984665640564039457584007913129639936) m w ⟨by omega, by omega⟩ hm (by omega)
  rw [NV_less S, show S - 115792089237316195423570985008687907853269984665640564039457584007913129639936 - m + 115792089237316195423570985008687907853269984665640564039457584007913129639936 = S - m by omega] at k
  exact k
set_option maxRecDepth 100000 in
set_option maxHeartbeats 8000000 in
theorem mprod (bo : Nat) (a b m cl x : Int) (w : World) (ha : In a) (hb : In b) (hm : In m) (ham : a < m) (ho : m % 2 = 1) (hcw : W64 cl) (hcl : 18446744073709551616 ∣ cl * D0 m + 1) (hx : IsMg a b m x) (Ko : CV w bo (LM m cl)) (lo : bo < w.heap.size) :
    Calls Try.prog 106 #[.pointer (some ⟨bo, 0, none⟩), NV a, NV b] w fun e w' => e = .returned (NV x) ∧ Below w.heap.size w w' := by
  have hm0 : 0 ≤ m := hm.1
  go_enter Try.func106, Try.ntmps106
  go_upto_region 1 with fail
  generalize hC : (((w.alloc (.cells (LN a : List Value).toArray 25)).alloc (.cells (LN b : List Value).toArray 25)).alloc (.cells (L0s : List Value).toArray 25)) = v0 at *
  have HB0 : Below w.heap.size w v0 := by rw [← hC]; exact (balloc (balloc (balloc (bself w) _) _) _)
  have K0p1 : CV v0 (w.heap.size) (LN a) := by rw [← hC]; exact (((CV.new w (LN a) 25).alloc (by simp <;> omega) _).alloc (by simp <;> omega) _)
  have l0p1 : w.heap.size < v0.heap.size := by rw [← hC]; simp <;> omega
  have K0p2 : CV v0 (w.heap.size + 1) (LN b) := by rw [← hC]; exact ((CV.newAt (w.alloc (.cells (LN a : List Value).toArray 25)) (LN b) 25 _ (by simp)).alloc (by simp <;> omega) _)
  have l0p2 : w.heap.size + 1 < v0.heap.size := by rw [← hC]; simp <;> omega
  have K0r6 : CV v0 (w.heap.size + 1 + 1) (L0s) := by rw [← hC]; exact (CV.newAt ((w.alloc (.cells (LN a : List Value).toArray 25)).alloc (.cells (LN b : List Value).toArray 25)) (L0s) 25 _ (by simp))
  have l0r6 : w.heap.size + 1 + 1 < v0.heap.size := by rw [← hC]; simp <;> omega
  clear hC
  have Ko0 : CV v0 bo (LM m cl) := Ko.below HB0 lo
  have lo0 : bo < v0.heap.size := Nat.lt_of_lt_of_le lo HB0.size
  clear Ko
  refine region_plain [7] (fun fZ tZ uZ => MR w.heap.size w (v0.heap.size) [(w.heap.size, LN a), (w.heap.size + 1, LN b), (w.heap.size + 1 + 1, L0s), (bo, LM (m) (cl))] [] [(fZ 0, false, tZ 7, L05, L05)] uZ ∧ Gs fZ tZ [] ∧ Os fZ [] ∧ Ns fZ tZ []) (by kernel_rfl) ?_ ?_ ?_
  · exact ⟨{ bel := HB0, lo := HB0.size, sz := Nat.le_refl _, ks := ⟨⟨l0p1, K0p1⟩, ⟨l0p2, K0p2⟩, ⟨l0r6, K0r6⟩, ⟨lo0, Ko0⟩, trivial⟩, ex := trivial, nw := ⟨fun e => (by cases e), trivial⟩, nd := ⟨fun e => (by cases e), trivial⟩ }, Gs.none _ _, Os.none _, trivial⟩
  · rintro fZ tZ uZ iZ oZ aZ hF ⟨hM, hG, hO, hN⟩ ho hfi hdep
    obtain ⟨hS, hV⟩ := hF.two 68 (by decide) rfl (by decide)
    cases cZ1 ho
    cases ho
    · exact t_alloc (al__5_uint64 uZ) hF hS rfl rfl rfl rfl (by decide) ⟨MR.newF 0 hM rfl hfi rfl, Gs.other rfl hG, trivial, Ns.step hN rfl⟩
  rintro fZ tZ u1 ⟨hM, hG, hO, hN⟩ hall
  obtain ⟨b1_0, ee7, pb1_0, lb1_0, kb1_0⟩ := hM.nw.1 (hall 0 (by decide))
  have e7 : tZ 7 = .pointer (some ⟨b1_0, 0, none⟩) := ee7
  clear ee7
  have Kb1_0 : CV u1 b1_0 (L05) := kb1_0
  clear kb1_0
  have HB1 : Below w.heap.size w u1 := hM.bel
  have sz1 : v0.heap.size ≤ u1.heap.size := hM.sz
  obtain ⟨⟨l1p1, K1p1⟩, ⟨l1p2, K1p2⟩, ⟨l1r6, K1r6⟩, ⟨l1o, K1o⟩, -⟩ := hM.ks.up hM.sz
  dsimp only at l1p1 K1p1 l1p2 K1p2 l1r6 K1r6 l1o K1o
  simp only [ovr, List.set_cons_zero, List.set_cons_succ, e7]
  clear hM hG hO hN hall e7 K0p1 K0p2 K0r6 Ko0 HB0
  clear tZ
  go_wp2_with fail
  go_loopw [13] (fun s13 wr => ∃ (k : Nat) (S : Int), k ≤ 4 ∧ s13 = .int .i64 k ∧ 0 ≤ S ∧ S < 2 * m ∧ Hid (m ∣ 18446744073709551616 ^ k * S - a * (b % 18446744073709551616 ^ k)) ∧ Below w.heap.size w wr ∧ CV wr (w.heap.size) (LN a) ∧ CV wr (w.heap.size + 1) (LN b) ∧ CV wr (w.heap.size + 1 + 1) L0s ∧ CV wr bo (LM (m) (cl)) ∧ CV wr b1_0 (L5 (S)) ∧ b1_0 < wr.heap.size) (fun s13 _ => 4 - (intOf s13).toNat)
  case atStart => exact ⟨0, 0, by omega, rfl, by omega, by omega, ⟨0, by simp⟩, HB1, K1p1, K1p2, K1r6, K1o, by rw [← L5_0]; exact Kb1_0, lb1_0⟩
  case round =>
    obtain ⟨k, S, hk, rfl, hS0, hSl, hI, HBr, Ka, Kb, Kr, Ko, Ks, ls⟩ := hrel
    clear HB1 K1p1 K1p2 K1r6 K1o Kb1_0
    by_cases hk4 : k < 4
    · have hk4' : (k : Int) < 4 := by omega
      have hdg := W_dgt b k
      have hsp := mS_spec S a (dgt b k) m cl hS0 hSl ha.1 ham hdg hm.2 hcl
      have hnx : Hid (m ∣ 18446744073709551616 ^ (k + 1) * mS S a (dgt b k) m cl - a * (b % 18446744073709551616 ^ (k + 1))) := mS_next S a b m cl k hsp.1 hI
      obtain ⟨_, hn0, hn1, hl5⟩ := hsp
      have kW := mK_W S a (dgt b k) cl
      have bb1 := mul_bd (x := a) (y := dgt b k) (X := m - 1) (Y := 18446744073709551615) ha.1 (by omega) hdg.1 (by have := hdg.2; omega)
      have bb2 := mul_bd (x := m) (y := mK S a (dgt b k) cl) (X := m) (Y := 18446744073709551615) hm.1 (Int.le_refl _) kW.1 (by have := kW.2; omega)
      have hm2 := hm.2
      have hS5 : S < 2135987035920910082395021706169552114602704522356652769947041607822219725780640550022962086936576 := by omega
      have hT0 : 0 ≤ (S + a * dgt b k) % 2135987035920910082395021706169552114602704522356652769947041607822219725780640550022962086936576 := Int.emod_nonneg _ (by decide)
      have hT1 : (S + a * dgt b k) % 2135987035920910082395021706169552114602704522356652769947041607822219725780640550022962086936576 < 2135987035920910082395021706169552114602704522356652769947041607822219725780640550022962086936576 := Int.emod_lt_of_pos _ (by decide)
      have Hl5 : Hid _ := hl5
      clear hl5 bb1 bb2
      obtain ⟨t1, ht1⟩ : ∃ t1, (S + a * dgt b k) % 2135987035920910082395021706169552114602704522356652769947041607822219725780640550022962086936576 = t1 := ⟨_, rfl⟩
      obtain ⟨c1, hc1⟩ : ∃ c1, (S + a * dgt b k) / 2135987035920910082395021706169552114602704522356652769947041607822219725780640550022962086936576 = c1 := ⟨_, rfl⟩
      obtain ⟨κ, hκ⟩ : ∃ κ, mK S a (dgt b k) cl = κ := ⟨_, rfl⟩
      obtain ⟨E1, hE1⟩ : ∃ E1, (t1 + m * κ) % 2135987035920910082395021706169552114602704522356652769947041607822219725780640550022962086936576 = E1 := ⟨_, rfl⟩
      obtain ⟨c2, hc2⟩ : ∃ c2, (t1 + m * κ) / 2135987035920910082395021706169552114602704522356652769947041607822219725780640550022962086936576 = c2 := ⟨_, rfl⟩
      have A1 : Hid (∀ u, b1_0 < u.heap.size → CV u b1_0 (L5 S) → CV u (w.heap.size) (LN a) → Calls Try.prog 112 #[.pointer (some ⟨b1_0, 0, none⟩), .pointer (some ⟨w.heap.size, 0, none⟩), .int .u64 (dgt b k)] u fun e u' => e = .returned (.int .u64 c1) ∧ Below b1_0 u u' ∧ CV u' b1_0 (L5 t1)) := fun u h1 h2 h3 => by
        rw [← ht1, ← hc1]; exact amul b1_0 (w.heap.size) S a (dgt b k) u hS0 hS5 ha hdg (by omega) h1 h2 h3
      have A2 : Hid (∀ u, b1_0 < u.heap.size → CV u b1_0 (L5 t1) → CV u bo (LN m) → Calls Try.prog 112 #[.pointer (some ⟨b1_0, 0, none⟩), .pointer (some ⟨bo, 0, none⟩), .int .u64 κ] u fun e u' => e = .returned (.int .u64 c2) ∧ Below b1_0 u u' ∧ CV u' b1_0 (L5 E1)) := fun u h1 h2 h3 => by
        rw [← hE1, ← hc2]; exact amul b1_0 bo t1 m κ u (by rw [← ht1]; exact hT0) (by rw [← ht1]; exact hT1) hm (by rw [← hκ]; exact kW) (by omega) h1 h2 h3
      have hmk : Hid (D0 t1 * cl % 18446744073709551616 = κ) := by rw [← hκ, ← ht1]; rfl
      rw [ht1, hc1, hκ, hE1, hc2] at Hl5
      clear ht1 hc1 hκ hE1 hc2 hT0 hT1 kW
      go_upto_region 4 with fail
      refine region_plain [15, 8] (fun fZ tZ uZ => MR w.heap.size w (wr.heap.size) [(w.heap.size, LN a), (w.heap.size + 1, LN b), (w.heap.size + 1 + 1, L0s), (bo, LM (m) (cl)), (b1_0, L5 (S))] [] [] uZ ∧ Gs fZ tZ [(0, 15, .int .i64 k), (1, 8, .int .i64 k)] ∧ Os fZ [] ∧ Ns fZ tZ []) (by kernel_rfl) ?_ ?_ ?_
      · exact ⟨{ bel := HBr, lo := HBr.size, sz := Nat.le_refl _, ks := ⟨⟨(by omega), Ka⟩, ⟨(by omega), Kb⟩, ⟨(by omega), Kr⟩, ⟨(by omega), Ko⟩, ⟨ls, Ks⟩, trivial⟩, ex := trivial, nw := trivial, nd := trivial }, Gs.none _ _, Os.none _, trivial⟩
      · rintro fZ tZ uZ iZ oZ aZ hF ⟨hM, hG, hO, hN⟩ ho hfi hdep
        obtain ⟨hS, hV⟩ := hF.two 68 (by decide) rfl (by decide)
        rcases cZ2 ho with rfl | rfl <;> cases ho
        · exact t_move (show aZ.eval (.tmp 13) = .int .i64 k from (hF.out 13 (by decide)).trans rfl) hF hS rfl rfl rfl rfl (by decide) (Jt hM hG hN)
        · exact t_assign (ve 15 hV (hG.1 (dd 0 hdep))) hF hS rfl rfl rfl rfl (by decide) (Jt hM hG hN)
      rintro fZ tZ u2 ⟨hM, hG, hO, hN⟩ hall
      obtain ⟨e15, e8, -⟩ := Gs.all 2 hall hG rfl
      have HB2 : Below w.heap.size w u2 := hM.bel
      have sz2 : wr.heap.size ≤ u2.heap.size := hM.sz
      obtain ⟨⟨l2p1, K2p1⟩, ⟨l2p2, K2p2⟩, ⟨l2r6, K2r6⟩, ⟨l2o, K2o⟩, ⟨l2n1_0, K2n1_0⟩, -⟩ := hM.ks.up hM.sz
      dsimp only at l2p1 K2p1 l2p2 K2p2 l2r6 K2r6 l2o K2o l2n1_0 K2n1_0
      simp only [ovr, List.set_cons_zero, List.set_cons_succ, e15, e8]
      clear hM hG hO hN hall e15 e8 Ka Kb Ko Kr Ks
      clear tZ
      go_upto_region 5 with fail
      refine region_plain [16, 17, 18, 19, 9] (fun fZ tZ uZ => MR w.heap.size w (u2.heap.size) [(w.heap.size, LN a), (w.heap.size + 1, LN b), (w.heap.size + 1 + 1, L0s), (bo, LM (m) (cl))] [(b1_0, fZ 3, L5 (S), L5 (t1))] [] uZ ∧ Gs fZ tZ [(0, 16, .int .i64 k), (1, 17, .pointer (some ⟨w.heap.size + 1, k, none⟩)), (2, 18, .int .u64 (dgt b k)), (3, 19, .int .u64 c1), (4, 9, .int .u64 c1)] ∧ Os fZ [] ∧ Ns fZ tZ []) (by kernel_rfl) ?_ ?_ ?_
      · exact ⟨{ bel := HB2, lo := HB2.size, sz := Nat.le_refl _, ks := ⟨⟨l2p1, K2p1⟩, ⟨l2p2, K2p2⟩, ⟨l2r6, K2r6⟩, ⟨l2o, K2o⟩, trivial⟩, ex := ⟨⟨(by omega), l2n1_0, rfl, K2n1_0⟩, trivial⟩, nw := trivial, nd := trivial }, Gs.none _ _, Os.none _, trivial⟩
      · rintro fZ tZ uZ iZ oZ aZ hF ⟨hM, hG, hO, hN⟩ ho hfi hdep
        obtain ⟨hS, hV⟩ := hF.two 68 (by decide) rfl (by decide)
        rcases cZ5 ho with rfl | rfl | rfl | rfl | rfl <;> cases ho
        · exact t_move (show aZ.eval (.tmp 8) = .int .i64 k from (hF.out 8 (by decide)).trans rfl) hF hS rfl rfl rfl rfl (by decide) (Jt hM hG hN)
        · refine op_plain rfl rfl (fun K hK => ?_)
          refine wp_index rfl (show aZ.eval (.tmp 5) = .pointer (some ⟨w.heap.size + 1, 0, none⟩) from (hF.out 5 (by decide)).trans rfl) (ve 16 hV (hG.1 (dd 0 hdep))) (ix_nat uZ (w.heap.size + 1) k (by omega)) ?_
          exact tell hK hF hS (by decide) (Jt hM hG hN)
        · refine op_plain rfl rfl (fun K hK => ?_)
          have kk : CV uZ (w.heap.size + 1) (LN b) := hM.ks.2.1.2
          have kc := (kk k _ (LN_at b k hk4)).1
          refine wp_load rfl (ve 17 hV (hG.2.1 (dd 1 hdep))) (ld_u64 uZ (w.heap.size + 1) k _ kc) ?_
          exact tell hK hF hS (by decide) (Jt hM hG hN)
        · refine op_plain rfl rfl (fun K hK => ?_)
          have kk : CV uZ (b1_0) (bif fZ 3 then L5 (t1) else L5 (S)) := hM.ex.1.2.2.2
          rw [hfi] at kk
          have kk : CV uZ (b1_0) (L5 (S)) := kk
          have lk : b1_0 < uZ.heap.size := Nat.lt_of_lt_of_le hM.ex.1.2.1 hM.sz
          have kkp1 : CV uZ (w.heap.size) (LN a) := hM.ks.1.2
          have kkp2 : CV uZ (w.heap.size + 1) (LN b) := hM.ks.2.1.2
          have kkr6 : CV uZ (w.heap.size + 1 + 1) (L0s) := hM.ks.2.2.1.2
          have kko : CV uZ (bo) (LM (m) (cl)) := hM.ks.2.2.2.1.2
          have h1 : MR w.heap.size w (u2.heap.size) [(w.heap.size, LN a), (w.heap.size + 1, LN b), (w.heap.size + 1 + 1, L0s), (bo, LM (m) (cl))] ([] ++ (b1_0, false, L5 (S), L5 (t1)) :: []) [] uZ := by
            have h1 := hM
            rw [hfi] at h1
            exact h1
          refine wp_callX rfl (vs := [.pointer (some ⟨b1_0, 0, none⟩), .pointer (some ⟨w.heap.size, 0, none⟩), .int .u64 (dgt b k)]) (by show [aZ.eval (.tmp 7), aZ.eval (.tmp 4), aZ.eval (.tmp 18)] = _; rw [(show aZ.eval (.tmp 7) = .pointer (some ⟨b1_0, 0, none⟩) from (hF.out 7 (by decide)).trans rfl), (show aZ.eval (.tmp 4) = .pointer (some ⟨w.heap.size, 0, none⟩) from (hF.out 4 (by decide)).trans rfl), (ve 18 hV (hG.2.2.1 (dd 2 hdep)))]) ent_mod_addMultiple (A1.out uZ lk kk kkp1) (fun vZ hB => ?_)
          have hM2 := MR.callX (l1 := []) h1 hB.1 hB.2 ⟨⟨by omega, kkp1⟩, ⟨by omega, kkp2⟩, ⟨by omega, kkr6⟩, ⟨by omega, kko⟩, trivial⟩ trivial trivial
          exact tell hK hF hS (by decide) (Jt (hM2) hG hN)
        · exact t_assign (ve 19 hV (hG.2.2.2.1 (dd 3 hdep))) hF hS rfl rfl rfl rfl (by decide) (Jt hM hG hN)
      rintro fZ tZ u3 ⟨hM, hG, hO, hN⟩ hall
      obtain ⟨e16, e17, e18, e19, e9, -⟩ := Gs.all 5 hall hG rfl
      have HB3 : Below w.heap.size w u3 := hM.bel
      have sz3 : u2.heap.size ≤ u3.heap.size := hM.sz
      obtain ⟨⟨l3p1, K3p1⟩, ⟨l3p2, K3p2⟩, ⟨l3r6, K3r6⟩, ⟨l3o, K3o⟩, -⟩ := hM.ks.up hM.sz
      dsimp only at l3p1 K3p1 l3p2 K3p2 l3r6 K3r6 l3o K3o
      have K3n1_0 : CV u3 (b1_0) (L5 (t1)) := by
        have h1 : CV u3 (b1_0) (bif fZ 3 then L5 (t1) else L5 (S)) := hM.ex.1.2.2.2
        rw [hall 3 (by decide)] at h1; exact h1
      have l3n1_0 : b1_0 < u3.heap.size := Nat.lt_of_lt_of_le hM.ex.1.2.1 hM.sz
      simp only [ovr, List.set_cons_zero, List.set_cons_succ, e16, e17, e18, e19, e9]
      clear hM hG hO hN hall e16 e17 e18 e19 e9 K2n1_0 K2o K2p1 K2p2 K2r6 HB2
      clear tZ
      go_upto_region 6 with fail
      refine region_drawn [20, 21, 22, 23, 24, 25, 26, 27, 28, 29, 30, 31, 32, 9] (fun fZ tZ uZ => MR w.heap.size w (u3.heap.size) [(w.heap.size, LN a), (w.heap.size + 1, LN b), (w.heap.size + 1 + 1, L0s), (bo, LM (m) (cl))] [(b1_0, fZ 11, L5 (t1), L5 (E1))] [] uZ ∧ Gs fZ tZ [(0, 20, .int .u64 c1), (1, 21, .pointer (some ⟨bo, 0, none⟩)), (2, 22, .pointer (some ⟨bo, 0, none⟩)), (3, 23, .pointer (some ⟨bo, 0, none⟩)), (4, 24, .pointer (some ⟨b1_0, 0, none⟩)), (5, 25, .int .u64 (D0 (t1))), (6, 26, .pointer (some ⟨bo, 0, none⟩)), (7, 27, .pointer (some ⟨bo, 0, none⟩)), (8, 28, .pointer (some ⟨bo, 4, none⟩)), (9, 29, .int .u64 (cl)), (10, 30, .int .u64 κ), (11, 31, .int .u64 c2), (12, 32, .int .u64 ((c1 + c2) % 18446744073709551616)), (13, 9, .int .u64 ((c1 + c2) % 18446744073709551616))] ∧ Os fZ [(11, 5), (13, 0), (10, 5)] ∧ Ns fZ tZ [(13, 9, .int .u64 c1)]) (by kernel_rfl) (by kernel_rfl) ?_ ?_ ?_
      · exact ⟨{ bel := HB3.drew, lo := HB3.size, sz := Nat.le_refl _, ks := ⟨⟨l3p1, K3p1⟩, ⟨l3p2, K3p2⟩, ⟨l3r6, K3r6⟩, ⟨l3o, K3o⟩, trivial⟩, ex := ⟨⟨(by omega), l3n1_0, rfl, K3n1_0⟩, trivial⟩, nw := trivial, nd := trivial }, Gs.none _ _, Os.none _, ⟨fun _ => rfl, trivial⟩⟩
      · rintro fZ tZ uZ iZ oZ aZ hF ⟨hM, hG, hO, hN⟩ ho hfi hdep
        obtain ⟨hS, hV⟩ := hF.two 68 (by decide) rfl (by decide)
        rcases cZ14 ho with rfl | rfl | rfl | rfl | rfl | rfl | rfl | rfl | rfl | rfl | rfl | rfl | rfl | rfl <;> cases ho
        · have yi9 : fZ 13 = false := Os.not (hO.2.1) hfi
          have ei9 : tZ 9 = .int .u64 c1 := hN.1 yi9
          exact t_move ((hV 9 (by decide)).trans ei9) hF hS rfl rfl rfl rfl (by decide) (Jm hM hG hO hN)
        · exact t_move (show aZ.eval (.tmp 0) = .pointer (some ⟨bo, 0, none⟩) from (hF.out 0 (by decide)).trans rfl) hF hS rfl rfl rfl rfl (by decide) (Jm hM hG hO hN)
        · refine op_plain rfl rfl (fun K hK => ?_)
          refine wp_nil rfl (ve 21 hV (hG.2.1 (dd 1 hdep))) ?_
          exact tell hK hF hS (by decide) (Jm hM hG hO hN)
        · refine op_plain rfl rfl (fun K hK => ?_)
          refine wp_field rfl (ve 22 hV (hG.2.2.1 (dd 2 hdep))) (fd_m bo uZ) ?_
          exact tell hK hF hS (by decide) (Jm hM hG hO hN)
        · refine op_plain rfl rfl (fun K hK => ?_)
          refine wp_index rfl (show aZ.eval (.tmp 7) = .pointer (some ⟨b1_0, 0, none⟩) from (hF.out 7 (by decide)).trans rfl) rfl (ix_five uZ (b1_0) 0 (by omega)) ?_
          exact tell hK hF hS (by decide) (Jm hM hG hO hN)
        · refine op_plain rfl rfl (fun K hK => ?_)
          have ys : fZ 11 = false := Os.not (hO.1) hfi
          have kk : CV uZ (b1_0) (bif fZ 11 then L5 (E1) else L5 (t1)) := hM.ex.1.2.2.2
          rw [ys] at kk
          have kk : CV uZ (b1_0) (L5 (t1)) := kk
          have kc := (kk 0 _ (rfl)).1
          refine wp_load rfl (ve 24 hV (hG.2.2.2.2.1 (dd 4 hdep))) (ld_u64 uZ (b1_0) 0 _ kc) ?_
          exact tell hK hF hS (by decide) (Jm hM hG hO hN)
        · exact t_move (show aZ.eval (.tmp 0) = .pointer (some ⟨bo, 0, none⟩) from (hF.out 0 (by decide)).trans rfl) hF hS rfl rfl rfl rfl (by decide) (Jm hM hG hO hN)
        · refine op_plain rfl rfl (fun K hK => ?_)
          refine wp_nil rfl (ve 26 hV (hG.2.2.2.2.2.2.1 (dd 6 hdep))) ?_
          exact tell hK hF hS (by decide) (Jm hM hG hO hN)
        · refine op_plain rfl rfl (fun K hK => ?_)
          refine wp_field rfl (ve 27 hV (hG.2.2.2.2.2.2.2.1 (dd 7 hdep))) (fd_c bo uZ) ?_
          exact tell hK hF hS (by decide) (Jm hM hG hO hN)
        · refine op_plain rfl rfl (fun K hK => ?_)
          have kk : CV uZ (bo) (LM (m) (cl)) := hM.ks.2.2.2.1.2
          have kc := (kk 4 _ (rfl)).1
          refine wp_load rfl (ve 28 hV (hG.2.2.2.2.2.2.2.2.1 (dd 8 hdep))) (ld_u64 uZ (bo) 4 _ kc) ?_
          exact tell hK hF hS (by decide) (Jm hM hG hO hN)
        · refine op_plain rfl rfl (fun K hK => ?_)
          refine wp_bin rfl (ve 25 hV (hG.2.2.2.2.2.1 (dd 5 hdep))) (ve 29 hV (hG.2.2.2.2.2.2.2.2.2.1 (dd 9 hdep))) (mul_u _ _ (D0 t1) cl κ uZ hmk.out) ?_
          exact tell hK hF hS (by decide) ⟨hM, Gs.stepA hG rfl rfl, ⟨hO.1, hO.2.1, fun _ => (dd 5 hdep :), trivial⟩, Ns.step hN rfl⟩
        · refine op_plain rfl rfl (fun K hK => ?_)
          have kk : CV uZ (b1_0) (bif fZ 11 then L5 (E1) else L5 (t1)) := hM.ex.1.2.2.2
          rw [hfi] at kk
          have kk : CV uZ (b1_0) (L5 (t1)) := kk
          have lk : b1_0 < uZ.heap.size := Nat.lt_of_lt_of_le hM.ex.1.2.1 hM.sz
          have kkp1 : CV uZ (w.heap.size) (LN a) := hM.ks.1.2
          have kkp2 : CV uZ (w.heap.size + 1) (LN b) := hM.ks.2.1.2
          have kkr6 : CV uZ (w.heap.size + 1 + 1) (L0s) := hM.ks.2.2.1.2
          have kko : CV uZ (bo) (LM (m) (cl)) := hM.ks.2.2.2.1.2
          have h1 : MR w.heap.size w (u3.heap.size) [(w.heap.size, LN a), (w.heap.size + 1, LN b), (w.heap.size + 1 + 1, L0s), (bo, LM (m) (cl))] ([] ++ (b1_0, false, L5 (t1), L5 (E1)) :: []) [] uZ := by
            have h1 := hM
            rw [hfi] at h1
            exact h1
          refine wp_callX rfl (vs := [.pointer (some ⟨b1_0, 0, none⟩), .pointer (some ⟨bo, 0, none⟩), .int .u64 κ]) (by show [aZ.eval (.tmp 7), aZ.eval (.tmp 23), aZ.eval (.tmp 30)] = _; rw [(show aZ.eval (.tmp 7) = .pointer (some ⟨b1_0, 0, none⟩) from (hF.out 7 (by decide)).trans rfl), (ve 23 hV (hG.2.2.2.1 (dd 3 hdep))), (ve 30 hV (hG.2.2.2.2.2.2.2.2.2.2.1 (dd 10 hdep)))]) ent_mod_addMultiple (A2.out uZ lk kk (CV.pre (r := [.int .u64 cl]) kko)) (fun vZ hB => ?_)
          have hM2 := MR.callX (l1 := []) h1 hB.1 hB.2 ⟨⟨by omega, kkp1⟩, ⟨by omega, kkp2⟩, ⟨by omega, kkr6⟩, ⟨by omega, kko⟩, trivial⟩ trivial trivial
          exact tell hK hF hS (by decide) ⟨hM2, Gs.stepA hG rfl rfl, ⟨fun _ => hO.2.2.1 (dd 10 hdep), hO.2.1, hO.2.2.1, trivial⟩, Ns.step hN rfl⟩
        · refine op_plain rfl rfl (fun K hK => ?_)
          refine wp_bin rfl (ve 20 hV (hG.1 (dd 0 hdep))) (ve 31 hV (hG.2.2.2.2.2.2.2.2.2.2.2.1 (dd 11 hdep))) (add_u _ _ c1 c2 ((c1 + c2) % 18446744073709551616) uZ rfl) ?_
          exact tell hK hF hS (by decide) (Jm hM hG hO hN)
        · exact t_assign (ve 32 hV (hG.2.2.2.2.2.2.2.2.2.2.2.2.1 (dd 12 hdep))) hF hS rfl rfl rfl rfl (by decide) ⟨hM, Gs.stepA hG rfl rfl, ⟨hO.1, fun _ => hdep ⟨0, .phase⟩ (by simp) rfl, hO.2.2.1, trivial⟩, Ns.step hN rfl⟩
      rintro fZ tZ u4 ⟨hM, hG, hO, hN⟩ hall
      obtain ⟨e20, e21, e22, e23, e24, e25, e26, e27, e28, e29, e30, e31, e32, e9, -⟩ := Gs.all 14 hall hG rfl
      have HB4 : Below w.heap.size w u4 := hM.bel
      have sz4 : u3.heap.size ≤ u4.heap.size := hM.sz
      obtain ⟨⟨l4p1, K4p1⟩, ⟨l4p2, K4p2⟩, ⟨l4r6, K4r6⟩, ⟨l4o, K4o⟩, -⟩ := hM.ks.up hM.sz
      dsimp only at l4p1 K4p1 l4p2 K4p2 l4r6 K4r6 l4o K4o
      have K4n1_0 : CV u4 (b1_0) (L5 (E1)) := by
        have h1 : CV u4 (b1_0) (bif fZ 11 then L5 (E1) else L5 (t1)) := hM.ex.1.2.2.2
        rw [hall 11 (by decide)] at h1; exact h1
      have l4n1_0 : b1_0 < u4.heap.size := Nat.lt_of_lt_of_le hM.ex.1.2.1 hM.sz
      simp only [ovr, List.set_cons_zero, List.set_cons_succ, e20, e21, e22, e23, e24, e25, e26, e27, e28, e29, e30, e31, e32, e9]
      clear hM hG hO hN hall e20 e21 e22 e23 e24 e25 e26 e27 e28 e29 e30 e31 e32 e9 K3n1_0 K3o K3p1 K3p2 K3r6 HB3
      clear tZ
      go_upto_region 7 with fail
      refine region_plain [33, 34, 35, 36, 37, 38, 39, 40, 41, 42, 43, 44, 45, 46] (fun fZ tZ uZ => MR w.heap.size w (u4.heap.size) [(w.heap.size, LN a), (w.heap.size + 1, LN b), (w.heap.size + 1 + 1, L0s), (bo, LM (m) (cl)), (b1_0, [bif fZ 10 then .int .u64 (D1 (E1)) else .int .u64 (D0 (E1)), bif fZ 12 then .int .u64 (D2 (E1)) else .int .u64 (D1 (E1)), bif fZ 14 then .int .u64 (D3 (E1)) else .int .u64 (D2 (E1)), bif fZ 16 then .int .u64 (D4 (E1)) else .int .u64 (D3 (E1)), bif fZ 18 then .int .u64 ((c1 + c2) % 18446744073709551616) else .int .u64 (D4 (E1))])] [] [] uZ ∧ Gs fZ tZ [(0, 33, .pointer (some ⟨b1_0, 1, none⟩)), (1, 34, .int .u64 (D1 (E1))), (2, 35, .pointer (some ⟨b1_0, 2, none⟩)), (3, 36, .int .u64 (D2 (E1))), (4, 37, .pointer (some ⟨b1_0, 3, none⟩)), (5, 38, .int .u64 (D3 (E1))), (6, 39, .pointer (some ⟨b1_0, 4, none⟩)), (7, 40, .int .u64 (D4 (E1))), (8, 41, .int .u64 ((c1 + c2) % 18446744073709551616)), (9, 42, .pointer (some ⟨b1_0, 0, none⟩)), (11, 43, .pointer (some ⟨b1_0, 1, none⟩)), (13, 44, .pointer (some ⟨b1_0, 2, none⟩)), (15, 45, .pointer (some ⟨b1_0, 3, none⟩)), (17, 46, .pointer (some ⟨b1_0, 4, none⟩))] ∧ Os fZ [(12, 1), (14, 3), (16, 5), (18, 7)] ∧ Ns fZ tZ []) (by kernel_rfl) ?_ ?_ ?_
      · exact ⟨{ bel := HB4, lo := HB4.size, sz := Nat.le_refl _, ks := ⟨⟨l4p1, K4p1⟩, ⟨l4p2, K4p2⟩, ⟨l4r6, K4r6⟩, ⟨l4o, K4o⟩, ⟨l4n1_0, K4n1_0⟩, trivial⟩, ex := trivial, nw := trivial, nd := trivial }, Gs.none _ _, Os.none _, trivial⟩
      · rintro fZ tZ uZ iZ oZ aZ hF ⟨hM, hG, hO, hN⟩ ho hfi hdep
        obtain ⟨hS, hV⟩ := hF.two 68 (by decide) rfl (by decide)
        rcases cZ19 ho with rfl | rfl | rfl | rfl | rfl | rfl | rfl | rfl | rfl | rfl | rfl | rfl | rfl | rfl | rfl | rfl | rfl | rfl | rfl <;> cases ho
        · refine op_plain rfl rfl (fun K hK => ?_)
          refine wp_index rfl (show aZ.eval (.tmp 7) = .pointer (some ⟨b1_0, 0, none⟩) from (hF.out 7 (by decide)).trans rfl) rfl (ix_five uZ (b1_0) 1 (by omega)) ?_
          exact tell hK hF hS (by decide) (Jm hM hG hO hN)
        · refine op_plain rfl rfl (fun K hK => ?_)
          have kk : CV uZ (b1_0) ([bif fZ 10 then .int .u64 (D1 (E1)) else .int .u64 (D0 (E1)), bif fZ 12 then .int .u64 (D2 (E1)) else .int .u64 (D1 (E1)), bif fZ 14 then .int .u64 (D3 (E1)) else .int .u64 (D2 (E1)), bif fZ 16 then .int .u64 (D4 (E1)) else .int .u64 (D3 (E1)), bif fZ 18 then .int .u64 ((c1 + c2) % 18446744073709551616) else .int .u64 (D4 (E1))]) := hM.ks.2.2.2.2.1.2
          have ys : fZ 12 = false := Os.not (hO.1) hfi
          have kc := (kk 1 _ (rfl)).1
          simp only [ys, cond_false] at kc
          refine wp_load rfl (ve 33 hV (hG.1 (dd 0 hdep))) (ld_u64 uZ (b1_0) 1 _ kc) ?_
          exact tell hK hF hS (by decide) (Jm hM hG hO hN)
        · refine op_plain rfl rfl (fun K hK => ?_)
          refine wp_index rfl (show aZ.eval (.tmp 7) = .pointer (some ⟨b1_0, 0, none⟩) from (hF.out 7 (by decide)).trans rfl) rfl (ix_five uZ (b1_0) 2 (by omega)) ?_
          exact tell hK hF hS (by decide) (Jm hM hG hO hN)
        · refine op_plain rfl rfl (fun K hK => ?_)
          have kk : CV uZ (b1_0) ([bif fZ 10 then .int .u64 (D1 (E1)) else .int .u64 (D0 (E1)), bif fZ 12 then .int .u64 (D2 (E1)) else .int .u64 (D1 (E1)), bif fZ 14 then .int .u64 (D3 (E1)) else .int .u64 (D2 (E1)), bif fZ 16 then .int .u64 (D4 (E1)) else .int .u64 (D3 (E1)), bif fZ 18 then .int .u64 ((c1 + c2) % 18446744073709551616) else .int .u64 (D4 (E1))]) := hM.ks.2.2.2.2.1.2
          have ys : fZ 14 = false := Os.not (hO.2.1) hfi
          have kc := (kk 2 _ (rfl)).1
          simp only [ys, cond_false] at kc
          refine wp_load rfl (ve 35 hV (hG.2.2.1 (dd 2 hdep))) (ld_u64 uZ (b1_0) 2 _ kc) ?_
          exact tell hK hF hS (by decide) (Jm hM hG hO hN)
        · refine op_plain rfl rfl (fun K hK => ?_)
          refine wp_index rfl (show aZ.eval (.tmp 7) = .pointer (some ⟨b1_0, 0, none⟩) from (hF.out 7 (by decide)).trans rfl) rfl (ix_five uZ (b1_0) 3 (by omega)) ?_
          exact tell hK hF hS (by decide) (Jm hM hG hO hN)
        · refine op_plain rfl rfl (fun K hK => ?_)
          have kk : CV uZ (b1_0) ([bif fZ 10 then .int .u64 (D1 (E1)) else .int .u64 (D0 (E1)), bif fZ 12 then .int .u64 (D2 (E1)) else .int .u64 (D1 (E1)), bif fZ 14 then .int .u64 (D3 (E1)) else .int .u64 (D2 (E1)), bif fZ 16 then .int .u64 (D4 (E1)) else .int .u64 (D3 (E1)), bif fZ 18 then .int .u64 ((c1 + c2) % 18446744073709551616) else .int .u64 (D4 (E1))]) := hM.ks.2.2.2.2.1.2
          have ys : fZ 16 = false := Os.not (hO.2.2.1) hfi
          have kc := (kk 3 _ (rfl)).1
          simp only [ys, cond_false] at kc
          refine wp_load rfl (ve 37 hV (hG.2.2.2.2.1 (dd 4 hdep))) (ld_u64 uZ (b1_0) 3 _ kc) ?_
          exact tell hK hF hS (by decide) (Jm hM hG hO hN)
        · refine op_plain rfl rfl (fun K hK => ?_)
          refine wp_index rfl (show aZ.eval (.tmp 7) = .pointer (some ⟨b1_0, 0, none⟩) from (hF.out 7 (by decide)).trans rfl) rfl (ix_five uZ (b1_0) 4 (by omega)) ?_
          exact tell hK hF hS (by decide) (Jm hM hG hO hN)
        · refine op_plain rfl rfl (fun K hK => ?_)
          have kk : CV uZ (b1_0) ([bif fZ 10 then .int .u64 (D1 (E1)) else .int .u64 (D0 (E1)), bif fZ 12 then .int .u64 (D2 (E1)) else .int .u64 (D1 (E1)), bif fZ 14 then .int .u64 (D3 (E1)) else .int .u64 (D2 (E1)), bif fZ 16 then .int .u64 (D4 (E1)) else .int .u64 (D3 (E1)), bif fZ 18 then .int .u64 ((c1 + c2) % 18446744073709551616) else .int .u64 (D4 (E1))]) := hM.ks.2.2.2.2.1.2
          have ys : fZ 18 = false := Os.not (hO.2.2.2.1) hfi
          have kc := (kk 4 _ (rfl)).1
          simp only [ys, cond_false] at kc
          refine wp_load rfl (ve 39 hV (hG.2.2.2.2.2.2.1 (dd 6 hdep))) (ld_u64 uZ (b1_0) 4 _ kc) ?_
          exact tell hK hF hS (by decide) (Jm hM hG hO hN)
        · exact t_move (show aZ.eval (.tmp 9) = .int .u64 ((c1 + c2) % 18446744073709551616) from (hF.out 9 (by decide)).trans rfl) hF hS rfl rfl rfl rfl (by decide) (Jm hM hG hO hN)
        · refine op_plain rfl rfl (fun K hK => ?_)
          refine wp_index rfl (show aZ.eval (.tmp 7) = .pointer (some ⟨b1_0, 0, none⟩) from (hF.out 7 (by decide)).trans rfl) rfl (ix_five uZ (b1_0) 0 (by omega)) ?_
          exact tell hK hF hS (by decide) (Jm hM hG hO hN)
        · refine op_plain rfl rfl (fun K hK => ?_)
          have kk : CV uZ (b1_0) ([bif fZ 10 then .int .u64 (D1 (E1)) else .int .u64 (D0 (E1)), bif fZ 12 then .int .u64 (D2 (E1)) else .int .u64 (D1 (E1)), bif fZ 14 then .int .u64 (D3 (E1)) else .int .u64 (D2 (E1)), bif fZ 16 then .int .u64 (D4 (E1)) else .int .u64 (D3 (E1)), bif fZ 18 then .int .u64 ((c1 + c2) % 18446744073709551616) else .int .u64 (D4 (E1))]) := hM.ks.2.2.2.2.1.2
          have kc := kk 0 _ rfl
          simp only [hfi, cond_false] at kc
          refine wp_store rfl (ve 42 hV (hG.2.2.2.2.2.2.2.2.2.1 (dd 9 hdep))) (ve 34 hV (hG.2.1 (dd 1 hdep))) (st_u64 uZ (b1_0) 0 _ _ kc.1 kc.2) ?_
          have hM2 := MR.putK (k := 0) (x := .int .u64 (D1 (E1))) (l := [bif fZ 10 then .int .u64 (D1 (E1)) else .int .u64 (D0 (E1)), bif fZ 12 then .int .u64 (D2 (E1)) else .int .u64 (D1 (E1)), bif fZ 14 then .int .u64 (D3 (E1)) else .int .u64 (D2 (E1)), bif fZ 16 then .int .u64 (D4 (E1)) else .int .u64 (D3 (E1)), bif fZ 18 then .int .u64 ((c1 + c2) % 18446744073709551616) else .int .u64 (D4 (E1))]) (k1 := [(w.heap.size, LN a), (w.heap.size + 1, LN b), (w.heap.size + 1 + 1, L0s), (bo, LM (m) (cl))]) hM (show 0 < 5 by decide) (by omega) ⟨by omega, by omega, by omega, by omega, trivial⟩ trivial trivial
          exact tell0 hK hF ⟨hM2, Gs.idle rfl hG, hO.keep rfl, Ns.idle hN⟩
        · refine op_plain rfl rfl (fun K hK => ?_)
          refine wp_index rfl (show aZ.eval (.tmp 7) = .pointer (some ⟨b1_0, 0, none⟩) from (hF.out 7 (by decide)).trans rfl) rfl (ix_five uZ (b1_0) 1 (by omega)) ?_
          exact tell hK hF hS (by decide) (Jm hM hG hO hN)
        · refine op_plain rfl rfl (fun K hK => ?_)
          have kk : CV uZ (b1_0) ([bif fZ 10 then .int .u64 (D1 (E1)) else .int .u64 (D0 (E1)), bif fZ 12 then .int .u64 (D2 (E1)) else .int .u64 (D1 (E1)), bif fZ 14 then .int .u64 (D3 (E1)) else .int .u64 (D2 (E1)), bif fZ 16 then .int .u64 (D4 (E1)) else .int .u64 (D3 (E1)), bif fZ 18 then .int .u64 ((c1 + c2) % 18446744073709551616) else .int .u64 (D4 (E1))]) := hM.ks.2.2.2.2.1.2
          have kc := kk 1 _ rfl
          simp only [hfi, cond_false] at kc
          refine wp_store rfl (ve 43 hV (hG.2.2.2.2.2.2.2.2.2.2.1 (dd 11 hdep))) (ve 36 hV (hG.2.2.2.1 (dd 3 hdep))) (st_u64 uZ (b1_0) 1 _ _ kc.1 kc.2) ?_
          have hM2 := MR.putK (k := 1) (x := .int .u64 (D2 (E1))) (l := [bif fZ 10 then .int .u64 (D1 (E1)) else .int .u64 (D0 (E1)), bif fZ 12 then .int .u64 (D2 (E1)) else .int .u64 (D1 (E1)), bif fZ 14 then .int .u64 (D3 (E1)) else .int .u64 (D2 (E1)), bif fZ 16 then .int .u64 (D4 (E1)) else .int .u64 (D3 (E1)), bif fZ 18 then .int .u64 ((c1 + c2) % 18446744073709551616) else .int .u64 (D4 (E1))]) (k1 := [(w.heap.size, LN a), (w.heap.size + 1, LN b), (w.heap.size + 1 + 1, L0s), (bo, LM (m) (cl))]) hM (show 1 < 5 by decide) (by omega) ⟨by omega, by omega, by omega, by omega, trivial⟩ trivial trivial
          exact tell0 hK hF ⟨hM2, Gs.idle rfl hG, ⟨fun _ => hdep ⟨1, .phase⟩ (by simp) rfl, hO.2.1, hO.2.2.1, hO.2.2.2.1, trivial⟩, Ns.idle hN⟩
        · refine op_plain rfl rfl (fun K hK => ?_)
          refine wp_index rfl (show aZ.eval (.tmp 7) = .pointer (some ⟨b1_0, 0, none⟩) from (hF.out 7 (by decide)).trans rfl) rfl (ix_five uZ (b1_0) 2 (by omega)) ?_
          exact tell hK hF hS (by decide) (Jm hM hG hO hN)
        · refine op_plain rfl rfl (fun K hK => ?_)
          have kk : CV uZ (b1_0) ([bif fZ 10 then .int .u64 (D1 (E1)) else .int .u64 (D0 (E1)), bif fZ 12 then .int .u64 (D2 (E1)) else .int .u64 (D1 (E1)), bif fZ 14 then .int .u64 (D3 (E1)) else .int .u64 (D2 (E1)), bif fZ 16 then .int .u64 (D4 (E1)) else .int .u64 (D3 (E1)), bif fZ 18 then .int .u64 ((c1 + c2) % 18446744073709551616) else .int .u64 (D4 (E1))]) := hM.ks.2.2.2.2.1.2
          have kc := kk 2 _ rfl
          simp only [hfi, cond_false] at kc
          refine wp_store rfl (ve 44 hV (hG.2.2.2.2.2.2.2.2.2.2.2.1 (dd 13 hdep))) (ve 38 hV (hG.2.2.2.2.2.1 (dd 5 hdep))) (st_u64 uZ (b1_0) 2 _ _ kc.1 kc.2) ?_
          have hM2 := MR.putK (k := 2) (x := .int .u64 (D3 (E1))) (l := [bif fZ 10 then .int .u64 (D1 (E1)) else .int .u64 (D0 (E1)), bif fZ 12 then .int .u64 (D2 (E1)) else .int .u64 (D1 (E1)), bif fZ 14 then .int .u64 (D3 (E1)) else .int .u64 (D2 (E1)), bif fZ 16 then .int .u64 (D4 (E1)) else .int .u64 (D3 (E1)), bif fZ 18 then .int .u64 ((c1 + c2) % 18446744073709551616) else .int .u64 (D4 (E1))]) (k1 := [(w.heap.size, LN a), (w.heap.size + 1, LN b), (w.heap.size + 1 + 1, L0s), (bo, LM (m) (cl))]) hM (show 2 < 5 by decide) (by omega) ⟨by omega, by omega, by omega, by omega, trivial⟩ trivial trivial
          exact tell0 hK hF ⟨hM2, Gs.idle rfl hG, ⟨hO.1, fun _ => hdep ⟨3, .phase⟩ (by simp) rfl, hO.2.2.1, hO.2.2.2.1, trivial⟩, Ns.idle hN⟩
        · refine op_plain rfl rfl (fun K hK => ?_)
          refine wp_index rfl (show aZ.eval (.tmp 7) = .pointer (some ⟨b1_0, 0, none⟩) from (hF.out 7 (by decide)).trans rfl) rfl (ix_five uZ (b1_0) 3 (by omega)) ?_
          exact tell hK hF hS (by decide) (Jm hM hG hO hN)
        · refine op_plain rfl rfl (fun K hK => ?_)
          have kk : CV uZ (b1_0) ([bif fZ 10 then .int .u64 (D1 (E1)) else .int .u64 (D0 (E1)), bif fZ 12 then .int .u64 (D2 (E1)) else .int .u64 (D1 (E1)), bif fZ 14 then .int .u64 (D3 (E1)) else .int .u64 (D2 (E1)), bif fZ 16 then .int .u64 (D4 (E1)) else .int .u64 (D3 (E1)), bif fZ 18 then .int .u64 ((c1 + c2) % 18446744073709551616) else .int .u64 (D4 (E1))]) := hM.ks.2.2.2.2.1.2
          have kc := kk 3 _ rfl
          simp only [hfi, cond_false] at kc
          refine wp_store rfl (ve 45 hV (hG.2.2.2.2.2.2.2.2.2.2.2.2.1 (dd 15 hdep))) (ve 40 hV (hG.2.2.2.2.2.2.2.1 (dd 7 hdep))) (st_u64 uZ (b1_0) 3 _ _ kc.1 kc.2) ?_
          have hM2 := MR.putK (k := 3) (x := .int .u64 (D4 (E1))) (l := [bif fZ 10 then .int .u64 (D1 (E1)) else .int .u64 (D0 (E1)), bif fZ 12 then .int .u64 (D2 (E1)) else .int .u64 (D1 (E1)), bif fZ 14 then .int .u64 (D3 (E1)) else .int .u64 (D2 (E1)), bif fZ 16 then .int .u64 (D4 (E1)) else .int .u64 (D3 (E1)), bif fZ 18 then .int .u64 ((c1 + c2) % 18446744073709551616) else .int .u64 (D4 (E1))]) (k1 := [(w.heap.size, LN a), (w.heap.size + 1, LN b), (w.heap.size + 1 + 1, L0s), (bo, LM (m) (cl))]) hM (show 3 < 5 by decide) (by omega) ⟨by omega, by omega, by omega, by omega, trivial⟩ trivial trivial
          exact tell0 hK hF ⟨hM2, Gs.idle rfl hG, ⟨hO.1, hO.2.1, fun _ => hdep ⟨5, .phase⟩ (by simp) rfl, hO.2.2.2.1, trivial⟩, Ns.idle hN⟩
        · refine op_plain rfl rfl (fun K hK => ?_)
          refine wp_index rfl (show aZ.eval (.tmp 7) = .pointer (some ⟨b1_0, 0, none⟩) from (hF.out 7 (by decide)).trans rfl) rfl (ix_five uZ (b1_0) 4 (by omega)) ?_
          exact tell hK hF hS (by decide) (Jm hM hG hO hN)
        · refine op_plain rfl rfl (fun K hK => ?_)
          have kk : CV uZ (b1_0) ([bif fZ 10 then .int .u64 (D1 (E1)) else .int .u64 (D0 (E1)), bif fZ 12 then .int .u64 (D2 (E1)) else .int .u64 (D1 (E1)), bif fZ 14 then .int .u64 (D3 (E1)) else .int .u64 (D2 (E1)), bif fZ 16 then .int .u64 (D4 (E1)) else .int .u64 (D3 (E1)), bif fZ 18 then .int .u64 ((c1 + c2) % 18446744073709551616) else .int .u64 (D4 (E1))]) := hM.ks.2.2.2.2.1.2
          have kc := kk 4 _ rfl
          simp only [hfi, cond_false] at kc
          refine wp_store rfl (ve 46 hV (hG.2.2.2.2.2.2.2.2.2.2.2.2.2.1 (dd 17 hdep))) (ve 41 hV (hG.2.2.2.2.2.2.2.2.1 (dd 8 hdep))) (st_u64 uZ (b1_0) 4 _ _ kc.1 kc.2) ?_
          have hM2 := MR.putK (k := 4) (x := .int .u64 ((c1 + c2) % 18446744073709551616)) (l := [bif fZ 10 then .int .u64 (D1 (E1)) else .int .u64 (D0 (E1)), bif fZ 12 then .int .u64 (D2 (E1)) else .int .u64 (D1 (E1)), bif fZ 14 then .int .u64 (D3 (E1)) else .int .u64 (D2 (E1)), bif fZ 16 then .int .u64 (D4 (E1)) else .int .u64 (D3 (E1)), bif fZ 18 then .int .u64 ((c1 + c2) % 18446744073709551616) else .int .u64 (D4 (E1))]) (k1 := [(w.heap.size, LN a), (w.heap.size + 1, LN b), (w.heap.size + 1 + 1, L0s), (bo, LM (m) (cl))]) hM (show 4 < 5 by decide) (by omega) ⟨by omega, by omega, by omega, by omega, trivial⟩ trivial trivial
          exact tell0 hK hF ⟨hM2, Gs.idle rfl hG, ⟨hO.1, hO.2.1, hO.2.2.1, fun _ => hdep ⟨7, .phase⟩ (by simp) rfl, trivial⟩, Ns.idle hN⟩
      rintro fZ tZ u5 ⟨hM, hG, hO, hN⟩ hall
      obtain ⟨e33, e34, e35, e36, e37, e38, e39, e40, e41, e42, e43, e44, e45, e46, -⟩ := Gs.all 19 hall hG rfl
      have HB5 : Below w.heap.size w u5 := hM.bel
      have sz5 : u4.heap.size ≤ u5.heap.size := hM.sz
      obtain ⟨⟨l5p1, K5p1⟩, ⟨l5p2, K5p2⟩, ⟨l5r6, K5r6⟩, ⟨l5o, K5o⟩, -, -⟩ := hM.ks.up hM.sz
      dsimp only at l5p1 K5p1 l5p2 K5p2 l5r6 K5r6 l5o K5o
      have K5n1_0 : CV u5 (b1_0) ([.int .u64 (D1 (E1)), .int .u64 (D2 (E1)), .int .u64 (D3 (E1)), .int .u64 (D4 (E1)), .int .u64 ((c1 + c2) % 18446744073709551616)]) := by
        have h1 : CV u5 (b1_0) ([bif fZ 10 then .int .u64 (D1 (E1)) else .int .u64 (D0 (E1)), bif fZ 12 then .int .u64 (D2 (E1)) else .int .u64 (D1 (E1)), bif fZ 14 then .int .u64 (D3 (E1)) else .int .u64 (D2 (E1)), bif fZ 16 then .int .u64 (D4 (E1)) else .int .u64 (D3 (E1)), bif fZ 18 then .int .u64 ((c1 + c2) % 18446744073709551616) else .int .u64 (D4 (E1))]) := hM.ks.2.2.2.2.1.2
        rw [hall 10 (by decide), hall 12 (by decide), hall 14 (by decide), hall 16 (by decide), hall 18 (by decide)] at h1; exact h1
      have l5n1_0 : b1_0 < u5.heap.size := Nat.lt_of_lt_of_le hM.ks.2.2.2.2.1.1 hM.sz
      simp only [ovr, List.set_cons_zero, List.set_cons_succ, e33, e34, e35, e36, e37, e38, e39, e40, e41, e42, e43, e44, e45, e46]
      clear hM hG hO hN hall e33 e34 e35 e36 e37 e38 e39 e40 e41 e42 e43 e44 e45 e46 K4n1_0 K4o K4p1 K4p2 K4r6 HB4
      clear tZ
      go_upto_region 8 with fail
      refine region_plain [47, 13] (fun fZ tZ uZ => MR w.heap.size w (u5.heap.size) [(w.heap.size, LN a), (w.heap.size + 1, LN b), (w.heap.size + 1 + 1, L0s), (bo, LM (m) (cl)), (b1_0, [.int .u64 (D1 (E1)), .int .u64 (D2 (E1)), .int .u64 (D3 (E1)), .int .u64 (D4 (E1)), .int .u64 ((c1 + c2) % 18446744073709551616)])] [] [] uZ ∧ Gs fZ tZ [(0, 47, .int .i64 ((k + 1 : Nat) : Int)), (1, 13, .int .i64 ((k + 1 : Nat) : Int))] ∧ Os fZ [(1, 0)] ∧ Ns fZ tZ [(1, 13, .int .i64 k)]) (by kernel_rfl) ?_ ?_ ?_
      · exact ⟨{ bel := HB5, lo := HB5.size, sz := Nat.le_refl _, ks := ⟨⟨l5p1, K5p1⟩, ⟨l5p2, K5p2⟩, ⟨l5r6, K5r6⟩, ⟨l5o, K5o⟩, ⟨l5n1_0, K5n1_0⟩, trivial⟩, ex := trivial, nw := trivial, nd := trivial }, Gs.none _ _, Os.none _, ⟨fun _ => rfl, trivial⟩⟩
      · rintro fZ tZ uZ iZ oZ aZ hF ⟨hM, hG, hO, hN⟩ ho hfi hdep
        obtain ⟨hS, hV⟩ := hF.two 68 (by decide) rfl (by decide)
        rcases cZ2 ho with rfl | rfl <;> cases ho
        · refine op_plain rfl rfl (fun K hK => ?_)
          have yi13 : fZ 1 = false := Os.not (hO.1) hfi
          have ei13 : tZ 13 = .int .i64 k := hN.1 yi13
          refine wp_bin rfl ((hV 13 (by decide)).trans ei13) rfl (add_i _ _ (k : Int) 1 ((k + 1 : Nat) : Int) uZ (by omega) (by omega) (by omega)) ?_
          exact tell hK hF hS (by decide) (Jm hM hG hO hN)
        · exact t_move (ve 47 hV (hG.1 (dd 0 hdep))) hF hS rfl rfl rfl rfl (by decide) ⟨hM, Gs.stepA hG rfl rfl, ⟨fun _ => (dd 0 hdep :), trivial⟩, Ns.step hN rfl⟩
      rintro fZ tZ u6 ⟨hM, hG, hO, hN⟩ hall
      obtain ⟨e47, e13, -⟩ := Gs.all 2 hall hG rfl
      have HB6 : Below w.heap.size w u6 := hM.bel
      have sz6 : u5.heap.size ≤ u6.heap.size := hM.sz
      obtain ⟨⟨l6p1, K6p1⟩, ⟨l6p2, K6p2⟩, ⟨l6r6, K6r6⟩, ⟨l6o, K6o⟩, ⟨l6n1_0, K6n1_0⟩, -⟩ := hM.ks.up hM.sz
      dsimp only at l6p1 K6p1 l6p2 K6p2 l6r6 K6r6 l6o K6o l6n1_0 K6n1_0
      simp only [ovr, List.set_cons_zero, List.set_cons_succ, e47, e13]
      clear hM hG hO hN hall e47 e13 K5n1_0 K5o K5p1 K5p2 K5r6 HB5
      clear tZ
      go_wp2
      refine ⟨⟨k + 1, mS S a (dgt b k) m cl, by omega, rfl, hn0, hn1, hnx, HB6, K6p1, K6p2, K6r6, K6o, by rw [L5, ← Hl5.out]; exact K6n1_0, l6n1_0⟩, ?_⟩
      simp [intOf]; omega
    · have hk4' : ¬ (k : Int) < 4 := by omega
      have h4 : k = 4 := by omega
      subst h4
      have hm2 := hm.2
      by_cases hc : S < m
      · have hx' : Hid (x = S) := hx.uniq ho (mg_lt hS0 hc hI.out hb)
        have d4 : (D4 S == 0) = true := by unfold D4; simp; omega
        clear hI hx hcl
        go_upto_region 9 with fail
        refine region_plain [48, 49, 50, 10] (fun fZ tZ uZ => MR w.heap.size w (wr.heap.size) [(w.heap.size, LN a), (w.heap.size + 1, LN b), (w.heap.size + 1 + 1, L0s), (bo, LM (m) (cl)), (b1_0, L5 (S))] [] [(fZ 3, fZ 4, tZ 10, L0s, LN S)] uZ ∧ Gs fZ tZ [(0, 48, .slice (some ⟨b1_0, 0, none⟩) 4 5), (1, 49, .pointer (some ⟨b1_0, 0, none⟩)), (2, 50, NV S)] ∧ Os fZ [(4, 3)] ∧ Ns fZ tZ []) (by kernel_rfl) ?_ ?_ ?_
        · exact ⟨{ bel := HBr, lo := HBr.size, sz := Nat.le_refl _, ks := ⟨⟨(by omega), Ka⟩, ⟨(by omega), Kb⟩, ⟨(by omega), Kr⟩, ⟨(by omega), Ko⟩, ⟨ls, Ks⟩, trivial⟩, ex := trivial, nw := ⟨fun e => (by cases e), trivial⟩, nd := ⟨fun e => (by cases e), trivial⟩ }, Gs.none _ _, Os.none _, trivial⟩
        · rintro fZ tZ uZ iZ oZ aZ hF ⟨hM, hG, hO, hN⟩ ho hfi hdep
          obtain ⟨hS, hV⟩ := hF.two 68 (by decide) rfl (by decide)
          rcases cZ5 ho with rfl | rfl | rfl | rfl | rfl <;> cases ho
          · refine op_plain rfl rfl (fun K hK => ?_)
            refine wp_slice rfl (show aZ.eval (.tmp 7) = .pointer (some ⟨b1_0, 0, none⟩) from (hF.out 7 (by decide)).trans rfl) rfl rfl rfl (sl_five b1_0 uZ) ?_
            exact tell hK hF hS (by decide) (Jm hM hG hO hN)
          · refine op_plain rfl rfl (fun K hK => ?_)
            refine wp_sap rfl (ve 48 hV (hG.1 (dd 0 hdep))) (ap_five b1_0 uZ) ?_
            exact tell hK hF hS (by decide) (Jm hM hG hO hN)
          · refine op_plain rfl rfl (fun K hK => ?_)
            have kk : CV uZ (b1_0) (L5 (S)) := hM.ks.2.2.2.2.1.2
            have kk : CV uZ (b1_0) (LN S) := CV.pre (r := [.int .u64 (D4 (S))]) kk
            refine wp_load_mid 25 _ rfl (b1_0) 0 (ve 49 hV (hG.2.1 (dd 1 hdep))) (LN S) _ kk.range Try.underlying25 rfl info_api_Nat ?_
            exact tell hK hF hS (by decide) (Jm hM hG hO hN)
          · have q1 : fZ 4 = false := Os.not (hO.1) hfi
            exact t_alloc (al_api_Nat uZ) hF hS rfl rfl rfl rfl (by decide) ⟨MR.newF 0 hM rfl hfi q1, Gs.other rfl hG, hO.keep rfl, Ns.step hN rfl⟩
          · exact t_storeN 0 hM rfl (dd 3 hdep) hfi (hV 10 (by decide)) (ve 50 hV (hG.2.2.1 (dd 2 hdep))) rfl info_api_Nat rfl hF rfl rfl rfl rfl (fun _ h => ⟨h, Gs.idle rfl hG, ⟨fun _ => (dd 3 hdep :), trivial⟩, Ns.idle hN⟩)
        rintro fZ tZ u2 ⟨hM, hG, hO, hN⟩ hall
        obtain ⟨e48, e49, e50, -⟩ := Gs.all 5 hall hG rfl
        obtain ⟨b2_3, ee10, pb2_3, lb2_3, kb2_3⟩ := hM.nw.1 (hall 3 (by decide))
        have e10 : tZ 10 = .pointer (some ⟨b2_3, 0, none⟩) := ee10
        clear ee10
        have Kb2_3 : CV u2 b2_3 (LN S) := by
          have h1 : CV u2 b2_3 (bif fZ 4 then LN S else L0s) := kb2_3
          rw [hall 4 (by decide)] at h1; exact h1
        clear kb2_3
        have HB2 : Below w.heap.size w u2 := hM.bel
        have sz2 : wr.heap.size ≤ u2.heap.size := hM.sz
        obtain ⟨-, -, ⟨l2r6, K2r6⟩, ⟨l2o, K2o⟩, ⟨l2n1_0, K2n1_0⟩, -⟩ := hM.ks.up hM.sz
        dsimp only at l2r6 K2r6 l2o K2o l2n1_0 K2n1_0
        simp only [ovr, List.set_cons_zero, List.set_cons_succ, e48, e49, e50, e10]
        clear hM hG hO hN hall e48 e49 e50 e10 Ka Kb Ko Kr Ks
        clear tZ
        go_upto_region 10 with fail
        refine region_drawn [52, 53, 54, 55, 56, 57, 51, 58, 59, 11, 12] (fun fZ tZ uZ => MR w.heap.size w (u2.heap.size) [(w.heap.size + 1 + 1, L0s), (bo, LM (m) (cl)), (b1_0, L5 (S)), (b2_3, LN S)] [] [(fZ 9, fZ 10, tZ 11, L0s, LN (S - m + 115792089237316195423570985008687907853269984665640564039457584007913129639936))] uZ ∧ Gs fZ tZ [(0, 52, NV S), (1, 53, .pointer (some ⟨bo, 0, none⟩)), (2, 54, .pointer (some ⟨bo, 0, none⟩)), (3, 55, .pointer (some ⟨bo, 0, none⟩)), (4, 56, NV m), (5, 57, .tuple #[NV (S - m + 115792089237316195423570985008687907853269984665640564039457584007913129639936), .bool true]), (6, 51, .tuple #[NV (S - m + 115792089237316195423570985008687907853269984665640564039457584007913129639936), .bool true]), (7, 58, NV (S - m + 115792089237316195423570985008687907853269984665640564039457584007913129639936)), (8, 59, .bool true), (11, 12, .bool true)] ∧ Os fZ [(10, 9)] ∧ Ns fZ tZ []) (by kernel_rfl) (by kernel_rfl) ?_ ?_ ?_
        · exact ⟨{ bel := HB2.drew, lo := HB2.size, sz := Nat.le_refl _, ks := ⟨⟨l2r6, K2r6⟩, ⟨l2o, K2o⟩, ⟨l2n1_0, K2n1_0⟩, ⟨lb2_3, Kb2_3⟩, trivial⟩, ex := trivial, nw := ⟨fun e => (by cases e), trivial⟩, nd := ⟨fun e => (by cases e), trivial⟩ }, Gs.none _ _, Os.none _, trivial⟩
        · rintro fZ tZ uZ iZ oZ aZ hF ⟨hM, hG, hO, hN⟩ ho hfi hdep
          obtain ⟨hS, hV⟩ := hF.two 68 (by decide) rfl (by decide)
          rcases cZ12 ho with rfl | rfl | rfl | rfl | rfl | rfl | rfl | rfl | rfl | rfl | rfl | rfl <;> cases ho
          · exact t_load (show aZ.eval (.tmp 10) = .pointer (some ⟨b2_3, 0, none⟩) from (hF.out 10 (by decide)).trans rfl) hM.ks.2.2.2.1.2 Try.underlying25 info_api_Nat hF hS rfl rfl rfl rfl rfl (by decide) (Jm hM hG hO hN)
          · exact t_move (show aZ.eval (.tmp 0) = .pointer (some ⟨bo, 0, none⟩) from (hF.out 0 (by decide)).trans rfl) hF hS rfl rfl rfl rfl (by decide) (Jm hM hG hO hN)
          · refine op_plain rfl rfl (fun K hK => ?_)
            refine wp_nil rfl (ve 53 hV (hG.2.1 (dd 1 hdep))) ?_
            exact tell hK hF hS (by decide) (Jm hM hG hO hN)
          · refine op_plain rfl rfl (fun K hK => ?_)
            refine wp_field rfl (ve 54 hV (hG.2.2.1 (dd 2 hdep))) (fd_m bo uZ) ?_
            exact tell hK hF hS (by decide) (Jm hM hG hO hN)
          · refine op_plain rfl rfl (fun K hK => ?_)
            have kk : CV uZ (bo) (LM (m) (cl)) := hM.ks.2.1.2
            have kk : CV uZ (bo) (LN m) := CV.pre (r := [.int .u64 (cl)]) kk
            refine wp_load_mid 25 _ rfl (bo) 0 (ve 55 hV (hG.2.2.2.1 (dd 3 hdep))) (LN m) _ kk.range Try.underlying25 rfl info_api_Nat ?_
            exact tell hK hF hS (by decide) (Jm hM hG hO hN)
          · exact t_call (vs := [NV S, NV m]) (by show [aZ.eval (.tmp 52), aZ.eval (.tmp 56)] = _; rw [(ve 52 hV (hG.1 (dd 0 hdep))), (ve 56 hV (hG.2.2.2.2.1 (dd 4 hdep)))]) ent_limb_Sub (sub_a S m uZ hS0 hm hc) hF hS rfl rfl rfl rfl (by decide) (fun _ hB => (Jm (hM.call hB) hG hO hN))
          · exact t_move (ve 57 hV (hG.2.2.2.2.2.1 (dd 5 hdep))) hF hS rfl rfl rfl rfl (by decide) (Jm hM hG hO hN)
          · exact t_extract (ve 51 hV (hG.2.2.2.2.2.2.1 (dd 6 hdep))) hF hS rfl rfl rfl rfl rfl (by decide) (Jm hM hG hO hN)
          · exact t_extract (ve 51 hV (hG.2.2.2.2.2.2.1 (dd 6 hdep))) hF hS rfl rfl rfl rfl rfl (by decide) (Jm hM hG hO hN)
          · have q1 : fZ 10 = false := Os.not (hO.1) hfi
            exact t_alloc (al_api_Nat uZ) hF hS rfl rfl rfl rfl (by decide) ⟨MR.newF 0 hM rfl hfi q1, Gs.other rfl hG, hO.keep rfl, Ns.step hN rfl⟩
          · exact t_storeN 0 hM rfl (dd 9 hdep) hfi (hV 11 (by decide)) (ve 58 hV (hG.2.2.2.2.2.2.2.1 (dd 7 hdep))) rfl info_api_Nat rfl hF rfl rfl rfl rfl (fun _ h => ⟨h, Gs.idle rfl hG, ⟨fun _ => (dd 9 hdep :), trivial⟩, Ns.idle hN⟩)
          · exact t_assign (ve 59 hV (hG.2.2.2.2.2.2.2.2.1 (dd 8 hdep))) hF hS rfl rfl rfl rfl (by decide) (Jm hM hG hO hN)
        rintro fZ tZ u3 ⟨hM, hG, hO, hN⟩ hall
        obtain ⟨e52, e53, e54, e55, e56, e57, e51, e58, e59, e12, -⟩ := Gs.all 12 hall hG rfl
        obtain ⟨b3_9, ee11, pb3_9, lb3_9, kb3_9⟩ := hM.nw.1 (hall 9 (by decide))
        have e11 : tZ 11 = .pointer (some ⟨b3_9, 0, none⟩) := ee11
        clear ee11
        have Kb3_9 : CV u3 b3_9 (LN (S - m + 115792089237316195423570985008687907853269984665640564039457584007913129639936)) := by
          have h1 : CV u3 b3_9 (bif fZ 10 then LN (S - m + 115792089237316195423570985008687907853269984665640564039457584007913129639936) else L0s) := kb3_9
          rw [hall 10 (by decide)] at h1; exact h1
        clear kb3_9
        have HB3 : Below w.heap.size w u3 := hM.bel
        have sz3 : u2.heap.size ≤ u3.heap.size := hM.sz
        obtain ⟨⟨l3r6, K3r6⟩, -, ⟨l3n1_0, K3n1_0⟩, ⟨l3n9_3, K3n9_3⟩, -⟩ := hM.ks.up hM.sz
        dsimp only at l3r6 K3r6 l3n1_0 K3n1_0 l3n9_3 K3n9_3
        simp only [ovr, List.set_cons_zero, List.set_cons_succ, e52, e53, e54, e55, e56, e57, e51, e58, e59, e12, e11]
        clear hM hG hO hN hall e52 e53 e54 e55 e56 e57 e51 e58 e59 e12 e11 K2n1_0 K2o K2r6 Kb2_3 HB2
        clear tZ
        have c4 := (K3n1_0 4 _ rfl).1
        go_upto_region 12 with fail
        refine region_plain [66] (fun fZ tZ uZ => MR w.heap.size w (u3.heap.size) [(b1_0, L5 (S)), (b2_3, LN S)] [(w.heap.size + 1 + 1, fZ 1, L0s, LN S)] [] uZ ∧ Gs fZ tZ [(0, 66, NV S)] ∧ Os fZ [] ∧ Ns fZ tZ []) (by kernel_rfl) ?_ ?_ ?_
        · exact ⟨{ bel := HB3, lo := HB3.size, sz := Nat.le_refl _, ks := ⟨⟨l3n1_0, K3n1_0⟩, ⟨l3n9_3, K3n9_3⟩, trivial⟩, ex := ⟨⟨(by omega), l3r6, rfl, K3r6⟩, trivial⟩, nw := trivial, nd := trivial }, Gs.none _ _, Os.none _, trivial⟩
        · rintro fZ tZ uZ iZ oZ aZ hF ⟨hM, hG, hO, hN⟩ ho hfi hdep
          obtain ⟨hS, hV⟩ := hF.two 68 (by decide) rfl (by decide)
          rcases cZ2 ho with rfl | rfl <;> cases ho
          · exact t_load (show aZ.eval (.tmp 10) = .pointer (some ⟨b2_3, 0, none⟩) from (hF.out 10 (by decide)).trans rfl) hM.ks.2.1.2 Try.underlying25 info_api_Nat hF hS rfl rfl rfl rfl rfl (by decide) (Jt hM hG hN)
          · refine op_plain rfl rfl (fun K hK => ?_)
            have kk : CV uZ (w.heap.size + 1 + 1) (bif fZ 1 then LN S else L0s) := hM.ex.1.2.2.2
            rw [hfi] at kk
            have kk : CV uZ (w.heap.size + 1 + 1) (L0s) := kk
            refine wp_store_mid 25 _ _ rfl (w.heap.size + 1 + 1) 0 (LN S : List Value).toArray (show aZ.eval (.tmp 6) = .pointer (some ⟨w.heap.size + 1 + 1, 0, none⟩) from (hF.out 6 (by decide)).trans rfl) (ve 66 hV (hG.1 (dd 0 hdep))) kk.there info_api_Nat (all_one rfl) ?_
            exact tell0 hK hF ⟨MR.putXF 0 hM rfl ⟨by omega, by omega, trivial⟩ trivial, Gs.idle rfl hG, trivial, Ns.idle hN⟩
        rintro fZ tZ u4 ⟨hM, hG, hO, hN⟩ hall
        obtain ⟨e66, -⟩ := Gs.all 2 hall hG rfl
        have HB4 : Below w.heap.size w u4 := hM.bel
        have sz4 : u3.heap.size ≤ u4.heap.size := hM.sz
        have K4r6 : CV u4 (w.heap.size + 1 + 1) (LN S) := by
          have h1 : CV u4 (w.heap.size + 1 + 1) (bif fZ 1 then LN S else L0s) := hM.ex.1.2.2.2
          rw [hall 1 (by decide)] at h1; exact h1
        have l4r6 : w.heap.size + 1 + 1 < u4.heap.size := Nat.lt_of_lt_of_le hM.ex.1.2.1 hM.sz
        simp only [ovr, List.set_cons_zero, List.set_cons_succ, e66]
        clear hM hG hO hN hall e66 K3n1_0 K3n9_3 K3r6 HB3
        clear tZ
        have c6_0 := (K4r6 0 _ rfl).1
        have c6_1 := (K4r6 1 _ rfl).1
        have c6_2 := (K4r6 2 _ rfl).1
        have c6_3 := (K4r6 3 _ rfl).1
        go_wp2
        refine bodyPost_ret (v := NV S) (by simp [results, Try.results106, go_sem, c6_0, c6_1, c6_2, c6_3]) rfl ⟨by rw [hx'.out], HB4⟩
      · have hx' : Hid (x = S - m) := hx.uniq ho (mg_ge (by omega) hSl hI.out hb)
        clear hI hx hcl
        have hc : m ≤ S := by omega
        by_cases h4 : S < 115792089237316195423570985008687907853269984665640564039457584007913129639936
        · skip
          go_upto_region 9 with fail
          refine region_plain [48, 49, 50, 10] (fun fZ tZ uZ => MR w.heap.size w (wr.heap.size) [(w.heap.size, LN a), (w.heap.size + 1, LN b), (w.heap.size + 1 + 1, L0s), (bo, LM (m) (cl)), (b1_0, L5 (S))] [] [(fZ 3, fZ 4, tZ 10, L0s, LN S)] uZ ∧ Gs fZ tZ [(0, 48, .slice (some ⟨b1_0, 0, none⟩) 4 5), (1, 49, .pointer (some ⟨b1_0, 0, none⟩)), (2, 50, NV S)] ∧ Os fZ [(4, 3)] ∧ Ns fZ tZ []) (by kernel_rfl) ?_ ?_ ?_
          · exact ⟨{ bel := HBr, lo := HBr.size, sz := Nat.le_refl _, ks := ⟨⟨(by omega), Ka⟩, ⟨(by omega), Kb⟩, ⟨(by omega), Kr⟩, ⟨(by omega), Ko⟩, ⟨ls, Ks⟩, trivial⟩, ex := trivial, nw := ⟨fun e => (by cases e), trivial⟩, nd := ⟨fun e => (by cases e), trivial⟩ }, Gs.none _ _, Os.none _, trivial⟩
          · rintro fZ tZ uZ iZ oZ aZ hF ⟨hM, hG, hO, hN⟩ ho hfi hdep
            obtain ⟨hS, hV⟩ := hF.two 68 (by decide) rfl (by decide)
            rcases cZ5 ho with rfl | rfl | rfl | rfl | rfl <;> cases ho
            · refine op_plain rfl rfl (fun K hK => ?_)
              refine wp_slice rfl (show aZ.eval (.tmp 7) = .pointer (some ⟨b1_0, 0, none⟩) from (hF.out 7 (by decide)).trans rfl) rfl rfl rfl (sl_five b1_0 uZ) ?_
              exact tell hK hF hS (by decide) (Jm hM hG hO hN)
            · refine op_plain rfl rfl (fun K hK => ?_)
              refine wp_sap rfl (ve 48 hV (hG.1 (dd 0 hdep))) (ap_five b1_0 uZ) ?_
              exact tell hK hF hS (by decide) (Jm hM hG hO hN)
            · refine op_plain rfl rfl (fun K hK => ?_)
              have kk : CV uZ (b1_0) (L5 (S)) := hM.ks.2.2.2.2.1.2
              have kk : CV uZ (b1_0) (LN S) := CV.pre (r := [.int .u64 (D4 (S))]) kk
              refine wp_load_mid 25 _ rfl (b1_0) 0 (ve 49 hV (hG.2.1 (dd 1 hdep))) (LN S) _ kk.range Try.underlying25 rfl info_api_Nat ?_
              exact tell hK hF hS (by decide) (Jm hM hG hO hN)
            · have q1 : fZ 4 = false := Os.not (hO.1) hfi
              exact t_alloc (al_api_Nat uZ) hF hS rfl rfl rfl rfl (by decide) ⟨MR.newF 0 hM rfl hfi q1, Gs.other rfl hG, hO.keep rfl, Ns.step hN rfl⟩
            · exact t_storeN 0 hM rfl (dd 3 hdep) hfi (hV 10 (by decide)) (ve 50 hV (hG.2.2.1 (dd 2 hdep))) rfl info_api_Nat rfl hF rfl rfl rfl rfl (fun _ h => ⟨h, Gs.idle rfl hG, ⟨fun _ => (dd 3 hdep :), trivial⟩, Ns.idle hN⟩)
          rintro fZ tZ u2 ⟨hM, hG, hO, hN⟩ hall
          obtain ⟨e48, e49, e50, -⟩ := Gs.all 5 hall hG rfl
          obtain ⟨b2_3, ee10, pb2_3, lb2_3, kb2_3⟩ := hM.nw.1 (hall 3 (by decide))
          have e10 : tZ 10 = .pointer (some ⟨b2_3, 0, none⟩) := ee10
          clear ee10
          have Kb2_3 : CV u2 b2_3 (LN S) := by
            have h1 : CV u2 b2_3 (bif fZ 4 then LN S else L0s) := kb2_3
            rw [hall 4 (by decide)] at h1; exact h1
          clear kb2_3
          have HB2 : Below w.heap.size w u2 := hM.bel
          have sz2 : wr.heap.size ≤ u2.heap.size := hM.sz
          obtain ⟨-, -, ⟨l2r6, K2r6⟩, ⟨l2o, K2o⟩, ⟨l2n1_0, K2n1_0⟩, -⟩ := hM.ks.up hM.sz
          dsimp only at l2r6 K2r6 l2o K2o l2n1_0 K2n1_0
          simp only [ovr, List.set_cons_zero, List.set_cons_succ, e48, e49, e50, e10]
          clear hM hG hO hN hall e48 e49 e50 e10 Ka Kb Ko Kr Ks
          clear tZ
          go_upto_region 10 with fail
          refine region_drawn [52, 53, 54, 55, 56, 57, 51, 58, 59, 11, 12] (fun fZ tZ uZ => MR w.heap.size w (u2.heap.size) [(w.heap.size + 1 + 1, L0s), (bo, LM (m) (cl)), (b1_0, L5 (S)), (b2_3, LN S)] [] [(fZ 9, fZ 10, tZ 11, L0s, LN (S - m))] uZ ∧ Gs fZ tZ [(0, 52, NV S), (1, 53, .pointer (some ⟨bo, 0, none⟩)), (2, 54, .pointer (some ⟨bo, 0, none⟩)), (3, 55, .pointer (some ⟨bo, 0, none⟩)), (4, 56, NV m), (5, 57, .tuple #[NV (S - m), .bool false]), (6, 51, .tuple #[NV (S - m), .bool false]), (7, 58, NV (S - m)), (8, 59, .bool false), (11, 12, .bool false)] ∧ Os fZ [(10, 9)] ∧ Ns fZ tZ []) (by kernel_rfl) (by kernel_rfl) ?_ ?_ ?_
          · exact ⟨{ bel := HB2.drew, lo := HB2.size, sz := Nat.le_refl _, ks := ⟨⟨l2r6, K2r6⟩, ⟨l2o, K2o⟩, ⟨l2n1_0, K2n1_0⟩, ⟨lb2_3, Kb2_3⟩, trivial⟩, ex := trivial, nw := ⟨fun e => (by cases e), trivial⟩, nd := ⟨fun e => (by cases e), trivial⟩ }, Gs.none _ _, Os.none _, trivial⟩
          · rintro fZ tZ uZ iZ oZ aZ hF ⟨hM, hG, hO, hN⟩ ho hfi hdep
            obtain ⟨hS, hV⟩ := hF.two 68 (by decide) rfl (by decide)
            rcases cZ12 ho with rfl | rfl | rfl | rfl | rfl | rfl | rfl | rfl | rfl | rfl | rfl | rfl <;> cases ho
            · exact t_load (show aZ.eval (.tmp 10) = .pointer (some ⟨b2_3, 0, none⟩) from (hF.out 10 (by decide)).trans rfl) hM.ks.2.2.2.1.2 Try.underlying25 info_api_Nat hF hS rfl rfl rfl rfl rfl (by decide) (Jm hM hG hO hN)
            · exact t_move (show aZ.eval (.tmp 0) = .pointer (some ⟨bo, 0, none⟩) from (hF.out 0 (by decide)).trans rfl) hF hS rfl rfl rfl rfl (by decide) (Jm hM hG hO hN)
            · refine op_plain rfl rfl (fun K hK => ?_)
              refine wp_nil rfl (ve 53 hV (hG.2.1 (dd 1 hdep))) ?_
              exact tell hK hF hS (by decide) (Jm hM hG hO hN)
            · refine op_plain rfl rfl (fun K hK => ?_)
              refine wp_field rfl (ve 54 hV (hG.2.2.1 (dd 2 hdep))) (fd_m bo uZ) ?_
              exact tell hK hF hS (by decide) (Jm hM hG hO hN)
            · refine op_plain rfl rfl (fun K hK => ?_)
              have kk : CV uZ (bo) (LM (m) (cl)) := hM.ks.2.1.2
              have kk : CV uZ (bo) (LN m) := CV.pre (r := [.int .u64 (cl)]) kk
              refine wp_load_mid 25 _ rfl (bo) 0 (ve 55 hV (hG.2.2.2.1 (dd 3 hdep))) (LN m) _ kk.range Try.underlying25 rfl info_api_Nat ?_
              exact tell hK hF hS (by decide) (Jm hM hG hO hN)
            · exact t_call (vs := [NV S, NV m]) (by show [aZ.eval (.tmp 52), aZ.eval (.tmp 56)] = _; rw [(ve 52 hV (hG.1 (dd 0 hdep))), (ve 56 hV (hG.2.2.2.2.1 (dd 4 hdep)))]) ent_limb_Sub (sub_b S m uZ hm hc h4) hF hS rfl rfl rfl rfl (by decide) (fun _ hB => (Jm (hM.call hB) hG hO hN))
            · exact t_move (ve 57 hV (hG.2.2.2.2.2.1 (dd 5 hdep))) hF hS rfl rfl rfl rfl (by decide) (Jm hM hG hO hN)
            · exact t_extract (ve 51 hV (hG.2.2.2.2.2.2.1 (dd 6 hdep))) hF hS rfl rfl rfl rfl rfl (by decide) (Jm hM hG hO hN)
            · exact t_extract (ve 51 hV (hG.2.2.2.2.2.2.1 (dd 6 hdep))) hF hS rfl rfl rfl rfl rfl (by decide) (Jm hM hG hO hN)
            · have q1 : fZ 10 = false := Os.not (hO.1) hfi
              exact t_alloc (al_api_Nat uZ) hF hS rfl rfl rfl rfl (by decide) ⟨MR.newF 0 hM rfl hfi q1, Gs.other rfl hG, hO.keep rfl, Ns.step hN rfl⟩
            · exact t_storeN 0 hM rfl (dd 9 hdep) hfi (hV 11 (by decide)) (ve 58 hV (hG.2.2.2.2.2.2.2.1 (dd 7 hdep))) rfl info_api_Nat rfl hF rfl rfl rfl rfl (fun _ h => ⟨h, Gs.idle rfl hG, ⟨fun _ => (dd 9 hdep :), trivial⟩, Ns.idle hN⟩)
            · exact t_assign (ve 59 hV (hG.2.2.2.2.2.2.2.2.1 (dd 8 hdep))) hF hS rfl rfl rfl rfl (by decide) (Jm hM hG hO hN)
          rintro fZ tZ u3 ⟨hM, hG, hO, hN⟩ hall
          obtain ⟨e52, e53, e54, e55, e56, e57, e51, e58, e59, e12, -⟩ := Gs.all 12 hall hG rfl
          obtain ⟨b3_9, ee11, pb3_9, lb3_9, kb3_9⟩ := hM.nw.1 (hall 9 (by decide))
          have e11 : tZ 11 = .pointer (some ⟨b3_9, 0, none⟩) := ee11
          clear ee11
          have Kb3_9 : CV u3 b3_9 (LN (S - m)) := by
            have h1 : CV u3 b3_9 (bif fZ 10 then LN (S - m) else L0s) := kb3_9
            rw [hall 10 (by decide)] at h1; exact h1
          clear kb3_9
          have HB3 : Below w.heap.size w u3 := hM.bel
          have sz3 : u2.heap.size ≤ u3.heap.size := hM.sz
          obtain ⟨⟨l3r6, K3r6⟩, -, ⟨l3n1_0, K3n1_0⟩, -, -⟩ := hM.ks.up hM.sz
          dsimp only at l3r6 K3r6 l3n1_0 K3n1_0
          simp only [ovr, List.set_cons_zero, List.set_cons_succ, e52, e53, e54, e55, e56, e57, e51, e58, e59, e12, e11]
          clear hM hG hO hN hall e52 e53 e54 e55 e56 e57 e51 e58 e59 e12 e11 K2n1_0 K2o K2r6 Kb2_3 HB2
          clear tZ
          have c4 := (K3n1_0 4 _ rfl).1
          go_upto_region 13 with fail
          refine region_plain [67] (fun fZ tZ uZ => MR w.heap.size w (u3.heap.size) [(b1_0, L5 (S)), (b3_9, LN (S - m))] [(w.heap.size + 1 + 1, fZ 1, L0s, LN (S - m))] [] uZ ∧ Gs fZ tZ [(0, 67, NV (S - m))] ∧ Os fZ [] ∧ Ns fZ tZ []) (by kernel_rfl) ?_ ?_ ?_
          · exact ⟨{ bel := HB3, lo := HB3.size, sz := Nat.le_refl _, ks := ⟨⟨l3n1_0, K3n1_0⟩, ⟨lb3_9, Kb3_9⟩, trivial⟩, ex := ⟨⟨(by omega), l3r6, rfl, K3r6⟩, trivial⟩, nw := trivial, nd := trivial }, Gs.none _ _, Os.none _, trivial⟩
          · rintro fZ tZ uZ iZ oZ aZ hF ⟨hM, hG, hO, hN⟩ ho hfi hdep
            obtain ⟨hS, hV⟩ := hF.two 68 (by decide) rfl (by decide)
            rcases cZ2 ho with rfl | rfl <;> cases ho
            · exact t_load (show aZ.eval (.tmp 11) = .pointer (some ⟨b3_9, 0, none⟩) from (hF.out 11 (by decide)).trans rfl) hM.ks.2.1.2 Try.underlying25 info_api_Nat hF hS rfl rfl rfl rfl rfl (by decide) (Jt hM hG hN)
            · refine op_plain rfl rfl (fun K hK => ?_)
              have kk : CV uZ (w.heap.size + 1 + 1) (bif fZ 1 then LN (S - m) else L0s) := hM.ex.1.2.2.2
              rw [hfi] at kk
              have kk : CV uZ (w.heap.size + 1 + 1) (L0s) := kk
              refine wp_store_mid 25 _ _ rfl (w.heap.size + 1 + 1) 0 (LN (S - m) : List Value).toArray (show aZ.eval (.tmp 6) = .pointer (some ⟨w.heap.size + 1 + 1, 0, none⟩) from (hF.out 6 (by decide)).trans rfl) (ve 67 hV (hG.1 (dd 0 hdep))) kk.there info_api_Nat (all_one rfl) ?_
              exact tell0 hK hF ⟨MR.putXF 0 hM rfl ⟨by omega, by omega, trivial⟩ trivial, Gs.idle rfl hG, trivial, Ns.idle hN⟩
          rintro fZ tZ u4 ⟨hM, hG, hO, hN⟩ hall
          obtain ⟨e67, -⟩ := Gs.all 2 hall hG rfl
          have HB4 : Below w.heap.size w u4 := hM.bel
          have sz4 : u3.heap.size ≤ u4.heap.size := hM.sz
          have K4r6 : CV u4 (w.heap.size + 1 + 1) (LN (S - m)) := by
            have h1 : CV u4 (w.heap.size + 1 + 1) (bif fZ 1 then LN (S - m) else L0s) := hM.ex.1.2.2.2
            rw [hall 1 (by decide)] at h1; exact h1
          have l4r6 : w.heap.size + 1 + 1 < u4.heap.size := Nat.lt_of_lt_of_le hM.ex.1.2.1 hM.sz
          simp only [ovr, List.set_cons_zero, List.set_cons_succ, e67]
          clear hM hG hO hN hall e67 K3n1_0 K3r6 Kb3_9 HB3
          clear tZ
          have c6_0 := (K4r6 0 _ rfl).1
          have c6_1 := (K4r6 1 _ rfl).1
          have c6_2 := (K4r6 2 _ rfl).1
          have c6_3 := (K4r6 3 _ rfl).1
          go_wp2
          refine bodyPost_ret (v := NV (S - m)) (by simp [results, Try.results106, go_sem, c6_0, c6_1, c6_2, c6_3]) rfl ⟨by rw [hx'.out], HB4⟩
        · have h4 : 115792089237316195423570985008687907853269984665640564039457584007913129639936 ≤ S := by omega
          have d4 : (D4 S == 0) = false := by unfold D4; simp; omega
          go_upto_region 9 with fail
          refine region_plain [48, 49, 50, 10] (fun fZ tZ uZ => MR w.heap.size w (wr.heap.size) [(w.heap.size, LN a), (w.heap.size + 1, LN b), (w.heap.size + 1 + 1, L0s), (bo, LM (m) (cl)), (b1_0, L5 (S))] [] [(fZ 3, fZ 4, tZ 10, L0s, LN S)] uZ ∧ Gs fZ tZ [(0, 48, .slice (some ⟨b1_0, 0, none⟩) 4 5), (1, 49, .pointer (some ⟨b1_0, 0, none⟩)), (2, 50, NV S)] ∧ Os fZ [(4, 3)] ∧ Ns fZ tZ []) (by kernel_rfl) ?_ ?_ ?_
          · exact ⟨{ bel := HBr, lo := HBr.size, sz := Nat.le_refl _, ks := ⟨⟨(by omega), Ka⟩, ⟨(by omega), Kb⟩, ⟨(by omega), Kr⟩, ⟨(by omega), Ko⟩, ⟨ls, Ks⟩, trivial⟩, ex := trivial, nw := ⟨fun e => (by cases e), trivial⟩, nd := ⟨fun e => (by cases e), trivial⟩ }, Gs.none _ _, Os.none _, trivial⟩
          · rintro fZ tZ uZ iZ oZ aZ hF ⟨hM, hG, hO, hN⟩ ho hfi hdep
            obtain ⟨hS, hV⟩ := hF.two 68 (by decide) rfl (by decide)
            rcases cZ5 ho with rfl | rfl | rfl | rfl | rfl <;> cases ho
            · refine op_plain rfl rfl (fun K hK => ?_)
              refine wp_slice rfl (show aZ.eval (.tmp 7) = .pointer (some ⟨b1_0, 0, none⟩) from (hF.out 7 (by decide)).trans rfl) rfl rfl rfl (sl_five b1_0 uZ) ?_
              exact tell hK hF hS (by decide) (Jm hM hG hO hN)
            · refine op_plain rfl rfl (fun K hK => ?_)
              refine wp_sap rfl (ve 48 hV (hG.1 (dd 0 hdep))) (ap_five b1_0 uZ) ?_
              exact tell hK hF hS (by decide) (Jm hM hG hO hN)
            · refine op_plain rfl rfl (fun K hK => ?_)
              have kk : CV uZ (b1_0) (L5 (S)) := hM.ks.2.2.2.2.1.2
              have kk : CV uZ (b1_0) (LN S) := CV.pre (r := [.int .u64 (D4 (S))]) kk
              refine wp_load_mid 25 _ rfl (b1_0) 0 (ve 49 hV (hG.2.1 (dd 1 hdep))) (LN S) _ kk.range Try.underlying25 rfl info_api_Nat ?_
              exact tell hK hF hS (by decide) (Jm hM hG hO hN)
            · have q1 : fZ 4 = false := Os.not (hO.1) hfi
              exact t_alloc (al_api_Nat uZ) hF hS rfl rfl rfl rfl (by decide) ⟨MR.newF 0 hM rfl hfi q1, Gs.other rfl hG, hO.keep rfl, Ns.step hN rfl⟩
            · exact t_storeN 0 hM rfl (dd 3 hdep) hfi (hV 10 (by decide)) (ve 50 hV (hG.2.2.1 (dd 2 hdep))) rfl info_api_Nat rfl hF rfl rfl rfl rfl (fun _ h => ⟨h, Gs.idle rfl hG, ⟨fun _ => (dd 3 hdep :), trivial⟩, Ns.idle hN⟩)
          rintro fZ tZ u2 ⟨hM, hG, hO, hN⟩ hall
          obtain ⟨e48, e49, e50, -⟩ := Gs.all 5 hall hG rfl
          obtain ⟨b2_3, ee10, pb2_3, lb2_3, kb2_3⟩ := hM.nw.1 (hall 3 (by decide))
          have e10 : tZ 10 = .pointer (some ⟨b2_3, 0, none⟩) := ee10
          clear ee10
          have Kb2_3 : CV u2 b2_3 (LN S) := by
            have h1 : CV u2 b2_3 (bif fZ 4 then LN S else L0s) := kb2_3
            rw [hall 4 (by decide)] at h1; exact h1
          clear kb2_3
          have HB2 : Below w.heap.size w u2 := hM.bel
          have sz2 : wr.heap.size ≤ u2.heap.size := hM.sz
          obtain ⟨-, -, ⟨l2r6, K2r6⟩, ⟨l2o, K2o⟩, ⟨l2n1_0, K2n1_0⟩, -⟩ := hM.ks.up hM.sz
          dsimp only at l2r6 K2r6 l2o K2o l2n1_0 K2n1_0
          simp only [ovr, List.set_cons_zero, List.set_cons_succ, e48, e49, e50, e10]
          clear hM hG hO hN hall e48 e49 e50 e10 Ka Kb Ko Kr Ks
          clear tZ
          go_upto_region 10 with fail
          refine region_drawn [52, 53, 54, 55, 56, 57, 51, 58, 59, 11, 12] (fun fZ tZ uZ => MR w.heap.size w (u2.heap.size) [(w.heap.size + 1 + 1, L0s), (bo, LM (m) (cl)), (b1_0, L5 (S)), (b2_3, LN S)] [] [(fZ 9, fZ 10, tZ 11, L0s, LN (S - m))] uZ ∧ Gs fZ tZ [(0, 52, NV S), (1, 53, .pointer (some ⟨bo, 0, none⟩)), (2, 54, .pointer (some ⟨bo, 0, none⟩)), (3, 55, .pointer (some ⟨bo, 0, none⟩)), (4, 56, NV m), (5, 57, .tuple #[NV (S - m), .bool true]), (6, 51, .tuple #[NV (S - m), .bool true]), (7, 58, NV (S - m)), (8, 59, .bool true), (11, 12, .bool true)] ∧ Os fZ [(10, 9)] ∧ Ns fZ tZ []) (by kernel_rfl) (by kernel_rfl) ?_ ?_ ?_
          · exact ⟨{ bel := HB2.drew, lo := HB2.size, sz := Nat.le_refl _, ks := ⟨⟨l2r6, K2r6⟩, ⟨l2o, K2o⟩, ⟨l2n1_0, K2n1_0⟩, ⟨lb2_3, Kb2_3⟩, trivial⟩, ex := trivial, nw := ⟨fun e => (by cases e), trivial⟩, nd := ⟨fun e => (by cases e), trivial⟩ }, Gs.none _ _, Os.none _, trivial⟩
          · rintro fZ tZ uZ iZ oZ aZ hF ⟨hM, hG, hO, hN⟩ ho hfi hdep
            obtain ⟨hS, hV⟩ := hF.two 68 (by decide) rfl (by decide)
            rcases cZ12 ho with rfl | rfl | rfl | rfl | rfl | rfl | rfl | rfl | rfl | rfl | rfl | rfl <;> cases ho
            · exact t_load (show aZ.eval (.tmp 10) = .pointer (some ⟨b2_3, 0, none⟩) from (hF.out 10 (by decide)).trans rfl) hM.ks.2.2.2.1.2 Try.underlying25 info_api_Nat hF hS rfl rfl rfl rfl rfl (by decide) (Jm hM hG hO hN)
            · exact t_move (show aZ.eval (.tmp 0) = .pointer (some ⟨bo, 0, none⟩) from (hF.out 0 (by decide)).trans rfl) hF hS rfl rfl rfl rfl (by decide) (Jm hM hG hO hN)
            · refine op_plain rfl rfl (fun K hK => ?_)
              refine wp_nil rfl (ve 53 hV (hG.2.1 (dd 1 hdep))) ?_
              exact tell hK hF hS (by decide) (Jm hM hG hO hN)
            · refine op_plain rfl rfl (fun K hK => ?_)
              refine wp_field rfl (ve 54 hV (hG.2.2.1 (dd 2 hdep))) (fd_m bo uZ) ?_
              exact tell hK hF hS (by decide) (Jm hM hG hO hN)
            · refine op_plain rfl rfl (fun K hK => ?_)
              have kk : CV uZ (bo) (LM (m) (cl)) := hM.ks.2.1.2
              have kk : CV uZ (bo) (LN m) := CV.pre (r := [.int .u64 (cl)]) kk
              refine wp_load_mid 25 _ rfl (bo) 0 (ve 55 hV (hG.2.2.2.1 (dd 3 hdep))) (LN m) _ kk.range Try.underlying25 rfl info_api_Nat ?_
              exact tell hK hF hS (by decide) (Jm hM hG hO hN)
            · exact t_call (vs := [NV S, NV m]) (by show [aZ.eval (.tmp 52), aZ.eval (.tmp 56)] = _; rw [(ve 52 hV (hG.1 (dd 0 hdep))), (ve 56 hV (hG.2.2.2.2.1 (dd 4 hdep)))]) ent_limb_Sub (sub_c S m uZ hm hSl h4) hF hS rfl rfl rfl rfl (by decide) (fun _ hB => (Jm (hM.call hB) hG hO hN))
            · exact t_move (ve 57 hV (hG.2.2.2.2.2.1 (dd 5 hdep))) hF hS rfl rfl rfl rfl (by decide) (Jm hM hG hO hN)
            · exact t_extract (ve 51 hV (hG.2.2.2.2.2.2.1 (dd 6 hdep))) hF hS rfl rfl rfl rfl rfl (by decide) (Jm hM hG hO hN)
            · exact t_extract (ve 51 hV (hG.2.2.2.2.2.2.1 (dd 6 hdep))) hF hS rfl rfl rfl rfl rfl (by decide) (Jm hM hG hO hN)
            · have q1 : fZ 10 = false := Os.not (hO.1) hfi
              exact t_alloc (al_api_Nat uZ) hF hS rfl rfl rfl rfl (by decide) ⟨MR.newF 0 hM rfl hfi q1, Gs.other rfl hG, hO.keep rfl, Ns.step hN rfl⟩
            · exact t_storeN 0 hM rfl (dd 9 hdep) hfi (hV 11 (by decide)) (ve 58 hV (hG.2.2.2.2.2.2.2.1 (dd 7 hdep))) rfl info_api_Nat rfl hF rfl rfl rfl rfl (fun _ h => ⟨h, Gs.idle rfl hG, ⟨fun _ => (dd 9 hdep :), trivial⟩, Ns.idle hN⟩)
            · exact t_assign (ve 59 hV (hG.2.2.2.2.2.2.2.2.1 (dd 8 hdep))) hF hS rfl rfl rfl rfl (by decide) (Jm hM hG hO hN)
          rintro fZ tZ u3 ⟨hM, hG, hO, hN⟩ hall
          obtain ⟨e52, e53, e54, e55, e56, e57, e51, e58, e59, e12, -⟩ := Gs.all 12 hall hG rfl
          obtain ⟨b3_9, ee11, pb3_9, lb3_9, kb3_9⟩ := hM.nw.1 (hall 9 (by decide))
          have e11 : tZ 11 = .pointer (some ⟨b3_9, 0, none⟩) := ee11
          clear ee11
          have Kb3_9 : CV u3 b3_9 (LN (S - m)) := by
            have h1 : CV u3 b3_9 (bif fZ 10 then LN (S - m) else L0s) := kb3_9
            rw [hall 10 (by decide)] at h1; exact h1
          clear kb3_9
          have HB3 : Below w.heap.size w u3 := hM.bel
          have sz3 : u2.heap.size ≤ u3.heap.size := hM.sz
          obtain ⟨⟨l3r6, K3r6⟩, -, ⟨l3n1_0, K3n1_0⟩, -, -⟩ := hM.ks.up hM.sz
          dsimp only at l3r6 K3r6 l3n1_0 K3n1_0
          simp only [ovr, List.set_cons_zero, List.set_cons_succ, e52, e53, e54, e55, e56, e57, e51, e58, e59, e12, e11]
          clear hM hG hO hN hall e52 e53 e54 e55 e56 e57 e51 e58 e59 e12 e11 K2n1_0 K2o K2r6 Kb2_3 HB2
          clear tZ
          have c4 := (K3n1_0 4 _ rfl).1
          go_upto_region 13 with fail
          refine region_plain [67] (fun fZ tZ uZ => MR w.heap.size w (u3.heap.size) [(b1_0, L5 (S)), (b3_9, LN (S - m))] [(w.heap.size + 1 + 1, fZ 1, L0s, LN (S - m))] [] uZ ∧ Gs fZ tZ [(0, 67, NV (S - m))] ∧ Os fZ [] ∧ Ns fZ tZ []) (by kernel_rfl) ?_ ?_ ?_
          · exact ⟨{ bel := HB3, lo := HB3.size, sz := Nat.le_refl _, ks := ⟨⟨l3n1_0, K3n1_0⟩, ⟨lb3_9, Kb3_9⟩, trivial⟩, ex := ⟨⟨(by omega), l3r6, rfl, K3r6⟩, trivial⟩, nw := trivial, nd := trivial }, Gs.none _ _, Os.none _, trivial⟩
          · rintro fZ tZ uZ iZ oZ aZ hF ⟨hM, hG, hO, hN⟩ ho hfi hdep
            obtain ⟨hS, hV⟩ := hF.two 68 (by decide) rfl (by decide)
            rcases cZ2 ho with rfl | rfl <;> cases ho
            · exact t_load (show aZ.eval (.tmp 11) = .pointer (some ⟨b3_9, 0, none⟩) from (hF.out 11 (by decide)).trans rfl) hM.ks.2.1.2 Try.underlying25 info_api_Nat hF hS rfl rfl rfl rfl rfl (by decide) (Jt hM hG hN)
            · refine op_plain rfl rfl (fun K hK => ?_)
              have kk : CV uZ (w.heap.size + 1 + 1) (bif fZ 1 then LN (S - m) else L0s) := hM.ex.1.2.2.2
              rw [hfi] at kk
              have kk : CV uZ (w.heap.size + 1 + 1) (L0s) := kk
              refine wp_store_mid 25 _ _ rfl (w.heap.size + 1 + 1) 0 (LN (S - m) : List Value).toArray (show aZ.eval (.tmp 6) = .pointer (some ⟨w.heap.size + 1 + 1, 0, none⟩) from (hF.out 6 (by decide)).trans rfl) (ve 67 hV (hG.1 (dd 0 hdep))) kk.there info_api_Nat (all_one rfl) ?_
              exact tell0 hK hF ⟨MR.putXF 0 hM rfl ⟨by omega, by omega, trivial⟩ trivial, Gs.idle rfl hG, trivial, Ns.idle hN⟩
          rintro fZ tZ u4 ⟨hM, hG, hO, hN⟩ hall
          obtain ⟨e67, -⟩ := Gs.all 2 hall hG rfl
          have HB4 : Below w.heap.size w u4 := hM.bel
          have sz4 : u3.heap.size ≤ u4.heap.size := hM.sz
          have K4r6 : CV u4 (w.heap.size + 1 + 1) (LN (S - m)) := by
            have h1 : CV u4 (w.heap.size + 1 + 1) (bif fZ 1 then LN (S - m) else L0s) := hM.ex.1.2.2.2
            rw [hall 1 (by decide)] at h1; exact h1
          have l4r6 : w.heap.size + 1 + 1 < u4.heap.size := Nat.lt_of_lt_of_le hM.ex.1.2.1 hM.sz
          simp only [ovr, List.set_cons_zero, List.set_cons_succ, e67]
          clear hM hG hO hN hall e67 K3n1_0 K3r6 Kb3_9 HB3
          clear tZ
          have c6_0 := (K4r6 0 _ rfl).1
          have c6_1 := (K4r6 1 _ rfl).1
          have c6_2 := (K4r6 2 _ rfl).1
          have c6_3 := (K4r6 3 _ rfl).1
          go_wp2
          refine bodyPost_ret (v := NV (S - m)) (by simp [results, Try.results106, go_sem, c6_0, c6_1, c6_2, c6_3]) rfl ⟨by rw [hx'.out], HB4⟩
end Go.Proofs.Ytkpnjmfndgfogaa
