/- Numbers modulo one: split, join. -/
import Derived.Test.YtkpnjmfndgfogaaMQ
import Derived.Test.YtkpnjmfndgfogaaEU2
import Derived.Test.YtkpnjmfndgfogaaRS
namespace Go.Proofs.Ytkpnjmfndgfogaa
open Go.RowKit
set_option linter.unusedVariables false
set_option linter.unusedSimpArgs false
theorem and_u (p q : Operand) (x y z : Int) (w : World) (hx : W64 x) (hy : W64 y) (h : anI x y = z) : (do eqGuard .and 23 p q (.int .u64 x) (.int .u64 y); binOp .and 23 (.int .u64 x) (.int .u64 y) : Sem Value).run Try.prog w = .ok (.int .u64 z) w := by
  subst h
  have e : bits .and .u64 x y = anI x y := by
    obtain ⟨x1, x2⟩ := hx; obtain ⟨y1, y2⟩ := hy
    obtain ⟨x, rfl⟩ := Int.eq_ofNat_of_zero_le x1
    obtain ⟨y, rfl⟩ := Int.eq_ofNat_of_zero_le y1
    unfold anI
    rw [bits_and_u64_nat x y (by omega) (by omega), Int.toNat_natCast, Int.toNat_natCast]
  go_simp
theorem nSub0 (m : Int) (w : World) (hm : In m) (h : m ≠ 0) : Calls Try.prog 53 #[A4 0 0 0 0, NV m] w fun e w' => e = .returned (.tuple #[NV (0 - m + 115792089237316195423570985008687907853269984665640564039457584007913129639936), .bool true]) ∧ Below w.heap.size w w' := by
  rw [← NV_0]; exact nSub_lt 0 m w In_0 hm (by have := hm.1; omega)
set_option maxRecDepth 100000 in
set_option maxHeartbeats 2000000 in
theorem msplit (m : Int) (s : Nat) (w : World) (hm : In m) (h : m ≠ 0) (hs : s < 256) (h0 : anI (D0 m) (D0 (0 - m + 115792089237316195423570985008687907853269984665640564039457584007913129639936)) = D0 (2 ^ s)) (h1 : anI (D1 m) (D1 (0 - m + 115792089237316195423570985008687907853269984665640564039457584007913129639936)) = D1 (2 ^ s)) (h2 : anI (D2 m) (D2 (0 - m + 115792089237316195423570985008687907853269984665640564039457584007913129639936)) = D2 (2 ^ s)) (h3 : anI (D3 m) (D3 (0 - m + 115792089237316195423570985008687907853269984665640564039457584007913129639936)) = D3 (2 ^ s)) :
    Calls Try.prog 87 #[NV m] w fun e w' => e = .returned (.tuple #[NV (m / 2 ^ s), NV (2 ^ s)]) ∧ Below w.heap.size w w' := by
  have hp0 : (2 : Int) ^ s ≠ 0 := Int.ne_of_gt (Int.pow_pos (by decide))
  have H0 : Hid _ := h0; have H1 : Hid _ := h1; have H2 : Hid _ := h2; have H3 : Hid _ := h3
  clear h0 h1 h2 h3
  go_enter Try.func87, Try.ntmps87
  go_upto_region 1 with fail
  generalize hC : (((w.alloc (.cells (LN m : List Value).toArray 25)).alloc (.cells (L0s : List Value).toArray 25)).alloc (.cells (L0s : List Value).toArray 25)) = v0 at *
  have HB0 : Below w.heap.size w v0 := by rw [← hC]; exact (balloc (balloc (balloc (bself w) _) _) _)
  have K0p0 : CV v0 (w.heap.size) (LN m) := by rw [← hC]; exact (((CV.new w (LN m) 25).alloc (by simp <;> omega) _).alloc (by simp <;> omega) _)
  have l0p0 : w.heap.size < v0.heap.size := by rw [← hC]; simp <;> omega
  have K0r2 : CV v0 (w.heap.size + 1) (L0s) := by rw [← hC]; exact ((CV.newAt (w.alloc (.cells (LN m : List Value).toArray 25)) (L0s) 25 _ (by simp)).alloc (by simp <;> omega) _)
  have l0r2 : w.heap.size + 1 < v0.heap.size := by rw [← hC]; simp <;> omega
  have K0r3 : CV v0 (w.heap.size + 1 + 1) (L0s) := by rw [← hC]; exact (CV.newAt ((w.alloc (.cells (LN m : List Value).toArray 25)).alloc (.cells (L0s : List Value).toArray 25)) (L0s) 25 _ (by simp))
  have l0r3 : w.heap.size + 1 + 1 < v0.heap.size := by rw [← hC]; simp <;> omega
  clear hC
  refine region_plain [8, 9, 10, 7, 11, 12, 4, 5] (fun fZ tZ uZ => MR w.heap.size w (v0.heap.size) [(w.heap.size, LN m), (w.heap.size + 1, L0s), (w.heap.size + 1 + 1, L0s)] [] [(fZ 6, fZ 7, tZ 4, L0s, LN (0 - m + 115792089237316195423570985008687907853269984665640564039457584007913129639936))] uZ ∧ Gs fZ tZ [(0, 8, A4 (0) (0) (0) (0)), (1, 9, NV m), (2, 10, .tuple #[NV (0 - m + 115792089237316195423570985008687907853269984665640564039457584007913129639936), .bool true]), (3, 7, .tuple #[NV (0 - m + 115792089237316195423570985008687907853269984665640564039457584007913129639936), .bool true]), (4, 11, NV (0 - m + 115792089237316195423570985008687907853269984665640564039457584007913129639936)), (5, 12, .bool true), (8, 5, .bool true)] ∧ Os fZ [(7, 6)] ∧ Ns fZ tZ []) (by kernel_rfl) ?_ ?_ ?_
  · exact ⟨{ bel := HB0, lo := HB0.size, sz := Nat.le_refl _, ks := ⟨⟨l0p0, K0p0⟩, ⟨l0r2, K0r2⟩, ⟨l0r3, K0r3⟩, trivial⟩, ex := trivial, nw := ⟨fun e => (by cases e), trivial⟩, nd := ⟨fun e => (by cases e), trivial⟩ }, Gs.none _ _, Os.none _, trivial⟩
  · rintro fZ tZ uZ iZ oZ aZ hF ⟨hM, hG, hO, hN⟩ ho hfi hdep
    obtain ⟨hS, hV⟩ := hF.two 34 (by decide) rfl (by decide)
    rcases cZ9 ho with rfl | rfl | rfl | rfl | rfl | rfl | rfl | rfl | rfl <;> cases ho
    · refine op_plain rfl rfl (fun K hK => ?_)
      refine wp_val (v := A4 (0) (0) (0) (0)) (w' := uZ) (by kernel_rfl) ?_
      exact tell hK hF hS (by decide) (Jm hM hG hO hN)
    · exact t_load (show aZ.eval (.tmp 1) = .pointer (some ⟨w.heap.size, 0, none⟩) from (hF.out 1 (by decide)).trans rfl) hM.ks.1.2 Try.underlying25 info_api_Nat hF hS rfl rfl rfl rfl rfl (by decide) (Jm hM hG hO hN)
    · exact t_call (vs := [A4 (0) (0) (0) (0), NV m]) (by show [aZ.eval (.tmp 8), aZ.eval (.tmp 9)] = _; rw [(ve 8 hV (hG.1 (dd 0 hdep))), (ve 9 hV (hG.2.1 (dd 1 hdep)))]) ent_limb_Sub (nSub0 m uZ hm h) hF hS rfl rfl rfl rfl (by decide) (fun _ hB => (Jm (hM.call hB) hG hO hN))
    · exact t_move (ve 10 hV (hG.2.2.1 (dd 2 hdep))) hF hS rfl rfl rfl rfl (by decide) (Jm hM hG hO hN)
    · exact t_extract (ve 7 hV (hG.2.2.2.1 (dd 3 hdep))) hF hS rfl rfl rfl rfl rfl (by decide) (Jm hM hG hO hN)
    · exact t_extract (ve 7 hV (hG.2.2.2.1 (dd 3 hdep))) hF hS rfl rfl rfl rfl rfl (by decide) (Jm hM hG hO hN)
    · have q1 : fZ 7 = false := Os.not (hO.1) hfi
      exact t_alloc (al_api_Nat uZ) hF hS rfl rfl rfl rfl (by decide) ⟨MR.newF 0 hM rfl hfi q1, Gs.other rfl hG, hO.keep rfl, Ns.step hN rfl⟩
    · exact t_storeN 0 hM rfl (dd 6 hdep) hfi (hV 4 (by decide)) (ve 11 hV (hG.2.2.2.2.1 (dd 4 hdep))) rfl info_api_Nat rfl hF rfl rfl rfl rfl (fun _ h => ⟨h, Gs.idle rfl hG, ⟨fun _ => (dd 6 hdep :), trivial⟩, Ns.idle hN⟩)
    · exact t_assign (ve 12 hV (hG.2.2.2.2.2.1 (dd 5 hdep))) hF hS rfl rfl rfl rfl (by decide) (Jm hM hG hO hN)
  rintro fZ tZ u1 ⟨hM, hG, hO, hN⟩ hall
  obtain ⟨e8, e9, e10, e7, e11, e12, e5, -⟩ := Gs.all 9 hall hG rfl
  obtain ⟨b1_6, ee4, pb1_6, lb1_6, kb1_6⟩ := hM.nw.1 (hall 6 (by decide))
  have e4 : tZ 4 = .pointer (some ⟨b1_6, 0, none⟩) := ee4
  clear ee4
  have Kb1_6 : CV u1 b1_6 (LN (0 - m + 115792089237316195423570985008687907853269984665640564039457584007913129639936)) := by
    have h1 : CV u1 b1_6 (bif fZ 7 then LN (0 - m + 115792089237316195423570985008687907853269984665640564039457584007913129639936) else L0s) := kb1_6
    rw [hall 7 (by decide)] at h1; exact h1
  clear kb1_6
  have HB1 : Below w.heap.size w u1 := hM.bel
  have sz1 : v0.heap.size ≤ u1.heap.size := hM.sz
  obtain ⟨⟨l1p0, K1p0⟩, ⟨l1r2, K1r2⟩, ⟨l1r3, K1r3⟩, -⟩ := hM.ks.up hM.sz
  dsimp only at l1p0 K1p0 l1r2 K1r2 l1r3 K1r3
  simp only [ovr, List.set_cons_zero, List.set_cons_succ, e8, e9, e10, e7, e11, e12, e5, e4]
  clear hM hG hO hN hall e8 e9 e10 e7 e11 e12 e5 e4 K0p0 K0r2 K0r3 HB0
  clear tZ
  go_wp2_with fail
  refine wp_loop_rounds 5 ?_
  rw [rounds_succ]
  go_upto_region 5 with fail
  refine region_drawn [16, 17, 18, 19, 20, 21, 22, 23, 24] (fun fZ tZ uZ => MR w.heap.size w (u1.heap.size) [(w.heap.size, LN m), (w.heap.size + 1, L0s), (b1_6, LN (0 - m + 115792089237316195423570985008687907853269984665640564039457584007913129639936))] [(w.heap.size + 1 + 1, fZ 9, L0s, [.int .u64 (D0 (2 ^ s)), .int .u64 0, .int .u64 0, .int .u64 0])] [] uZ ∧ Gs fZ tZ [(0, 16, .int .i64 0), (1, 17, .int .i64 0), (2, 18, .pointer (some ⟨w.heap.size, 0, none⟩)), (3, 19, .int .u64 (D0 (m))), (4, 20, .int .i64 0), (5, 21, .pointer (some ⟨b1_6, 0, none⟩)), (6, 22, .int .u64 (D0 (0 - m + 115792089237316195423570985008687907853269984665640564039457584007913129639936))), (7, 23, .int .u64 (D0 (2 ^ s))), (8, 24, .pointer (some ⟨w.heap.size + 1 + 1, 0, none⟩))] ∧ Os fZ [] ∧ Ns fZ tZ []) (by kernel_rfl) (by kernel_rfl) ?_ ?_ ?_
  · exact ⟨{ bel := HB1.drew, lo := HB1.size, sz := Nat.le_refl _, ks := ⟨⟨l1p0, K1p0⟩, ⟨l1r2, K1r2⟩, ⟨lb1_6, Kb1_6⟩, trivial⟩, ex := ⟨⟨(by omega), l1r3, rfl, K1r3⟩, trivial⟩, nw := trivial, nd := trivial }, Gs.none _ _, Os.none _, trivial⟩
  · rintro fZ tZ uZ iZ oZ aZ hF ⟨hM, hG, hO, hN⟩ ho hfi hdep
    obtain ⟨hS, hV⟩ := hF.two 34 (by decide) rfl (by decide)
    rcases cZ10 ho with rfl | rfl | rfl | rfl | rfl | rfl | rfl | rfl | rfl | rfl <;> cases ho
    · exact t_move (show aZ.eval (.tmp 6) = .int .i64 0 from (hF.out 6 (by decide)).trans rfl) hF hS rfl rfl rfl rfl (by decide) (Jt hM hG hN)
    · exact t_move (show aZ.eval (.tmp 6) = .int .i64 0 from (hF.out 6 (by decide)).trans rfl) hF hS rfl rfl rfl rfl (by decide) (Jt hM hG hN)
    · refine op_plain rfl rfl (fun K hK => ?_)
      refine wp_index rfl (show aZ.eval (.tmp 1) = .pointer (some ⟨w.heap.size, 0, none⟩) from (hF.out 1 (by decide)).trans rfl) (ve 17 hV (hG.2.1 (dd 1 hdep))) (ix_nat uZ (w.heap.size) 0 (by omega)) ?_
      exact tell hK hF hS (by decide) (Jt hM hG hN)
    · refine op_plain rfl rfl (fun K hK => ?_)
      have kk : CV uZ (w.heap.size) (LN m) := hM.ks.1.2
      have kc := (kk 0 _ (rfl)).1
      refine wp_load rfl (ve 18 hV (hG.2.2.1 (dd 2 hdep))) (ld_u64 uZ (w.heap.size) 0 _ kc) ?_
      exact tell hK hF hS (by decide) (Jt hM hG hN)
    · exact t_move (show aZ.eval (.tmp 6) = .int .i64 0 from (hF.out 6 (by decide)).trans rfl) hF hS rfl rfl rfl rfl (by decide) (Jt hM hG hN)
    · refine op_plain rfl rfl (fun K hK => ?_)
      refine wp_index rfl (show aZ.eval (.tmp 4) = .pointer (some ⟨b1_6, 0, none⟩) from (hF.out 4 (by decide)).trans rfl) (ve 20 hV (hG.2.2.2.2.1 (dd 4 hdep))) (ix_nat uZ (b1_6) 0 (by omega)) ?_
      exact tell hK hF hS (by decide) (Jt hM hG hN)
    · refine op_plain rfl rfl (fun K hK => ?_)
      have kk : CV uZ (b1_6) (LN (0 - m + 115792089237316195423570985008687907853269984665640564039457584007913129639936)) := hM.ks.2.2.1.2
      have kc := (kk 0 _ (rfl)).1
      refine wp_load rfl (ve 21 hV (hG.2.2.2.2.2.1 (dd 5 hdep))) (ld_u64 uZ (b1_6) 0 _ kc) ?_
      exact tell hK hF hS (by decide) (Jt hM hG hN)
    · refine op_plain rfl rfl (fun K hK => ?_)
      refine wp_bin rfl (ve 19 hV (hG.2.2.2.1 (dd 3 hdep))) (ve 22 hV (hG.2.2.2.2.2.2.1 (dd 6 hdep))) (and_u _ _ (D0 (m)) (D0 (0 - m + 115792089237316195423570985008687907853269984665640564039457584007913129639936)) (D0 (2 ^ s)) uZ (W_D0 _) (W_D0 _) H0.out) ?_
      exact tell hK hF hS (by decide) (Jt hM hG hN)
    · refine op_plain rfl rfl (fun K hK => ?_)
      refine wp_index rfl (show aZ.eval (.tmp 3) = .pointer (some ⟨w.heap.size + 1 + 1, 0, none⟩) from (hF.out 3 (by decide)).trans rfl) (ve 16 hV (hG.1 (dd 0 hdep))) (ix_nat uZ (w.heap.size + 1 + 1) 0 (by omega)) ?_
      exact tell hK hF hS (by decide) (Jt hM hG hN)
    · refine op_plain rfl rfl (fun K hK => ?_)
      have kk : CV uZ (w.heap.size + 1 + 1) (bif fZ 9 then [.int .u64 (D0 (2 ^ s)), .int .u64 0, .int .u64 0, .int .u64 0] else L0s) := hM.ex.1.2.2.2
      rw [hfi] at kk
      have kk : CV uZ (w.heap.size + 1 + 1) (L0s) := kk
      refine wp_store rfl (ve 24 hV (hG.2.2.2.2.2.2.2.2.1 (dd 8 hdep))) (ve 23 hV (hG.2.2.2.2.2.2.2.1 (dd 7 hdep))) (st_u64 uZ (w.heap.size + 1 + 1) 0 _ _ (kk 0 _ rfl).1 (kk 0 _ rfl).2) ?_
      exact tell0 hK hF ⟨MR.putCF (k := 0) (x := .int .u64 (D0 (2 ^ s))) 0 hM rfl hfi (show 0 < 4 by decide) rfl kk ⟨by omega, by omega, by omega, trivial⟩ trivial, Gs.idle rfl hG, trivial, Ns.idle hN⟩
  rintro fZ tZ u2 ⟨hM, hG, hO, hN⟩ hall
  obtain ⟨e16, e17, e18, e19, e20, e21, e22, e23, e24, -⟩ := Gs.all 10 hall hG rfl
  have HB2 : Below w.heap.size w u2 := hM.bel
  have sz2 : u1.heap.size ≤ u2.heap.size := hM.sz
  obtain ⟨⟨l2p0, K2p0⟩, ⟨l2r2, K2r2⟩, ⟨l2n1_6, K2n1_6⟩, -⟩ := hM.ks.up hM.sz
  dsimp only at l2p0 K2p0 l2r2 K2r2 l2n1_6 K2n1_6
  have K2r3 : CV u2 (w.heap.size + 1 + 1) ([.int .u64 (D0 (2 ^ s)), .int .u64 0, .int .u64 0, .int .u64 0]) := by
    have h1 : CV u2 (w.heap.size + 1 + 1) (bif fZ 9 then [.int .u64 (D0 (2 ^ s)), .int .u64 0, .int .u64 0, .int .u64 0] else L0s) := hM.ex.1.2.2.2
    rw [hall 9 (by decide)] at h1; exact h1
  have l2r3 : w.heap.size + 1 + 1 < u2.heap.size := Nat.lt_of_lt_of_le hM.ex.1.2.1 hM.sz
  simp only [ovr, List.set_cons_zero, List.set_cons_succ, e16, e17, e18, e19, e20, e21, e22, e23, e24]
  clear hM hG hO hN hall e16 e17 e18 e19 e20 e21 e22 e23 e24 K1p0 K1r2 K1r3 Kb1_6 HB1
  clear tZ
  go_wp2
  rw [rounds_succ]
  go_upto_region 5 with fail
  refine region_drawn [16, 17, 18, 19, 20, 21, 22, 23, 24] (fun fZ tZ uZ => MR w.heap.size w (u2.heap.size) [(w.heap.size, LN m), (w.heap.size + 1, L0s), (b1_6, LN (0 - m + 115792089237316195423570985008687907853269984665640564039457584007913129639936))] [(w.heap.size + 1 + 1, fZ 9, [.int .u64 (D0 (2 ^ s)), .int .u64 0, .int .u64 0, .int .u64 0], [.int .u64 (D0 (2 ^ s)), .int .u64 (D1 (2 ^ s)), .int .u64 0, .int .u64 0])] [] uZ ∧ Gs fZ tZ [(0, 16, .int .i64 1), (1, 17, .int .i64 1), (2, 18, .pointer (some ⟨w.heap.size, 1, none⟩)), (3, 19, .int .u64 (D1 (m))), (4, 20, .int .i64 1), (5, 21, .pointer (some ⟨b1_6, 1, none⟩)), (6, 22, .int .u64 (D1 (0 - m + 115792089237316195423570985008687907853269984665640564039457584007913129639936))), (7, 23, .int .u64 (D1 (2 ^ s))), (8, 24, .pointer (some ⟨w.heap.size + 1 + 1, 1, none⟩))] ∧ Os fZ [] ∧ Ns fZ tZ []) (by kernel_rfl) (by kernel_rfl) ?_ ?_ ?_
  · exact ⟨{ bel := HB2.drew, lo := HB2.size, sz := Nat.le_refl _, ks := ⟨⟨l2p0, K2p0⟩, ⟨l2r2, K2r2⟩, ⟨l2n1_6, K2n1_6⟩, trivial⟩, ex := ⟨⟨(by omega), l2r3, rfl, K2r3⟩, trivial⟩, nw := trivial, nd := trivial }, Gs.none _ _, Os.none _, trivial⟩
  · rintro fZ tZ uZ iZ oZ aZ hF ⟨hM, hG, hO, hN⟩ ho hfi hdep
    obtain ⟨hS, hV⟩ := hF.two 34 (by decide) rfl (by decide)
    rcases cZ10 ho with rfl | rfl | rfl | rfl | rfl | rfl | rfl | rfl | rfl | rfl <;> cases ho
    · exact t_move (show aZ.eval (.tmp 6) = .int .i64 1 from (hF.out 6 (by decide)).trans rfl) hF hS rfl rfl rfl rfl (by decide) (Jt hM hG hN)
    · exact t_move (show aZ.eval (.tmp 6) = .int .i64 1 from (hF.out 6 (by decide)).trans rfl) hF hS rfl rfl rfl rfl (by decide) (Jt hM hG hN)
    · refine op_plain rfl rfl (fun K hK => ?_)
      refine wp_index rfl (show aZ.eval (.tmp 1) = .pointer (some ⟨w.heap.size, 0, none⟩) from (hF.out 1 (by decide)).trans rfl) (ve 17 hV (hG.2.1 (dd 1 hdep))) (ix_nat uZ (w.heap.size) 1 (by omega)) ?_
      exact tell hK hF hS (by decide) (Jt hM hG hN)
    · refine op_plain rfl rfl (fun K hK => ?_)
      have kk : CV uZ (w.heap.size) (LN m) := hM.ks.1.2
      have kc := (kk 1 _ (rfl)).1
      refine wp_load rfl (ve 18 hV (hG.2.2.1 (dd 2 hdep))) (ld_u64 uZ (w.heap.size) 1 _ kc) ?_
      exact tell hK hF hS (by decide) (Jt hM hG hN)
    · exact t_move (show aZ.eval (.tmp 6) = .int .i64 1 from (hF.out 6 (by decide)).trans rfl) hF hS rfl rfl rfl rfl (by decide) (Jt hM hG hN)
    · refine op_plain rfl rfl (fun K hK => ?_)
      refine wp_index rfl (show aZ.eval (.tmp 4) = .pointer (some ⟨b1_6, 0, none⟩) from (hF.out 4 (by decide)).trans rfl) (ve 20 hV (hG.2.2.2.2.1 (dd 4 hdep))) (ix_nat uZ (b1_6) 1 (by omega)) ?_
      exact tell hK hF hS (by decide) (Jt hM hG hN)
    · refine op_plain rfl rfl (fun K hK => ?_)
      have kk : CV uZ (b1_6) (LN (0 - m + 115792089237316195423570985008687907853269984665640564039457584007913129639936)) := hM.ks.2.2.1.2
      have kc := (kk 1 _ (rfl)).1
      refine wp_load rfl (ve 21 hV (hG.2.2.2.2.2.1 (dd 5 hdep))) (ld_u64 uZ (b1_6) 1 _ kc) ?_
      exact tell hK hF hS (by decide) (Jt hM hG hN)
    · refine op_plain rfl rfl (fun K hK => ?_)
      refine wp_bin rfl (ve 19 hV (hG.2.2.2.1 (dd 3 hdep))) (ve 22 hV (hG.2.2.2.2.2.2.1 (dd 6 hdep))) (and_u _ _ (D1 (m)) (D1 (0 - m + 115792089237316195423570985008687907853269984665640564039457584007913129639936)) (D1 (2 ^ s)) uZ (W_D1 _) (W_D1 _) H1.out) ?_
      exact tell hK hF hS (by decide) (Jt hM hG hN)
    · refine op_plain rfl rfl (fun K hK => ?_)
      refine wp_index rfl (show aZ.eval (.tmp 3) = .pointer (some ⟨w.heap.size + 1 + 1, 0, none⟩) from (hF.out 3 (by decide)).trans rfl) (ve 16 hV (hG.1 (dd 0 hdep))) (ix_nat uZ (w.heap.size + 1 + 1) 1 (by omega)) ?_
      exact tell hK hF hS (by decide) (Jt hM hG hN)
    · refine op_plain rfl rfl (fun K hK => ?_)
      have kk : CV uZ (w.heap.size + 1 + 1) (bif fZ 9 then [.int .u64 (D0 (2 ^ s)), .int .u64 (D1 (2 ^ s)), .int .u64 0, .int .u64 0] else [.int .u64 (D0 (2 ^ s)), .int .u64 0, .int .u64 0, .int .u64 0]) := hM.ex.1.2.2.2
      rw [hfi] at kk
      have kk : CV uZ (w.heap.size + 1 + 1) ([.int .u64 (D0 (2 ^ s)), .int .u64 0, .int .u64 0, .int .u64 0]) := kk
      refine wp_store rfl (ve 24 hV (hG.2.2.2.2.2.2.2.2.1 (dd 8 hdep))) (ve 23 hV (hG.2.2.2.2.2.2.2.1 (dd 7 hdep))) (st_u64 uZ (w.heap.size + 1 + 1) 1 _ _ (kk 1 _ rfl).1 (kk 1 _ rfl).2) ?_
      exact tell0 hK hF ⟨MR.putCF (k := 1) (x := .int .u64 (D1 (2 ^ s))) 0 hM rfl hfi (show 1 < 4 by decide) rfl kk ⟨by omega, by omega, by omega, trivial⟩ trivial, Gs.idle rfl hG, trivial, Ns.idle hN⟩
  rintro fZ tZ u3 ⟨hM, hG, hO, hN⟩ hall
  obtain ⟨e16, e17, e18, e19, e20, e21, e22, e23, e24, -⟩ := Gs.all 10 hall hG rfl
  have HB3 : Below w.heap.size w u3 := hM.bel
  have sz3 : u2.heap.size ≤ u3.heap.size := hM.sz
  obtain ⟨⟨l3p0, K3p0⟩, ⟨l3r2, K3r2⟩, ⟨l3n1_6, K3n1_6⟩, -⟩ := hM.ks.up hM.sz
  dsimp only at l3p0 K3p0 l3r2 K3r2 l3n1_6 K3n1_6
  have K3r3 : CV u3 (w.heap.size + 1 + 1) ([.int .u64 (D0 (2 ^ s)), .int .u64 (D1 (2 ^ s)), .int .u64 0, .int .u64 0]) := by
    have h1 : CV u3 (w.heap.size + 1 + 1) (bif fZ 9 then [.int .u64 (D0 (2 ^ s)), .int .u64 (D1 (2 ^ s)), .int .u64 0, .int .u64 0] else [.int .u64 (D0 (2 ^ s)), .int .u64 0, .int .u64 0, .int .u64 0]) := hM.ex.1.2.2.2
    rw [hall 9 (by decide)] at h1; exact h1
  have l3r3 : w.heap.size + 1 + 1 < u3.heap.size := Nat.lt_of_lt_of_le hM.ex.1.2.1 hM.sz
  simp only [ovr, List.set_cons_zero, List.set_cons_succ, e16, e17, e18, e19, e20, e21, e22, e23, e24]
  clear hM hG hO hN hall e16 e17 e18 e19 e20 e21 e22 e23 e24 K2n1_6 K2p0 K2r2 K2r3 HB2
  clear tZ
  go_wp2
  rw [rounds_succ]
  go_upto_region 5 with fail
  refine region_drawn [16, 17, 18, 19, 20, 21, 22, 23, 24] (fun fZ tZ uZ => MR w.heap.size w (u3.heap.size) [(w.heap.size, LN m), (w.heap.size + 1, L0s), (b1_6, LN (0 - m + 115792089237316195423570985008687907853269984665640564039457584007913129639936))] [(w.heap.size + 1 + 1, fZ 9, [.int .u64 (D0 (2 ^ s)), .int .u64 (D1 (2 ^ s)), .int .u64 0, .int .u64 0], [.int .u64 (D0 (2 ^ s)), .int .u64 (D1 (2 ^ s)), .int .u64 (D2 (2 ^ s)), .int .u64 0])] [] uZ ∧ Gs fZ tZ [(0, 16, .int .i64 2), (1, 17, .int .i64 2), (2, 18, .pointer (some ⟨w.heap.size, 2, none⟩)), (3, 19, .int .u64 (D2 (m))), (4, 20, .int .i64 2), (5, 21, .pointer (some ⟨b1_6, 2, none⟩)), (6, 22, .int .u64 (D2 (0 - m + 115792089237316195423570985008687907853269984665640564039457584007913129639936))), (7, 23, .int .u64 (D2 (2 ^ s))), (8, 24, .pointer (some ⟨w.heap.size + 1 + 1, 2, none⟩))] ∧ Os fZ [] ∧ Ns fZ tZ []) (by kernel_rfl) (by kernel_rfl) ?_ ?_ ?_
  · exact ⟨{ bel := HB3.drew, lo := HB3.size, sz := Nat.le_refl _, ks := ⟨⟨l3p0, K3p0⟩, ⟨l3r2, K3r2⟩, ⟨l3n1_6, K3n1_6⟩, trivial⟩, ex := ⟨⟨(by omega), l3r3, rfl, K3r3⟩, trivial⟩, nw := trivial, nd := trivial }, Gs.none _ _, Os.none _, trivial⟩
  · rintro fZ tZ uZ iZ oZ aZ hF ⟨hM, hG, hO, hN⟩ ho hfi hdep
    obtain ⟨hS, hV⟩ := hF.two 34 (by decide) rfl (by decide)
    rcases cZ10 ho with rfl | rfl | rfl | rfl | rfl | rfl | rfl | rfl | rfl | rfl <;> cases ho
    · exact t_move (show aZ.eval (.tmp 6) = .int .i64 2 from (hF.out 6 (by decide)).trans rfl) hF hS rfl rfl rfl rfl (by decide) (Jt hM hG hN)
    · exact t_move (show aZ.eval (.tmp 6) = .int .i64 2 from (hF.out 6 (by decide)).trans rfl) hF hS rfl rfl rfl rfl (by decide) (Jt hM hG hN)
    · refine op_plain rfl rfl (fun K hK => ?_)
      refine wp_index rfl (show aZ.eval (.tmp 1) = .pointer (some ⟨w.heap.size, 0, none⟩) from (hF.out 1 (by decide)).trans rfl) (ve 17 hV (hG.2.1 (dd 1 hdep))) (ix_nat uZ (w.heap.size) 2 (by omega)) ?_
      exact tell hK hF hS (by decide) (Jt hM hG hN)
    · refine op_plain rfl rfl (fun K hK => ?_)
      have kk : CV uZ (w.heap.size) (LN m) := hM.ks.1.2
      have kc := (kk 2 _ (rfl)).1
      refine wp_load rfl (ve 18 hV (hG.2.2.1 (dd 2 hdep))) (ld_u64 uZ (w.heap.size) 2 _ kc) ?_
      exact tell hK hF hS (by decide) (Jt hM hG hN)
    · exact t_move (show aZ.eval (.tmp 6) = .int .i64 2 from (hF.out 6 (by decide)).trans rfl) hF hS rfl rfl rfl rfl (by decide) (Jt hM hG hN)
    · refine op_plain rfl rfl (fun K hK => ?_)
      refine wp_index rfl (show aZ.eval (.tmp 4) = .pointer (some ⟨b1_6, 0, none⟩) from (hF.out 4 (by decide)).trans rfl) (ve 20 hV (hG.2.2.2.2.1 (dd 4 hdep))) (ix_nat uZ (b1_6) 2 (by omega)) ?_
      exact tell hK hF hS (by decide) (Jt hM hG hN)
    · refine op_plain rfl rfl (fun K hK => ?_)
      have kk : CV uZ (b1_6) (LN (0 - m + 115792089237316195423570985008687907853269984665640564039457584007913129639936)) := hM.ks.2.2.1.2
      have kc := (kk 2 _ (rfl)).1
      refine wp_load rfl (ve 21 hV (hG.2.2.2.2.2.1 (dd 5 hdep))) (ld_u64 uZ (b1_6) 2 _ kc) ?_
      exact tell hK hF hS (by decide) (Jt hM hG hN)
    · refine op_plain rfl rfl (fun K hK => ?_)
      refine wp_bin rfl (ve 19 hV (hG.2.2.2.1 (dd 3 hdep))) (ve 22 hV (hG.2.2.2.2.2.2.1 (dd 6 hdep))) (and_u _ _ (D2 (m)) (D2 (0 - m + 115792089237316195423570985008687907853269984665640564039457584007913129639936)) (D2 (2 ^ s)) uZ (W_D2 _) (W_D2 _) H2.out) ?_
      exact tell hK hF hS (by decide) (Jt hM hG hN)
    · refine op_plain rfl rfl (fun K hK => ?_)
      refine wp_index rfl (show aZ.eval (.tmp 3) = .pointer (some ⟨w.heap.size + 1 + 1, 0, none⟩) from (hF.out 3 (by decide)).trans rfl) (ve 16 hV (hG.1 (dd 0 hdep))) (ix_nat uZ (w.heap.size + 1 + 1) 2 (by omega)) ?_
      exact tell hK hF hS (by decide) (Jt hM hG hN)
    · refine op_plain rfl rfl (fun K hK => ?_)
      have kk : CV uZ (w.heap.size + 1 + 1) (bif fZ 9 then [.int .u64 (D0 (2 ^ s)), .int .u64 (D1 (2 ^ s)), .int .u64 (D2 (2 ^ s)), .int .u64 0] else [.int .u64 (D0 (2 ^ s)), .int .u64 (D1 (2 ^ s)), .int .u64 0, .int .u64 0]) := hM.ex.1.2.2.2
      rw [hfi] at kk
      have kk : CV uZ (w.heap.size + 1 + 1) ([.int .u64 (D0 (2 ^ s)), .int .u64 (D1 (2 ^ s)), .int .u64 0, .int .u64 0]) := kk
      refine wp_store rfl (ve 24 hV (hG.2.2.2.2.2.2.2.2.1 (dd 8 hdep))) (ve 23 hV (hG.2.2.2.2.2.2.2.1 (dd 7 hdep))) (st_u64 uZ (w.heap.size + 1 + 1) 2 _ _ (kk 2 _ rfl).1 (kk 2 _ rfl).2) ?_
      exact tell0 hK hF ⟨MR.putCF (k := 2) (x := .int .u64 (D2 (2 ^ s))) 0 hM rfl hfi (show 2 < 4 by decide) rfl kk ⟨by omega, by omega, by omega, trivial⟩ trivial, Gs.idle rfl hG, trivial, Ns.idle hN⟩
  rintro fZ tZ u4 ⟨hM, hG, hO, hN⟩ hall
  obtain ⟨e16, e17, e18, e19, e20, e21, e22, e23, e24, -⟩ := Gs.all 10 hall hG rfl
  have HB4 : Below w.heap.size w u4 := hM.bel
  have sz4 : u3.heap.size ≤ u4.heap.size := hM.sz
  obtain ⟨⟨l4p0, K4p0⟩, ⟨l4r2, K4r2⟩, ⟨l4n1_6, K4n1_6⟩, -⟩ := hM.ks.up hM.sz
  dsimp only at l4p0 K4p0 l4r2 K4r2 l4n1_6 K4n1_6
  have K4r3 : CV u4 (w.heap.size + 1 + 1) ([.int .u64 (D0 (2 ^ s)), .int .u64 (D1 (2 ^ s)), .int .u64 (D2 (2 ^ s)), .int .u64 0]) := by
    have h1 : CV u4 (w.heap.size + 1 + 1) (bif fZ 9 then [.int .u64 (D0 (2 ^ s)), .int .u64 (D1 (2 ^ s)), .int .u64 (D2 (2 ^ s)), .int .u64 0] else [.int .u64 (D0 (2 ^ s)), .int .u64 (D1 (2 ^ s)), .int .u64 0, .int .u64 0]) := hM.ex.1.2.2.2
    rw [hall 9 (by decide)] at h1; exact h1
  have l4r3 : w.heap.size + 1 + 1 < u4.heap.size := Nat.lt_of_lt_of_le hM.ex.1.2.1 hM.sz
  simp only [ovr, List.set_cons_zero, List.set_cons_succ, e16, e17, e18, e19, e20, e21, e22, e23, e24]
  clear hM hG hO hN hall e16 e17 e18 e19 e20 e21 e22 e23 e24 K3n1_6 K3p0 K3r2 K3r3 HB3
  clear tZ
  go_wp2
  rw [rounds_succ]
  go_upto_region 5 with fail
  refine region_drawn [16, 17, 18, 19, 20, 21, 22, 23, 24] (fun fZ tZ uZ => MR w.heap.size w (u4.heap.size) [(w.heap.size, LN m), (w.heap.size + 1, L0s), (b1_6, LN (0 - m + 115792089237316195423570985008687907853269984665640564039457584007913129639936))] [(w.heap.size + 1 + 1, fZ 9, [.int .u64 (D0 (2 ^ s)), .int .u64 (D1 (2 ^ s)), .int .u64 (D2 (2 ^ s)), .int .u64 0], [.int .u64 (D0 (2 ^ s)), .int .u64 (D1 (2 ^ s)), .int .u64 (D2 (2 ^ s)), .int .u64 (D3 (2 ^ s))])] [] uZ ∧ Gs fZ tZ [(0, 16, .int .i64 3), (1, 17, .int .i64 3), (2, 18, .pointer (some ⟨w.heap.size, 3, none⟩)), (3, 19, .int .u64 (D3 (m))), (4, 20, .int .i64 3), (5, 21, .pointer (some ⟨b1_6, 3, none⟩)), (6, 22, .int .u64 (D3 (0 - m + 115792089237316195423570985008687907853269984665640564039457584007913129639936))), (7, 23, .int .u64 (D3 (2 ^ s))), (8, 24, .pointer (some ⟨w.heap.size + 1 + 1, 3, none⟩))] ∧ Os fZ [] ∧ Ns fZ tZ []) (by kernel_rfl) (by kernel_rfl) ?_ ?_ ?_
  · exact ⟨{ bel := HB4.drew, lo := HB4.size, sz := Nat.le_refl _, ks := ⟨⟨l4p0, K4p0⟩, ⟨l4r2, K4r2⟩, ⟨l4n1_6, K4n1_6⟩, trivial⟩, ex := ⟨⟨(by omega), l4r3, rfl, K4r3⟩, trivial⟩, nw := trivial, nd := trivial }, Gs.none _ _, Os.none _, trivial⟩
  · rintro fZ tZ uZ iZ oZ aZ hF ⟨hM, hG, hO, hN⟩ ho hfi hdep
    obtain ⟨hS, hV⟩ := hF.two 34 (by decide) rfl (by decide)
    rcases cZ10 ho with rfl | rfl | rfl | rfl | rfl | rfl | rfl | rfl | rfl | rfl <;> cases ho
    · exact t_move (show aZ.eval (.tmp 6) = .int .i64 3 from (hF.out 6 (by decide)).trans rfl) hF hS rfl rfl rfl rfl (by decide) (Jt hM hG hN)
    · exact t_move (show aZ.eval (.tmp 6) = .int .i64 3 from (hF.out 6 (by decide)).trans rfl) hF hS rfl rfl rfl rfl (by decide) (Jt hM hG hN)
    · refine op_plain rfl rfl (fun K hK => ?_)
      refine wp_index rfl (show aZ.eval (.tmp 1) = .pointer (some ⟨w.heap.size, 0, none⟩) from (hF.out 1 (by decide)).trans rfl) (ve 17 hV (hG.2.1 (dd 1 hdep))) (ix_nat uZ (w.heap.size) 3 (by omega)) ?_
      exact tell hK hF hS (by decide) (Jt hM hG hN)
    · refine op_plain rfl rfl (fun K hK => ?_)
      have kk : CV uZ (w.heap.size) (LN m) := hM.ks.1.2
      have kc := (kk 3 _ (rfl)).1
      refine wp_load rfl (ve 18 hV (hG.2.2.1 (dd 2 hdep))) (ld_u64 uZ (w.heap.size) 3 _ kc) ?_
      exact tell hK hF hS (by decide) (Jt hM hG hN)
    · exact t_move (show aZ.eval (.tmp 6) = .int .i64 3 from (hF.out 6 (by decide)).trans rfl) hF hS rfl rfl rfl rfl (by decide) (Jt hM hG hN)
    · refine op_plain rfl rfl (fun K hK => ?_)
      refine wp_index rfl (show aZ.eval (.tmp 4) = .pointer (some ⟨b1_6, 0, none⟩) from (hF.out 4 (by decide)).trans rfl) (ve 20 hV (hG.2.2.2.2.1 (dd 4 hdep))) (ix_nat uZ (b1_6) 3 (by omega)) ?_
      exact tell hK hF hS (by decide) (Jt hM hG hN)
    · refine op_plain rfl rfl (fun K hK => ?_)
      have kk : CV uZ (b1_6) (LN (0 - m + 115792089237316195423570985008687907853269984665640564039457584007913129639936)) := hM.ks.2.2.1.2
      have kc := (kk 3 _ (rfl)).1
      refine wp_load rfl (ve 21 hV (hG.2.2.2.2.2.1 (dd 5 hdep))) (ld_u64 uZ (b1_6) 3 _ kc) ?_
      exact tell hK hF hS (by decide) (Jt hM hG hN)
    · refine op_plain rfl rfl (fun K hK => ?_)
      refine wp_bin rfl (ve 19 hV (hG.2.2.2.1 (dd 3 hdep))) (ve 22 hV (hG.2.2.2.2.2.2.1 (dd 6 hdep))) (and_u _ _ (D3 (m)) (D3 (0 - m + 115792089237316195423570985008687907853269984665640564039457584007913129639936)) (D3 (2 ^ s)) uZ (W_D3 _) (W_D3 _) H3.out) ?_
      exact tell hK hF hS (by decide) (Jt hM hG hN)
    · refine op_plain rfl rfl (fun K hK => ?_)
      refine wp_index rfl (show aZ.eval (.tmp 3) = .pointer (some ⟨w.heap.size + 1 + 1, 0, none⟩) from (hF.out 3 (by decide)).trans rfl) (ve 16 hV (hG.1 (dd 0 hdep))) (ix_nat uZ (w.heap.size + 1 + 1) 3 (by omega)) ?_
      exact tell hK hF hS (by decide) (Jt hM hG hN)
    · refine op_plain rfl rfl (fun K hK => ?_)
      have kk : CV uZ (w.heap.size + 1 + 1) (bif fZ 9 then [.int .u64 (D0 (2 ^ s)), .int .u64 (D1 (2 ^ s)), .int .u64 (D2 (2 ^ s)), .int .u64 (D3 (2 ^ s))] else [.int .u64 (D0 (2 ^ s)), .int .u64 (D1 (2 ^ s)), .int .u64 (D2 (2 ^ s)), .int .u64 0]) := hM.ex.1.2.2.2
      rw [hfi] at kk
      have kk : CV uZ (w.heap.size + 1 + 1) ([.int .u64 (D0 (2 ^ s)), .int .u64 (D1 (2 ^ s)), .int .u64 (D2 (2 ^ s)), .int .u64 0]) := kk
      refine wp_store rfl (ve 24 hV (hG.2.2.2.2.2.2.2.2.1 (dd 8 hdep))) (ve 23 hV (hG.2.2.2.2.2.2.2.1 (dd 7 hdep))) (st_u64 uZ (w.heap.size + 1 + 1) 3 _ _ (kk 3 _ rfl).1 (kk 3 _ rfl).2) ?_
      exact tell0 hK hF ⟨MR.putCF (k := 3) (x := .int .u64 (D3 (2 ^ s))) 0 hM rfl hfi (show 3 < 4 by decide) rfl kk ⟨by omega, by omega, by omega, trivial⟩ trivial, Gs.idle rfl hG, trivial, Ns.idle hN⟩
  rintro fZ tZ u5 ⟨hM, hG, hO, hN⟩ hall
  obtain ⟨e16, e17, e18, e19, e20, e21, e22, e23, e24, -⟩ := Gs.all 10 hall hG rfl
  have HB5 : Below w.heap.size w u5 := hM.bel
  have sz5 : u4.heap.size ≤ u5.heap.size := hM.sz
  obtain ⟨⟨l5p0, K5p0⟩, ⟨l5r2, K5r2⟩, -, -⟩ := hM.ks.up hM.sz
  dsimp only at l5p0 K5p0 l5r2 K5r2
  have K5r3 : CV u5 (w.heap.size + 1 + 1) ([.int .u64 (D0 (2 ^ s)), .int .u64 (D1 (2 ^ s)), .int .u64 (D2 (2 ^ s)), .int .u64 (D3 (2 ^ s))]) := by
    have h1 : CV u5 (w.heap.size + 1 + 1) (bif fZ 9 then [.int .u64 (D0 (2 ^ s)), .int .u64 (D1 (2 ^ s)), .int .u64 (D2 (2 ^ s)), .int .u64 (D3 (2 ^ s))] else [.int .u64 (D0 (2 ^ s)), .int .u64 (D1 (2 ^ s)), .int .u64 (D2 (2 ^ s)), .int .u64 0]) := hM.ex.1.2.2.2
    rw [hall 9 (by decide)] at h1; exact h1
  have l5r3 : w.heap.size + 1 + 1 < u5.heap.size := Nat.lt_of_lt_of_le hM.ex.1.2.1 hM.sz
  simp only [ovr, List.set_cons_zero, List.set_cons_succ, e16, e17, e18, e19, e20, e21, e22, e23, e24]
  clear hM hG hO hN hall e16 e17 e18 e19 e20 e21 e22 e23 e24 K4n1_6 K4p0 K4r2 K4r3 HB4
  clear tZ
  go_wp2
  rw [rounds_succ]
  have Kt : CV u5 (w.heap.size + 1 + 1) (LN (2 ^ s)) := K5r3
  go_upto_region 7 with fail
  refine region_plain [27, 28, 29, 26, 30, 31] (fun fZ tZ uZ => MR w.heap.size w (u5.heap.size) [(w.heap.size, LN m), (w.heap.size + 1 + 1, LN (2 ^ s))] [(w.heap.size + 1, fZ 6, L0s, LN (m / 2 ^ s))] [] uZ ∧ Gs fZ tZ [(0, 27, NV m), (1, 28, NV (2 ^ s)), (2, 29, .tuple #[NV (m / 2 ^ s), NV (m % 2 ^ s)]), (3, 26, .tuple #[NV (m / 2 ^ s), NV (m % 2 ^ s)]), (4, 30, NV (m / 2 ^ s)), (5, 31, NV (m % 2 ^ s))] ∧ Os fZ [] ∧ Ns fZ tZ []) (by kernel_rfl) ?_ ?_ ?_
  · exact ⟨{ bel := HB5, lo := HB5.size, sz := Nat.le_refl _, ks := ⟨⟨l5p0, K5p0⟩, ⟨l5r3, Kt⟩, trivial⟩, ex := ⟨⟨(by omega), l5r2, rfl, K5r2⟩, trivial⟩, nw := trivial, nd := trivial }, Gs.none _ _, Os.none _, trivial⟩
  · rintro fZ tZ uZ iZ oZ aZ hF ⟨hM, hG, hO, hN⟩ ho hfi hdep
    obtain ⟨hS, hV⟩ := hF.two 34 (by decide) rfl (by decide)
    rcases cZ7 ho with rfl | rfl | rfl | rfl | rfl | rfl | rfl <;> cases ho
    · exact t_load (show aZ.eval (.tmp 1) = .pointer (some ⟨w.heap.size, 0, none⟩) from (hF.out 1 (by decide)).trans rfl) hM.ks.1.2 Try.underlying25 info_api_Nat hF hS rfl rfl rfl rfl rfl (by decide) (Jt hM hG hN)
    · exact t_load (show aZ.eval (.tmp 3) = .pointer (some ⟨w.heap.size + 1 + 1, 0, none⟩) from (hF.out 3 (by decide)).trans rfl) hM.ks.2.1.2 Try.underlying25 info_api_Nat hF hS rfl rfl rfl rfl rfl (by decide) (Jt hM hG hN)
    · exact t_call (vs := [NV m, NV (2 ^ s)]) (by show [aZ.eval (.tmp 27), aZ.eval (.tmp 28)] = _; rw [(ve 27 hV (hG.1 (dd 0 hdep))), (ve 28 hV (hG.2.1 (dd 1 hdep)))]) ent_mod_divide (mdivide m (2 ^ s) uZ hm (In_pow hs) hp0) hF hS rfl rfl rfl rfl (by decide) (fun _ hB => (Jt (hM.call hB) hG hN))
    · exact t_move (ve 29 hV (hG.2.2.1 (dd 2 hdep))) hF hS rfl rfl rfl rfl (by decide) (Jt hM hG hN)
    · exact t_extract (ve 26 hV (hG.2.2.2.1 (dd 3 hdep))) hF hS rfl rfl rfl rfl rfl (by decide) (Jt hM hG hN)
    · exact t_extract (ve 26 hV (hG.2.2.2.1 (dd 3 hdep))) hF hS rfl rfl rfl rfl rfl (by decide) (Jt hM hG hN)
    · refine op_plain rfl rfl (fun K hK => ?_)
      have kk : CV uZ (w.heap.size + 1) (bif fZ 6 then LN (m / 2 ^ s) else L0s) := hM.ex.1.2.2.2
      rw [hfi] at kk
      have kk : CV uZ (w.heap.size + 1) (L0s) := kk
      refine wp_store_mid 25 _ _ rfl (w.heap.size + 1) 0 (LN (m / 2 ^ s) : List Value).toArray (show aZ.eval (.tmp 2) = .pointer (some ⟨w.heap.size + 1, 0, none⟩) from (hF.out 2 (by decide)).trans rfl) (ve 30 hV (hG.2.2.2.2.1 (dd 4 hdep))) kk.there info_api_Nat (all_one rfl) ?_
      exact tell0 hK hF ⟨MR.putXF 0 hM rfl ⟨by omega, by omega, trivial⟩ trivial, Gs.idle rfl hG, trivial, Ns.idle hN⟩
  rintro fZ tZ u6 ⟨hM, hG, hO, hN⟩ hall
  obtain ⟨e27, e28, e29, e26, e30, e31, -⟩ := Gs.all 7 hall hG rfl
  have HB6 : Below w.heap.size w u6 := hM.bel
  have sz6 : u5.heap.size ≤ u6.heap.size := hM.sz
  obtain ⟨-, ⟨l6r3, K6r3⟩, -⟩ := hM.ks.up hM.sz
  dsimp only at l6r3 K6r3
  have K6r2 : CV u6 (w.heap.size + 1) (LN (m / 2 ^ s)) := by
    have h1 : CV u6 (w.heap.size + 1) (bif fZ 6 then LN (m / 2 ^ s) else L0s) := hM.ex.1.2.2.2
    rw [hall 6 (by decide)] at h1; exact h1
  have l6r2 : w.heap.size + 1 < u6.heap.size := Nat.lt_of_lt_of_le hM.ex.1.2.1 hM.sz
  simp only [ovr, List.set_cons_zero, List.set_cons_succ, e27, e28, e29, e26, e30, e31]
  clear hM hG hO hN hall e27 e28 e29 e26 e30 e31 K5p0 K5r2 Kt HB5
  clear tZ
  go_upto_region 8 with fail
  refine region_drawn [32, 33] (fun fZ tZ uZ => MR w.heap.size w (u6.heap.size) [] [(w.heap.size + 1, fZ 2, LN (m / 2 ^ s), LN (m / 2 ^ s)), (w.heap.size + 1 + 1, fZ 3, LN (2 ^ s), LN (2 ^ s))] [] uZ ∧ Gs fZ tZ [(0, 32, NV (m / 2 ^ s)), (1, 33, NV (2 ^ s))] ∧ Os fZ [(2, 0), (3, 1)] ∧ Ns fZ tZ []) (by kernel_rfl) (by kernel_rfl) ?_ ?_ ?_
  · exact ⟨{ bel := HB6.drew, lo := HB6.size, sz := Nat.le_refl _, ks := trivial, ex := ⟨⟨(by omega), l6r2, rfl, K6r2⟩, ⟨(by omega), l6r3, rfl, K6r3⟩, trivial⟩, nw := trivial, nd := trivial }, Gs.none _ _, Os.none _, trivial⟩
  · rintro fZ tZ uZ iZ oZ aZ hF ⟨hM, hG, hO, hN⟩ ho hfi hdep
    obtain ⟨hS, hV⟩ := hF.two 34 (by decide) rfl (by decide)
    rcases cZ4 ho with rfl | rfl | rfl | rfl <;> cases ho
    · refine op_plain rfl rfl (fun K hK => ?_)
      have ys : fZ 2 = false := Os.not (hO.1) hfi
      have kk : CV uZ (w.heap.size + 1) (bif fZ 2 then LN (m / 2 ^ s) else LN (m / 2 ^ s)) := hM.ex.1.2.2.2
      rw [ys] at kk
      have kk : CV uZ (w.heap.size + 1) (LN (m / 2 ^ s)) := kk
      refine wp_load_mid 25 _ rfl (w.heap.size + 1) 0 (show aZ.eval (.tmp 2) = .pointer (some ⟨w.heap.size + 1, 0, none⟩) from (hF.out 2 (by decide)).trans rfl) (LN (m / 2 ^ s)) _ kk.range Try.underlying25 rfl info_api_Nat ?_
      exact tell hK hF hS (by decide) (Jm hM hG hO hN)
    · refine op_plain rfl rfl (fun K hK => ?_)
      have ys : fZ 3 = false := Os.not (hO.2.1) hfi
      have kk : CV uZ (w.heap.size + 1 + 1) (bif fZ 3 then LN (2 ^ s) else LN (2 ^ s)) := hM.ex.2.1.2.2.2
      rw [ys] at kk
      have kk : CV uZ (w.heap.size + 1 + 1) (LN (2 ^ s)) := kk
      refine wp_load_mid 25 _ rfl (w.heap.size + 1 + 1) 0 (show aZ.eval (.tmp 3) = .pointer (some ⟨w.heap.size + 1 + 1, 0, none⟩) from (hF.out 3 (by decide)).trans rfl) (LN (2 ^ s)) _ kk.range Try.underlying25 rfl info_api_Nat ?_
      exact tell hK hF hS (by decide) (Jm hM hG hO hN)
    · refine op_plain rfl rfl (fun K hK => ?_)
      have kk : CV uZ (w.heap.size + 1) (bif fZ 2 then LN (m / 2 ^ s) else LN (m / 2 ^ s)) := hM.ex.1.2.2.2
      rw [hfi] at kk
      have kk : CV uZ (w.heap.size + 1) (LN (m / 2 ^ s)) := kk
      refine wp_store_mid 25 _ _ rfl (w.heap.size + 1) 0 (LN (m / 2 ^ s) : List Value).toArray (show aZ.eval (.tmp 2) = .pointer (some ⟨w.heap.size + 1, 0, none⟩) from (hF.out 2 (by decide)).trans rfl) (ve 32 hV (hG.1 (dd 0 hdep))) kk.there info_api_Nat (all_one rfl) ?_
      exact tell0 hK hF ⟨MR.putXF 0 hM rfl trivial ⟨by omega, trivial⟩, Gs.idle rfl hG, ⟨fun _ => (dd 0 hdep :), hO.2.1, trivial⟩, Ns.idle hN⟩
    · refine op_plain rfl rfl (fun K hK => ?_)
      have kk : CV uZ (w.heap.size + 1 + 1) (bif fZ 3 then LN (2 ^ s) else LN (2 ^ s)) := hM.ex.2.1.2.2.2
      rw [hfi] at kk
      have kk : CV uZ (w.heap.size + 1 + 1) (LN (2 ^ s)) := kk
      refine wp_store_mid 25 _ _ rfl (w.heap.size + 1 + 1) 0 (LN (2 ^ s) : List Value).toArray (show aZ.eval (.tmp 3) = .pointer (some ⟨w.heap.size + 1 + 1, 0, none⟩) from (hF.out 3 (by decide)).trans rfl) (ve 33 hV (hG.2.1 (dd 1 hdep))) kk.there info_api_Nat (all_one rfl) ?_
      exact tell0 hK hF ⟨MR.putXF 1 hM rfl trivial ⟨by omega, trivial⟩, Gs.idle rfl hG, ⟨hO.1, fun _ => (dd 1 hdep :), trivial⟩, Ns.idle hN⟩
  rintro fZ tZ u7 ⟨hM, hG, hO, hN⟩ hall
  obtain ⟨e32, e33, -⟩ := Gs.all 4 hall hG rfl
  have HB7 : Below w.heap.size w u7 := hM.bel
  have sz7 : u6.heap.size ≤ u7.heap.size := hM.sz
  have K7r2 : CV u7 (w.heap.size + 1) (LN (m / 2 ^ s)) := by
    have h1 : CV u7 (w.heap.size + 1) (bif fZ 2 then LN (m / 2 ^ s) else LN (m / 2 ^ s)) := hM.ex.1.2.2.2
    rw [hall 2 (by decide)] at h1; exact h1
  have l7r2 : w.heap.size + 1 < u7.heap.size := Nat.lt_of_lt_of_le hM.ex.1.2.1 hM.sz
  have K7r3 : CV u7 (w.heap.size + 1 + 1) (LN (2 ^ s)) := by
    have h1 : CV u7 (w.heap.size + 1 + 1) (bif fZ 3 then LN (2 ^ s) else LN (2 ^ s)) := hM.ex.2.1.2.2.2
    rw [hall 3 (by decide)] at h1; exact h1
  have l7r3 : w.heap.size + 1 + 1 < u7.heap.size := Nat.lt_of_lt_of_le hM.ex.2.1.2.1 hM.sz
  simp only [ovr, List.set_cons_zero, List.set_cons_succ, e32, e33]
  clear hM hG hO hN hall e32 e33 K6r2 K6r3 HB6
  clear tZ
  have c2_0 := (K7r2 0 _ rfl).1
  have c2_1 := (K7r2 1 _ rfl).1
  have c2_2 := (K7r2 2 _ rfl).1
  have c2_3 := (K7r2 3 _ rfl).1
  have c3_0 := (K7r3 0 _ rfl).1
  have c3_1 := (K7r3 1 _ rfl).1
  have c3_2 := (K7r3 2 _ rfl).1
  have c3_3 := (K7r3 3 _ rfl).1
  go_wp2
  refine bodyPost_ret (v := .tuple #[NV (m / 2 ^ s), NV (2 ^ s)]) (by simp [results, Try.results87, go_sem, c2_0, c2_1, c2_2, c2_3, c3_0, c3_1, c3_2, c3_3]) rfl ⟨rfl, HB7⟩
set_option maxRecDepth 100000 in
set_option maxHeartbeats 2000000 in
theorem mjoin_1 (x o y t : Int) (w : World) (ht : In t) (h1 : t = 1) :
    Calls Try.prog 91 #[NV x, NV o, NV y, NV t] w fun e w' => e = .returned (NV x) ∧ Below w.heap.size w w' := by
  have hz : decide (t = 1) = true := by simp [h1]
  clear h1
  go_enter Try.func91, Try.ntmps91
  go_upto_region 1 with fail
  generalize hC : (((((w.alloc (.cells (LN x : List Value).toArray 25)).alloc (.cells (LN o : List Value).toArray 25)).alloc (.cells (LN y : List Value).toArray 25)).alloc (.cells (LN t : List Value).toArray 25)).alloc (.cells (L0s : List Value).toArray 25)) = v0 at *
  have HB0 : Below w.heap.size w v0 := by rw [← hC]; exact (balloc (balloc (balloc (balloc (balloc (bself w) _) _) _) _) _)
  have K0p0 : CV v0 (w.heap.size) (LN x) := by rw [← hC]; exact (((((CV.new w (LN x) 25).alloc (by simp <;> omega) _).alloc (by simp <;> omega) _).alloc (by simp <;> omega) _).alloc (by simp <;> omega) _)
  have l0p0 : w.heap.size < v0.heap.size := by rw [← hC]; simp <;> omega
  have K0p1 : CV v0 (w.heap.size + 1) (LN o) := by rw [← hC]; exact ((((CV.newAt (w.alloc (.cells (LN x : List Value).toArray 25)) (LN o) 25 _ (by simp)).alloc (by simp <;> omega) _).alloc (by simp <;> omega) _).alloc (by simp <;> omega) _)
  have l0p1 : w.heap.size + 1 < v0.heap.size := by rw [← hC]; simp <;> omega
  have K0p2 : CV v0 (w.heap.size + 1 + 1) (LN y) := by rw [← hC]; exact (((CV.newAt ((w.alloc (.cells (LN x : List Value).toArray 25)).alloc (.cells (LN o : List Value).toArray 25)) (LN y) 25 _ (by simp)).alloc (by simp <;> omega) _).alloc (by simp <;> omega) _)
  have l0p2 : w.heap.size + 1 + 1 < v0.heap.size := by rw [← hC]; simp <;> omega
  have K0p3 : CV v0 (w.heap.size + 1 + 1 + 1) (LN t) := by rw [← hC]; exact ((CV.newAt (((w.alloc (.cells (LN x : List Value).toArray 25)).alloc (.cells (LN o : List Value).toArray 25)).alloc (.cells (LN y : List Value).toArray 25)) (LN t) 25 _ (by simp)).alloc (by simp <;> omega) _)
  have l0p3 : w.heap.size + 1 + 1 + 1 < v0.heap.size := by rw [← hC]; simp <;> omega
  have K0r8 : CV v0 (w.heap.size + 1 + 1 + 1 + 1) (L0s) := by rw [← hC]; exact (CV.newAt ((((w.alloc (.cells (LN x : List Value).toArray 25)).alloc (.cells (LN o : List Value).toArray 25)).alloc (.cells (LN y : List Value).toArray 25)).alloc (.cells (LN t : List Value).toArray 25)) (L0s) 25 _ (by simp))
  have l0r8 : w.heap.size + 1 + 1 + 1 + 1 < v0.heap.size := by rw [← hC]; simp <;> omega
  clear hC
  refine region_drawn [17, 18, 19] (fun fZ tZ uZ => MR w.heap.size w (v0.heap.size) [(w.heap.size, LN x), (w.heap.size + 1, LN o), (w.heap.size + 1 + 1, LN y), (w.heap.size + 1 + 1 + 1, LN t), (w.heap.size + 1 + 1 + 1 + 1, L0s)] [] [] uZ ∧ Gs fZ tZ [(0, 17, NV t), (1, 18, NV 1), (2, 19, .bool true)] ∧ Os fZ [] ∧ Ns fZ tZ []) (by kernel_rfl) (by kernel_rfl) ?_ ?_ ?_
  · exact ⟨{ bel := HB0.drew, lo := HB0.size, sz := Nat.le_refl _, ks := ⟨⟨l0p0, K0p0⟩, ⟨l0p1, K0p1⟩, ⟨l0p2, K0p2⟩, ⟨l0p3, K0p3⟩, ⟨l0r8, K0r8⟩, trivial⟩, ex := trivial, nw := trivial, nd := trivial }, Gs.none _ _, Os.none _, trivial⟩
  · rintro fZ tZ uZ iZ oZ aZ hF ⟨hM, hG, hO, hN⟩ ho hfi hdep
    obtain ⟨hS, hV⟩ := hF.two 51 (by decide) rfl (by decide)
    rcases cZ3 ho with rfl | rfl | rfl <;> cases ho
    · exact t_load (show aZ.eval (.tmp 7) = .pointer (some ⟨w.heap.size + 1 + 1 + 1, 0, none⟩) from (hF.out 7 (by decide)).trans rfl) hM.ks.2.2.2.1.2 Try.underlying25 info_api_Nat hF hS rfl rfl rfl rfl rfl (by decide) (Jt hM hG hN)
    · exact t_call (vs := [(Go.Value.int Go.IntKind.u64 1)]) (by show [(Go.Value.int Go.IntKind.u64 1)] = _; rfl) ent_limb_Of (nOf 1 uZ (by omega) (by omega)) hF hS rfl rfl rfl rfl (by decide) (fun _ hB => (Jt (hM.call hB) hG hN))
    · refine op_plain rfl rfl (fun K hK => ?_)
      refine wp_bin rfl (ve 17 hV (hG.1 (dd 0 hdep))) (ve 18 hV (hG.2.1 (dd 1 hdep))) (eql_n _ _ ht In_1 _ hz uZ) ?_
      exact tell hK hF hS (by decide) (Jt hM hG hN)
  rintro fZ tZ u1 ⟨hM, hG, hO, hN⟩ hall
  obtain ⟨e17, e18, e19, -⟩ := Gs.all 3 hall hG rfl
  have HB1 : Below w.heap.size w u1 := hM.bel
  have sz1 : v0.heap.size ≤ u1.heap.size := hM.sz
  obtain ⟨⟨l1p0, K1p0⟩, -, -, -, ⟨l1r8, K1r8⟩, -⟩ := hM.ks.up hM.sz
  dsimp only at l1p0 K1p0 l1r8 K1r8
  simp only [ovr, List.set_cons_zero, List.set_cons_succ, e17, e18, e19]
  clear hM hG hO hN hall e17 e18 e19 K0p0 K0p1 K0p2 K0p3 K0r8 HB0
  clear tZ
  go_upto_region 2 with fail
  refine region_plain [20] (fun fZ tZ uZ => MR w.heap.size w (u1.heap.size) [(w.heap.size, LN x)] [(w.heap.size + 1 + 1 + 1 + 1, fZ 1, L0s, LN x)] [] uZ ∧ Gs fZ tZ [(0, 20, NV x)] ∧ Os fZ [] ∧ Ns fZ tZ []) (by kernel_rfl) ?_ ?_ ?_
  · exact ⟨{ bel := HB1, lo := HB1.size, sz := Nat.le_refl _, ks := ⟨⟨l1p0, K1p0⟩, trivial⟩, ex := ⟨⟨(by omega), l1r8, rfl, K1r8⟩, trivial⟩, nw := trivial, nd := trivial }, Gs.none _ _, Os.none _, trivial⟩
  · rintro fZ tZ uZ iZ oZ aZ hF ⟨hM, hG, hO, hN⟩ ho hfi hdep
    obtain ⟨hS, hV⟩ := hF.two 51 (by decide) rfl (by decide)
    rcases cZ2 ho with rfl | rfl <;> cases ho
    · exact t_load (show aZ.eval (.tmp 4) = .pointer (some ⟨w.heap.size, 0, none⟩) from (hF.out 4 (by decide)).trans rfl) hM.ks.1.2 Try.underlying25 info_api_Nat hF hS rfl rfl rfl rfl rfl (by decide) (Jt hM hG hN)
    · refine op_plain rfl rfl (fun K hK => ?_)
      have kk : CV uZ (w.heap.size + 1 + 1 + 1 + 1) (bif fZ 1 then LN x else L0s) := hM.ex.1.2.2.2
      rw [hfi] at kk
      have kk : CV uZ (w.heap.size + 1 + 1 + 1 + 1) (L0s) := kk
      refine wp_store_mid 25 _ _ rfl (w.heap.size + 1 + 1 + 1 + 1) 0 (LN x : List Value).toArray (show aZ.eval (.tmp 8) = .pointer (some ⟨w.heap.size + 1 + 1 + 1 + 1, 0, none⟩) from (hF.out 8 (by decide)).trans rfl) (ve 20 hV (hG.1 (dd 0 hdep))) kk.there info_api_Nat (all_one rfl) ?_
      exact tell0 hK hF ⟨MR.putXF 0 hM rfl ⟨by omega, trivial⟩ trivial, Gs.idle rfl hG, trivial, Ns.idle hN⟩
  rintro fZ tZ u2 ⟨hM, hG, hO, hN⟩ hall
  obtain ⟨e20, -⟩ := Gs.all 2 hall hG rfl
  have HB2 : Below w.heap.size w u2 := hM.bel
  have sz2 : u1.heap.size ≤ u2.heap.size := hM.sz
  have K2r8 : CV u2 (w.heap.size + 1 + 1 + 1 + 1) (LN x) := by
    have h1 : CV u2 (w.heap.size + 1 + 1 + 1 + 1) (bif fZ 1 then LN x else L0s) := hM.ex.1.2.2.2
    rw [hall 1 (by decide)] at h1; exact h1
  have l2r8 : w.heap.size + 1 + 1 + 1 + 1 < u2.heap.size := Nat.lt_of_lt_of_le hM.ex.1.2.1 hM.sz
  simp only [ovr, List.set_cons_zero, List.set_cons_succ, e20]
  clear hM hG hO hN hall e20 K1p0 K1r8 HB1
  clear tZ
  have c8_0 := (K2r8 0 _ rfl).1
  have c8_1 := (K2r8 1 _ rfl).1
  have c8_2 := (K2r8 2 _ rfl).1
  have c8_3 := (K2r8 3 _ rfl).1
  go_wp2
  refine bodyPost_ret (v := NV x) (by simp [results, Try.results91, go_sem, c8_0, c8_1, c8_2, c8_3]) rfl ⟨rfl, HB2⟩
set_option maxRecDepth 100000 in
set_option maxHeartbeats 2000000 in
theorem mjoin (x o y t i : Int) (w : World) (hx : In x) (ho : In o) (hy : In y) (ht : In t) (h : t ≠ 0) (h1 : t ≠ 1) (hg : gI t (o % t) = 1) (hi : IsInv (o % t) t i) (hxo : x < o) (hot : o * t ≤ 115792089237316195423570985008687907853269984665640564039457584007913129639936) :
    Calls Try.prog 91 #[NV x, NV o, NV y, NV t] w fun e w' => e = .returned (NV (x + (y - x) % t * i % t * o)) ∧ Below w.heap.size w w' := by
  have hz : decide (t = 1) = false := by simp [h1]
  have ii : In i := In_le ht hi.1 (by have := hi.2.1; omega)
  have ht0 := ht.1; have hx0 := hx.1; have ho0 := ho.1
  have k0 := Int.emod_nonneg ((y - x) % t * i) h
  have k1 := Int.emod_lt_of_pos ((y - x) % t * i) (show 0 < t by omega)
  have k2 : 0 ≤ (y - x) % t * i % t * o := Int.mul_nonneg k0 ho0
  have k3 : (y - x) % t * i % t * o ≤ (t - 1) * o := Int.mul_le_mul_of_nonneg_right (by omega) ho0
  have k4 : (t - 1) * o = o * t - o := by grind
  have ip : In ((y - x) % t * i % t * o) := ⟨k2, by omega⟩
  have is : x + (y - x) % t * i % t * o < 115792089237316195423570985008687907853269984665640564039457584007913129639936 := by omega
  clear h1 k0 k1 k2 k3 k4 ht0 hx0 ho0
  go_enter Try.func91, Try.ntmps91
  go_upto_region 1 with fail
  generalize hC : (((((w.alloc (.cells (LN x : List Value).toArray 25)).alloc (.cells (LN o : List Value).toArray 25)).alloc (.cells (LN y : List Value).toArray 25)).alloc (.cells (LN t : List Value).toArray 25)).alloc (.cells (L0s : List Value).toArray 25)) = v0 at *
  have HB0 : Below w.heap.size w v0 := by rw [← hC]; exact (balloc (balloc (balloc (balloc (balloc (bself w) _) _) _) _) _)
  have K0p0 : CV v0 (w.heap.size) (LN x) := by rw [← hC]; exact (((((CV.new w (LN x) 25).alloc (by simp <;> omega) _).alloc (by simp <;> omega) _).alloc (by simp <;> omega) _).alloc (by simp <;> omega) _)
  have l0p0 : w.heap.size < v0.heap.size := by rw [← hC]; simp <;> omega
  have K0p1 : CV v0 (w.heap.size + 1) (LN o) := by rw [← hC]; exact ((((CV.newAt (w.alloc (.cells (LN x : List Value).toArray 25)) (LN o) 25 _ (by simp)).alloc (by simp <;> omega) _).alloc (by simp <;> omega) _).alloc (by simp <;> omega) _)
  have l0p1 : w.heap.size + 1 < v0.heap.size := by rw [← hC]; simp <;> omega
  have K0p2 : CV v0 (w.heap.size + 1 + 1) (LN y) := by rw [← hC]; exact (((CV.newAt ((w.alloc (.cells (LN x : List Value).toArray 25)).alloc (.cells (LN o : List Value).toArray 25)) (LN y) 25 _ (by simp)).alloc (by simp <;> omega) _).alloc (by simp <;> omega) _)
  have l0p2 : w.heap.size + 1 + 1 < v0.heap.size := by rw [← hC]; simp <;> omega
  have K0p3 : CV v0 (w.heap.size + 1 + 1 + 1) (LN t) := by rw [← hC]; exact ((CV.newAt (((w.alloc (.cells (LN x : List Value).toArray 25)).alloc (.cells (LN o : List Value).toArray 25)).alloc (.cells (LN y : List Value).toArray 25)) (LN t) 25 _ (by simp)).alloc (by simp <;> omega) _)
  have l0p3 : w.heap.size + 1 + 1 + 1 < v0.heap.size := by rw [← hC]; simp <;> omega
  have K0r8 : CV v0 (w.heap.size + 1 + 1 + 1 + 1) (L0s) := by rw [← hC]; exact (CV.newAt ((((w.alloc (.cells (LN x : List Value).toArray 25)).alloc (.cells (LN o : List Value).toArray 25)).alloc (.cells (LN y : List Value).toArray 25)).alloc (.cells (LN t : List Value).toArray 25)) (L0s) 25 _ (by simp))
  have l0r8 : w.heap.size + 1 + 1 + 1 + 1 < v0.heap.size := by rw [← hC]; simp <;> omega
  clear hC
  refine region_drawn [17, 18, 19] (fun fZ tZ uZ => MR w.heap.size w (v0.heap.size) [(w.heap.size, LN x), (w.heap.size + 1, LN o), (w.heap.size + 1 + 1, LN y), (w.heap.size + 1 + 1 + 1, LN t), (w.heap.size + 1 + 1 + 1 + 1, L0s)] [] [] uZ ∧ Gs fZ tZ [(0, 17, NV t), (1, 18, NV 1), (2, 19, .bool false)] ∧ Os fZ [] ∧ Ns fZ tZ []) (by kernel_rfl) (by kernel_rfl) ?_ ?_ ?_
  · exact ⟨{ bel := HB0.drew, lo := HB0.size, sz := Nat.le_refl _, ks := ⟨⟨l0p0, K0p0⟩, ⟨l0p1, K0p1⟩, ⟨l0p2, K0p2⟩, ⟨l0p3, K0p3⟩, ⟨l0r8, K0r8⟩, trivial⟩, ex := trivial, nw := trivial, nd := trivial }, Gs.none _ _, Os.none _, trivial⟩
  · rintro fZ tZ uZ iZ oZ aZ hF ⟨hM, hG, hO, hN⟩ ho hfi hdep
    obtain ⟨hS, hV⟩ := hF.two 51 (by decide) rfl (by decide)
    rcases cZ3 ho with rfl | rfl | rfl <;> cases ho
    · exact t_load (show aZ.eval (.tmp 7) = .pointer (some ⟨w.heap.size + 1 + 1 + 1, 0, none⟩) from (hF.out 7 (by decide)).trans rfl) hM.ks.2.2.2.1.2 Try.underlying25 info_api_Nat hF hS rfl rfl rfl rfl rfl (by decide) (Jt hM hG hN)
    · exact t_call (vs := [(Go.Value.int Go.IntKind.u64 1)]) (by show [(Go.Value.int Go.IntKind.u64 1)] = _; rfl) ent_limb_Of (nOf 1 uZ (by omega) (by omega)) hF hS rfl rfl rfl rfl (by decide) (fun _ hB => (Jt (hM.call hB) hG hN))
    · refine op_plain rfl rfl (fun K hK => ?_)
      refine wp_bin rfl (ve 17 hV (hG.1 (dd 0 hdep))) (ve 18 hV (hG.2.1 (dd 1 hdep))) (eql_n _ _ ht In_1 _ hz uZ) ?_
      exact tell hK hF hS (by decide) (Jt hM hG hN)
  rintro fZ tZ u1 ⟨hM, hG, hO, hN⟩ hall
  obtain ⟨e17, e18, e19, -⟩ := Gs.all 3 hall hG rfl
  have HB1 : Below w.heap.size w u1 := hM.bel
  have sz1 : v0.heap.size ≤ u1.heap.size := hM.sz
  obtain ⟨⟨l1p0, K1p0⟩, ⟨l1p1, K1p1⟩, ⟨l1p2, K1p2⟩, ⟨l1p3, K1p3⟩, ⟨l1r8, K1r8⟩, -⟩ := hM.ks.up hM.sz
  dsimp only at l1p0 K1p0 l1p1 K1p1 l1p2 K1p2 l1p3 K1p3 l1r8 K1r8
  simp only [ovr, List.set_cons_zero, List.set_cons_succ, e17, e18, e19]
  clear hM hG hO hN hall e17 e18 e19 K0p0 K0p1 K0p2 K0p3 K0r8 HB0
  clear tZ
  go_upto_region 3 with fail
  refine region_plain [22, 23, 24, 21, 25, 26, 9, 10] (fun fZ tZ uZ => MR w.heap.size w (u1.heap.size) [(w.heap.size, LN x), (w.heap.size + 1, LN o), (w.heap.size + 1 + 1, LN y), (w.heap.size + 1 + 1 + 1, LN t), (w.heap.size + 1 + 1 + 1 + 1, L0s)] [] [(fZ 6, fZ 7, tZ 9, L0s, LN i)] uZ ∧ Gs fZ tZ [(0, 22, NV o), (1, 23, NV t), (2, 24, .tuple #[NV i, .int .i64 0]), (3, 21, .tuple #[NV i, .int .i64 0]), (4, 25, NV i), (5, 26, .int .i64 0), (8, 10, .int .i64 0)] ∧ Os fZ [(7, 6)] ∧ Ns fZ tZ []) (by kernel_rfl) ?_ ?_ ?_
  · exact ⟨{ bel := HB1, lo := HB1.size, sz := Nat.le_refl _, ks := ⟨⟨l1p0, K1p0⟩, ⟨l1p1, K1p1⟩, ⟨l1p2, K1p2⟩, ⟨l1p3, K1p3⟩, ⟨l1r8, K1r8⟩, trivial⟩, ex := trivial, nw := ⟨fun e => (by cases e), trivial⟩, nd := ⟨fun e => (by cases e), trivial⟩ }, Gs.none _ _, Os.none _, trivial⟩
  · rintro fZ tZ uZ iZ oZ aZ hF ⟨hM, hG, hO, hN⟩ ho hfi hdep
    obtain ⟨hS, hV⟩ := hF.two 51 (by decide) rfl (by decide)
    rcases cZ9 ho with rfl | rfl | rfl | rfl | rfl | rfl | rfl | rfl | rfl <;> cases ho
    · exact t_load (show aZ.eval (.tmp 5) = .pointer (some ⟨w.heap.size + 1, 0, none⟩) from (hF.out 5 (by decide)).trans rfl) hM.ks.2.1.2 Try.underlying25 info_api_Nat hF hS rfl rfl rfl rfl rfl (by decide) (Jm hM hG hO hN)
    · exact t_load (show aZ.eval (.tmp 7) = .pointer (some ⟨w.heap.size + 1 + 1 + 1, 0, none⟩) from (hF.out 7 (by decide)).trans rfl) hM.ks.2.2.2.1.2 Try.underlying25 info_api_Nat hF hS rfl rfl rfl rfl rfl (by decide) (Jm hM hG hO hN)
    · exact t_call (vs := [NV o, NV t]) (by show [aZ.eval (.tmp 22), aZ.eval (.tmp 23)] = _; rw [(ve 22 hV (hG.1 (dd 0 hdep))), (ve 23 hV (hG.2.1 (dd 1 hdep)))]) ent_mod_Inverse (mInverse o t i uZ ho ht h hg hi) hF hS rfl rfl rfl rfl (by decide) (fun _ hB => (Jm (hM.call hB) hG hO hN))
    · exact t_move (ve 24 hV (hG.2.2.1 (dd 2 hdep))) hF hS rfl rfl rfl rfl (by decide) (Jm hM hG hO hN)
    · exact t_extract (ve 21 hV (hG.2.2.2.1 (dd 3 hdep))) hF hS rfl rfl rfl rfl rfl (by decide) (Jm hM hG hO hN)
    · exact t_extract (ve 21 hV (hG.2.2.2.1 (dd 3 hdep))) hF hS rfl rfl rfl rfl rfl (by decide) (Jm hM hG hO hN)
    · have q1 : fZ 7 = false := Os.not (hO.1) hfi
      exact t_alloc (al_api_Nat uZ) hF hS rfl rfl rfl rfl (by decide) ⟨MR.newF 0 hM rfl hfi q1, Gs.other rfl hG, hO.keep rfl, Ns.step hN rfl⟩
    · exact t_storeN 0 hM rfl (dd 6 hdep) hfi (hV 9 (by decide)) (ve 25 hV (hG.2.2.2.2.1 (dd 4 hdep))) rfl info_api_Nat rfl hF rfl rfl rfl rfl (fun _ h => ⟨h, Gs.idle rfl hG, ⟨fun _ => (dd 6 hdep :), trivial⟩, Ns.idle hN⟩)
    · exact t_assign (ve 26 hV (hG.2.2.2.2.2.1 (dd 5 hdep))) hF hS rfl rfl rfl rfl (by decide) (Jm hM hG hO hN)
  rintro fZ tZ u2 ⟨hM, hG, hO, hN⟩ hall
  obtain ⟨e22, e23, e24, e21, e25, e26, e10, -⟩ := Gs.all 9 hall hG rfl
  obtain ⟨b2_6, ee9, pb2_6, lb2_6, kb2_6⟩ := hM.nw.1 (hall 6 (by decide))
  have e9 : tZ 9 = .pointer (some ⟨b2_6, 0, none⟩) := ee9
  clear ee9
  have Kb2_6 : CV u2 b2_6 (LN i) := by
    have h1 : CV u2 b2_6 (bif fZ 7 then LN i else L0s) := kb2_6
    rw [hall 7 (by decide)] at h1; exact h1
  clear kb2_6
  have HB2 : Below w.heap.size w u2 := hM.bel
  have sz2 : u1.heap.size ≤ u2.heap.size := hM.sz
  obtain ⟨⟨l2p0, K2p0⟩, ⟨l2p1, K2p1⟩, ⟨l2p2, K2p2⟩, ⟨l2p3, K2p3⟩, ⟨l2r8, K2r8⟩, -⟩ := hM.ks.up hM.sz
  dsimp only at l2p0 K2p0 l2p1 K2p1 l2p2 K2p2 l2p3 K2p3 l2r8 K2r8
  simp only [ovr, List.set_cons_zero, List.set_cons_succ, e22, e23, e24, e21, e25, e26, e10, e9]
  clear hM hG hO hN hall e22 e23 e24 e21 e25 e26 e10 e9 K1p0 K1p1 K1p2 K1p3 K1r8 HB1
  clear tZ
  go_upto_region 4 with fail
  refine region_plain [28, 29, 30, 31, 27, 32, 33, 11, 12] (fun fZ tZ uZ => MR w.heap.size w (u2.heap.size) [(w.heap.size, LN x), (w.heap.size + 1, LN o), (w.heap.size + 1 + 1, LN y), (w.heap.size + 1 + 1 + 1, LN t), (w.heap.size + 1 + 1 + 1 + 1, L0s), (b2_6, LN i)] [] [(fZ 7, fZ 8, tZ 11, L0s, LN ((y - x) % t))] uZ ∧ Gs fZ tZ [(0, 28, NV y), (1, 29, NV x), (2, 30, NV t), (3, 31, .tuple #[NV ((y - x) % t), .int .i64 0]), (4, 27, .tuple #[NV ((y - x) % t), .int .i64 0]), (5, 32, NV ((y - x) % t)), (6, 33, .int .i64 0), (9, 12, .int .i64 0)] ∧ Os fZ [(8, 7)] ∧ Ns fZ tZ []) (by kernel_rfl) ?_ ?_ ?_
  · exact ⟨{ bel := HB2, lo := HB2.size, sz := Nat.le_refl _, ks := ⟨⟨l2p0, K2p0⟩, ⟨l2p1, K2p1⟩, ⟨l2p2, K2p2⟩, ⟨l2p3, K2p3⟩, ⟨l2r8, K2r8⟩, ⟨lb2_6, Kb2_6⟩, trivial⟩, ex := trivial, nw := ⟨fun e => (by cases e), trivial⟩, nd := ⟨fun e => (by cases e), trivial⟩ }, Gs.none _ _, Os.none _, trivial⟩
  · rintro fZ tZ uZ iZ oZ aZ hF ⟨hM, hG, hO, hN⟩ ho hfi hdep
    obtain ⟨hS, hV⟩ := hF.two 51 (by decide) rfl (by decide)
    rcases cZ10 ho with rfl | rfl | rfl | rfl | rfl | rfl | rfl | rfl | rfl | rfl <;> cases ho
    · exact t_load (show aZ.eval (.tmp 6) = .pointer (some ⟨w.heap.size + 1 + 1, 0, none⟩) from (hF.out 6 (by decide)).trans rfl) hM.ks.2.2.1.2 Try.underlying25 info_api_Nat hF hS rfl rfl rfl rfl rfl (by decide) (Jm hM hG hO hN)
    · exact t_load (show aZ.eval (.tmp 4) = .pointer (some ⟨w.heap.size, 0, none⟩) from (hF.out 4 (by decide)).trans rfl) hM.ks.1.2 Try.underlying25 info_api_Nat hF hS rfl rfl rfl rfl rfl (by decide) (Jm hM hG hO hN)
    · exact t_load (show aZ.eval (.tmp 7) = .pointer (some ⟨w.heap.size + 1 + 1 + 1, 0, none⟩) from (hF.out 7 (by decide)).trans rfl) hM.ks.2.2.2.1.2 Try.underlying25 info_api_Nat hF hS rfl rfl rfl rfl rfl (by decide) (Jm hM hG hO hN)
    · exact t_call (vs := [NV y, NV x, NV t]) (by show [aZ.eval (.tmp 28), aZ.eval (.tmp 29), aZ.eval (.tmp 30)] = _; rw [(ve 28 hV (hG.1 (dd 0 hdep))), (ve 29 hV (hG.2.1 (dd 1 hdep))), (ve 30 hV (hG.2.2.1 (dd 2 hdep)))]) ent_mod_Sub (mSub y x t uZ hy hx ht h) hF hS rfl rfl rfl rfl (by decide) (fun _ hB => (Jm (hM.call hB) hG hO hN))
    · exact t_move (ve 31 hV (hG.2.2.2.1 (dd 3 hdep))) hF hS rfl rfl rfl rfl (by decide) (Jm hM hG hO hN)
    · exact t_extract (ve 27 hV (hG.2.2.2.2.1 (dd 4 hdep))) hF hS rfl rfl rfl rfl rfl (by decide) (Jm hM hG hO hN)
    · exact t_extract (ve 27 hV (hG.2.2.2.2.1 (dd 4 hdep))) hF hS rfl rfl rfl rfl rfl (by decide) (Jm hM hG hO hN)
    · have q1 : fZ 8 = false := Os.not (hO.1) hfi
      exact t_alloc (al_api_Nat uZ) hF hS rfl rfl rfl rfl (by decide) ⟨MR.newF 0 hM rfl hfi q1, Gs.other rfl hG, hO.keep rfl, Ns.step hN rfl⟩
    · exact t_storeN 0 hM rfl (dd 7 hdep) hfi (hV 11 (by decide)) (ve 32 hV (hG.2.2.2.2.2.1 (dd 5 hdep))) rfl info_api_Nat rfl hF rfl rfl rfl rfl (fun _ h => ⟨h, Gs.idle rfl hG, ⟨fun _ => (dd 7 hdep :), trivial⟩, Ns.idle hN⟩)
    · exact t_assign (ve 33 hV (hG.2.2.2.2.2.2.1 (dd 6 hdep))) hF hS rfl rfl rfl rfl (by decide) (Jm hM hG hO hN)
  rintro fZ tZ u3 ⟨hM, hG, hO, hN⟩ hall
  obtain ⟨e28, e29, e30, e31, e27, e32, e33, e12, -⟩ := Gs.all 10 hall hG rfl
  obtain ⟨b3_7, ee11, pb3_7, lb3_7, kb3_7⟩ := hM.nw.1 (hall 7 (by decide))
  have e11 : tZ 11 = .pointer (some ⟨b3_7, 0, none⟩) := ee11
  clear ee11
  have Kb3_7 : CV u3 b3_7 (LN ((y - x) % t)) := by
    have h1 : CV u3 b3_7 (bif fZ 8 then LN ((y - x) % t) else L0s) := kb3_7
    rw [hall 8 (by decide)] at h1; exact h1
  clear kb3_7
  have HB3 : Below w.heap.size w u3 := hM.bel
  have sz3 : u2.heap.size ≤ u3.heap.size := hM.sz
  obtain ⟨⟨l3p0, K3p0⟩, ⟨l3p1, K3p1⟩, -, ⟨l3p3, K3p3⟩, ⟨l3r8, K3r8⟩, ⟨l3n3_6, K3n3_6⟩, -⟩ := hM.ks.up hM.sz
  dsimp only at l3p0 K3p0 l3p1 K3p1 l3p3 K3p3 l3r8 K3r8 l3n3_6 K3n3_6
  simp only [ovr, List.set_cons_zero, List.set_cons_succ, e28, e29, e30, e31, e27, e32, e33, e12, e11]
  clear hM hG hO hN hall e28 e29 e30 e31 e27 e32 e33 e12 e11 K2p0 K2p1 K2p2 K2p3 K2r8 Kb2_6 HB2
  clear tZ
  go_upto_region 5 with fail
  refine region_plain [35, 36, 37, 38, 34, 39, 40, 13, 14] (fun fZ tZ uZ => MR w.heap.size w (u3.heap.size) [(w.heap.size, LN x), (w.heap.size + 1, LN o), (w.heap.size + 1 + 1 + 1, LN t), (w.heap.size + 1 + 1 + 1 + 1, L0s), (b2_6, LN i), (b3_7, LN ((y - x) % t))] [] [(fZ 7, fZ 8, tZ 13, L0s, LN ((y - x) % t * i % t))] uZ ∧ Gs fZ tZ [(0, 35, NV ((y - x) % t)), (1, 36, NV i), (2, 37, NV t), (3, 38, .tuple #[NV ((y - x) % t * i % t), .int .i64 0]), (4, 34, .tuple #[NV ((y - x) % t * i % t), .int .i64 0]), (5, 39, NV ((y - x) % t * i % t)), (6, 40, .int .i64 0), (9, 14, .int .i64 0)] ∧ Os fZ [(8, 7)] ∧ Ns fZ tZ []) (by kernel_rfl) ?_ ?_ ?_
  · exact ⟨{ bel := HB3, lo := HB3.size, sz := Nat.le_refl _, ks := ⟨⟨l3p0, K3p0⟩, ⟨l3p1, K3p1⟩, ⟨l3p3, K3p3⟩, ⟨l3r8, K3r8⟩, ⟨l3n3_6, K3n3_6⟩, ⟨lb3_7, Kb3_7⟩, trivial⟩, ex := trivial, nw := ⟨fun e => (by cases e), trivial⟩, nd := ⟨fun e => (by cases e), trivial⟩ }, Gs.none _ _, Os.none _, trivial⟩
  · rintro fZ tZ uZ iZ oZ aZ hF ⟨hM, hG, hO, hN⟩ ho hfi hdep
    obtain ⟨hS, hV⟩ := hF.two 51 (by decide) rfl (by decide)
    rcases cZ10 ho with rfl | rfl | rfl | rfl | rfl | rfl | rfl | rfl | rfl | rfl <;> cases ho
    · exact t_load (show aZ.eval (.tmp 11) = .pointer (some ⟨b3_7, 0, none⟩) from (hF.out 11 (by decide)).trans rfl) hM.ks.2.2.2.2.2.1.2 Try.underlying25 info_api_Nat hF hS rfl rfl rfl rfl rfl (by decide) (Jm hM hG hO hN)
    · exact t_load (show aZ.eval (.tmp 9) = .pointer (some ⟨b2_6, 0, none⟩) from (hF.out 9 (by decide)).trans rfl) hM.ks.2.2.2.2.1.2 Try.underlying25 info_api_Nat hF hS rfl rfl rfl rfl rfl (by decide) (Jm hM hG hO hN)
    · exact t_load (show aZ.eval (.tmp 7) = .pointer (some ⟨w.heap.size + 1 + 1 + 1, 0, none⟩) from (hF.out 7 (by decide)).trans rfl) hM.ks.2.2.1.2 Try.underlying25 info_api_Nat hF hS rfl rfl rfl rfl rfl (by decide) (Jm hM hG hO hN)
    · exact t_call (vs := [NV ((y - x) % t), NV i, NV t]) (by show [aZ.eval (.tmp 35), aZ.eval (.tmp 36), aZ.eval (.tmp 37)] = _; rw [(ve 35 hV (hG.1 (dd 0 hdep))), (ve 36 hV (hG.2.1 (dd 1 hdep))), (ve 37 hV (hG.2.2.1 (dd 2 hdep)))]) ent_mod_Mul (mMul ((y - x) % t) i t uZ (In_mod ht h) ii ht h) hF hS rfl rfl rfl rfl (by decide) (fun _ hB => (Jm (hM.call hB) hG hO hN))
    · exact t_move (ve 38 hV (hG.2.2.2.1 (dd 3 hdep))) hF hS rfl rfl rfl rfl (by decide) (Jm hM hG hO hN)
    · exact t_extract (ve 34 hV (hG.2.2.2.2.1 (dd 4 hdep))) hF hS rfl rfl rfl rfl rfl (by decide) (Jm hM hG hO hN)
    · exact t_extract (ve 34 hV (hG.2.2.2.2.1 (dd 4 hdep))) hF hS rfl rfl rfl rfl rfl (by decide) (Jm hM hG hO hN)
    · have q1 : fZ 8 = false := Os.not (hO.1) hfi
      exact t_alloc (al_api_Nat uZ) hF hS rfl rfl rfl rfl (by decide) ⟨MR.newF 0 hM rfl hfi q1, Gs.other rfl hG, hO.keep rfl, Ns.step hN rfl⟩
    · exact t_storeN 0 hM rfl (dd 7 hdep) hfi (hV 13 (by decide)) (ve 39 hV (hG.2.2.2.2.2.1 (dd 5 hdep))) rfl info_api_Nat rfl hF rfl rfl rfl rfl (fun _ h => ⟨h, Gs.idle rfl hG, ⟨fun _ => (dd 7 hdep :), trivial⟩, Ns.idle hN⟩)
    · exact t_assign (ve 40 hV (hG.2.2.2.2.2.2.1 (dd 6 hdep))) hF hS rfl rfl rfl rfl (by decide) (Jm hM hG hO hN)
  rintro fZ tZ u4 ⟨hM, hG, hO, hN⟩ hall
  obtain ⟨e35, e36, e37, e38, e34, e39, e40, e14, -⟩ := Gs.all 10 hall hG rfl
  obtain ⟨b4_7, ee13, pb4_7, lb4_7, kb4_7⟩ := hM.nw.1 (hall 7 (by decide))
  have e13 : tZ 13 = .pointer (some ⟨b4_7, 0, none⟩) := ee13
  clear ee13
  have Kb4_7 : CV u4 b4_7 (LN ((y - x) % t * i % t)) := by
    have h1 : CV u4 b4_7 (bif fZ 8 then LN ((y - x) % t * i % t) else L0s) := kb4_7
    rw [hall 8 (by decide)] at h1; exact h1
  clear kb4_7
  have HB4 : Below w.heap.size w u4 := hM.bel
  have sz4 : u3.heap.size ≤ u4.heap.size := hM.sz
  obtain ⟨⟨l4p0, K4p0⟩, ⟨l4p1, K4p1⟩, -, ⟨l4r8, K4r8⟩, -, -, -⟩ := hM.ks.up hM.sz
  dsimp only at l4p0 K4p0 l4p1 K4p1 l4r8 K4r8
  simp only [ovr, List.set_cons_zero, List.set_cons_succ, e35, e36, e37, e38, e34, e39, e40, e14, e13]
  clear hM hG hO hN hall e35 e36 e37 e38 e34 e39 e40 e14 e13 K3n3_6 K3p0 K3p1 K3p3 K3r8 Kb3_7 HB3
  clear tZ
  go_upto_region 6 with fail
  refine region_drawn [42, 43, 44, 45, 46, 47, 41, 48, 49, 15, 16] (fun fZ tZ uZ => MR w.heap.size w (u4.heap.size) [(w.heap.size, LN x), (w.heap.size + 1, LN o), (w.heap.size + 1 + 1 + 1 + 1, L0s), (b4_7, LN ((y - x) % t * i % t))] [] [(fZ 9, fZ 10, tZ 15, L0s, LN (x + (y - x) % t * i % t * o))] uZ ∧ Gs fZ tZ [(0, 42, NV x), (1, 43, NV ((y - x) % t * i % t)), (2, 44, NV o), (3, 45, WV ((y - x) % t * i % t * o)), (4, 46, NV ((y - x) % t * i % t * o)), (5, 47, .tuple #[NV (x + (y - x) % t * i % t * o), .bool false]), (6, 41, .tuple #[NV (x + (y - x) % t * i % t * o), .bool false]), (7, 48, NV (x + (y - x) % t * i % t * o)), (8, 49, .bool false), (11, 16, .bool false)] ∧ Os fZ [(10, 9)] ∧ Ns fZ tZ []) (by kernel_rfl) (by kernel_rfl) ?_ ?_ ?_
  · exact ⟨{ bel := HB4.drew, lo := HB4.size, sz := Nat.le_refl _, ks := ⟨⟨l4p0, K4p0⟩, ⟨l4p1, K4p1⟩, ⟨l4r8, K4r8⟩, ⟨lb4_7, Kb4_7⟩, trivial⟩, ex := trivial, nw := ⟨fun e => (by cases e), trivial⟩, nd := ⟨fun e => (by cases e), trivial⟩ }, Gs.none _ _, Os.none _, trivial⟩
  · rintro fZ tZ uZ iZ oZ aZ hF ⟨hM, hG, hO, hN⟩ ho hfi hdep
    obtain ⟨hS, hV⟩ := hF.two 51 (by decide) rfl (by decide)
    rcases cZ12 ho with rfl | rfl | rfl | rfl | rfl | rfl | rfl | rfl | rfl | rfl | rfl | rfl <;> cases ho
    · exact t_load (show aZ.eval (.tmp 4) = .pointer (some ⟨w.heap.size, 0, none⟩) from (hF.out 4 (by decide)).trans rfl) hM.ks.1.2 Try.underlying25 info_api_Nat hF hS rfl rfl rfl rfl rfl (by decide) (Jm hM hG hO hN)
    · exact t_load (show aZ.eval (.tmp 13) = .pointer (some ⟨b4_7, 0, none⟩) from (hF.out 13 (by decide)).trans rfl) hM.ks.2.2.2.1.2 Try.underlying25 info_api_Nat hF hS rfl rfl rfl rfl rfl (by decide) (Jm hM hG hO hN)
    · exact t_load (show aZ.eval (.tmp 5) = .pointer (some ⟨w.heap.size + 1, 0, none⟩) from (hF.out 5 (by decide)).trans rfl) hM.ks.2.1.2 Try.underlying25 info_api_Nat hF hS rfl rfl rfl rfl rfl (by decide) (Jm hM hG hO hN)
    · exact t_call (vs := [NV ((y - x) % t * i % t), NV o]) (by show [aZ.eval (.tmp 43), aZ.eval (.tmp 44)] = _; rw [(ve 43 hV (hG.2.1 (dd 1 hdep))), (ve 44 hV (hG.2.2.1 (dd 2 hdep)))]) ent_limb_Mul (nMul ((y - x) % t * i % t) o uZ (In_mod ht h) ho) hF hS rfl rfl rfl rfl (by decide) (fun _ hB => (Jm (hM.call hB) hG hO hN))
    · exact t_call (vs := [WV ((y - x) % t * i % t * o)]) (by show [aZ.eval (.tmp 45)] = _; rw [(ve 45 hV (hG.2.2.2.1 (dd 3 hdep)))]) ent_mod_low (mlowI ((y - x) % t * i % t * o) uZ ip) hF hS rfl rfl rfl rfl (by decide) (fun _ hB => (Jm (hM.call hB) hG hO hN))
    · exact t_call (vs := [NV x, NV ((y - x) % t * i % t * o)]) (by show [aZ.eval (.tmp 42), aZ.eval (.tmp 46)] = _; rw [(ve 42 hV (hG.1 (dd 0 hdep))), (ve 46 hV (hG.2.2.2.2.1 (dd 4 hdep)))]) ent_limb_Add (nAdd_lt x ((y - x) % t * i % t * o) uZ hx ip is) hF hS rfl rfl rfl rfl (by decide) (fun _ hB => (Jm (hM.call hB) hG hO hN))
    · exact t_move (ve 47 hV (hG.2.2.2.2.2.1 (dd 5 hdep))) hF hS rfl rfl rfl rfl (by decide) (Jm hM hG hO hN)
    · exact t_extract (ve 41 hV (hG.2.2.2.2.2.2.1 (dd 6 hdep))) hF hS rfl rfl rfl rfl rfl (by decide) (Jm hM hG hO hN)
    · exact t_extract (ve 41 hV (hG.2.2.2.2.2.2.1 (dd 6 hdep))) hF hS rfl rfl rfl rfl rfl (by decide) (Jm hM hG hO hN)
    · have q1 : fZ 10 = false := Os.not (hO.1) hfi
      exact t_alloc (al_api_Nat uZ) hF hS rfl rfl rfl rfl (by decide) ⟨MR.newF 0 hM rfl hfi q1, Gs.other rfl hG, hO.keep rfl, Ns.step hN rfl⟩
    · exact t_storeN 0 hM rfl (dd 9 hdep) hfi (hV 15 (by decide)) (ve 48 hV (hG.2.2.2.2.2.2.2.1 (dd 7 hdep))) rfl info_api_Nat rfl hF rfl rfl rfl rfl (fun _ h => ⟨h, Gs.idle rfl hG, ⟨fun _ => (dd 9 hdep :), trivial⟩, Ns.idle hN⟩)
    · exact t_assign (ve 49 hV (hG.2.2.2.2.2.2.2.2.1 (dd 8 hdep))) hF hS rfl rfl rfl rfl (by decide) (Jm hM hG hO hN)
  rintro fZ tZ u5 ⟨hM, hG, hO, hN⟩ hall
  obtain ⟨e42, e43, e44, e45, e46, e47, e41, e48, e49, e16, -⟩ := Gs.all 12 hall hG rfl
  obtain ⟨b5_9, ee15, pb5_9, lb5_9, kb5_9⟩ := hM.nw.1 (hall 9 (by decide))
  have e15 : tZ 15 = .pointer (some ⟨b5_9, 0, none⟩) := ee15
  clear ee15
  have Kb5_9 : CV u5 b5_9 (LN (x + (y - x) % t * i % t * o)) := by
    have h1 : CV u5 b5_9 (bif fZ 10 then LN (x + (y - x) % t * i % t * o) else L0s) := kb5_9
    rw [hall 10 (by decide)] at h1; exact h1
  clear kb5_9
  have HB5 : Below w.heap.size w u5 := hM.bel
  have sz5 : u4.heap.size ≤ u5.heap.size := hM.sz
  obtain ⟨-, -, ⟨l5r8, K5r8⟩, -, -⟩ := hM.ks.up hM.sz
  dsimp only at l5r8 K5r8
  simp only [ovr, List.set_cons_zero, List.set_cons_succ, e42, e43, e44, e45, e46, e47, e41, e48, e49, e16, e15]
  clear hM hG hO hN hall e42 e43 e44 e45 e46 e47 e41 e48 e49 e16 e15 K4p0 K4p1 K4r8 Kb4_7 HB4
  clear tZ
  go_upto_region 7 with fail
  refine region_plain [50] (fun fZ tZ uZ => MR w.heap.size w (u5.heap.size) [(b5_9, LN (x + (y - x) % t * i % t * o))] [(w.heap.size + 1 + 1 + 1 + 1, fZ 1, L0s, LN (x + (y - x) % t * i % t * o))] [] uZ ∧ Gs fZ tZ [(0, 50, NV (x + (y - x) % t * i % t * o))] ∧ Os fZ [] ∧ Ns fZ tZ []) (by kernel_rfl) ?_ ?_ ?_
  · exact ⟨{ bel := HB5, lo := HB5.size, sz := Nat.le_refl _, ks := ⟨⟨lb5_9, Kb5_9⟩, trivial⟩, ex := ⟨⟨(by omega), l5r8, rfl, K5r8⟩, trivial⟩, nw := trivial, nd := trivial }, Gs.none _ _, Os.none _, trivial⟩
  · rintro fZ tZ uZ iZ oZ aZ hF ⟨hM, hG, hO, hN⟩ ho hfi hdep
    obtain ⟨hS, hV⟩ := hF.two 51 (by decide) rfl (by decide)
    rcases cZ2 ho with rfl | rfl <;> cases ho
    · exact t_load (show aZ.eval (.tmp 15) = .pointer (some ⟨b5_9, 0, none⟩) from (hF.out 15 (by decide)).trans rfl) hM.ks.1.2 Try.underlying25 info_api_Nat hF hS rfl rfl rfl rfl rfl (by decide) (Jt hM hG hN)
    · refine op_plain rfl rfl (fun K hK => ?_)
      have kk : CV uZ (w.heap.size + 1 + 1 + 1 + 1) (bif fZ 1 then LN (x + (y - x) % t * i % t * o) else L0s) := hM.ex.1.2.2.2
      rw [hfi] at kk
      have kk : CV uZ (w.heap.size + 1 + 1 + 1 + 1) (L0s) := kk
      refine wp_store_mid 25 _ _ rfl (w.heap.size + 1 + 1 + 1 + 1) 0 (LN (x + (y - x) % t * i % t * o) : List Value).toArray (show aZ.eval (.tmp 8) = .pointer (some ⟨w.heap.size + 1 + 1 + 1 + 1, 0, none⟩) from (hF.out 8 (by decide)).trans rfl) (ve 50 hV (hG.1 (dd 0 hdep))) kk.there info_api_Nat (all_one rfl) ?_
      exact tell0 hK hF ⟨MR.putXF 0 hM rfl ⟨by omega, trivial⟩ trivial, Gs.idle rfl hG, trivial, Ns.idle hN⟩
  rintro fZ tZ u6 ⟨hM, hG, hO, hN⟩ hall
  obtain ⟨e50, -⟩ := Gs.all 2 hall hG rfl
  have HB6 : Below w.heap.size w u6 := hM.bel
  have sz6 : u5.heap.size ≤ u6.heap.size := hM.sz
  have K6r8 : CV u6 (w.heap.size + 1 + 1 + 1 + 1) (LN (x + (y - x) % t * i % t * o)) := by
    have h1 : CV u6 (w.heap.size + 1 + 1 + 1 + 1) (bif fZ 1 then LN (x + (y - x) % t * i % t * o) else L0s) := hM.ex.1.2.2.2
    rw [hall 1 (by decide)] at h1; exact h1
  have l6r8 : w.heap.size + 1 + 1 + 1 + 1 < u6.heap.size := Nat.lt_of_lt_of_le hM.ex.1.2.1 hM.sz
  simp only [ovr, List.set_cons_zero, List.set_cons_succ, e50]
  clear hM hG hO hN hall e50 K5r8 Kb5_9 HB5
  clear tZ
  have c8_0 := (K6r8 0 _ rfl).1
  have c8_1 := (K6r8 1 _ rfl).1
  have c8_2 := (K6r8 2 _ rfl).1
  have c8_3 := (K6r8 3 _ rfl).1
  go_wp2
  refine bodyPost_ret (v := NV (x + (y - x) % t * i % t * o)) (by simp [results, Try.results91, go_sem, c8_0, c8_1, c8_2, c8_3]) rfl ⟨rfl, HB6⟩
end Go.Proofs.Ytkpnjmfndgfogaa
