/- Numbers modulo one: Exp. -/
import Derived.Test.YtkpnjmfndgfogaaMO5
import Derived.Test.YtkpnjmfndgfogaaMO6
namespace Go.Proofs.Ytkpnjmfndgfogaa
open Go.RowKit
set_option linter.unusedVariables false
set_option linter.unusedSimpArgs false
theorem In_R4 (n : Int) : In (n % 115792089237316195423570985008687907853269984665640564039457584007913129639936) := ⟨Int.emod_nonneg _ (by decide), Int.emod_lt_of_pos _ (by decide)⟩
theorem mraise_low (a e : Int) (bo : Nat) (w : World) (ha : In a) (he : In e) (lb : bo < w.heap.size) :
    Calls Try.prog 88 #[NV a, NV e, NV 1, .func (.func 89) #[] #[]] w fun en w' => en = .returned (NV (a ^ e.toNat % 115792089237316195423570985008687907853269984665640564039457584007913129639936)) ∧ Below w.heap.size w w' := by
  have hT : Hid (∀ (i j : Nat) (u : World), CV u bo [] → bo < u.heap.size → Calls Try.prog 89 (([] : List Value) ++ [NV (a ^ i % 115792089237316195423570985008687907853269984665640564039457584007913129639936), NV (a ^ j % 115792089237316195423570985008687907853269984665640564039457584007913129639936)]).toArray u fun en u' => en = .returned (NV (a ^ (i + j) % 115792089237316195423570985008687907853269984665640564039457584007913129639936)) ∧ Below u.heap.size u u') := fun i j u _ _ => by
    have k := mlowProduct (a ^ i % 115792089237316195423570985008687907853269984665640564039457584007913129639936) (a ^ j % 115792089237316195423570985008687907853269984665640564039457584007913129639936) u (In_R4 _) (In_R4 _)
    rw [← Int.mul_emod, ← Int.pow_add] at k
    exact k
  have k := mraise 89 [] (fun k => a ^ k % 115792089237316195423570985008687907853269984665640564039457584007913129639936) e bo [] w ent_mod_lowProduct hT he (fun j v hj => by simp at hj) lb
  have e0 : a ^ 0 % 115792089237316195423570985008687907853269984665640564039457584007913129639936 = 1 := by rw [Int.pow_zero]; decide
  have e1 : a ^ 1 % 115792089237316195423570985008687907853269984665640564039457584007913129639936 = a := by rw [Int.pow_succ, Int.pow_zero, Int.one_mul]; exact In_lo ha
  simp only [e0, e1] at k
  exact k
set_option maxRecDepth 100000 in
set_option maxHeartbeats 16000000 in
theorem mExp0 (a e : Int) (w : World) :
    Calls Try.prog 64 #[NV a, NV e, A4 0 0 0 0] w fun en w' => en = .returned (.tuple #[A4 0 0 0 0, .int .i64 20]) ∧ Below w.heap.size w w' := by
  go_enter Try.func64, Try.ntmps64
  go_upto_region 1 with fail
  generalize hC : ((((w.alloc (.cells (LN a : List Value).toArray 25)).alloc (.cells (LN e : List Value).toArray 25)).alloc (.cells ([.int .u64 (0), .int .u64 (0), .int .u64 (0), .int .u64 (0)] : List Value).toArray 25)).alloc (.cells (L0s : List Value).toArray 25)) = v0 at *
  have HB0 : Below w.heap.size w v0 := by rw [← hC]; exact (balloc (balloc (balloc (balloc (bself w) _) _) _) _)
  have K0p0 : CV v0 (w.heap.size) (LN a) := by rw [← hC]; exact ((((CV.new w (LN a) 25).alloc (by simp <;> omega) _).alloc (by simp <;> omega) _).alloc (by simp <;> omega) _)
  have l0p0 : w.heap.size < v0.heap.size := by rw [← hC]; simp <;> omega
  have K0p1 : CV v0 (w.heap.size + 1) (LN e) := by rw [← hC]; exact (((CV.newAt (w.alloc (.cells (LN a : List Value).toArray 25)) (LN e) 25 _ (by simp)).alloc (by simp <;> omega) _).alloc (by simp <;> omega) _)
  have l0p1 : w.heap.size + 1 < v0.heap.size := by rw [← hC]; simp <;> omega
  have K0p2 : CV v0 (w.heap.size + 1 + 1) ([.int .u64 (0), .int .u64 (0), .int .u64 (0), .int .u64 (0)]) := by rw [← hC]; exact ((CV.newAt ((w.alloc (.cells (LN a : List Value).toArray 25)).alloc (.cells (LN e : List Value).toArray 25)) ([.int .u64 (0), .int .u64 (0), .int .u64 (0), .int .u64 (0)]) 25 _ (by simp)).alloc (by simp <;> omega) _)
  have l0p2 : w.heap.size + 1 + 1 < v0.heap.size := by rw [← hC]; simp <;> omega
  have K0r6 : CV v0 (w.heap.size + 1 + 1 + 1) (L0s) := by rw [← hC]; exact (CV.newAt (((w.alloc (.cells (LN a : List Value).toArray 25)).alloc (.cells (LN e : List Value).toArray 25)).alloc (.cells ([.int .u64 (0), .int .u64 (0), .int .u64 (0), .int .u64 (0)] : List Value).toArray 25)) (L0s) 25 _ (by simp))
  have l0r6 : w.heap.size + 1 + 1 + 1 < v0.heap.size := by rw [← hC]; simp <;> omega
  clear hC
  refine region_drawn [12, 13, 8, 9] (fun fZ tZ uZ => MR w.heap.size w (v0.heap.size) [(w.heap.size, LN a), (w.heap.size + 1, LN e), (w.heap.size + 1 + 1, [.int .u64 (0), .int .u64 (0), .int .u64 (0), .int .u64 (0)]), (w.heap.size + 1 + 1 + 1, L0s)] [] [(fZ 2, fZ 4, tZ 8, L0s, [.int .u64 (0), .int .u64 (0), .int .u64 (0), .int .u64 (0)]), (fZ 3, fZ 5, tZ 9, L0s, LN 1)] uZ ∧ Gs fZ tZ [(0, 12, .agg #[.int .u64 (0), .int .u64 (0), .int .u64 (0), .int .u64 (0)]), (1, 13, NV 1)] ∧ Os fZ [(4, 2), (5, 3)] ∧ Ns fZ tZ []) (by kernel_rfl) (by kernel_rfl) ?_ ?_ ?_
  · exact ⟨{ bel := HB0.drew, lo := HB0.size, sz := Nat.le_refl _, ks := ⟨⟨l0p0, K0p0⟩, ⟨l0p1, K0p1⟩, ⟨l0p2, K0p2⟩, ⟨l0r6, K0r6⟩, trivial⟩, ex := trivial, nw := ⟨fun e => (by cases e), fun e => (by cases e), trivial⟩, nd := ⟨fun e => (by cases e), fun e => (by cases e), trivial⟩ }, Gs.none _ _, Os.none _, trivial⟩
  · rintro fZ tZ uZ iZ oZ aZ hF ⟨hM, hG, hO, hN⟩ ho hfi hdep
    obtain ⟨hS, hV⟩ := hF.two 41 (by decide) rfl (by decide)
    rcases cZ6 ho with rfl | rfl | rfl | rfl | rfl | rfl <;> cases ho
    · exact t_load (show aZ.eval (.tmp 5) = .pointer (some ⟨w.heap.size + 1 + 1, 0, none⟩) from (hF.out 5 (by decide)).trans rfl) hM.ks.2.2.1.2 Try.underlying25 info_api_Nat hF hS rfl rfl rfl rfl rfl (by decide) (Jm hM hG hO hN)
    · exact t_call (vs := [(Go.Value.int Go.IntKind.u64 1)]) (by show [(Go.Value.int Go.IntKind.u64 1)] = _; rfl) ent_limb_Of (nOf 1 uZ (by omega) (by omega)) hF hS rfl rfl rfl rfl (by decide) (fun _ hB => (Jm (hM.call hB) hG hO hN))
    · have q1 : fZ 4 = false := Os.not (hO.1) hfi
      exact t_alloc (al_api_Nat uZ) hF hS rfl rfl rfl rfl (by decide) ⟨MR.newF 0 hM rfl hfi q1, Gs.other rfl hG, hO.keep rfl, Ns.step hN rfl⟩
    · have q1 : fZ 5 = false := Os.not (hO.2.1) hfi
      exact t_alloc (al_api_Nat uZ) hF hS rfl rfl rfl rfl (by decide) ⟨MR.newF 1 hM rfl hfi q1, Gs.other rfl hG, hO.keep rfl, Ns.step hN rfl⟩
    · exact t_storeN 0 hM rfl (dd 2 hdep) hfi (hV 8 (by decide)) (ve 12 hV (hG.1 (dd 0 hdep))) rfl info_api_Nat rfl hF rfl rfl rfl rfl (fun _ h => ⟨h, Gs.idle rfl hG, ⟨fun _ => (dd 2 hdep :), hO.2.1, trivial⟩, Ns.idle hN⟩)
    · exact t_storeN 1 hM rfl (dd 3 hdep) hfi (hV 9 (by decide)) (ve 13 hV (hG.2.1 (dd 1 hdep))) rfl info_api_Nat rfl hF rfl rfl rfl rfl (fun _ h => ⟨h, Gs.idle rfl hG, ⟨hO.1, fun _ => (dd 3 hdep :), trivial⟩, Ns.idle hN⟩)
  rintro fZ tZ u1 ⟨hM, hG, hO, hN⟩ hall
  obtain ⟨e12, e13, -⟩ := Gs.all 6 hall hG rfl
  obtain ⟨b1_2, ee8, pb1_2, lb1_2, kb1_2⟩ := hM.nw.1 (hall 2 (by decide))
  have e8 : tZ 8 = .pointer (some ⟨b1_2, 0, none⟩) := ee8
  clear ee8
  have Kb1_2 : CV u1 b1_2 ([.int .u64 (0), .int .u64 (0), .int .u64 (0), .int .u64 (0)]) := by
    have h1 : CV u1 b1_2 (bif fZ 4 then [.int .u64 (0), .int .u64 (0), .int .u64 (0), .int .u64 (0)] else L0s) := kb1_2
    rw [hall 4 (by decide)] at h1; exact h1
  clear kb1_2
  obtain ⟨b1_3, ee9, pb1_3, lb1_3, kb1_3⟩ := hM.nw.2.1 (hall 3 (by decide))
  have e9 : tZ 9 = .pointer (some ⟨b1_3, 0, none⟩) := ee9
  clear ee9
  have Kb1_3 : CV u1 b1_3 (LN 1) := by
    have h1 : CV u1 b1_3 (bif fZ 5 then LN 1 else L0s) := kb1_3
    rw [hall 5 (by decide)] at h1; exact h1
  clear kb1_3
  have nb1_2_b1_3 : b1_2 ≠ b1_3 := fun e => (hM.nd.1 (hall 2 (by decide))).1 (hall 3 (by decide)) (by show tZ 9 = tZ 8; rw [e9, e8, e])
  have HB1 : Below w.heap.size w u1 := hM.bel
  have sz1 : v0.heap.size ≤ u1.heap.size := hM.sz
  obtain ⟨-, -, ⟨l1p2, K1p2⟩, ⟨l1r6, K1r6⟩, -⟩ := hM.ks.up hM.sz
  dsimp only at l1p2 K1p2 l1r6 K1r6
  simp only [ovr, List.set_cons_zero, List.set_cons_succ, e12, e13, e8, e9]
  clear hM hG hO hN hall e12 e13 e8 e9 K0p0 K0p1 K0p2 K0r6 HB0
  clear tZ
  go_upto_region 2 with fail
  refine region_plain [10, 11] (fun fZ tZ uZ => MR w.heap.size w (u1.heap.size) [(w.heap.size + 1 + 1, [.int .u64 (0), .int .u64 (0), .int .u64 (0), .int .u64 (0)]), (w.heap.size + 1 + 1 + 1, L0s)] [] [(fZ 0, false, tZ 10, L0s, L0s), (fZ 1, false, tZ 11, L0s, L0s)] uZ ∧ Gs fZ tZ [] ∧ Os fZ [] ∧ Ns fZ tZ []) (by kernel_rfl) ?_ ?_ ?_
  · exact ⟨{ bel := HB1, lo := HB1.size, sz := Nat.le_refl _, ks := ⟨⟨l1p2, K1p2⟩, ⟨l1r6, K1r6⟩, trivial⟩, ex := trivial, nw := ⟨fun e => (by cases e), fun e => (by cases e), trivial⟩, nd := ⟨fun e => (by cases e), fun e => (by cases e), trivial⟩ }, Gs.none _ _, Os.none _, trivial⟩
  · rintro fZ tZ uZ iZ oZ aZ hF ⟨hM, hG, hO, hN⟩ ho hfi hdep
    obtain ⟨hS, hV⟩ := hF.two 41 (by decide) rfl (by decide)
    rcases cZ2 ho with rfl | rfl <;> cases ho
    · exact t_alloc (al_api_Nat uZ) hF hS rfl rfl rfl rfl (by decide) ⟨MR.newF 0 hM rfl hfi rfl, Gs.other rfl hG, trivial, Ns.step hN rfl⟩
    · exact t_alloc (al_api_Nat uZ) hF hS rfl rfl rfl rfl (by decide) ⟨MR.newF 1 hM rfl hfi rfl, Gs.other rfl hG, trivial, Ns.step hN rfl⟩
  rintro fZ tZ u2 ⟨hM, hG, hO, hN⟩ hall
  obtain ⟨b2_0, ee10, pb2_0, lb2_0, kb2_0⟩ := hM.nw.1 (hall 0 (by decide))
  have e10 : tZ 10 = .pointer (some ⟨b2_0, 0, none⟩) := ee10
  clear ee10
  have Kb2_0 : CV u2 b2_0 (L0s) := kb2_0
  clear kb2_0
  obtain ⟨b2_1, ee11, pb2_1, lb2_1, kb2_1⟩ := hM.nw.2.1 (hall 1 (by decide))
  have e11 : tZ 11 = .pointer (some ⟨b2_1, 0, none⟩) := ee11
  clear ee11
  have Kb2_1 : CV u2 b2_1 (L0s) := kb2_1
  clear kb2_1
  have nb2_0_b2_1 : b2_0 ≠ b2_1 := fun e => (hM.nd.1 (hall 0 (by decide))).1 (hall 1 (by decide)) (by show tZ 11 = tZ 10; rw [e11, e10, e])
  have HB2 : Below w.heap.size w u2 := hM.bel
  have sz2 : u1.heap.size ≤ u2.heap.size := hM.sz
  obtain ⟨⟨l2p2, K2p2⟩, ⟨l2r6, K2r6⟩, -⟩ := hM.ks.up hM.sz
  dsimp only at l2p2 K2p2 l2r6 K2r6
  simp only [ovr, List.set_cons_zero, List.set_cons_succ, e10, e11]
  clear hM hG hO hN hall e10 e11 K1p2 K1r6 HB1
  clear tZ
  go_upto_region 3 with fail
  refine region_plain [15, 16, 17, 14] (fun fZ tZ uZ => MR w.heap.size w (u2.heap.size) [(w.heap.size + 1 + 1, [.int .u64 (0), .int .u64 (0), .int .u64 (0), .int .u64 (0)]), (w.heap.size + 1 + 1 + 1, L0s)] [] [] uZ ∧ Gs fZ tZ [(0, 15, .agg #[.int .u64 (0), .int .u64 (0), .int .u64 (0), .int .u64 (0)]), (1, 16, A4 (0) (0) (0) (0)), (2, 17, .bool true), (3, 14, .bool true)] ∧ Os fZ [] ∧ Ns fZ tZ []) (by kernel_rfl) ?_ ?_ ?_
  · exact ⟨{ bel := HB2, lo := HB2.size, sz := Nat.le_refl _, ks := ⟨⟨l2p2, K2p2⟩, ⟨l2r6, K2r6⟩, trivial⟩, ex := trivial, nw := trivial, nd := trivial }, Gs.none _ _, Os.none _, trivial⟩
  · rintro fZ tZ uZ iZ oZ aZ hF ⟨hM, hG, hO, hN⟩ ho hfi hdep
    obtain ⟨hS, hV⟩ := hF.two 41 (by decide) rfl (by decide)
    rcases cZ4 ho with rfl | rfl | rfl | rfl <;> cases ho
    · exact t_load (show aZ.eval (.tmp 5) = .pointer (some ⟨w.heap.size + 1 + 1, 0, none⟩) from (hF.out 5 (by decide)).trans rfl) hM.ks.1.2 Try.underlying25 info_api_Nat hF hS rfl rfl rfl rfl rfl (by decide) (Jt hM hG hN)
    · refine op_plain rfl rfl (fun K hK => ?_)
      refine wp_val (v := A4 (0) (0) (0) (0)) (w' := uZ) (by kernel_rfl) ?_
      exact tell hK hF hS (by decide) (Jt hM hG hN)
    · refine op_plain rfl rfl (fun K hK => ?_)
      refine wp_bin rfl (ve 15 hV (hG.1 (dd 0 hdep))) (ve 16 hV (hG.2.1 (dd 1 hdep))) (by rw [eql_w]) ?_
      exact tell hK hF hS (by decide) (Jt hM hG hN)
    · exact t_assign (ve 17 hV (hG.2.2.1 (dd 2 hdep))) hF hS rfl rfl rfl rfl (by decide) (Jt hM hG hN)
  rintro fZ tZ u3 ⟨hM, hG, hO, hN⟩ hall
  obtain ⟨e15, e16, e17, e14, -⟩ := Gs.all 4 hall hG rfl
  have HB3 : Below w.heap.size w u3 := hM.bel
  have sz3 : u2.heap.size ≤ u3.heap.size := hM.sz
  obtain ⟨-, ⟨l3r6, K3r6⟩, -⟩ := hM.ks.up hM.sz
  dsimp only at l3r6 K3r6
  simp only [ovr, List.set_cons_zero, List.set_cons_succ, e15, e16, e17, e14]
  clear hM hG hO hN hall e15 e16 e17 e14 K2p2 K2r6 HB2
  clear tZ
  go_upto_region 5 with fail
  refine region_plain [22, 7] (fun fZ tZ uZ => MR w.heap.size w (u3.heap.size) [] [(w.heap.size + 1 + 1 + 1, fZ 1, L0s, [.int .u64 (0), .int .u64 (0), .int .u64 (0), .int .u64 (0)])] [] uZ ∧ Gs fZ tZ [(0, 22, A4 (0) (0) (0) (0)), (2, 7, (Go.Value.int Go.IntKind.i64 20))] ∧ Os fZ [] ∧ Ns fZ tZ []) (by kernel_rfl) ?_ ?_ ?_
  · exact ⟨{ bel := HB3, lo := HB3.size, sz := Nat.le_refl _, ks := trivial, ex := ⟨⟨(by omega), l3r6, rfl, K3r6⟩, trivial⟩, nw := trivial, nd := trivial }, Gs.none _ _, Os.none _, trivial⟩
  · rintro fZ tZ uZ iZ oZ aZ hF ⟨hM, hG, hO, hN⟩ ho hfi hdep
    obtain ⟨hS, hV⟩ := hF.two 41 (by decide) rfl (by decide)
    rcases cZ3 ho with rfl | rfl | rfl <;> cases ho
    · refine op_plain rfl rfl (fun K hK => ?_)
      refine wp_val (v := A4 (0) (0) (0) (0)) (w' := uZ) (by kernel_rfl) ?_
      exact tell hK hF hS (by decide) (Jt hM hG hN)
    · refine op_plain rfl rfl (fun K hK => ?_)
      have kk : CV uZ (w.heap.size + 1 + 1 + 1) (bif fZ 1 then [.int .u64 (0), .int .u64 (0), .int .u64 (0), .int .u64 (0)] else L0s) := hM.ex.1.2.2.2
      rw [hfi] at kk
      have kk : CV uZ (w.heap.size + 1 + 1 + 1) (L0s) := kk
      refine wp_store_mid 25 _ _ rfl (w.heap.size + 1 + 1 + 1) 0 ([.int .u64 (0), .int .u64 (0), .int .u64 (0), .int .u64 (0)] : List Value).toArray (show aZ.eval (.tmp 6) = .pointer (some ⟨w.heap.size + 1 + 1 + 1, 0, none⟩) from (hF.out 6 (by decide)).trans rfl) (ve 22 hV (hG.1 (dd 0 hdep))) kk.there info_api_Nat (all_one rfl) ?_
      exact tell0 hK hF ⟨MR.putXF 0 hM rfl trivial trivial, Gs.idle rfl hG, trivial, Ns.idle hN⟩
    · exact t_assign rfl hF hS rfl rfl rfl rfl (by decide) (Jt hM hG hN)
  rintro fZ tZ u4 ⟨hM, hG, hO, hN⟩ hall
  obtain ⟨e22, e7, -⟩ := Gs.all 3 hall hG rfl
  have HB4 : Below w.heap.size w u4 := hM.bel
  have sz4 : u3.heap.size ≤ u4.heap.size := hM.sz
  have K4r6 : CV u4 (w.heap.size + 1 + 1 + 1) ([.int .u64 (0), .int .u64 (0), .int .u64 (0), .int .u64 (0)]) := by
    have h1 : CV u4 (w.heap.size + 1 + 1 + 1) (bif fZ 1 then [.int .u64 (0), .int .u64 (0), .int .u64 (0), .int .u64 (0)] else L0s) := hM.ex.1.2.2.2
    rw [hall 1 (by decide)] at h1; exact h1
  have l4r6 : w.heap.size + 1 + 1 + 1 < u4.heap.size := Nat.lt_of_lt_of_le hM.ex.1.2.1 hM.sz
  simp only [ovr, List.set_cons_zero, List.set_cons_succ, e22, e7]
  clear hM hG hO hN hall e22 e7 K3r6 HB3
  clear tZ
  have c6_0 := (K4r6 0 _ rfl).1
  have c6_1 := (K4r6 1 _ rfl).1
  have c6_2 := (K4r6 2 _ rfl).1
  have c6_3 := (K4r6 3 _ rfl).1
  go_wp2
  refine bodyPost_ret (v := .tuple #[A4 0 0 0 0, .int .i64 20]) (by simp [results, Try.results64, go_sem, c6_0, c6_1, c6_2, c6_3]) rfl ⟨rfl, HB4⟩
set_option maxRecDepth 100000 in
set_option maxHeartbeats 16000000 in
theorem mExp_odd (a e m : Int) (w : World) (ha : In a) (he : In e) (hm : In m) (h : m ≠ 0) (hodd : m % 2 = 1) :
    Calls Try.prog 64 #[NV a, NV e, NV m] w fun en w' => en = .returned (.tuple #[NV (a ^ e.toNat % m), .int .i64 0]) ∧ Below w.heap.size w w' := by
  have hz : decide (m = 0) = false := by simp [h]
  have hB : Hid (∀ u, Calls Try.prog 86 #[NV m, .int .i64 0] u fun en u' => en = .returned (.bool true) ∧ Below u.heap.size u u') := fun u => by
    have k := nBit m 0 u (by omega) (by omega)
    have e : bitI m 0 = true := by unfold bitI; simp; omega
    rw [e] at k; exact k
  have hJ : Hid (∀ u, Calls Try.prog 91 #[NV (a ^ e.toNat % m), NV m, A4 0 0 0 0, NV 1] u fun en u' => en = .returned (NV (a ^ e.toNat % m)) ∧ Below u.heap.size u u') := fun u => by
    rw [← NV_0]; exact mjoin_1 _ m 0 1 u In_1 rfl
  go_enter Try.func64, Try.ntmps64
  go_upto_region 1 with fail
  generalize hC : ((((w.alloc (.cells (LN a : List Value).toArray 25)).alloc (.cells (LN e : List Value).toArray 25)).alloc (.cells (LN m : List Value).toArray 25)).alloc (.cells (L0s : List Value).toArray 25)) = v0 at *
  have HB0 : Below w.heap.size w v0 := by rw [← hC]; exact (balloc (balloc (balloc (balloc (bself w) _) _) _) _)
  have K0p0 : CV v0 (w.heap.size) (LN a) := by rw [← hC]; exact ((((CV.new w (LN a) 25).alloc (by simp <;> omega) _).alloc (by simp <;> omega) _).alloc (by simp <;> omega) _)
  have l0p0 : w.heap.size < v0.heap.size := by rw [← hC]; simp <;> omega
  have K0p1 : CV v0 (w.heap.size + 1) (LN e) := by rw [← hC]; exact (((CV.newAt (w.alloc (.cells (LN a : List Value).toArray 25)) (LN e) 25 _ (by simp)).alloc (by simp <;> omega) _).alloc (by simp <;> omega) _)
  have l0p1 : w.heap.size + 1 < v0.heap.size := by rw [← hC]; simp <;> omega
  have K0p2 : CV v0 (w.heap.size + 1 + 1) (LN m) := by rw [← hC]; exact ((CV.newAt ((w.alloc (.cells (LN a : List Value).toArray 25)).alloc (.cells (LN e : List Value).toArray 25)) (LN m) 25 _ (by simp)).alloc (by simp <;> omega) _)
  have l0p2 : w.heap.size + 1 + 1 < v0.heap.size := by rw [← hC]; simp <;> omega
  have K0r6 : CV v0 (w.heap.size + 1 + 1 + 1) (L0s) := by rw [← hC]; exact (CV.newAt (((w.alloc (.cells (LN a : List Value).toArray 25)).alloc (.cells (LN e : List Value).toArray 25)).alloc (.cells (LN m : List Value).toArray 25)) (L0s) 25 _ (by simp))
  have l0r6 : w.heap.size + 1 + 1 + 1 < v0.heap.size := by rw [← hC]; simp <;> omega
  clear hC
  refine region_drawn [12, 13, 8, 9] (fun fZ tZ uZ => MR w.heap.size w (v0.heap.size) [(w.heap.size, LN a), (w.heap.size + 1, LN e), (w.heap.size + 1 + 1, LN m), (w.heap.size + 1 + 1 + 1, L0s)] [] [(fZ 2, fZ 4, tZ 8, L0s, LN m), (fZ 3, fZ 5, tZ 9, L0s, LN 1)] uZ ∧ Gs fZ tZ [(0, 12, NV m), (1, 13, NV 1)] ∧ Os fZ [(4, 2), (5, 3)] ∧ Ns fZ tZ []) (by kernel_rfl) (by kernel_rfl) ?_ ?_ ?_
  · exact ⟨{ bel := HB0.drew, lo := HB0.size, sz := Nat.le_refl _, ks := ⟨⟨l0p0, K0p0⟩, ⟨l0p1, K0p1⟩, ⟨l0p2, K0p2⟩, ⟨l0r6, K0r6⟩, trivial⟩, ex := trivial, nw := ⟨fun e => (by cases e), fun e => (by cases e), trivial⟩, nd := ⟨fun e => (by cases e), fun e => (by cases e), trivial⟩ }, Gs.none _ _, Os.none _, trivial⟩
  · rintro fZ tZ uZ iZ oZ aZ hF ⟨hM, hG, hO, hN⟩ ho hfi hdep
    obtain ⟨hS, hV⟩ := hF.two 41 (by decide) rfl (by decide)
    rcases cZ6 ho with rfl | rfl | rfl | rfl | rfl | rfl <;> cases ho
    · exact t_load (show aZ.eval (.tmp 5) = .pointer (some ⟨w.heap.size + 1 + 1, 0, none⟩) from (hF.out 5 (by decide)).trans rfl) hM.ks.2.2.1.2 Try.underlying25 info_api_Nat hF hS rfl rfl rfl rfl rfl (by decide) (Jm hM hG hO hN)
    · exact t_call (vs := [(Go.Value.int Go.IntKind.u64 1)]) (by show [(Go.Value.int Go.IntKind.u64 1)] = _; rfl) ent_limb_Of (nOf 1 uZ (by omega) (by omega)) hF hS rfl rfl rfl rfl (by decide) (fun _ hB => (Jm (hM.call hB) hG hO hN))
    · have q1 : fZ 4 = false := Os.not (hO.1) hfi
      exact t_alloc (al_api_Nat uZ) hF hS rfl rfl rfl rfl (by decide) ⟨MR.newF 0 hM rfl hfi q1, Gs.other rfl hG, hO.keep rfl, Ns.step hN rfl⟩
    · have q1 : fZ 5 = false := Os.not (hO.2.1) hfi
      exact t_alloc (al_api_Nat uZ) hF hS rfl rfl rfl rfl (by decide) ⟨MR.newF 1 hM rfl hfi q1, Gs.other rfl hG, hO.keep rfl, Ns.step hN rfl⟩
    · exact t_storeN 0 hM rfl (dd 2 hdep) hfi (hV 8 (by decide)) (ve 12 hV (hG.1 (dd 0 hdep))) rfl info_api_Nat rfl hF rfl rfl rfl rfl (fun _ h => ⟨h, Gs.idle rfl hG, ⟨fun _ => (dd 2 hdep :), hO.2.1, trivial⟩, Ns.idle hN⟩)
    · exact t_storeN 1 hM rfl (dd 3 hdep) hfi (hV 9 (by decide)) (ve 13 hV (hG.2.1 (dd 1 hdep))) rfl info_api_Nat rfl hF rfl rfl rfl rfl (fun _ h => ⟨h, Gs.idle rfl hG, ⟨hO.1, fun _ => (dd 3 hdep :), trivial⟩, Ns.idle hN⟩)
  rintro fZ tZ u1 ⟨hM, hG, hO, hN⟩ hall
  obtain ⟨e12, e13, -⟩ := Gs.all 6 hall hG rfl
  obtain ⟨b1_2, ee8, pb1_2, lb1_2, kb1_2⟩ := hM.nw.1 (hall 2 (by decide))
  have e8 : tZ 8 = .pointer (some ⟨b1_2, 0, none⟩) := ee8
  clear ee8
  have Kb1_2 : CV u1 b1_2 (LN m) := by
    have h1 : CV u1 b1_2 (bif fZ 4 then LN m else L0s) := kb1_2
    rw [hall 4 (by decide)] at h1; exact h1
  clear kb1_2
  obtain ⟨b1_3, ee9, pb1_3, lb1_3, kb1_3⟩ := hM.nw.2.1 (hall 3 (by decide))
  have e9 : tZ 9 = .pointer (some ⟨b1_3, 0, none⟩) := ee9
  clear ee9
  have Kb1_3 : CV u1 b1_3 (LN 1) := by
    have h1 : CV u1 b1_3 (bif fZ 5 then LN 1 else L0s) := kb1_3
    rw [hall 5 (by decide)] at h1; exact h1
  clear kb1_3
  have nb1_2_b1_3 : b1_2 ≠ b1_3 := fun e => (hM.nd.1 (hall 2 (by decide))).1 (hall 3 (by decide)) (by show tZ 9 = tZ 8; rw [e9, e8, e])
  have HB1 : Below w.heap.size w u1 := hM.bel
  have sz1 : v0.heap.size ≤ u1.heap.size := hM.sz
  obtain ⟨⟨l1p0, K1p0⟩, ⟨l1p1, K1p1⟩, ⟨l1p2, K1p2⟩, ⟨l1r6, K1r6⟩, -⟩ := hM.ks.up hM.sz
  dsimp only at l1p0 K1p0 l1p1 K1p1 l1p2 K1p2 l1r6 K1r6
  simp only [ovr, List.set_cons_zero, List.set_cons_succ, e12, e13, e8, e9]
  clear hM hG hO hN hall e12 e13 e8 e9 K0p0 K0p1 K0p2 K0r6 HB0
  clear tZ
  go_upto_region 2 with fail
  refine region_plain [10, 11] (fun fZ tZ uZ => MR w.heap.size w (u1.heap.size) [(w.heap.size, LN a), (w.heap.size + 1, LN e), (w.heap.size + 1 + 1, LN m), (w.heap.size + 1 + 1 + 1, L0s), (b1_2, LN m), (b1_3, LN 1)] [] [(fZ 0, false, tZ 10, L0s, L0s), (fZ 1, false, tZ 11, L0s, L0s)] uZ ∧ Gs fZ tZ [] ∧ Os fZ [] ∧ Ns fZ tZ []) (by kernel_rfl) ?_ ?_ ?_
  · exact ⟨{ bel := HB1, lo := HB1.size, sz := Nat.le_refl _, ks := ⟨⟨l1p0, K1p0⟩, ⟨l1p1, K1p1⟩, ⟨l1p2, K1p2⟩, ⟨l1r6, K1r6⟩, ⟨lb1_2, Kb1_2⟩, ⟨lb1_3, Kb1_3⟩, trivial⟩, ex := trivial, nw := ⟨fun e => (by cases e), fun e => (by cases e), trivial⟩, nd := ⟨fun e => (by cases e), fun e => (by cases e), trivial⟩ }, Gs.none _ _, Os.none _, trivial⟩
  · rintro fZ tZ uZ iZ oZ aZ hF ⟨hM, hG, hO, hN⟩ ho hfi hdep
    obtain ⟨hS, hV⟩ := hF.two 41 (by decide) rfl (by decide)
    rcases cZ2 ho with rfl | rfl <;> cases ho
    · exact t_alloc (al_api_Nat uZ) hF hS rfl rfl rfl rfl (by decide) ⟨MR.newF 0 hM rfl hfi rfl, Gs.other rfl hG, trivial, Ns.step hN rfl⟩
    · exact t_alloc (al_api_Nat uZ) hF hS rfl rfl rfl rfl (by decide) ⟨MR.newF 1 hM rfl hfi rfl, Gs.other rfl hG, trivial, Ns.step hN rfl⟩
  rintro fZ tZ u2 ⟨hM, hG, hO, hN⟩ hall
  obtain ⟨b2_0, ee10, pb2_0, lb2_0, kb2_0⟩ := hM.nw.1 (hall 0 (by decide))
  have e10 : tZ 10 = .pointer (some ⟨b2_0, 0, none⟩) := ee10
  clear ee10
  have Kb2_0 : CV u2 b2_0 (L0s) := kb2_0
  clear kb2_0
  obtain ⟨b2_1, ee11, pb2_1, lb2_1, kb2_1⟩ := hM.nw.2.1 (hall 1 (by decide))
  have e11 : tZ 11 = .pointer (some ⟨b2_1, 0, none⟩) := ee11
  clear ee11
  have Kb2_1 : CV u2 b2_1 (L0s) := kb2_1
  clear kb2_1
  have nb2_0_b2_1 : b2_0 ≠ b2_1 := fun e => (hM.nd.1 (hall 0 (by decide))).1 (hall 1 (by decide)) (by show tZ 11 = tZ 10; rw [e11, e10, e])
  have HB2 : Below w.heap.size w u2 := hM.bel
  have sz2 : u1.heap.size ≤ u2.heap.size := hM.sz
  obtain ⟨⟨l2p0, K2p0⟩, ⟨l2p1, K2p1⟩, ⟨l2p2, K2p2⟩, ⟨l2r6, K2r6⟩, ⟨l2n1_2, K2n1_2⟩, ⟨l2n1_3, K2n1_3⟩, -⟩ := hM.ks.up hM.sz
  dsimp only at l2p0 K2p0 l2p1 K2p1 l2p2 K2p2 l2r6 K2r6 l2n1_2 K2n1_2 l2n1_3 K2n1_3
  simp only [ovr, List.set_cons_zero, List.set_cons_succ, e10, e11]
  clear hM hG hO hN hall e10 e11 K1p0 K1p1 K1p2 K1r6 Kb1_2 Kb1_3 HB1
  clear tZ
  go_upto_region 3 with fail
  refine region_plain [15, 16, 17, 14] (fun fZ tZ uZ => MR w.heap.size w (u2.heap.size) [(w.heap.size, LN a), (w.heap.size + 1, LN e), (w.heap.size + 1 + 1, LN m), (w.heap.size + 1 + 1 + 1, L0s), (b1_2, LN m), (b1_3, LN 1), (b2_0, L0s), (b2_1, L0s)] [] [] uZ ∧ Gs fZ tZ [(0, 15, NV m), (1, 16, A4 (0) (0) (0) (0)), (2, 17, .bool false), (3, 14, .bool false)] ∧ Os fZ [] ∧ Ns fZ tZ []) (by kernel_rfl) ?_ ?_ ?_
  · exact ⟨{ bel := HB2, lo := HB2.size, sz := Nat.le_refl _, ks := ⟨⟨l2p0, K2p0⟩, ⟨l2p1, K2p1⟩, ⟨l2p2, K2p2⟩, ⟨l2r6, K2r6⟩, ⟨l2n1_2, K2n1_2⟩, ⟨l2n1_3, K2n1_3⟩, ⟨lb2_0, Kb2_0⟩, ⟨lb2_1, Kb2_1⟩, trivial⟩, ex := trivial, nw := trivial, nd := trivial }, Gs.none _ _, Os.none _, trivial⟩
  · rintro fZ tZ uZ iZ oZ aZ hF ⟨hM, hG, hO, hN⟩ ho hfi hdep
    obtain ⟨hS, hV⟩ := hF.two 41 (by decide) rfl (by decide)
    rcases cZ4 ho with rfl | rfl | rfl | rfl <;> cases ho
    · exact t_load (show aZ.eval (.tmp 5) = .pointer (some ⟨w.heap.size + 1 + 1, 0, none⟩) from (hF.out 5 (by decide)).trans rfl) hM.ks.2.2.1.2 Try.underlying25 info_api_Nat hF hS rfl rfl rfl rfl rfl (by decide) (Jt hM hG hN)
    · refine op_plain rfl rfl (fun K hK => ?_)
      refine wp_val (v := A4 (0) (0) (0) (0)) (w' := uZ) (by kernel_rfl) ?_
      exact tell hK hF hS (by decide) (Jt hM hG hN)
    · refine op_plain rfl rfl (fun K hK => ?_)
      refine wp_bin rfl (ve 15 hV (hG.1 (dd 0 hdep))) (ve 16 hV (hG.2.1 (dd 1 hdep))) (eql_0 _ _ hm _ hz uZ) ?_
      exact tell hK hF hS (by decide) (Jt hM hG hN)
    · exact t_assign (ve 17 hV (hG.2.2.1 (dd 2 hdep))) hF hS rfl rfl rfl rfl (by decide) (Jt hM hG hN)
  rintro fZ tZ u3 ⟨hM, hG, hO, hN⟩ hall
  obtain ⟨e15, e16, e17, e14, -⟩ := Gs.all 4 hall hG rfl
  have HB3 : Below w.heap.size w u3 := hM.bel
  have sz3 : u2.heap.size ≤ u3.heap.size := hM.sz
  obtain ⟨⟨l3p0, K3p0⟩, ⟨l3p1, K3p1⟩, ⟨l3p2, K3p2⟩, ⟨l3r6, K3r6⟩, ⟨l3n1_2, K3n1_2⟩, ⟨l3n1_3, K3n1_3⟩, ⟨l3n2_0, K3n2_0⟩, ⟨l3n2_1, K3n2_1⟩, -⟩ := hM.ks.up hM.sz
  dsimp only at l3p0 K3p0 l3p1 K3p1 l3p2 K3p2 l3r6 K3r6 l3n1_2 K3n1_2 l3n1_3 K3n1_3 l3n2_0 K3n2_0 l3n2_1 K3n2_1
  simp only [ovr, List.set_cons_zero, List.set_cons_succ, e15, e16, e17, e14]
  clear hM hG hO hN hall e15 e16 e17 e14 K2n1_2 K2n1_3 K2p0 K2p1 K2p2 K2r6 Kb2_0 Kb2_1 HB2
  clear tZ
  go_upto_region 4 with fail
  refine region_plain [19, 20, 21, 18] (fun fZ tZ uZ => MR w.heap.size w (u3.heap.size) [(w.heap.size, LN a), (w.heap.size + 1, LN e), (w.heap.size + 1 + 1, LN m), (w.heap.size + 1 + 1 + 1, L0s), (b1_2, LN m), (b1_3, LN 1), (b2_0, L0s), (b2_1, L0s)] [] [] uZ ∧ Gs fZ tZ [(0, 19, NV m), (1, 20, .bool true), (2, 21, .bool false), (3, 18, .bool false)] ∧ Os fZ [] ∧ Ns fZ tZ []) (by kernel_rfl) ?_ ?_ ?_
  · exact ⟨{ bel := HB3, lo := HB3.size, sz := Nat.le_refl _, ks := ⟨⟨l3p0, K3p0⟩, ⟨l3p1, K3p1⟩, ⟨l3p2, K3p2⟩, ⟨l3r6, K3r6⟩, ⟨l3n1_2, K3n1_2⟩, ⟨l3n1_3, K3n1_3⟩, ⟨l3n2_0, K3n2_0⟩, ⟨l3n2_1, K3n2_1⟩, trivial⟩, ex := trivial, nw := trivial, nd := trivial }, Gs.none _ _, Os.none _, trivial⟩
  · rintro fZ tZ uZ iZ oZ aZ hF ⟨hM, hG, hO, hN⟩ ho hfi hdep
    obtain ⟨hS, hV⟩ := hF.two 41 (by decide) rfl (by decide)
    rcases cZ4 ho with rfl | rfl | rfl | rfl <;> cases ho
    · exact t_load (show aZ.eval (.tmp 5) = .pointer (some ⟨w.heap.size + 1 + 1, 0, none⟩) from (hF.out 5 (by decide)).trans rfl) hM.ks.2.2.1.2 Try.underlying25 info_api_Nat hF hS rfl rfl rfl rfl rfl (by decide) (Jt hM hG hN)
    · exact t_call (vs := [NV m, (Go.Value.int Go.IntKind.i64 0)]) (by show [aZ.eval (.tmp 19), (Go.Value.int Go.IntKind.i64 0)] = _; rw [(ve 19 hV (hG.1 (dd 0 hdep)))]) ent_limb_Bit (hB.out uZ) hF hS rfl rfl rfl rfl (by decide) (fun _ hB => (Jt (hM.call hB) hG hN))
    · refine op_plain rfl rfl (fun K hK => ?_)
      refine wp_un rfl (ve 20 hV (hG.2.1 (dd 1 hdep))) (rfl) ?_
      exact tell hK hF hS (by decide) (Jt hM hG hN)
    · exact t_assign (ve 21 hV (hG.2.2.1 (dd 2 hdep))) hF hS rfl rfl rfl rfl (by decide) (Jt hM hG hN)
  rintro fZ tZ u4 ⟨hM, hG, hO, hN⟩ hall
  obtain ⟨e19, e20, e21, e18, -⟩ := Gs.all 4 hall hG rfl
  have HB4 : Below w.heap.size w u4 := hM.bel
  have sz4 : u3.heap.size ≤ u4.heap.size := hM.sz
  obtain ⟨⟨l4p0, K4p0⟩, ⟨l4p1, K4p1⟩, -, ⟨l4r6, K4r6⟩, ⟨l4n1_2, K4n1_2⟩, ⟨l4n1_3, K4n1_3⟩, ⟨l4n2_0, K4n2_0⟩, ⟨l4n2_1, K4n2_1⟩, -⟩ := hM.ks.up hM.sz
  dsimp only at l4p0 K4p0 l4p1 K4p1 l4r6 K4r6 l4n1_2 K4n1_2 l4n1_3 K4n1_3 l4n2_0 K4n2_0 l4n2_1 K4n2_1
  simp only [ovr, List.set_cons_zero, List.set_cons_succ, e19, e20, e21, e18]
  clear hM hG hO hN hall e19 e20 e21 e18 K3n1_2 K3n1_3 K3n2_0 K3n2_1 K3p0 K3p1 K3p2 K3r6 HB3
  clear tZ
  go_upto_region 8 with fail
  refine region_plain [32, 33, 34, 35] (fun fZ tZ uZ => MR w.heap.size w (u4.heap.size) [(w.heap.size, LN a), (w.heap.size + 1, LN e), (w.heap.size + 1 + 1 + 1, L0s), (b1_2, LN m), (b1_3, LN 1), (b2_1, L0s)] [(b2_0, fZ 4, L0s, LN (a ^ e.toNat % m))] [] uZ ∧ Gs fZ tZ [(0, 32, NV a), (1, 33, NV e), (2, 34, NV m), (3, 35, NV (a ^ e.toNat % m))] ∧ Os fZ [] ∧ Ns fZ tZ []) (by kernel_rfl) ?_ ?_ ?_
  · exact ⟨{ bel := HB4, lo := HB4.size, sz := Nat.le_refl _, ks := ⟨⟨l4p0, K4p0⟩, ⟨l4p1, K4p1⟩, ⟨l4r6, K4r6⟩, ⟨l4n1_2, K4n1_2⟩, ⟨l4n1_3, K4n1_3⟩, ⟨l4n2_1, K4n2_1⟩, trivial⟩, ex := ⟨⟨(by omega), l4n2_0, rfl, K4n2_0⟩, trivial⟩, nw := trivial, nd := trivial }, Gs.none _ _, Os.none _, trivial⟩
  · rintro fZ tZ uZ iZ oZ aZ hF ⟨hM, hG, hO, hN⟩ ho hfi hdep
    obtain ⟨hS, hV⟩ := hF.two 41 (by decide) rfl (by decide)
    rcases cZ5 ho with rfl | rfl | rfl | rfl | rfl <;> cases ho
    · exact t_load (show aZ.eval (.tmp 3) = .pointer (some ⟨w.heap.size, 0, none⟩) from (hF.out 3 (by decide)).trans rfl) hM.ks.1.2 Try.underlying25 info_api_Nat hF hS rfl rfl rfl rfl rfl (by decide) (Jt hM hG hN)
    · exact t_load (show aZ.eval (.tmp 4) = .pointer (some ⟨w.heap.size + 1, 0, none⟩) from (hF.out 4 (by decide)).trans rfl) hM.ks.2.1.2 Try.underlying25 info_api_Nat hF hS rfl rfl rfl rfl rfl (by decide) (Jt hM hG hN)
    · exact t_load (show aZ.eval (.tmp 8) = .pointer (some ⟨b1_2, 0, none⟩) from (hF.out 8 (by decide)).trans rfl) hM.ks.2.2.2.1.2 Try.underlying25 info_api_Nat hF hS rfl rfl rfl rfl rfl (by decide) (Jt hM hG hN)
    · exact t_call (vs := [NV a, NV e, NV m]) (by show [aZ.eval (.tmp 32), aZ.eval (.tmp 33), aZ.eval (.tmp 34)] = _; rw [(ve 32 hV (hG.1 (dd 0 hdep))), (ve 33 hV (hG.2.1 (dd 1 hdep))), (ve 34 hV (hG.2.2.1 (dd 2 hdep)))]) ent_mod_powerOfOdd (mpow a e m uZ ha he hm h hodd) hF hS rfl rfl rfl rfl (by decide) (fun _ hB => (Jt (hM.call hB) hG hN))
    · refine op_plain rfl rfl (fun K hK => ?_)
      have kk : CV uZ (b2_0) (bif fZ 4 then LN (a ^ e.toNat % m) else L0s) := hM.ex.1.2.2.2
      rw [hfi] at kk
      have kk : CV uZ (b2_0) (L0s) := kk
      refine wp_store_mid 25 _ _ rfl (b2_0) 0 (LN (a ^ e.toNat % m) : List Value).toArray (show aZ.eval (.tmp 10) = .pointer (some ⟨b2_0, 0, none⟩) from (hF.out 10 (by decide)).trans rfl) (ve 35 hV (hG.2.2.2.1 (dd 3 hdep))) kk.there info_api_Nat (all_one rfl) ?_
      exact tell0 hK hF ⟨MR.putXF 0 hM rfl ⟨by omega, by omega, by omega, by omega, by omega, by omega, trivial⟩ trivial, Gs.idle rfl hG, trivial, Ns.idle hN⟩
  rintro fZ tZ u5 ⟨hM, hG, hO, hN⟩ hall
  obtain ⟨e32, e33, e34, e35, -⟩ := Gs.all 5 hall hG rfl
  have HB5 : Below w.heap.size w u5 := hM.bel
  have sz5 : u4.heap.size ≤ u5.heap.size := hM.sz
  obtain ⟨-, -, ⟨l5r6, K5r6⟩, ⟨l5n1_2, K5n1_2⟩, ⟨l5n1_3, K5n1_3⟩, ⟨l5n2_1, K5n2_1⟩, -⟩ := hM.ks.up hM.sz
  dsimp only at l5r6 K5r6 l5n1_2 K5n1_2 l5n1_3 K5n1_3 l5n2_1 K5n2_1
  have K5n2_0 : CV u5 (b2_0) (LN (a ^ e.toNat % m)) := by
    have h1 : CV u5 (b2_0) (bif fZ 4 then LN (a ^ e.toNat % m) else L0s) := hM.ex.1.2.2.2
    rw [hall 4 (by decide)] at h1; exact h1
  have l5n2_0 : b2_0 < u5.heap.size := Nat.lt_of_lt_of_le hM.ex.1.2.1 hM.sz
  simp only [ovr, List.set_cons_zero, List.set_cons_succ, e32, e33, e34, e35]
  clear hM hG hO hN hall e32 e33 e34 e35 K4n1_2 K4n1_3 K4n2_0 K4n2_1 K4p0 K4p1 K4r6 HB4
  clear tZ
  go_upto_region 9 with fail
  refine region_plain [36, 37, 38, 39, 40, 7] (fun fZ tZ uZ => MR w.heap.size w (u5.heap.size) [(b1_2, LN m), (b1_3, LN 1), (b2_0, LN (a ^ e.toNat % m)), (b2_1, L0s)] [(w.heap.size + 1 + 1 + 1, fZ 5, L0s, LN (a ^ e.toNat % m))] [] uZ ∧ Gs fZ tZ [(0, 36, NV (a ^ e.toNat % m)), (1, 37, NV m), (2, 38, A4 (0) (0) (0) (0)), (3, 39, NV 1), (4, 40, NV (a ^ e.toNat % m)), (6, 7, (Go.Value.int Go.IntKind.i64 0))] ∧ Os fZ [] ∧ Ns fZ tZ []) (by kernel_rfl) ?_ ?_ ?_
  · exact ⟨{ bel := HB5, lo := HB5.size, sz := Nat.le_refl _, ks := ⟨⟨l5n1_2, K5n1_2⟩, ⟨l5n1_3, K5n1_3⟩, ⟨l5n2_0, K5n2_0⟩, ⟨l5n2_1, K5n2_1⟩, trivial⟩, ex := ⟨⟨(by omega), l5r6, rfl, K5r6⟩, trivial⟩, nw := trivial, nd := trivial }, Gs.none _ _, Os.none _, trivial⟩
  · rintro fZ tZ uZ iZ oZ aZ hF ⟨hM, hG, hO, hN⟩ ho hfi hdep
    obtain ⟨hS, hV⟩ := hF.two 41 (by decide) rfl (by decide)
    rcases cZ7 ho with rfl | rfl | rfl | rfl | rfl | rfl | rfl <;> cases ho
    · exact t_load (show aZ.eval (.tmp 10) = .pointer (some ⟨b2_0, 0, none⟩) from (hF.out 10 (by decide)).trans rfl) hM.ks.2.2.1.2 Try.underlying25 info_api_Nat hF hS rfl rfl rfl rfl rfl (by decide) (Jt hM hG hN)
    · exact t_load (show aZ.eval (.tmp 8) = .pointer (some ⟨b1_2, 0, none⟩) from (hF.out 8 (by decide)).trans rfl) hM.ks.1.2 Try.underlying25 info_api_Nat hF hS rfl rfl rfl rfl rfl (by decide) (Jt hM hG hN)
    · exact t_load (show aZ.eval (.tmp 11) = .pointer (some ⟨b2_1, 0, none⟩) from (hF.out 11 (by decide)).trans rfl) hM.ks.2.2.2.1.2 Try.underlying25 info_api_Nat hF hS rfl rfl rfl rfl rfl (by decide) (Jt hM hG hN)
    · exact t_load (show aZ.eval (.tmp 9) = .pointer (some ⟨b1_3, 0, none⟩) from (hF.out 9 (by decide)).trans rfl) hM.ks.2.1.2 Try.underlying25 info_api_Nat hF hS rfl rfl rfl rfl rfl (by decide) (Jt hM hG hN)
    · exact t_call (vs := [NV (a ^ e.toNat % m), NV m, A4 (0) (0) (0) (0), NV 1]) (by show [aZ.eval (.tmp 36), aZ.eval (.tmp 37), aZ.eval (.tmp 38), aZ.eval (.tmp 39)] = _; rw [(ve 36 hV (hG.1 (dd 0 hdep))), (ve 37 hV (hG.2.1 (dd 1 hdep))), (ve 38 hV (hG.2.2.1 (dd 2 hdep))), (ve 39 hV (hG.2.2.2.1 (dd 3 hdep)))]) ent_mod_join (hJ.out uZ) hF hS rfl rfl rfl rfl (by decide) (fun _ hB => (Jt (hM.call hB) hG hN))
    · refine op_plain rfl rfl (fun K hK => ?_)
      have kk : CV uZ (w.heap.size + 1 + 1 + 1) (bif fZ 5 then LN (a ^ e.toNat % m) else L0s) := hM.ex.1.2.2.2
      rw [hfi] at kk
      have kk : CV uZ (w.heap.size + 1 + 1 + 1) (L0s) := kk
      refine wp_store_mid 25 _ _ rfl (w.heap.size + 1 + 1 + 1) 0 (LN (a ^ e.toNat % m) : List Value).toArray (show aZ.eval (.tmp 6) = .pointer (some ⟨w.heap.size + 1 + 1 + 1, 0, none⟩) from (hF.out 6 (by decide)).trans rfl) (ve 40 hV (hG.2.2.2.2.1 (dd 4 hdep))) kk.there info_api_Nat (all_one rfl) ?_
      exact tell0 hK hF ⟨MR.putXF 0 hM rfl ⟨by omega, by omega, by omega, by omega, trivial⟩ trivial, Gs.idle rfl hG, trivial, Ns.idle hN⟩
    · exact t_assign rfl hF hS rfl rfl rfl rfl (by decide) (Jt hM hG hN)
  rintro fZ tZ u6 ⟨hM, hG, hO, hN⟩ hall
  obtain ⟨e36, e37, e38, e39, e40, e7, -⟩ := Gs.all 7 hall hG rfl
  have HB6 : Below w.heap.size w u6 := hM.bel
  have sz6 : u5.heap.size ≤ u6.heap.size := hM.sz
  have K6r6 : CV u6 (w.heap.size + 1 + 1 + 1) (LN (a ^ e.toNat % m)) := by
    have h1 : CV u6 (w.heap.size + 1 + 1 + 1) (bif fZ 5 then LN (a ^ e.toNat % m) else L0s) := hM.ex.1.2.2.2
    rw [hall 5 (by decide)] at h1; exact h1
  have l6r6 : w.heap.size + 1 + 1 + 1 < u6.heap.size := Nat.lt_of_lt_of_le hM.ex.1.2.1 hM.sz
  simp only [ovr, List.set_cons_zero, List.set_cons_succ, e36, e37, e38, e39, e40, e7]
  clear hM hG hO hN hall e36 e37 e38 e39 e40 e7 K5n1_2 K5n1_3 K5n2_0 K5n2_1 K5r6 HB5
  clear tZ
  have c6_0 := (K6r6 0 _ rfl).1
  have c6_1 := (K6r6 1 _ rfl).1
  have c6_2 := (K6r6 2 _ rfl).1
  have c6_3 := (K6r6 3 _ rfl).1
  go_wp2
  refine bodyPost_ret (v := .tuple #[NV (a ^ e.toNat % m), .int .i64 0]) (by simp [results, Try.results64, go_sem, c6_0, c6_1, c6_2, c6_3]) rfl ⟨rfl, HB6⟩
set_option maxRecDepth 100000 in
set_option maxHeartbeats 16000000 in
theorem mExp_even (a e m : Int) (w : World) (ha : In a) (he : In e) (hm : In m) (h : m ≠ 0) (hev : m % 2 = 0) :
    Calls Try.prog 64 #[NV a, NV e, NV m] w fun en w' => en = .returned (.tuple #[NV (a ^ e.toNat % m), .int .i64 0]) ∧ Below w.heap.size w w' := by
  have hz : decide (m = 0) = false := by simp [h]
  have hB : Hid (∀ u, Calls Try.prog 86 #[NV m, .int .i64 0] u fun en u' => en = .returned (.bool false) ∧ Below u.heap.size u u') := fun u => by
    have k := nBit m 0 u (by omega) (by omega)
    have e : bitI m 0 = false := by unfold bitI; simp; omega
    rw [e] at k; exact k
  obtain ⟨s, hs, w0, w1, w2, w3, hdv, hod, hmd⟩ := low_words m hm h
  have hSp : Hid (∀ u, Calls Try.prog 87 #[NV m] u fun en u' => en = .returned (.tuple #[NV (m / 2 ^ s), NV (2 ^ s)]) ∧ Below u.heap.size u u') := fun u => msplit m s u hm h hs w0 w1 w2 w3
  have ip := In_pow hs
  have hp : (0 : Int) < 2 ^ s := Int.pow_pos (by decide)
  have io : In (m / 2 ^ s) := In_div hm ip (by omega)
  have hmot : m / 2 ^ s * 2 ^ s = m := Int.ediv_mul_cancel hdv
  have hs1 : (2 : Int) ^ s ≠ 1 := by
    intro e1
    rw [e1] at hod
    simp at hod; omega
  have hdR : (2 : Int) ^ s ∣ 115792089237316195423570985008687907853269984665640564039457584007913129639936 := by
    have e : (115792089237316195423570985008687907853269984665640564039457584007913129639936 : Int) = 2 ^ 256 := by decide
    rw [e]; exact ⟨2 ^ (256 - s), by rw [← Int.pow_add, show s + (256 - s) = 256 by omega]⟩
  have hpc := fun (o : Int) (ho : o % 2 = 1) (h0 : 0 < o) => pow_coprime o ho h0 s
  clear w0 w1 w2 w3 hmd
  generalize m / 2 ^ s = o at *
  generalize (2 : Int) ^ s = t at *
  have ho0 : o ≠ 0 := by intro e; subst e; simp at hod
  have hop : 0 < o := by have := io.1; omega
  have hoo : o % 2 = 1 := hod
  have hJ : Hid (∀ u, Calls Try.prog 91 #[NV (a ^ e.toNat % o), NV o, NV (a ^ e.toNat % 115792089237316195423570985008687907853269984665640564039457584007913129639936), NV t] u fun en u' => en = .returned (NV (a ^ e.toNat % m)) ∧ Below u.heap.size u u') := fun u => by
    have hg := hpc o hoo hop
    obtain ⟨i, hi⟩ := IsInv.ex (m := t) (a := o % t) (Int.emod_nonneg _ (by omega)) (Int.emod_lt_of_pos _ hp) hg
    have k := mjoin (a ^ e.toNat % o) o (a ^ e.toNat % 115792089237316195423570985008687907853269984665640564039457584007913129639936) t i u (In_mod io ho0) io (In_R4 _) ip (by omega) hs1 hg hi (Int.emod_lt_of_pos _ hop) (by rw [hmot]; have := hm.2; omega)
    have hti : t ∣ i * o - 1 := by
      obtain ⟨q, hq⟩ := hi.2.2
      have e3 := Int.mul_ediv_add_emod o t
      refine ⟨q + i * (o / t), ?_⟩
      generalize o / t = z at *
      generalize o % t = r at *
      have : r = o - t * z := by omega
      subst this; grind
    have hA := crt_join (a ^ e.toNat) o t i (a ^ e.toNat % o) (a ^ e.toNat % 115792089237316195423570985008687907853269984665640564039457584007913129639936) hop hp (Int.emod_nonneg _ ho0) (Int.emod_lt_of_pos _ hop) (Int.dvd_self_sub_emod) (Int.dvd_trans hdR Int.dvd_self_sub_emod) hti
    rw [hmot] at hA
    rw [hA] at k
    exact k
  clear hpc hmot hdR hod hs1
  go_enter Try.func64, Try.ntmps64
  go_upto_region 1 with fail
  generalize hC : ((((w.alloc (.cells (LN a : List Value).toArray 25)).alloc (.cells (LN e : List Value).toArray 25)).alloc (.cells (LN m : List Value).toArray 25)).alloc (.cells (L0s : List Value).toArray 25)) = v0 at *
  have HB0 : Below w.heap.size w v0 := by rw [← hC]; exact (balloc (balloc (balloc (balloc (bself w) _) _) _) _)
  have K0p0 : CV v0 (w.heap.size) (LN a) := by rw [← hC]; exact ((((CV.new w (LN a) 25).alloc (by simp <;> omega) _).alloc (by simp <;> omega) _).alloc (by simp <;> omega) _)
  have l0p0 : w.heap.size < v0.heap.size := by rw [← hC]; simp <;> omega
  have K0p1 : CV v0 (w.heap.size + 1) (LN e) := by rw [← hC]; exact (((CV.newAt (w.alloc (.cells (LN a : List Value).toArray 25)) (LN e) 25 _ (by simp)).alloc (by simp <;> omega) _).alloc (by simp <;> omega) _)
  have l0p1 : w.heap.size + 1 < v0.heap.size := by rw [← hC]; simp <;> omega
  have K0p2 : CV v0 (w.heap.size + 1 + 1) (LN m) := by rw [← hC]; exact ((CV.newAt ((w.alloc (.cells (LN a : List Value).toArray 25)).alloc (.cells (LN e : List Value).toArray 25)) (LN m) 25 _ (by simp)).alloc (by simp <;> omega) _)
  have l0p2 : w.heap.size + 1 + 1 < v0.heap.size := by rw [← hC]; simp <;> omega
  have K0r6 : CV v0 (w.heap.size + 1 + 1 + 1) (L0s) := by rw [← hC]; exact (CV.newAt (((w.alloc (.cells (LN a : List Value).toArray 25)).alloc (.cells (LN e : List Value).toArray 25)).alloc (.cells (LN m : List Value).toArray 25)) (L0s) 25 _ (by simp))
  have l0r6 : w.heap.size + 1 + 1 + 1 < v0.heap.size := by rw [← hC]; simp <;> omega
  clear hC
  refine region_drawn [12, 13, 8, 9] (fun fZ tZ uZ => MR w.heap.size w (v0.heap.size) [(w.heap.size, LN a), (w.heap.size + 1, LN e), (w.heap.size + 1 + 1, LN m), (w.heap.size + 1 + 1 + 1, L0s)] [] [(fZ 2, fZ 4, tZ 8, L0s, LN m), (fZ 3, fZ 5, tZ 9, L0s, LN 1)] uZ ∧ Gs fZ tZ [(0, 12, NV m), (1, 13, NV 1)] ∧ Os fZ [(4, 2), (5, 3)] ∧ Ns fZ tZ []) (by kernel_rfl) (by kernel_rfl) ?_ ?_ ?_
  · exact ⟨{ bel := HB0.drew, lo := HB0.size, sz := Nat.le_refl _, ks := ⟨⟨l0p0, K0p0⟩, ⟨l0p1, K0p1⟩, ⟨l0p2, K0p2⟩, ⟨l0r6, K0r6⟩, trivial⟩, ex := trivial, nw := ⟨fun e => (by cases e), fun e => (by cases e), trivial⟩, nd := ⟨fun e => (by cases e), fun e => (by cases e), trivial⟩ }, Gs.none _ _, Os.none _, trivial⟩
  · rintro fZ tZ uZ iZ oZ aZ hF ⟨hM, hG, hO, hN⟩ ho hfi hdep
    obtain ⟨hS, hV⟩ := hF.two 41 (by decide) rfl (by decide)
    rcases cZ6 ho with rfl | rfl | rfl | rfl | rfl | rfl <;> cases ho
    · exact t_load (show aZ.eval (.tmp 5) = .pointer (some ⟨w.heap.size + 1 + 1, 0, none⟩) from (hF.out 5 (by decide)).trans rfl) hM.ks.2.2.1.2 Try.underlying25 info_api_Nat hF hS rfl rfl rfl rfl rfl (by decide) (Jm hM hG hO hN)
    · exact t_call (vs := [(Go.Value.int Go.IntKind.u64 1)]) (by show [(Go.Value.int Go.IntKind.u64 1)] = _; rfl) ent_limb_Of (nOf 1 uZ (by omega) (by omega)) hF hS rfl rfl rfl rfl (by decide) (fun _ hB => (Jm (hM.call hB) hG hO hN))
    · have q1 : fZ 4 = false := Os.not (hO.1) hfi
      exact t_alloc (al_api_Nat uZ) hF hS rfl rfl rfl rfl (by decide) ⟨MR.newF 0 hM rfl hfi q1, Gs.other rfl hG, hO.keep rfl, Ns.step hN rfl⟩
    · have q1 : fZ 5 = false := Os.not (hO.2.1) hfi
      exact t_alloc (al_api_Nat uZ) hF hS rfl rfl rfl rfl (by decide) ⟨MR.newF 1 hM rfl hfi q1, Gs.other rfl hG, hO.keep rfl, Ns.step hN rfl⟩
    · exact t_storeN 0 hM rfl (dd 2 hdep) hfi (hV 8 (by decide)) (ve 12 hV (hG.1 (dd 0 hdep))) rfl info_api_Nat rfl hF rfl rfl rfl rfl (fun _ h => ⟨h, Gs.idle rfl hG, ⟨fun _ => (dd 2 hdep :), hO.2.1, trivial⟩, Ns.idle hN⟩)
    · exact t_storeN 1 hM rfl (dd 3 hdep) hfi (hV 9 (by decide)) (ve 13 hV (hG.2.1 (dd 1 hdep))) rfl info_api_Nat rfl hF rfl rfl rfl rfl (fun _ h => ⟨h, Gs.idle rfl hG, ⟨hO.1, fun _ => (dd 3 hdep :), trivial⟩, Ns.idle hN⟩)
  rintro fZ tZ u1 ⟨hM, hG, hO, hN⟩ hall
  obtain ⟨e12, e13, -⟩ := Gs.all 6 hall hG rfl
  obtain ⟨b1_2, ee8, pb1_2, lb1_2, kb1_2⟩ := hM.nw.1 (hall 2 (by decide))
  have e8 : tZ 8 = .pointer (some ⟨b1_2, 0, none⟩) := ee8
  clear ee8
  have Kb1_2 : CV u1 b1_2 (LN m) := by
    have h1 : CV u1 b1_2 (bif fZ 4 then LN m else L0s) := kb1_2
    rw [hall 4 (by decide)] at h1; exact h1
  clear kb1_2
  obtain ⟨b1_3, ee9, pb1_3, lb1_3, kb1_3⟩ := hM.nw.2.1 (hall 3 (by decide))
  have e9 : tZ 9 = .pointer (some ⟨b1_3, 0, none⟩) := ee9
  clear ee9
  have Kb1_3 : CV u1 b1_3 (LN 1) := by
    have h1 : CV u1 b1_3 (bif fZ 5 then LN 1 else L0s) := kb1_3
    rw [hall 5 (by decide)] at h1; exact h1
  clear kb1_3
  have nb1_2_b1_3 : b1_2 ≠ b1_3 := fun e => (hM.nd.1 (hall 2 (by decide))).1 (hall 3 (by decide)) (by show tZ 9 = tZ 8; rw [e9, e8, e])
  have HB1 : Below w.heap.size w u1 := hM.bel
  have sz1 : v0.heap.size ≤ u1.heap.size := hM.sz
  obtain ⟨⟨l1p0, K1p0⟩, ⟨l1p1, K1p1⟩, ⟨l1p2, K1p2⟩, ⟨l1r6, K1r6⟩, -⟩ := hM.ks.up hM.sz
  dsimp only at l1p0 K1p0 l1p1 K1p1 l1p2 K1p2 l1r6 K1r6
  simp only [ovr, List.set_cons_zero, List.set_cons_succ, e12, e13, e8, e9]
  clear hM hG hO hN hall e12 e13 e8 e9 K0p0 K0p1 K0p2 K0r6 HB0
  clear tZ
  go_upto_region 2 with fail
  refine region_plain [10, 11] (fun fZ tZ uZ => MR w.heap.size w (u1.heap.size) [(w.heap.size, LN a), (w.heap.size + 1, LN e), (w.heap.size + 1 + 1, LN m), (w.heap.size + 1 + 1 + 1, L0s), (b1_2, LN m), (b1_3, LN 1)] [] [(fZ 0, false, tZ 10, L0s, L0s), (fZ 1, false, tZ 11, L0s, L0s)] uZ ∧ Gs fZ tZ [] ∧ Os fZ [] ∧ Ns fZ tZ []) (by kernel_rfl) ?_ ?_ ?_
  · exact ⟨{ bel := HB1, lo := HB1.size, sz := Nat.le_refl _, ks := ⟨⟨l1p0, K1p0⟩, ⟨l1p1, K1p1⟩, ⟨l1p2, K1p2⟩, ⟨l1r6, K1r6⟩, ⟨lb1_2, Kb1_2⟩, ⟨lb1_3, Kb1_3⟩, trivial⟩, ex := trivial, nw := ⟨fun e => (by cases e), fun e => (by cases e), trivial⟩, nd := ⟨fun e => (by cases e), fun e => (by cases e), trivial⟩ }, Gs.none _ _, Os.none _, trivial⟩
  · rintro fZ tZ uZ iZ oZ aZ hF ⟨hM, hG, hO, hN⟩ ho hfi hdep
    obtain ⟨hS, hV⟩ := hF.two 41 (by decide) rfl (by decide)
    rcases cZ2 ho with rfl | rfl <;> cases ho
    · exact t_alloc (al_api_Nat uZ) hF hS rfl rfl rfl rfl (by decide) ⟨MR.newF 0 hM rfl hfi rfl, Gs.other rfl hG, trivial, Ns.step hN rfl⟩
    · exact t_alloc (al_api_Nat uZ) hF hS rfl rfl rfl rfl (by decide) ⟨MR.newF 1 hM rfl hfi rfl, Gs.other rfl hG, trivial, Ns.step hN rfl⟩
  rintro fZ tZ u2 ⟨hM, hG, hO, hN⟩ hall
  obtain ⟨b2_0, ee10, pb2_0, lb2_0, kb2_0⟩ := hM.nw.1 (hall 0 (by decide))
  have e10 : tZ 10 = .pointer (some ⟨b2_0, 0, none⟩) := ee10
  clear ee10
  have Kb2_0 : CV u2 b2_0 (L0s) := kb2_0
  clear kb2_0
  obtain ⟨b2_1, ee11, pb2_1, lb2_1, kb2_1⟩ := hM.nw.2.1 (hall 1 (by decide))
  have e11 : tZ 11 = .pointer (some ⟨b2_1, 0, none⟩) := ee11
  clear ee11
  have Kb2_1 : CV u2 b2_1 (L0s) := kb2_1
  clear kb2_1
  have nb2_0_b2_1 : b2_0 ≠ b2_1 := fun e => (hM.nd.1 (hall 0 (by decide))).1 (hall 1 (by decide)) (by show tZ 11 = tZ 10; rw [e11, e10, e])
  have HB2 : Below w.heap.size w u2 := hM.bel
  have sz2 : u1.heap.size ≤ u2.heap.size := hM.sz
  obtain ⟨⟨l2p0, K2p0⟩, ⟨l2p1, K2p1⟩, ⟨l2p2, K2p2⟩, ⟨l2r6, K2r6⟩, ⟨l2n1_2, K2n1_2⟩, ⟨l2n1_3, K2n1_3⟩, -⟩ := hM.ks.up hM.sz
  dsimp only at l2p0 K2p0 l2p1 K2p1 l2p2 K2p2 l2r6 K2r6 l2n1_2 K2n1_2 l2n1_3 K2n1_3
  simp only [ovr, List.set_cons_zero, List.set_cons_succ, e10, e11]
  clear hM hG hO hN hall e10 e11 K1p0 K1p1 K1p2 K1r6 Kb1_2 Kb1_3 HB1
  clear tZ
  go_upto_region 3 with fail
  refine region_plain [15, 16, 17, 14] (fun fZ tZ uZ => MR w.heap.size w (u2.heap.size) [(w.heap.size, LN a), (w.heap.size + 1, LN e), (w.heap.size + 1 + 1, LN m), (w.heap.size + 1 + 1 + 1, L0s), (b1_2, LN m), (b1_3, LN 1), (b2_0, L0s), (b2_1, L0s)] [] [] uZ ∧ Gs fZ tZ [(0, 15, NV m), (1, 16, A4 (0) (0) (0) (0)), (2, 17, .bool false), (3, 14, .bool false)] ∧ Os fZ [] ∧ Ns fZ tZ []) (by kernel_rfl) ?_ ?_ ?_
  · exact ⟨{ bel := HB2, lo := HB2.size, sz := Nat.le_refl _, ks := ⟨⟨l2p0, K2p0⟩, ⟨l2p1, K2p1⟩, ⟨l2p2, K2p2⟩, ⟨l2r6, K2r6⟩, ⟨l2n1_2, K2n1_2⟩, ⟨l2n1_3, K2n1_3⟩, ⟨lb2_0, Kb2_0⟩, ⟨lb2_1, Kb2_1⟩, trivial⟩, ex := trivial, nw := trivial, nd := trivial }, Gs.none _ _, Os.none _, trivial⟩
  · rintro fZ tZ uZ iZ oZ aZ hF ⟨hM, hG, hO, hN⟩ ho hfi hdep
    obtain ⟨hS, hV⟩ := hF.two 41 (by decide) rfl (by decide)
    rcases cZ4 ho with rfl | rfl | rfl | rfl <;> cases ho
    · exact t_load (show aZ.eval (.tmp 5) = .pointer (some ⟨w.heap.size + 1 + 1, 0, none⟩) from (hF.out 5 (by decide)).trans rfl) hM.ks.2.2.1.2 Try.underlying25 info_api_Nat hF hS rfl rfl rfl rfl rfl (by decide) (Jt hM hG hN)
    · refine op_plain rfl rfl (fun K hK => ?_)
      refine wp_val (v := A4 (0) (0) (0) (0)) (w' := uZ) (by kernel_rfl) ?_
      exact tell hK hF hS (by decide) (Jt hM hG hN)
    · refine op_plain rfl rfl (fun K hK => ?_)
      refine wp_bin rfl (ve 15 hV (hG.1 (dd 0 hdep))) (ve 16 hV (hG.2.1 (dd 1 hdep))) (eql_0 _ _ hm _ hz uZ) ?_
      exact tell hK hF hS (by decide) (Jt hM hG hN)
    · exact t_assign (ve 17 hV (hG.2.2.1 (dd 2 hdep))) hF hS rfl rfl rfl rfl (by decide) (Jt hM hG hN)
  rintro fZ tZ u3 ⟨hM, hG, hO, hN⟩ hall
  obtain ⟨e15, e16, e17, e14, -⟩ := Gs.all 4 hall hG rfl
  have HB3 : Below w.heap.size w u3 := hM.bel
  have sz3 : u2.heap.size ≤ u3.heap.size := hM.sz
  obtain ⟨⟨l3p0, K3p0⟩, ⟨l3p1, K3p1⟩, ⟨l3p2, K3p2⟩, ⟨l3r6, K3r6⟩, ⟨l3n1_2, K3n1_2⟩, ⟨l3n1_3, K3n1_3⟩, ⟨l3n2_0, K3n2_0⟩, ⟨l3n2_1, K3n2_1⟩, -⟩ := hM.ks.up hM.sz
  dsimp only at l3p0 K3p0 l3p1 K3p1 l3p2 K3p2 l3r6 K3r6 l3n1_2 K3n1_2 l3n1_3 K3n1_3 l3n2_0 K3n2_0 l3n2_1 K3n2_1
  simp only [ovr, List.set_cons_zero, List.set_cons_succ, e15, e16, e17, e14]
  clear hM hG hO hN hall e15 e16 e17 e14 K2n1_2 K2n1_3 K2p0 K2p1 K2p2 K2r6 Kb2_0 Kb2_1 HB2
  clear tZ
  go_upto_region 4 with fail
  refine region_plain [19, 20, 21, 18] (fun fZ tZ uZ => MR w.heap.size w (u3.heap.size) [(w.heap.size, LN a), (w.heap.size + 1, LN e), (w.heap.size + 1 + 1, LN m), (w.heap.size + 1 + 1 + 1, L0s), (b1_2, LN m), (b1_3, LN 1), (b2_0, L0s), (b2_1, L0s)] [] [] uZ ∧ Gs fZ tZ [(0, 19, NV m), (1, 20, .bool false), (2, 21, .bool true), (3, 18, .bool true)] ∧ Os fZ [] ∧ Ns fZ tZ []) (by kernel_rfl) ?_ ?_ ?_
  · exact ⟨{ bel := HB3, lo := HB3.size, sz := Nat.le_refl _, ks := ⟨⟨l3p0, K3p0⟩, ⟨l3p1, K3p1⟩, ⟨l3p2, K3p2⟩, ⟨l3r6, K3r6⟩, ⟨l3n1_2, K3n1_2⟩, ⟨l3n1_3, K3n1_3⟩, ⟨l3n2_0, K3n2_0⟩, ⟨l3n2_1, K3n2_1⟩, trivial⟩, ex := trivial, nw := trivial, nd := trivial }, Gs.none _ _, Os.none _, trivial⟩
  · rintro fZ tZ uZ iZ oZ aZ hF ⟨hM, hG, hO, hN⟩ ho hfi hdep
    obtain ⟨hS, hV⟩ := hF.two 41 (by decide) rfl (by decide)
    rcases cZ4 ho with rfl | rfl | rfl | rfl <;> cases ho
    · exact t_load (show aZ.eval (.tmp 5) = .pointer (some ⟨w.heap.size + 1 + 1, 0, none⟩) from (hF.out 5 (by decide)).trans rfl) hM.ks.2.2.1.2 Try.underlying25 info_api_Nat hF hS rfl rfl rfl rfl rfl (by decide) (Jt hM hG hN)
    · exact t_call (vs := [NV m, (Go.Value.int Go.IntKind.i64 0)]) (by show [aZ.eval (.tmp 19), (Go.Value.int Go.IntKind.i64 0)] = _; rw [(ve 19 hV (hG.1 (dd 0 hdep)))]) ent_limb_Bit (hB.out uZ) hF hS rfl rfl rfl rfl (by decide) (fun _ hB => (Jt (hM.call hB) hG hN))
    · refine op_plain rfl rfl (fun K hK => ?_)
      refine wp_un rfl (ve 20 hV (hG.2.1 (dd 1 hdep))) (rfl) ?_
      exact tell hK hF hS (by decide) (Jt hM hG hN)
    · exact t_assign (ve 21 hV (hG.2.2.1 (dd 2 hdep))) hF hS rfl rfl rfl rfl (by decide) (Jt hM hG hN)
  rintro fZ tZ u4 ⟨hM, hG, hO, hN⟩ hall
  obtain ⟨e19, e20, e21, e18, -⟩ := Gs.all 4 hall hG rfl
  have HB4 : Below w.heap.size w u4 := hM.bel
  have sz4 : u3.heap.size ≤ u4.heap.size := hM.sz
  obtain ⟨⟨l4p0, K4p0⟩, ⟨l4p1, K4p1⟩, ⟨l4p2, K4p2⟩, ⟨l4r6, K4r6⟩, ⟨l4n1_2, K4n1_2⟩, ⟨l4n1_3, K4n1_3⟩, ⟨l4n2_0, K4n2_0⟩, ⟨l4n2_1, K4n2_1⟩, -⟩ := hM.ks.up hM.sz
  dsimp only at l4p0 K4p0 l4p1 K4p1 l4p2 K4p2 l4r6 K4r6 l4n1_2 K4n1_2 l4n1_3 K4n1_3 l4n2_0 K4n2_0 l4n2_1 K4n2_1
  simp only [ovr, List.set_cons_zero, List.set_cons_succ, e19, e20, e21, e18]
  clear hM hG hO hN hall e19 e20 e21 e18 K3n1_2 K3n1_3 K3n2_0 K3n2_1 K3p0 K3p1 K3p2 K3r6 HB3
  clear tZ
  go_upto_region 6 with fail
  refine region_plain [24, 25, 23, 26, 27] (fun fZ tZ uZ => MR w.heap.size w (u4.heap.size) [(w.heap.size, LN a), (w.heap.size + 1, LN e), (w.heap.size + 1 + 1, LN m), (w.heap.size + 1 + 1 + 1, L0s), (b2_0, L0s), (b2_1, L0s)] [(b1_2, fZ 5, LN m, LN o), (b1_3, fZ 6, LN 1, LN t)] [] uZ ∧ Gs fZ tZ [(0, 24, NV m), (1, 25, .tuple #[NV o, NV t]), (2, 23, .tuple #[NV o, NV t]), (3, 26, NV o), (4, 27, NV t)] ∧ Os fZ [] ∧ Ns fZ tZ []) (by kernel_rfl) ?_ ?_ ?_
  · exact ⟨{ bel := HB4, lo := HB4.size, sz := Nat.le_refl _, ks := ⟨⟨l4p0, K4p0⟩, ⟨l4p1, K4p1⟩, ⟨l4p2, K4p2⟩, ⟨l4r6, K4r6⟩, ⟨l4n2_0, K4n2_0⟩, ⟨l4n2_1, K4n2_1⟩, trivial⟩, ex := ⟨⟨(by omega), l4n1_2, rfl, K4n1_2⟩, ⟨(by omega), l4n1_3, rfl, K4n1_3⟩, trivial⟩, nw := trivial, nd := trivial }, Gs.none _ _, Os.none _, trivial⟩
  · rintro fZ tZ uZ iZ oZ aZ hF ⟨hM, hG, hO, hN⟩ ho hfi hdep
    obtain ⟨hS, hV⟩ := hF.two 41 (by decide) rfl (by decide)
    rcases cZ7 ho with rfl | rfl | rfl | rfl | rfl | rfl | rfl <;> cases ho
    · exact t_load (show aZ.eval (.tmp 5) = .pointer (some ⟨w.heap.size + 1 + 1, 0, none⟩) from (hF.out 5 (by decide)).trans rfl) hM.ks.2.2.1.2 Try.underlying25 info_api_Nat hF hS rfl rfl rfl rfl rfl (by decide) (Jt hM hG hN)
    · exact t_call (vs := [NV m]) (by show [aZ.eval (.tmp 24)] = _; rw [(ve 24 hV (hG.1 (dd 0 hdep)))]) ent_mod_split (hSp.out uZ) hF hS rfl rfl rfl rfl (by decide) (fun _ hB => (Jt (hM.call hB) hG hN))
    · exact t_move (ve 25 hV (hG.2.1 (dd 1 hdep))) hF hS rfl rfl rfl rfl (by decide) (Jt hM hG hN)
    · exact t_extract (ve 23 hV (hG.2.2.1 (dd 2 hdep))) hF hS rfl rfl rfl rfl rfl (by decide) (Jt hM hG hN)
    · exact t_extract (ve 23 hV (hG.2.2.1 (dd 2 hdep))) hF hS rfl rfl rfl rfl rfl (by decide) (Jt hM hG hN)
    · refine op_plain rfl rfl (fun K hK => ?_)
      have kk : CV uZ (b1_2) (bif fZ 5 then LN o else LN m) := hM.ex.1.2.2.2
      rw [hfi] at kk
      have kk : CV uZ (b1_2) (LN m) := kk
      refine wp_store_mid 25 _ _ rfl (b1_2) 0 (LN o : List Value).toArray (show aZ.eval (.tmp 8) = .pointer (some ⟨b1_2, 0, none⟩) from (hF.out 8 (by decide)).trans rfl) (ve 26 hV (hG.2.2.2.1 (dd 3 hdep))) kk.there info_api_Nat (all_one rfl) ?_
      exact tell0 hK hF ⟨MR.putXF 0 hM rfl ⟨by omega, by omega, by omega, by omega, by omega, by omega, trivial⟩ ⟨by omega, trivial⟩, Gs.idle rfl hG, trivial, Ns.idle hN⟩
    · refine op_plain rfl rfl (fun K hK => ?_)
      have kk : CV uZ (b1_3) (bif fZ 6 then LN t else LN 1) := hM.ex.2.1.2.2.2
      rw [hfi] at kk
      have kk : CV uZ (b1_3) (LN 1) := kk
      refine wp_store_mid 25 _ _ rfl (b1_3) 0 (LN t : List Value).toArray (show aZ.eval (.tmp 9) = .pointer (some ⟨b1_3, 0, none⟩) from (hF.out 9 (by decide)).trans rfl) (ve 27 hV (hG.2.2.2.2.1 (dd 4 hdep))) kk.there info_api_Nat (all_one rfl) ?_
      exact tell0 hK hF ⟨MR.putXF 1 hM rfl ⟨by omega, by omega, by omega, by omega, by omega, by omega, trivial⟩ ⟨by omega, trivial⟩, Gs.idle rfl hG, trivial, Ns.idle hN⟩
  rintro fZ tZ u5 ⟨hM, hG, hO, hN⟩ hall
  obtain ⟨e24, e25, e23, e26, e27, -⟩ := Gs.all 7 hall hG rfl
  have HB5 : Below w.heap.size w u5 := hM.bel
  have sz5 : u4.heap.size ≤ u5.heap.size := hM.sz
  obtain ⟨⟨l5p0, K5p0⟩, ⟨l5p1, K5p1⟩, -, ⟨l5r6, K5r6⟩, ⟨l5n2_0, K5n2_0⟩, ⟨l5n2_1, K5n2_1⟩, -⟩ := hM.ks.up hM.sz
  dsimp only at l5p0 K5p0 l5p1 K5p1 l5r6 K5r6 l5n2_0 K5n2_0 l5n2_1 K5n2_1
  have K5n1_2 : CV u5 (b1_2) (LN o) := by
    have h1 : CV u5 (b1_2) (bif fZ 5 then LN o else LN m) := hM.ex.1.2.2.2
    rw [hall 5 (by decide)] at h1; exact h1
  have l5n1_2 : b1_2 < u5.heap.size := Nat.lt_of_lt_of_le hM.ex.1.2.1 hM.sz
  have K5n1_3 : CV u5 (b1_3) (LN t) := by
    have h1 : CV u5 (b1_3) (bif fZ 6 then LN t else LN 1) := hM.ex.2.1.2.2.2
    rw [hall 6 (by decide)] at h1; exact h1
  have l5n1_3 : b1_3 < u5.heap.size := Nat.lt_of_lt_of_le hM.ex.2.1.2.1 hM.sz
  simp only [ovr, List.set_cons_zero, List.set_cons_succ, e24, e25, e23, e26, e27]
  clear hM hG hO hN hall e24 e25 e23 e26 e27 K4n1_2 K4n1_3 K4n2_0 K4n2_1 K4p0 K4p1 K4p2 K4r6 HB4
  clear tZ
  go_upto_region 7 with fail
  refine region_drawn [28, 29, 30, 31] (fun fZ tZ uZ => MR w.heap.size w (u5.heap.size) [(w.heap.size, LN a), (w.heap.size + 1, LN e), (w.heap.size + 1 + 1 + 1, L0s), (b1_2, LN o), (b1_3, LN t), (b2_0, L0s)] [(b2_1, fZ 4, L0s, LN (a ^ e.toNat % 115792089237316195423570985008687907853269984665640564039457584007913129639936))] [] uZ ∧ Gs fZ tZ [(0, 28, NV a), (1, 29, NV e), (2, 30, NV 1), (3, 31, NV (a ^ e.toNat % 115792089237316195423570985008687907853269984665640564039457584007913129639936))] ∧ Os fZ [] ∧ Ns fZ tZ []) (by kernel_rfl) (by kernel_rfl) ?_ ?_ ?_
  · exact ⟨{ bel := HB5.drew, lo := HB5.size, sz := Nat.le_refl _, ks := ⟨⟨l5p0, K5p0⟩, ⟨l5p1, K5p1⟩, ⟨l5r6, K5r6⟩, ⟨l5n1_2, K5n1_2⟩, ⟨l5n1_3, K5n1_3⟩, ⟨l5n2_0, K5n2_0⟩, trivial⟩, ex := ⟨⟨(by omega), l5n2_1, rfl, K5n2_1⟩, trivial⟩, nw := trivial, nd := trivial }, Gs.none _ _, Os.none _, trivial⟩
  · rintro fZ tZ uZ iZ oZ aZ hF ⟨hM, hG, hO, hN⟩ ho hfi hdep
    obtain ⟨hS, hV⟩ := hF.two 41 (by decide) rfl (by decide)
    rcases cZ5 ho with rfl | rfl | rfl | rfl | rfl <;> cases ho
    · exact t_load (show aZ.eval (.tmp 3) = .pointer (some ⟨w.heap.size, 0, none⟩) from (hF.out 3 (by decide)).trans rfl) hM.ks.1.2 Try.underlying25 info_api_Nat hF hS rfl rfl rfl rfl rfl (by decide) (Jt hM hG hN)
    · exact t_load (show aZ.eval (.tmp 4) = .pointer (some ⟨w.heap.size + 1, 0, none⟩) from (hF.out 4 (by decide)).trans rfl) hM.ks.2.1.2 Try.underlying25 info_api_Nat hF hS rfl rfl rfl rfl rfl (by decide) (Jt hM hG hN)
    · exact t_call (vs := [(Go.Value.int Go.IntKind.u64 1)]) (by show [(Go.Value.int Go.IntKind.u64 1)] = _; rfl) ent_limb_Of (nOf 1 uZ (by omega) (by omega)) hF hS rfl rfl rfl rfl (by decide) (fun _ hB => (Jt (hM.call hB) hG hN))
    · have kkp0 : CV uZ (w.heap.size) (LN a) := hM.ks.1.2
      have lbp0 : w.heap.size < uZ.heap.size := Nat.lt_of_lt_of_le hM.ks.1.1 hM.sz
      exact t_call (vs := [NV a, NV e, NV 1, .func (.func 89) #[] #[]]) (by show [aZ.eval (.tmp 28), aZ.eval (.tmp 29), aZ.eval (.tmp 30), .func (.func 89) #[] #[]] = _; rw [(ve 28 hV (hG.1 (dd 0 hdep))), (ve 29 hV (hG.2.1 (dd 1 hdep))), (ve 30 hV (hG.2.2.1 (dd 2 hdep)))]) ent_mod_raise (mraise_low a e (w.heap.size) uZ ha he lbp0) hF hS rfl rfl rfl rfl (by decide) (fun _ hB => (Jt (hM.call hB) hG hN))
    · refine op_plain rfl rfl (fun K hK => ?_)
      have kk : CV uZ (b2_1) (bif fZ 4 then LN (a ^ e.toNat % 115792089237316195423570985008687907853269984665640564039457584007913129639936) else L0s) := hM.ex.1.2.2.2
      rw [hfi] at kk
      have kk : CV uZ (b2_1) (L0s) := kk
      refine wp_store_mid 25 _ _ rfl (b2_1) 0 (LN (a ^ e.toNat % 115792089237316195423570985008687907853269984665640564039457584007913129639936) : List Value).toArray (show aZ.eval (.tmp 11) = .pointer (some ⟨b2_1, 0, none⟩) from (hF.out 11 (by decide)).trans rfl) (ve 31 hV (hG.2.2.2.1 (dd 3 hdep))) kk.there info_api_Nat (all_one rfl) ?_
      exact tell0 hK hF ⟨MR.putXF 0 hM rfl ⟨by omega, by omega, by omega, by omega, by omega, by omega, trivial⟩ trivial, Gs.idle rfl hG, trivial, Ns.idle hN⟩
  rintro fZ tZ u6 ⟨hM, hG, hO, hN⟩ hall
  obtain ⟨e28, e29, e30, e31, -⟩ := Gs.all 5 hall hG rfl
  have HB6 : Below w.heap.size w u6 := hM.bel
  have sz6 : u5.heap.size ≤ u6.heap.size := hM.sz
  obtain ⟨⟨l6p0, K6p0⟩, ⟨l6p1, K6p1⟩, ⟨l6r6, K6r6⟩, ⟨l6n1_2, K6n1_2⟩, ⟨l6n1_3, K6n1_3⟩, ⟨l6n2_0, K6n2_0⟩, -⟩ := hM.ks.up hM.sz
  dsimp only at l6p0 K6p0 l6p1 K6p1 l6r6 K6r6 l6n1_2 K6n1_2 l6n1_3 K6n1_3 l6n2_0 K6n2_0
  have K6n2_1 : CV u6 (b2_1) (LN (a ^ e.toNat % 115792089237316195423570985008687907853269984665640564039457584007913129639936)) := by
    have h1 : CV u6 (b2_1) (bif fZ 4 then LN (a ^ e.toNat % 115792089237316195423570985008687907853269984665640564039457584007913129639936) else L0s) := hM.ex.1.2.2.2
    rw [hall 4 (by decide)] at h1; exact h1
  have l6n2_1 : b2_1 < u6.heap.size := Nat.lt_of_lt_of_le hM.ex.1.2.1 hM.sz
  simp only [ovr, List.set_cons_zero, List.set_cons_succ, e28, e29, e30, e31]
  clear hM hG hO hN hall e28 e29 e30 e31 K5n1_2 K5n1_3 K5n2_0 K5n2_1 K5p0 K5p1 K5r6 HB5
  clear tZ
  go_upto_region 8 with fail
  refine region_plain [32, 33, 34, 35] (fun fZ tZ uZ => MR w.heap.size w (u6.heap.size) [(w.heap.size, LN a), (w.heap.size + 1, LN e), (w.heap.size + 1 + 1 + 1, L0s), (b1_2, LN o), (b1_3, LN t), (b2_1, LN (a ^ e.toNat % 115792089237316195423570985008687907853269984665640564039457584007913129639936))] [(b2_0, fZ 4, L0s, LN (a ^ e.toNat % o))] [] uZ ∧ Gs fZ tZ [(0, 32, NV a), (1, 33, NV e), (2, 34, NV o), (3, 35, NV (a ^ e.toNat % o))] ∧ Os fZ [] ∧ Ns fZ tZ []) (by kernel_rfl) ?_ ?_ ?_
  · exact ⟨{ bel := HB6, lo := HB6.size, sz := Nat.le_refl _, ks := ⟨⟨l6p0, K6p0⟩, ⟨l6p1, K6p1⟩, ⟨l6r6, K6r6⟩, ⟨l6n1_2, K6n1_2⟩, ⟨l6n1_3, K6n1_3⟩, ⟨l6n2_1, K6n2_1⟩, trivial⟩, ex := ⟨⟨(by omega), l6n2_0, rfl, K6n2_0⟩, trivial⟩, nw := trivial, nd := trivial }, Gs.none _ _, Os.none _, trivial⟩
  · rintro fZ tZ uZ iZ oZ aZ hF ⟨hM, hG, hO, hN⟩ ho hfi hdep
    obtain ⟨hS, hV⟩ := hF.two 41 (by decide) rfl (by decide)
    rcases cZ5 ho with rfl | rfl | rfl | rfl | rfl <;> cases ho
    · exact t_load (show aZ.eval (.tmp 3) = .pointer (some ⟨w.heap.size, 0, none⟩) from (hF.out 3 (by decide)).trans rfl) hM.ks.1.2 Try.underlying25 info_api_Nat hF hS rfl rfl rfl rfl rfl (by decide) (Jt hM hG hN)
    · exact t_load (show aZ.eval (.tmp 4) = .pointer (some ⟨w.heap.size + 1, 0, none⟩) from (hF.out 4 (by decide)).trans rfl) hM.ks.2.1.2 Try.underlying25 info_api_Nat hF hS rfl rfl rfl rfl rfl (by decide) (Jt hM hG hN)
    · exact t_load (show aZ.eval (.tmp 8) = .pointer (some ⟨b1_2, 0, none⟩) from (hF.out 8 (by decide)).trans rfl) hM.ks.2.2.2.1.2 Try.underlying25 info_api_Nat hF hS rfl rfl rfl rfl rfl (by decide) (Jt hM hG hN)
    · exact t_call (vs := [NV a, NV e, NV o]) (by show [aZ.eval (.tmp 32), aZ.eval (.tmp 33), aZ.eval (.tmp 34)] = _; rw [(ve 32 hV (hG.1 (dd 0 hdep))), (ve 33 hV (hG.2.1 (dd 1 hdep))), (ve 34 hV (hG.2.2.1 (dd 2 hdep)))]) ent_mod_powerOfOdd (mpow a e o uZ ha he io ho0 hoo) hF hS rfl rfl rfl rfl (by decide) (fun _ hB => (Jt (hM.call hB) hG hN))
    · refine op_plain rfl rfl (fun K hK => ?_)
      have kk : CV uZ (b2_0) (bif fZ 4 then LN (a ^ e.toNat % o) else L0s) := hM.ex.1.2.2.2
      rw [hfi] at kk
      have kk : CV uZ (b2_0) (L0s) := kk
      refine wp_store_mid 25 _ _ rfl (b2_0) 0 (LN (a ^ e.toNat % o) : List Value).toArray (show aZ.eval (.tmp 10) = .pointer (some ⟨b2_0, 0, none⟩) from (hF.out 10 (by decide)).trans rfl) (ve 35 hV (hG.2.2.2.1 (dd 3 hdep))) kk.there info_api_Nat (all_one rfl) ?_
      exact tell0 hK hF ⟨MR.putXF 0 hM rfl ⟨by omega, by omega, by omega, by omega, by omega, by omega, trivial⟩ trivial, Gs.idle rfl hG, trivial, Ns.idle hN⟩
  rintro fZ tZ u7 ⟨hM, hG, hO, hN⟩ hall
  obtain ⟨e32, e33, e34, e35, -⟩ := Gs.all 5 hall hG rfl
  have HB7 : Below w.heap.size w u7 := hM.bel
  have sz7 : u6.heap.size ≤ u7.heap.size := hM.sz
  obtain ⟨-, -, ⟨l7r6, K7r6⟩, ⟨l7n1_2, K7n1_2⟩, ⟨l7n1_3, K7n1_3⟩, ⟨l7n2_1, K7n2_1⟩, -⟩ := hM.ks.up hM.sz
  dsimp only at l7r6 K7r6 l7n1_2 K7n1_2 l7n1_3 K7n1_3 l7n2_1 K7n2_1
  have K7n2_0 : CV u7 (b2_0) (LN (a ^ e.toNat % o)) := by
    have h1 : CV u7 (b2_0) (bif fZ 4 then LN (a ^ e.toNat % o) else L0s) := hM.ex.1.2.2.2
    rw [hall 4 (by decide)] at h1; exact h1
  have l7n2_0 : b2_0 < u7.heap.size := Nat.lt_of_lt_of_le hM.ex.1.2.1 hM.sz
  simp only [ovr, List.set_cons_zero, List.set_cons_succ, e32, e33, e34, e35]
  clear hM hG hO hN hall e32 e33 e34 e35 K6n1_2 K6n1_3 K6n2_0 K6n2_1 K6p0 K6p1 K6r6 HB6
  clear tZ
  go_upto_region 9 with fail
  refine region_plain [36, 37, 38, 39, 40, 7] (fun fZ tZ uZ => MR w.heap.size w (u7.heap.size) [(b1_2, LN o), (b1_3, LN t), (b2_0, LN (a ^ e.toNat % o)), (b2_1, LN (a ^ e.toNat % 115792089237316195423570985008687907853269984665640564039457584007913129639936))] [(w.heap.size + 1 + 1 + 1, fZ 5, L0s, LN (a ^ e.toNat % m))] [] uZ ∧ Gs fZ tZ [(0, 36, NV (a ^ e.toNat % o)), (1, 37, NV o), (2, 38, NV (a ^ e.toNat % 115792089237316195423570985008687907853269984665640564039457584007913129639936)), (3, 39, NV t), (4, 40, NV (a ^ e.toNat % m)), (6, 7, (Go.Value.int Go.IntKind.i64 0))] ∧ Os fZ [] ∧ Ns fZ tZ []) (by kernel_rfl) ?_ ?_ ?_
  · exact ⟨{ bel := HB7, lo := HB7.size, sz := Nat.le_refl _, ks := ⟨⟨l7n1_2, K7n1_2⟩, ⟨l7n1_3, K7n1_3⟩, ⟨l7n2_0, K7n2_0⟩, ⟨l7n2_1, K7n2_1⟩, trivial⟩, ex := ⟨⟨(by omega), l7r6, rfl, K7r6⟩, trivial⟩, nw := trivial, nd := trivial }, Gs.none _ _, Os.none _, trivial⟩
  · rintro fZ tZ uZ iZ oZ aZ hF ⟨hM, hG, hO, hN⟩ ho hfi hdep
    obtain ⟨hS, hV⟩ := hF.two 41 (by decide) rfl (by decide)
    rcases cZ7 ho with rfl | rfl | rfl | rfl | rfl | rfl | rfl <;> cases ho
    · exact t_load (show aZ.eval (.tmp 10) = .pointer (some ⟨b2_0, 0, none⟩) from (hF.out 10 (by decide)).trans rfl) hM.ks.2.2.1.2 Try.underlying25 info_api_Nat hF hS rfl rfl rfl rfl rfl (by decide) (Jt hM hG hN)
    · exact t_load (show aZ.eval (.tmp 8) = .pointer (some ⟨b1_2, 0, none⟩) from (hF.out 8 (by decide)).trans rfl) hM.ks.1.2 Try.underlying25 info_api_Nat hF hS rfl rfl rfl rfl rfl (by decide) (Jt hM hG hN)
    · exact t_load (show aZ.eval (.tmp 11) = .pointer (some ⟨b2_1, 0, none⟩) from (hF.out 11 (by decide)).trans rfl) hM.ks.2.2.2.1.2 Try.underlying25 info_api_Nat hF hS rfl rfl rfl rfl rfl (by decide) (Jt hM hG hN)
    · exact t_load (show aZ.eval (.tmp 9) = .pointer (some ⟨b1_3, 0, none⟩) from (hF.out 9 (by decide)).trans rfl) hM.ks.2.1.2 Try.underlying25 info_api_Nat hF hS rfl rfl rfl rfl rfl (by decide) (Jt hM hG hN)
    · exact t_call (vs := [NV (a ^ e.toNat % o), NV o, NV (a ^ e.toNat % 115792089237316195423570985008687907853269984665640564039457584007913129639936), NV t]) (by show [aZ.eval (.tmp 36), aZ.eval (.tmp 37), aZ.eval (.tmp 38), aZ.eval (.tmp 39)] = _; rw [(ve 36 hV (hG.1 (dd 0 hdep))), (ve 37 hV (hG.2.1 (dd 1 hdep))), (ve 38 hV (hG.2.2.1 (dd 2 hdep))), (ve 39 hV (hG.2.2.2.1 (dd 3 hdep)))]) ent_mod_join (hJ.out uZ) hF hS rfl rfl rfl rfl (by decide) (fun _ hB => (Jt (hM.call hB) hG hN))
    · refine op_plain rfl rfl (fun K hK => ?_)
      have kk : CV uZ (w.heap.size + 1 + 1 + 1) (bif fZ 5 then LN (a ^ e.toNat % m) else L0s) := hM.ex.1.2.2.2
      rw [hfi] at kk
      have kk : CV uZ (w.heap.size + 1 + 1 + 1) (L0s) := kk
      refine wp_store_mid 25 _ _ rfl (w.heap.size + 1 + 1 + 1) 0 (LN (a ^ e.toNat % m) : List Value).toArray (show aZ.eval (.tmp 6) = .pointer (some ⟨w.heap.size + 1 + 1 + 1, 0, none⟩) from (hF.out 6 (by decide)).trans rfl) (ve 40 hV (hG.2.2.2.2.1 (dd 4 hdep))) kk.there info_api_Nat (all_one rfl) ?_
      exact tell0 hK hF ⟨MR.putXF 0 hM rfl ⟨by omega, by omega, by omega, by omega, trivial⟩ trivial, Gs.idle rfl hG, trivial, Ns.idle hN⟩
    · exact t_assign rfl hF hS rfl rfl rfl rfl (by decide) (Jt hM hG hN)
  rintro fZ tZ u8 ⟨hM, hG, hO, hN⟩ hall
  obtain ⟨e36, e37, e38, e39, e40, e7, -⟩ := Gs.all 7 hall hG rfl
  have HB8 : Below w.heap.size w u8 := hM.bel
  have sz8 : u7.heap.size ≤ u8.heap.size := hM.sz
  have K8r6 : CV u8 (w.heap.size + 1 + 1 + 1) (LN (a ^ e.toNat % m)) := by
    have h1 : CV u8 (w.heap.size + 1 + 1 + 1) (bif fZ 5 then LN (a ^ e.toNat % m) else L0s) := hM.ex.1.2.2.2
    rw [hall 5 (by decide)] at h1; exact h1
  have l8r6 : w.heap.size + 1 + 1 + 1 < u8.heap.size := Nat.lt_of_lt_of_le hM.ex.1.2.1 hM.sz
  simp only [ovr, List.set_cons_zero, List.set_cons_succ, e36, e37, e38, e39, e40, e7]
  clear hM hG hO hN hall e36 e37 e38 e39 e40 e7 K7n1_2 K7n1_3 K7n2_0 K7n2_1 K7r6 HB7
  clear tZ
  have c6_0 := (K8r6 0 _ rfl).1
  have c6_1 := (K8r6 1 _ rfl).1
  have c6_2 := (K8r6 2 _ rfl).1
  have c6_3 := (K8r6 3 _ rfl).1
  go_wp2
  refine bodyPost_ret (v := .tuple #[NV (a ^ e.toNat % m), .int .i64 0]) (by simp [results, Try.results64, go_sem, c6_0, c6_1, c6_2, c6_3]) rfl ⟨rfl, HB8⟩
theorem mExp (a e m : Int) (w : World) (ha : In a) (he : In e) (hm : In m) (h : m ≠ 0) :
    Calls Try.prog 64 #[NV a, NV e, NV m] w fun en w' => en = .returned (.tuple #[NV (a ^ e.toNat % m), .int .i64 0]) ∧ Below w.heap.size w w' := by
  rcases Int.emod_two_eq m with h2 | h2
  · exact mExp_even a e m w ha he hm h h2
  · exact mExp_odd a e m w ha he hm h h2
end Go.Proofs.Ytkpnjmfndgfogaa
