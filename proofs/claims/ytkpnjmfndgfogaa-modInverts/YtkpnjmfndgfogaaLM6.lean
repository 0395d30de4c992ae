/- ModInverts: the walk. -/
import Derived.Test.YtkpnjmfndgfogaaWK2
import Derived.Test.YtkpnjmfndgfogaaMR3
namespace Go.Proofs.Ytkpnjmfndgfogaa
open Go.RowKit
set_option linter.unusedVariables false
set_option linter.unusedSimpArgs false
theorem eqs4 (p q : Operand) (a b c d : Int) (w : World) : (do eqGuard .eql 25 p q (A4 a b c d) (A4 a b c d); binOp .eql 25 (A4 a b c d) (A4 a b c d) : Sem Value).run Try.prog w = .ok (.bool true) w := by
  rw [eql_w, (eq4_iff a b c d a b c d).2 ⟨rfl, rfl, rfl, rfl⟩]
set_option maxRecDepth 100000 in
set_option maxHeartbeats 4000000 in
theorem modInverts_core (a m r0 r1 r2 r3 e : Int) (w : World) (ha : In a) (hm : In m) (hI : Hid (∀ u, Calls Try.prog 21 #[NV a, NV m] u fun en u' => en = .returned (.tuple #[A4 r0 r1 r2 r3, .int .i64 e]) ∧ Below u.heap.size u u')) (hJ : Hid (∀ u, Calls Try.prog 22 #[NV a, NV m] u fun en u' => en = .returned (.tuple #[A4 r0 r1 r2 r3, .int .i64 e]) ∧ Below u.heap.size u u')) : Calls Try.prog 5 #[NV a, NV m] w fun en w' => en = .returned (.bool true) ∧ Below w.heap.size w w' := by
  go_enter Try.func5, Try.ntmps5
  go_upto_region 1 with fail
  generalize hC : ((w.alloc (.cells (LN a : List Value).toArray 25)).alloc (.cells (LN m : List Value).toArray 25)) = v0 at *
  have HB0 : Below w.heap.size w v0 := by rw [← hC]; exact (balloc (balloc (bself w) _) _)
  have K0p0 : CV v0 (w.heap.size) (LN a) := by rw [← hC]; exact ((CV.new w (LN a) 25).alloc (by simp <;> omega) _)
  have l0p0 : w.heap.size < v0.heap.size := by rw [← hC]; simp <;> omega
  have K0p1 : CV v0 (w.heap.size + 1) (LN m) := by rw [← hC]; exact (CV.newAt (w.alloc (.cells (LN a : List Value).toArray 25)) (LN m) 25 _ (by simp))
  have l0p1 : w.heap.size + 1 < v0.heap.size := by rw [← hC]; simp <;> omega
  clear hC
  refine region_plain [10, 11, 12, 9, 13, 14, 5, 6] (fun fZ tZ uZ => MR w.heap.size w (v0.heap.size) [(w.heap.size, LN a), (w.heap.size + 1, LN m)] [] [(fZ 6, fZ 7, tZ 5, L0s, [.int .u64 (r0), .int .u64 (r1), .int .u64 (r2), .int .u64 (r3)])] uZ ∧ Gs fZ tZ [(0, 10, NV a), (1, 11, NV m), (2, 12, .tuple #[A4 (r0) (r1) (r2) (r3), .int .i64 e]), (3, 9, .tuple #[A4 (r0) (r1) (r2) (r3), .int .i64 e]), (4, 13, A4 (r0) (r1) (r2) (r3)), (5, 14, .int .i64 e), (8, 6, .int .i64 e)] ∧ Os fZ [(7, 6)] ∧ Ns fZ tZ []) (by kernel_rfl) ?_ ?_ ?_
  · exact ⟨{ bel := HB0, lo := HB0.size, sz := Nat.le_refl _, ks := ⟨⟨l0p0, K0p0⟩, ⟨l0p1, K0p1⟩, trivial⟩, ex := trivial, nw := ⟨fun e => (by cases e), trivial⟩, nd := ⟨fun e => (by cases e), trivial⟩ }, Gs.none _ _, Os.none _, trivial⟩
  · rintro fZ tZ uZ iZ oZ aZ hF ⟨hM, hG, hO, hN⟩ ho hfi hdep
    obtain ⟨hS, hV⟩ := hF.two 41 (by decide) rfl (by decide)
    rcases cZ9 ho with rfl | rfl | rfl | rfl | rfl | rfl | rfl | rfl | rfl <;> cases ho
    · exact t_load (show aZ.eval (.tmp 2) = .pointer (some ⟨w.heap.size, 0, none⟩) from (hF.out 2 (by decide)).trans rfl) hM.ks.1.2 Try.underlying25 info_api_Nat hF hS rfl rfl rfl rfl rfl (by decide) (Jm hM hG hO hN)
    · exact t_load (show aZ.eval (.tmp 3) = .pointer (some ⟨w.heap.size + 1, 0, none⟩) from (hF.out 3 (by decide)).trans rfl) hM.ks.2.1.2 Try.underlying25 info_api_Nat hF hS rfl rfl rfl rfl rfl (by decide) (Jm hM hG hO hN)
    · exact t_call (vs := [NV a, NV m]) (by show [aZ.eval (.tmp 10), aZ.eval (.tmp 11)] = _; rw [(ve 10 hV (hG.1 (dd 0 hdep))), (ve 11 hV (hG.2.1 (dd 1 hdep)))]) ent_mod_Inverse (hI.out uZ) hF hS rfl rfl rfl rfl (by decide) (fun _ hB => (Jm (hM.call hB) hG hO hN))
    · exact t_move (ve 12 hV (hG.2.2.1 (dd 2 hdep))) hF hS rfl rfl rfl rfl (by decide) (Jm hM hG hO hN)
    · exact t_extract (ve 9 hV (hG.2.2.2.1 (dd 3 hdep))) hF hS rfl rfl rfl rfl rfl (by decide) (Jm hM hG hO hN)
    · exact t_extract (ve 9 hV (hG.2.2.2.1 (dd 3 hdep))) hF hS rfl rfl rfl rfl rfl (by decide) (Jm hM hG hO hN)
    · have q1 : fZ 7 = false := Os.not (hO.1) hfi
      exact t_alloc (al_api_Nat uZ) hF hS rfl rfl rfl rfl (by decide) ⟨MR.newF 0 hM rfl hfi q1, Gs.other rfl hG, hO.keep rfl, Ns.step hN rfl⟩
    · exact t_storeN 0 hM rfl (dd 6 hdep) hfi (hV 5 (by decide)) (ve 13 hV (hG.2.2.2.2.1 (dd 4 hdep))) rfl info_api_Nat rfl hF rfl rfl rfl rfl (fun _ h => ⟨h, Gs.idle rfl hG, ⟨fun _ => (dd 6 hdep :), trivial⟩, Ns.idle hN⟩)
    · exact t_assign (ve 14 hV (hG.2.2.2.2.2.1 (dd 5 hdep))) hF hS rfl rfl rfl rfl (by decide) (Jm hM hG hO hN)
  rintro fZ tZ u1 ⟨hM, hG, hO, hN⟩ hall
  obtain ⟨e10, e11, e12, e9, e13, e14, e6, -⟩ := Gs.all 9 hall hG rfl
  obtain ⟨b1_6, ee5, pb1_6, lb1_6, kb1_6⟩ := hM.nw.1 (hall 6 (by decide))
  have e5 : tZ 5 = .pointer (some ⟨b1_6, 0, none⟩) := ee5
  clear ee5
  have Kb1_6 : CV u1 b1_6 ([.int .u64 (r0), .int .u64 (r1), .int .u64 (r2), .int .u64 (r3)]) := by
    have h1 : CV u1 b1_6 (bif fZ 7 then [.int .u64 (r0), .int .u64 (r1), .int .u64 (r2), .int .u64 (r3)] else L0s) := kb1_6
    rw [hall 7 (by decide)] at h1; exact h1
  clear kb1_6
  have HB1 : Below w.heap.size w u1 := hM.bel
  have sz1 : v0.heap.size ≤ u1.heap.size := hM.sz
  obtain ⟨⟨l1p0, K1p0⟩, ⟨l1p1, K1p1⟩, -⟩ := hM.ks.up hM.sz
  dsimp only at l1p0 K1p0 l1p1 K1p1
  simp only [ovr, List.set_cons_zero, List.set_cons_succ, e10, e11, e12, e9, e13, e14, e6, e5]
  clear hM hG hO hN hall e10 e11 e12 e9 e13 e14 e6 e5 K0p0 K0p1 HB0
  clear tZ
  go_upto_region 2 with fail
  refine region_plain [16, 17, 18, 15, 19, 20, 7, 8] (fun fZ tZ uZ => MR w.heap.size w (u1.heap.size) [(w.heap.size, LN a), (w.heap.size + 1, LN m), (b1_6, [.int .u64 (r0), .int .u64 (r1), .int .u64 (r2), .int .u64 (r3)])] [] [(fZ 6, fZ 7, tZ 7, L0s, [.int .u64 (r0), .int .u64 (r1), .int .u64 (r2), .int .u64 (r3)])] uZ ∧ Gs fZ tZ [(0, 16, NV a), (1, 17, NV m), (2, 18, .tuple #[A4 (r0) (r1) (r2) (r3), .int .i64 e]), (3, 15, .tuple #[A4 (r0) (r1) (r2) (r3), .int .i64 e]), (4, 19, A4 (r0) (r1) (r2) (r3)), (5, 20, .int .i64 e), (8, 8, .int .i64 e)] ∧ Os fZ [(7, 6)] ∧ Ns fZ tZ []) (by kernel_rfl) ?_ ?_ ?_
  · exact ⟨{ bel := HB1, lo := HB1.size, sz := Nat.le_refl _, ks := ⟨⟨l1p0, K1p0⟩, ⟨l1p1, K1p1⟩, ⟨lb1_6, Kb1_6⟩, trivial⟩, ex := trivial, nw := ⟨fun e => (by cases e), trivial⟩, nd := ⟨fun e => (by cases e), trivial⟩ }, Gs.none _ _, Os.none _, trivial⟩
  · rintro fZ tZ uZ iZ oZ aZ hF ⟨hM, hG, hO, hN⟩ ho hfi hdep
    obtain ⟨hS, hV⟩ := hF.two 41 (by decide) rfl (by decide)
    rcases cZ9 ho with rfl | rfl | rfl | rfl | rfl | rfl | rfl | rfl | rfl <;> cases ho
    · exact t_load (show aZ.eval (.tmp 2) = .pointer (some ⟨w.heap.size, 0, none⟩) from (hF.out 2 (by decide)).trans rfl) hM.ks.1.2 Try.underlying25 info_api_Nat hF hS rfl rfl rfl rfl rfl (by decide) (Jm hM hG hO hN)
    · exact t_load (show aZ.eval (.tmp 3) = .pointer (some ⟨w.heap.size + 1, 0, none⟩) from (hF.out 3 (by decide)).trans rfl) hM.ks.2.1.2 Try.underlying25 info_api_Nat hF hS rfl rfl rfl rfl rfl (by decide) (Jm hM hG hO hN)
    · exact t_call (vs := [NV a, NV m]) (by show [aZ.eval (.tmp 16), aZ.eval (.tmp 17)] = _; rw [(ve 16 hV (hG.1 (dd 0 hdep))), (ve 17 hV (hG.2.1 (dd 1 hdep)))]) ent_seneschalref02_Inverse (hJ.out uZ) hF hS rfl rfl rfl rfl (by decide) (fun _ hB => (Jm (hM.call hB) hG hO hN))
    · exact t_move (ve 18 hV (hG.2.2.1 (dd 2 hdep))) hF hS rfl rfl rfl rfl (by decide) (Jm hM hG hO hN)
    · exact t_extract (ve 15 hV (hG.2.2.2.1 (dd 3 hdep))) hF hS rfl rfl rfl rfl rfl (by decide) (Jm hM hG hO hN)
    · exact t_extract (ve 15 hV (hG.2.2.2.1 (dd 3 hdep))) hF hS rfl rfl rfl rfl rfl (by decide) (Jm hM hG hO hN)
    · have q1 : fZ 7 = false := Os.not (hO.1) hfi
      exact t_alloc (al_api_Nat uZ) hF hS rfl rfl rfl rfl (by decide) ⟨MR.newF 0 hM rfl hfi q1, Gs.other rfl hG, hO.keep rfl, Ns.step hN rfl⟩
    · exact t_storeN 0 hM rfl (dd 6 hdep) hfi (hV 7 (by decide)) (ve 19 hV (hG.2.2.2.2.1 (dd 4 hdep))) rfl info_api_Nat rfl hF rfl rfl rfl rfl (fun _ h => ⟨h, Gs.idle rfl hG, ⟨fun _ => (dd 6 hdep :), trivial⟩, Ns.idle hN⟩)
    · exact t_assign (ve 20 hV (hG.2.2.2.2.2.1 (dd 5 hdep))) hF hS rfl rfl rfl rfl (by decide) (Jm hM hG hO hN)
  rintro fZ tZ u2 ⟨hM, hG, hO, hN⟩ hall
  obtain ⟨e16, e17, e18, e15, e19, e20, e8, -⟩ := Gs.all 9 hall hG rfl
  obtain ⟨b2_6, ee7, pb2_6, lb2_6, kb2_6⟩ := hM.nw.1 (hall 6 (by decide))
  have e7 : tZ 7 = .pointer (some ⟨b2_6, 0, none⟩) := ee7
  clear ee7
  have Kb2_6 : CV u2 b2_6 ([.int .u64 (r0), .int .u64 (r1), .int .u64 (r2), .int .u64 (r3)]) := by
    have h1 : CV u2 b2_6 (bif fZ 7 then [.int .u64 (r0), .int .u64 (r1), .int .u64 (r2), .int .u64 (r3)] else L0s) := kb2_6
    rw [hall 7 (by decide)] at h1; exact h1
  clear kb2_6
  have HB2 : Below w.heap.size w u2 := hM.bel
  have sz2 : u1.heap.size ≤ u2.heap.size := hM.sz
  obtain ⟨⟨l2p0, K2p0⟩, ⟨l2p1, K2p1⟩, ⟨l2n1_6, K2n1_6⟩, -⟩ := hM.ks.up hM.sz
  dsimp only at l2p0 K2p0 l2p1 K2p1 l2n1_6 K2n1_6
  simp only [ovr, List.set_cons_zero, List.set_cons_succ, e16, e17, e18, e15, e19, e20, e8, e7]
  clear hM hG hO hN hall e16 e17 e18 e15 e19 e20 e8 e7 K1p0 K1p1 Kb1_6 HB1
  clear tZ
  go_upto_region 3 with fail
  refine region_drawn [21, 22, 23, 24, 25, 26, 27, 28, 29, 30, 31, 32, 33, 34, 35, 36, 37, 38, 39, 40, 4] (fun fZ tZ uZ => MR w.heap.size w (u2.heap.size) [(w.heap.size, LN a), (w.heap.size + 1, LN m), (b1_6, [.int .u64 (r0), .int .u64 (r1), .int .u64 (r2), .int .u64 (r3)]), (b2_6, [.int .u64 (r0), .int .u64 (r1), .int .u64 (r2), .int .u64 (r3)])] [] [] uZ ∧ Gs fZ tZ [(0, 21, .agg #[.int .u64 (r0), .int .u64 (r1), .int .u64 (r2), .int .u64 (r3)]), (1, 22, .agg #[.int .u64 (r0), .int .u64 (r1), .int .u64 (r2), .int .u64 (r3)]), (2, 23, .bool true), (3, 24, .bool true), (4, 25, .int .i64 e), (5, 26, .int .i64 e), (6, 27, .bool true), (7, 28, .bool true), (8, 29, .bool true), (9, 30, NV a), (10, 31, NV m), (11, 32, NV (gI a m)), (12, 33, NV a), (13, 34, NV m), (14, 35, NV (gI a m)), (15, 36, .bool true), (16, 37, .bool true), (17, 38, .bool true), (18, 39, .bool true), (19, 40, .bool true), (20, 4, .bool true)] ∧ Os fZ [] ∧ Ns fZ tZ []) (by kernel_rfl) (by kernel_rfl) ?_ ?_ ?_
  · exact ⟨{ bel := HB2.drew, lo := HB2.size, sz := Nat.le_refl _, ks := ⟨⟨l2p0, K2p0⟩, ⟨l2p1, K2p1⟩, ⟨l2n1_6, K2n1_6⟩, ⟨lb2_6, Kb2_6⟩, trivial⟩, ex := trivial, nw := trivial, nd := trivial }, Gs.none _ _, Os.none _, trivial⟩
  · rintro fZ tZ uZ iZ oZ aZ hF ⟨hM, hG, hO, hN⟩ ho hfi hdep
    obtain ⟨hS, hV⟩ := hF.two 41 (by decide) rfl (by decide)
    rcases cZ21 ho with rfl | rfl | rfl | rfl | rfl | rfl | rfl | rfl | rfl | rfl | rfl | rfl | rfl | rfl | rfl | rfl | rfl | rfl | rfl | rfl | rfl <;> cases ho
    · exact t_load (show aZ.eval (.tmp 5) = .pointer (some ⟨b1_6, 0, none⟩) from (hF.out 5 (by decide)).trans rfl) hM.ks.2.2.1.2 Try.underlying25 info_api_Nat hF hS rfl rfl rfl rfl rfl (by decide) (Jt hM hG hN)
    · exact t_load (show aZ.eval (.tmp 7) = .pointer (some ⟨b2_6, 0, none⟩) from (hF.out 7 (by decide)).trans rfl) hM.ks.2.2.2.1.2 Try.underlying25 info_api_Nat hF hS rfl rfl rfl rfl rfl (by decide) (Jt hM hG hN)
    · refine op_plain rfl rfl (fun K hK => ?_)
      refine wp_bin rfl (ve 21 hV (hG.1 (dd 0 hdep))) (ve 22 hV (hG.2.1 (dd 1 hdep))) (eqs4 _ _ _ _ _ _ uZ) ?_
      exact tell hK hF hS (by decide) (Jt hM hG hN)
    · exact t_move (ve 23 hV (hG.2.2.1 (dd 2 hdep))) hF hS rfl rfl rfl rfl (by decide) (Jt hM hG hN)
    · refine wpOp_step rfl (fun K hK => ?_)
      have yg : fZ 3 = true := hdep ⟨3, .guard⟩ (by simp) rfl
      have eg : tZ 24 = .bool true := hG.2.2.2.1 yg
      rw [if_pos (wanted_of rfl rfl (show aZ.tmps[24]? = some (.bool true) by rw [hF.tmps (N := 41) (by decide) rfl 24 (by decide) (by decide), eg]))]
      refine wp_move rfl (show aZ.eval (.tmp 6) = .int .i64 e from (hF.out 6 (by decide)).trans rfl) ?_
      exact tell hK hF hS (by decide) (Jt hM hG hN)
    · refine wpOp_step rfl (fun K hK => ?_)
      have yg : fZ 3 = true := hdep ⟨3, .guard⟩ (by simp) rfl
      have eg : tZ 24 = .bool true := hG.2.2.2.1 yg
      rw [if_pos (wanted_of rfl rfl (show aZ.tmps[24]? = some (.bool true) by rw [hF.tmps (N := 41) (by decide) rfl 24 (by decide) (by decide), eg]))]
      refine wp_move rfl (show aZ.eval (.tmp 8) = .int .i64 e from (hF.out 8 (by decide)).trans rfl) ?_
      exact tell hK hF hS (by decide) (Jt hM hG hN)
    · refine wpOp_step rfl (fun K hK => ?_)
      have yg : fZ 3 = true := hdep ⟨3, .guard⟩ (by simp) rfl
      have eg : tZ 24 = .bool true := hG.2.2.2.1 yg
      rw [if_pos (wanted_of rfl rfl (show aZ.tmps[24]? = some (.bool true) by rw [hF.tmps (N := 41) (by decide) rfl 24 (by decide) (by decide), eg]))]
      refine wp_bin rfl (ve 25 hV (hG.2.2.2.2.1 (dd 4 hdep))) (ve 26 hV (hG.2.2.2.2.2.1 (dd 5 hdep))) (eql_i _ _ _ e e _ uZ (beq_self_eq_true e)) ?_
      exact tell hK hF hS (by decide) (Jt hM hG hN)
    · refine op_plain rfl rfl (fun K hK => ?_)
      refine wp_pick rfl (ve 24 hV (hG.2.2.2.1 (dd 3 hdep))) (b := true) ((if_pos rfl).trans (ve 27 hV (hG.2.2.2.2.2.2.1 (dd 6 hdep)))) ?_
      exact tell hK hF hS (by decide) (Jt hM hG hN)
    · exact t_move (ve 28 hV (hG.2.2.2.2.2.2.2.1 (dd 7 hdep))) hF hS rfl rfl rfl rfl (by decide) (Jt hM hG hN)
    · refine wpOp_step rfl (fun K hK => ?_)
      have yg : fZ 8 = true := hdep ⟨8, .guard⟩ (by simp) rfl
      have eg : tZ 29 = .bool true := hG.2.2.2.2.2.2.2.2.1 yg
      rw [if_pos (wanted_of rfl rfl (show aZ.tmps[29]? = some (.bool true) by rw [hF.tmps (N := 41) (by decide) rfl 29 (by decide) (by decide), eg]))]
      refine wp_load_mid 25 _ rfl _ 0 (show aZ.eval (.tmp 2) = .pointer (some ⟨w.heap.size, 0, none⟩) from (hF.out 2 (by decide)).trans rfl) _ _ (CV.range hM.ks.1.2) Try.underlying25 rfl info_api_Nat ?_
      exact tell hK hF hS (by decide) (Jt hM hG hN)
    · refine wpOp_step rfl (fun K hK => ?_)
      have yg : fZ 8 = true := hdep ⟨8, .guard⟩ (by simp) rfl
      have eg : tZ 29 = .bool true := hG.2.2.2.2.2.2.2.2.1 yg
      rw [if_pos (wanted_of rfl rfl (show aZ.tmps[29]? = some (.bool true) by rw [hF.tmps (N := 41) (by decide) rfl 29 (by decide) (by decide), eg]))]
      refine wp_load_mid 25 _ rfl _ 0 (show aZ.eval (.tmp 3) = .pointer (some ⟨w.heap.size + 1, 0, none⟩) from (hF.out 3 (by decide)).trans rfl) _ _ (CV.range hM.ks.2.1.2) Try.underlying25 rfl info_api_Nat ?_
      exact tell hK hF hS (by decide) (Jt hM hG hN)
    · refine wpOp_step rfl (fun K hK => ?_)
      have yg : fZ 8 = true := hdep ⟨8, .guard⟩ (by simp) rfl
      have eg : tZ 29 = .bool true := hG.2.2.2.2.2.2.2.2.1 yg
      rw [if_pos (wanted_of rfl rfl (show aZ.tmps[29]? = some (.bool true) by rw [hF.tmps (N := 41) (by decide) rfl 29 (by decide) (by decide), eg]))]
      refine wp_callF rfl (vs := [NV a, NV m]) (by show [aZ.eval (.tmp 30), aZ.eval (.tmp 31)] = _; rw [(ve 30 hV (hG.2.2.2.2.2.2.2.2.2.1 (dd 9 hdep))), (ve 31 hV (hG.2.2.2.2.2.2.2.2.2.2.1 (dd 10 hdep)))]) ent_mod_Gcd (mGcd a m uZ ha hm) (fun vZ hB => ?_)
      exact tell hK hF hS (by decide) (Jt (hM.call hB) hG hN)
    · refine wpOp_step rfl (fun K hK => ?_)
      have yg : fZ 8 = true := hdep ⟨8, .guard⟩ (by simp) rfl
      have eg : tZ 29 = .bool true := hG.2.2.2.2.2.2.2.2.1 yg
      rw [if_pos (wanted_of rfl rfl (show aZ.tmps[29]? = some (.bool true) by rw [hF.tmps (N := 41) (by decide) rfl 29 (by decide) (by decide), eg]))]
      refine wp_load_mid 25 _ rfl _ 0 (show aZ.eval (.tmp 2) = .pointer (some ⟨w.heap.size, 0, none⟩) from (hF.out 2 (by decide)).trans rfl) _ _ (CV.range hM.ks.1.2) Try.underlying25 rfl info_api_Nat ?_
      exact tell hK hF hS (by decide) (Jt hM hG hN)
    · refine wpOp_step rfl (fun K hK => ?_)
      have yg : fZ 8 = true := hdep ⟨8, .guard⟩ (by simp) rfl
      have eg : tZ 29 = .bool true := hG.2.2.2.2.2.2.2.2.1 yg
      rw [if_pos (wanted_of rfl rfl (show aZ.tmps[29]? = some (.bool true) by rw [hF.tmps (N := 41) (by decide) rfl 29 (by decide) (by decide), eg]))]
      refine wp_load_mid 25 _ rfl _ 0 (show aZ.eval (.tmp 3) = .pointer (some ⟨w.heap.size + 1, 0, none⟩) from (hF.out 3 (by decide)).trans rfl) _ _ (CV.range hM.ks.2.1.2) Try.underlying25 rfl info_api_Nat ?_
      exact tell hK hF hS (by decide) (Jt hM hG hN)
    · refine wpOp_step rfl (fun K hK => ?_)
      have yg : fZ 8 = true := hdep ⟨8, .guard⟩ (by simp) rfl
      have eg : tZ 29 = .bool true := hG.2.2.2.2.2.2.2.2.1 yg
      rw [if_pos (wanted_of rfl rfl (show aZ.tmps[29]? = some (.bool true) by rw [hF.tmps (N := 41) (by decide) rfl 29 (by decide) (by decide), eg]))]
      refine wp_callF rfl (vs := [NV a, NV m]) (by show [aZ.eval (.tmp 33), aZ.eval (.tmp 34)] = _; rw [(ve 33 hV (hG.2.2.2.2.2.2.2.2.2.2.2.2.1 (dd 12 hdep))), (ve 34 hV (hG.2.2.2.2.2.2.2.2.2.2.2.2.2.1 (dd 13 hdep)))]) ent_seneschalref02_Gcd (xGcd a m uZ ha hm) (fun vZ hB => ?_)
      exact tell hK hF hS (by decide) (Jt (hM.call hB) hG hN)
    · refine wpOp_step rfl (fun K hK => ?_)
      have yg : fZ 8 = true := hdep ⟨8, .guard⟩ (by simp) rfl
      have eg : tZ 29 = .bool true := hG.2.2.2.2.2.2.2.2.1 yg
      rw [if_pos (wanted_of rfl rfl (show aZ.tmps[29]? = some (.bool true) by rw [hF.tmps (N := 41) (by decide) rfl 29 (by decide) (by decide), eg]))]
      refine wp_bin rfl (ve 32 hV (hG.2.2.2.2.2.2.2.2.2.2.2.1 (dd 11 hdep))) (ve 35 hV (hG.2.2.2.2.2.2.2.2.2.2.2.2.2.2.1 (dd 14 hdep))) (eql_same _ _ (gI a m) uZ) ?_
      exact tell hK hF hS (by decide) (Jt hM hG hN)
    · refine op_plain rfl rfl (fun K hK => ?_)
      refine wp_pick rfl (ve 29 hV (hG.2.2.2.2.2.2.2.2.1 (dd 8 hdep))) (b := true) ((if_pos rfl).trans (ve 36 hV (hG.2.2.2.2.2.2.2.2.2.2.2.2.2.2.2.1 (dd 15 hdep)))) ?_
      exact tell hK hF hS (by decide) (Jt hM hG hN)
    · exact t_move (ve 37 hV (hG.2.2.2.2.2.2.2.2.2.2.2.2.2.2.2.2.1 (dd 16 hdep))) hF hS rfl rfl rfl rfl (by decide) (Jt hM hG hN)
    · refine wpOp_step rfl (fun K hK => ?_)
      have yg : fZ 17 = true := hdep ⟨17, .guard⟩ (by simp) rfl
      have eg : tZ 38 = .bool true := hG.2.2.2.2.2.2.2.2.2.2.2.2.2.2.2.2.2.1 yg
      rw [if_pos (wanted_of rfl rfl (show aZ.tmps[38]? = some (.bool true) by rw [hF.tmps (N := 41) (by decide) rfl 38 (by decide) (by decide), eg]))]
      refine wp_callF rfl (vs := []) (by show [] = _; rfl) ent_seneschallaw02_works (works2 uZ) (fun vZ hB => ?_)
      exact tell hK hF hS (by decide) (Jt (hM.call hB) hG hN)
    · refine op_plain rfl rfl (fun K hK => ?_)
      refine wp_pick rfl (ve 38 hV (hG.2.2.2.2.2.2.2.2.2.2.2.2.2.2.2.2.2.1 (dd 17 hdep))) (b := true) ((if_pos rfl).trans (ve 39 hV (hG.2.2.2.2.2.2.2.2.2.2.2.2.2.2.2.2.2.2.1 (dd 18 hdep)))) ?_
      exact tell hK hF hS (by decide) (Jt hM hG hN)
    · exact t_assign (ve 40 hV (hG.2.2.2.2.2.2.2.2.2.2.2.2.2.2.2.2.2.2.2.1 (dd 19 hdep))) hF hS rfl rfl rfl rfl (by decide) (Jt hM hG hN)
  rintro fZ tZ u3 ⟨hM, hG, hO, hN⟩ hall
  obtain ⟨e21, e22, e23, e24, e25, e26, e27, e28, e29, e30, e31, e32, e33, e34, e35, e36, e37, e38, e39, e40, e4, -⟩ := Gs.all 21 hall hG rfl
  have HB3 : Below w.heap.size w u3 := hM.bel
  have sz3 : u2.heap.size ≤ u3.heap.size := hM.sz
  simp only [ovr, List.set_cons_zero, List.set_cons_succ, e21, e22, e23, e24, e25, e26, e27, e28, e29, e30, e31, e32, e33, e34, e35, e36, e37, e38, e39, e40, e4]
  clear hM hG hO hN hall e21 e22 e23 e24 e25 e26 e27 e28 e29 e30 e31 e32 e33 e34 e35 e36 e37 e38 e39 e40 e4 K2n1_6 K2p0 K2p1 Kb2_6 HB2
  clear tZ
  go_wp2
  refine bodyPost_ret (v := .bool true) (by simp [results, Try.results5, go_sem, ]) rfl ⟨rfl, HB3⟩
theorem modInverts_any (a m : Int) (w : World) (ha : In a) (hm : In m) : Calls Try.prog 5 #[NV a, NV m] w fun en w' => en = .returned (.bool true) ∧ Below w.heap.size w w' := by
  by_cases h : m = 0
  · subst h
    refine modInverts_core a 0 0 0 0 0 20 w ha hm (fun u => ?_) (fun u => ?_)
    · rw [NV_0]; exact mInverse0 a u ha
    · rw [NV_0]; exact xInverse0 a u ha
  · by_cases hg : gI m (a % m) = 1
    · obtain ⟨x, hx⟩ := IsInv.ex (Int.emod_nonneg a h) (Int.emod_lt_of_pos a (by have := hm.1; omega)) hg
      exact modInverts_core a m _ _ _ _ 0 w ha hm (fun u => mInverse a m x u ha hm h hg hx) (fun u => xInverse a m x u ha hm h hg hx)
    · exact modInverts_core a m 0 0 0 0 20 w ha hm (fun u => mInverse_no a m u ha hm h hg) (fun u => xInverse_no a m u ha hm h hg)
end Go.Proofs.Ytkpnjmfndgfogaa
