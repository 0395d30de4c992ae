/- ModPowers: the walk. -/
import Derived.Test.YtnmkbihjbnbkkaaWK2
import Derived.Test.YtnmkbihjbnbkkaaMR1
namespace Go.Proofs.Ytnmkbihjbnbkkaa
open Go.RowKit
set_option linter.unusedVariables false
set_option linter.unusedSimpArgs false
set_option maxRecDepth 100000 in
set_option maxHeartbeats 4000000 in
theorem modPowers_1 (a e m : Int) (w : World) (ha : In a) (he : In e) (hm : In m) (h : m ≠ 0) : Calls Try.prog 6 #[NV a, NV e, NV m] w fun en w' => en = .returned (.bool true) ∧ Below w.heap.size w w' := by
  go_enter Try.func6, Try.ntmps6
  go_upto_region 1 with fail
  have HB0 : Below w.heap.size w (((w.alloc (.cells (LN a : List Value).toArray 25)).alloc (.cells (LN e : List Value).toArray 25)).alloc (.cells (LN m : List Value).toArray 25)) := (balloc (balloc (balloc (bself w) _) _) _)
  have K0p0 : CV (((w.alloc (.cells (LN a : List Value).toArray 25)).alloc (.cells (LN e : List Value).toArray 25)).alloc (.cells (LN m : List Value).toArray 25)) (w.heap.size) (LN a) := (((CV.new w (LN a) 25).alloc (by simp <;> omega) _).alloc (by simp <;> omega) _)
  have l0p0 : w.heap.size < (((w.alloc (.cells (LN a : List Value).toArray 25)).alloc (.cells (LN e : List Value).toArray 25)).alloc (.cells (LN m : List Value).toArray 25)).heap.size := by simp <;> omega
  have K0p1 : CV (((w.alloc (.cells (LN a : List Value).toArray 25)).alloc (.cells (LN e : List Value).toArray 25)).alloc (.cells (LN m : List Value).toArray 25)) (w.heap.size + 1) (LN e) := ((CV.newAt (w.alloc (.cells (LN a : List Value).toArray 25)) (LN e) 25 _ (by simp)).alloc (by simp <;> omega) _)
  have l0p1 : w.heap.size + 1 < (((w.alloc (.cells (LN a : List Value).toArray 25)).alloc (.cells (LN e : List Value).toArray 25)).alloc (.cells (LN m : List Value).toArray 25)).heap.size := by simp <;> omega
  have K0p2 : CV (((w.alloc (.cells (LN a : List Value).toArray 25)).alloc (.cells (LN e : List Value).toArray 25)).alloc (.cells (LN m : List Value).toArray 25)) (w.heap.size + 1 + 1) (LN m) := (CV.newAt ((w.alloc (.cells (LN a : List Value).toArray 25)).alloc (.cells (LN e : List Value).toArray 25)) (LN m) 25 _ (by simp))
  have l0p2 : w.heap.size + 1 + 1 < (((w.alloc (.cells (LN a : List Value).toArray 25)).alloc (.cells (LN e : List Value).toArray 25)).alloc (.cells (LN m : List Value).toArray 25)).heap.size := by simp <;> omega
  generalize (((w.alloc (.cells (LN a : List Value).toArray 25)).alloc (.cells (LN e : List Value).toArray 25)).alloc (.cells (LN m : List Value).toArray 25)) = v0 at *
  refine region_plain [12, 13, 14, 15, 11, 16, 17, 7, 8] (fun fZ tZ uZ => MR w.heap.size w (v0.heap.size) [(w.heap.size, LN a), (w.heap.size + 1, LN e), (w.heap.size + 1 + 1, LN m)] [] [(fZ 7, fZ 8, tZ 7, L0s, LN (a ^ e.toNat % m))] uZ ∧ Gs fZ tZ [(0, 12, NV a), (1, 13, NV e), (2, 14, NV m), (3, 15, .tuple #[NV (a ^ e.toNat % m), .int .i64 0]), (4, 11, .tuple #[NV (a ^ e.toNat % m), .int .i64 0]), (5, 16, NV (a ^ e.toNat % m)), (6, 17, .int .i64 0), (9, 8, .int .i64 0)] ∧ Os fZ [(8, 7)] ∧ Ns fZ tZ []) (by kernel_rfl) ?_ ?_ ?_
  · exact ⟨{ bel := HB0, lo := HB0.size, sz := Nat.le_refl _, ks := ⟨⟨l0p0, K0p0⟩, ⟨l0p1, K0p1⟩, ⟨l0p2, K0p2⟩, trivial⟩, ex := trivial, nw := ⟨fun e => (by cases e), trivial⟩, nd := ⟨fun e => (by cases e), trivial⟩ }, Gs.none _ _, Os.none _, trivial⟩
  · rintro fZ tZ uZ iZ oZ aZ hF ⟨hM, hG, hO, hN⟩ ho hfi hdep
    have hS : [12, 13, 14, 15, 11, 16, 17, 7, 8].Nodup := by decide
    have hV := hF.evs (N := 36) (by decide) rfl (by decide)
    have il : iZ < 10 := (Array.getElem?_eq_some_iff.1 ho).1
    have ix : iZ = 0 ∨ iZ = 1 ∨ iZ = 2 ∨ iZ = 3 ∨ iZ = 4 ∨ iZ = 5 ∨ iZ = 6 ∨ iZ = 7 ∨ iZ = 8 ∨ iZ = 9 := by omega
    rcases ix with rfl | rfl | rfl | rfl | rfl | rfl | rfl | rfl | rfl | rfl
    · cases ho; exact t_load (show aZ.eval (.tmp 3) = .pointer (some ⟨w.heap.size, 0, none⟩) from (hF.out 3 (by decide)).trans rfl) hM.ks.1.2 Try.underlying25 info_api_Nat hF hS rfl rfl rfl rfl rfl (by decide) ⟨hM, Gs.stepA hG rfl rfl, hO.keep rfl, Ns.step hN rfl⟩
    · cases ho; exact t_load (show aZ.eval (.tmp 4) = .pointer (some ⟨w.heap.size + 1, 0, none⟩) from (hF.out 4 (by decide)).trans rfl) hM.ks.2.1.2 Try.underlying25 info_api_Nat hF hS rfl rfl rfl rfl rfl (by decide) ⟨hM, Gs.stepA hG rfl rfl, hO.keep rfl, Ns.step hN rfl⟩
    · cases ho; exact t_load (show aZ.eval (.tmp 5) = .pointer (some ⟨w.heap.size + 1 + 1, 0, none⟩) from (hF.out 5 (by decide)).trans rfl) hM.ks.2.2.1.2 Try.underlying25 info_api_Nat hF hS rfl rfl rfl rfl rfl (by decide) ⟨hM, Gs.stepA hG rfl rfl, hO.keep rfl, Ns.step hN rfl⟩
    · cases ho; have e12 := hG.1 (hdep ⟨0, .data⟩ (by simp) rfl)
      have e13 := hG.2.1 (hdep ⟨1, .data⟩ (by simp) rfl)
      have e14 := hG.2.2.1 (hdep ⟨2, .data⟩ (by simp) rfl)
      exact t_call (vs := [NV a, NV e, NV m]) (by show [aZ.eval (.tmp 12), aZ.eval (.tmp 13), aZ.eval (.tmp 14)] = _; rw [((hV 12 (by decide)).trans e12), ((hV 13 (by decide)).trans e13), ((hV 14 (by decide)).trans e14)]) ent_mod_Exp (mExp a e m uZ ha he hm h) hF hS rfl rfl rfl rfl (by decide) (fun _ hB => ⟨hM.call hB, Gs.stepA hG rfl rfl, hO.keep rfl, Ns.step hN rfl⟩)
    · cases ho; have e15 := hG.2.2.2.1 (hdep ⟨3, .data⟩ (by simp) rfl)
      exact t_move ((hV 15 (by decide)).trans e15) hF hS rfl rfl rfl rfl (by decide) ⟨hM, Gs.stepA hG rfl rfl, hO.keep rfl, Ns.step hN rfl⟩
    · cases ho; have e11 := hG.2.2.2.2.1 (hdep ⟨4, .data⟩ (by simp) rfl)
      exact t_extract ((hV 11 (by decide)).trans e11) hF hS rfl rfl rfl rfl rfl (by decide) ⟨hM, Gs.stepA hG rfl rfl, hO.keep rfl, Ns.step hN rfl⟩
    · cases ho; have e11 := hG.2.2.2.2.1 (hdep ⟨4, .data⟩ (by simp) rfl)
      exact t_extract ((hV 11 (by decide)).trans e11) hF hS rfl rfl rfl rfl rfl (by decide) ⟨hM, Gs.stepA hG rfl rfl, hO.keep rfl, Ns.step hN rfl⟩
    · cases ho; have q1 : fZ 8 = false := Os.not (hO.1) hfi
      exact t_alloc (al_api_Nat uZ) hF hS rfl rfl rfl rfl (by decide) ⟨MR.newF 0 hM rfl hfi q1, Gs.other rfl hG, hO.keep rfl, Ns.step hN rfl⟩
    · cases ho; have e16 := hG.2.2.2.2.2.1 (hdep ⟨5, .data⟩ (by simp) rfl)
      exact t_storeN 0 hM rfl (hdep ⟨7, .data⟩ (by simp) rfl) hfi (hV 7 (by decide)) ((hV 16 (by decide)).trans e16) rfl info_api_Nat rfl hF rfl rfl rfl rfl (fun _ h => ⟨h, Gs.idle rfl hG, ⟨fun _ => hdep ⟨7, .data⟩ (by simp) rfl, trivial⟩, Ns.idle hN⟩)
    · cases ho; have e17 := hG.2.2.2.2.2.2.1 (hdep ⟨6, .data⟩ (by simp) rfl)
      exact t_assign ((hV 17 (by decide)).trans e17) hF hS rfl rfl rfl rfl (by decide) ⟨hM, Gs.stepA hG rfl rfl, hO.keep rfl, Ns.step hN rfl⟩
  rintro fZ tZ u1 ⟨hM, hG, hO, hN⟩ hall
  obtain ⟨e12, e13, e14, e15, e11, e16, e17, e8, -⟩ := Gs.all 10 hall hG rfl
  obtain ⟨b1_7, ee7, pb1_7, lb1_7, kb1_7⟩ := hM.nw.1 (hall 7 (by decide))
  have e7 : tZ 7 = .pointer (some ⟨b1_7, 0, none⟩) := ee7
  clear ee7
  have Kb1_7 : CV u1 b1_7 (LN (a ^ e.toNat % m)) := by
    have h1 : CV u1 b1_7 (bif fZ 8 then LN (a ^ e.toNat % m) else L0s) := kb1_7
    rw [hall 8 (by decide)] at h1; exact h1
  clear kb1_7
  have HB1 : Below w.heap.size w u1 := hM.bel
  have sz1 : v0.heap.size ≤ u1.heap.size := hM.sz
  obtain ⟨⟨l1p0, K1p0⟩, ⟨l1p1, K1p1⟩, ⟨l1p2, K1p2⟩, -⟩ := hM.ks.up hM.sz
  dsimp only at l1p0 K1p0 l1p1 K1p1 l1p2 K1p2
  simp only [ovr, List.set_cons_zero, List.set_cons_succ, e12, e13, e14, e15, e11, e16, e17, e8, e7]
  clear hM hG hO hN hall e12 e13 e14 e15 e11 e16 e17 e8 e7 K0p0 K0p1 K0p2 HB0
  clear tZ
  go_upto_region 2 with fail
  refine region_plain [19, 20, 21, 22, 18, 23, 24, 9, 10] (fun fZ tZ uZ => MR w.heap.size w (u1.heap.size) [(w.heap.size, LN a), (w.heap.size + 1, LN e), (w.heap.size + 1 + 1, LN m), (b1_7, LN (a ^ e.toNat % m))] [] [(fZ 7, fZ 8, tZ 9, L0s, LN (a ^ e.toNat % m))] uZ ∧ Gs fZ tZ [(0, 19, NV a), (1, 20, NV e), (2, 21, NV m), (3, 22, .tuple #[NV (a ^ e.toNat % m), .int .i64 0]), (4, 18, .tuple #[NV (a ^ e.toNat % m), .int .i64 0]), (5, 23, NV (a ^ e.toNat % m)), (6, 24, .int .i64 0), (9, 10, .int .i64 0)] ∧ Os fZ [(8, 7)] ∧ Ns fZ tZ []) (by kernel_rfl) ?_ ?_ ?_
  · exact ⟨{ bel := HB1, lo := HB1.size, sz := Nat.le_refl _, ks := ⟨⟨l1p0, K1p0⟩, ⟨l1p1, K1p1⟩, ⟨l1p2, K1p2⟩, ⟨lb1_7, Kb1_7⟩, trivial⟩, ex := trivial, nw := ⟨fun e => (by cases e), trivial⟩, nd := ⟨fun e => (by cases e), trivial⟩ }, Gs.none _ _, Os.none _, trivial⟩
  · rintro fZ tZ uZ iZ oZ aZ hF ⟨hM, hG, hO, hN⟩ ho hfi hdep
    have hS : [19, 20, 21, 22, 18, 23, 24, 9, 10].Nodup := by decide
    have hV := hF.evs (N := 36) (by decide) rfl (by decide)
    have il : iZ < 10 := (Array.getElem?_eq_some_iff.1 ho).1
    have ix : iZ = 0 ∨ iZ = 1 ∨ iZ = 2 ∨ iZ = 3 ∨ iZ = 4 ∨ iZ = 5 ∨ iZ = 6 ∨ iZ = 7 ∨ iZ = 8 ∨ iZ = 9 := by omega
    rcases ix with rfl | rfl | rfl | rfl | rfl | rfl | rfl | rfl | rfl | rfl
    · cases ho; exact t_load (show aZ.eval (.tmp 3) = .pointer (some ⟨w.heap.size, 0, none⟩) from (hF.out 3 (by decide)).trans rfl) hM.ks.1.2 Try.underlying25 info_api_Nat hF hS rfl rfl rfl rfl rfl (by decide) ⟨hM, Gs.stepA hG rfl rfl, hO.keep rfl, Ns.step hN rfl⟩
    · cases ho; exact t_load (show aZ.eval (.tmp 4) = .pointer (some ⟨w.heap.size + 1, 0, none⟩) from (hF.out 4 (by decide)).trans rfl) hM.ks.2.1.2 Try.underlying25 info_api_Nat hF hS rfl rfl rfl rfl rfl (by decide) ⟨hM, Gs.stepA hG rfl rfl, hO.keep rfl, Ns.step hN rfl⟩
    · cases ho; exact t_load (show aZ.eval (.tmp 5) = .pointer (some ⟨w.heap.size + 1 + 1, 0, none⟩) from (hF.out 5 (by decide)).trans rfl) hM.ks.2.2.1.2 Try.underlying25 info_api_Nat hF hS rfl rfl rfl rfl rfl (by decide) ⟨hM, Gs.stepA hG rfl rfl, hO.keep rfl, Ns.step hN rfl⟩
    · cases ho; have e19 := hG.1 (hdep ⟨0, .data⟩ (by simp) rfl)
      have e20 := hG.2.1 (hdep ⟨1, .data⟩ (by simp) rfl)
      have e21 := hG.2.2.1 (hdep ⟨2, .data⟩ (by simp) rfl)
      exact t_call (vs := [NV a, NV e, NV m]) (by show [aZ.eval (.tmp 19), aZ.eval (.tmp 20), aZ.eval (.tmp 21)] = _; rw [((hV 19 (by decide)).trans e19), ((hV 20 (by decide)).trans e20), ((hV 21 (by decide)).trans e21)]) ent_seneschalref02_Exp (xExp a e m uZ ha he hm h) hF hS rfl rfl rfl rfl (by decide) (fun _ hB => ⟨hM.call hB, Gs.stepA hG rfl rfl, hO.keep rfl, Ns.step hN rfl⟩)
    · cases ho; have e22 := hG.2.2.2.1 (hdep ⟨3, .data⟩ (by simp) rfl)
      exact t_move ((hV 22 (by decide)).trans e22) hF hS rfl rfl rfl rfl (by decide) ⟨hM, Gs.stepA hG rfl rfl, hO.keep rfl, Ns.step hN rfl⟩
    · cases ho; have e18 := hG.2.2.2.2.1 (hdep ⟨4, .data⟩ (by simp) rfl)
      exact t_extract ((hV 18 (by decide)).trans e18) hF hS rfl rfl rfl rfl rfl (by decide) ⟨hM, Gs.stepA hG rfl rfl, hO.keep rfl, Ns.step hN rfl⟩
    · cases ho; have e18 := hG.2.2.2.2.1 (hdep ⟨4, .data⟩ (by simp) rfl)
      exact t_extract ((hV 18 (by decide)).trans e18) hF hS rfl rfl rfl rfl rfl (by decide) ⟨hM, Gs.stepA hG rfl rfl, hO.keep rfl, Ns.step hN rfl⟩
    · cases ho; have q1 : fZ 8 = false := Os.not (hO.1) hfi
      exact t_alloc (al_api_Nat uZ) hF hS rfl rfl rfl rfl (by decide) ⟨MR.newF 0 hM rfl hfi q1, Gs.other rfl hG, hO.keep rfl, Ns.step hN rfl⟩
    · cases ho; have e23 := hG.2.2.2.2.2.1 (hdep ⟨5, .data⟩ (by simp) rfl)
      exact t_storeN 0 hM rfl (hdep ⟨7, .data⟩ (by simp) rfl) hfi (hV 9 (by decide)) ((hV 23 (by decide)).trans e23) rfl info_api_Nat rfl hF rfl rfl rfl rfl (fun _ h => ⟨h, Gs.idle rfl hG, ⟨fun _ => hdep ⟨7, .data⟩ (by simp) rfl, trivial⟩, Ns.idle hN⟩)
    · cases ho; have e24 := hG.2.2.2.2.2.2.1 (hdep ⟨6, .data⟩ (by simp) rfl)
      exact t_assign ((hV 24 (by decide)).trans e24) hF hS rfl rfl rfl rfl (by decide) ⟨hM, Gs.stepA hG rfl rfl, hO.keep rfl, Ns.step hN rfl⟩
  rintro fZ tZ u2 ⟨hM, hG, hO, hN⟩ hall
  obtain ⟨e19, e20, e21, e22, e18, e23, e24, e10, -⟩ := Gs.all 10 hall hG rfl
  obtain ⟨b2_7, ee9, pb2_7, lb2_7, kb2_7⟩ := hM.nw.1 (hall 7 (by decide))
  have e9 : tZ 9 = .pointer (some ⟨b2_7, 0, none⟩) := ee9
  clear ee9
  have Kb2_7 : CV u2 b2_7 (LN (a ^ e.toNat % m)) := by
    have h1 : CV u2 b2_7 (bif fZ 8 then LN (a ^ e.toNat % m) else L0s) := kb2_7
    rw [hall 8 (by decide)] at h1; exact h1
  clear kb2_7
  have HB2 : Below w.heap.size w u2 := hM.bel
  have sz2 : u1.heap.size ≤ u2.heap.size := hM.sz
  obtain ⟨-, -, -, ⟨l2n1_7, K2n1_7⟩, -⟩ := hM.ks.up hM.sz
  dsimp only at l2n1_7 K2n1_7
  simp only [ovr, List.set_cons_zero, List.set_cons_succ, e19, e20, e21, e22, e18, e23, e24, e10, e9]
  clear hM hG hO hN hall e19 e20 e21 e22 e18 e23 e24 e10 e9 K1p0 K1p1 K1p2 Kb1_7 HB1
  clear tZ
  go_upto_region 3 with fail
  refine region_plain [25, 26, 27, 28, 29, 30, 31, 32, 33, 34, 35, 6] (fun fZ tZ uZ => MR w.heap.size w (u2.heap.size) [(b1_7, LN (a ^ e.toNat % m)), (b2_7, LN (a ^ e.toNat % m))] [] [] uZ ∧ Gs fZ tZ [(0, 25, NV (a ^ e.toNat % m)), (1, 26, NV (a ^ e.toNat % m)), (2, 27, .bool true), (3, 28, .bool true), (4, 29, .int .i64 0), (5, 30, .int .i64 0), (6, 31, .bool true), (7, 32, .bool true), (8, 33, .bool true), (9, 34, .bool true), (10, 35, .bool true), (11, 6, .bool true)] ∧ Os fZ [] ∧ Ns fZ tZ []) (by kernel_rfl) ?_ ?_ ?_
  · exact ⟨{ bel := HB2, lo := HB2.size, sz := Nat.le_refl _, ks := ⟨⟨l2n1_7, K2n1_7⟩, ⟨lb2_7, Kb2_7⟩, trivial⟩, ex := trivial, nw := trivial, nd := trivial }, Gs.none _ _, Os.none _, trivial⟩
  · rintro fZ tZ uZ iZ oZ aZ hF ⟨hM, hG, hO, hN⟩ ho hfi hdep
    have hS : [25, 26, 27, 28, 29, 30, 31, 32, 33, 34, 35, 6].Nodup := by decide
    have hV := hF.evs (N := 36) (by decide) rfl (by decide)
    have il : iZ < 12 := (Array.getElem?_eq_some_iff.1 ho).1
    have ix : iZ = 0 ∨ iZ = 1 ∨ iZ = 2 ∨ iZ = 3 ∨ iZ = 4 ∨ iZ = 5 ∨ iZ = 6 ∨ iZ = 7 ∨ iZ = 8 ∨ iZ = 9 ∨ iZ = 10 ∨ iZ = 11 := by omega
    rcases ix with rfl | rfl | rfl | rfl | rfl | rfl | rfl | rfl | rfl | rfl | rfl | rfl
    · cases ho; exact t_load (show aZ.eval (.tmp 7) = .pointer (some ⟨b1_7, 0, none⟩) from (hF.out 7 (by decide)).trans rfl) hM.ks.1.2 Try.underlying25 info_api_Nat hF hS rfl rfl rfl rfl rfl (by decide) ⟨hM, Gs.stepA hG rfl rfl, trivial, Ns.step hN rfl⟩
    · cases ho; exact t_load (show aZ.eval (.tmp 9) = .pointer (some ⟨b2_7, 0, none⟩) from (hF.out 9 (by decide)).trans rfl) hM.ks.2.1.2 Try.underlying25 info_api_Nat hF hS rfl rfl rfl rfl rfl (by decide) ⟨hM, Gs.stepA hG rfl rfl, trivial, Ns.step hN rfl⟩
    · cases ho; refine op_plain rfl rfl (fun K hK => ?_)
      have e25 := hG.1 (hdep ⟨0, .data⟩ (by simp) rfl)
      have e26 := hG.2.1 (hdep ⟨1, .data⟩ (by simp) rfl)
      refine wp_bin rfl ((hV 25 (by decide)).trans e25) ((hV 26 (by decide)).trans e26) (eql_same _ _ (a ^ e.toNat % m) uZ) ?_
      exact tell hK hF hS (by decide) ⟨hM, Gs.stepA hG rfl rfl, trivial, Ns.step hN rfl⟩
    · cases ho; have e27 := hG.2.2.1 (hdep ⟨2, .data⟩ (by simp) rfl)
      exact t_move ((hV 27 (by decide)).trans e27) hF hS rfl rfl rfl rfl (by decide) ⟨hM, Gs.stepA hG rfl rfl, trivial, Ns.step hN rfl⟩
    · cases ho; refine wpOp_step rfl (fun K hK => ?_)
      have yg : fZ 3 = true := hdep ⟨3, .guard⟩ (by simp) rfl
      have eg : tZ 28 = .bool true := hG.2.2.2.1 yg
      rw [if_pos (wanted_of rfl rfl (show aZ.tmps[28]? = some (.bool true) by rw [hF.tmps (N := 36) (by decide) rfl 28 (by decide) (by decide), eg]))]
      refine wp_move rfl (show aZ.eval (.tmp 8) = .int .i64 0 from (hF.out 8 (by decide)).trans rfl) ?_
      exact tell hK hF hS (by decide) ⟨hM, Gs.stepA hG rfl rfl, trivial, Ns.step hN rfl⟩
    · cases ho; refine wpOp_step rfl (fun K hK => ?_)
      have yg : fZ 3 = true := hdep ⟨3, .guard⟩ (by simp) rfl
      have eg : tZ 28 = .bool true := hG.2.2.2.1 yg
      rw [if_pos (wanted_of rfl rfl (show aZ.tmps[28]? = some (.bool true) by rw [hF.tmps (N := 36) (by decide) rfl 28 (by decide) (by decide), eg]))]
      refine wp_move rfl (show aZ.eval (.tmp 10) = .int .i64 0 from (hF.out 10 (by decide)).trans rfl) ?_
      exact tell hK hF hS (by decide) ⟨hM, Gs.stepA hG rfl rfl, trivial, Ns.step hN rfl⟩
    · cases ho; refine wpOp_step rfl (fun K hK => ?_)
      have yg : fZ 3 = true := hdep ⟨3, .guard⟩ (by simp) rfl
      have eg : tZ 28 = .bool true := hG.2.2.2.1 yg
      rw [if_pos (wanted_of rfl rfl (show aZ.tmps[28]? = some (.bool true) by rw [hF.tmps (N := 36) (by decide) rfl 28 (by decide) (by decide), eg]))]
      have e29 := hG.2.2.2.2.1 (hdep ⟨4, .data⟩ (by simp) rfl)
      have e30 := hG.2.2.2.2.2.1 (hdep ⟨5, .data⟩ (by simp) rfl)
      refine wp_bin rfl ((hV 29 (by decide)).trans e29) ((hV 30 (by decide)).trans e30) (eql_i _ _ _ 0 0 _ uZ rfl) ?_
      exact tell hK hF hS (by decide) ⟨hM, Gs.stepA hG rfl rfl, trivial, Ns.step hN rfl⟩
    · cases ho; refine op_plain rfl rfl (fun K hK => ?_)
      have e28 := hG.2.2.2.1 (hdep ⟨3, .data⟩ (by simp) rfl)
      have e31 := hG.2.2.2.2.2.2.1 (hdep ⟨6, .data⟩ (by simp) rfl)
      refine wp_pick rfl ((hV 28 (by decide)).trans e28) (b := true) ((if_pos rfl).trans ((hV 31 (by decide)).trans e31)) ?_
      exact tell hK hF hS (by decide) ⟨hM, Gs.stepA hG rfl rfl, trivial, Ns.step hN rfl⟩
    · cases ho; have e32 := hG.2.2.2.2.2.2.2.1 (hdep ⟨7, .data⟩ (by simp) rfl)
      exact t_move ((hV 32 (by decide)).trans e32) hF hS rfl rfl rfl rfl (by decide) ⟨hM, Gs.stepA hG rfl rfl, trivial, Ns.step hN rfl⟩
    · cases ho; refine wpOp_step rfl (fun K hK => ?_)
      have yg : fZ 8 = true := hdep ⟨8, .guard⟩ (by simp) rfl
      have eg : tZ 33 = .bool true := hG.2.2.2.2.2.2.2.2.1 yg
      rw [if_pos (wanted_of rfl rfl (show aZ.tmps[33]? = some (.bool true) by rw [hF.tmps (N := 36) (by decide) rfl 33 (by decide) (by decide), eg]))]
      refine wp_callF rfl (vs := []) (by show [] = _; rfl) ent_seneschallaw02_works (works2 uZ) (fun vZ hB => ?_)
      exact tell hK hF hS (by decide) ⟨hM.call hB, Gs.stepA hG rfl rfl, trivial, Ns.step hN rfl⟩
    · cases ho; refine op_plain rfl rfl (fun K hK => ?_)
      have e33 := hG.2.2.2.2.2.2.2.2.1 (hdep ⟨8, .data⟩ (by simp) rfl)
      have e34 := hG.2.2.2.2.2.2.2.2.2.1 (hdep ⟨9, .data⟩ (by simp) rfl)
      refine wp_pick rfl ((hV 33 (by decide)).trans e33) (b := true) ((if_pos rfl).trans ((hV 34 (by decide)).trans e34)) ?_
      exact tell hK hF hS (by decide) ⟨hM, Gs.stepA hG rfl rfl, trivial, Ns.step hN rfl⟩
    · cases ho; have e35 := hG.2.2.2.2.2.2.2.2.2.2.1 (hdep ⟨10, .data⟩ (by simp) rfl)
      exact t_assign ((hV 35 (by decide)).trans e35) hF hS rfl rfl rfl rfl (by decide) ⟨hM, Gs.stepA hG rfl rfl, trivial, Ns.step hN rfl⟩
  rintro fZ tZ u3 ⟨hM, hG, hO, hN⟩ hall
  obtain ⟨e25, e26, e27, e28, e29, e30, e31, e32, e33, e34, e35, e6, -⟩ := Gs.all 12 hall hG rfl
  have HB3 : Below w.heap.size w u3 := hM.bel
  have sz3 : u2.heap.size ≤ u3.heap.size := hM.sz
  simp only [ovr, List.set_cons_zero, List.set_cons_succ, e25, e26, e27, e28, e29, e30, e31, e32, e33, e34, e35, e6]
  clear hM hG hO hN hall e25 e26 e27 e28 e29 e30 e31 e32 e33 e34 e35 e6 K2n1_7 Kb2_7 HB2
  clear tZ
  go_wp2
  refine bodyPost_ret (v := .bool true) (by simp [results, Try.results6, go_sem, ]) rfl ⟨rfl, HB3⟩
set_option maxRecDepth 100000 in
set_option maxHeartbeats 4000000 in
theorem modPowers_0 (a e m : Int) (w : World) (ha : In a) (he : In e) : Calls Try.prog 6 #[NV a, NV e, A4 0 0 0 0] w fun en w' => en = .returned (.bool true) ∧ Below w.heap.size w w' := by
  go_enter Try.func6, Try.ntmps6
  go_upto_region 1 with fail
  have HB0 : Below w.heap.size w (((w.alloc (.cells (LN a : List Value).toArray 25)).alloc (.cells (LN e : List Value).toArray 25)).alloc (.cells ([.int .u64 (0), .int .u64 (0), .int .u64 (0), .int .u64 (0)] : List Value).toArray 25)) := (balloc (balloc (balloc (bself w) _) _) _)
  have K0p0 : CV (((w.alloc (.cells (LN a : List Value).toArray 25)).alloc (.cells (LN e : List Value).toArray 25)).alloc (.cells ([.int .u64 (0), .int .u64 (0), .int .u64 (0), .int .u64 (0)] : List Value).toArray 25)) (w.heap.size) (LN a) := (((CV.new w (LN a) 25).alloc (by simp <;> omega) _).alloc (by simp <;> omega) _)
  have l0p0 : w.heap.size < (((w.alloc (.cells (LN a : List Value).toArray 25)).alloc (.cells (LN e : List Value).toArray 25)).alloc (.cells ([.int .u64 (0), .int .u64 (0), .int .u64 (0), .int .u64 (0)] : List Value).toArray 25)).heap.size := by simp <;> omega
  have K0p1 : CV (((w.alloc (.cells (LN a : List Value).toArray 25)).alloc (.cells (LN e : List Value).toArray 25)).alloc (.cells ([.int .u64 (0), .int .u64 (0), .int .u64 (0), .int .u64 (0)] : List Value).toArray 25)) (w.heap.size + 1) (LN e) := ((CV.newAt (w.alloc (.cells (LN a : List Value).toArray 25)) (LN e) 25 _ (by simp)).alloc (by simp <;> omega) _)
  have l0p1 : w.heap.size + 1 < (((w.alloc (.cells (LN a : List Value).toArray 25)).alloc (.cells (LN e : List Value).toArray 25)).alloc (.cells ([.int .u64 (0), .int .u64 (0), .int .u64 (0), .int .u64 (0)] : List Value).toArray 25)).heap.size := by simp <;> omega
  have K0p2 : CV (((w.alloc (.cells (LN a : List Value).toArray 25)).alloc (.cells (LN e : List Value).toArray 25)).alloc (.cells ([.int .u64 (0), .int .u64 (0), .int .u64 (0), .int .u64 (0)] : List Value).toArray 25)) (w.heap.size + 1 + 1) ([.int .u64 (0), .int .u64 (0), .int .u64 (0), .int .u64 (0)]) := (CV.newAt ((w.alloc (.cells (LN a : List Value).toArray 25)).alloc (.cells (LN e : List Value).toArray 25)) ([.int .u64 (0), .int .u64 (0), .int .u64 (0), .int .u64 (0)]) 25 _ (by simp))
  have l0p2 : w.heap.size + 1 + 1 < (((w.alloc (.cells (LN a : List Value).toArray 25)).alloc (.cells (LN e : List Value).toArray 25)).alloc (.cells ([.int .u64 (0), .int .u64 (0), .int .u64 (0), .int .u64 (0)] : List Value).toArray 25)).heap.size := by simp <;> omega
  generalize (((w.alloc (.cells (LN a : List Value).toArray 25)).alloc (.cells (LN e : List Value).toArray 25)).alloc (.cells ([.int .u64 (0), .int .u64 (0), .int .u64 (0), .int .u64 (0)] : List Value).toArray 25)) = v0 at *
  refine region_plain [12, 13, 14, 15, 11, 16, 17, 7, 8] (fun fZ tZ uZ => MR w.heap.size w (v0.heap.size) [(w.heap.size, LN a), (w.heap.size + 1, LN e), (w.heap.size + 1 + 1, [.int .u64 (0), .int .u64 (0), .int .u64 (0), .int .u64 (0)])] [] [(fZ 7, fZ 8, tZ 7, L0s, [.int .u64 (0), .int .u64 (0), .int .u64 (0), .int .u64 (0)])] uZ ∧ Gs fZ tZ [(0, 12, NV a), (1, 13, NV e), (2, 14, .agg #[.int .u64 (0), .int .u64 (0), .int .u64 (0), .int .u64 (0)]), (3, 15, .tuple #[A4 (0) (0) (0) (0), .int .i64 20]), (4, 11, .tuple #[A4 (0) (0) (0) (0), .int .i64 20]), (5, 16, A4 (0) (0) (0) (0)), (6, 17, .int .i64 20), (9, 8, .int .i64 20)] ∧ Os fZ [(8, 7)] ∧ Ns fZ tZ []) (by kernel_rfl) ?_ ?_ ?_
  · exact ⟨{ bel := HB0, lo := HB0.size, sz := Nat.le_refl _, ks := ⟨⟨l0p0, K0p0⟩, ⟨l0p1, K0p1⟩, ⟨l0p2, K0p2⟩, trivial⟩, ex := trivial, nw := ⟨fun e => (by cases e), trivial⟩, nd := ⟨fun e => (by cases e), trivial⟩ }, Gs.none _ _, Os.none _, trivial⟩
  · rintro fZ tZ uZ iZ oZ aZ hF ⟨hM, hG, hO, hN⟩ ho hfi hdep
    have hS : [12, 13, 14, 15, 11, 16, 17, 7, 8].Nodup := by decide
    have hV := hF.evs (N := 36) (by decide) rfl (by decide)
    have il : iZ < 10 := (Array.getElem?_eq_some_iff.1 ho).1
    have ix : iZ = 0 ∨ iZ = 1 ∨ iZ = 2 ∨ iZ = 3 ∨ iZ = 4 ∨ iZ = 5 ∨ iZ = 6 ∨ iZ = 7 ∨ iZ = 8 ∨ iZ = 9 := by omega
    rcases ix with rfl | rfl | rfl | rfl | rfl | rfl | rfl | rfl | rfl | rfl
    · cases ho; exact t_load (show aZ.eval (.tmp 3) = .pointer (some ⟨w.heap.size, 0, none⟩) from (hF.out 3 (by decide)).trans rfl) hM.ks.1.2 Try.underlying25 info_api_Nat hF hS rfl rfl rfl rfl rfl (by decide) ⟨hM, Gs.stepA hG rfl rfl, hO.keep rfl, Ns.step hN rfl⟩
    · cases ho; exact t_load (show aZ.eval (.tmp 4) = .pointer (some ⟨w.heap.size + 1, 0, none⟩) from (hF.out 4 (by decide)).trans rfl) hM.ks.2.1.2 Try.underlying25 info_api_Nat hF hS rfl rfl rfl rfl rfl (by decide) ⟨hM, Gs.stepA hG rfl rfl, hO.keep rfl, Ns.step hN rfl⟩
    · cases ho; exact t_load (show aZ.eval (.tmp 5) = .pointer (some ⟨w.heap.size + 1 + 1, 0, none⟩) from (hF.out 5 (by decide)).trans rfl) hM.ks.2.2.1.2 Try.underlying25 info_api_Nat hF hS rfl rfl rfl rfl rfl (by decide) ⟨hM, Gs.stepA hG rfl rfl, hO.keep rfl, Ns.step hN rfl⟩
    · cases ho; have e12 := hG.1 (hdep ⟨0, .data⟩ (by simp) rfl)
      have e13 := hG.2.1 (hdep ⟨1, .data⟩ (by simp) rfl)
      have e14 := hG.2.2.1 (hdep ⟨2, .data⟩ (by simp) rfl)
      exact t_call (vs := [NV a, NV e, .agg #[.int .u64 (0), .int .u64 (0), .int .u64 (0), .int .u64 (0)]]) (by show [aZ.eval (.tmp 12), aZ.eval (.tmp 13), aZ.eval (.tmp 14)] = _; rw [((hV 12 (by decide)).trans e12), ((hV 13 (by decide)).trans e13), ((hV 14 (by decide)).trans e14)]) ent_mod_Exp (mExp0 a e uZ) hF hS rfl rfl rfl rfl (by decide) (fun _ hB => ⟨hM.call hB, Gs.stepA hG rfl rfl, hO.keep rfl, Ns.step hN rfl⟩)
    · cases ho; have e15 := hG.2.2.2.1 (hdep ⟨3, .data⟩ (by simp) rfl)
      exact t_move ((hV 15 (by decide)).trans e15) hF hS rfl rfl rfl rfl (by decide) ⟨hM, Gs.stepA hG rfl rfl, hO.keep rfl, Ns.step hN rfl⟩
    · cases ho; have e11 := hG.2.2.2.2.1 (hdep ⟨4, .data⟩ (by simp) rfl)
      exact t_extract ((hV 11 (by decide)).trans e11) hF hS rfl rfl rfl rfl rfl (by decide) ⟨hM, Gs.stepA hG rfl rfl, hO.keep rfl, Ns.step hN rfl⟩
    · cases ho; have e11 := hG.2.2.2.2.1 (hdep ⟨4, .data⟩ (by simp) rfl)
      exact t_extract ((hV 11 (by decide)).trans e11) hF hS rfl rfl rfl rfl rfl (by decide) ⟨hM, Gs.stepA hG rfl rfl, hO.keep rfl, Ns.step hN rfl⟩
    · cases ho; have q1 : fZ 8 = false := Os.not (hO.1) hfi
      exact t_alloc (al_api_Nat uZ) hF hS rfl rfl rfl rfl (by decide) ⟨MR.newF 0 hM rfl hfi q1, Gs.other rfl hG, hO.keep rfl, Ns.step hN rfl⟩
    · cases ho; have e16 := hG.2.2.2.2.2.1 (hdep ⟨5, .data⟩ (by simp) rfl)
      exact t_storeN 0 hM rfl (hdep ⟨7, .data⟩ (by simp) rfl) hfi (hV 7 (by decide)) ((hV 16 (by decide)).trans e16) rfl info_api_Nat rfl hF rfl rfl rfl rfl (fun _ h => ⟨h, Gs.idle rfl hG, ⟨fun _ => hdep ⟨7, .data⟩ (by simp) rfl, trivial⟩, Ns.idle hN⟩)
    · cases ho; have e17 := hG.2.2.2.2.2.2.1 (hdep ⟨6, .data⟩ (by simp) rfl)
      exact t_assign ((hV 17 (by decide)).trans e17) hF hS rfl rfl rfl rfl (by decide) ⟨hM, Gs.stepA hG rfl rfl, hO.keep rfl, Ns.step hN rfl⟩
  rintro fZ tZ u1 ⟨hM, hG, hO, hN⟩ hall
  obtain ⟨e12, e13, e14, e15, e11, e16, e17, e8, -⟩ := Gs.all 10 hall hG rfl
  obtain ⟨b1_7, ee7, pb1_7, lb1_7, kb1_7⟩ := hM.nw.1 (hall 7 (by decide))
  have e7 : tZ 7 = .pointer (some ⟨b1_7, 0, none⟩) := ee7
  clear ee7
  have Kb1_7 : CV u1 b1_7 ([.int .u64 (0), .int .u64 (0), .int .u64 (0), .int .u64 (0)]) := by
    have h1 : CV u1 b1_7 (bif fZ 8 then [.int .u64 (0), .int .u64 (0), .int .u64 (0), .int .u64 (0)] else L0s) := kb1_7
    rw [hall 8 (by decide)] at h1; exact h1
  clear kb1_7
  have HB1 : Below w.heap.size w u1 := hM.bel
  have sz1 : v0.heap.size ≤ u1.heap.size := hM.sz
  obtain ⟨⟨l1p0, K1p0⟩, ⟨l1p1, K1p1⟩, ⟨l1p2, K1p2⟩, -⟩ := hM.ks.up hM.sz
  dsimp only at l1p0 K1p0 l1p1 K1p1 l1p2 K1p2
  simp only [ovr, List.set_cons_zero, List.set_cons_succ, e12, e13, e14, e15, e11, e16, e17, e8, e7]
  clear hM hG hO hN hall e12 e13 e14 e15 e11 e16 e17 e8 e7 K0p0 K0p1 K0p2 HB0
  clear tZ
  go_upto_region 2 with fail
  refine region_plain [19, 20, 21, 22, 18, 23, 24, 9, 10] (fun fZ tZ uZ => MR w.heap.size w (u1.heap.size) [(w.heap.size, LN a), (w.heap.size + 1, LN e), (w.heap.size + 1 + 1, [.int .u64 (0), .int .u64 (0), .int .u64 (0), .int .u64 (0)]), (b1_7, [.int .u64 (0), .int .u64 (0), .int .u64 (0), .int .u64 (0)])] [] [(fZ 7, fZ 8, tZ 9, L0s, [.int .u64 (0), .int .u64 (0), .int .u64 (0), .int .u64 (0)])] uZ ∧ Gs fZ tZ [(0, 19, NV a), (1, 20, NV e), (2, 21, .agg #[.int .u64 (0), .int .u64 (0), .int .u64 (0), .int .u64 (0)]), (3, 22, .tuple #[A4 (0) (0) (0) (0), .int .i64 20]), (4, 18, .tuple #[A4 (0) (0) (0) (0), .int .i64 20]), (5, 23, A4 (0) (0) (0) (0)), (6, 24, .int .i64 20), (9, 10, .int .i64 20)] ∧ Os fZ [(8, 7)] ∧ Ns fZ tZ []) (by kernel_rfl) ?_ ?_ ?_
  · exact ⟨{ bel := HB1, lo := HB1.size, sz := Nat.le_refl _, ks := ⟨⟨l1p0, K1p0⟩, ⟨l1p1, K1p1⟩, ⟨l1p2, K1p2⟩, ⟨lb1_7, Kb1_7⟩, trivial⟩, ex := trivial, nw := ⟨fun e => (by cases e), trivial⟩, nd := ⟨fun e => (by cases e), trivial⟩ }, Gs.none _ _, Os.none _, trivial⟩
  · rintro fZ tZ uZ iZ oZ aZ hF ⟨hM, hG, hO, hN⟩ ho hfi hdep
    have hS : [19, 20, 21, 22, 18, 23, 24, 9, 10].Nodup := by decide
    have hV := hF.evs (N := 36) (by decide) rfl (by decide)
    have il : iZ < 10 := (Array.getElem?_eq_some_iff.1 ho).1
    have ix : iZ = 0 ∨ iZ = 1 ∨ iZ = 2 ∨ iZ = 3 ∨ iZ = 4 ∨ iZ = 5 ∨ iZ = 6 ∨ iZ = 7 ∨ iZ = 8 ∨ iZ = 9 := by omega
    rcases ix with rfl | rfl | rfl | rfl | rfl | rfl | rfl | rfl | rfl | rfl
    · cases ho; exact t_load (show aZ.eval (.tmp 3) = .pointer (some ⟨w.heap.size, 0, none⟩) from (hF.out 3 (by decide)).trans rfl) hM.ks.1.2 Try.underlying25 info_api_Nat hF hS rfl rfl rfl rfl rfl (by decide) ⟨hM, Gs.stepA hG rfl rfl, hO.keep rfl, Ns.step hN rfl⟩
    · cases ho; exact t_load (show aZ.eval (.tmp 4) = .pointer (some ⟨w.heap.size + 1, 0, none⟩) from (hF.out 4 (by decide)).trans rfl) hM.ks.2.1.2 Try.underlying25 info_api_Nat hF hS rfl rfl rfl rfl rfl (by decide) ⟨hM, Gs.stepA hG rfl rfl, hO.keep rfl, Ns.step hN rfl⟩
    · cases ho; exact t_load (show aZ.eval (.tmp 5) = .pointer (some ⟨w.heap.size + 1 + 1, 0, none⟩) from (hF.out 5 (by decide)).trans rfl) hM.ks.2.2.1.2 Try.underlying25 info_api_Nat hF hS rfl rfl rfl rfl rfl (by decide) ⟨hM, Gs.stepA hG rfl rfl, hO.keep rfl, Ns.step hN rfl⟩
    · cases ho; have e19 := hG.1 (hdep ⟨0, .data⟩ (by simp) rfl)
      have e20 := hG.2.1 (hdep ⟨1, .data⟩ (by simp) rfl)
      have e21 := hG.2.2.1 (hdep ⟨2, .data⟩ (by simp) rfl)
      exact t_call (vs := [NV a, NV e, .agg #[.int .u64 (0), .int .u64 (0), .int .u64 (0), .int .u64 (0)]]) (by show [aZ.eval (.tmp 19), aZ.eval (.tmp 20), aZ.eval (.tmp 21)] = _; rw [((hV 19 (by decide)).trans e19), ((hV 20 (by decide)).trans e20), ((hV 21 (by decide)).trans e21)]) ent_seneschalref02_Exp (xExp0 a e uZ) hF hS rfl rfl rfl rfl (by decide) (fun _ hB => ⟨hM.call hB, Gs.stepA hG rfl rfl, hO.keep rfl, Ns.step hN rfl⟩)
    · cases ho; have e22 := hG.2.2.2.1 (hdep ⟨3, .data⟩ (by simp) rfl)
      exact t_move ((hV 22 (by decide)).trans e22) hF hS rfl rfl rfl rfl (by decide) ⟨hM, Gs.stepA hG rfl rfl, hO.keep rfl, Ns.step hN rfl⟩
    · cases ho; have e18 := hG.2.2.2.2.1 (hdep ⟨4, .data⟩ (by simp) rfl)
      exact t_extract ((hV 18 (by decide)).trans e18) hF hS rfl rfl rfl rfl rfl (by decide) ⟨hM, Gs.stepA hG rfl rfl, hO.keep rfl, Ns.step hN rfl⟩
    · cases ho; have e18 := hG.2.2.2.2.1 (hdep ⟨4, .data⟩ (by simp) rfl)
      exact t_extract ((hV 18 (by decide)).trans e18) hF hS rfl rfl rfl rfl rfl (by decide) ⟨hM, Gs.stepA hG rfl rfl, hO.keep rfl, Ns.step hN rfl⟩
    · cases ho; have q1 : fZ 8 = false := Os.not (hO.1) hfi
      exact t_alloc (al_api_Nat uZ) hF hS rfl rfl rfl rfl (by decide) ⟨MR.newF 0 hM rfl hfi q1, Gs.other rfl hG, hO.keep rfl, Ns.step hN rfl⟩
    · cases ho; have e23 := hG.2.2.2.2.2.1 (hdep ⟨5, .data⟩ (by simp) rfl)
      exact t_storeN 0 hM rfl (hdep ⟨7, .data⟩ (by simp) rfl) hfi (hV 9 (by decide)) ((hV 23 (by decide)).trans e23) rfl info_api_Nat rfl hF rfl rfl rfl rfl (fun _ h => ⟨h, Gs.idle rfl hG, ⟨fun _ => hdep ⟨7, .data⟩ (by simp) rfl, trivial⟩, Ns.idle hN⟩)
    · cases ho; have e24 := hG.2.2.2.2.2.2.1 (hdep ⟨6, .data⟩ (by simp) rfl)
      exact t_assign ((hV 24 (by decide)).trans e24) hF hS rfl rfl rfl rfl (by decide) ⟨hM, Gs.stepA hG rfl rfl, hO.keep rfl, Ns.step hN rfl⟩
  rintro fZ tZ u2 ⟨hM, hG, hO, hN⟩ hall
  obtain ⟨e19, e20, e21, e22, e18, e23, e24, e10, -⟩ := Gs.all 10 hall hG rfl
  obtain ⟨b2_7, ee9, pb2_7, lb2_7, kb2_7⟩ := hM.nw.1 (hall 7 (by decide))
  have e9 : tZ 9 = .pointer (some ⟨b2_7, 0, none⟩) := ee9
  clear ee9
  have Kb2_7 : CV u2 b2_7 ([.int .u64 (0), .int .u64 (0), .int .u64 (0), .int .u64 (0)]) := by
    have h1 : CV u2 b2_7 (bif fZ 8 then [.int .u64 (0), .int .u64 (0), .int .u64 (0), .int .u64 (0)] else L0s) := kb2_7
    rw [hall 8 (by decide)] at h1; exact h1
  clear kb2_7
  have HB2 : Below w.heap.size w u2 := hM.bel
  have sz2 : u1.heap.size ≤ u2.heap.size := hM.sz
  obtain ⟨-, -, -, ⟨l2n1_7, K2n1_7⟩, -⟩ := hM.ks.up hM.sz
  dsimp only at l2n1_7 K2n1_7
  simp only [ovr, List.set_cons_zero, List.set_cons_succ, e19, e20, e21, e22, e18, e23, e24, e10, e9]
  clear hM hG hO hN hall e19 e20 e21 e22 e18 e23 e24 e10 e9 K1p0 K1p1 K1p2 Kb1_7 HB1
  clear tZ
  go_upto_region 3 with fail
  refine region_plain [25, 26, 27, 28, 29, 30, 31, 32, 33, 34, 35, 6] (fun fZ tZ uZ => MR w.heap.size w (u2.heap.size) [(b1_7, [.int .u64 (0), .int .u64 (0), .int .u64 (0), .int .u64 (0)]), (b2_7, [.int .u64 (0), .int .u64 (0), .int .u64 (0), .int .u64 (0)])] [] [] uZ ∧ Gs fZ tZ [(0, 25, .agg #[.int .u64 (0), .int .u64 (0), .int .u64 (0), .int .u64 (0)]), (1, 26, .agg #[.int .u64 (0), .int .u64 (0), .int .u64 (0), .int .u64 (0)]), (2, 27, .bool true), (3, 28, .bool true), (4, 29, .int .i64 20), (5, 30, .int .i64 20), (6, 31, .bool true), (7, 32, .bool true), (8, 33, .bool true), (9, 34, .bool true), (10, 35, .bool true), (11, 6, .bool true)] ∧ Os fZ [] ∧ Ns fZ tZ []) (by kernel_rfl) ?_ ?_ ?_
  · exact ⟨{ bel := HB2, lo := HB2.size, sz := Nat.le_refl _, ks := ⟨⟨l2n1_7, K2n1_7⟩, ⟨lb2_7, Kb2_7⟩, trivial⟩, ex := trivial, nw := trivial, nd := trivial }, Gs.none _ _, Os.none _, trivial⟩
  · rintro fZ tZ uZ iZ oZ aZ hF ⟨hM, hG, hO, hN⟩ ho hfi hdep
    have hS : [25, 26, 27, 28, 29, 30, 31, 32, 33, 34, 35, 6].Nodup := by decide
    have hV := hF.evs (N := 36) (by decide) rfl (by decide)
    have il : iZ < 12 := (Array.getElem?_eq_some_iff.1 ho).1
    have ix : iZ = 0 ∨ iZ = 1 ∨ iZ = 2 ∨ iZ = 3 ∨ iZ = 4 ∨ iZ = 5 ∨ iZ = 6 ∨ iZ = 7 ∨ iZ = 8 ∨ iZ = 9 ∨ iZ = 10 ∨ iZ = 11 := by omega
    rcases ix with rfl | rfl | rfl | rfl | rfl | rfl | rfl | rfl | rfl | rfl | rfl | rfl
    · cases ho; exact t_load (show aZ.eval (.tmp 7) = .pointer (some ⟨b1_7, 0, none⟩) from (hF.out 7 (by decide)).trans rfl) hM.ks.1.2 Try.underlying25 info_api_Nat hF hS rfl rfl rfl rfl rfl (by decide) ⟨hM, Gs.stepA hG rfl rfl, trivial, Ns.step hN rfl⟩
    · cases ho; exact t_load (show aZ.eval (.tmp 9) = .pointer (some ⟨b2_7, 0, none⟩) from (hF.out 9 (by decide)).trans rfl) hM.ks.2.1.2 Try.underlying25 info_api_Nat hF hS rfl rfl rfl rfl rfl (by decide) ⟨hM, Gs.stepA hG rfl rfl, trivial, Ns.step hN rfl⟩
    · cases ho; refine op_plain rfl rfl (fun K hK => ?_)
      have e25 := hG.1 (hdep ⟨0, .data⟩ (by simp) rfl)
      have e26 := hG.2.1 (hdep ⟨1, .data⟩ (by simp) rfl)
      refine wp_bin rfl ((hV 25 (by decide)).trans e25) ((hV 26 (by decide)).trans e26) (by rw [eql_w]) ?_
      exact tell hK hF hS (by decide) ⟨hM, Gs.stepA hG rfl rfl, trivial, Ns.step hN rfl⟩
    · cases ho; have e27 := hG.2.2.1 (hdep ⟨2, .data⟩ (by simp) rfl)
      exact t_move ((hV 27 (by decide)).trans e27) hF hS rfl rfl rfl rfl (by decide) ⟨hM, Gs.stepA hG rfl rfl, trivial, Ns.step hN rfl⟩
    · cases ho; refine wpOp_step rfl (fun K hK => ?_)
      have yg : fZ 3 = true := hdep ⟨3, .guard⟩ (by simp) rfl
      have eg : tZ 28 = .bool true := hG.2.2.2.1 yg
      rw [if_pos (wanted_of rfl rfl (show aZ.tmps[28]? = some (.bool true) by rw [hF.tmps (N := 36) (by decide) rfl 28 (by decide) (by decide), eg]))]
      refine wp_move rfl (show aZ.eval (.tmp 8) = .int .i64 20 from (hF.out 8 (by decide)).trans rfl) ?_
      exact tell hK hF hS (by decide) ⟨hM, Gs.stepA hG rfl rfl, trivial, Ns.step hN rfl⟩
    · cases ho; refine wpOp_step rfl (fun K hK => ?_)
      have yg : fZ 3 = true := hdep ⟨3, .guard⟩ (by simp) rfl
      have eg : tZ 28 = .bool true := hG.2.2.2.1 yg
      rw [if_pos (wanted_of rfl rfl (show aZ.tmps[28]? = some (.bool true) by rw [hF.tmps (N := 36) (by decide) rfl 28 (by decide) (by decide), eg]))]
      refine wp_move rfl (show aZ.eval (.tmp 10) = .int .i64 20 from (hF.out 10 (by decide)).trans rfl) ?_
      exact tell hK hF hS (by decide) ⟨hM, Gs.stepA hG rfl rfl, trivial, Ns.step hN rfl⟩
    · cases ho; refine wpOp_step rfl (fun K hK => ?_)
      have yg : fZ 3 = true := hdep ⟨3, .guard⟩ (by simp) rfl
      have eg : tZ 28 = .bool true := hG.2.2.2.1 yg
      rw [if_pos (wanted_of rfl rfl (show aZ.tmps[28]? = some (.bool true) by rw [hF.tmps (N := 36) (by decide) rfl 28 (by decide) (by decide), eg]))]
      have e29 := hG.2.2.2.2.1 (hdep ⟨4, .data⟩ (by simp) rfl)
      have e30 := hG.2.2.2.2.2.1 (hdep ⟨5, .data⟩ (by simp) rfl)
      refine wp_bin rfl ((hV 29 (by decide)).trans e29) ((hV 30 (by decide)).trans e30) (eql_i _ _ _ 20 20 _ uZ rfl) ?_
      exact tell hK hF hS (by decide) ⟨hM, Gs.stepA hG rfl rfl, trivial, Ns.step hN rfl⟩
    · cases ho; refine op_plain rfl rfl (fun K hK => ?_)
      have e28 := hG.2.2.2.1 (hdep ⟨3, .data⟩ (by simp) rfl)
      have e31 := hG.2.2.2.2.2.2.1 (hdep ⟨6, .data⟩ (by simp) rfl)
      refine wp_pick rfl ((hV 28 (by decide)).trans e28) (b := true) ((if_pos rfl).trans ((hV 31 (by decide)).trans e31)) ?_
      exact tell hK hF hS (by decide) ⟨hM, Gs.stepA hG rfl rfl, trivial, Ns.step hN rfl⟩
    · cases ho; have e32 := hG.2.2.2.2.2.2.2.1 (hdep ⟨7, .data⟩ (by simp) rfl)
      exact t_move ((hV 32 (by decide)).trans e32) hF hS rfl rfl rfl rfl (by decide) ⟨hM, Gs.stepA hG rfl rfl, trivial, Ns.step hN rfl⟩
    · cases ho; refine wpOp_step rfl (fun K hK => ?_)
      have yg : fZ 8 = true := hdep ⟨8, .guard⟩ (by simp) rfl
      have eg : tZ 33 = .bool true := hG.2.2.2.2.2.2.2.2.1 yg
      rw [if_pos (wanted_of rfl rfl (show aZ.tmps[33]? = some (.bool true) by rw [hF.tmps (N := 36) (by decide) rfl 33 (by decide) (by decide), eg]))]
      refine wp_callF rfl (vs := []) (by show [] = _; rfl) ent_seneschallaw02_works (works2 uZ) (fun vZ hB => ?_)
      exact tell hK hF hS (by decide) ⟨hM.call hB, Gs.stepA hG rfl rfl, trivial, Ns.step hN rfl⟩
    · cases ho; refine op_plain rfl rfl (fun K hK => ?_)
      have e33 := hG.2.2.2.2.2.2.2.2.1 (hdep ⟨8, .data⟩ (by simp) rfl)
      have e34 := hG.2.2.2.2.2.2.2.2.2.1 (hdep ⟨9, .data⟩ (by simp) rfl)
      refine wp_pick rfl ((hV 33 (by decide)).trans e33) (b := true) ((if_pos rfl).trans ((hV 34 (by decide)).trans e34)) ?_
      exact tell hK hF hS (by decide) ⟨hM, Gs.stepA hG rfl rfl, trivial, Ns.step hN rfl⟩
    · cases ho; have e35 := hG.2.2.2.2.2.2.2.2.2.2.1 (hdep ⟨10, .data⟩ (by simp) rfl)
      exact t_assign ((hV 35 (by decide)).trans e35) hF hS rfl rfl rfl rfl (by decide) ⟨hM, Gs.stepA hG rfl rfl, trivial, Ns.step hN rfl⟩
  rintro fZ tZ u3 ⟨hM, hG, hO, hN⟩ hall
  obtain ⟨e25, e26, e27, e28, e29, e30, e31, e32, e33, e34, e35, e6, -⟩ := Gs.all 12 hall hG rfl
  have HB3 : Below w.heap.size w u3 := hM.bel
  have sz3 : u2.heap.size ≤ u3.heap.size := hM.sz
  simp only [ovr, List.set_cons_zero, List.set_cons_succ, e25, e26, e27, e28, e29, e30, e31, e32, e33, e34, e35, e6]
  clear hM hG hO hN hall e25 e26 e27 e28 e29 e30 e31 e32 e33 e34 e35 e6 K2n1_7 Kb2_7 HB2
  clear tZ
  go_wp2
  refine bodyPost_ret (v := .bool true) (by simp [results, Try.results6, go_sem, ]) rfl ⟨rfl, HB3⟩
theorem modPowers_any (a e m : Int) (w : World) (ha : In a) (he : In e) (hm : In m) : Calls Try.prog 6 #[NV a, NV e, NV m] w fun en w' => en = .returned (.bool true) ∧ Below w.heap.size w w' := by
  by_cases h : m = 0
  · rw [h, NV_0]; exact modPowers_0 a e 0 w ha he
  · exact modPowers_1 a e m w ha he hm h
end Go.Proofs.Ytnmkbihjbnbkkaa
