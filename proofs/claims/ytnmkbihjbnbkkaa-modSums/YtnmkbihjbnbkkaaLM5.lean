/- ModSums: the walk. -/
import Derived.Test.YtnmkbihjbnbkkaaWK2
import Derived.Test.YtnmkbihjbnbkkaaMR2
import Derived.Test.YtnmkbihjbnbkkaaMA4
namespace Go.Proofs.Ytnmkbihjbnbkkaa
open Go.RowKit
theorem cZ42 {α : Type} {ops : Array α} {i : Nat} {o : α} (ho : ops[i]? = some o) (h : ops.size = 42 := by rfl) : i = 0 ∨ i = 1 ∨ i = 2 ∨ i = 3 ∨ i = 4 ∨ i = 5 ∨ i = 6 ∨ i = 7 ∨ i = 8 ∨ i = 9 ∨ i = 10 ∨ i = 11 ∨ i = 12 ∨ i = 13 ∨ i = 14 ∨ i = 15 ∨ i = 16 ∨ i = 17 ∨ i = 18 ∨ i = 19 ∨ i = 20 ∨ i = 21 ∨ i = 22 ∨ i = 23 ∨ i = 24 ∨ i = 25 ∨ i = 26 ∨ i = 27 ∨ i = 28 ∨ i = 29 ∨ i = 30 ∨ i = 31 ∨ i = 32 ∨ i = 33 ∨ i = 34 ∨ i = 35 ∨ i = 36 ∨ i = 37 ∨ i = 38 ∨ i = 39 ∨ i = 40 ∨ i = 41 := by
  have := (Array.getElem?_eq_some_iff.1 ho).1
  omega
set_option linter.unusedVariables false
set_option linter.unusedSimpArgs false
set_option maxRecDepth 100000 in
set_option maxHeartbeats 4000000 in
theorem modSums_1 (a b m n : Int) (w : World) (ha : In a) (hb : In b) (hn : InW n) (hm : In m) (h : m ≠ 0) : Calls Try.prog 5 #[NV a, NV b, NV m, WV n] w fun en w' => en = .returned (.bool true) ∧ Below w.heap.size w w' := by
  go_enter Try.func5, Try.ntmps5
  go_upto_region 1 with fail
  generalize hC : ((((w.alloc (.cells (LN a : List Value).toArray 25)).alloc (.cells (LN b : List Value).toArray 25)).alloc (.cells (LN m : List Value).toArray 25)).alloc (.cells (LW n : List Value).toArray 37)) = v0 at *
  have HB0 : Below w.heap.size w v0 := by rw [← hC]; exact (balloc (balloc (balloc (balloc (bself w) _) _) _) _)
  have K0p0 : CV v0 (w.heap.size) (LN a) := by rw [← hC]; exact ((((CV.new w (LN a) 25).alloc (by simp <;> omega) _).alloc (by simp <;> omega) _).alloc (by simp <;> omega) _)
  have l0p0 : w.heap.size < v0.heap.size := by rw [← hC]; simp <;> omega
  have K0p1 : CV v0 (w.heap.size + 1) (LN b) := by rw [← hC]; exact (((CV.newAt (w.alloc (.cells (LN a : List Value).toArray 25)) (LN b) 25 _ (by simp)).alloc (by simp <;> omega) _).alloc (by simp <;> omega) _)
  have l0p1 : w.heap.size + 1 < v0.heap.size := by rw [← hC]; simp <;> omega
  have K0p2 : CV v0 (w.heap.size + 1 + 1) (LN m) := by rw [← hC]; exact ((CV.newAt ((w.alloc (.cells (LN a : List Value).toArray 25)).alloc (.cells (LN b : List Value).toArray 25)) (LN m) 25 _ (by simp)).alloc (by simp <;> omega) _)
  have l0p2 : w.heap.size + 1 + 1 < v0.heap.size := by rw [← hC]; simp <;> omega
  have K0p3 : CV v0 (w.heap.size + 1 + 1 + 1) (LW n) := by rw [← hC]; exact (CV.newAt (((w.alloc (.cells (LN a : List Value).toArray 25)).alloc (.cells (LN b : List Value).toArray 25)).alloc (.cells (LN m : List Value).toArray 25)) (LW n) 37 _ (by simp))
  have l0p3 : w.heap.size + 1 + 1 + 1 < v0.heap.size := by rw [← hC]; simp <;> omega
  clear hC
  refine region_plain [26, 27, 28, 29, 25, 30, 31, 9, 10] (fun fZ tZ uZ => MR w.heap.size w (v0.heap.size) [(w.heap.size, LN a), (w.heap.size + 1, LN b), (w.heap.size + 1 + 1, LN m), (w.heap.size + 1 + 1 + 1, LW n)] [] [(fZ 7, fZ 8, tZ 9, L0s, LN ((a + b) % m))] uZ ∧ Gs fZ tZ [(0, 26, NV a), (1, 27, NV b), (2, 28, NV m), (3, 29, .tuple #[NV ((a + b) % m), .int .i64 0]), (4, 25, .tuple #[NV ((a + b) % m), .int .i64 0]), (5, 30, NV ((a + b) % m)), (6, 31, .int .i64 0), (9, 10, .int .i64 0)] ∧ Os fZ [(8, 7)] ∧ Ns fZ tZ []) (by kernel_rfl) ?_ ?_ ?_
  · exact ⟨{ bel := HB0, lo := HB0.size, sz := Nat.le_refl _, ks := ⟨⟨l0p0, K0p0⟩, ⟨l0p1, K0p1⟩, ⟨l0p2, K0p2⟩, ⟨l0p3, K0p3⟩, trivial⟩, ex := trivial, nw := ⟨fun e => (by cases e), trivial⟩, nd := ⟨fun e => (by cases e), trivial⟩ }, Gs.none _ _, Os.none _, trivial⟩
  · rintro fZ tZ uZ iZ oZ aZ hF ⟨hM, hG, hO, hN⟩ ho hfi hdep
    obtain ⟨hS, hV⟩ := hF.two 120 (by decide) rfl (by decide)
    rcases cZ10 ho with rfl | rfl | rfl | rfl | rfl | rfl | rfl | rfl | rfl | rfl <;> cases ho
    · exact t_load (show aZ.eval (.tmp 4) = .pointer (some ⟨w.heap.size, 0, none⟩) from (hF.out 4 (by decide)).trans rfl) hM.ks.1.2 Try.underlying25 info_api_Nat hF hS rfl rfl rfl rfl rfl (by decide) (Jm hM hG hO hN)
    · exact t_load (show aZ.eval (.tmp 5) = .pointer (some ⟨w.heap.size + 1, 0, none⟩) from (hF.out 5 (by decide)).trans rfl) hM.ks.2.1.2 Try.underlying25 info_api_Nat hF hS rfl rfl rfl rfl rfl (by decide) (Jm hM hG hO hN)
    · exact t_load (show aZ.eval (.tmp 6) = .pointer (some ⟨w.heap.size + 1 + 1, 0, none⟩) from (hF.out 6 (by decide)).trans rfl) hM.ks.2.2.1.2 Try.underlying25 info_api_Nat hF hS rfl rfl rfl rfl rfl (by decide) (Jm hM hG hO hN)
    · exact t_call (vs := [NV a, NV b, NV m]) (by show [aZ.eval (.tmp 26), aZ.eval (.tmp 27), aZ.eval (.tmp 28)] = _; rw [(ve 26 hV (hG.1 (dd 0 hdep))), (ve 27 hV (hG.2.1 (dd 1 hdep))), (ve 28 hV (hG.2.2.1 (dd 2 hdep)))]) ent_mod_Add (mAdd a b m uZ ha hb hm h) hF hS rfl rfl rfl rfl (by decide) (fun _ hB => (Jm (hM.call hB) hG hO hN))
    · exact t_move (ve 29 hV (hG.2.2.2.1 (dd 3 hdep))) hF hS rfl rfl rfl rfl (by decide) (Jm hM hG hO hN)
    · exact t_extract (ve 25 hV (hG.2.2.2.2.1 (dd 4 hdep))) hF hS rfl rfl rfl rfl rfl (by decide) (Jm hM hG hO hN)
    · exact t_extract (ve 25 hV (hG.2.2.2.2.1 (dd 4 hdep))) hF hS rfl rfl rfl rfl rfl (by decide) (Jm hM hG hO hN)
    · have q1 : fZ 8 = false := Os.not (hO.1) hfi
      exact t_alloc (al_api_Nat uZ) hF hS rfl rfl rfl rfl (by decide) ⟨MR.newF 0 hM rfl hfi q1, Gs.other rfl hG, hO.keep rfl, Ns.step hN rfl⟩
    · exact t_storeN 0 hM rfl (dd 7 hdep) hfi (hV 9 (by decide)) (ve 30 hV (hG.2.2.2.2.2.1 (dd 5 hdep))) rfl info_api_Nat rfl hF rfl rfl rfl rfl (fun _ h => ⟨h, Gs.idle rfl hG, ⟨fun _ => (dd 7 hdep :), trivial⟩, Ns.idle hN⟩)
    · exact t_assign (ve 31 hV (hG.2.2.2.2.2.2.1 (dd 6 hdep))) hF hS rfl rfl rfl rfl (by decide) (Jm hM hG hO hN)
  rintro fZ tZ u1 ⟨hM, hG, hO, hN⟩ hall
  obtain ⟨e26, e27, e28, e29, e25, e30, e31, e10, -⟩ := Gs.all 10 hall hG rfl
  obtain ⟨b1_7, ee9, pb1_7, lb1_7, kb1_7⟩ := hM.nw.1 (hall 7 (by decide))
  have e9 : tZ 9 = .pointer (some ⟨b1_7, 0, none⟩) := ee9
  clear ee9
  have Kb1_7 : CV u1 b1_7 (LN ((a + b) % m)) := by
    have h1 : CV u1 b1_7 (bif fZ 8 then LN ((a + b) % m) else L0s) := kb1_7
    rw [hall 8 (by decide)] at h1; exact h1
  clear kb1_7
  have HB1 : Below w.heap.size w u1 := hM.bel
  have sz1 : v0.heap.size ≤ u1.heap.size := hM.sz
  obtain ⟨⟨l1p0, K1p0⟩, ⟨l1p1, K1p1⟩, ⟨l1p2, K1p2⟩, ⟨l1p3, K1p3⟩, -⟩ := hM.ks.up hM.sz
  dsimp only at l1p0 K1p0 l1p1 K1p1 l1p2 K1p2 l1p3 K1p3
  simp only [ovr, List.set_cons_zero, List.set_cons_succ, e26, e27, e28, e29, e25, e30, e31, e10, e9]
  clear hM hG hO hN hall e26 e27 e28 e29 e25 e30 e31 e10 e9 K0p0 K0p1 K0p2 K0p3 HB0
  clear tZ
  go_upto_region 2 with fail
  refine region_plain [33, 34, 35, 36, 32, 37, 38, 11, 12] (fun fZ tZ uZ => MR w.heap.size w (u1.heap.size) [(w.heap.size, LN a), (w.heap.size + 1, LN b), (w.heap.size + 1 + 1, LN m), (w.heap.size + 1 + 1 + 1, LW n), (b1_7, LN ((a + b) % m))] [] [(fZ 7, fZ 8, tZ 11, L0s, LN ((a + b) % m))] uZ ∧ Gs fZ tZ [(0, 33, NV a), (1, 34, NV b), (2, 35, NV m), (3, 36, .tuple #[NV ((a + b) % m), .int .i64 0]), (4, 32, .tuple #[NV ((a + b) % m), .int .i64 0]), (5, 37, NV ((a + b) % m)), (6, 38, .int .i64 0), (9, 12, .int .i64 0)] ∧ Os fZ [(8, 7)] ∧ Ns fZ tZ []) (by kernel_rfl) ?_ ?_ ?_
  · exact ⟨{ bel := HB1, lo := HB1.size, sz := Nat.le_refl _, ks := ⟨⟨l1p0, K1p0⟩, ⟨l1p1, K1p1⟩, ⟨l1p2, K1p2⟩, ⟨l1p3, K1p3⟩, ⟨lb1_7, Kb1_7⟩, trivial⟩, ex := trivial, nw := ⟨fun e => (by cases e), trivial⟩, nd := ⟨fun e => (by cases e), trivial⟩ }, Gs.none _ _, Os.none _, trivial⟩
  · rintro fZ tZ uZ iZ oZ aZ hF ⟨hM, hG, hO, hN⟩ ho hfi hdep
    obtain ⟨hS, hV⟩ := hF.two 120 (by decide) rfl (by decide)
    rcases cZ10 ho with rfl | rfl | rfl | rfl | rfl | rfl | rfl | rfl | rfl | rfl <;> cases ho
    · exact t_load (show aZ.eval (.tmp 4) = .pointer (some ⟨w.heap.size, 0, none⟩) from (hF.out 4 (by decide)).trans rfl) hM.ks.1.2 Try.underlying25 info_api_Nat hF hS rfl rfl rfl rfl rfl (by decide) (Jm hM hG hO hN)
    · exact t_load (show aZ.eval (.tmp 5) = .pointer (some ⟨w.heap.size + 1, 0, none⟩) from (hF.out 5 (by decide)).trans rfl) hM.ks.2.1.2 Try.underlying25 info_api_Nat hF hS rfl rfl rfl rfl rfl (by decide) (Jm hM hG hO hN)
    · exact t_load (show aZ.eval (.tmp 6) = .pointer (some ⟨w.heap.size + 1 + 1, 0, none⟩) from (hF.out 6 (by decide)).trans rfl) hM.ks.2.2.1.2 Try.underlying25 info_api_Nat hF hS rfl rfl rfl rfl rfl (by decide) (Jm hM hG hO hN)
    · exact t_call (vs := [NV a, NV b, NV m]) (by show [aZ.eval (.tmp 33), aZ.eval (.tmp 34), aZ.eval (.tmp 35)] = _; rw [(ve 33 hV (hG.1 (dd 0 hdep))), (ve 34 hV (hG.2.1 (dd 1 hdep))), (ve 35 hV (hG.2.2.1 (dd 2 hdep)))]) ent_seneschalref02_Add (xAdd a b m uZ ha hb hm h) hF hS rfl rfl rfl rfl (by decide) (fun _ hB => (Jm (hM.call hB) hG hO hN))
    · exact t_move (ve 36 hV (hG.2.2.2.1 (dd 3 hdep))) hF hS rfl rfl rfl rfl (by decide) (Jm hM hG hO hN)
    · exact t_extract (ve 32 hV (hG.2.2.2.2.1 (dd 4 hdep))) hF hS rfl rfl rfl rfl rfl (by decide) (Jm hM hG hO hN)
    · exact t_extract (ve 32 hV (hG.2.2.2.2.1 (dd 4 hdep))) hF hS rfl rfl rfl rfl rfl (by decide) (Jm hM hG hO hN)
    · have q1 : fZ 8 = false := Os.not (hO.1) hfi
      exact t_alloc (al_api_Nat uZ) hF hS rfl rfl rfl rfl (by decide) ⟨MR.newF 0 hM rfl hfi q1, Gs.other rfl hG, hO.keep rfl, Ns.step hN rfl⟩
    · exact t_storeN 0 hM rfl (dd 7 hdep) hfi (hV 11 (by decide)) (ve 37 hV (hG.2.2.2.2.2.1 (dd 5 hdep))) rfl info_api_Nat rfl hF rfl rfl rfl rfl (fun _ h => ⟨h, Gs.idle rfl hG, ⟨fun _ => (dd 7 hdep :), trivial⟩, Ns.idle hN⟩)
    · exact t_assign (ve 38 hV (hG.2.2.2.2.2.2.1 (dd 6 hdep))) hF hS rfl rfl rfl rfl (by decide) (Jm hM hG hO hN)
  rintro fZ tZ u2 ⟨hM, hG, hO, hN⟩ hall
  obtain ⟨e33, e34, e35, e36, e32, e37, e38, e12, -⟩ := Gs.all 10 hall hG rfl
  obtain ⟨b2_7, ee11, pb2_7, lb2_7, kb2_7⟩ := hM.nw.1 (hall 7 (by decide))
  have e11 : tZ 11 = .pointer (some ⟨b2_7, 0, none⟩) := ee11
  clear ee11
  have Kb2_7 : CV u2 b2_7 (LN ((a + b) % m)) := by
    have h1 : CV u2 b2_7 (bif fZ 8 then LN ((a + b) % m) else L0s) := kb2_7
    rw [hall 8 (by decide)] at h1; exact h1
  clear kb2_7
  have HB2 : Below w.heap.size w u2 := hM.bel
  have sz2 : u1.heap.size ≤ u2.heap.size := hM.sz
  obtain ⟨⟨l2p0, K2p0⟩, ⟨l2p1, K2p1⟩, ⟨l2p2, K2p2⟩, ⟨l2p3, K2p3⟩, ⟨l2n1_7, K2n1_7⟩, -⟩ := hM.ks.up hM.sz
  dsimp only at l2p0 K2p0 l2p1 K2p1 l2p2 K2p2 l2p3 K2p3 l2n1_7 K2n1_7
  simp only [ovr, List.set_cons_zero, List.set_cons_succ, e33, e34, e35, e36, e32, e37, e38, e12, e11]
  clear hM hG hO hN hall e33 e34 e35 e36 e32 e37 e38 e12 e11 K1p0 K1p1 K1p2 K1p3 Kb1_7 HB1
  clear tZ
  go_upto_region 3 with fail
  refine region_plain [40, 41, 42, 43, 39, 44, 45, 13, 14] (fun fZ tZ uZ => MR w.heap.size w (u2.heap.size) [(w.heap.size, LN a), (w.heap.size + 1, LN b), (w.heap.size + 1 + 1, LN m), (w.heap.size + 1 + 1 + 1, LW n), (b1_7, LN ((a + b) % m)), (b2_7, LN ((a + b) % m))] [] [(fZ 7, fZ 8, tZ 13, L0s, LN ((a - b) % m))] uZ ∧ Gs fZ tZ [(0, 40, NV a), (1, 41, NV b), (2, 42, NV m), (3, 43, .tuple #[NV ((a - b) % m), .int .i64 0]), (4, 39, .tuple #[NV ((a - b) % m), .int .i64 0]), (5, 44, NV ((a - b) % m)), (6, 45, .int .i64 0), (9, 14, .int .i64 0)] ∧ Os fZ [(8, 7)] ∧ Ns fZ tZ []) (by kernel_rfl) ?_ ?_ ?_
  · exact ⟨{ bel := HB2, lo := HB2.size, sz := Nat.le_refl _, ks := ⟨⟨l2p0, K2p0⟩, ⟨l2p1, K2p1⟩, ⟨l2p2, K2p2⟩, ⟨l2p3, K2p3⟩, ⟨l2n1_7, K2n1_7⟩, ⟨lb2_7, Kb2_7⟩, trivial⟩, ex := trivial, nw := ⟨fun e => (by cases e), trivial⟩, nd := ⟨fun e => (by cases e), trivial⟩ }, Gs.none _ _, Os.none _, trivial⟩
  · rintro fZ tZ uZ iZ oZ aZ hF ⟨hM, hG, hO, hN⟩ ho hfi hdep
    obtain ⟨hS, hV⟩ := hF.two 120 (by decide) rfl (by decide)
    rcases cZ10 ho with rfl | rfl | rfl | rfl | rfl | rfl | rfl | rfl | rfl | rfl <;> cases ho
    · exact t_load (show aZ.eval (.tmp 4) = .pointer (some ⟨w.heap.size, 0, none⟩) from (hF.out 4 (by decide)).trans rfl) hM.ks.1.2 Try.underlying25 info_api_Nat hF hS rfl rfl rfl rfl rfl (by decide) (Jm hM hG hO hN)
    · exact t_load (show aZ.eval (.tmp 5) = .pointer (some ⟨w.heap.size + 1, 0, none⟩) from (hF.out 5 (by decide)).trans rfl) hM.ks.2.1.2 Try.underlying25 info_api_Nat hF hS rfl rfl rfl rfl rfl (by decide) (Jm hM hG hO hN)
    · exact t_load (show aZ.eval (.tmp 6) = .pointer (some ⟨w.heap.size + 1 + 1, 0, none⟩) from (hF.out 6 (by decide)).trans rfl) hM.ks.2.2.1.2 Try.underlying25 info_api_Nat hF hS rfl rfl rfl rfl rfl (by decide) (Jm hM hG hO hN)
    · exact t_call (vs := [NV a, NV b, NV m]) (by show [aZ.eval (.tmp 40), aZ.eval (.tmp 41), aZ.eval (.tmp 42)] = _; rw [(ve 40 hV (hG.1 (dd 0 hdep))), (ve 41 hV (hG.2.1 (dd 1 hdep))), (ve 42 hV (hG.2.2.1 (dd 2 hdep)))]) ent_mod_Sub (mSub a b m uZ ha hb hm h) hF hS rfl rfl rfl rfl (by decide) (fun _ hB => (Jm (hM.call hB) hG hO hN))
    · exact t_move (ve 43 hV (hG.2.2.2.1 (dd 3 hdep))) hF hS rfl rfl rfl rfl (by decide) (Jm hM hG hO hN)
    · exact t_extract (ve 39 hV (hG.2.2.2.2.1 (dd 4 hdep))) hF hS rfl rfl rfl rfl rfl (by decide) (Jm hM hG hO hN)
    · exact t_extract (ve 39 hV (hG.2.2.2.2.1 (dd 4 hdep))) hF hS rfl rfl rfl rfl rfl (by decide) (Jm hM hG hO hN)
    · have q1 : fZ 8 = false := Os.not (hO.1) hfi
      exact t_alloc (al_api_Nat uZ) hF hS rfl rfl rfl rfl (by decide) ⟨MR.newF 0 hM rfl hfi q1, Gs.other rfl hG, hO.keep rfl, Ns.step hN rfl⟩
    · exact t_storeN 0 hM rfl (dd 7 hdep) hfi (hV 13 (by decide)) (ve 44 hV (hG.2.2.2.2.2.1 (dd 5 hdep))) rfl info_api_Nat rfl hF rfl rfl rfl rfl (fun _ h => ⟨h, Gs.idle rfl hG, ⟨fun _ => (dd 7 hdep :), trivial⟩, Ns.idle hN⟩)
    · exact t_assign (ve 45 hV (hG.2.2.2.2.2.2.1 (dd 6 hdep))) hF hS rfl rfl rfl rfl (by decide) (Jm hM hG hO hN)
  rintro fZ tZ u3 ⟨hM, hG, hO, hN⟩ hall
  obtain ⟨e40, e41, e42, e43, e39, e44, e45, e14, -⟩ := Gs.all 10 hall hG rfl
  obtain ⟨b3_7, ee13, pb3_7, lb3_7, kb3_7⟩ := hM.nw.1 (hall 7 (by decide))
  have e13 : tZ 13 = .pointer (some ⟨b3_7, 0, none⟩) := ee13
  clear ee13
  have Kb3_7 : CV u3 b3_7 (LN ((a - b) % m)) := by
    have h1 : CV u3 b3_7 (bif fZ 8 then LN ((a - b) % m) else L0s) := kb3_7
    rw [hall 8 (by decide)] at h1; exact h1
  clear kb3_7
  have HB3 : Below w.heap.size w u3 := hM.bel
  have sz3 : u2.heap.size ≤ u3.heap.size := hM.sz
  obtain ⟨⟨l3p0, K3p0⟩, ⟨l3p1, K3p1⟩, ⟨l3p2, K3p2⟩, ⟨l3p3, K3p3⟩, ⟨l3n1_7, K3n1_7⟩, ⟨l3n2_7, K3n2_7⟩, -⟩ := hM.ks.up hM.sz
  dsimp only at l3p0 K3p0 l3p1 K3p1 l3p2 K3p2 l3p3 K3p3 l3n1_7 K3n1_7 l3n2_7 K3n2_7
  simp only [ovr, List.set_cons_zero, List.set_cons_succ, e40, e41, e42, e43, e39, e44, e45, e14, e13]
  clear hM hG hO hN hall e40 e41 e42 e43 e39 e44 e45 e14 e13 K2n1_7 K2p0 K2p1 K2p2 K2p3 Kb2_7 HB2
  clear tZ
  go_upto_region 4 with fail
  refine region_plain [47, 48, 49, 50, 46, 51, 52, 15, 16] (fun fZ tZ uZ => MR w.heap.size w (u3.heap.size) [(w.heap.size, LN a), (w.heap.size + 1, LN b), (w.heap.size + 1 + 1, LN m), (w.heap.size + 1 + 1 + 1, LW n), (b1_7, LN ((a + b) % m)), (b2_7, LN ((a + b) % m)), (b3_7, LN ((a - b) % m))] [] [(fZ 7, fZ 8, tZ 15, L0s, LN ((a - b) % m))] uZ ∧ Gs fZ tZ [(0, 47, NV a), (1, 48, NV b), (2, 49, NV m), (3, 50, .tuple #[NV ((a - b) % m), .int .i64 0]), (4, 46, .tuple #[NV ((a - b) % m), .int .i64 0]), (5, 51, NV ((a - b) % m)), (6, 52, .int .i64 0), (9, 16, .int .i64 0)] ∧ Os fZ [(8, 7)] ∧ Ns fZ tZ []) (by kernel_rfl) ?_ ?_ ?_
  · exact ⟨{ bel := HB3, lo := HB3.size, sz := Nat.le_refl _, ks := ⟨⟨l3p0, K3p0⟩, ⟨l3p1, K3p1⟩, ⟨l3p2, K3p2⟩, ⟨l3p3, K3p3⟩, ⟨l3n1_7, K3n1_7⟩, ⟨l3n2_7, K3n2_7⟩, ⟨lb3_7, Kb3_7⟩, trivial⟩, ex := trivial, nw := ⟨fun e => (by cases e), trivial⟩, nd := ⟨fun e => (by cases e), trivial⟩ }, Gs.none _ _, Os.none _, trivial⟩
  · rintro fZ tZ uZ iZ oZ aZ hF ⟨hM, hG, hO, hN⟩ ho hfi hdep
    obtain ⟨hS, hV⟩ := hF.two 120 (by decide) rfl (by decide)
    rcases cZ10 ho with rfl | rfl | rfl | rfl | rfl | rfl | rfl | rfl | rfl | rfl <;> cases ho
    · exact t_load (show aZ.eval (.tmp 4) = .pointer (some ⟨w.heap.size, 0, none⟩) from (hF.out 4 (by decide)).trans rfl) hM.ks.1.2 Try.underlying25 info_api_Nat hF hS rfl rfl rfl rfl rfl (by decide) (Jm hM hG hO hN)
    · exact t_load (show aZ.eval (.tmp 5) = .pointer (some ⟨w.heap.size + 1, 0, none⟩) from (hF.out 5 (by decide)).trans rfl) hM.ks.2.1.2 Try.underlying25 info_api_Nat hF hS rfl rfl rfl rfl rfl (by decide) (Jm hM hG hO hN)
    · exact t_load (show aZ.eval (.tmp 6) = .pointer (some ⟨w.heap.size + 1 + 1, 0, none⟩) from (hF.out 6 (by decide)).trans rfl) hM.ks.2.2.1.2 Try.underlying25 info_api_Nat hF hS rfl rfl rfl rfl rfl (by decide) (Jm hM hG hO hN)
    · exact t_call (vs := [NV a, NV b, NV m]) (by show [aZ.eval (.tmp 47), aZ.eval (.tmp 48), aZ.eval (.tmp 49)] = _; rw [(ve 47 hV (hG.1 (dd 0 hdep))), (ve 48 hV (hG.2.1 (dd 1 hdep))), (ve 49 hV (hG.2.2.1 (dd 2 hdep)))]) ent_seneschalref02_Sub (xSub a b m uZ ha hb hm h) hF hS rfl rfl rfl rfl (by decide) (fun _ hB => (Jm (hM.call hB) hG hO hN))
    · exact t_move (ve 50 hV (hG.2.2.2.1 (dd 3 hdep))) hF hS rfl rfl rfl rfl (by decide) (Jm hM hG hO hN)
    · exact t_extract (ve 46 hV (hG.2.2.2.2.1 (dd 4 hdep))) hF hS rfl rfl rfl rfl rfl (by decide) (Jm hM hG hO hN)
    · exact t_extract (ve 46 hV (hG.2.2.2.2.1 (dd 4 hdep))) hF hS rfl rfl rfl rfl rfl (by decide) (Jm hM hG hO hN)
    · have q1 : fZ 8 = false := Os.not (hO.1) hfi
      exact t_alloc (al_api_Nat uZ) hF hS rfl rfl rfl rfl (by decide) ⟨MR.newF 0 hM rfl hfi q1, Gs.other rfl hG, hO.keep rfl, Ns.step hN rfl⟩
    · exact t_storeN 0 hM rfl (dd 7 hdep) hfi (hV 15 (by decide)) (ve 51 hV (hG.2.2.2.2.2.1 (dd 5 hdep))) rfl info_api_Nat rfl hF rfl rfl rfl rfl (fun _ h => ⟨h, Gs.idle rfl hG, ⟨fun _ => (dd 7 hdep :), trivial⟩, Ns.idle hN⟩)
    · exact t_assign (ve 52 hV (hG.2.2.2.2.2.2.1 (dd 6 hdep))) hF hS rfl rfl rfl rfl (by decide) (Jm hM hG hO hN)
  rintro fZ tZ u4 ⟨hM, hG, hO, hN⟩ hall
  obtain ⟨e47, e48, e49, e50, e46, e51, e52, e16, -⟩ := Gs.all 10 hall hG rfl
  obtain ⟨b4_7, ee15, pb4_7, lb4_7, kb4_7⟩ := hM.nw.1 (hall 7 (by decide))
  have e15 : tZ 15 = .pointer (some ⟨b4_7, 0, none⟩) := ee15
  clear ee15
  have Kb4_7 : CV u4 b4_7 (LN ((a - b) % m)) := by
    have h1 : CV u4 b4_7 (bif fZ 8 then LN ((a - b) % m) else L0s) := kb4_7
    rw [hall 8 (by decide)] at h1; exact h1
  clear kb4_7
  have HB4 : Below w.heap.size w u4 := hM.bel
  have sz4 : u3.heap.size ≤ u4.heap.size := hM.sz
  obtain ⟨⟨l4p0, K4p0⟩, ⟨l4p1, K4p1⟩, ⟨l4p2, K4p2⟩, ⟨l4p3, K4p3⟩, ⟨l4n1_7, K4n1_7⟩, ⟨l4n2_7, K4n2_7⟩, ⟨l4n3_7, K4n3_7⟩, -⟩ := hM.ks.up hM.sz
  dsimp only at l4p0 K4p0 l4p1 K4p1 l4p2 K4p2 l4p3 K4p3 l4n1_7 K4n1_7 l4n2_7 K4n2_7 l4n3_7 K4n3_7
  simp only [ovr, List.set_cons_zero, List.set_cons_succ, e47, e48, e49, e50, e46, e51, e52, e16, e15]
  clear hM hG hO hN hall e47 e48 e49 e50 e46 e51 e52 e16 e15 K3n1_7 K3n2_7 K3p0 K3p1 K3p2 K3p3 Kb3_7 HB3
  clear tZ
  go_upto_region 5 with fail
  refine region_plain [54, 55, 56, 57, 53, 58, 59, 17, 18] (fun fZ tZ uZ => MR w.heap.size w (u4.heap.size) [(w.heap.size, LN a), (w.heap.size + 1, LN b), (w.heap.size + 1 + 1, LN m), (w.heap.size + 1 + 1 + 1, LW n), (b1_7, LN ((a + b) % m)), (b2_7, LN ((a + b) % m)), (b3_7, LN ((a - b) % m)), (b4_7, LN ((a - b) % m))] [] [(fZ 7, fZ 8, tZ 17, L0s, LN (a * b % m))] uZ ∧ Gs fZ tZ [(0, 54, NV a), (1, 55, NV b), (2, 56, NV m), (3, 57, .tuple #[NV (a * b % m), .int .i64 0]), (4, 53, .tuple #[NV (a * b % m), .int .i64 0]), (5, 58, NV (a * b % m)), (6, 59, .int .i64 0), (9, 18, .int .i64 0)] ∧ Os fZ [(8, 7)] ∧ Ns fZ tZ []) (by kernel_rfl) ?_ ?_ ?_
  · exact ⟨{ bel := HB4, lo := HB4.size, sz := Nat.le_refl _, ks := ⟨⟨l4p0, K4p0⟩, ⟨l4p1, K4p1⟩, ⟨l4p2, K4p2⟩, ⟨l4p3, K4p3⟩, ⟨l4n1_7, K4n1_7⟩, ⟨l4n2_7, K4n2_7⟩, ⟨l4n3_7, K4n3_7⟩, ⟨lb4_7, Kb4_7⟩, trivial⟩, ex := trivial, nw := ⟨fun e => (by cases e), trivial⟩, nd := ⟨fun e => (by cases e), trivial⟩ }, Gs.none _ _, Os.none _, trivial⟩
  · rintro fZ tZ uZ iZ oZ aZ hF ⟨hM, hG, hO, hN⟩ ho hfi hdep
    obtain ⟨hS, hV⟩ := hF.two 120 (by decide) rfl (by decide)
    rcases cZ10 ho with rfl | rfl | rfl | rfl | rfl | rfl | rfl | rfl | rfl | rfl <;> cases ho
    · exact t_load (show aZ.eval (.tmp 4) = .pointer (some ⟨w.heap.size, 0, none⟩) from (hF.out 4 (by decide)).trans rfl) hM.ks.1.2 Try.underlying25 info_api_Nat hF hS rfl rfl rfl rfl rfl (by decide) (Jm hM hG hO hN)
    · exact t_load (show aZ.eval (.tmp 5) = .pointer (some ⟨w.heap.size + 1, 0, none⟩) from (hF.out 5 (by decide)).trans rfl) hM.ks.2.1.2 Try.underlying25 info_api_Nat hF hS rfl rfl rfl rfl rfl (by decide) (Jm hM hG hO hN)
    · exact t_load (show aZ.eval (.tmp 6) = .pointer (some ⟨w.heap.size + 1 + 1, 0, none⟩) from (hF.out 6 (by decide)).trans rfl) hM.ks.2.2.1.2 Try.underlying25 info_api_Nat hF hS rfl rfl rfl rfl rfl (by decide) (Jm hM hG hO hN)
    · exact t_call (vs := [NV a, NV b, NV m]) (by show [aZ.eval (.tmp 54), aZ.eval (.tmp 55), aZ.eval (.tmp 56)] = _; rw [(ve 54 hV (hG.1 (dd 0 hdep))), (ve 55 hV (hG.2.1 (dd 1 hdep))), (ve 56 hV (hG.2.2.1 (dd 2 hdep)))]) ent_mod_Mul (mMul a b m uZ ha hb hm h) hF hS rfl rfl rfl rfl (by decide) (fun _ hB => (Jm (hM.call hB) hG hO hN))
    · exact t_move (ve 57 hV (hG.2.2.2.1 (dd 3 hdep))) hF hS rfl rfl rfl rfl (by decide) (Jm hM hG hO hN)
    · exact t_extract (ve 53 hV (hG.2.2.2.2.1 (dd 4 hdep))) hF hS rfl rfl rfl rfl rfl (by decide) (Jm hM hG hO hN)
    · exact t_extract (ve 53 hV (hG.2.2.2.2.1 (dd 4 hdep))) hF hS rfl rfl rfl rfl rfl (by decide) (Jm hM hG hO hN)
    · have q1 : fZ 8 = false := Os.not (hO.1) hfi
      exact t_alloc (al_api_Nat uZ) hF hS rfl rfl rfl rfl (by decide) ⟨MR.newF 0 hM rfl hfi q1, Gs.other rfl hG, hO.keep rfl, Ns.step hN rfl⟩
    · exact t_storeN 0 hM rfl (dd 7 hdep) hfi (hV 17 (by decide)) (ve 58 hV (hG.2.2.2.2.2.1 (dd 5 hdep))) rfl info_api_Nat rfl hF rfl rfl rfl rfl (fun _ h => ⟨h, Gs.idle rfl hG, ⟨fun _ => (dd 7 hdep :), trivial⟩, Ns.idle hN⟩)
    · exact t_assign (ve 59 hV (hG.2.2.2.2.2.2.1 (dd 6 hdep))) hF hS rfl rfl rfl rfl (by decide) (Jm hM hG hO hN)
  rintro fZ tZ u5 ⟨hM, hG, hO, hN⟩ hall
  obtain ⟨e54, e55, e56, e57, e53, e58, e59, e18, -⟩ := Gs.all 10 hall hG rfl
  obtain ⟨b5_7, ee17, pb5_7, lb5_7, kb5_7⟩ := hM.nw.1 (hall 7 (by decide))
  have e17 : tZ 17 = .pointer (some ⟨b5_7, 0, none⟩) := ee17
  clear ee17
  have Kb5_7 : CV u5 b5_7 (LN (a * b % m)) := by
    have h1 : CV u5 b5_7 (bif fZ 8 then LN (a * b % m) else L0s) := kb5_7
    rw [hall 8 (by decide)] at h1; exact h1
  clear kb5_7
  have HB5 : Below w.heap.size w u5 := hM.bel
  have sz5 : u4.heap.size ≤ u5.heap.size := hM.sz
  obtain ⟨⟨l5p0, K5p0⟩, ⟨l5p1, K5p1⟩, ⟨l5p2, K5p2⟩, ⟨l5p3, K5p3⟩, ⟨l5n1_7, K5n1_7⟩, ⟨l5n2_7, K5n2_7⟩, ⟨l5n3_7, K5n3_7⟩, ⟨l5n4_7, K5n4_7⟩, -⟩ := hM.ks.up hM.sz
  dsimp only at l5p0 K5p0 l5p1 K5p1 l5p2 K5p2 l5p3 K5p3 l5n1_7 K5n1_7 l5n2_7 K5n2_7 l5n3_7 K5n3_7 l5n4_7 K5n4_7
  simp only [ovr, List.set_cons_zero, List.set_cons_succ, e54, e55, e56, e57, e53, e58, e59, e18, e17]
  clear hM hG hO hN hall e54 e55 e56 e57 e53 e58 e59 e18 e17 K4n1_7 K4n2_7 K4n3_7 K4p0 K4p1 K4p2 K4p3 Kb4_7 HB4
  clear tZ
  go_upto_region 6 with fail
  refine region_plain [61, 62, 63, 64, 60, 65, 66, 19, 20] (fun fZ tZ uZ => MR w.heap.size w (u5.heap.size) [(w.heap.size, LN a), (w.heap.size + 1, LN b), (w.heap.size + 1 + 1, LN m), (w.heap.size + 1 + 1 + 1, LW n), (b1_7, LN ((a + b) % m)), (b2_7, LN ((a + b) % m)), (b3_7, LN ((a - b) % m)), (b4_7, LN ((a - b) % m)), (b5_7, LN (a * b % m))] [] [(fZ 7, fZ 8, tZ 19, L0s, LN (a * b % m))] uZ ∧ Gs fZ tZ [(0, 61, NV a), (1, 62, NV b), (2, 63, NV m), (3, 64, .tuple #[NV (a * b % m), .int .i64 0]), (4, 60, .tuple #[NV (a * b % m), .int .i64 0]), (5, 65, NV (a * b % m)), (6, 66, .int .i64 0), (9, 20, .int .i64 0)] ∧ Os fZ [(8, 7)] ∧ Ns fZ tZ []) (by kernel_rfl) ?_ ?_ ?_
  · exact ⟨{ bel := HB5, lo := HB5.size, sz := Nat.le_refl _, ks := ⟨⟨l5p0, K5p0⟩, ⟨l5p1, K5p1⟩, ⟨l5p2, K5p2⟩, ⟨l5p3, K5p3⟩, ⟨l5n1_7, K5n1_7⟩, ⟨l5n2_7, K5n2_7⟩, ⟨l5n3_7, K5n3_7⟩, ⟨l5n4_7, K5n4_7⟩, ⟨lb5_7, Kb5_7⟩, trivial⟩, ex := trivial, nw := ⟨fun e => (by cases e), trivial⟩, nd := ⟨fun e => (by cases e), trivial⟩ }, Gs.none _ _, Os.none _, trivial⟩
  · rintro fZ tZ uZ iZ oZ aZ hF ⟨hM, hG, hO, hN⟩ ho hfi hdep
    obtain ⟨hS, hV⟩ := hF.two 120 (by decide) rfl (by decide)
    rcases cZ10 ho with rfl | rfl | rfl | rfl | rfl | rfl | rfl | rfl | rfl | rfl <;> cases ho
    · exact t_load (show aZ.eval (.tmp 4) = .pointer (some ⟨w.heap.size, 0, none⟩) from (hF.out 4 (by decide)).trans rfl) hM.ks.1.2 Try.underlying25 info_api_Nat hF hS rfl rfl rfl rfl rfl (by decide) (Jm hM hG hO hN)
    · exact t_load (show aZ.eval (.tmp 5) = .pointer (some ⟨w.heap.size + 1, 0, none⟩) from (hF.out 5 (by decide)).trans rfl) hM.ks.2.1.2 Try.underlying25 info_api_Nat hF hS rfl rfl rfl rfl rfl (by decide) (Jm hM hG hO hN)
    · exact t_load (show aZ.eval (.tmp 6) = .pointer (some ⟨w.heap.size + 1 + 1, 0, none⟩) from (hF.out 6 (by decide)).trans rfl) hM.ks.2.2.1.2 Try.underlying25 info_api_Nat hF hS rfl rfl rfl rfl rfl (by decide) (Jm hM hG hO hN)
    · exact t_call (vs := [NV a, NV b, NV m]) (by show [aZ.eval (.tmp 61), aZ.eval (.tmp 62), aZ.eval (.tmp 63)] = _; rw [(ve 61 hV (hG.1 (dd 0 hdep))), (ve 62 hV (hG.2.1 (dd 1 hdep))), (ve 63 hV (hG.2.2.1 (dd 2 hdep)))]) ent_seneschalref02_Mul (xMul a b m uZ ha hb hm h) hF hS rfl rfl rfl rfl (by decide) (fun _ hB => (Jm (hM.call hB) hG hO hN))
    · exact t_move (ve 64 hV (hG.2.2.2.1 (dd 3 hdep))) hF hS rfl rfl rfl rfl (by decide) (Jm hM hG hO hN)
    · exact t_extract (ve 60 hV (hG.2.2.2.2.1 (dd 4 hdep))) hF hS rfl rfl rfl rfl rfl (by decide) (Jm hM hG hO hN)
    · exact t_extract (ve 60 hV (hG.2.2.2.2.1 (dd 4 hdep))) hF hS rfl rfl rfl rfl rfl (by decide) (Jm hM hG hO hN)
    · have q1 : fZ 8 = false := Os.not (hO.1) hfi
      exact t_alloc (al_api_Nat uZ) hF hS rfl rfl rfl rfl (by decide) ⟨MR.newF 0 hM rfl hfi q1, Gs.other rfl hG, hO.keep rfl, Ns.step hN rfl⟩
    · exact t_storeN 0 hM rfl (dd 7 hdep) hfi (hV 19 (by decide)) (ve 65 hV (hG.2.2.2.2.2.1 (dd 5 hdep))) rfl info_api_Nat rfl hF rfl rfl rfl rfl (fun _ h => ⟨h, Gs.idle rfl hG, ⟨fun _ => (dd 7 hdep :), trivial⟩, Ns.idle hN⟩)
    · exact t_assign (ve 66 hV (hG.2.2.2.2.2.2.1 (dd 6 hdep))) hF hS rfl rfl rfl rfl (by decide) (Jm hM hG hO hN)
  rintro fZ tZ u6 ⟨hM, hG, hO, hN⟩ hall
  obtain ⟨e61, e62, e63, e64, e60, e65, e66, e20, -⟩ := Gs.all 10 hall hG rfl
  obtain ⟨b6_7, ee19, pb6_7, lb6_7, kb6_7⟩ := hM.nw.1 (hall 7 (by decide))
  have e19 : tZ 19 = .pointer (some ⟨b6_7, 0, none⟩) := ee19
  clear ee19
  have Kb6_7 : CV u6 b6_7 (LN (a * b % m)) := by
    have h1 : CV u6 b6_7 (bif fZ 8 then LN (a * b % m) else L0s) := kb6_7
    rw [hall 8 (by decide)] at h1; exact h1
  clear kb6_7
  have HB6 : Below w.heap.size w u6 := hM.bel
  have sz6 : u5.heap.size ≤ u6.heap.size := hM.sz
  obtain ⟨-, -, ⟨l6p2, K6p2⟩, ⟨l6p3, K6p3⟩, ⟨l6n1_7, K6n1_7⟩, ⟨l6n2_7, K6n2_7⟩, ⟨l6n3_7, K6n3_7⟩, ⟨l6n4_7, K6n4_7⟩, ⟨l6n5_7, K6n5_7⟩, -⟩ := hM.ks.up hM.sz
  dsimp only at l6p2 K6p2 l6p3 K6p3 l6n1_7 K6n1_7 l6n2_7 K6n2_7 l6n3_7 K6n3_7 l6n4_7 K6n4_7 l6n5_7 K6n5_7
  simp only [ovr, List.set_cons_zero, List.set_cons_succ, e61, e62, e63, e64, e60, e65, e66, e20, e19]
  clear hM hG hO hN hall e61 e62 e63 e64 e60 e65 e66 e20 e19 K5n1_7 K5n2_7 K5n3_7 K5n4_7 K5p0 K5p1 K5p2 K5p3 Kb5_7 HB5
  clear tZ
  go_upto_region 7 with fail
  refine region_plain [68, 69, 70, 67, 71, 72, 21, 22] (fun fZ tZ uZ => MR w.heap.size w (u6.heap.size) [(w.heap.size + 1 + 1, LN m), (w.heap.size + 1 + 1 + 1, LW n), (b1_7, LN ((a + b) % m)), (b2_7, LN ((a + b) % m)), (b3_7, LN ((a - b) % m)), (b4_7, LN ((a - b) % m)), (b5_7, LN (a * b % m)), (b6_7, LN (a * b % m))] [] [(fZ 6, fZ 7, tZ 21, L0s, LN (n % m))] uZ ∧ Gs fZ tZ [(0, 68, WV n), (1, 69, NV m), (2, 70, .tuple #[NV (n % m), .int .i64 0]), (3, 67, .tuple #[NV (n % m), .int .i64 0]), (4, 71, NV (n % m)), (5, 72, .int .i64 0), (8, 22, .int .i64 0)] ∧ Os fZ [(7, 6)] ∧ Ns fZ tZ []) (by kernel_rfl) ?_ ?_ ?_
  · exact ⟨{ bel := HB6, lo := HB6.size, sz := Nat.le_refl _, ks := ⟨⟨l6p2, K6p2⟩, ⟨l6p3, K6p3⟩, ⟨l6n1_7, K6n1_7⟩, ⟨l6n2_7, K6n2_7⟩, ⟨l6n3_7, K6n3_7⟩, ⟨l6n4_7, K6n4_7⟩, ⟨l6n5_7, K6n5_7⟩, ⟨lb6_7, Kb6_7⟩, trivial⟩, ex := trivial, nw := ⟨fun e => (by cases e), trivial⟩, nd := ⟨fun e => (by cases e), trivial⟩ }, Gs.none _ _, Os.none _, trivial⟩
  · rintro fZ tZ uZ iZ oZ aZ hF ⟨hM, hG, hO, hN⟩ ho hfi hdep
    obtain ⟨hS, hV⟩ := hF.two 120 (by decide) rfl (by decide)
    rcases cZ9 ho with rfl | rfl | rfl | rfl | rfl | rfl | rfl | rfl | rfl <;> cases ho
    · exact t_load (show aZ.eval (.tmp 7) = .pointer (some ⟨w.heap.size + 1 + 1 + 1, 0, none⟩) from (hF.out 7 (by decide)).trans rfl) hM.ks.2.1.2 Try.underlying37 info_api_Wide hF hS rfl rfl rfl rfl rfl (by decide) (Jm hM hG hO hN)
    · exact t_load (show aZ.eval (.tmp 6) = .pointer (some ⟨w.heap.size + 1 + 1, 0, none⟩) from (hF.out 6 (by decide)).trans rfl) hM.ks.1.2 Try.underlying25 info_api_Nat hF hS rfl rfl rfl rfl rfl (by decide) (Jm hM hG hO hN)
    · exact t_call (vs := [WV n, NV m]) (by show [aZ.eval (.tmp 68), aZ.eval (.tmp 69)] = _; rw [(ve 68 hV (hG.1 (dd 0 hdep))), (ve 69 hV (hG.2.1 (dd 1 hdep)))]) ent_mod_Reduce (mReduce n m uZ hn hm h) hF hS rfl rfl rfl rfl (by decide) (fun _ hB => (Jm (hM.call hB) hG hO hN))
    · exact t_move (ve 70 hV (hG.2.2.1 (dd 2 hdep))) hF hS rfl rfl rfl rfl (by decide) (Jm hM hG hO hN)
    · exact t_extract (ve 67 hV (hG.2.2.2.1 (dd 3 hdep))) hF hS rfl rfl rfl rfl rfl (by decide) (Jm hM hG hO hN)
    · exact t_extract (ve 67 hV (hG.2.2.2.1 (dd 3 hdep))) hF hS rfl rfl rfl rfl rfl (by decide) (Jm hM hG hO hN)
    · have q1 : fZ 7 = false := Os.not (hO.1) hfi
      exact t_alloc (al_api_Nat uZ) hF hS rfl rfl rfl rfl (by decide) ⟨MR.newF 0 hM rfl hfi q1, Gs.other rfl hG, hO.keep rfl, Ns.step hN rfl⟩
    · exact t_storeN 0 hM rfl (dd 6 hdep) hfi (hV 21 (by decide)) (ve 71 hV (hG.2.2.2.2.1 (dd 4 hdep))) rfl info_api_Nat rfl hF rfl rfl rfl rfl (fun _ h => ⟨h, Gs.idle rfl hG, ⟨fun _ => (dd 6 hdep :), trivial⟩, Ns.idle hN⟩)
    · exact t_assign (ve 72 hV (hG.2.2.2.2.2.1 (dd 5 hdep))) hF hS rfl rfl rfl rfl (by decide) (Jm hM hG hO hN)
  rintro fZ tZ u7 ⟨hM, hG, hO, hN⟩ hall
  obtain ⟨e68, e69, e70, e67, e71, e72, e22, -⟩ := Gs.all 9 hall hG rfl
  obtain ⟨b7_6, ee21, pb7_6, lb7_6, kb7_6⟩ := hM.nw.1 (hall 6 (by decide))
  have e21 : tZ 21 = .pointer (some ⟨b7_6, 0, none⟩) := ee21
  clear ee21
  have Kb7_6 : CV u7 b7_6 (LN (n % m)) := by
    have h1 : CV u7 b7_6 (bif fZ 7 then LN (n % m) else L0s) := kb7_6
    rw [hall 7 (by decide)] at h1; exact h1
  clear kb7_6
  have HB7 : Below w.heap.size w u7 := hM.bel
  have sz7 : u6.heap.size ≤ u7.heap.size := hM.sz
  obtain ⟨⟨l7p2, K7p2⟩, ⟨l7p3, K7p3⟩, ⟨l7n1_7, K7n1_7⟩, ⟨l7n2_7, K7n2_7⟩, ⟨l7n3_7, K7n3_7⟩, ⟨l7n4_7, K7n4_7⟩, ⟨l7n5_7, K7n5_7⟩, ⟨l7n6_7, K7n6_7⟩, -⟩ := hM.ks.up hM.sz
  dsimp only at l7p2 K7p2 l7p3 K7p3 l7n1_7 K7n1_7 l7n2_7 K7n2_7 l7n3_7 K7n3_7 l7n4_7 K7n4_7 l7n5_7 K7n5_7 l7n6_7 K7n6_7
  simp only [ovr, List.set_cons_zero, List.set_cons_succ, e68, e69, e70, e67, e71, e72, e22, e21]
  clear hM hG hO hN hall e68 e69 e70 e67 e71 e72 e22 e21 K6n1_7 K6n2_7 K6n3_7 K6n4_7 K6n5_7 K6p2 K6p3 Kb6_7 HB6
  clear tZ
  go_upto_region 8 with fail
  refine region_plain [74, 75, 76, 73, 77, 78, 23, 24] (fun fZ tZ uZ => MR w.heap.size w (u7.heap.size) [(w.heap.size + 1 + 1, LN m), (w.heap.size + 1 + 1 + 1, LW n), (b1_7, LN ((a + b) % m)), (b2_7, LN ((a + b) % m)), (b3_7, LN ((a - b) % m)), (b4_7, LN ((a - b) % m)), (b5_7, LN (a * b % m)), (b6_7, LN (a * b % m)), (b7_6, LN (n % m))] [] [(fZ 6, fZ 7, tZ 23, L0s, LN (n % m))] uZ ∧ Gs fZ tZ [(0, 74, WV n), (1, 75, NV m), (2, 76, .tuple #[NV (n % m), .int .i64 0]), (3, 73, .tuple #[NV (n % m), .int .i64 0]), (4, 77, NV (n % m)), (5, 78, .int .i64 0), (8, 24, .int .i64 0)] ∧ Os fZ [(7, 6)] ∧ Ns fZ tZ []) (by kernel_rfl) ?_ ?_ ?_
  · exact ⟨{ bel := HB7, lo := HB7.size, sz := Nat.le_refl _, ks := ⟨⟨l7p2, K7p2⟩, ⟨l7p3, K7p3⟩, ⟨l7n1_7, K7n1_7⟩, ⟨l7n2_7, K7n2_7⟩, ⟨l7n3_7, K7n3_7⟩, ⟨l7n4_7, K7n4_7⟩, ⟨l7n5_7, K7n5_7⟩, ⟨l7n6_7, K7n6_7⟩, ⟨lb7_6, Kb7_6⟩, trivial⟩, ex := trivial, nw := ⟨fun e => (by cases e), trivial⟩, nd := ⟨fun e => (by cases e), trivial⟩ }, Gs.none _ _, Os.none _, trivial⟩
  · rintro fZ tZ uZ iZ oZ aZ hF ⟨hM, hG, hO, hN⟩ ho hfi hdep
    obtain ⟨hS, hV⟩ := hF.two 120 (by decide) rfl (by decide)
    rcases cZ9 ho with rfl | rfl | rfl | rfl | rfl | rfl | rfl | rfl | rfl <;> cases ho
    · exact t_load (show aZ.eval (.tmp 7) = .pointer (some ⟨w.heap.size + 1 + 1 + 1, 0, none⟩) from (hF.out 7 (by decide)).trans rfl) hM.ks.2.1.2 Try.underlying37 info_api_Wide hF hS rfl rfl rfl rfl rfl (by decide) (Jm hM hG hO hN)
    · exact t_load (show aZ.eval (.tmp 6) = .pointer (some ⟨w.heap.size + 1 + 1, 0, none⟩) from (hF.out 6 (by decide)).trans rfl) hM.ks.1.2 Try.underlying25 info_api_Nat hF hS rfl rfl rfl rfl rfl (by decide) (Jm hM hG hO hN)
    · exact t_call (vs := [WV n, NV m]) (by show [aZ.eval (.tmp 74), aZ.eval (.tmp 75)] = _; rw [(ve 74 hV (hG.1 (dd 0 hdep))), (ve 75 hV (hG.2.1 (dd 1 hdep)))]) ent_seneschalref02_Reduce (xReduce n m uZ hn hm h) hF hS rfl rfl rfl rfl (by decide) (fun _ hB => (Jm (hM.call hB) hG hO hN))
    · exact t_move (ve 76 hV (hG.2.2.1 (dd 2 hdep))) hF hS rfl rfl rfl rfl (by decide) (Jm hM hG hO hN)
    · exact t_extract (ve 73 hV (hG.2.2.2.1 (dd 3 hdep))) hF hS rfl rfl rfl rfl rfl (by decide) (Jm hM hG hO hN)
    · exact t_extract (ve 73 hV (hG.2.2.2.1 (dd 3 hdep))) hF hS rfl rfl rfl rfl rfl (by decide) (Jm hM hG hO hN)
    · have q1 : fZ 7 = false := Os.not (hO.1) hfi
      exact t_alloc (al_api_Nat uZ) hF hS rfl rfl rfl rfl (by decide) ⟨MR.newF 0 hM rfl hfi q1, Gs.other rfl hG, hO.keep rfl, Ns.step hN rfl⟩
    · exact t_storeN 0 hM rfl (dd 6 hdep) hfi (hV 23 (by decide)) (ve 77 hV (hG.2.2.2.2.1 (dd 4 hdep))) rfl info_api_Nat rfl hF rfl rfl rfl rfl (fun _ h => ⟨h, Gs.idle rfl hG, ⟨fun _ => (dd 6 hdep :), trivial⟩, Ns.idle hN⟩)
    · exact t_assign (ve 78 hV (hG.2.2.2.2.2.1 (dd 5 hdep))) hF hS rfl rfl rfl rfl (by decide) (Jm hM hG hO hN)
  rintro fZ tZ u8 ⟨hM, hG, hO, hN⟩ hall
  obtain ⟨e74, e75, e76, e73, e77, e78, e24, -⟩ := Gs.all 9 hall hG rfl
  obtain ⟨b8_6, ee23, pb8_6, lb8_6, kb8_6⟩ := hM.nw.1 (hall 6 (by decide))
  have e23 : tZ 23 = .pointer (some ⟨b8_6, 0, none⟩) := ee23
  clear ee23
  have Kb8_6 : CV u8 b8_6 (LN (n % m)) := by
    have h1 : CV u8 b8_6 (bif fZ 7 then LN (n % m) else L0s) := kb8_6
    rw [hall 7 (by decide)] at h1; exact h1
  clear kb8_6
  have HB8 : Below w.heap.size w u8 := hM.bel
  have sz8 : u7.heap.size ≤ u8.heap.size := hM.sz
  obtain ⟨-, -, ⟨l8n1_7, K8n1_7⟩, ⟨l8n2_7, K8n2_7⟩, ⟨l8n3_7, K8n3_7⟩, ⟨l8n4_7, K8n4_7⟩, ⟨l8n5_7, K8n5_7⟩, ⟨l8n6_7, K8n6_7⟩, ⟨l8n7_6, K8n7_6⟩, -⟩ := hM.ks.up hM.sz
  dsimp only at l8n1_7 K8n1_7 l8n2_7 K8n2_7 l8n3_7 K8n3_7 l8n4_7 K8n4_7 l8n5_7 K8n5_7 l8n6_7 K8n6_7 l8n7_6 K8n7_6
  simp only [ovr, List.set_cons_zero, List.set_cons_succ, e74, e75, e76, e73, e77, e78, e24, e23]
  clear hM hG hO hN hall e74 e75 e76 e73 e77 e78 e24 e23 K7n1_7 K7n2_7 K7n3_7 K7n4_7 K7n5_7 K7n6_7 K7p2 K7p3 Kb7_6 HB7
  clear tZ
  go_upto_region 9 with fail
  refine region_plain [79, 80, 81, 82, 83, 84, 85, 86, 87, 88, 89, 90, 91, 92, 93, 94, 95, 96, 97, 98, 99, 100, 101, 102, 103, 104, 105, 106, 107, 108, 109, 110, 111, 112, 113, 114, 115, 116, 117, 118, 119, 8] (fun fZ tZ uZ => MR w.heap.size w (u8.heap.size) [(b1_7, LN ((a + b) % m)), (b2_7, LN ((a + b) % m)), (b3_7, LN ((a - b) % m)), (b4_7, LN ((a - b) % m)), (b5_7, LN (a * b % m)), (b6_7, LN (a * b % m)), (b7_6, LN (n % m)), (b8_6, LN (n % m))] [] [] uZ ∧ Gs fZ tZ [(0, 79, NV ((a + b) % m)), (1, 80, NV ((a + b) % m)), (2, 81, .bool true), (3, 82, .bool true), (4, 83, .int .i64 0), (5, 84, .int .i64 0), (6, 85, .bool true), (7, 86, .bool true), (8, 87, .bool true), (9, 88, NV ((a - b) % m)), (10, 89, NV ((a - b) % m)), (11, 90, .bool true), (12, 91, .bool true), (13, 92, .bool true), (14, 93, .int .i64 0), (15, 94, .int .i64 0), (16, 95, .bool true), (17, 96, .bool true), (18, 97, .bool true), (19, 98, NV (a * b % m)), (20, 99, NV (a * b % m)), (21, 100, .bool true), (22, 101, .bool true), (23, 102, .bool true), (24, 103, .int .i64 0), (25, 104, .int .i64 0), (26, 105, .bool true), (27, 106, .bool true), (28, 107, .bool true), (29, 108, NV (n % m)), (30, 109, NV (n % m)), (31, 110, .bool true), (32, 111, .bool true), (33, 112, .bool true), (34, 113, .int .i64 0), (35, 114, .int .i64 0), (36, 115, .bool true), (37, 116, .bool true), (38, 117, .bool true), (39, 118, .bool true), (40, 119, .bool true), (41, 8, .bool true)] ∧ Os fZ [] ∧ Ns fZ tZ []) (by kernel_rfl) ?_ ?_ ?_
  · exact ⟨{ bel := HB8, lo := HB8.size, sz := Nat.le_refl _, ks := ⟨⟨l8n1_7, K8n1_7⟩, ⟨l8n2_7, K8n2_7⟩, ⟨l8n3_7, K8n3_7⟩, ⟨l8n4_7, K8n4_7⟩, ⟨l8n5_7, K8n5_7⟩, ⟨l8n6_7, K8n6_7⟩, ⟨l8n7_6, K8n7_6⟩, ⟨lb8_6, Kb8_6⟩, trivial⟩, ex := trivial, nw := trivial, nd := trivial }, Gs.none _ _, Os.none _, trivial⟩
  · rintro fZ tZ uZ iZ oZ aZ hF ⟨hM, hG, hO, hN⟩ ho hfi hdep
    obtain ⟨hS, hV⟩ := hF.two 120 (by decide) rfl (by decide)
    rcases cZ42 ho with rfl | rfl | rfl | rfl | rfl | rfl | rfl | rfl | rfl | rfl | rfl | rfl | rfl | rfl | rfl | rfl | rfl | rfl | rfl | rfl | rfl | rfl | rfl | rfl | rfl | rfl | rfl | rfl | rfl | rfl | rfl | rfl | rfl | rfl | rfl | rfl | rfl | rfl | rfl | rfl | rfl | rfl <;> cases ho
    · exact t_load (show aZ.eval (.tmp 9) = .pointer (some ⟨b1_7, 0, none⟩) from (hF.out 9 (by decide)).trans rfl) hM.ks.1.2 Try.underlying25 info_api_Nat hF hS rfl rfl rfl rfl rfl (by decide) (Jt hM hG hN)
    · exact t_load (show aZ.eval (.tmp 11) = .pointer (some ⟨b2_7, 0, none⟩) from (hF.out 11 (by decide)).trans rfl) hM.ks.2.1.2 Try.underlying25 info_api_Nat hF hS rfl rfl rfl rfl rfl (by decide) (Jt hM hG hN)
    · refine op_plain rfl rfl (fun K hK => ?_)
      refine wp_bin rfl (ve 79 hV (hG.1 (dd 0 hdep))) (ve 80 hV (hG.2.1 (dd 1 hdep))) (eql_same _ _ ((a + b) % m) uZ) ?_
      exact tell hK hF hS (by decide) (Jt hM hG hN)
    · exact t_move (ve 81 hV (hG.2.2.1 (dd 2 hdep))) hF hS rfl rfl rfl rfl (by decide) (Jt hM hG hN)
    · refine wpOp_step rfl (fun K hK => ?_)
      have yg : fZ 3 = true := hdep ⟨3, .guard⟩ (by simp) rfl
      have eg : tZ 82 = .bool true := hG.2.2.2.1 yg
      rw [if_pos (wanted_of rfl rfl (show aZ.tmps[82]? = some (.bool true) by rw [hF.tmps (N := 120) (by decide) rfl 82 (by decide) (by decide), eg]))]
      refine wp_move rfl (show aZ.eval (.tmp 10) = .int .i64 0 from (hF.out 10 (by decide)).trans rfl) ?_
      exact tell hK hF hS (by decide) (Jt hM hG hN)
    · refine wpOp_step rfl (fun K hK => ?_)
      have yg : fZ 3 = true := hdep ⟨3, .guard⟩ (by simp) rfl
      have eg : tZ 82 = .bool true := hG.2.2.2.1 yg
      rw [if_pos (wanted_of rfl rfl (show aZ.tmps[82]? = some (.bool true) by rw [hF.tmps (N := 120) (by decide) rfl 82 (by decide) (by decide), eg]))]
      refine wp_move rfl (show aZ.eval (.tmp 12) = .int .i64 0 from (hF.out 12 (by decide)).trans rfl) ?_
      exact tell hK hF hS (by decide) (Jt hM hG hN)
    · refine wpOp_step rfl (fun K hK => ?_)
      have yg : fZ 3 = true := hdep ⟨3, .guard⟩ (by simp) rfl
      have eg : tZ 82 = .bool true := hG.2.2.2.1 yg
      rw [if_pos (wanted_of rfl rfl (show aZ.tmps[82]? = some (.bool true) by rw [hF.tmps (N := 120) (by decide) rfl 82 (by decide) (by decide), eg]))]
      refine wp_bin rfl (ve 83 hV (hG.2.2.2.2.1 (dd 4 hdep))) (ve 84 hV (hG.2.2.2.2.2.1 (dd 5 hdep))) (eql_i _ _ _ 0 0 _ uZ rfl) ?_
      exact tell hK hF hS (by decide) (Jt hM hG hN)
    · refine op_plain rfl rfl (fun K hK => ?_)
      refine wp_pick rfl (ve 82 hV (hG.2.2.2.1 (dd 3 hdep))) (b := true) ((if_pos rfl).trans (ve 85 hV (hG.2.2.2.2.2.2.1 (dd 6 hdep)))) ?_
      exact tell hK hF hS (by decide) (Jt hM hG hN)
    · exact t_move (ve 86 hV (hG.2.2.2.2.2.2.2.1 (dd 7 hdep))) hF hS rfl rfl rfl rfl (by decide) (Jt hM hG hN)
    · refine wpOp_step rfl (fun K hK => ?_)
      have yg : fZ 8 = true := hdep ⟨8, .guard⟩ (by simp) rfl
      have eg : tZ 87 = .bool true := hG.2.2.2.2.2.2.2.2.1 yg
      rw [if_pos (wanted_of rfl rfl (show aZ.tmps[87]? = some (.bool true) by rw [hF.tmps (N := 120) (by decide) rfl 87 (by decide) (by decide), eg]))]
      refine wp_load_mid 25 _ rfl _ 0 (show aZ.eval (.tmp 13) = .pointer (some ⟨b3_7, 0, none⟩) from (hF.out 13 (by decide)).trans rfl) _ _ (CV.range hM.ks.2.2.1.2) Try.underlying25 rfl info_api_Nat ?_
      exact tell hK hF hS (by decide) (Jt hM hG hN)
    · refine wpOp_step rfl (fun K hK => ?_)
      have yg : fZ 8 = true := hdep ⟨8, .guard⟩ (by simp) rfl
      have eg : tZ 87 = .bool true := hG.2.2.2.2.2.2.2.2.1 yg
      rw [if_pos (wanted_of rfl rfl (show aZ.tmps[87]? = some (.bool true) by rw [hF.tmps (N := 120) (by decide) rfl 87 (by decide) (by decide), eg]))]
      refine wp_load_mid 25 _ rfl _ 0 (show aZ.eval (.tmp 15) = .pointer (some ⟨b4_7, 0, none⟩) from (hF.out 15 (by decide)).trans rfl) _ _ (CV.range hM.ks.2.2.2.1.2) Try.underlying25 rfl info_api_Nat ?_
      exact tell hK hF hS (by decide) (Jt hM hG hN)
    · refine wpOp_step rfl (fun K hK => ?_)
      have yg : fZ 8 = true := hdep ⟨8, .guard⟩ (by simp) rfl
      have eg : tZ 87 = .bool true := hG.2.2.2.2.2.2.2.2.1 yg
      rw [if_pos (wanted_of rfl rfl (show aZ.tmps[87]? = some (.bool true) by rw [hF.tmps (N := 120) (by decide) rfl 87 (by decide) (by decide), eg]))]
      refine wp_bin rfl (ve 88 hV (hG.2.2.2.2.2.2.2.2.2.1 (dd 9 hdep))) (ve 89 hV (hG.2.2.2.2.2.2.2.2.2.2.1 (dd 10 hdep))) (eql_same _ _ ((a - b) % m) uZ) ?_
      exact tell hK hF hS (by decide) (Jt hM hG hN)
    · refine op_plain rfl rfl (fun K hK => ?_)
      refine wp_pick rfl (ve 87 hV (hG.2.2.2.2.2.2.2.2.1 (dd 8 hdep))) (b := true) ((if_pos rfl).trans (ve 90 hV (hG.2.2.2.2.2.2.2.2.2.2.2.1 (dd 11 hdep)))) ?_
      exact tell hK hF hS (by decide) (Jt hM hG hN)
    · exact t_move (ve 91 hV (hG.2.2.2.2.2.2.2.2.2.2.2.2.1 (dd 12 hdep))) hF hS rfl rfl rfl rfl (by decide) (Jt hM hG hN)
    · refine wpOp_step rfl (fun K hK => ?_)
      have yg : fZ 13 = true := hdep ⟨13, .guard⟩ (by simp) rfl
      have eg : tZ 92 = .bool true := hG.2.2.2.2.2.2.2.2.2.2.2.2.2.1 yg
      rw [if_pos (wanted_of rfl rfl (show aZ.tmps[92]? = some (.bool true) by rw [hF.tmps (N := 120) (by decide) rfl 92 (by decide) (by decide), eg]))]
      refine wp_move rfl (show aZ.eval (.tmp 14) = .int .i64 0 from (hF.out 14 (by decide)).trans rfl) ?_
      exact tell hK hF hS (by decide) (Jt hM hG hN)
    · refine wpOp_step rfl (fun K hK => ?_)
      have yg : fZ 13 = true := hdep ⟨13, .guard⟩ (by simp) rfl
      have eg : tZ 92 = .bool true := hG.2.2.2.2.2.2.2.2.2.2.2.2.2.1 yg
      rw [if_pos (wanted_of rfl rfl (show aZ.tmps[92]? = some (.bool true) by rw [hF.tmps (N := 120) (by decide) rfl 92 (by decide) (by decide), eg]))]
      refine wp_move rfl (show aZ.eval (.tmp 16) = .int .i64 0 from (hF.out 16 (by decide)).trans rfl) ?_
      exact tell hK hF hS (by decide) (Jt hM hG hN)
    · refine wpOp_step rfl (fun K hK => ?_)
      have yg : fZ 13 = true := hdep ⟨13, .guard⟩ (by simp) rfl
      have eg : tZ 92 = .bool true := hG.2.2.2.2.2.2.2.2.2.2.2.2.2.1 yg
      rw [if_pos (wanted_of rfl rfl (show aZ.tmps[92]? = some (.bool true) by rw [hF.tmps (N := 120) (by decide) rfl 92 (by decide) (by decide), eg]))]
      refine wp_bin rfl (ve 93 hV (hG.2.2.2.2.2.2.2.2.2.2.2.2.2.2.1 (dd 14 hdep))) (ve 94 hV (hG.2.2.2.2.2.2.2.2.2.2.2.2.2.2.2.1 (dd 15 hdep))) (eql_i _ _ _ 0 0 _ uZ rfl) ?_
      exact tell hK hF hS (by decide) (Jt hM hG hN)
    · refine op_plain rfl rfl (fun K hK => ?_)
      refine wp_pick rfl (ve 92 hV (hG.2.2.2.2.2.2.2.2.2.2.2.2.2.1 (dd 13 hdep))) (b := true) ((if_pos rfl).trans (ve 95 hV (hG.2.2.2.2.2.2.2.2.2.2.2.2.2.2.2.2.1 (dd 16 hdep)))) ?_
      exact tell hK hF hS (by decide) (Jt hM hG hN)
    · exact t_move (ve 96 hV (hG.2.2.2.2.2.2.2.2.2.2.2.2.2.2.2.2.2.1 (dd 17 hdep))) hF hS rfl rfl rfl rfl (by decide) (Jt hM hG hN)
    · refine wpOp_step rfl (fun K hK => ?_)
      have yg : fZ 18 = true := hdep ⟨18, .guard⟩ (by simp) rfl
      have eg : tZ 97 = .bool true := hG.2.2.2.2.2.2.2.2.2.2.2.2.2.2.2.2.2.2.1 yg
      rw [if_pos (wanted_of rfl rfl (show aZ.tmps[97]? = some (.bool true) by rw [hF.tmps (N := 120) (by decide) rfl 97 (by decide) (by decide), eg]))]
      refine wp_load_mid 25 _ rfl _ 0 (show aZ.eval (.tmp 17) = .pointer (some ⟨b5_7, 0, none⟩) from (hF.out 17 (by decide)).trans rfl) _ _ (CV.range hM.ks.2.2.2.2.1.2) Try.underlying25 rfl info_api_Nat ?_
      exact tell hK hF hS (by decide) (Jt hM hG hN)
    · refine wpOp_step rfl (fun K hK => ?_)
      have yg : fZ 18 = true := hdep ⟨18, .guard⟩ (by simp) rfl
      have eg : tZ 97 = .bool true := hG.2.2.2.2.2.2.2.2.2.2.2.2.2.2.2.2.2.2.1 yg
      rw [if_pos (wanted_of rfl rfl (show aZ.tmps[97]? = some (.bool true) by rw [hF.tmps (N := 120) (by decide) rfl 97 (by decide) (by decide), eg]))]
      refine wp_load_mid 25 _ rfl _ 0 (show aZ.eval (.tmp 19) = .pointer (some ⟨b6_7, 0, none⟩) from (hF.out 19 (by decide)).trans rfl) _ _ (CV.range hM.ks.2.2.2.2.2.1.2) Try.underlying25 rfl info_api_Nat ?_
      exact tell hK hF hS (by decide) (Jt hM hG hN)
    · refine wpOp_step rfl (fun K hK => ?_)
      have yg : fZ 18 = true := hdep ⟨18, .guard⟩ (by simp) rfl
      have eg : tZ 97 = .bool true := hG.2.2.2.2.2.2.2.2.2.2.2.2.2.2.2.2.2.2.1 yg
      rw [if_pos (wanted_of rfl rfl (show aZ.tmps[97]? = some (.bool true) by rw [hF.tmps (N := 120) (by decide) rfl 97 (by decide) (by decide), eg]))]
      refine wp_bin rfl (ve 98 hV (hG.2.2.2.2.2.2.2.2.2.2.2.2.2.2.2.2.2.2.2.1 (dd 19 hdep))) (ve 99 hV (hG.2.2.2.2.2.2.2.2.2.2.2.2.2.2.2.2.2.2.2.2.1 (dd 20 hdep))) (eql_same _ _ (a * b % m) uZ) ?_
      exact tell hK hF hS (by decide) (Jt hM hG hN)
    · refine op_plain rfl rfl (fun K hK => ?_)
      refine wp_pick rfl (ve 97 hV (hG.2.2.2.2.2.2.2.2.2.2.2.2.2.2.2.2.2.2.1 (dd 18 hdep))) (b := true) ((if_pos rfl).trans (ve 100 hV (hG.2.2.2.2.2.2.2.2.2.2.2.2.2.2.2.2.2.2.2.2.2.1 (dd 21 hdep)))) ?_
      exact tell hK hF hS (by decide) (Jt hM hG hN)
    · exact t_move (ve 101 hV (hG.2.2.2.2.2.2.2.2.2.2.2.2.2.2.2.2.2.2.2.2.2.2.1 (dd 22 hdep))) hF hS rfl rfl rfl rfl (by decide) (Jt hM hG hN)
    · refine wpOp_step rfl (fun K hK => ?_)
      have yg : fZ 23 = true := hdep ⟨23, .guard⟩ (by simp) rfl
      have eg : tZ 102 = .bool true := hG.2.2.2.2.2.2.2.2.2.2.2.2.2.2.2.2.2.2.2.2.2.2.2.1 yg
      rw [if_pos (wanted_of rfl rfl (show aZ.tmps[102]? = some (.bool true) by rw [hF.tmps (N := 120) (by decide) rfl 102 (by decide) (by decide), eg]))]
      refine wp_move rfl (show aZ.eval (.tmp 18) = .int .i64 0 from (hF.out 18 (by decide)).trans rfl) ?_
      exact tell hK hF hS (by decide) (Jt hM hG hN)
    · refine wpOp_step rfl (fun K hK => ?_)
      have yg : fZ 23 = true := hdep ⟨23, .guard⟩ (by simp) rfl
      have eg : tZ 102 = .bool true := hG.2.2.2.2.2.2.2.2.2.2.2.2.2.2.2.2.2.2.2.2.2.2.2.1 yg
      rw [if_pos (wanted_of rfl rfl (show aZ.tmps[102]? = some (.bool true) by rw [hF.tmps (N := 120) (by decide) rfl 102 (by decide) (by decide), eg]))]
      refine wp_move rfl (show aZ.eval (.tmp 20) = .int .i64 0 from (hF.out 20 (by decide)).trans rfl) ?_
      exact tell hK hF hS (by decide) (Jt hM hG hN)
    · refine wpOp_step rfl (fun K hK => ?_)
      have yg : fZ 23 = true := hdep ⟨23, .guard⟩ (by simp) rfl
      have eg : tZ 102 = .bool true := hG.2.2.2.2.2.2.2.2.2.2.2.2.2.2.2.2.2.2.2.2.2.2.2.1 yg
      rw [if_pos (wanted_of rfl rfl (show aZ.tmps[102]? = some (.bool true) by rw [hF.tmps (N := 120) (by decide) rfl 102 (by decide) (by decide), eg]))]
      refine wp_bin rfl (ve 103 hV (hG.2.2.2.2.2.2.2.2.2.2.2.2.2.2.2.2.2.2.2.2.2.2.2.2.1 (dd 24 hdep))) (ve 104 hV (hG.2.2.2.2.2.2.2.2.2.2.2.2.2.2.2.2.2.2.2.2.2.2.2.2.2.1 (dd 25 hdep))) (eql_i _ _ _ 0 0 _ uZ rfl) ?_
      exact tell hK hF hS (by decide) (Jt hM hG hN)
    · refine op_plain rfl rfl (fun K hK => ?_)
      refine wp_pick rfl (ve 102 hV (hG.2.2.2.2.2.2.2.2.2.2.2.2.2.2.2.2.2.2.2.2.2.2.2.1 (dd 23 hdep))) (b := true) ((if_pos rfl).trans (ve 105 hV (hG.2.2.2.2.2.2.2.2.2.2.2.2.2.2.2.2.2.2.2.2.2.2.2.2.2.2.1 (dd 26 hdep)))) ?_
      exact tell hK hF hS (by decide) (Jt hM hG hN)
    · exact t_move (ve 106 hV (hG.2.2.2.2.2.2.2.2.2.2.2.2.2.2.2.2.2.2.2.2.2.2.2.2.2.2.2.1 (dd 27 hdep))) hF hS rfl rfl rfl rfl (by decide) (Jt hM hG hN)
    · refine wpOp_step rfl (fun K hK => ?_)
      have yg : fZ 28 = true := hdep ⟨28, .guard⟩ (by simp) rfl
      have eg : tZ 107 = .bool true := hG.2.2.2.2.2.2.2.2.2.2.2.2.2.2.2.2.2.2.2.2.2.2.2.2.2.2.2.2.1 yg
      rw [if_pos (wanted_of rfl rfl (show aZ.tmps[107]? = some (.bool true) by rw [hF.tmps (N := 120) (by decide) rfl 107 (by decide) (by decide), eg]))]
      refine wp_load_mid 25 _ rfl _ 0 (show aZ.eval (.tmp 21) = .pointer (some ⟨b7_6, 0, none⟩) from (hF.out 21 (by decide)).trans rfl) _ _ (CV.range hM.ks.2.2.2.2.2.2.1.2) Try.underlying25 rfl info_api_Nat ?_
      exact tell hK hF hS (by decide) (Jt hM hG hN)
    · refine wpOp_step rfl (fun K hK => ?_)
      have yg : fZ 28 = true := hdep ⟨28, .guard⟩ (by simp) rfl
      have eg : tZ 107 = .bool true := hG.2.2.2.2.2.2.2.2.2.2.2.2.2.2.2.2.2.2.2.2.2.2.2.2.2.2.2.2.1 yg
      rw [if_pos (wanted_of rfl rfl (show aZ.tmps[107]? = some (.bool true) by rw [hF.tmps (N := 120) (by decide) rfl 107 (by decide) (by decide), eg]))]
      refine wp_load_mid 25 _ rfl _ 0 (show aZ.eval (.tmp 23) = .pointer (some ⟨b8_6, 0, none⟩) from (hF.out 23 (by decide)).trans rfl) _ _ (CV.range hM.ks.2.2.2.2.2.2.2.1.2) Try.underlying25 rfl info_api_Nat ?_
      exact tell hK hF hS (by decide) (Jt hM hG hN)
    · refine wpOp_step rfl (fun K hK => ?_)
      have yg : fZ 28 = true := hdep ⟨28, .guard⟩ (by simp) rfl
      have eg : tZ 107 = .bool true := hG.2.2.2.2.2.2.2.2.2.2.2.2.2.2.2.2.2.2.2.2.2.2.2.2.2.2.2.2.1 yg
      rw [if_pos (wanted_of rfl rfl (show aZ.tmps[107]? = some (.bool true) by rw [hF.tmps (N := 120) (by decide) rfl 107 (by decide) (by decide), eg]))]
      refine wp_bin rfl (ve 108 hV (hG.2.2.2.2.2.2.2.2.2.2.2.2.2.2.2.2.2.2.2.2.2.2.2.2.2.2.2.2.2.1 (dd 29 hdep))) (ve 109 hV (hG.2.2.2.2.2.2.2.2.2.2.2.2.2.2.2.2.2.2.2.2.2.2.2.2.2.2.2.2.2.2.1 (dd 30 hdep))) (eql_same _ _ (n % m) uZ) ?_
      exact tell hK hF hS (by decide) (Jt hM hG hN)
    · refine op_plain rfl rfl (fun K hK => ?_)
      refine wp_pick rfl (ve 107 hV (hG.2.2.2.2.2.2.2.2.2.2.2.2.2.2.2.2.2.2.2.2.2.2.2.2.2.2.2.2.1 (dd 28 hdep))) (b := true) ((if_pos rfl).trans (ve 110 hV (hG.2.2.2.2.2.2.2.2.2.2.2.2.2.2.2.2.2.2.2.2.2.2.2.2.2.2.2.2.2.2.2.1 (dd 31 hdep)))) ?_
      exact tell hK hF hS (by decide) (Jt hM hG hN)
    · exact t_move (ve 111 hV (hG.2.2.2.2.2.2.2.2.2.2.2.2.2.2.2.2.2.2.2.2.2.2.2.2.2.2.2.2.2.2.2.2.1 (dd 32 hdep))) hF hS rfl rfl rfl rfl (by decide) (Jt hM hG hN)
    · refine wpOp_step rfl (fun K hK => ?_)
      have yg : fZ 33 = true := hdep ⟨33, .guard⟩ (by simp) rfl
      have eg : tZ 112 = .bool true := hG.2.2.2.2.2.2.2.2.2.2.2.2.2.2.2.2.2.2.2.2.2.2.2.2.2.2.2.2.2.2.2.2.2.1 yg
      rw [if_pos (wanted_of rfl rfl (show aZ.tmps[112]? = some (.bool true) by rw [hF.tmps (N := 120) (by decide) rfl 112 (by decide) (by decide), eg]))]
      refine wp_move rfl (show aZ.eval (.tmp 22) = .int .i64 0 from (hF.out 22 (by decide)).trans rfl) ?_
      exact tell hK hF hS (by decide) (Jt hM hG hN)
    · refine wpOp_step rfl (fun K hK => ?_)
      have yg : fZ 33 = true := hdep ⟨33, .guard⟩ (by simp) rfl
      have eg : tZ 112 = .bool true := hG.2.2.2.2.2.2.2.2.2.2.2.2.2.2.2.2.2.2.2.2.2.2.2.2.2.2.2.2.2.2.2.2.2.1 yg
      rw [if_pos (wanted_of rfl rfl (show aZ.tmps[112]? = some (.bool true) by rw [hF.tmps (N := 120) (by decide) rfl 112 (by decide) (by decide), eg]))]
      refine wp_move rfl (show aZ.eval (.tmp 24) = .int .i64 0 from (hF.out 24 (by decide)).trans rfl) ?_
      exact tell hK hF hS (by decide) (Jt hM hG hN)
    · refine wpOp_step rfl (fun K hK => ?_)
      have yg : fZ 33 = true := hdep ⟨33, .guard⟩ (by simp) rfl
      have eg : tZ 112 = .bool true := hG.2.2.2.2.2.2.2.2.2.2.2.2.2.2.2.2.2.2.2.2.2.2.2.2.2.2.2.2.2.2.2.2.2.1 yg
      rw [if_pos (wanted_of rfl rfl (show aZ.tmps[112]? = some (.bool true) by rw [hF.tmps (N := 120) (by decide) rfl 112 (by decide) (by decide), eg]))]
      refine wp_bin rfl (ve 113 hV (hG.2.2.2.2.2.2.2.2.2.2.2.2.2.2.2.2.2.2.2.2.2.2.2.2.2.2.2.2.2.2.2.2.2.2.1 (dd 34 hdep))) (ve 114 hV (hG.2.2.2.2.2.2.2.2.2.2.2.2.2.2.2.2.2.2.2.2.2.2.2.2.2.2.2.2.2.2.2.2.2.2.2.1 (dd 35 hdep))) (eql_i _ _ _ 0 0 _ uZ rfl) ?_
      exact tell hK hF hS (by decide) (Jt hM hG hN)
    · refine op_plain rfl rfl (fun K hK => ?_)
      refine wp_pick rfl (ve 112 hV (hG.2.2.2.2.2.2.2.2.2.2.2.2.2.2.2.2.2.2.2.2.2.2.2.2.2.2.2.2.2.2.2.2.2.1 (dd 33 hdep))) (b := true) ((if_pos rfl).trans (ve 115 hV (hG.2.2.2.2.2.2.2.2.2.2.2.2.2.2.2.2.2.2.2.2.2.2.2.2.2.2.2.2.2.2.2.2.2.2.2.2.1 (dd 36 hdep)))) ?_
      exact tell hK hF hS (by decide) (Jt hM hG hN)
    · exact t_move (ve 116 hV (hG.2.2.2.2.2.2.2.2.2.2.2.2.2.2.2.2.2.2.2.2.2.2.2.2.2.2.2.2.2.2.2.2.2.2.2.2.2.1 (dd 37 hdep))) hF hS rfl rfl rfl rfl (by decide) (Jt hM hG hN)
    · refine wpOp_step rfl (fun K hK => ?_)
      have yg : fZ 38 = true := hdep ⟨38, .guard⟩ (by simp) rfl
      have eg : tZ 117 = .bool true := hG.2.2.2.2.2.2.2.2.2.2.2.2.2.2.2.2.2.2.2.2.2.2.2.2.2.2.2.2.2.2.2.2.2.2.2.2.2.2.1 yg
      rw [if_pos (wanted_of rfl rfl (show aZ.tmps[117]? = some (.bool true) by rw [hF.tmps (N := 120) (by decide) rfl 117 (by decide) (by decide), eg]))]
      refine wp_callF rfl (vs := []) (by show [] = _; rfl) ent_seneschallaw02_works (works2 uZ) (fun vZ hB => ?_)
      exact tell hK hF hS (by decide) (Jt (hM.call hB) hG hN)
    · refine op_plain rfl rfl (fun K hK => ?_)
      refine wp_pick rfl (ve 117 hV (hG.2.2.2.2.2.2.2.2.2.2.2.2.2.2.2.2.2.2.2.2.2.2.2.2.2.2.2.2.2.2.2.2.2.2.2.2.2.2.1 (dd 38 hdep))) (b := true) ((if_pos rfl).trans (ve 118 hV (hG.2.2.2.2.2.2.2.2.2.2.2.2.2.2.2.2.2.2.2.2.2.2.2.2.2.2.2.2.2.2.2.2.2.2.2.2.2.2.2.1 (dd 39 hdep)))) ?_
      exact tell hK hF hS (by decide) (Jt hM hG hN)
    · exact t_assign (ve 119 hV (hG.2.2.2.2.2.2.2.2.2.2.2.2.2.2.2.2.2.2.2.2.2.2.2.2.2.2.2.2.2.2.2.2.2.2.2.2.2.2.2.2.1 (dd 40 hdep))) hF hS rfl rfl rfl rfl (by decide) (Jt hM hG hN)
  rintro fZ tZ u9 ⟨hM, hG, hO, hN⟩ hall
  obtain ⟨e79, e80, e81, e82, e83, e84, e85, e86, e87, e88, e89, e90, e91, e92, e93, e94, e95, e96, e97, e98, e99, e100, e101, e102, e103, e104, e105, e106, e107, e108, e109, e110, e111, e112, e113, e114, e115, e116, e117, e118, e119, e8, -⟩ := Gs.all 42 hall hG rfl
  have HB9 : Below w.heap.size w u9 := hM.bel
  have sz9 : u8.heap.size ≤ u9.heap.size := hM.sz
  simp only [ovr, List.set_cons_zero, List.set_cons_succ, e79, e80, e81, e82, e83, e84, e85, e86, e87, e88, e89, e90, e91, e92, e93, e94, e95, e96, e97, e98, e99, e100, e101, e102, e103, e104, e105, e106, e107, e108, e109, e110, e111, e112, e113, e114, e115, e116, e117, e118, e119, e8]
  clear hM hG hO hN hall e79 e80 e81 e82 e83 e84 e85 e86 e87 e88 e89 e90 e91 e92 e93 e94 e95 e96 e97 e98 e99 e100 e101 e102 e103 e104 e105 e106 e107 e108 e109 e110 e111 e112 e113 e114 e115 e116 e117 e118 e119 e8 K8n1_7 K8n2_7 K8n3_7 K8n4_7 K8n5_7 K8n6_7 K8n7_6 Kb8_6 HB8
  clear tZ
  go_wp2
  refine bodyPost_ret (v := .bool true) (by simp [results, Try.results5, go_sem, ]) rfl ⟨rfl, HB9⟩
set_option maxRecDepth 100000 in
set_option maxHeartbeats 4000000 in
theorem modSums_0 (a b m n : Int) (w : World) (ha : In a) (hb : In b) (hn : InW n) : Calls Try.prog 5 #[NV a, NV b, A4 0 0 0 0, WV n] w fun en w' => en = .returned (.bool true) ∧ Below w.heap.size w w' := by
  go_enter Try.func5, Try.ntmps5
  go_upto_region 1 with fail
  generalize hC : ((((w.alloc (.cells (LN a : List Value).toArray 25)).alloc (.cells (LN b : List Value).toArray 25)).alloc (.cells ([.int .u64 (0), .int .u64 (0), .int .u64 (0), .int .u64 (0)] : List Value).toArray 25)).alloc (.cells (LW n : List Value).toArray 37)) = v0 at *
  have HB0 : Below w.heap.size w v0 := by rw [← hC]; exact (balloc (balloc (balloc (balloc (bself w) _) _) _) _)
  have K0p0 : CV v0 (w.heap.size) (LN a) := by rw [← hC]; exact ((((CV.new w (LN a) 25).alloc (by simp <;> omega) _).alloc (by simp <;> omega) _).alloc (by simp <;> omega) _)
  have l0p0 : w.heap.size < v0.heap.size := by rw [← hC]; simp <;> omega
  have K0p1 : CV v0 (w.heap.size + 1) (LN b) := by rw [← hC]; exact (((CV.newAt (w.alloc (.cells (LN a : List Value).toArray 25)) (LN b) 25 _ (by simp)).alloc (by simp <;> omega) _).alloc (by simp <;> omega) _)
  have l0p1 : w.heap.size + 1 < v0.heap.size := by rw [← hC]; simp <;> omega
  have K0p2 : CV v0 (w.heap.size + 1 + 1) ([.int .u64 (0), .int .u64 (0), .int .u64 (0), .int .u64 (0)]) := by rw [← hC]; exact ((CV.newAt ((w.alloc (.cells (LN a : List Value).toArray 25)).alloc (.cells (LN b : List Value).toArray 25)) ([.int .u64 (0), .int .u64 (0), .int .u64 (0), .int .u64 (0)]) 25 _ (by simp)).alloc (by simp <;> omega) _)
  have l0p2 : w.heap.size + 1 + 1 < v0.heap.size := by rw [← hC]; simp <;> omega
  have K0p3 : CV v0 (w.heap.size + 1 + 1 + 1) (LW n) := by rw [← hC]; exact (CV.newAt (((w.alloc (.cells (LN a : List Value).toArray 25)).alloc (.cells (LN b : List Value).toArray 25)).alloc (.cells ([.int .u64 (0), .int .u64 (0), .int .u64 (0), .int .u64 (0)] : List Value).toArray 25)) (LW n) 37 _ (by simp))
  have l0p3 : w.heap.size + 1 + 1 + 1 < v0.heap.size := by rw [← hC]; simp <;> omega
  clear hC
  refine region_plain [26, 27, 28, 29, 25, 30, 31, 9, 10] (fun fZ tZ uZ => MR w.heap.size w (v0.heap.size) [(w.heap.size, LN a), (w.heap.size + 1, LN b), (w.heap.size + 1 + 1, [.int .u64 (0), .int .u64 (0), .int .u64 (0), .int .u64 (0)]), (w.heap.size + 1 + 1 + 1, LW n)] [] [(fZ 7, fZ 8, tZ 9, L0s, [.int .u64 (0), .int .u64 (0), .int .u64 (0), .int .u64 (0)])] uZ ∧ Gs fZ tZ [(0, 26, NV a), (1, 27, NV b), (2, 28, .agg #[.int .u64 (0), .int .u64 (0), .int .u64 (0), .int .u64 (0)]), (3, 29, .tuple #[A4 (0) (0) (0) (0), .int .i64 20]), (4, 25, .tuple #[A4 (0) (0) (0) (0), .int .i64 20]), (5, 30, A4 (0) (0) (0) (0)), (6, 31, .int .i64 20), (9, 10, .int .i64 20)] ∧ Os fZ [(8, 7)] ∧ Ns fZ tZ []) (by kernel_rfl) ?_ ?_ ?_
  · exact ⟨{ bel := HB0, lo := HB0.size, sz := Nat.le_refl _, ks := ⟨⟨l0p0, K0p0⟩, ⟨l0p1, K0p1⟩, ⟨l0p2, K0p2⟩, ⟨l0p3, K0p3⟩, trivial⟩, ex := trivial, nw := ⟨fun e => (by cases e), trivial⟩, nd := ⟨fun e => (by cases e), trivial⟩ }, Gs.none _ _, Os.none _, trivial⟩
  · rintro fZ tZ uZ iZ oZ aZ hF ⟨hM, hG, hO, hN⟩ ho hfi hdep
    obtain ⟨hS, hV⟩ := hF.two 120 (by decide) rfl (by decide)
    rcases cZ10 ho with rfl | rfl | rfl | rfl | rfl | rfl | rfl | rfl | rfl | rfl <;> cases ho
    · exact t_load (show aZ.eval (.tmp 4) = .pointer (some ⟨w.heap.size, 0, none⟩) from (hF.out 4 (by decide)).trans rfl) hM.ks.1.2 Try.underlying25 info_api_Nat hF hS rfl rfl rfl rfl rfl (by decide) (Jm hM hG hO hN)
    · exact t_load (show aZ.eval (.tmp 5) = .pointer (some ⟨w.heap.size + 1, 0, none⟩) from (hF.out 5 (by decide)).trans rfl) hM.ks.2.1.2 Try.underlying25 info_api_Nat hF hS rfl rfl rfl rfl rfl (by decide) (Jm hM hG hO hN)
    · exact t_load (show aZ.eval (.tmp 6) = .pointer (some ⟨w.heap.size + 1 + 1, 0, none⟩) from (hF.out 6 (by decide)).trans rfl) hM.ks.2.2.1.2 Try.underlying25 info_api_Nat hF hS rfl rfl rfl rfl rfl (by decide) (Jm hM hG hO hN)
    · exact t_call (vs := [NV a, NV b, .agg #[.int .u64 (0), .int .u64 (0), .int .u64 (0), .int .u64 (0)]]) (by show [aZ.eval (.tmp 26), aZ.eval (.tmp 27), aZ.eval (.tmp 28)] = _; rw [(ve 26 hV (hG.1 (dd 0 hdep))), (ve 27 hV (hG.2.1 (dd 1 hdep))), (ve 28 hV (hG.2.2.1 (dd 2 hdep)))]) ent_mod_Add (mAdd0 a b uZ ha hb) hF hS rfl rfl rfl rfl (by decide) (fun _ hB => (Jm (hM.call hB) hG hO hN))
    · exact t_move (ve 29 hV (hG.2.2.2.1 (dd 3 hdep))) hF hS rfl rfl rfl rfl (by decide) (Jm hM hG hO hN)
    · exact t_extract (ve 25 hV (hG.2.2.2.2.1 (dd 4 hdep))) hF hS rfl rfl rfl rfl rfl (by decide) (Jm hM hG hO hN)
    · exact t_extract (ve 25 hV (hG.2.2.2.2.1 (dd 4 hdep))) hF hS rfl rfl rfl rfl rfl (by decide) (Jm hM hG hO hN)
    · have q1 : fZ 8 = false := Os.not (hO.1) hfi
      exact t_alloc (al_api_Nat uZ) hF hS rfl rfl rfl rfl (by decide) ⟨MR.newF 0 hM rfl hfi q1, Gs.other rfl hG, hO.keep rfl, Ns.step hN rfl⟩
    · exact t_storeN 0 hM rfl (dd 7 hdep) hfi (hV 9 (by decide)) (ve 30 hV (hG.2.2.2.2.2.1 (dd 5 hdep))) rfl info_api_Nat rfl hF rfl rfl rfl rfl (fun _ h => ⟨h, Gs.idle rfl hG, ⟨fun _ => (dd 7 hdep :), trivial⟩, Ns.idle hN⟩)
    · exact t_assign (ve 31 hV (hG.2.2.2.2.2.2.1 (dd 6 hdep))) hF hS rfl rfl rfl rfl (by decide) (Jm hM hG hO hN)
  rintro fZ tZ u1 ⟨hM, hG, hO, hN⟩ hall
  obtain ⟨e26, e27, e28, e29, e25, e30, e31, e10, -⟩ := Gs.all 10 hall hG rfl
  obtain ⟨b1_7, ee9, pb1_7, lb1_7, kb1_7⟩ := hM.nw.1 (hall 7 (by decide))
  have e9 : tZ 9 = .pointer (some ⟨b1_7, 0, none⟩) := ee9
  clear ee9
  have Kb1_7 : CV u1 b1_7 ([.int .u64 (0), .int .u64 (0), .int .u64 (0), .int .u64 (0)]) := by
    have h1 : CV u1 b1_7 (bif fZ 8 then [.int .u64 (0), .int .u64 (0), .int .u64 (0), .int .u64 (0)] else L0s) := kb1_7
    rw [hall 8 (by decide)] at h1; exact h1
  clear kb1_7
  have HB1 : Below w.heap.size w u1 := hM.bel
  have sz1 : v0.heap.size ≤ u1.heap.size := hM.sz
  obtain ⟨⟨l1p0, K1p0⟩, ⟨l1p1, K1p1⟩, ⟨l1p2, K1p2⟩, ⟨l1p3, K1p3⟩, -⟩ := hM.ks.up hM.sz
  dsimp only at l1p0 K1p0 l1p1 K1p1 l1p2 K1p2 l1p3 K1p3
  simp only [ovr, List.set_cons_zero, List.set_cons_succ, e26, e27, e28, e29, e25, e30, e31, e10, e9]
  clear hM hG hO hN hall e26 e27 e28 e29 e25 e30 e31 e10 e9 K0p0 K0p1 K0p2 K0p3 HB0
  clear tZ
  go_upto_region 2 with fail
  refine region_plain [33, 34, 35, 36, 32, 37, 38, 11, 12] (fun fZ tZ uZ => MR w.heap.size w (u1.heap.size) [(w.heap.size, LN a), (w.heap.size + 1, LN b), (w.heap.size + 1 + 1, [.int .u64 (0), .int .u64 (0), .int .u64 (0), .int .u64 (0)]), (w.heap.size + 1 + 1 + 1, LW n), (b1_7, [.int .u64 (0), .int .u64 (0), .int .u64 (0), .int .u64 (0)])] [] [(fZ 7, fZ 8, tZ 11, L0s, [.int .u64 (0), .int .u64 (0), .int .u64 (0), .int .u64 (0)])] uZ ∧ Gs fZ tZ [(0, 33, NV a), (1, 34, NV b), (2, 35, .agg #[.int .u64 (0), .int .u64 (0), .int .u64 (0), .int .u64 (0)]), (3, 36, .tuple #[A4 (0) (0) (0) (0), .int .i64 20]), (4, 32, .tuple #[A4 (0) (0) (0) (0), .int .i64 20]), (5, 37, A4 (0) (0) (0) (0)), (6, 38, .int .i64 20), (9, 12, .int .i64 20)] ∧ Os fZ [(8, 7)] ∧ Ns fZ tZ []) (by kernel_rfl) ?_ ?_ ?_
  · exact ⟨{ bel := HB1, lo := HB1.size, sz := Nat.le_refl _, ks := ⟨⟨l1p0, K1p0⟩, ⟨l1p1, K1p1⟩, ⟨l1p2, K1p2⟩, ⟨l1p3, K1p3⟩, ⟨lb1_7, Kb1_7⟩, trivial⟩, ex := trivial, nw := ⟨fun e => (by cases e), trivial⟩, nd := ⟨fun e => (by cases e), trivial⟩ }, Gs.none _ _, Os.none _, trivial⟩
  · rintro fZ tZ uZ iZ oZ aZ hF ⟨hM, hG, hO, hN⟩ ho hfi hdep
    obtain ⟨hS, hV⟩ := hF.two 120 (by decide) rfl (by decide)
    rcases cZ10 ho with rfl | rfl | rfl | rfl | rfl | rfl | rfl | rfl | rfl | rfl <;> cases ho
    · exact t_load (show aZ.eval (.tmp 4) = .pointer (some ⟨w.heap.size, 0, none⟩) from (hF.out 4 (by decide)).trans rfl) hM.ks.1.2 Try.underlying25 info_api_Nat hF hS rfl rfl rfl rfl rfl (by decide) (Jm hM hG hO hN)
    · exact t_load (show aZ.eval (.tmp 5) = .pointer (some ⟨w.heap.size + 1, 0, none⟩) from (hF.out 5 (by decide)).trans rfl) hM.ks.2.1.2 Try.underlying25 info_api_Nat hF hS rfl rfl rfl rfl rfl (by decide) (Jm hM hG hO hN)
    · exact t_load (show aZ.eval (.tmp 6) = .pointer (some ⟨w.heap.size + 1 + 1, 0, none⟩) from (hF.out 6 (by decide)).trans rfl) hM.ks.2.2.1.2 Try.underlying25 info_api_Nat hF hS rfl rfl rfl rfl rfl (by decide) (Jm hM hG hO hN)
    · exact t_call (vs := [NV a, NV b, .agg #[.int .u64 (0), .int .u64 (0), .int .u64 (0), .int .u64 (0)]]) (by show [aZ.eval (.tmp 33), aZ.eval (.tmp 34), aZ.eval (.tmp 35)] = _; rw [(ve 33 hV (hG.1 (dd 0 hdep))), (ve 34 hV (hG.2.1 (dd 1 hdep))), (ve 35 hV (hG.2.2.1 (dd 2 hdep)))]) ent_seneschalref02_Add (xAdd0 a b uZ ha hb) hF hS rfl rfl rfl rfl (by decide) (fun _ hB => (Jm (hM.call hB) hG hO hN))
    · exact t_move (ve 36 hV (hG.2.2.2.1 (dd 3 hdep))) hF hS rfl rfl rfl rfl (by decide) (Jm hM hG hO hN)
    · exact t_extract (ve 32 hV (hG.2.2.2.2.1 (dd 4 hdep))) hF hS rfl rfl rfl rfl rfl (by decide) (Jm hM hG hO hN)
    · exact t_extract (ve 32 hV (hG.2.2.2.2.1 (dd 4 hdep))) hF hS rfl rfl rfl rfl rfl (by decide) (Jm hM hG hO hN)
    · have q1 : fZ 8 = false := Os.not (hO.1) hfi
      exact t_alloc (al_api_Nat uZ) hF hS rfl rfl rfl rfl (by decide) ⟨MR.newF 0 hM rfl hfi q1, Gs.other rfl hG, hO.keep rfl, Ns.step hN rfl⟩
    · exact t_storeN 0 hM rfl (dd 7 hdep) hfi (hV 11 (by decide)) (ve 37 hV (hG.2.2.2.2.2.1 (dd 5 hdep))) rfl info_api_Nat rfl hF rfl rfl rfl rfl (fun _ h => ⟨h, Gs.idle rfl hG, ⟨fun _ => (dd 7 hdep :), trivial⟩, Ns.idle hN⟩)
    · exact t_assign (ve 38 hV (hG.2.2.2.2.2.2.1 (dd 6 hdep))) hF hS rfl rfl rfl rfl (by decide) (Jm hM hG hO hN)
  rintro fZ tZ u2 ⟨hM, hG, hO, hN⟩ hall
  obtain ⟨e33, e34, e35, e36, e32, e37, e38, e12, -⟩ := Gs.all 10 hall hG rfl
  obtain ⟨b2_7, ee11, pb2_7, lb2_7, kb2_7⟩ := hM.nw.1 (hall 7 (by decide))
  have e11 : tZ 11 = .pointer (some ⟨b2_7, 0, none⟩) := ee11
  clear ee11
  have Kb2_7 : CV u2 b2_7 ([.int .u64 (0), .int .u64 (0), .int .u64 (0), .int .u64 (0)]) := by
    have h1 : CV u2 b2_7 (bif fZ 8 then [.int .u64 (0), .int .u64 (0), .int .u64 (0), .int .u64 (0)] else L0s) := kb2_7
    rw [hall 8 (by decide)] at h1; exact h1
  clear kb2_7
  have HB2 : Below w.heap.size w u2 := hM.bel
  have sz2 : u1.heap.size ≤ u2.heap.size := hM.sz
  obtain ⟨⟨l2p0, K2p0⟩, ⟨l2p1, K2p1⟩, ⟨l2p2, K2p2⟩, ⟨l2p3, K2p3⟩, ⟨l2n1_7, K2n1_7⟩, -⟩ := hM.ks.up hM.sz
  dsimp only at l2p0 K2p0 l2p1 K2p1 l2p2 K2p2 l2p3 K2p3 l2n1_7 K2n1_7
  simp only [ovr, List.set_cons_zero, List.set_cons_succ, e33, e34, e35, e36, e32, e37, e38, e12, e11]
  clear hM hG hO hN hall e33 e34 e35 e36 e32 e37 e38 e12 e11 K1p0 K1p1 K1p2 K1p3 Kb1_7 HB1
  clear tZ
  go_upto_region 3 with fail
  refine region_plain [40, 41, 42, 43, 39, 44, 45, 13, 14] (fun fZ tZ uZ => MR w.heap.size w (u2.heap.size) [(w.heap.size, LN a), (w.heap.size + 1, LN b), (w.heap.size + 1 + 1, [.int .u64 (0), .int .u64 (0), .int .u64 (0), .int .u64 (0)]), (w.heap.size + 1 + 1 + 1, LW n), (b1_7, [.int .u64 (0), .int .u64 (0), .int .u64 (0), .int .u64 (0)]), (b2_7, [.int .u64 (0), .int .u64 (0), .int .u64 (0), .int .u64 (0)])] [] [(fZ 7, fZ 8, tZ 13, L0s, [.int .u64 (0), .int .u64 (0), .int .u64 (0), .int .u64 (0)])] uZ ∧ Gs fZ tZ [(0, 40, NV a), (1, 41, NV b), (2, 42, .agg #[.int .u64 (0), .int .u64 (0), .int .u64 (0), .int .u64 (0)]), (3, 43, .tuple #[A4 (0) (0) (0) (0), .int .i64 20]), (4, 39, .tuple #[A4 (0) (0) (0) (0), .int .i64 20]), (5, 44, A4 (0) (0) (0) (0)), (6, 45, .int .i64 20), (9, 14, .int .i64 20)] ∧ Os fZ [(8, 7)] ∧ Ns fZ tZ []) (by kernel_rfl) ?_ ?_ ?_
  · exact ⟨{ bel := HB2, lo := HB2.size, sz := Nat.le_refl _, ks := ⟨⟨l2p0, K2p0⟩, ⟨l2p1, K2p1⟩, ⟨l2p2, K2p2⟩, ⟨l2p3, K2p3⟩, ⟨l2n1_7, K2n1_7⟩, ⟨lb2_7, Kb2_7⟩, trivial⟩, ex := trivial, nw := ⟨fun e => (by cases e), trivial⟩, nd := ⟨fun e => (by cases e), trivial⟩ }, Gs.none _ _, Os.none _, trivial⟩
  · rintro fZ tZ uZ iZ oZ aZ hF ⟨hM, hG, hO, hN⟩ ho hfi hdep
    obtain ⟨hS, hV⟩ := hF.two 120 (by decide) rfl (by decide)
    rcases cZ10 ho with rfl | rfl | rfl | rfl | rfl | rfl | rfl | rfl | rfl | rfl <;> cases ho
    · exact t_load (show aZ.eval (.tmp 4) = .pointer (some ⟨w.heap.size, 0, none⟩) from (hF.out 4 (by decide)).trans rfl) hM.ks.1.2 Try.underlying25 info_api_Nat hF hS rfl rfl rfl rfl rfl (by decide) (Jm hM hG hO hN)
    · exact t_load (show aZ.eval (.tmp 5) = .pointer (some ⟨w.heap.size + 1, 0, none⟩) from (hF.out 5 (by decide)).trans rfl) hM.ks.2.1.2 Try.underlying25 info_api_Nat hF hS rfl rfl rfl rfl rfl (by decide) (Jm hM hG hO hN)
    · exact t_load (show aZ.eval (.tmp 6) = .pointer (some ⟨w.heap.size + 1 + 1, 0, none⟩) from (hF.out 6 (by decide)).trans rfl) hM.ks.2.2.1.2 Try.underlying25 info_api_Nat hF hS rfl rfl rfl rfl rfl (by decide) (Jm hM hG hO hN)
    · exact t_call (vs := [NV a, NV b, .agg #[.int .u64 (0), .int .u64 (0), .int .u64 (0), .int .u64 (0)]]) (by show [aZ.eval (.tmp 40), aZ.eval (.tmp 41), aZ.eval (.tmp 42)] = _; rw [(ve 40 hV (hG.1 (dd 0 hdep))), (ve 41 hV (hG.2.1 (dd 1 hdep))), (ve 42 hV (hG.2.2.1 (dd 2 hdep)))]) ent_mod_Sub (mSub_0 a b uZ ha) hF hS rfl rfl rfl rfl (by decide) (fun _ hB => (Jm (hM.call hB) hG hO hN))
    · exact t_move (ve 43 hV (hG.2.2.2.1 (dd 3 hdep))) hF hS rfl rfl rfl rfl (by decide) (Jm hM hG hO hN)
    · exact t_extract (ve 39 hV (hG.2.2.2.2.1 (dd 4 hdep))) hF hS rfl rfl rfl rfl rfl (by decide) (Jm hM hG hO hN)
    · exact t_extract (ve 39 hV (hG.2.2.2.2.1 (dd 4 hdep))) hF hS rfl rfl rfl rfl rfl (by decide) (Jm hM hG hO hN)
    · have q1 : fZ 8 = false := Os.not (hO.1) hfi
      exact t_alloc (al_api_Nat uZ) hF hS rfl rfl rfl rfl (by decide) ⟨MR.newF 0 hM rfl hfi q1, Gs.other rfl hG, hO.keep rfl, Ns.step hN rfl⟩
    · exact t_storeN 0 hM rfl (dd 7 hdep) hfi (hV 13 (by decide)) (ve 44 hV (hG.2.2.2.2.2.1 (dd 5 hdep))) rfl info_api_Nat rfl hF rfl rfl rfl rfl (fun _ h => ⟨h, Gs.idle rfl hG, ⟨fun _ => (dd 7 hdep :), trivial⟩, Ns.idle hN⟩)
    · exact t_assign (ve 45 hV (hG.2.2.2.2.2.2.1 (dd 6 hdep))) hF hS rfl rfl rfl rfl (by decide) (Jm hM hG hO hN)
  rintro fZ tZ u3 ⟨hM, hG, hO, hN⟩ hall
  obtain ⟨e40, e41, e42, e43, e39, e44, e45, e14, -⟩ := Gs.all 10 hall hG rfl
  obtain ⟨b3_7, ee13, pb3_7, lb3_7, kb3_7⟩ := hM.nw.1 (hall 7 (by decide))
  have e13 : tZ 13 = .pointer (some ⟨b3_7, 0, none⟩) := ee13
  clear ee13
  have Kb3_7 : CV u3 b3_7 ([.int .u64 (0), .int .u64 (0), .int .u64 (0), .int .u64 (0)]) := by
    have h1 : CV u3 b3_7 (bif fZ 8 then [.int .u64 (0), .int .u64 (0), .int .u64 (0), .int .u64 (0)] else L0s) := kb3_7
    rw [hall 8 (by decide)] at h1; exact h1
  clear kb3_7
  have HB3 : Below w.heap.size w u3 := hM.bel
  have sz3 : u2.heap.size ≤ u3.heap.size := hM.sz
  obtain ⟨⟨l3p0, K3p0⟩, ⟨l3p1, K3p1⟩, ⟨l3p2, K3p2⟩, ⟨l3p3, K3p3⟩, ⟨l3n1_7, K3n1_7⟩, ⟨l3n2_7, K3n2_7⟩, -⟩ := hM.ks.up hM.sz
  dsimp only at l3p0 K3p0 l3p1 K3p1 l3p2 K3p2 l3p3 K3p3 l3n1_7 K3n1_7 l3n2_7 K3n2_7
  simp only [ovr, List.set_cons_zero, List.set_cons_succ, e40, e41, e42, e43, e39, e44, e45, e14, e13]
  clear hM hG hO hN hall e40 e41 e42 e43 e39 e44 e45 e14 e13 K2n1_7 K2p0 K2p1 K2p2 K2p3 Kb2_7 HB2
  clear tZ
  go_upto_region 4 with fail
  refine region_plain [47, 48, 49, 50, 46, 51, 52, 15, 16] (fun fZ tZ uZ => MR w.heap.size w (u3.heap.size) [(w.heap.size, LN a), (w.heap.size + 1, LN b), (w.heap.size + 1 + 1, [.int .u64 (0), .int .u64 (0), .int .u64 (0), .int .u64 (0)]), (w.heap.size + 1 + 1 + 1, LW n), (b1_7, [.int .u64 (0), .int .u64 (0), .int .u64 (0), .int .u64 (0)]), (b2_7, [.int .u64 (0), .int .u64 (0), .int .u64 (0), .int .u64 (0)]), (b3_7, [.int .u64 (0), .int .u64 (0), .int .u64 (0), .int .u64 (0)])] [] [(fZ 7, fZ 8, tZ 15, L0s, [.int .u64 (0), .int .u64 (0), .int .u64 (0), .int .u64 (0)])] uZ ∧ Gs fZ tZ [(0, 47, NV a), (1, 48, NV b), (2, 49, .agg #[.int .u64 (0), .int .u64 (0), .int .u64 (0), .int .u64 (0)]), (3, 50, .tuple #[A4 (0) (0) (0) (0), .int .i64 20]), (4, 46, .tuple #[A4 (0) (0) (0) (0), .int .i64 20]), (5, 51, A4 (0) (0) (0) (0)), (6, 52, .int .i64 20), (9, 16, .int .i64 20)] ∧ Os fZ [(8, 7)] ∧ Ns fZ tZ []) (by kernel_rfl) ?_ ?_ ?_
  · exact ⟨{ bel := HB3, lo := HB3.size, sz := Nat.le_refl _, ks := ⟨⟨l3p0, K3p0⟩, ⟨l3p1, K3p1⟩, ⟨l3p2, K3p2⟩, ⟨l3p3, K3p3⟩, ⟨l3n1_7, K3n1_7⟩, ⟨l3n2_7, K3n2_7⟩, ⟨lb3_7, Kb3_7⟩, trivial⟩, ex := trivial, nw := ⟨fun e => (by cases e), trivial⟩, nd := ⟨fun e => (by cases e), trivial⟩ }, Gs.none _ _, Os.none _, trivial⟩
  · rintro fZ tZ uZ iZ oZ aZ hF ⟨hM, hG, hO, hN⟩ ho hfi hdep
    obtain ⟨hS, hV⟩ := hF.two 120 (by decide) rfl (by decide)
    rcases cZ10 ho with rfl | rfl | rfl | rfl | rfl | rfl | rfl | rfl | rfl | rfl <;> cases ho
    · exact t_load (show aZ.eval (.tmp 4) = .pointer (some ⟨w.heap.size, 0, none⟩) from (hF.out 4 (by decide)).trans rfl) hM.ks.1.2 Try.underlying25 info_api_Nat hF hS rfl rfl rfl rfl rfl (by decide) (Jm hM hG hO hN)
    · exact t_load (show aZ.eval (.tmp 5) = .pointer (some ⟨w.heap.size + 1, 0, none⟩) from (hF.out 5 (by decide)).trans rfl) hM.ks.2.1.2 Try.underlying25 info_api_Nat hF hS rfl rfl rfl rfl rfl (by decide) (Jm hM hG hO hN)
    · exact t_load (show aZ.eval (.tmp 6) = .pointer (some ⟨w.heap.size + 1 + 1, 0, none⟩) from (hF.out 6 (by decide)).trans rfl) hM.ks.2.2.1.2 Try.underlying25 info_api_Nat hF hS rfl rfl rfl rfl rfl (by decide) (Jm hM hG hO hN)
    · exact t_call (vs := [NV a, NV b, .agg #[.int .u64 (0), .int .u64 (0), .int .u64 (0), .int .u64 (0)]]) (by show [aZ.eval (.tmp 47), aZ.eval (.tmp 48), aZ.eval (.tmp 49)] = _; rw [(ve 47 hV (hG.1 (dd 0 hdep))), (ve 48 hV (hG.2.1 (dd 1 hdep))), (ve 49 hV (hG.2.2.1 (dd 2 hdep)))]) ent_seneschalref02_Sub (xSub0 a b uZ ha) hF hS rfl rfl rfl rfl (by decide) (fun _ hB => (Jm (hM.call hB) hG hO hN))
    · exact t_move (ve 50 hV (hG.2.2.2.1 (dd 3 hdep))) hF hS rfl rfl rfl rfl (by decide) (Jm hM hG hO hN)
    · exact t_extract (ve 46 hV (hG.2.2.2.2.1 (dd 4 hdep))) hF hS rfl rfl rfl rfl rfl (by decide) (Jm hM hG hO hN)
    · exact t_extract (ve 46 hV (hG.2.2.2.2.1 (dd 4 hdep))) hF hS rfl rfl rfl rfl rfl (by decide) (Jm hM hG hO hN)
    · have q1 : fZ 8 = false := Os.not (hO.1) hfi
      exact t_alloc (al_api_Nat uZ) hF hS rfl rfl rfl rfl (by decide) ⟨MR.newF 0 hM rfl hfi q1, Gs.other rfl hG, hO.keep rfl, Ns.step hN rfl⟩
    · exact t_storeN 0 hM rfl (dd 7 hdep) hfi (hV 15 (by decide)) (ve 51 hV (hG.2.2.2.2.2.1 (dd 5 hdep))) rfl info_api_Nat rfl hF rfl rfl rfl rfl (fun _ h => ⟨h, Gs.idle rfl hG, ⟨fun _ => (dd 7 hdep :), trivial⟩, Ns.idle hN⟩)
    · exact t_assign (ve 52 hV (hG.2.2.2.2.2.2.1 (dd 6 hdep))) hF hS rfl rfl rfl rfl (by decide) (Jm hM hG hO hN)
  rintro fZ tZ u4 ⟨hM, hG, hO, hN⟩ hall
  obtain ⟨e47, e48, e49, e50, e46, e51, e52, e16, -⟩ := Gs.all 10 hall hG rfl
  obtain ⟨b4_7, ee15, pb4_7, lb4_7, kb4_7⟩ := hM.nw.1 (hall 7 (by decide))
  have e15 : tZ 15 = .pointer (some ⟨b4_7, 0, none⟩) := ee15
  clear ee15
  have Kb4_7 : CV u4 b4_7 ([.int .u64 (0), .int .u64 (0), .int .u64 (0), .int .u64 (0)]) := by
    have h1 : CV u4 b4_7 (bif fZ 8 then [.int .u64 (0), .int .u64 (0), .int .u64 (0), .int .u64 (0)] else L0s) := kb4_7
    rw [hall 8 (by decide)] at h1; exact h1
  clear kb4_7
  have HB4 : Below w.heap.size w u4 := hM.bel
  have sz4 : u3.heap.size ≤ u4.heap.size := hM.sz
  obtain ⟨⟨l4p0, K4p0⟩, ⟨l4p1, K4p1⟩, ⟨l4p2, K4p2⟩, ⟨l4p3, K4p3⟩, ⟨l4n1_7, K4n1_7⟩, ⟨l4n2_7, K4n2_7⟩, ⟨l4n3_7, K4n3_7⟩, -⟩ := hM.ks.up hM.sz
  dsimp only at l4p0 K4p0 l4p1 K4p1 l4p2 K4p2 l4p3 K4p3 l4n1_7 K4n1_7 l4n2_7 K4n2_7 l4n3_7 K4n3_7
  simp only [ovr, List.set_cons_zero, List.set_cons_succ, e47, e48, e49, e50, e46, e51, e52, e16, e15]
  clear hM hG hO hN hall e47 e48 e49 e50 e46 e51 e52 e16 e15 K3n1_7 K3n2_7 K3p0 K3p1 K3p2 K3p3 Kb3_7 HB3
  clear tZ
  go_upto_region 5 with fail
  refine region_plain [54, 55, 56, 57, 53, 58, 59, 17, 18] (fun fZ tZ uZ => MR w.heap.size w (u4.heap.size) [(w.heap.size, LN a), (w.heap.size + 1, LN b), (w.heap.size + 1 + 1, [.int .u64 (0), .int .u64 (0), .int .u64 (0), .int .u64 (0)]), (w.heap.size + 1 + 1 + 1, LW n), (b1_7, [.int .u64 (0), .int .u64 (0), .int .u64 (0), .int .u64 (0)]), (b2_7, [.int .u64 (0), .int .u64 (0), .int .u64 (0), .int .u64 (0)]), (b3_7, [.int .u64 (0), .int .u64 (0), .int .u64 (0), .int .u64 (0)]), (b4_7, [.int .u64 (0), .int .u64 (0), .int .u64 (0), .int .u64 (0)])] [] [(fZ 7, fZ 8, tZ 17, L0s, [.int .u64 (0), .int .u64 (0), .int .u64 (0), .int .u64 (0)])] uZ ∧ Gs fZ tZ [(0, 54, NV a), (1, 55, NV b), (2, 56, .agg #[.int .u64 (0), .int .u64 (0), .int .u64 (0), .int .u64 (0)]), (3, 57, .tuple #[A4 (0) (0) (0) (0), .int .i64 20]), (4, 53, .tuple #[A4 (0) (0) (0) (0), .int .i64 20]), (5, 58, A4 (0) (0) (0) (0)), (6, 59, .int .i64 20), (9, 18, .int .i64 20)] ∧ Os fZ [(8, 7)] ∧ Ns fZ tZ []) (by kernel_rfl) ?_ ?_ ?_
  · exact ⟨{ bel := HB4, lo := HB4.size, sz := Nat.le_refl _, ks := ⟨⟨l4p0, K4p0⟩, ⟨l4p1, K4p1⟩, ⟨l4p2, K4p2⟩, ⟨l4p3, K4p3⟩, ⟨l4n1_7, K4n1_7⟩, ⟨l4n2_7, K4n2_7⟩, ⟨l4n3_7, K4n3_7⟩, ⟨lb4_7, Kb4_7⟩, trivial⟩, ex := trivial, nw := ⟨fun e => (by cases e), trivial⟩, nd := ⟨fun e => (by cases e), trivial⟩ }, Gs.none _ _, Os.none _, trivial⟩
  · rintro fZ tZ uZ iZ oZ aZ hF ⟨hM, hG, hO, hN⟩ ho hfi hdep
    obtain ⟨hS, hV⟩ := hF.two 120 (by decide) rfl (by decide)
    rcases cZ10 ho with rfl | rfl | rfl | rfl | rfl | rfl | rfl | rfl | rfl | rfl <;> cases ho
    · exact t_load (show aZ.eval (.tmp 4) = .pointer (some ⟨w.heap.size, 0, none⟩) from (hF.out 4 (by decide)).trans rfl) hM.ks.1.2 Try.underlying25 info_api_Nat hF hS rfl rfl rfl rfl rfl (by decide) (Jm hM hG hO hN)
    · exact t_load (show aZ.eval (.tmp 5) = .pointer (some ⟨w.heap.size + 1, 0, none⟩) from (hF.out 5 (by decide)).trans rfl) hM.ks.2.1.2 Try.underlying25 info_api_Nat hF hS rfl rfl rfl rfl rfl (by decide) (Jm hM hG hO hN)
    · exact t_load (show aZ.eval (.tmp 6) = .pointer (some ⟨w.heap.size + 1 + 1, 0, none⟩) from (hF.out 6 (by decide)).trans rfl) hM.ks.2.2.1.2 Try.underlying25 info_api_Nat hF hS rfl rfl rfl rfl rfl (by decide) (Jm hM hG hO hN)
    · exact t_call (vs := [NV a, NV b, .agg #[.int .u64 (0), .int .u64 (0), .int .u64 (0), .int .u64 (0)]]) (by show [aZ.eval (.tmp 54), aZ.eval (.tmp 55), aZ.eval (.tmp 56)] = _; rw [(ve 54 hV (hG.1 (dd 0 hdep))), (ve 55 hV (hG.2.1 (dd 1 hdep))), (ve 56 hV (hG.2.2.1 (dd 2 hdep)))]) ent_mod_Mul (mMul0 a b uZ ha hb) hF hS rfl rfl rfl rfl (by decide) (fun _ hB => (Jm (hM.call hB) hG hO hN))
    · exact t_move (ve 57 hV (hG.2.2.2.1 (dd 3 hdep))) hF hS rfl rfl rfl rfl (by decide) (Jm hM hG hO hN)
    · exact t_extract (ve 53 hV (hG.2.2.2.2.1 (dd 4 hdep))) hF hS rfl rfl rfl rfl rfl (by decide) (Jm hM hG hO hN)
    · exact t_extract (ve 53 hV (hG.2.2.2.2.1 (dd 4 hdep))) hF hS rfl rfl rfl rfl rfl (by decide) (Jm hM hG hO hN)
    · have q1 : fZ 8 = false := Os.not (hO.1) hfi
      exact t_alloc (al_api_Nat uZ) hF hS rfl rfl rfl rfl (by decide) ⟨MR.newF 0 hM rfl hfi q1, Gs.other rfl hG, hO.keep rfl, Ns.step hN rfl⟩
    · exact t_storeN 0 hM rfl (dd 7 hdep) hfi (hV 17 (by decide)) (ve 58 hV (hG.2.2.2.2.2.1 (dd 5 hdep))) rfl info_api_Nat rfl hF rfl rfl rfl rfl (fun _ h => ⟨h, Gs.idle rfl hG, ⟨fun _ => (dd 7 hdep :), trivial⟩, Ns.idle hN⟩)
    · exact t_assign (ve 59 hV (hG.2.2.2.2.2.2.1 (dd 6 hdep))) hF hS rfl rfl rfl rfl (by decide) (Jm hM hG hO hN)
  rintro fZ tZ u5 ⟨hM, hG, hO, hN⟩ hall
  obtain ⟨e54, e55, e56, e57, e53, e58, e59, e18, -⟩ := Gs.all 10 hall hG rfl
  obtain ⟨b5_7, ee17, pb5_7, lb5_7, kb5_7⟩ := hM.nw.1 (hall 7 (by decide))
  have e17 : tZ 17 = .pointer (some ⟨b5_7, 0, none⟩) := ee17
  clear ee17
  have Kb5_7 : CV u5 b5_7 ([.int .u64 (0), .int .u64 (0), .int .u64 (0), .int .u64 (0)]) := by
    have h1 : CV u5 b5_7 (bif fZ 8 then [.int .u64 (0), .int .u64 (0), .int .u64 (0), .int .u64 (0)] else L0s) := kb5_7
    rw [hall 8 (by decide)] at h1; exact h1
  clear kb5_7
  have HB5 : Below w.heap.size w u5 := hM.bel
  have sz5 : u4.heap.size ≤ u5.heap.size := hM.sz
  obtain ⟨⟨l5p0, K5p0⟩, ⟨l5p1, K5p1⟩, ⟨l5p2, K5p2⟩, ⟨l5p3, K5p3⟩, ⟨l5n1_7, K5n1_7⟩, ⟨l5n2_7, K5n2_7⟩, ⟨l5n3_7, K5n3_7⟩, ⟨l5n4_7, K5n4_7⟩, -⟩ := hM.ks.up hM.sz
  dsimp only at l5p0 K5p0 l5p1 K5p1 l5p2 K5p2 l5p3 K5p3 l5n1_7 K5n1_7 l5n2_7 K5n2_7 l5n3_7 K5n3_7 l5n4_7 K5n4_7
  simp only [ovr, List.set_cons_zero, List.set_cons_succ, e54, e55, e56, e57, e53, e58, e59, e18, e17]
  clear hM hG hO hN hall e54 e55 e56 e57 e53 e58 e59 e18 e17 K4n1_7 K4n2_7 K4n3_7 K4p0 K4p1 K4p2 K4p3 Kb4_7 HB4
  clear tZ
  go_upto_region 6 with fail
  refine region_plain [61, 62, 63, 64, 60, 65, 66, 19, 20] (fun fZ tZ uZ => MR w.heap.size w (u5.heap.size) [(w.heap.size, LN a), (w.heap.size + 1, LN b), (w.heap.size + 1 + 1, [.int .u64 (0), .int .u64 (0), .int .u64 (0), .int .u64 (0)]), (w.heap.size + 1 + 1 + 1, LW n), (b1_7, [.int .u64 (0), .int .u64 (0), .int .u64 (0), .int .u64 (0)]), (b2_7, [.int .u64 (0), .int .u64 (0), .int .u64 (0), .int .u64 (0)]), (b3_7, [.int .u64 (0), .int .u64 (0), .int .u64 (0), .int .u64 (0)]), (b4_7, [.int .u64 (0), .int .u64 (0), .int .u64 (0), .int .u64 (0)]), (b5_7, [.int .u64 (0), .int .u64 (0), .int .u64 (0), .int .u64 (0)])] [] [(fZ 7, fZ 8, tZ 19, L0s, [.int .u64 (0), .int .u64 (0), .int .u64 (0), .int .u64 (0)])] uZ ∧ Gs fZ tZ [(0, 61, NV a), (1, 62, NV b), (2, 63, .agg #[.int .u64 (0), .int .u64 (0), .int .u64 (0), .int .u64 (0)]), (3, 64, .tuple #[A4 (0) (0) (0) (0), .int .i64 20]), (4, 60, .tuple #[A4 (0) (0) (0) (0), .int .i64 20]), (5, 65, A4 (0) (0) (0) (0)), (6, 66, .int .i64 20), (9, 20, .int .i64 20)] ∧ Os fZ [(8, 7)] ∧ Ns fZ tZ []) (by kernel_rfl) ?_ ?_ ?_
  · exact ⟨{ bel := HB5, lo := HB5.size, sz := Nat.le_refl _, ks := ⟨⟨l5p0, K5p0⟩, ⟨l5p1, K5p1⟩, ⟨l5p2, K5p2⟩, ⟨l5p3, K5p3⟩, ⟨l5n1_7, K5n1_7⟩, ⟨l5n2_7, K5n2_7⟩, ⟨l5n3_7, K5n3_7⟩, ⟨l5n4_7, K5n4_7⟩, ⟨lb5_7, Kb5_7⟩, trivial⟩, ex := trivial, nw := ⟨fun e => (by cases e), trivial⟩, nd := ⟨fun e => (by cases e), trivial⟩ }, Gs.none _ _, Os.none _, trivial⟩
  · rintro fZ tZ uZ iZ oZ aZ hF ⟨hM, hG, hO, hN⟩ ho hfi hdep
    obtain ⟨hS, hV⟩ := hF.two 120 (by decide) rfl (by decide)
    rcases cZ10 ho with rfl | rfl | rfl | rfl | rfl | rfl | rfl | rfl | rfl | rfl <;> cases ho
    · exact t_load (show aZ.eval (.tmp 4) = .pointer (some ⟨w.heap.size, 0, none⟩) from (hF.out 4 (by decide)).trans rfl) hM.ks.1.2 Try.underlying25 info_api_Nat hF hS rfl rfl rfl rfl rfl (by decide) (Jm hM hG hO hN)
    · exact t_load (show aZ.eval (.tmp 5) = .pointer (some ⟨w.heap.size + 1, 0, none⟩) from (hF.out 5 (by decide)).trans rfl) hM.ks.2.1.2 Try.underlying25 info_api_Nat hF hS rfl rfl rfl rfl rfl (by decide) (Jm hM hG hO hN)
    · exact t_load (show aZ.eval (.tmp 6) = .pointer (some ⟨w.heap.size + 1 + 1, 0, none⟩) from (hF.out 6 (by decide)).trans rfl) hM.ks.2.2.1.2 Try.underlying25 info_api_Nat hF hS rfl rfl rfl rfl rfl (by decide) (Jm hM hG hO hN)
    · exact t_call (vs := [NV a, NV b, .agg #[.int .u64 (0), .int .u64 (0), .int .u64 (0), .int .u64 (0)]]) (by show [aZ.eval (.tmp 61), aZ.eval (.tmp 62), aZ.eval (.tmp 63)] = _; rw [(ve 61 hV (hG.1 (dd 0 hdep))), (ve 62 hV (hG.2.1 (dd 1 hdep))), (ve 63 hV (hG.2.2.1 (dd 2 hdep)))]) ent_seneschalref02_Mul (xMul0 a b uZ ha hb) hF hS rfl rfl rfl rfl (by decide) (fun _ hB => (Jm (hM.call hB) hG hO hN))
    · exact t_move (ve 64 hV (hG.2.2.2.1 (dd 3 hdep))) hF hS rfl rfl rfl rfl (by decide) (Jm hM hG hO hN)
    · exact t_extract (ve 60 hV (hG.2.2.2.2.1 (dd 4 hdep))) hF hS rfl rfl rfl rfl rfl (by decide) (Jm hM hG hO hN)
    · exact t_extract (ve 60 hV (hG.2.2.2.2.1 (dd 4 hdep))) hF hS rfl rfl rfl rfl rfl (by decide) (Jm hM hG hO hN)
    · have q1 : fZ 8 = false := Os.not (hO.1) hfi
      exact t_alloc (al_api_Nat uZ) hF hS rfl rfl rfl rfl (by decide) ⟨MR.newF 0 hM rfl hfi q1, Gs.other rfl hG, hO.keep rfl, Ns.step hN rfl⟩
    · exact t_storeN 0 hM rfl (dd 7 hdep) hfi (hV 19 (by decide)) (ve 65 hV (hG.2.2.2.2.2.1 (dd 5 hdep))) rfl info_api_Nat rfl hF rfl rfl rfl rfl (fun _ h => ⟨h, Gs.idle rfl hG, ⟨fun _ => (dd 7 hdep :), trivial⟩, Ns.idle hN⟩)
    · exact t_assign (ve 66 hV (hG.2.2.2.2.2.2.1 (dd 6 hdep))) hF hS rfl rfl rfl rfl (by decide) (Jm hM hG hO hN)
  rintro fZ tZ u6 ⟨hM, hG, hO, hN⟩ hall
  obtain ⟨e61, e62, e63, e64, e60, e65, e66, e20, -⟩ := Gs.all 10 hall hG rfl
  obtain ⟨b6_7, ee19, pb6_7, lb6_7, kb6_7⟩ := hM.nw.1 (hall 7 (by decide))
  have e19 : tZ 19 = .pointer (some ⟨b6_7, 0, none⟩) := ee19
  clear ee19
  have Kb6_7 : CV u6 b6_7 ([.int .u64 (0), .int .u64 (0), .int .u64 (0), .int .u64 (0)]) := by
    have h1 : CV u6 b6_7 (bif fZ 8 then [.int .u64 (0), .int .u64 (0), .int .u64 (0), .int .u64 (0)] else L0s) := kb6_7
    rw [hall 8 (by decide)] at h1; exact h1
  clear kb6_7
  have HB6 : Below w.heap.size w u6 := hM.bel
  have sz6 : u5.heap.size ≤ u6.heap.size := hM.sz
  obtain ⟨-, -, ⟨l6p2, K6p2⟩, ⟨l6p3, K6p3⟩, ⟨l6n1_7, K6n1_7⟩, ⟨l6n2_7, K6n2_7⟩, ⟨l6n3_7, K6n3_7⟩, ⟨l6n4_7, K6n4_7⟩, ⟨l6n5_7, K6n5_7⟩, -⟩ := hM.ks.up hM.sz
  dsimp only at l6p2 K6p2 l6p3 K6p3 l6n1_7 K6n1_7 l6n2_7 K6n2_7 l6n3_7 K6n3_7 l6n4_7 K6n4_7 l6n5_7 K6n5_7
  simp only [ovr, List.set_cons_zero, List.set_cons_succ, e61, e62, e63, e64, e60, e65, e66, e20, e19]
  clear hM hG hO hN hall e61 e62 e63 e64 e60 e65 e66 e20 e19 K5n1_7 K5n2_7 K5n3_7 K5n4_7 K5p0 K5p1 K5p2 K5p3 Kb5_7 HB5
  clear tZ
  go_upto_region 7 with fail
  refine region_plain [68, 69, 70, 67, 71, 72, 21, 22] (fun fZ tZ uZ => MR w.heap.size w (u6.heap.size) [(w.heap.size + 1 + 1, [.int .u64 (0), .int .u64 (0), .int .u64 (0), .int .u64 (0)]), (w.heap.size + 1 + 1 + 1, LW n), (b1_7, [.int .u64 (0), .int .u64 (0), .int .u64 (0), .int .u64 (0)]), (b2_7, [.int .u64 (0), .int .u64 (0), .int .u64 (0), .int .u64 (0)]), (b3_7, [.int .u64 (0), .int .u64 (0), .int .u64 (0), .int .u64 (0)]), (b4_7, [.int .u64 (0), .int .u64 (0), .int .u64 (0), .int .u64 (0)]), (b5_7, [.int .u64 (0), .int .u64 (0), .int .u64 (0), .int .u64 (0)]), (b6_7, [.int .u64 (0), .int .u64 (0), .int .u64 (0), .int .u64 (0)])] [] [(fZ 6, fZ 7, tZ 21, L0s, [.int .u64 (0), .int .u64 (0), .int .u64 (0), .int .u64 (0)])] uZ ∧ Gs fZ tZ [(0, 68, WV n), (1, 69, .agg #[.int .u64 (0), .int .u64 (0), .int .u64 (0), .int .u64 (0)]), (2, 70, .tuple #[A4 (0) (0) (0) (0), .int .i64 20]), (3, 67, .tuple #[A4 (0) (0) (0) (0), .int .i64 20]), (4, 71, A4 (0) (0) (0) (0)), (5, 72, .int .i64 20), (8, 22, .int .i64 20)] ∧ Os fZ [(7, 6)] ∧ Ns fZ tZ []) (by kernel_rfl) ?_ ?_ ?_
  · exact ⟨{ bel := HB6, lo := HB6.size, sz := Nat.le_refl _, ks := ⟨⟨l6p2, K6p2⟩, ⟨l6p3, K6p3⟩, ⟨l6n1_7, K6n1_7⟩, ⟨l6n2_7, K6n2_7⟩, ⟨l6n3_7, K6n3_7⟩, ⟨l6n4_7, K6n4_7⟩, ⟨l6n5_7, K6n5_7⟩, ⟨lb6_7, Kb6_7⟩, trivial⟩, ex := trivial, nw := ⟨fun e => (by cases e), trivial⟩, nd := ⟨fun e => (by cases e), trivial⟩ }, Gs.none _ _, Os.none _, trivial⟩
  · rintro fZ tZ uZ iZ oZ aZ hF ⟨hM, hG, hO, hN⟩ ho hfi hdep
    obtain ⟨hS, hV⟩ := hF.two 120 (by decide) rfl (by decide)
    rcases cZ9 ho with rfl | rfl | rfl | rfl | rfl | rfl | rfl | rfl | rfl <;> cases ho
    · exact t_load (show aZ.eval (.tmp 7) = .pointer (some ⟨w.heap.size + 1 + 1 + 1, 0, none⟩) from (hF.out 7 (by decide)).trans rfl) hM.ks.2.1.2 Try.underlying37 info_api_Wide hF hS rfl rfl rfl rfl rfl (by decide) (Jm hM hG hO hN)
    · exact t_load (show aZ.eval (.tmp 6) = .pointer (some ⟨w.heap.size + 1 + 1, 0, none⟩) from (hF.out 6 (by decide)).trans rfl) hM.ks.1.2 Try.underlying25 info_api_Nat hF hS rfl rfl rfl rfl rfl (by decide) (Jm hM hG hO hN)
    · exact t_call (vs := [WV n, .agg #[.int .u64 (0), .int .u64 (0), .int .u64 (0), .int .u64 (0)]]) (by show [aZ.eval (.tmp 68), aZ.eval (.tmp 69)] = _; rw [(ve 68 hV (hG.1 (dd 0 hdep))), (ve 69 hV (hG.2.1 (dd 1 hdep)))]) ent_mod_Reduce (mReduce0 n uZ) hF hS rfl rfl rfl rfl (by decide) (fun _ hB => (Jm (hM.call hB) hG hO hN))
    · exact t_move (ve 70 hV (hG.2.2.1 (dd 2 hdep))) hF hS rfl rfl rfl rfl (by decide) (Jm hM hG hO hN)
    · exact t_extract (ve 67 hV (hG.2.2.2.1 (dd 3 hdep))) hF hS rfl rfl rfl rfl rfl (by decide) (Jm hM hG hO hN)
    · exact t_extract (ve 67 hV (hG.2.2.2.1 (dd 3 hdep))) hF hS rfl rfl rfl rfl rfl (by decide) (Jm hM hG hO hN)
    · have q1 : fZ 7 = false := Os.not (hO.1) hfi
      exact t_alloc (al_api_Nat uZ) hF hS rfl rfl rfl rfl (by decide) ⟨MR.newF 0 hM rfl hfi q1, Gs.other rfl hG, hO.keep rfl, Ns.step hN rfl⟩
    · exact t_storeN 0 hM rfl (dd 6 hdep) hfi (hV 21 (by decide)) (ve 71 hV (hG.2.2.2.2.1 (dd 4 hdep))) rfl info_api_Nat rfl hF rfl rfl rfl rfl (fun _ h => ⟨h, Gs.idle rfl hG, ⟨fun _ => (dd 6 hdep :), trivial⟩, Ns.idle hN⟩)
    · exact t_assign (ve 72 hV (hG.2.2.2.2.2.1 (dd 5 hdep))) hF hS rfl rfl rfl rfl (by decide) (Jm hM hG hO hN)
  rintro fZ tZ u7 ⟨hM, hG, hO, hN⟩ hall
  obtain ⟨e68, e69, e70, e67, e71, e72, e22, -⟩ := Gs.all 9 hall hG rfl
  obtain ⟨b7_6, ee21, pb7_6, lb7_6, kb7_6⟩ := hM.nw.1 (hall 6 (by decide))
  have e21 : tZ 21 = .pointer (some ⟨b7_6, 0, none⟩) := ee21
  clear ee21
  have Kb7_6 : CV u7 b7_6 ([.int .u64 (0), .int .u64 (0), .int .u64 (0), .int .u64 (0)]) := by
    have h1 : CV u7 b7_6 (bif fZ 7 then [.int .u64 (0), .int .u64 (0), .int .u64 (0), .int .u64 (0)] else L0s) := kb7_6
    rw [hall 7 (by decide)] at h1; exact h1
  clear kb7_6
  have HB7 : Below w.heap.size w u7 := hM.bel
  have sz7 : u6.heap.size ≤ u7.heap.size := hM.sz
  obtain ⟨⟨l7p2, K7p2⟩, ⟨l7p3, K7p3⟩, ⟨l7n1_7, K7n1_7⟩, ⟨l7n2_7, K7n2_7⟩, ⟨l7n3_7, K7n3_7⟩, ⟨l7n4_7, K7n4_7⟩, ⟨l7n5_7, K7n5_7⟩, ⟨l7n6_7, K7n6_7⟩, -⟩ := hM.ks.up hM.sz
  dsimp only at l7p2 K7p2 l7p3 K7p3 l7n1_7 K7n1_7 l7n2_7 K7n2_7 l7n3_7 K7n3_7 l7n4_7 K7n4_7 l7n5_7 K7n5_7 l7n6_7 K7n6_7
  simp only [ovr, List.set_cons_zero, List.set_cons_succ, e68, e69, e70, e67, e71, e72, e22, e21]
  clear hM hG hO hN hall e68 e69 e70 e67 e71 e72 e22 e21 K6n1_7 K6n2_7 K6n3_7 K6n4_7 K6n5_7 K6p2 K6p3 Kb6_7 HB6
  clear tZ
  go_upto_region 8 with fail
  refine region_plain [74, 75, 76, 73, 77, 78, 23, 24] (fun fZ tZ uZ => MR w.heap.size w (u7.heap.size) [(w.heap.size + 1 + 1, [.int .u64 (0), .int .u64 (0), .int .u64 (0), .int .u64 (0)]), (w.heap.size + 1 + 1 + 1, LW n), (b1_7, [.int .u64 (0), .int .u64 (0), .int .u64 (0), .int .u64 (0)]), (b2_7, [.int .u64 (0), .int .u64 (0), .int .u64 (0), .int .u64 (0)]), (b3_7, [.int .u64 (0), .int .u64 (0), .int .u64 (0), .int .u64 (0)]), (b4_7, [.int .u64 (0), .int .u64 (0), .int .u64 (0), .int .u64 (0)]), (b5_7, [.int .u64 (0), .int .u64 (0), .int .u64 (0), .int .u64 (0)]), (b6_7, [.int .u64 (0), .int .u64 (0), .int .u64 (0), .int .u64 (0)]), (b7_6, [.int .u64 (0), .int .u64 (0), .int .u64 (0), .int .u64 (0)])] [] [(fZ 6, fZ 7, tZ 23, L0s, [.int .u64 (0), .int .u64 (0), .int .u64 (0), .int .u64 (0)])] uZ ∧ Gs fZ tZ [(0, 74, WV n), (1, 75, .agg #[.int .u64 (0), .int .u64 (0), .int .u64 (0), .int .u64 (0)]), (2, 76, .tuple #[A4 (0) (0) (0) (0), .int .i64 20]), (3, 73, .tuple #[A4 (0) (0) (0) (0), .int .i64 20]), (4, 77, A4 (0) (0) (0) (0)), (5, 78, .int .i64 20), (8, 24, .int .i64 20)] ∧ Os fZ [(7, 6)] ∧ Ns fZ tZ []) (by kernel_rfl) ?_ ?_ ?_
  · exact ⟨{ bel := HB7, lo := HB7.size, sz := Nat.le_refl _, ks := ⟨⟨l7p2, K7p2⟩, ⟨l7p3, K7p3⟩, ⟨l7n1_7, K7n1_7⟩, ⟨l7n2_7, K7n2_7⟩, ⟨l7n3_7, K7n3_7⟩, ⟨l7n4_7, K7n4_7⟩, ⟨l7n5_7, K7n5_7⟩, ⟨l7n6_7, K7n6_7⟩, ⟨lb7_6, Kb7_6⟩, trivial⟩, ex := trivial, nw := ⟨fun e => (by cases e), trivial⟩, nd := ⟨fun e => (by cases e), trivial⟩ }, Gs.none _ _, Os.none _, trivial⟩
  · rintro fZ tZ uZ iZ oZ aZ hF ⟨hM, hG, hO, hN⟩ ho hfi hdep
    obtain ⟨hS, hV⟩ := hF.two 120 (by decide) rfl (by decide)
    rcases cZ9 ho with rfl | rfl | rfl | rfl | rfl | rfl | rfl | rfl | rfl <;> cases ho
    · exact t_load (show aZ.eval (.tmp 7) = .pointer (some ⟨w.heap.size + 1 + 1 + 1, 0, none⟩) from (hF.out 7 (by decide)).trans rfl) hM.ks.2.1.2 Try.underlying37 info_api_Wide hF hS rfl rfl rfl rfl rfl (by decide) (Jm hM hG hO hN)
    · exact t_load (show aZ.eval (.tmp 6) = .pointer (some ⟨w.heap.size + 1 + 1, 0, none⟩) from (hF.out 6 (by decide)).trans rfl) hM.ks.1.2 Try.underlying25 info_api_Nat hF hS rfl rfl rfl rfl rfl (by decide) (Jm hM hG hO hN)
    · exact t_call (vs := [WV n, .agg #[.int .u64 (0), .int .u64 (0), .int .u64 (0), .int .u64 (0)]]) (by show [aZ.eval (.tmp 74), aZ.eval (.tmp 75)] = _; rw [(ve 74 hV (hG.1 (dd 0 hdep))), (ve 75 hV (hG.2.1 (dd 1 hdep)))]) ent_seneschalref02_Reduce (xReduce0 n uZ) hF hS rfl rfl rfl rfl (by decide) (fun _ hB => (Jm (hM.call hB) hG hO hN))
    · exact t_move (ve 76 hV (hG.2.2.1 (dd 2 hdep))) hF hS rfl rfl rfl rfl (by decide) (Jm hM hG hO hN)
    · exact t_extract (ve 73 hV (hG.2.2.2.1 (dd 3 hdep))) hF hS rfl rfl rfl rfl rfl (by decide) (Jm hM hG hO hN)
    · exact t_extract (ve 73 hV (hG.2.2.2.1 (dd 3 hdep))) hF hS rfl rfl rfl rfl rfl (by decide) (Jm hM hG hO hN)
    · have q1 : fZ 7 = false := Os.not (hO.1) hfi
      exact t_alloc (al_api_Nat uZ) hF hS rfl rfl rfl rfl (by decide) ⟨MR.newF 0 hM rfl hfi q1, Gs.other rfl hG, hO.keep rfl, Ns.step hN rfl⟩
    · exact t_storeN 0 hM rfl (dd 6 hdep) hfi (hV 23 (by decide)) (ve 77 hV (hG.2.2.2.2.1 (dd 4 hdep))) rfl info_api_Nat rfl hF rfl rfl rfl rfl (fun _ h => ⟨h, Gs.idle rfl hG, ⟨fun _ => (dd 6 hdep :), trivial⟩, Ns.idle hN⟩)
    · exact t_assign (ve 78 hV (hG.2.2.2.2.2.1 (dd 5 hdep))) hF hS rfl rfl rfl rfl (by decide) (Jm hM hG hO hN)
  rintro fZ tZ u8 ⟨hM, hG, hO, hN⟩ hall
  obtain ⟨e74, e75, e76, e73, e77, e78, e24, -⟩ := Gs.all 9 hall hG rfl
  obtain ⟨b8_6, ee23, pb8_6, lb8_6, kb8_6⟩ := hM.nw.1 (hall 6 (by decide))
  have e23 : tZ 23 = .pointer (some ⟨b8_6, 0, none⟩) := ee23
  clear ee23
  have Kb8_6 : CV u8 b8_6 ([.int .u64 (0), .int .u64 (0), .int .u64 (0), .int .u64 (0)]) := by
    have h1 : CV u8 b8_6 (bif fZ 7 then [.int .u64 (0), .int .u64 (0), .int .u64 (0), .int .u64 (0)] else L0s) := kb8_6
    rw [hall 7 (by decide)] at h1; exact h1
  clear kb8_6
  have HB8 : Below w.heap.size w u8 := hM.bel
  have sz8 : u7.heap.size ≤ u8.heap.size := hM.sz
  obtain ⟨-, -, ⟨l8n1_7, K8n1_7⟩, ⟨l8n2_7, K8n2_7⟩, ⟨l8n3_7, K8n3_7⟩, ⟨l8n4_7, K8n4_7⟩, ⟨l8n5_7, K8n5_7⟩, ⟨l8n6_7, K8n6_7⟩, ⟨l8n7_6, K8n7_6⟩, -⟩ := hM.ks.up hM.sz
  dsimp only at l8n1_7 K8n1_7 l8n2_7 K8n2_7 l8n3_7 K8n3_7 l8n4_7 K8n4_7 l8n5_7 K8n5_7 l8n6_7 K8n6_7 l8n7_6 K8n7_6
  simp only [ovr, List.set_cons_zero, List.set_cons_succ, e74, e75, e76, e73, e77, e78, e24, e23]
  clear hM hG hO hN hall e74 e75 e76 e73 e77 e78 e24 e23 K7n1_7 K7n2_7 K7n3_7 K7n4_7 K7n5_7 K7n6_7 K7p2 K7p3 Kb7_6 HB7
  clear tZ
  go_upto_region 9 with fail
  refine region_plain [79, 80, 81, 82, 83, 84, 85, 86, 87, 88, 89, 90, 91, 92, 93, 94, 95, 96, 97, 98, 99, 100, 101, 102, 103, 104, 105, 106, 107, 108, 109, 110, 111, 112, 113, 114, 115, 116, 117, 118, 119, 8] (fun fZ tZ uZ => MR w.heap.size w (u8.heap.size) [(b1_7, [.int .u64 (0), .int .u64 (0), .int .u64 (0), .int .u64 (0)]), (b2_7, [.int .u64 (0), .int .u64 (0), .int .u64 (0), .int .u64 (0)]), (b3_7, [.int .u64 (0), .int .u64 (0), .int .u64 (0), .int .u64 (0)]), (b4_7, [.int .u64 (0), .int .u64 (0), .int .u64 (0), .int .u64 (0)]), (b5_7, [.int .u64 (0), .int .u64 (0), .int .u64 (0), .int .u64 (0)]), (b6_7, [.int .u64 (0), .int .u64 (0), .int .u64 (0), .int .u64 (0)]), (b7_6, [.int .u64 (0), .int .u64 (0), .int .u64 (0), .int .u64 (0)]), (b8_6, [.int .u64 (0), .int .u64 (0), .int .u64 (0), .int .u64 (0)])] [] [] uZ ∧ Gs fZ tZ [(0, 79, .agg #[.int .u64 (0), .int .u64 (0), .int .u64 (0), .int .u64 (0)]), (1, 80, .agg #[.int .u64 (0), .int .u64 (0), .int .u64 (0), .int .u64 (0)]), (2, 81, .bool true), (3, 82, .bool true), (4, 83, .int .i64 20), (5, 84, .int .i64 20), (6, 85, .bool true), (7, 86, .bool true), (8, 87, .bool true), (9, 88, .agg #[.int .u64 (0), .int .u64 (0), .int .u64 (0), .int .u64 (0)]), (10, 89, .agg #[.int .u64 (0), .int .u64 (0), .int .u64 (0), .int .u64 (0)]), (11, 90, .bool true), (12, 91, .bool true), (13, 92, .bool true), (14, 93, .int .i64 20), (15, 94, .int .i64 20), (16, 95, .bool true), (17, 96, .bool true), (18, 97, .bool true), (19, 98, .agg #[.int .u64 (0), .int .u64 (0), .int .u64 (0), .int .u64 (0)]), (20, 99, .agg #[.int .u64 (0), .int .u64 (0), .int .u64 (0), .int .u64 (0)]), (21, 100, .bool true), (22, 101, .bool true), (23, 102, .bool true), (24, 103, .int .i64 20), (25, 104, .int .i64 20), (26, 105, .bool true), (27, 106, .bool true), (28, 107, .bool true), (29, 108, .agg #[.int .u64 (0), .int .u64 (0), .int .u64 (0), .int .u64 (0)]), (30, 109, .agg #[.int .u64 (0), .int .u64 (0), .int .u64 (0), .int .u64 (0)]), (31, 110, .bool true), (32, 111, .bool true), (33, 112, .bool true), (34, 113, .int .i64 20), (35, 114, .int .i64 20), (36, 115, .bool true), (37, 116, .bool true), (38, 117, .bool true), (39, 118, .bool true), (40, 119, .bool true), (41, 8, .bool true)] ∧ Os fZ [] ∧ Ns fZ tZ []) (by kernel_rfl) ?_ ?_ ?_
  · exact ⟨{ bel := HB8, lo := HB8.size, sz := Nat.le_refl _, ks := ⟨⟨l8n1_7, K8n1_7⟩, ⟨l8n2_7, K8n2_7⟩, ⟨l8n3_7, K8n3_7⟩, ⟨l8n4_7, K8n4_7⟩, ⟨l8n5_7, K8n5_7⟩, ⟨l8n6_7, K8n6_7⟩, ⟨l8n7_6, K8n7_6⟩, ⟨lb8_6, Kb8_6⟩, trivial⟩, ex := trivial, nw := trivial, nd := trivial }, Gs.none _ _, Os.none _, trivial⟩
  · rintro fZ tZ uZ iZ oZ aZ hF ⟨hM, hG, hO, hN⟩ ho hfi hdep
    obtain ⟨hS, hV⟩ := hF.two 120 (by decide) rfl (by decide)
    rcases cZ42 ho with rfl | rfl | rfl | rfl | rfl | rfl | rfl | rfl | rfl | rfl | rfl | rfl | rfl | rfl | rfl | rfl | rfl | rfl | rfl | rfl | rfl | rfl | rfl | rfl | rfl | rfl | rfl | rfl | rfl | rfl | rfl | rfl | rfl | rfl | rfl | rfl | rfl | rfl | rfl | rfl | rfl | rfl <;> cases ho
    · exact t_load (show aZ.eval (.tmp 9) = .pointer (some ⟨b1_7, 0, none⟩) from (hF.out 9 (by decide)).trans rfl) hM.ks.1.2 Try.underlying25 info_api_Nat hF hS rfl rfl rfl rfl rfl (by decide) (Jt hM hG hN)
    · exact t_load (show aZ.eval (.tmp 11) = .pointer (some ⟨b2_7, 0, none⟩) from (hF.out 11 (by decide)).trans rfl) hM.ks.2.1.2 Try.underlying25 info_api_Nat hF hS rfl rfl rfl rfl rfl (by decide) (Jt hM hG hN)
    · refine op_plain rfl rfl (fun K hK => ?_)
      refine wp_bin rfl (ve 79 hV (hG.1 (dd 0 hdep))) (ve 80 hV (hG.2.1 (dd 1 hdep))) (by rw [eql_w]) ?_
      exact tell hK hF hS (by decide) (Jt hM hG hN)
    · exact t_move (ve 81 hV (hG.2.2.1 (dd 2 hdep))) hF hS rfl rfl rfl rfl (by decide) (Jt hM hG hN)
    · refine wpOp_step rfl (fun K hK => ?_)
      have yg : fZ 3 = true := hdep ⟨3, .guard⟩ (by simp) rfl
      have eg : tZ 82 = .bool true := hG.2.2.2.1 yg
      rw [if_pos (wanted_of rfl rfl (show aZ.tmps[82]? = some (.bool true) by rw [hF.tmps (N := 120) (by decide) rfl 82 (by decide) (by decide), eg]))]
      refine wp_move rfl (show aZ.eval (.tmp 10) = .int .i64 20 from (hF.out 10 (by decide)).trans rfl) ?_
      exact tell hK hF hS (by decide) (Jt hM hG hN)
    · refine wpOp_step rfl (fun K hK => ?_)
      have yg : fZ 3 = true := hdep ⟨3, .guard⟩ (by simp) rfl
      have eg : tZ 82 = .bool true := hG.2.2.2.1 yg
      rw [if_pos (wanted_of rfl rfl (show aZ.tmps[82]? = some (.bool true) by rw [hF.tmps (N := 120) (by decide) rfl 82 (by decide) (by decide), eg]))]
      refine wp_move rfl (show aZ.eval (.tmp 12) = .int .i64 20 from (hF.out 12 (by decide)).trans rfl) ?_
      exact tell hK hF hS (by decide) (Jt hM hG hN)
    · refine wpOp_step rfl (fun K hK => ?_)
      have yg : fZ 3 = true := hdep ⟨3, .guard⟩ (by simp) rfl
      have eg : tZ 82 = .bool true := hG.2.2.2.1 yg
      rw [if_pos (wanted_of rfl rfl (show aZ.tmps[82]? = some (.bool true) by rw [hF.tmps (N := 120) (by decide) rfl 82 (by decide) (by decide), eg]))]
      refine wp_bin rfl (ve 83 hV (hG.2.2.2.2.1 (dd 4 hdep))) (ve 84 hV (hG.2.2.2.2.2.1 (dd 5 hdep))) (eql_i _ _ _ 20 20 _ uZ rfl) ?_
      exact tell hK hF hS (by decide) (Jt hM hG hN)
    · refine op_plain rfl rfl (fun K hK => ?_)
      refine wp_pick rfl (ve 82 hV (hG.2.2.2.1 (dd 3 hdep))) (b := true) ((if_pos rfl).trans (ve 85 hV (hG.2.2.2.2.2.2.1 (dd 6 hdep)))) ?_
      exact tell hK hF hS (by decide) (Jt hM hG hN)
    · exact t_move (ve 86 hV (hG.2.2.2.2.2.2.2.1 (dd 7 hdep))) hF hS rfl rfl rfl rfl (by decide) (Jt hM hG hN)
    · refine wpOp_step rfl (fun K hK => ?_)
      have yg : fZ 8 = true := hdep ⟨8, .guard⟩ (by simp) rfl
      have eg : tZ 87 = .bool true := hG.2.2.2.2.2.2.2.2.1 yg
      rw [if_pos (wanted_of rfl rfl (show aZ.tmps[87]? = some (.bool true) by rw [hF.tmps (N := 120) (by decide) rfl 87 (by decide) (by decide), eg]))]
      refine wp_load_mid 25 _ rfl _ 0 (show aZ.eval (.tmp 13) = .pointer (some ⟨b3_7, 0, none⟩) from (hF.out 13 (by decide)).trans rfl) _ _ (CV.range hM.ks.2.2.1.2) Try.underlying25 rfl info_api_Nat ?_
      exact tell hK hF hS (by decide) (Jt hM hG hN)
    · refine wpOp_step rfl (fun K hK => ?_)
      have yg : fZ 8 = true := hdep ⟨8, .guard⟩ (by simp) rfl
      have eg : tZ 87 = .bool true := hG.2.2.2.2.2.2.2.2.1 yg
      rw [if_pos (wanted_of rfl rfl (show aZ.tmps[87]? = some (.bool true) by rw [hF.tmps (N := 120) (by decide) rfl 87 (by decide) (by decide), eg]))]
      refine wp_load_mid 25 _ rfl _ 0 (show aZ.eval (.tmp 15) = .pointer (some ⟨b4_7, 0, none⟩) from (hF.out 15 (by decide)).trans rfl) _ _ (CV.range hM.ks.2.2.2.1.2) Try.underlying25 rfl info_api_Nat ?_
      exact tell hK hF hS (by decide) (Jt hM hG hN)
    · refine wpOp_step rfl (fun K hK => ?_)
      have yg : fZ 8 = true := hdep ⟨8, .guard⟩ (by simp) rfl
      have eg : tZ 87 = .bool true := hG.2.2.2.2.2.2.2.2.1 yg
      rw [if_pos (wanted_of rfl rfl (show aZ.tmps[87]? = some (.bool true) by rw [hF.tmps (N := 120) (by decide) rfl 87 (by decide) (by decide), eg]))]
      refine wp_bin rfl (ve 88 hV (hG.2.2.2.2.2.2.2.2.2.1 (dd 9 hdep))) (ve 89 hV (hG.2.2.2.2.2.2.2.2.2.2.1 (dd 10 hdep))) (by rw [eql_w]) ?_
      exact tell hK hF hS (by decide) (Jt hM hG hN)
    · refine op_plain rfl rfl (fun K hK => ?_)
      refine wp_pick rfl (ve 87 hV (hG.2.2.2.2.2.2.2.2.1 (dd 8 hdep))) (b := true) ((if_pos rfl).trans (ve 90 hV (hG.2.2.2.2.2.2.2.2.2.2.2.1 (dd 11 hdep)))) ?_
      exact tell hK hF hS (by decide) (Jt hM hG hN)
    · exact t_move (ve 91 hV (hG.2.2.2.2.2.2.2.2.2.2.2.2.1 (dd 12 hdep))) hF hS rfl rfl rfl rfl (by decide) (Jt hM hG hN)
    · refine wpOp_step rfl (fun K hK => ?_)
      have yg : fZ 13 = true := hdep ⟨13, .guard⟩ (by simp) rfl
      have eg : tZ 92 = .bool true := hG.2.2.2.2.2.2.2.2.2.2.2.2.2.1 yg
      rw [if_pos (wanted_of rfl rfl (show aZ.tmps[92]? = some (.bool true) by rw [hF.tmps (N := 120) (by decide) rfl 92 (by decide) (by decide), eg]))]
      refine wp_move rfl (show aZ.eval (.tmp 14) = .int .i64 20 from (hF.out 14 (by decide)).trans rfl) ?_
      exact tell hK hF hS (by decide) (Jt hM hG hN)
    · refine wpOp_step rfl (fun K hK => ?_)
      have yg : fZ 13 = true := hdep ⟨13, .guard⟩ (by simp) rfl
      have eg : tZ 92 = .bool true := hG.2.2.2.2.2.2.2.2.2.2.2.2.2.1 yg
      rw [if_pos (wanted_of rfl rfl (show aZ.tmps[92]? = some (.bool true) by rw [hF.tmps (N := 120) (by decide) rfl 92 (by decide) (by decide), eg]))]
      refine wp_move rfl (show aZ.eval (.tmp 16) = .int .i64 20 from (hF.out 16 (by decide)).trans rfl) ?_
      exact tell hK hF hS (by decide) (Jt hM hG hN)
    · refine wpOp_step rfl (fun K hK => ?_)
      have yg : fZ 13 = true := hdep ⟨13, .guard⟩ (by simp) rfl
      have eg : tZ 92 = .bool true := hG.2.2.2.2.2.2.2.2.2.2.2.2.2.1 yg
      rw [if_pos (wanted_of rfl rfl (show aZ.tmps[92]? = some (.bool true) by rw [hF.tmps (N := 120) (by decide) rfl 92 (by decide) (by decide), eg]))]
      refine wp_bin rfl (ve 93 hV (hG.2.2.2.2.2.2.2.2.2.2.2.2.2.2.1 (dd 14 hdep))) (ve 94 hV (hG.2.2.2.2.2.2.2.2.2.2.2.2.2.2.2.1 (dd 15 hdep))) (eql_i _ _ _ 20 20 _ uZ rfl) ?_
      exact tell hK hF hS (by decide) (Jt hM hG hN)
    · refine op_plain rfl rfl (fun K hK => ?_)
      refine wp_pick rfl (ve 92 hV (hG.2.2.2.2.2.2.2.2.2.2.2.2.2.1 (dd 13 hdep))) (b := true) ((if_pos rfl).trans (ve 95 hV (hG.2.2.2.2.2.2.2.2.2.2.2.2.2.2.2.2.1 (dd 16 hdep)))) ?_
      exact tell hK hF hS (by decide) (Jt hM hG hN)
    · exact t_move (ve 96 hV (hG.2.2.2.2.2.2.2.2.2.2.2.2.2.2.2.2.2.1 (dd 17 hdep))) hF hS rfl rfl rfl rfl (by decide) (Jt hM hG hN)
    · refine wpOp_step rfl (fun K hK => ?_)
      have yg : fZ 18 = true := hdep ⟨18, .guard⟩ (by simp) rfl
      have eg : tZ 97 = .bool true := hG.2.2.2.2.2.2.2.2.2.2.2.2.2.2.2.2.2.2.1 yg
      rw [if_pos (wanted_of rfl rfl (show aZ.tmps[97]? = some (.bool true) by rw [hF.tmps (N := 120) (by decide) rfl 97 (by decide) (by decide), eg]))]
      refine wp_load_mid 25 _ rfl _ 0 (show aZ.eval (.tmp 17) = .pointer (some ⟨b5_7, 0, none⟩) from (hF.out 17 (by decide)).trans rfl) _ _ (CV.range hM.ks.2.2.2.2.1.2) Try.underlying25 rfl info_api_Nat ?_
      exact tell hK hF hS (by decide) (Jt hM hG hN)
    · refine wpOp_step rfl (fun K hK => ?_)
      have yg : fZ 18 = true := hdep ⟨18, .guard⟩ (by simp) rfl
      have eg : tZ 97 = .bool true := hG.2.2.2.2.2.2.2.2.2.2.2.2.2.2.2.2.2.2.1 yg
      rw [if_pos (wanted_of rfl rfl (show aZ.tmps[97]? = some (.bool true) by rw [hF.tmps (N := 120) (by decide) rfl 97 (by decide) (by decide), eg]))]
      refine wp_load_mid 25 _ rfl _ 0 (show aZ.eval (.tmp 19) = .pointer (some ⟨b6_7, 0, none⟩) from (hF.out 19 (by decide)).trans rfl) _ _ (CV.range hM.ks.2.2.2.2.2.1.2) Try.underlying25 rfl info_api_Nat ?_
      exact tell hK hF hS (by decide) (Jt hM hG hN)
    · refine wpOp_step rfl (fun K hK => ?_)
      have yg : fZ 18 = true := hdep ⟨18, .guard⟩ (by simp) rfl
      have eg : tZ 97 = .bool true := hG.2.2.2.2.2.2.2.2.2.2.2.2.2.2.2.2.2.2.1 yg
      rw [if_pos (wanted_of rfl rfl (show aZ.tmps[97]? = some (.bool true) by rw [hF.tmps (N := 120) (by decide) rfl 97 (by decide) (by decide), eg]))]
      refine wp_bin rfl (ve 98 hV (hG.2.2.2.2.2.2.2.2.2.2.2.2.2.2.2.2.2.2.2.1 (dd 19 hdep))) (ve 99 hV (hG.2.2.2.2.2.2.2.2.2.2.2.2.2.2.2.2.2.2.2.2.1 (dd 20 hdep))) (by rw [eql_w]) ?_
      exact tell hK hF hS (by decide) (Jt hM hG hN)
    · refine op_plain rfl rfl (fun K hK => ?_)
      refine wp_pick rfl (ve 97 hV (hG.2.2.2.2.2.2.2.2.2.2.2.2.2.2.2.2.2.2.1 (dd 18 hdep))) (b := true) ((if_pos rfl).trans (ve 100 hV (hG.2.2.2.2.2.2.2.2.2.2.2.2.2.2.2.2.2.2.2.2.2.1 (dd 21 hdep)))) ?_
      exact tell hK hF hS (by decide) (Jt hM hG hN)
    · exact t_move (ve 101 hV (hG.2.2.2.2.2.2.2.2.2.2.2.2.2.2.2.2.2.2.2.2.2.2.1 (dd 22 hdep))) hF hS rfl rfl rfl rfl (by decide) (Jt hM hG hN)
    · refine wpOp_step rfl (fun K hK => ?_)
      have yg : fZ 23 = true := hdep ⟨23, .guard⟩ (by simp) rfl
      have eg : tZ 102 = .bool true := hG.2.2.2.2.2.2.2.2.2.2.2.2.2.2.2.2.2.2.2.2.2.2.2.1 yg
      rw [if_pos (wanted_of rfl rfl (show aZ.tmps[102]? = some (.bool true) by rw [hF.tmps (N := 120) (by decide) rfl 102 (by decide) (by decide), eg]))]
      refine wp_move rfl (show aZ.eval (.tmp 18) = .int .i64 20 from (hF.out 18 (by decide)).trans rfl) ?_
      exact tell hK hF hS (by decide) (Jt hM hG hN)
    · refine wpOp_step rfl (fun K hK => ?_)
      have yg : fZ 23 = true := hdep ⟨23, .guard⟩ (by simp) rfl
      have eg : tZ 102 = .bool true := hG.2.2.2.2.2.2.2.2.2.2.2.2.2.2.2.2.2.2.2.2.2.2.2.1 yg
      rw [if_pos (wanted_of rfl rfl (show aZ.tmps[102]? = some (.bool true) by rw [hF.tmps (N := 120) (by decide) rfl 102 (by decide) (by decide), eg]))]
      refine wp_move rfl (show aZ.eval (.tmp 20) = .int .i64 20 from (hF.out 20 (by decide)).trans rfl) ?_
      exact tell hK hF hS (by decide) (Jt hM hG hN)
    · refine wpOp_step rfl (fun K hK => ?_)
      have yg : fZ 23 = true := hdep ⟨23, .guard⟩ (by simp) rfl
      have eg : tZ 102 = .bool true := hG.2.2.2.2.2.2.2.2.2.2.2.2.2.2.2.2.2.2.2.2.2.2.2.1 yg
      rw [if_pos (wanted_of rfl rfl (show aZ.tmps[102]? = some (.bool true) by rw [hF.tmps (N := 120) (by decide) rfl 102 (by decide) (by decide), eg]))]
      refine wp_bin rfl (ve 103 hV (hG.2.2.2.2.2.2.2.2.2.2.2.2.2.2.2.2.2.2.2.2.2.2.2.2.1 (dd 24 hdep))) (ve 104 hV (hG.2.2.2.2.2.2.2.2.2.2.2.2.2.2.2.2.2.2.2.2.2.2.2.2.2.1 (dd 25 hdep))) (eql_i _ _ _ 20 20 _ uZ rfl) ?_
      exact tell hK hF hS (by decide) (Jt hM hG hN)
    · refine op_plain rfl rfl (fun K hK => ?_)
      refine wp_pick rfl (ve 102 hV (hG.2.2.2.2.2.2.2.2.2.2.2.2.2.2.2.2.2.2.2.2.2.2.2.1 (dd 23 hdep))) (b := true) ((if_pos rfl).trans (ve 105 hV (hG.2.2.2.2.2.2.2.2.2.2.2.2.2.2.2.2.2.2.2.2.2.2.2.2.2.2.1 (dd 26 hdep)))) ?_
      exact tell hK hF hS (by decide) (Jt hM hG hN)
    · exact t_move (ve 106 hV (hG.2.2.2.2.2.2.2.2.2.2.2.2.2.2.2.2.2.2.2.2.2.2.2.2.2.2.2.1 (dd 27 hdep))) hF hS rfl rfl rfl rfl (by decide) (Jt hM hG hN)
    · refine wpOp_step rfl (fun K hK => ?_)
      have yg : fZ 28 = true := hdep ⟨28, .guard⟩ (by simp) rfl
      have eg : tZ 107 = .bool true := hG.2.2.2.2.2.2.2.2.2.2.2.2.2.2.2.2.2.2.2.2.2.2.2.2.2.2.2.2.1 yg
      rw [if_pos (wanted_of rfl rfl (show aZ.tmps[107]? = some (.bool true) by rw [hF.tmps (N := 120) (by decide) rfl 107 (by decide) (by decide), eg]))]
      refine wp_load_mid 25 _ rfl _ 0 (show aZ.eval (.tmp 21) = .pointer (some ⟨b7_6, 0, none⟩) from (hF.out 21 (by decide)).trans rfl) _ _ (CV.range hM.ks.2.2.2.2.2.2.1.2) Try.underlying25 rfl info_api_Nat ?_
      exact tell hK hF hS (by decide) (Jt hM hG hN)
    · refine wpOp_step rfl (fun K hK => ?_)
      have yg : fZ 28 = true := hdep ⟨28, .guard⟩ (by simp) rfl
      have eg : tZ 107 = .bool true := hG.2.2.2.2.2.2.2.2.2.2.2.2.2.2.2.2.2.2.2.2.2.2.2.2.2.2.2.2.1 yg
      rw [if_pos (wanted_of rfl rfl (show aZ.tmps[107]? = some (.bool true) by rw [hF.tmps (N := 120) (by decide) rfl 107 (by decide) (by decide), eg]))]
      refine wp_load_mid 25 _ rfl _ 0 (show aZ.eval (.tmp 23) = .pointer (some ⟨b8_6, 0, none⟩) from (hF.out 23 (by decide)).trans rfl) _ _ (CV.range hM.ks.2.2.2.2.2.2.2.1.2) Try.underlying25 rfl info_api_Nat ?_
      exact tell hK hF hS (by decide) (Jt hM hG hN)
    · refine wpOp_step rfl (fun K hK => ?_)
      have yg : fZ 28 = true := hdep ⟨28, .guard⟩ (by simp) rfl
      have eg : tZ 107 = .bool true := hG.2.2.2.2.2.2.2.2.2.2.2.2.2.2.2.2.2.2.2.2.2.2.2.2.2.2.2.2.1 yg
      rw [if_pos (wanted_of rfl rfl (show aZ.tmps[107]? = some (.bool true) by rw [hF.tmps (N := 120) (by decide) rfl 107 (by decide) (by decide), eg]))]
      refine wp_bin rfl (ve 108 hV (hG.2.2.2.2.2.2.2.2.2.2.2.2.2.2.2.2.2.2.2.2.2.2.2.2.2.2.2.2.2.1 (dd 29 hdep))) (ve 109 hV (hG.2.2.2.2.2.2.2.2.2.2.2.2.2.2.2.2.2.2.2.2.2.2.2.2.2.2.2.2.2.2.1 (dd 30 hdep))) (by rw [eql_w]) ?_
      exact tell hK hF hS (by decide) (Jt hM hG hN)
    · refine op_plain rfl rfl (fun K hK => ?_)
      refine wp_pick rfl (ve 107 hV (hG.2.2.2.2.2.2.2.2.2.2.2.2.2.2.2.2.2.2.2.2.2.2.2.2.2.2.2.2.1 (dd 28 hdep))) (b := true) ((if_pos rfl).trans (ve 110 hV (hG.2.2.2.2.2.2.2.2.2.2.2.2.2.2.2.2.2.2.2.2.2.2.2.2.2.2.2.2.2.2.2.1 (dd 31 hdep)))) ?_
      exact tell hK hF hS (by decide) (Jt hM hG hN)
    · exact t_move (ve 111 hV (hG.2.2.2.2.2.2.2.2.2.2.2.2.2.2.2.2.2.2.2.2.2.2.2.2.2.2.2.2.2.2.2.2.1 (dd 32 hdep))) hF hS rfl rfl rfl rfl (by decide) (Jt hM hG hN)
    · refine wpOp_step rfl (fun K hK => ?_)
      have yg : fZ 33 = true := hdep ⟨33, .guard⟩ (by simp) rfl
      have eg : tZ 112 = .bool true := hG.2.2.2.2.2.2.2.2.2.2.2.2.2.2.2.2.2.2.2.2.2.2.2.2.2.2.2.2.2.2.2.2.2.1 yg
      rw [if_pos (wanted_of rfl rfl (show aZ.tmps[112]? = some (.bool true) by rw [hF.tmps (N := 120) (by decide) rfl 112 (by decide) (by decide), eg]))]
      refine wp_move rfl (show aZ.eval (.tmp 22) = .int .i64 20 from (hF.out 22 (by decide)).trans rfl) ?_
      exact tell hK hF hS (by decide) (Jt hM hG hN)
    · refine wpOp_step rfl (fun K hK => ?_)
      have yg : fZ 33 = true := hdep ⟨33, .guard⟩ (by simp) rfl
      have eg : tZ 112 = .bool true := hG.2.2.2.2.2.2.2.2.2.2.2.2.2.2.2.2.2.2.2.2.2.2.2.2.2.2.2.2.2.2.2.2.2.1 yg
      rw [if_pos (wanted_of rfl rfl (show aZ.tmps[112]? = some (.bool true) by rw [hF.tmps (N := 120) (by decide) rfl 112 (by decide) (by decide), eg]))]
      refine wp_move rfl (show aZ.eval (.tmp 24) = .int .i64 20 from (hF.out 24 (by decide)).trans rfl) ?_
      exact tell hK hF hS (by decide) (Jt hM hG hN)
    · refine wpOp_step rfl (fun K hK => ?_)
      have yg : fZ 33 = true := hdep ⟨33, .guard⟩ (by simp) rfl
      have eg : tZ 112 = .bool true := hG.2.2.2.2.2.2.2.2.2.2.2.2.2.2.2.2.2.2.2.2.2.2.2.2.2.2.2.2.2.2.2.2.2.1 yg
      rw [if_pos (wanted_of rfl rfl (show aZ.tmps[112]? = some (.bool true) by rw [hF.tmps (N := 120) (by decide) rfl 112 (by decide) (by decide), eg]))]
      refine wp_bin rfl (ve 113 hV (hG.2.2.2.2.2.2.2.2.2.2.2.2.2.2.2.2.2.2.2.2.2.2.2.2.2.2.2.2.2.2.2.2.2.2.1 (dd 34 hdep))) (ve 114 hV (hG.2.2.2.2.2.2.2.2.2.2.2.2.2.2.2.2.2.2.2.2.2.2.2.2.2.2.2.2.2.2.2.2.2.2.2.1 (dd 35 hdep))) (eql_i _ _ _ 20 20 _ uZ rfl) ?_
      exact tell hK hF hS (by decide) (Jt hM hG hN)
    · refine op_plain rfl rfl (fun K hK => ?_)
      refine wp_pick rfl (ve 112 hV (hG.2.2.2.2.2.2.2.2.2.2.2.2.2.2.2.2.2.2.2.2.2.2.2.2.2.2.2.2.2.2.2.2.2.1 (dd 33 hdep))) (b := true) ((if_pos rfl).trans (ve 115 hV (hG.2.2.2.2.2.2.2.2.2.2.2.2.2.2.2.2.2.2.2.2.2.2.2.2.2.2.2.2.2.2.2.2.2.2.2.2.1 (dd 36 hdep)))) ?_
      exact tell hK hF hS (by decide) (Jt hM hG hN)
    · exact t_move (ve 116 hV (hG.2.2.2.2.2.2.2.2.2.2.2.2.2.2.2.2.2.2.2.2.2.2.2.2.2.2.2.2.2.2.2.2.2.2.2.2.2.1 (dd 37 hdep))) hF hS rfl rfl rfl rfl (by decide) (Jt hM hG hN)
    · refine wpOp_step rfl (fun K hK => ?_)
      have yg : fZ 38 = true := hdep ⟨38, .guard⟩ (by simp) rfl
      have eg : tZ 117 = .bool true := hG.2.2.2.2.2.2.2.2.2.2.2.2.2.2.2.2.2.2.2.2.2.2.2.2.2.2.2.2.2.2.2.2.2.2.2.2.2.2.1 yg
      rw [if_pos (wanted_of rfl rfl (show aZ.tmps[117]? = some (.bool true) by rw [hF.tmps (N := 120) (by decide) rfl 117 (by decide) (by decide), eg]))]
      refine wp_callF rfl (vs := []) (by show [] = _; rfl) ent_seneschallaw02_works (works2 uZ) (fun vZ hB => ?_)
      exact tell hK hF hS (by decide) (Jt (hM.call hB) hG hN)
    · refine op_plain rfl rfl (fun K hK => ?_)
      refine wp_pick rfl (ve 117 hV (hG.2.2.2.2.2.2.2.2.2.2.2.2.2.2.2.2.2.2.2.2.2.2.2.2.2.2.2.2.2.2.2.2.2.2.2.2.2.2.1 (dd 38 hdep))) (b := true) ((if_pos rfl).trans (ve 118 hV (hG.2.2.2.2.2.2.2.2.2.2.2.2.2.2.2.2.2.2.2.2.2.2.2.2.2.2.2.2.2.2.2.2.2.2.2.2.2.2.2.1 (dd 39 hdep)))) ?_
      exact tell hK hF hS (by decide) (Jt hM hG hN)
    · exact t_assign (ve 119 hV (hG.2.2.2.2.2.2.2.2.2.2.2.2.2.2.2.2.2.2.2.2.2.2.2.2.2.2.2.2.2.2.2.2.2.2.2.2.2.2.2.2.1 (dd 40 hdep))) hF hS rfl rfl rfl rfl (by decide) (Jt hM hG hN)
  rintro fZ tZ u9 ⟨hM, hG, hO, hN⟩ hall
  obtain ⟨e79, e80, e81, e82, e83, e84, e85, e86, e87, e88, e89, e90, e91, e92, e93, e94, e95, e96, e97, e98, e99, e100, e101, e102, e103, e104, e105, e106, e107, e108, e109, e110, e111, e112, e113, e114, e115, e116, e117, e118, e119, e8, -⟩ := Gs.all 42 hall hG rfl
  have HB9 : Below w.heap.size w u9 := hM.bel
  have sz9 : u8.heap.size ≤ u9.heap.size := hM.sz
  simp only [ovr, List.set_cons_zero, List.set_cons_succ, e79, e80, e81, e82, e83, e84, e85, e86, e87, e88, e89, e90, e91, e92, e93, e94, e95, e96, e97, e98, e99, e100, e101, e102, e103, e104, e105, e106, e107, e108, e109, e110, e111, e112, e113, e114, e115, e116, e117, e118, e119, e8]
  clear hM hG hO hN hall e79 e80 e81 e82 e83 e84 e85 e86 e87 e88 e89 e90 e91 e92 e93 e94 e95 e96 e97 e98 e99 e100 e101 e102 e103 e104 e105 e106 e107 e108 e109 e110 e111 e112 e113 e114 e115 e116 e117 e118 e119 e8 K8n1_7 K8n2_7 K8n3_7 K8n4_7 K8n5_7 K8n6_7 K8n7_6 Kb8_6 HB8
  clear tZ
  go_wp2
  refine bodyPost_ret (v := .bool true) (by simp [results, Try.results5, go_sem, ]) rfl ⟨rfl, HB9⟩
theorem modSums_any (a b m n : Int) (w : World) (ha : In a) (hb : In b) (hm : In m) (hn : InW n) : Calls Try.prog 5 #[NV a, NV b, NV m, WV n] w fun en w' => en = .returned (.bool true) ∧ Below w.heap.size w w' := by
  by_cases h : m = 0
  · rw [h, NV_0]; exact modSums_0 a b 0 n w ha hb hn
  · exact modSums_1 a b m n w ha hb hn hm h
end Go.Proofs.Ytnmkbihjbnbkkaa
