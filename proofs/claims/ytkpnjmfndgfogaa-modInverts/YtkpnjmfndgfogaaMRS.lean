/- The reference's Sub. -/
import Derived.Test.YtkpnjmfndgfogaaMA3r
import Derived.Test.YtkpnjmfndgfogaaRS
import Derived.Test.YtkpnjmfndgfogaaL0
namespace Go.Proofs.Ytkpnjmfndgfogaa
open Go.RowKit
set_option linter.unusedVariables false
set_option linter.unusedSimpArgs false
theorem nrAdd_lt (a b : Int) (w : World) (ha : In a) (hb : In b) (h : a + b < 115792089237316195423570985008687907853269984665640564039457584007913129639936) : Calls Try.prog 49 #[NV a, NV b] w fun e w' => e = .returned (.tuple #[NV (a + b), .bool false]) ∧ Below w.heap.size w w' := by
  have e : ovB a b = false := by unfold ovB; simp; omega
  have k := nrAdd a b w ha hb
  rw [e] at k; exact k
theorem nrAdd_ge (a b : Int) (w : World) (ha : In a) (hb : In b) (h : 115792089237316195423570985008687907853269984665640564039457584007913129639936 ≤ a + b) : Calls Try.prog 49 #[NV a, NV b] w fun e w' => e = .returned (.tuple #[NV (a + b - 115792089237316195423570985008687907853269984665640564039457584007913129639936), .bool true]) ∧ Below w.heap.size w w' := by
  have e : ovB a b = true := by unfold ovB; simp; omega
  have k := nrAdd a b w ha hb
  rw [e] at k; rw [NV_less]; exact k
theorem nrSub_ge (a b : Int) (w : World) (ha : In a) (hb : In b) (h : b ≤ a) : Calls Try.prog 50 #[NV a, NV b] w fun e w' => e = .returned (.tuple #[NV (a - b), .bool false]) ∧ Below w.heap.size w w' := by
  have e : ltB a b = false := by unfold ltB; simp; omega
  have k := nrSub a b w ha hb
  rw [e] at k; exact k
theorem nrSub_lt (a b : Int) (w : World) (ha : In a) (hb : In b) (h : a < b) : Calls Try.prog 50 #[NV a, NV b] w fun e w' => e = .returned (.tuple #[NV (a - b + 115792089237316195423570985008687907853269984665640564039457584007913129639936), .bool true]) ∧ Below w.heap.size w w' := by
  have e : ltB a b = true := by unfold ltB; simp; omega
  have k := nrSub a b w ha hb
  rw [e] at k; rw [NV_more]; exact k
set_option maxRecDepth 100000 in
set_option maxHeartbeats 2000000 in
theorem xSub (a b m : Int) (w : World) (ha : In a) (hb : In b) (hm : In m) (h : m ≠ 0) : Calls Try.prog 62 #[NV a, NV b, NV m] w fun e w' => e = .returned (.tuple #[NV ((a - b) % m), .int .i64 0]) ∧ Below w.heap.size w w' := by
  have hm0 := hm.1; have hm2 := hm.2
  obtain ⟨x, hx⟩ : ∃ x, a % m = x := ⟨_, rfl⟩
  obtain ⟨y, hy⟩ : ∃ y, b % m = y := ⟨_, rfl⟩
  obtain ⟨r, hr0⟩ : ∃ r, (a - b) % m = r := ⟨_, rfl⟩
  have x0 := Int.emod_nonneg a h; have x1 := Int.emod_lt_of_pos a (show 0 < m by omega)
  have y0 := Int.emod_nonneg b h; have y1 := Int.emod_lt_of_pos b (show 0 < m by omega)
  rw [hx] at x0 x1; rw [hy] at y0 y1
  have ix : In x := ⟨by omega, by omega⟩
  have iy : In y := ⟨by omega, by omega⟩
  have hX : Hid (∀ u, Calls Try.prog 60 #[WV a, NV m] u fun e u' => e = .returned (.tuple #[NV x, .int .i64 0]) ∧ Below u.heap.size u u') := fun u => by rw [← hx]; exact xReduce a m u ha.wide hm h
  have hY : Hid (∀ u, Calls Try.prog 60 #[WV b, NV m] u fun e u' => e = .returned (.tuple #[NV y, .int .i64 0]) ∧ Below u.heap.size u u') := fun u => by rw [← hy]; exact xReduce b m u hb.wide hm h
  have hr : Hid (r = if x < y then x - y + m else x - y) := by
    show r = _
    rw [← hr0, Int.sub_emod, hx, hy]
    split
    · rw [← Int.add_emod_right (x - y) m, Int.emod_eq_of_lt (by omega) (by omega)]
    · exact Int.emod_eq_of_lt (by omega) (by omega)
  rw [hr0]
  clear hx hy hr0
  go_enter Try.func62, Try.ntmps62
  go_upto_region 1 with fail
  generalize hC : ((((w.alloc (.cells (LN a : List Value).toArray 25)).alloc (.cells (LN b : List Value).toArray 25)).alloc (.cells (LN m : List Value).toArray 25)).alloc (.cells (L0s : List Value).toArray 25)) = v0 at *
  have HB0 : Below w.heap.size w v0 := by rw [← hC]; exact (balloc (balloc (balloc (balloc (bself w) _) _) _) _)
  have K0p0 : CV v0 (w.heap.size) (LN a) := by rw [← hC]; exact ((((CV.new w (LN a) 25).alloc (by simp <;> omega) _).alloc (by simp <;> omega) _).alloc (by simp <;> omega) _)
  have l0p0 : w.heap.size < v0.heap.size := by rw [← hC]; simp <;> omega
  have K0p1 : CV v0 (w.heap.size + 1) (LN b) := by rw [← hC]; exact (((CV.newAt (w.alloc (.cells (LN a : List Value).toArray 25)) (LN b) 25 _ (by simp)).alloc (by simp <;> omega) _).alloc (by simp <;> omega) _)
  have l0p1 : w.heap.size + 1 < v0.heap.size := by rw [← hC]; simp <;> omega
  have K0p2 : CV v0 (w.heap.size + 1 + 1) (LN m) := by rw [← hC]; exact ((CV.newAt ((w.alloc (.cells (LN a : List Value).toArray 25)).alloc (.cells (LN b : List Value).toArray 25)) (LN m) 25 _ (by simp)).alloc (by simp <;> omega) _)
  have l0p2 : w.heap.size + 1 + 1 < v0.heap.size := by rw [← hC]; simp <;> omega
  have K0r6 : CV v0 (w.heap.size + 1 + 1 + 1) (L0s) := by rw [← hC]; exact (CV.newAt (((w.alloc (.cells (LN a : List Value).toArray 25)).alloc (.cells (LN b : List Value).toArray 25)).alloc (.cells (LN m : List Value).toArray 25)) (L0s) 25 _ (by simp))
  have l0r6 : w.heap.size + 1 + 1 + 1 < v0.heap.size := by rw [← hC]; simp <;> omega
  clear hC
  refine region_drawn [15, 16, 17, 18, 14, 19, 20, 8, 9] (fun fZ tZ uZ => MR w.heap.size w (v0.heap.size) [(w.heap.size, LN a), (w.heap.size + 1, LN b), (w.heap.size + 1 + 1, LN m), (w.heap.size + 1 + 1 + 1, L0s)] [] [(fZ 7, fZ 8, tZ 8, L0s, LN x)] uZ ∧ Gs fZ tZ [(0, 15, NV a), (1, 16, WV a), (2, 17, NV m), (3, 18, .tuple #[NV x, .int .i64 0]), (4, 14, .tuple #[NV x, .int .i64 0]), (5, 19, NV x), (6, 20, .int .i64 0), (9, 9, .int .i64 0)] ∧ Os fZ [(8, 7)] ∧ Ns fZ tZ []) (by kernel_rfl) (by kernel_rfl) ?_ ?_ ?_
  · exact ⟨{ bel := HB0.drew, lo := HB0.size, sz := Nat.le_refl _, ks := ⟨⟨l0p0, K0p0⟩, ⟨l0p1, K0p1⟩, ⟨l0p2, K0p2⟩, ⟨l0r6, K0r6⟩, trivial⟩, ex := trivial, nw := ⟨fun e => (by cases e), trivial⟩, nd := ⟨fun e => (by cases e), trivial⟩ }, Gs.none _ _, Os.none _, trivial⟩
  · rintro fZ tZ uZ iZ oZ aZ hF ⟨hM, hG, hO, hN⟩ ho hfi hdep
    obtain ⟨hS, hV⟩ := hF.two 46 (by decide) rfl (by decide)
    rcases cZ10 ho with rfl | rfl | rfl | rfl | rfl | rfl | rfl | rfl | rfl | rfl <;> cases ho
    · exact t_load (show aZ.eval (.tmp 3) = .pointer (some ⟨w.heap.size, 0, none⟩) from (hF.out 3 (by decide)).trans rfl) hM.ks.1.2 Try.underlying25 info_api_Nat hF hS rfl rfl rfl rfl rfl (by decide) (Jm hM hG hO hN)
    · exact t_call (vs := [NV a]) (by show [aZ.eval (.tmp 15)] = _; rw [(ve 15 hV (hG.1 (dd 0 hdep)))]) ent_seneschalref01_Widen (nrWiden a uZ ha) hF hS rfl rfl rfl rfl (by decide) (fun _ hB => (Jm (hM.call hB) hG hO hN))
    · exact t_load (show aZ.eval (.tmp 5) = .pointer (some ⟨w.heap.size + 1 + 1, 0, none⟩) from (hF.out 5 (by decide)).trans rfl) hM.ks.2.2.1.2 Try.underlying25 info_api_Nat hF hS rfl rfl rfl rfl rfl (by decide) (Jm hM hG hO hN)
    · exact t_call (vs := [WV a, NV m]) (by show [aZ.eval (.tmp 16), aZ.eval (.tmp 17)] = _; rw [(ve 16 hV (hG.2.1 (dd 1 hdep))), (ve 17 hV (hG.2.2.1 (dd 2 hdep)))]) ent_seneschalref02_Reduce (hX.out uZ) hF hS rfl rfl rfl rfl (by decide) (fun _ hB => (Jm (hM.call hB) hG hO hN))
    · exact t_move (ve 18 hV (hG.2.2.2.1 (dd 3 hdep))) hF hS rfl rfl rfl rfl (by decide) (Jm hM hG hO hN)
    · exact t_extract (ve 14 hV (hG.2.2.2.2.1 (dd 4 hdep))) hF hS rfl rfl rfl rfl rfl (by decide) (Jm hM hG hO hN)
    · exact t_extract (ve 14 hV (hG.2.2.2.2.1 (dd 4 hdep))) hF hS rfl rfl rfl rfl rfl (by decide) (Jm hM hG hO hN)
    · have q1 : fZ 8 = false := Os.not (hO.1) hfi
      exact t_alloc (al_api_Nat uZ) hF hS rfl rfl rfl rfl (by decide) ⟨MR.newF 0 hM rfl hfi q1, Gs.other rfl hG, hO.keep rfl, Ns.step hN rfl⟩
    · exact t_storeN 0 hM rfl (dd 7 hdep) hfi (hV 8 (by decide)) (ve 19 hV (hG.2.2.2.2.2.1 (dd 5 hdep))) rfl info_api_Nat rfl hF rfl rfl rfl rfl (fun _ h => ⟨h, Gs.idle rfl hG, ⟨fun _ => (dd 7 hdep :), trivial⟩, Ns.idle hN⟩)
    · exact t_assign (ve 20 hV (hG.2.2.2.2.2.2.1 (dd 6 hdep))) hF hS rfl rfl rfl rfl (by decide) (Jm hM hG hO hN)
  rintro fZ tZ u1 ⟨hM, hG, hO, hN⟩ hall
  obtain ⟨e15, e16, e17, e18, e14, e19, e20, e9, -⟩ := Gs.all 10 hall hG rfl
  obtain ⟨b1_7, ee8, pb1_7, lb1_7, kb1_7⟩ := hM.nw.1 (hall 7 (by decide))
  have e8 : tZ 8 = .pointer (some ⟨b1_7, 0, none⟩) := ee8
  clear ee8
  have Kb1_7 : CV u1 b1_7 (LN x) := by
    have h1 : CV u1 b1_7 (bif fZ 8 then LN x else L0s) := kb1_7
    rw [hall 8 (by decide)] at h1; exact h1
  clear kb1_7
  have HB1 : Below w.heap.size w u1 := hM.bel
  have sz1 : v0.heap.size ≤ u1.heap.size := hM.sz
  obtain ⟨-, ⟨l1p1, K1p1⟩, ⟨l1p2, K1p2⟩, ⟨l1r6, K1r6⟩, -⟩ := hM.ks.up hM.sz
  dsimp only at l1p1 K1p1 l1p2 K1p2 l1r6 K1r6
  simp only [ovr, List.set_cons_zero, List.set_cons_succ, e15, e16, e17, e18, e14, e19, e20, e9, e8]
  clear hM hG hO hN hall e15 e16 e17 e18 e14 e19 e20 e9 e8 K0p0 K0p1 K0p2 K0r6 HB0
  clear tZ
  go_upto_region 4 with fail
  refine region_drawn [26, 27, 28, 29, 25, 30, 31, 10, 11] (fun fZ tZ uZ => MR w.heap.size w (u1.heap.size) [(w.heap.size + 1, LN b), (w.heap.size + 1 + 1, LN m), (w.heap.size + 1 + 1 + 1, L0s), (b1_7, LN x)] [] [(fZ 7, fZ 8, tZ 10, L0s, LN y)] uZ ∧ Gs fZ tZ [(0, 26, NV b), (1, 27, WV b), (2, 28, NV m), (3, 29, .tuple #[NV y, .int .i64 0]), (4, 25, .tuple #[NV y, .int .i64 0]), (5, 30, NV y), (6, 31, .int .i64 0), (9, 11, .int .i64 0)] ∧ Os fZ [(8, 7)] ∧ Ns fZ tZ []) (by kernel_rfl) (by kernel_rfl) ?_ ?_ ?_
  · exact ⟨{ bel := HB1.drew, lo := HB1.size, sz := Nat.le_refl _, ks := ⟨⟨l1p1, K1p1⟩, ⟨l1p2, K1p2⟩, ⟨l1r6, K1r6⟩, ⟨lb1_7, Kb1_7⟩, trivial⟩, ex := trivial, nw := ⟨fun e => (by cases e), trivial⟩, nd := ⟨fun e => (by cases e), trivial⟩ }, Gs.none _ _, Os.none _, trivial⟩
  · rintro fZ tZ uZ iZ oZ aZ hF ⟨hM, hG, hO, hN⟩ ho hfi hdep
    obtain ⟨hS, hV⟩ := hF.two 46 (by decide) rfl (by decide)
    rcases cZ10 ho with rfl | rfl | rfl | rfl | rfl | rfl | rfl | rfl | rfl | rfl <;> cases ho
    · exact t_load (show aZ.eval (.tmp 4) = .pointer (some ⟨w.heap.size + 1, 0, none⟩) from (hF.out 4 (by decide)).trans rfl) hM.ks.1.2 Try.underlying25 info_api_Nat hF hS rfl rfl rfl rfl rfl (by decide) (Jm hM hG hO hN)
    · exact t_call (vs := [NV b]) (by show [aZ.eval (.tmp 26)] = _; rw [(ve 26 hV (hG.1 (dd 0 hdep)))]) ent_seneschalref01_Widen (nrWiden b uZ hb) hF hS rfl rfl rfl rfl (by decide) (fun _ hB => (Jm (hM.call hB) hG hO hN))
    · exact t_load (show aZ.eval (.tmp 5) = .pointer (some ⟨w.heap.size + 1 + 1, 0, none⟩) from (hF.out 5 (by decide)).trans rfl) hM.ks.2.1.2 Try.underlying25 info_api_Nat hF hS rfl rfl rfl rfl rfl (by decide) (Jm hM hG hO hN)
    · exact t_call (vs := [WV b, NV m]) (by show [aZ.eval (.tmp 27), aZ.eval (.tmp 28)] = _; rw [(ve 27 hV (hG.2.1 (dd 1 hdep))), (ve 28 hV (hG.2.2.1 (dd 2 hdep)))]) ent_seneschalref02_Reduce (hY.out uZ) hF hS rfl rfl rfl rfl (by decide) (fun _ hB => (Jm (hM.call hB) hG hO hN))
    · exact t_move (ve 29 hV (hG.2.2.2.1 (dd 3 hdep))) hF hS rfl rfl rfl rfl (by decide) (Jm hM hG hO hN)
    · exact t_extract (ve 25 hV (hG.2.2.2.2.1 (dd 4 hdep))) hF hS rfl rfl rfl rfl rfl (by decide) (Jm hM hG hO hN)
    · exact t_extract (ve 25 hV (hG.2.2.2.2.1 (dd 4 hdep))) hF hS rfl rfl rfl rfl rfl (by decide) (Jm hM hG hO hN)
    · have q1 : fZ 8 = false := Os.not (hO.1) hfi
      exact t_alloc (al_api_Nat uZ) hF hS rfl rfl rfl rfl (by decide) ⟨MR.newF 0 hM rfl hfi q1, Gs.other rfl hG, hO.keep rfl, Ns.step hN rfl⟩
    · exact t_storeN 0 hM rfl (dd 7 hdep) hfi (hV 10 (by decide)) (ve 30 hV (hG.2.2.2.2.2.1 (dd 5 hdep))) rfl info_api_Nat rfl hF rfl rfl rfl rfl (fun _ h => ⟨h, Gs.idle rfl hG, ⟨fun _ => (dd 7 hdep :), trivial⟩, Ns.idle hN⟩)
    · exact t_assign (ve 31 hV (hG.2.2.2.2.2.2.1 (dd 6 hdep))) hF hS rfl rfl rfl rfl (by decide) (Jm hM hG hO hN)
  rintro fZ tZ u2 ⟨hM, hG, hO, hN⟩ hall
  obtain ⟨e26, e27, e28, e29, e25, e30, e31, e11, -⟩ := Gs.all 10 hall hG rfl
  obtain ⟨b2_7, ee10, pb2_7, lb2_7, kb2_7⟩ := hM.nw.1 (hall 7 (by decide))
  have e10 : tZ 10 = .pointer (some ⟨b2_7, 0, none⟩) := ee10
  clear ee10
  have Kb2_7 : CV u2 b2_7 (LN y) := by
    have h1 : CV u2 b2_7 (bif fZ 8 then LN y else L0s) := kb2_7
    rw [hall 8 (by decide)] at h1; exact h1
  clear kb2_7
  have HB2 : Below w.heap.size w u2 := hM.bel
  have sz2 : u1.heap.size ≤ u2.heap.size := hM.sz
  obtain ⟨-, ⟨l2p2, K2p2⟩, ⟨l2r6, K2r6⟩, ⟨l2n1_7, K2n1_7⟩, -⟩ := hM.ks.up hM.sz
  dsimp only at l2p2 K2p2 l2r6 K2r6 l2n1_7 K2n1_7
  simp only [ovr, List.set_cons_zero, List.set_cons_succ, e26, e27, e28, e29, e25, e30, e31, e11, e10]
  clear hM hG hO hN hall e26 e27 e28 e29 e25 e30 e31 e11 e10 K1p1 K1p2 K1r6 Kb1_7 HB1
  clear tZ
  by_cases hc : x < y
  · have hi : In (x - y + 115792089237316195423570985008687907853269984665640564039457584007913129639936) := ⟨by omega, by omega⟩
    obtain ⟨z, hz1⟩ : ∃ z, x - y + 115792089237316195423570985008687907853269984665640564039457584007913129639936 = z := ⟨_, rfl⟩
    have h1 : Hid (∀ u, Calls Try.prog 50 #[NV x, NV y] u fun e u' => e = .returned (.tuple #[NV z, .bool true]) ∧ Below u.heap.size u u') := fun u => by rw [← hz1]; exact nrSub_lt x y u ix iy hc
    have h2 : Hid (∀ u, Calls Try.prog 49 #[NV z, NV m] u fun e u' => e = .returned (.tuple #[NV r, .bool true]) ∧ Below u.heap.size u u') := fun u => by
      have k := nrAdd_ge z m u (by rw [← hz1]; exact hi) hm (by omega)
      rw [hr.out, if_pos hc, show x - y + m = z + m - 115792089237316195423570985008687907853269984665640564039457584007913129639936 by omega]; exact k
    clear hi hz1 hc hr
    go_upto_region 5 with fail
    refine region_plain [33, 34, 35, 32, 36, 37, 12, 13] (fun fZ tZ uZ => MR w.heap.size w (u2.heap.size) [(w.heap.size + 1 + 1, LN m), (w.heap.size + 1 + 1 + 1, L0s), (b1_7, LN x), (b2_7, LN y)] [] [(fZ 6, fZ 7, tZ 12, L0s, LN z)] uZ ∧ Gs fZ tZ [(0, 33, NV x), (1, 34, NV y), (2, 35, .tuple #[NV z, .bool true]), (3, 32, .tuple #[NV z, .bool true]), (4, 36, NV z), (5, 37, .bool true), (8, 13, .bool true)] ∧ Os fZ [(7, 6)] ∧ Ns fZ tZ []) (by kernel_rfl) ?_ ?_ ?_
    · exact ⟨{ bel := HB2, lo := HB2.size, sz := Nat.le_refl _, ks := ⟨⟨l2p2, K2p2⟩, ⟨l2r6, K2r6⟩, ⟨l2n1_7, K2n1_7⟩, ⟨lb2_7, Kb2_7⟩, trivial⟩, ex := trivial, nw := ⟨fun e => (by cases e), trivial⟩, nd := ⟨fun e => (by cases e), trivial⟩ }, Gs.none _ _, Os.none _, trivial⟩
    · rintro fZ tZ uZ iZ oZ aZ hF ⟨hM, hG, hO, hN⟩ ho hfi hdep
      obtain ⟨hS, hV⟩ := hF.two 46 (by decide) rfl (by decide)
      rcases cZ9 ho with rfl | rfl | rfl | rfl | rfl | rfl | rfl | rfl | rfl <;> cases ho
      · exact t_load (show aZ.eval (.tmp 8) = .pointer (some ⟨b1_7, 0, none⟩) from (hF.out 8 (by decide)).trans rfl) hM.ks.2.2.1.2 Try.underlying25 info_api_Nat hF hS rfl rfl rfl rfl rfl (by decide) (Jm hM hG hO hN)
      · exact t_load (show aZ.eval (.tmp 10) = .pointer (some ⟨b2_7, 0, none⟩) from (hF.out 10 (by decide)).trans rfl) hM.ks.2.2.2.1.2 Try.underlying25 info_api_Nat hF hS rfl rfl rfl rfl rfl (by decide) (Jm hM hG hO hN)
      · exact t_call (vs := [NV x, NV y]) (by show [aZ.eval (.tmp 33), aZ.eval (.tmp 34)] = _; rw [(ve 33 hV (hG.1 (dd 0 hdep))), (ve 34 hV (hG.2.1 (dd 1 hdep)))]) ent_seneschalref01_Sub (h1.out uZ) hF hS rfl rfl rfl rfl (by decide) (fun _ hB => (Jm (hM.call hB) hG hO hN))
      · exact t_move (ve 35 hV (hG.2.2.1 (dd 2 hdep))) hF hS rfl rfl rfl rfl (by decide) (Jm hM hG hO hN)
      · exact t_extract (ve 32 hV (hG.2.2.2.1 (dd 3 hdep))) hF hS rfl rfl rfl rfl rfl (by decide) (Jm hM hG hO hN)
      · exact t_extract (ve 32 hV (hG.2.2.2.1 (dd 3 hdep))) hF hS rfl rfl rfl rfl rfl (by decide) (Jm hM hG hO hN)
      · have q1 : fZ 7 = false := Os.not (hO.1) hfi
        exact t_alloc (al_api_Nat uZ) hF hS rfl rfl rfl rfl (by decide) ⟨MR.newF 0 hM rfl hfi q1, Gs.other rfl hG, hO.keep rfl, Ns.step hN rfl⟩
      · exact t_storeN 0 hM rfl (dd 6 hdep) hfi (hV 12 (by decide)) (ve 36 hV (hG.2.2.2.2.1 (dd 4 hdep))) rfl info_api_Nat rfl hF rfl rfl rfl rfl (fun _ h => ⟨h, Gs.idle rfl hG, ⟨fun _ => (dd 6 hdep :), trivial⟩, Ns.idle hN⟩)
      · exact t_assign (ve 37 hV (hG.2.2.2.2.2.1 (dd 5 hdep))) hF hS rfl rfl rfl rfl (by decide) (Jm hM hG hO hN)
    rintro fZ tZ u3 ⟨hM, hG, hO, hN⟩ hall
    obtain ⟨e33, e34, e35, e32, e36, e37, e13, -⟩ := Gs.all 9 hall hG rfl
    obtain ⟨b3_6, ee12, pb3_6, lb3_6, kb3_6⟩ := hM.nw.1 (hall 6 (by decide))
    have e12 : tZ 12 = .pointer (some ⟨b3_6, 0, none⟩) := ee12
    clear ee12
    have Kb3_6 : CV u3 b3_6 (LN z) := by
      have h1 : CV u3 b3_6 (bif fZ 7 then LN z else L0s) := kb3_6
      rw [hall 7 (by decide)] at h1; exact h1
    clear kb3_6
    have HB3 : Below w.heap.size w u3 := hM.bel
    have sz3 : u2.heap.size ≤ u3.heap.size := hM.sz
    obtain ⟨⟨l3p2, K3p2⟩, ⟨l3r6, K3r6⟩, -, -, -⟩ := hM.ks.up hM.sz
    dsimp only at l3p2 K3p2 l3r6 K3r6
    simp only [ovr, List.set_cons_zero, List.set_cons_succ, e33, e34, e35, e32, e36, e37, e13, e12]
    clear hM hG hO hN hall e33 e34 e35 e32 e36 e37 e13 e12 K2n1_7 K2p2 K2r6 Kb2_7 HB2
    clear tZ
    go_upto_region 7 with fail
    refine region_plain [40, 41, 42, 39, 43, 44] (fun fZ tZ uZ => MR w.heap.size w (u3.heap.size) [(w.heap.size + 1 + 1, LN m), (w.heap.size + 1 + 1 + 1, L0s)] [(b3_6, fZ 6, LN z, LN r)] [] uZ ∧ Gs fZ tZ [(0, 40, NV z), (1, 41, NV m), (2, 42, .tuple #[NV r, .bool true]), (3, 39, .tuple #[NV r, .bool true]), (4, 43, NV r), (5, 44, .bool true)] ∧ Os fZ [(6, 0)] ∧ Ns fZ tZ []) (by kernel_rfl) ?_ ?_ ?_
    · exact ⟨{ bel := HB3, lo := HB3.size, sz := Nat.le_refl _, ks := ⟨⟨l3p2, K3p2⟩, ⟨l3r6, K3r6⟩, trivial⟩, ex := ⟨⟨(by omega), lb3_6, rfl, Kb3_6⟩, trivial⟩, nw := trivial, nd := trivial }, Gs.none _ _, Os.none _, trivial⟩
    · rintro fZ tZ uZ iZ oZ aZ hF ⟨hM, hG, hO, hN⟩ ho hfi hdep
      obtain ⟨hS, hV⟩ := hF.two 46 (by decide) rfl (by decide)
      rcases cZ7 ho with rfl | rfl | rfl | rfl | rfl | rfl | rfl <;> cases ho
      · refine op_plain rfl rfl (fun K hK => ?_)
        have ys : fZ 6 = false := Os.not (hO.1) hfi
        have kk : CV uZ (b3_6) (bif fZ 6 then LN r else LN z) := hM.ex.1.2.2.2
        rw [ys] at kk
        have kk : CV uZ (b3_6) (LN z) := kk
        refine wp_load_mid 25 _ rfl (b3_6) 0 (show aZ.eval (.tmp 12) = .pointer (some ⟨b3_6, 0, none⟩) from (hF.out 12 (by decide)).trans rfl) (LN z) _ kk.range Try.underlying25 rfl info_api_Nat ?_
        exact tell hK hF hS (by decide) (Jm hM hG hO hN)
      · exact t_load (show aZ.eval (.tmp 5) = .pointer (some ⟨w.heap.size + 1 + 1, 0, none⟩) from (hF.out 5 (by decide)).trans rfl) hM.ks.1.2 Try.underlying25 info_api_Nat hF hS rfl rfl rfl rfl rfl (by decide) (Jm hM hG hO hN)
      · exact t_call (vs := [NV z, NV m]) (by show [aZ.eval (.tmp 40), aZ.eval (.tmp 41)] = _; rw [(ve 40 hV (hG.1 (dd 0 hdep))), (ve 41 hV (hG.2.1 (dd 1 hdep)))]) ent_seneschalref01_Add (h2.out uZ) hF hS rfl rfl rfl rfl (by decide) (fun _ hB => (Jm (hM.call hB) hG hO hN))
      · exact t_move (ve 42 hV (hG.2.2.1 (dd 2 hdep))) hF hS rfl rfl rfl rfl (by decide) (Jm hM hG hO hN)
      · exact t_extract (ve 39 hV (hG.2.2.2.1 (dd 3 hdep))) hF hS rfl rfl rfl rfl rfl (by decide) (Jm hM hG hO hN)
      · exact t_extract (ve 39 hV (hG.2.2.2.1 (dd 3 hdep))) hF hS rfl rfl rfl rfl rfl (by decide) (Jm hM hG hO hN)
      · refine op_plain rfl rfl (fun K hK => ?_)
        have kk : CV uZ (b3_6) (bif fZ 6 then LN r else LN z) := hM.ex.1.2.2.2
        rw [hfi] at kk
        have kk : CV uZ (b3_6) (LN z) := kk
        refine wp_store_mid 25 _ _ rfl (b3_6) 0 (LN r : List Value).toArray (show aZ.eval (.tmp 12) = .pointer (some ⟨b3_6, 0, none⟩) from (hF.out 12 (by decide)).trans rfl) (ve 43 hV (hG.2.2.2.2.1 (dd 4 hdep))) kk.there info_api_Nat (all_one rfl) ?_
        exact tell0 hK hF ⟨MR.putXF 0 hM rfl ⟨by omega, by omega, trivial⟩ trivial, Gs.idle rfl hG, ⟨fun _ => hdep ⟨0, .phase⟩ (by simp) rfl, trivial⟩, Ns.idle hN⟩
    rintro fZ tZ u4 ⟨hM, hG, hO, hN⟩ hall
    obtain ⟨e40, e41, e42, e39, e43, e44, -⟩ := Gs.all 7 hall hG rfl
    have HB4 : Below w.heap.size w u4 := hM.bel
    have sz4 : u3.heap.size ≤ u4.heap.size := hM.sz
    obtain ⟨-, ⟨l4r6, K4r6⟩, -⟩ := hM.ks.up hM.sz
    dsimp only at l4r6 K4r6
    have K4n5_6 : CV u4 (b3_6) (LN r) := by
      have h1 : CV u4 (b3_6) (bif fZ 6 then LN r else LN z) := hM.ex.1.2.2.2
      rw [hall 6 (by decide)] at h1; exact h1
    have l4n5_6 : b3_6 < u4.heap.size := Nat.lt_of_lt_of_le hM.ex.1.2.1 hM.sz
    simp only [ovr, List.set_cons_zero, List.set_cons_succ, e40, e41, e42, e39, e43, e44]
    clear hM hG hO hN hall e40 e41 e42 e39 e43 e44 K3p2 K3r6 Kb3_6 HB3
    clear tZ
    go_upto_region 8 with fail
    refine region_plain [45, 7] (fun fZ tZ uZ => MR w.heap.size w (u4.heap.size) [(b3_6, LN r)] [(w.heap.size + 1 + 1 + 1, fZ 1, L0s, LN r)] [] uZ ∧ Gs fZ tZ [(0, 45, NV r), (2, 7, (Go.Value.int Go.IntKind.i64 0))] ∧ Os fZ [] ∧ Ns fZ tZ []) (by kernel_rfl) ?_ ?_ ?_
    · exact ⟨{ bel := HB4, lo := HB4.size, sz := Nat.le_refl _, ks := ⟨⟨l4n5_6, K4n5_6⟩, trivial⟩, ex := ⟨⟨(by omega), l4r6, rfl, K4r6⟩, trivial⟩, nw := trivial, nd := trivial }, Gs.none _ _, Os.none _, trivial⟩
    · rintro fZ tZ uZ iZ oZ aZ hF ⟨hM, hG, hO, hN⟩ ho hfi hdep
      obtain ⟨hS, hV⟩ := hF.two 46 (by decide) rfl (by decide)
      rcases cZ3 ho with rfl | rfl | rfl <;> cases ho
      · exact t_load (show aZ.eval (.tmp 12) = .pointer (some ⟨b3_6, 0, none⟩) from (hF.out 12 (by decide)).trans rfl) hM.ks.1.2 Try.underlying25 info_api_Nat hF hS rfl rfl rfl rfl rfl (by decide) (Jt hM hG hN)
      · refine op_plain rfl rfl (fun K hK => ?_)
        have kk : CV uZ (w.heap.size + 1 + 1 + 1) (bif fZ 1 then LN r else L0s) := hM.ex.1.2.2.2
        rw [hfi] at kk
        have kk : CV uZ (w.heap.size + 1 + 1 + 1) (L0s) := kk
        refine wp_store_mid 25 _ _ rfl (w.heap.size + 1 + 1 + 1) 0 (LN r : List Value).toArray (show aZ.eval (.tmp 6) = .pointer (some ⟨w.heap.size + 1 + 1 + 1, 0, none⟩) from (hF.out 6 (by decide)).trans rfl) (ve 45 hV (hG.1 (dd 0 hdep))) kk.there info_api_Nat (all_one rfl) ?_
        exact tell0 hK hF ⟨MR.putXF 0 hM rfl ⟨by omega, trivial⟩ trivial, Gs.idle rfl hG, trivial, Ns.idle hN⟩
      · exact t_assign rfl hF hS rfl rfl rfl rfl (by decide) (Jt hM hG hN)
    rintro fZ tZ u5 ⟨hM, hG, hO, hN⟩ hall
    obtain ⟨e45, e7, -⟩ := Gs.all 3 hall hG rfl
    have HB5 : Below w.heap.size w u5 := hM.bel
    have sz5 : u4.heap.size ≤ u5.heap.size := hM.sz
    have K5r6 : CV u5 (w.heap.size + 1 + 1 + 1) (LN r) := by
      have h1 : CV u5 (w.heap.size + 1 + 1 + 1) (bif fZ 1 then LN r else L0s) := hM.ex.1.2.2.2
      rw [hall 1 (by decide)] at h1; exact h1
    have l5r6 : w.heap.size + 1 + 1 + 1 < u5.heap.size := Nat.lt_of_lt_of_le hM.ex.1.2.1 hM.sz
    simp only [ovr, List.set_cons_zero, List.set_cons_succ, e45, e7]
    clear hM hG hO hN hall e45 e7 K4n5_6 K4r6 HB4
    clear tZ
    have c6_0 := (K5r6 0 _ rfl).1
    have c6_1 := (K5r6 1 _ rfl).1
    have c6_2 := (K5r6 2 _ rfl).1
    have c6_3 := (K5r6 3 _ rfl).1
    go_wp2
    refine bodyPost_ret (v := .tuple #[NV r, .int .i64 0]) (by simp [results, Try.results62, go_sem, c6_0, c6_1, c6_2, c6_3]) rfl ⟨rfl, HB5⟩
  · have h1 : Hid (∀ u, Calls Try.prog 50 #[NV x, NV y] u fun e u' => e = .returned (.tuple #[NV r, .bool false]) ∧ Below u.heap.size u u') := fun u => by rw [hr.out, if_neg hc]; exact nrSub_ge x y u ix iy (by omega)
    clear hr hc
    go_upto_region 5 with fail
    refine region_plain [33, 34, 35, 32, 36, 37, 12, 13] (fun fZ tZ uZ => MR w.heap.size w (u2.heap.size) [(w.heap.size + 1 + 1, LN m), (w.heap.size + 1 + 1 + 1, L0s), (b1_7, LN x), (b2_7, LN y)] [] [(fZ 6, fZ 7, tZ 12, L0s, LN r)] uZ ∧ Gs fZ tZ [(0, 33, NV x), (1, 34, NV y), (2, 35, .tuple #[NV r, .bool false]), (3, 32, .tuple #[NV r, .bool false]), (4, 36, NV r), (5, 37, .bool false), (8, 13, .bool false)] ∧ Os fZ [(7, 6)] ∧ Ns fZ tZ []) (by kernel_rfl) ?_ ?_ ?_
    · exact ⟨{ bel := HB2, lo := HB2.size, sz := Nat.le_refl _, ks := ⟨⟨l2p2, K2p2⟩, ⟨l2r6, K2r6⟩, ⟨l2n1_7, K2n1_7⟩, ⟨lb2_7, Kb2_7⟩, trivial⟩, ex := trivial, nw := ⟨fun e => (by cases e), trivial⟩, nd := ⟨fun e => (by cases e), trivial⟩ }, Gs.none _ _, Os.none _, trivial⟩
    · rintro fZ tZ uZ iZ oZ aZ hF ⟨hM, hG, hO, hN⟩ ho hfi hdep
      obtain ⟨hS, hV⟩ := hF.two 46 (by decide) rfl (by decide)
      rcases cZ9 ho with rfl | rfl | rfl | rfl | rfl | rfl | rfl | rfl | rfl <;> cases ho
      · exact t_load (show aZ.eval (.tmp 8) = .pointer (some ⟨b1_7, 0, none⟩) from (hF.out 8 (by decide)).trans rfl) hM.ks.2.2.1.2 Try.underlying25 info_api_Nat hF hS rfl rfl rfl rfl rfl (by decide) (Jm hM hG hO hN)
      · exact t_load (show aZ.eval (.tmp 10) = .pointer (some ⟨b2_7, 0, none⟩) from (hF.out 10 (by decide)).trans rfl) hM.ks.2.2.2.1.2 Try.underlying25 info_api_Nat hF hS rfl rfl rfl rfl rfl (by decide) (Jm hM hG hO hN)
      · exact t_call (vs := [NV x, NV y]) (by show [aZ.eval (.tmp 33), aZ.eval (.tmp 34)] = _; rw [(ve 33 hV (hG.1 (dd 0 hdep))), (ve 34 hV (hG.2.1 (dd 1 hdep)))]) ent_seneschalref01_Sub (h1.out uZ) hF hS rfl rfl rfl rfl (by decide) (fun _ hB => (Jm (hM.call hB) hG hO hN))
      · exact t_move (ve 35 hV (hG.2.2.1 (dd 2 hdep))) hF hS rfl rfl rfl rfl (by decide) (Jm hM hG hO hN)
      · exact t_extract (ve 32 hV (hG.2.2.2.1 (dd 3 hdep))) hF hS rfl rfl rfl rfl rfl (by decide) (Jm hM hG hO hN)
      · exact t_extract (ve 32 hV (hG.2.2.2.1 (dd 3 hdep))) hF hS rfl rfl rfl rfl rfl (by decide) (Jm hM hG hO hN)
      · have q1 : fZ 7 = false := Os.not (hO.1) hfi
        exact t_alloc (al_api_Nat uZ) hF hS rfl rfl rfl rfl (by decide) ⟨MR.newF 0 hM rfl hfi q1, Gs.other rfl hG, hO.keep rfl, Ns.step hN rfl⟩
      · exact t_storeN 0 hM rfl (dd 6 hdep) hfi (hV 12 (by decide)) (ve 36 hV (hG.2.2.2.2.1 (dd 4 hdep))) rfl info_api_Nat rfl hF rfl rfl rfl rfl (fun _ h => ⟨h, Gs.idle rfl hG, ⟨fun _ => (dd 6 hdep :), trivial⟩, Ns.idle hN⟩)
      · exact t_assign (ve 37 hV (hG.2.2.2.2.2.1 (dd 5 hdep))) hF hS rfl rfl rfl rfl (by decide) (Jm hM hG hO hN)
    rintro fZ tZ u3 ⟨hM, hG, hO, hN⟩ hall
    obtain ⟨e33, e34, e35, e32, e36, e37, e13, -⟩ := Gs.all 9 hall hG rfl
    obtain ⟨b3_6, ee12, pb3_6, lb3_6, kb3_6⟩ := hM.nw.1 (hall 6 (by decide))
    have e12 : tZ 12 = .pointer (some ⟨b3_6, 0, none⟩) := ee12
    clear ee12
    have Kb3_6 : CV u3 b3_6 (LN r) := by
      have h1 : CV u3 b3_6 (bif fZ 7 then LN r else L0s) := kb3_6
      rw [hall 7 (by decide)] at h1; exact h1
    clear kb3_6
    have HB3 : Below w.heap.size w u3 := hM.bel
    have sz3 : u2.heap.size ≤ u3.heap.size := hM.sz
    obtain ⟨-, ⟨l3r6, K3r6⟩, -, -, -⟩ := hM.ks.up hM.sz
    dsimp only at l3r6 K3r6
    simp only [ovr, List.set_cons_zero, List.set_cons_succ, e33, e34, e35, e32, e36, e37, e13, e12]
    clear hM hG hO hN hall e33 e34 e35 e32 e36 e37 e13 e12 K2n1_7 K2p2 K2r6 Kb2_7 HB2
    clear tZ
    go_upto_region 8 with fail
    refine region_plain [45, 7] (fun fZ tZ uZ => MR w.heap.size w (u3.heap.size) [(b3_6, LN r)] [(w.heap.size + 1 + 1 + 1, fZ 1, L0s, LN r)] [] uZ ∧ Gs fZ tZ [(0, 45, NV r), (2, 7, (Go.Value.int Go.IntKind.i64 0))] ∧ Os fZ [] ∧ Ns fZ tZ []) (by kernel_rfl) ?_ ?_ ?_
    · exact ⟨{ bel := HB3, lo := HB3.size, sz := Nat.le_refl _, ks := ⟨⟨lb3_6, Kb3_6⟩, trivial⟩, ex := ⟨⟨(by omega), l3r6, rfl, K3r6⟩, trivial⟩, nw := trivial, nd := trivial }, Gs.none _ _, Os.none _, trivial⟩
    · rintro fZ tZ uZ iZ oZ aZ hF ⟨hM, hG, hO, hN⟩ ho hfi hdep
      obtain ⟨hS, hV⟩ := hF.two 46 (by decide) rfl (by decide)
      rcases cZ3 ho with rfl | rfl | rfl <;> cases ho
      · exact t_load (show aZ.eval (.tmp 12) = .pointer (some ⟨b3_6, 0, none⟩) from (hF.out 12 (by decide)).trans rfl) hM.ks.1.2 Try.underlying25 info_api_Nat hF hS rfl rfl rfl rfl rfl (by decide) (Jt hM hG hN)
      · refine op_plain rfl rfl (fun K hK => ?_)
        have kk : CV uZ (w.heap.size + 1 + 1 + 1) (bif fZ 1 then LN r else L0s) := hM.ex.1.2.2.2
        rw [hfi] at kk
        have kk : CV uZ (w.heap.size + 1 + 1 + 1) (L0s) := kk
        refine wp_store_mid 25 _ _ rfl (w.heap.size + 1 + 1 + 1) 0 (LN r : List Value).toArray (show aZ.eval (.tmp 6) = .pointer (some ⟨w.heap.size + 1 + 1 + 1, 0, none⟩) from (hF.out 6 (by decide)).trans rfl) (ve 45 hV (hG.1 (dd 0 hdep))) kk.there info_api_Nat (all_one rfl) ?_
        exact tell0 hK hF ⟨MR.putXF 0 hM rfl ⟨by omega, trivial⟩ trivial, Gs.idle rfl hG, trivial, Ns.idle hN⟩
      · exact t_assign rfl hF hS rfl rfl rfl rfl (by decide) (Jt hM hG hN)
    rintro fZ tZ u4 ⟨hM, hG, hO, hN⟩ hall
    obtain ⟨e45, e7, -⟩ := Gs.all 3 hall hG rfl
    have HB4 : Below w.heap.size w u4 := hM.bel
    have sz4 : u3.heap.size ≤ u4.heap.size := hM.sz
    have K4r6 : CV u4 (w.heap.size + 1 + 1 + 1) (LN r) := by
      have h1 : CV u4 (w.heap.size + 1 + 1 + 1) (bif fZ 1 then LN r else L0s) := hM.ex.1.2.2.2
      rw [hall 1 (by decide)] at h1; exact h1
    have l4r6 : w.heap.size + 1 + 1 + 1 < u4.heap.size := Nat.lt_of_lt_of_le hM.ex.1.2.1 hM.sz
    simp only [ovr, List.set_cons_zero, List.set_cons_succ, e45, e7]
    clear hM hG hO hN hall e45 e7 K3r6 Kb3_6 HB3
    clear tZ
    have c6_0 := (K4r6 0 _ rfl).1
    have c6_1 := (K4r6 1 _ rfl).1
    have c6_2 := (K4r6 2 _ rfl).1
    have c6_3 := (K4r6 3 _ rfl).1
    go_wp2
    refine bodyPost_ret (v := .tuple #[NV r, .int .i64 0]) (by simp [results, Try.results62, go_sem, c6_0, c6_1, c6_2, c6_3]) rfl ⟨rfl, HB4⟩
end Go.Proofs.Ytkpnjmfndgfogaa
