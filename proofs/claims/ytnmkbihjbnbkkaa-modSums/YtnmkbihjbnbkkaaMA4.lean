/- Numbers modulo one: Add. -/
import Derived.Test.YtnmkbihjbnbkkaaMA2
import Derived.Test.YtnmkbihjbnbkkaaRS
import Derived.Test.YtnmkbihjbnbkkaaL0
namespace Go.Proofs.Ytnmkbihjbnbkkaa
open Go.RowKit
set_option linter.unusedVariables false
set_option linter.unusedSimpArgs false
set_option maxRecDepth 100000 in
set_option maxHeartbeats 2000000 in
theorem addG_lt (a b m0 m1 m2 m3 r0 r1 r2 r3 ec : Int) (w : World) (ha : In a) (hb : In b) (hR : Hid (∀ u, Calls Try.prog 26 #[WV (a + b), A4 m0 m1 m2 m3] u fun e u' => e = .returned (.tuple #[A4 r0 r1 r2 r3, .int .i64 ec]) ∧ Below u.heap.size u u')) (hl : a + b < 115792089237316195423570985008687907853269984665640564039457584007913129639936) : Calls Try.prog 20 #[NV a, NV b, A4 m0 m1 m2 m3] w fun e w' => e = .returned (.tuple #[A4 (r0) (r1) (r2) (r3), .int .i64 ec]) ∧ Below w.heap.size w w' := by
  have hi : In (a + b) := ⟨by have := ha.1; have := hb.1; omega, hl⟩
  go_enter Try.func20, Try.ntmps20
  go_upto_region 1 with fail
  generalize hC : ((((w.alloc (.cells (LN a : List Value).toArray 25)).alloc (.cells (LN b : List Value).toArray 25)).alloc (.cells ([.int .u64 (m0), .int .u64 (m1), .int .u64 (m2), .int .u64 (m3)] : List Value).toArray 25)).alloc (.cells (L0s : List Value).toArray 25)) = v0 at *
  have HB0 : Below w.heap.size w v0 := by rw [← hC]; exact (balloc (balloc (balloc (balloc (bself w) _) _) _) _)
  have K0p0 : CV v0 (w.heap.size) (LN a) := by rw [← hC]; exact ((((CV.new w (LN a) 25).alloc (by simp <;> omega) _).alloc (by simp <;> omega) _).alloc (by simp <;> omega) _)
  have l0p0 : w.heap.size < v0.heap.size := by rw [← hC]; simp <;> omega
  have K0p1 : CV v0 (w.heap.size + 1) (LN b) := by rw [← hC]; exact (((CV.newAt (w.alloc (.cells (LN a : List Value).toArray 25)) (LN b) 25 _ (by simp)).alloc (by simp <;> omega) _).alloc (by simp <;> omega) _)
  have l0p1 : w.heap.size + 1 < v0.heap.size := by rw [← hC]; simp <;> omega
  have K0p2 : CV v0 (w.heap.size + 1 + 1) ([.int .u64 (m0), .int .u64 (m1), .int .u64 (m2), .int .u64 (m3)]) := by rw [← hC]; exact ((CV.newAt ((w.alloc (.cells (LN a : List Value).toArray 25)).alloc (.cells (LN b : List Value).toArray 25)) ([.int .u64 (m0), .int .u64 (m1), .int .u64 (m2), .int .u64 (m3)]) 25 _ (by simp)).alloc (by simp <;> omega) _)
  have l0p2 : w.heap.size + 1 + 1 < v0.heap.size := by rw [← hC]; simp <;> omega
  have K0r6 : CV v0 (w.heap.size + 1 + 1 + 1) (L0s) := by rw [← hC]; exact (CV.newAt (((w.alloc (.cells (LN a : List Value).toArray 25)).alloc (.cells (LN b : List Value).toArray 25)).alloc (.cells ([.int .u64 (m0), .int .u64 (m1), .int .u64 (m2), .int .u64 (m3)] : List Value).toArray 25)) (L0s) 25 _ (by simp))
  have l0r6 : w.heap.size + 1 + 1 + 1 < v0.heap.size := by rw [← hC]; simp <;> omega
  clear hC
  refine region_plain [12, 13, 14, 11, 15, 16, 8, 9] (fun fZ tZ uZ => MR w.heap.size w (v0.heap.size) [(w.heap.size, LN a), (w.heap.size + 1, LN b), (w.heap.size + 1 + 1, [.int .u64 (m0), .int .u64 (m1), .int .u64 (m2), .int .u64 (m3)]), (w.heap.size + 1 + 1 + 1, L0s)] [] [(fZ 6, fZ 7, tZ 8, L0s, LN (a + b))] uZ ∧ Gs fZ tZ [(0, 12, NV a), (1, 13, NV b), (2, 14, .tuple #[NV (a + b), .bool false]), (3, 11, .tuple #[NV (a + b), .bool false]), (4, 15, NV (a + b)), (5, 16, .bool false), (8, 9, .bool false)] ∧ Os fZ [(7, 6)] ∧ Ns fZ tZ []) (by kernel_rfl) ?_ ?_ ?_
  · exact ⟨{ bel := HB0, lo := HB0.size, sz := Nat.le_refl _, ks := ⟨⟨l0p0, K0p0⟩, ⟨l0p1, K0p1⟩, ⟨l0p2, K0p2⟩, ⟨l0r6, K0r6⟩, trivial⟩, ex := trivial, nw := ⟨fun e => (by cases e), trivial⟩, nd := ⟨fun e => (by cases e), trivial⟩ }, Gs.none _ _, Os.none _, trivial⟩
  · rintro fZ tZ uZ iZ oZ aZ hF ⟨hM, hG, hO, hN⟩ ho hfi hdep
    obtain ⟨hS, hV⟩ := hF.two 26 (by decide) rfl (by decide)
    rcases cZ9 ho with rfl | rfl | rfl | rfl | rfl | rfl | rfl | rfl | rfl <;> cases ho
    · exact t_load (show aZ.eval (.tmp 3) = .pointer (some ⟨w.heap.size, 0, none⟩) from (hF.out 3 (by decide)).trans rfl) hM.ks.1.2 Try.underlying25 info_api_Nat hF hS rfl rfl rfl rfl rfl (by decide) (Jm hM hG hO hN)
    · exact t_load (show aZ.eval (.tmp 4) = .pointer (some ⟨w.heap.size + 1, 0, none⟩) from (hF.out 4 (by decide)).trans rfl) hM.ks.2.1.2 Try.underlying25 info_api_Nat hF hS rfl rfl rfl rfl rfl (by decide) (Jm hM hG hO hN)
    · exact t_call (vs := [NV a, NV b]) (by show [aZ.eval (.tmp 12), aZ.eval (.tmp 13)] = _; rw [(ve 12 hV (hG.1 (dd 0 hdep))), (ve 13 hV (hG.2.1 (dd 1 hdep)))]) ent_limb_Add (nAdd_lt a b uZ ha hb hl) hF hS rfl rfl rfl rfl (by decide) (fun _ hB => (Jm (hM.call hB) hG hO hN))
    · exact t_move (ve 14 hV (hG.2.2.1 (dd 2 hdep))) hF hS rfl rfl rfl rfl (by decide) (Jm hM hG hO hN)
    · exact t_extract (ve 11 hV (hG.2.2.2.1 (dd 3 hdep))) hF hS rfl rfl rfl rfl rfl (by decide) (Jm hM hG hO hN)
    · exact t_extract (ve 11 hV (hG.2.2.2.1 (dd 3 hdep))) hF hS rfl rfl rfl rfl rfl (by decide) (Jm hM hG hO hN)
    · have q1 : fZ 7 = false := Os.not (hO.1) hfi
      exact t_alloc (al_api_Nat uZ) hF hS rfl rfl rfl rfl (by decide) ⟨MR.newF 0 hM rfl hfi q1, Gs.other rfl hG, hO.keep rfl, Ns.step hN rfl⟩
    · exact t_storeN 0 hM rfl (dd 6 hdep) hfi (hV 8 (by decide)) (ve 15 hV (hG.2.2.2.2.1 (dd 4 hdep))) rfl info_api_Nat rfl hF rfl rfl rfl rfl (fun _ h => ⟨h, Gs.idle rfl hG, ⟨fun _ => (dd 6 hdep :), trivial⟩, Ns.idle hN⟩)
    · exact t_assign (ve 16 hV (hG.2.2.2.2.2.1 (dd 5 hdep))) hF hS rfl rfl rfl rfl (by decide) (Jm hM hG hO hN)
  rintro fZ tZ u1 ⟨hM, hG, hO, hN⟩ hall
  obtain ⟨e12, e13, e14, e11, e15, e16, e9, -⟩ := Gs.all 9 hall hG rfl
  obtain ⟨b1_6, ee8, pb1_6, lb1_6, kb1_6⟩ := hM.nw.1 (hall 6 (by decide))
  have e8 : tZ 8 = .pointer (some ⟨b1_6, 0, none⟩) := ee8
  clear ee8
  have Kb1_6 : CV u1 b1_6 (LN (a + b)) := by
    have h1 : CV u1 b1_6 (bif fZ 7 then LN (a + b) else L0s) := kb1_6
    rw [hall 7 (by decide)] at h1; exact h1
  clear kb1_6
  have HB1 : Below w.heap.size w u1 := hM.bel
  have sz1 : v0.heap.size ≤ u1.heap.size := hM.sz
  obtain ⟨-, -, ⟨l1p2, K1p2⟩, ⟨l1r6, K1r6⟩, -⟩ := hM.ks.up hM.sz
  dsimp only at l1p2 K1p2 l1r6 K1r6
  simp only [ovr, List.set_cons_zero, List.set_cons_succ, e12, e13, e14, e11, e15, e16, e9, e8]
  clear hM hG hO hN hall e12 e13 e14 e11 e15 e16 e9 e8 K0p0 K0p1 K0p2 K0r6 HB0
  clear tZ
  go_upto_region 2 with fail
  refine region_plain [17, 18, 10] (fun fZ tZ uZ => MR w.heap.size w (u1.heap.size) [(w.heap.size + 1 + 1, [.int .u64 (m0), .int .u64 (m1), .int .u64 (m2), .int .u64 (m3)]), (w.heap.size + 1 + 1 + 1, L0s), (b1_6, LN (a + b))] [] [(fZ 2, fZ 3, tZ 10, L0w, LW (a + b))] uZ ∧ Gs fZ tZ [(0, 17, NV (a + b)), (1, 18, WV (a + b))] ∧ Os fZ [(3, 2)] ∧ Ns fZ tZ []) (by kernel_rfl) ?_ ?_ ?_
  · exact ⟨{ bel := HB1, lo := HB1.size, sz := Nat.le_refl _, ks := ⟨⟨l1p2, K1p2⟩, ⟨l1r6, K1r6⟩, ⟨lb1_6, Kb1_6⟩, trivial⟩, ex := trivial, nw := ⟨fun e => (by cases e), trivial⟩, nd := ⟨fun e => (by cases e), trivial⟩ }, Gs.none _ _, Os.none _, trivial⟩
  · rintro fZ tZ uZ iZ oZ aZ hF ⟨hM, hG, hO, hN⟩ ho hfi hdep
    obtain ⟨hS, hV⟩ := hF.two 26 (by decide) rfl (by decide)
    rcases cZ4 ho with rfl | rfl | rfl | rfl <;> cases ho
    · exact t_load (show aZ.eval (.tmp 8) = .pointer (some ⟨b1_6, 0, none⟩) from (hF.out 8 (by decide)).trans rfl) hM.ks.2.2.1.2 Try.underlying25 info_api_Nat hF hS rfl rfl rfl rfl rfl (by decide) (Jm hM hG hO hN)
    · exact t_call (vs := [NV (a + b)]) (by show [aZ.eval (.tmp 17)] = _; rw [(ve 17 hV (hG.1 (dd 0 hdep)))]) ent_limb_Widen (nWiden (a + b) uZ hi) hF hS rfl rfl rfl rfl (by decide) (fun _ hB => (Jm (hM.call hB) hG hO hN))
    · have q1 : fZ 3 = false := Os.not (hO.1) hfi
      exact t_alloc (al_api_Wide uZ) hF hS rfl rfl rfl rfl (by decide) ⟨MR.newF 0 hM rfl hfi q1, Gs.other rfl hG, hO.keep rfl, Ns.step hN rfl⟩
    · exact t_storeN 0 hM rfl (dd 2 hdep) hfi (hV 10 (by decide)) (ve 18 hV (hG.2.1 (dd 1 hdep))) rfl info_api_Wide rfl hF rfl rfl rfl rfl (fun _ h => ⟨h, Gs.idle rfl hG, ⟨fun _ => (dd 2 hdep :), trivial⟩, Ns.idle hN⟩)
  rintro fZ tZ u2 ⟨hM, hG, hO, hN⟩ hall
  obtain ⟨e17, e18, -⟩ := Gs.all 4 hall hG rfl
  obtain ⟨b2_2, ee10, pb2_2, lb2_2, kb2_2⟩ := hM.nw.1 (hall 2 (by decide))
  have e10 : tZ 10 = .pointer (some ⟨b2_2, 0, none⟩) := ee10
  clear ee10
  have Kb2_2 : CV u2 b2_2 (LW (a + b)) := by
    have h1 : CV u2 b2_2 (bif fZ 3 then LW (a + b) else L0w) := kb2_2
    rw [hall 3 (by decide)] at h1; exact h1
  clear kb2_2
  have HB2 : Below w.heap.size w u2 := hM.bel
  have sz2 : u1.heap.size ≤ u2.heap.size := hM.sz
  obtain ⟨⟨l2p2, K2p2⟩, ⟨l2r6, K2r6⟩, -, -⟩ := hM.ks.up hM.sz
  dsimp only at l2p2 K2p2 l2r6 K2r6
  simp only [ovr, List.set_cons_zero, List.set_cons_succ, e17, e18, e10]
  clear hM hG hO hN hall e17 e18 e10 K1p2 K1r6 Kb1_6 HB1
  clear tZ
  go_upto_region 5 with fail
  refine region_plain [21, 22, 23, 24, 25, 7] (fun fZ tZ uZ => MR w.heap.size w (u2.heap.size) [(w.heap.size + 1 + 1, [.int .u64 (m0), .int .u64 (m1), .int .u64 (m2), .int .u64 (m3)]), (b2_2, LW (a + b))] [(w.heap.size + 1 + 1 + 1, fZ 5, L0s, [.int .u64 (r0), .int .u64 (r1), .int .u64 (r2), .int .u64 (r3)])] [] uZ ∧ Gs fZ tZ [(0, 21, WV (a + b)), (1, 22, .agg #[.int .u64 (m0), .int .u64 (m1), .int .u64 (m2), .int .u64 (m3)]), (2, 23, .tuple #[A4 (r0) (r1) (r2) (r3), .int .i64 ec]), (3, 24, A4 (r0) (r1) (r2) (r3)), (4, 25, .int .i64 ec), (6, 7, .int .i64 ec)] ∧ Os fZ [] ∧ Ns fZ tZ []) (by kernel_rfl) ?_ ?_ ?_
  · exact ⟨{ bel := HB2, lo := HB2.size, sz := Nat.le_refl _, ks := ⟨⟨l2p2, K2p2⟩, ⟨lb2_2, Kb2_2⟩, trivial⟩, ex := ⟨⟨(by omega), l2r6, rfl, K2r6⟩, trivial⟩, nw := trivial, nd := trivial }, Gs.none _ _, Os.none _, trivial⟩
  · rintro fZ tZ uZ iZ oZ aZ hF ⟨hM, hG, hO, hN⟩ ho hfi hdep
    obtain ⟨hS, hV⟩ := hF.two 26 (by decide) rfl (by decide)
    rcases cZ7 ho with rfl | rfl | rfl | rfl | rfl | rfl | rfl <;> cases ho
    · exact t_load (show aZ.eval (.tmp 10) = .pointer (some ⟨b2_2, 0, none⟩) from (hF.out 10 (by decide)).trans rfl) hM.ks.2.1.2 Try.underlying37 info_api_Wide hF hS rfl rfl rfl rfl rfl (by decide) (Jt hM hG hN)
    · exact t_load (show aZ.eval (.tmp 5) = .pointer (some ⟨w.heap.size + 1 + 1, 0, none⟩) from (hF.out 5 (by decide)).trans rfl) hM.ks.1.2 Try.underlying25 info_api_Nat hF hS rfl rfl rfl rfl rfl (by decide) (Jt hM hG hN)
    · exact t_call (vs := [WV (a + b), .agg #[.int .u64 (m0), .int .u64 (m1), .int .u64 (m2), .int .u64 (m3)]]) (by show [aZ.eval (.tmp 21), aZ.eval (.tmp 22)] = _; rw [(ve 21 hV (hG.1 (dd 0 hdep))), (ve 22 hV (hG.2.1 (dd 1 hdep)))]) ent_mod_Reduce (hR.out uZ) hF hS rfl rfl rfl rfl (by decide) (fun _ hB => (Jt (hM.call hB) hG hN))
    · exact t_extract (ve 23 hV (hG.2.2.1 (dd 2 hdep))) hF hS rfl rfl rfl rfl rfl (by decide) (Jt hM hG hN)
    · exact t_extract (ve 23 hV (hG.2.2.1 (dd 2 hdep))) hF hS rfl rfl rfl rfl rfl (by decide) (Jt hM hG hN)
    · refine op_plain rfl rfl (fun K hK => ?_)
      have kk : CV uZ (w.heap.size + 1 + 1 + 1) (bif fZ 5 then [.int .u64 (r0), .int .u64 (r1), .int .u64 (r2), .int .u64 (r3)] else L0s) := hM.ex.1.2.2.2
      rw [hfi] at kk
      have kk : CV uZ (w.heap.size + 1 + 1 + 1) (L0s) := kk
      refine wp_store_mid 25 _ _ rfl (w.heap.size + 1 + 1 + 1) 0 ([.int .u64 (r0), .int .u64 (r1), .int .u64 (r2), .int .u64 (r3)] : List Value).toArray (show aZ.eval (.tmp 6) = .pointer (some ⟨w.heap.size + 1 + 1 + 1, 0, none⟩) from (hF.out 6 (by decide)).trans rfl) (ve 24 hV (hG.2.2.2.1 (dd 3 hdep))) kk.there info_api_Nat (all_one rfl) ?_
      exact tell0 hK hF ⟨MR.putXF 0 hM rfl ⟨by omega, by omega, trivial⟩ trivial, Gs.idle rfl hG, trivial, Ns.idle hN⟩
    · exact t_assign (ve 25 hV (hG.2.2.2.2.1 (dd 4 hdep))) hF hS rfl rfl rfl rfl (by decide) (Jt hM hG hN)
  rintro fZ tZ u3 ⟨hM, hG, hO, hN⟩ hall
  obtain ⟨e21, e22, e23, e24, e25, e7, -⟩ := Gs.all 7 hall hG rfl
  have HB3 : Below w.heap.size w u3 := hM.bel
  have sz3 : u2.heap.size ≤ u3.heap.size := hM.sz
  have K3r6 : CV u3 (w.heap.size + 1 + 1 + 1) ([.int .u64 (r0), .int .u64 (r1), .int .u64 (r2), .int .u64 (r3)]) := by
    have h1 : CV u3 (w.heap.size + 1 + 1 + 1) (bif fZ 5 then [.int .u64 (r0), .int .u64 (r1), .int .u64 (r2), .int .u64 (r3)] else L0s) := hM.ex.1.2.2.2
    rw [hall 5 (by decide)] at h1; exact h1
  have l3r6 : w.heap.size + 1 + 1 + 1 < u3.heap.size := Nat.lt_of_lt_of_le hM.ex.1.2.1 hM.sz
  simp only [ovr, List.set_cons_zero, List.set_cons_succ, e21, e22, e23, e24, e25, e7]
  clear hM hG hO hN hall e21 e22 e23 e24 e25 e7 K2p2 K2r6 Kb2_2 HB2
  clear tZ
  have c6_0 := (K3r6 0 _ rfl).1
  have c6_1 := (K3r6 1 _ rfl).1
  have c6_2 := (K3r6 2 _ rfl).1
  have c6_3 := (K3r6 3 _ rfl).1
  go_wp2
  refine bodyPost_ret (v := .tuple #[A4 (r0) (r1) (r2) (r3), .int .i64 ec]) (by simp [results, Try.results20, go_sem, c6_0, c6_1, c6_2, c6_3]) rfl ⟨rfl, HB3⟩
set_option maxRecDepth 100000 in
set_option maxHeartbeats 2000000 in
theorem addG_ge (a b m0 m1 m2 m3 r0 r1 r2 r3 ec : Int) (w : World) (ha : In a) (hb : In b) (hR : Hid (∀ u, Calls Try.prog 26 #[WV (a + b), A4 m0 m1 m2 m3] u fun e u' => e = .returned (.tuple #[A4 r0 r1 r2 r3, .int .i64 ec]) ∧ Below u.heap.size u u')) (hl : 115792089237316195423570985008687907853269984665640564039457584007913129639936 ≤ a + b) : Calls Try.prog 20 #[NV a, NV b, A4 m0 m1 m2 m3] w fun e w' => e = .returned (.tuple #[A4 (r0) (r1) (r2) (r3), .int .i64 ec]) ∧ Below w.heap.size w w' := by
  have ha2 := ha.2; have hb2 := hb.2
  obtain ⟨s, hs⟩ : ∃ s, a + b - 115792089237316195423570985008687907853269984665640564039457584007913129639936 = s := ⟨_, rfl⟩
  have hA : WV (a + b) = A8 (D0 s) (D1 s) (D2 s) (D3 s) 1 0 0 0 := WV_of (a + b) (D0 s) (D1 s) (D2 s) (D3 s) 1 0 0 0 (W_D0 s) (W_D1 s) (W_D2 s) (W_D3 s) ⟨by omega, by omega⟩ W_0 W_0 W_0 (by rw [V_In ⟨by omega, by omega⟩]; simp [V]; omega)
  rw [hA] at hR
  have nA : Hid (∀ u, Calls Try.prog 48 #[NV a, NV b] u fun e u' => e = .returned (.tuple #[NV s, .bool true]) ∧ Below u.heap.size u u') := fun u => by rw [← hs]; exact nAdd_ge a b u ha hb hl
  clear hs hA ha2 hb2
  go_enter Try.func20, Try.ntmps20
  go_upto_region 1 with fail
  generalize hC : ((((w.alloc (.cells (LN a : List Value).toArray 25)).alloc (.cells (LN b : List Value).toArray 25)).alloc (.cells ([.int .u64 (m0), .int .u64 (m1), .int .u64 (m2), .int .u64 (m3)] : List Value).toArray 25)).alloc (.cells (L0s : List Value).toArray 25)) = v0 at *
  have HB0 : Below w.heap.size w v0 := by rw [← hC]; exact (balloc (balloc (balloc (balloc (bself w) _) _) _) _)
  have K0p0 : CV v0 (w.heap.size) (LN a) := by rw [← hC]; exact ((((CV.new w (LN a) 25).alloc (by simp <;> omega) _).alloc (by simp <;> omega) _).alloc (by simp <;> omega) _)
  have l0p0 : w.heap.size < v0.heap.size := by rw [← hC]; simp <;> omega
  have K0p1 : CV v0 (w.heap.size + 1) (LN b) := by rw [← hC]; exact (((CV.newAt (w.alloc (.cells (LN a : List Value).toArray 25)) (LN b) 25 _ (by simp)).alloc (by simp <;> omega) _).alloc (by simp <;> omega) _)
  have l0p1 : w.heap.size + 1 < v0.heap.size := by rw [← hC]; simp <;> omega
  have K0p2 : CV v0 (w.heap.size + 1 + 1) ([.int .u64 (m0), .int .u64 (m1), .int .u64 (m2), .int .u64 (m3)]) := by rw [← hC]; exact ((CV.newAt ((w.alloc (.cells (LN a : List Value).toArray 25)).alloc (.cells (LN b : List Value).toArray 25)) ([.int .u64 (m0), .int .u64 (m1), .int .u64 (m2), .int .u64 (m3)]) 25 _ (by simp)).alloc (by simp <;> omega) _)
  have l0p2 : w.heap.size + 1 + 1 < v0.heap.size := by rw [← hC]; simp <;> omega
  have K0r6 : CV v0 (w.heap.size + 1 + 1 + 1) (L0s) := by rw [← hC]; exact (CV.newAt (((w.alloc (.cells (LN a : List Value).toArray 25)).alloc (.cells (LN b : List Value).toArray 25)).alloc (.cells ([.int .u64 (m0), .int .u64 (m1), .int .u64 (m2), .int .u64 (m3)] : List Value).toArray 25)) (L0s) 25 _ (by simp))
  have l0r6 : w.heap.size + 1 + 1 + 1 < v0.heap.size := by rw [← hC]; simp <;> omega
  clear hC
  refine region_plain [12, 13, 14, 11, 15, 16, 8, 9] (fun fZ tZ uZ => MR w.heap.size w (v0.heap.size) [(w.heap.size, LN a), (w.heap.size + 1, LN b), (w.heap.size + 1 + 1, [.int .u64 (m0), .int .u64 (m1), .int .u64 (m2), .int .u64 (m3)]), (w.heap.size + 1 + 1 + 1, L0s)] [] [(fZ 6, fZ 7, tZ 8, L0s, LN s)] uZ ∧ Gs fZ tZ [(0, 12, NV a), (1, 13, NV b), (2, 14, .tuple #[NV s, .bool true]), (3, 11, .tuple #[NV s, .bool true]), (4, 15, NV s), (5, 16, .bool true), (8, 9, .bool true)] ∧ Os fZ [(7, 6)] ∧ Ns fZ tZ []) (by kernel_rfl) ?_ ?_ ?_
  · exact ⟨{ bel := HB0, lo := HB0.size, sz := Nat.le_refl _, ks := ⟨⟨l0p0, K0p0⟩, ⟨l0p1, K0p1⟩, ⟨l0p2, K0p2⟩, ⟨l0r6, K0r6⟩, trivial⟩, ex := trivial, nw := ⟨fun e => (by cases e), trivial⟩, nd := ⟨fun e => (by cases e), trivial⟩ }, Gs.none _ _, Os.none _, trivial⟩
  · rintro fZ tZ uZ iZ oZ aZ hF ⟨hM, hG, hO, hN⟩ ho hfi hdep
    obtain ⟨hS, hV⟩ := hF.two 26 (by decide) rfl (by decide)
    rcases cZ9 ho with rfl | rfl | rfl | rfl | rfl | rfl | rfl | rfl | rfl <;> cases ho
    · exact t_load (show aZ.eval (.tmp 3) = .pointer (some ⟨w.heap.size, 0, none⟩) from (hF.out 3 (by decide)).trans rfl) hM.ks.1.2 Try.underlying25 info_api_Nat hF hS rfl rfl rfl rfl rfl (by decide) (Jm hM hG hO hN)
    · exact t_load (show aZ.eval (.tmp 4) = .pointer (some ⟨w.heap.size + 1, 0, none⟩) from (hF.out 4 (by decide)).trans rfl) hM.ks.2.1.2 Try.underlying25 info_api_Nat hF hS rfl rfl rfl rfl rfl (by decide) (Jm hM hG hO hN)
    · exact t_call (vs := [NV a, NV b]) (by show [aZ.eval (.tmp 12), aZ.eval (.tmp 13)] = _; rw [(ve 12 hV (hG.1 (dd 0 hdep))), (ve 13 hV (hG.2.1 (dd 1 hdep)))]) ent_limb_Add (nA.out uZ) hF hS rfl rfl rfl rfl (by decide) (fun _ hB => (Jm (hM.call hB) hG hO hN))
    · exact t_move (ve 14 hV (hG.2.2.1 (dd 2 hdep))) hF hS rfl rfl rfl rfl (by decide) (Jm hM hG hO hN)
    · exact t_extract (ve 11 hV (hG.2.2.2.1 (dd 3 hdep))) hF hS rfl rfl rfl rfl rfl (by decide) (Jm hM hG hO hN)
    · exact t_extract (ve 11 hV (hG.2.2.2.1 (dd 3 hdep))) hF hS rfl rfl rfl rfl rfl (by decide) (Jm hM hG hO hN)
    · have q1 : fZ 7 = false := Os.not (hO.1) hfi
      exact t_alloc (al_api_Nat uZ) hF hS rfl rfl rfl rfl (by decide) ⟨MR.newF 0 hM rfl hfi q1, Gs.other rfl hG, hO.keep rfl, Ns.step hN rfl⟩
    · exact t_storeN 0 hM rfl (dd 6 hdep) hfi (hV 8 (by decide)) (ve 15 hV (hG.2.2.2.2.1 (dd 4 hdep))) rfl info_api_Nat rfl hF rfl rfl rfl rfl (fun _ h => ⟨h, Gs.idle rfl hG, ⟨fun _ => (dd 6 hdep :), trivial⟩, Ns.idle hN⟩)
    · exact t_assign (ve 16 hV (hG.2.2.2.2.2.1 (dd 5 hdep))) hF hS rfl rfl rfl rfl (by decide) (Jm hM hG hO hN)
  rintro fZ tZ u1 ⟨hM, hG, hO, hN⟩ hall
  obtain ⟨e12, e13, e14, e11, e15, e16, e9, -⟩ := Gs.all 9 hall hG rfl
  obtain ⟨b1_6, ee8, pb1_6, lb1_6, kb1_6⟩ := hM.nw.1 (hall 6 (by decide))
  have e8 : tZ 8 = .pointer (some ⟨b1_6, 0, none⟩) := ee8
  clear ee8
  have Kb1_6 : CV u1 b1_6 (LN s) := by
    have h1 : CV u1 b1_6 (bif fZ 7 then LN s else L0s) := kb1_6
    rw [hall 7 (by decide)] at h1; exact h1
  clear kb1_6
  have HB1 : Below w.heap.size w u1 := hM.bel
  have sz1 : v0.heap.size ≤ u1.heap.size := hM.sz
  obtain ⟨-, -, ⟨l1p2, K1p2⟩, ⟨l1r6, K1r6⟩, -⟩ := hM.ks.up hM.sz
  dsimp only at l1p2 K1p2 l1r6 K1r6
  simp only [ovr, List.set_cons_zero, List.set_cons_succ, e12, e13, e14, e11, e15, e16, e9, e8]
  clear hM hG hO hN hall e12 e13 e14 e11 e15 e16 e9 e8 K0p0 K0p1 K0p2 K0r6 HB0
  clear tZ
  go_upto_region 2 with fail
  refine region_plain [17, 18, 10] (fun fZ tZ uZ => MR w.heap.size w (u1.heap.size) [(w.heap.size + 1 + 1, [.int .u64 (m0), .int .u64 (m1), .int .u64 (m2), .int .u64 (m3)]), (w.heap.size + 1 + 1 + 1, L0s), (b1_6, LN s)] [] [(fZ 2, fZ 3, tZ 10, L0w, [.int .u64 (D0 (s)), .int .u64 (D1 (s)), .int .u64 (D2 (s)), .int .u64 (D3 (s)), .int .u64 (0), .int .u64 (0), .int .u64 (0), .int .u64 (0)])] uZ ∧ Gs fZ tZ [(0, 17, NV s), (1, 18, A8 (D0 (s)) (D1 (s)) (D2 (s)) (D3 (s)) (0) (0) (0) (0))] ∧ Os fZ [(3, 2)] ∧ Ns fZ tZ []) (by kernel_rfl) ?_ ?_ ?_
  · exact ⟨{ bel := HB1, lo := HB1.size, sz := Nat.le_refl _, ks := ⟨⟨l1p2, K1p2⟩, ⟨l1r6, K1r6⟩, ⟨lb1_6, Kb1_6⟩, trivial⟩, ex := trivial, nw := ⟨fun e => (by cases e), trivial⟩, nd := ⟨fun e => (by cases e), trivial⟩ }, Gs.none _ _, Os.none _, trivial⟩
  · rintro fZ tZ uZ iZ oZ aZ hF ⟨hM, hG, hO, hN⟩ ho hfi hdep
    obtain ⟨hS, hV⟩ := hF.two 26 (by decide) rfl (by decide)
    rcases cZ4 ho with rfl | rfl | rfl | rfl <;> cases ho
    · exact t_load (show aZ.eval (.tmp 8) = .pointer (some ⟨b1_6, 0, none⟩) from (hF.out 8 (by decide)).trans rfl) hM.ks.2.2.1.2 Try.underlying25 info_api_Nat hF hS rfl rfl rfl rfl rfl (by decide) (Jm hM hG hO hN)
    · exact t_call (vs := [NV s]) (by show [aZ.eval (.tmp 17)] = _; rw [(ve 17 hV (hG.1 (dd 0 hdep)))]) ent_limb_Widen (Widen_any (D0 s) (D1 s) (D2 s) (D3 s) uZ) hF hS rfl rfl rfl rfl (by decide) (fun _ hB => (Jm (hM.call hB) hG hO hN))
    · have q1 : fZ 3 = false := Os.not (hO.1) hfi
      exact t_alloc (al_api_Wide uZ) hF hS rfl rfl rfl rfl (by decide) ⟨MR.newF 0 hM rfl hfi q1, Gs.other rfl hG, hO.keep rfl, Ns.step hN rfl⟩
    · exact t_storeN 0 hM rfl (dd 2 hdep) hfi (hV 10 (by decide)) (ve 18 hV (hG.2.1 (dd 1 hdep))) rfl info_api_Wide rfl hF rfl rfl rfl rfl (fun _ h => ⟨h, Gs.idle rfl hG, ⟨fun _ => (dd 2 hdep :), trivial⟩, Ns.idle hN⟩)
  rintro fZ tZ u2 ⟨hM, hG, hO, hN⟩ hall
  obtain ⟨e17, e18, -⟩ := Gs.all 4 hall hG rfl
  obtain ⟨b2_2, ee10, pb2_2, lb2_2, kb2_2⟩ := hM.nw.1 (hall 2 (by decide))
  have e10 : tZ 10 = .pointer (some ⟨b2_2, 0, none⟩) := ee10
  clear ee10
  have Kb2_2 : CV u2 b2_2 ([.int .u64 (D0 (s)), .int .u64 (D1 (s)), .int .u64 (D2 (s)), .int .u64 (D3 (s)), .int .u64 (0), .int .u64 (0), .int .u64 (0), .int .u64 (0)]) := by
    have h1 : CV u2 b2_2 (bif fZ 3 then [.int .u64 (D0 (s)), .int .u64 (D1 (s)), .int .u64 (D2 (s)), .int .u64 (D3 (s)), .int .u64 (0), .int .u64 (0), .int .u64 (0), .int .u64 (0)] else L0w) := kb2_2
    rw [hall 3 (by decide)] at h1; exact h1
  clear kb2_2
  have HB2 : Below w.heap.size w u2 := hM.bel
  have sz2 : u1.heap.size ≤ u2.heap.size := hM.sz
  obtain ⟨⟨l2p2, K2p2⟩, ⟨l2r6, K2r6⟩, -, -⟩ := hM.ks.up hM.sz
  dsimp only at l2p2 K2p2 l2r6 K2r6
  simp only [ovr, List.set_cons_zero, List.set_cons_succ, e17, e18, e10]
  clear hM hG hO hN hall e17 e18 e10 K1p2 K1r6 Kb1_6 HB1
  clear tZ
  go_upto_region 4 with fail
  refine region_plain [20] (fun fZ tZ uZ => MR w.heap.size w (u2.heap.size) [(w.heap.size + 1 + 1, [.int .u64 (m0), .int .u64 (m1), .int .u64 (m2), .int .u64 (m3)]), (w.heap.size + 1 + 1 + 1, L0s)] [(b2_2, fZ 1, [.int .u64 (D0 (s)), .int .u64 (D1 (s)), .int .u64 (D2 (s)), .int .u64 (D3 (s)), .int .u64 (0), .int .u64 (0), .int .u64 (0), .int .u64 (0)], [.int .u64 (D0 (s)), .int .u64 (D1 (s)), .int .u64 (D2 (s)), .int .u64 (D3 (s)), (Go.Value.int Go.IntKind.u64 1), .int .u64 (0), .int .u64 (0), .int .u64 (0)])] [] uZ ∧ Gs fZ tZ [(0, 20, .pointer (some ⟨b2_2, 4, none⟩))] ∧ Os fZ [] ∧ Ns fZ tZ []) (by kernel_rfl) ?_ ?_ ?_
  · exact ⟨{ bel := HB2, lo := HB2.size, sz := Nat.le_refl _, ks := ⟨⟨l2p2, K2p2⟩, ⟨l2r6, K2r6⟩, trivial⟩, ex := ⟨⟨(by omega), lb2_2, rfl, Kb2_2⟩, trivial⟩, nw := trivial, nd := trivial }, Gs.none _ _, Os.none _, trivial⟩
  · rintro fZ tZ uZ iZ oZ aZ hF ⟨hM, hG, hO, hN⟩ ho hfi hdep
    obtain ⟨hS, hV⟩ := hF.two 26 (by decide) rfl (by decide)
    rcases cZ2 ho with rfl | rfl <;> cases ho
    · refine op_plain rfl rfl (fun K hK => ?_)
      refine wp_index rfl (show aZ.eval (.tmp 10) = .pointer (some ⟨b2_2, 0, none⟩) from (hF.out 10 (by decide)).trans rfl) rfl (ix_wide uZ (b2_2) 4 (by omega)) ?_
      exact tell hK hF hS (by decide) (Jt hM hG hN)
    · refine op_plain rfl rfl (fun K hK => ?_)
      have kk : CV uZ (b2_2) (bif fZ 1 then [.int .u64 (D0 (s)), .int .u64 (D1 (s)), .int .u64 (D2 (s)), .int .u64 (D3 (s)), (Go.Value.int Go.IntKind.u64 1), .int .u64 (0), .int .u64 (0), .int .u64 (0)] else [.int .u64 (D0 (s)), .int .u64 (D1 (s)), .int .u64 (D2 (s)), .int .u64 (D3 (s)), .int .u64 (0), .int .u64 (0), .int .u64 (0), .int .u64 (0)]) := hM.ex.1.2.2.2
      rw [hfi] at kk
      have kk : CV uZ (b2_2) ([.int .u64 (D0 (s)), .int .u64 (D1 (s)), .int .u64 (D2 (s)), .int .u64 (D3 (s)), .int .u64 (0), .int .u64 (0), .int .u64 (0), .int .u64 (0)]) := kk
      refine wp_store rfl (ve 20 hV (hG.1 (dd 0 hdep))) rfl (st_u64 uZ (b2_2) 4 _ _ (kk 4 _ rfl).1 (kk 4 _ rfl).2) ?_
      exact tell0 hK hF ⟨MR.putCF (k := 4) (x := (Go.Value.int Go.IntKind.u64 1)) 0 hM rfl hfi (show 4 < 8 by decide) rfl kk ⟨by omega, by omega, trivial⟩ trivial, Gs.idle rfl hG, trivial, Ns.idle hN⟩
  rintro fZ tZ u3 ⟨hM, hG, hO, hN⟩ hall
  obtain ⟨e20, -⟩ := Gs.all 2 hall hG rfl
  have HB3 : Below w.heap.size w u3 := hM.bel
  have sz3 : u2.heap.size ≤ u3.heap.size := hM.sz
  obtain ⟨⟨l3p2, K3p2⟩, ⟨l3r6, K3r6⟩, -⟩ := hM.ks.up hM.sz
  dsimp only at l3p2 K3p2 l3r6 K3r6
  have K3n2_2 : CV u3 (b2_2) ([.int .u64 (D0 (s)), .int .u64 (D1 (s)), .int .u64 (D2 (s)), .int .u64 (D3 (s)), (Go.Value.int Go.IntKind.u64 1), .int .u64 (0), .int .u64 (0), .int .u64 (0)]) := by
    have h1 : CV u3 (b2_2) (bif fZ 1 then [.int .u64 (D0 (s)), .int .u64 (D1 (s)), .int .u64 (D2 (s)), .int .u64 (D3 (s)), (Go.Value.int Go.IntKind.u64 1), .int .u64 (0), .int .u64 (0), .int .u64 (0)] else [.int .u64 (D0 (s)), .int .u64 (D1 (s)), .int .u64 (D2 (s)), .int .u64 (D3 (s)), .int .u64 (0), .int .u64 (0), .int .u64 (0), .int .u64 (0)]) := hM.ex.1.2.2.2
    rw [hall 1 (by decide)] at h1; exact h1
  have l3n2_2 : b2_2 < u3.heap.size := Nat.lt_of_lt_of_le hM.ex.1.2.1 hM.sz
  simp only [ovr, List.set_cons_zero, List.set_cons_succ, e20]
  clear hM hG hO hN hall e20 K2p2 K2r6 Kb2_2 HB2
  clear tZ
  go_upto_region 5 with fail
  refine region_plain [21, 22, 23, 24, 25, 7] (fun fZ tZ uZ => MR w.heap.size w (u3.heap.size) [(w.heap.size + 1 + 1, [.int .u64 (m0), .int .u64 (m1), .int .u64 (m2), .int .u64 (m3)]), (b2_2, [.int .u64 (D0 (s)), .int .u64 (D1 (s)), .int .u64 (D2 (s)), .int .u64 (D3 (s)), (Go.Value.int Go.IntKind.u64 1), .int .u64 (0), .int .u64 (0), .int .u64 (0)])] [(w.heap.size + 1 + 1 + 1, fZ 5, L0s, [.int .u64 (r0), .int .u64 (r1), .int .u64 (r2), .int .u64 (r3)])] [] uZ ∧ Gs fZ tZ [(0, 21, .agg #[.int .u64 (D0 (s)), .int .u64 (D1 (s)), .int .u64 (D2 (s)), .int .u64 (D3 (s)), (Go.Value.int Go.IntKind.u64 1), .int .u64 (0), .int .u64 (0), .int .u64 (0)]), (1, 22, .agg #[.int .u64 (m0), .int .u64 (m1), .int .u64 (m2), .int .u64 (m3)]), (2, 23, .tuple #[A4 (r0) (r1) (r2) (r3), .int .i64 ec]), (3, 24, A4 (r0) (r1) (r2) (r3)), (4, 25, .int .i64 ec), (6, 7, .int .i64 ec)] ∧ Os fZ [] ∧ Ns fZ tZ []) (by kernel_rfl) ?_ ?_ ?_
  · exact ⟨{ bel := HB3, lo := HB3.size, sz := Nat.le_refl _, ks := ⟨⟨l3p2, K3p2⟩, ⟨l3n2_2, K3n2_2⟩, trivial⟩, ex := ⟨⟨(by omega), l3r6, rfl, K3r6⟩, trivial⟩, nw := trivial, nd := trivial }, Gs.none _ _, Os.none _, trivial⟩
  · rintro fZ tZ uZ iZ oZ aZ hF ⟨hM, hG, hO, hN⟩ ho hfi hdep
    obtain ⟨hS, hV⟩ := hF.two 26 (by decide) rfl (by decide)
    rcases cZ7 ho with rfl | rfl | rfl | rfl | rfl | rfl | rfl <;> cases ho
    · exact t_load (show aZ.eval (.tmp 10) = .pointer (some ⟨b2_2, 0, none⟩) from (hF.out 10 (by decide)).trans rfl) hM.ks.2.1.2 Try.underlying37 info_api_Wide hF hS rfl rfl rfl rfl rfl (by decide) (Jt hM hG hN)
    · exact t_load (show aZ.eval (.tmp 5) = .pointer (some ⟨w.heap.size + 1 + 1, 0, none⟩) from (hF.out 5 (by decide)).trans rfl) hM.ks.1.2 Try.underlying25 info_api_Nat hF hS rfl rfl rfl rfl rfl (by decide) (Jt hM hG hN)
    · exact t_call (vs := [.agg #[.int .u64 (D0 (s)), .int .u64 (D1 (s)), .int .u64 (D2 (s)), .int .u64 (D3 (s)), (Go.Value.int Go.IntKind.u64 1), .int .u64 (0), .int .u64 (0), .int .u64 (0)], .agg #[.int .u64 (m0), .int .u64 (m1), .int .u64 (m2), .int .u64 (m3)]]) (by show [aZ.eval (.tmp 21), aZ.eval (.tmp 22)] = _; rw [(ve 21 hV (hG.1 (dd 0 hdep))), (ve 22 hV (hG.2.1 (dd 1 hdep)))]) ent_mod_Reduce (hR.out uZ) hF hS rfl rfl rfl rfl (by decide) (fun _ hB => (Jt (hM.call hB) hG hN))
    · exact t_extract (ve 23 hV (hG.2.2.1 (dd 2 hdep))) hF hS rfl rfl rfl rfl rfl (by decide) (Jt hM hG hN)
    · exact t_extract (ve 23 hV (hG.2.2.1 (dd 2 hdep))) hF hS rfl rfl rfl rfl rfl (by decide) (Jt hM hG hN)
    · refine op_plain rfl rfl (fun K hK => ?_)
      have kk : CV uZ (w.heap.size + 1 + 1 + 1) (bif fZ 5 then [.int .u64 (r0), .int .u64 (r1), .int .u64 (r2), .int .u64 (r3)] else L0s) := hM.ex.1.2.2.2
      rw [hfi] at kk
      have kk : CV uZ (w.heap.size + 1 + 1 + 1) (L0s) := kk
      refine wp_store_mid 25 _ _ rfl (w.heap.size + 1 + 1 + 1) 0 ([.int .u64 (r0), .int .u64 (r1), .int .u64 (r2), .int .u64 (r3)] : List Value).toArray (show aZ.eval (.tmp 6) = .pointer (some ⟨w.heap.size + 1 + 1 + 1, 0, none⟩) from (hF.out 6 (by decide)).trans rfl) (ve 24 hV (hG.2.2.2.1 (dd 3 hdep))) kk.there info_api_Nat (all_one rfl) ?_
      exact tell0 hK hF ⟨MR.putXF 0 hM rfl ⟨by omega, by omega, trivial⟩ trivial, Gs.idle rfl hG, trivial, Ns.idle hN⟩
    · exact t_assign (ve 25 hV (hG.2.2.2.2.1 (dd 4 hdep))) hF hS rfl rfl rfl rfl (by decide) (Jt hM hG hN)
  rintro fZ tZ u4 ⟨hM, hG, hO, hN⟩ hall
  obtain ⟨e21, e22, e23, e24, e25, e7, -⟩ := Gs.all 7 hall hG rfl
  have HB4 : Below w.heap.size w u4 := hM.bel
  have sz4 : u3.heap.size ≤ u4.heap.size := hM.sz
  have K4r6 : CV u4 (w.heap.size + 1 + 1 + 1) ([.int .u64 (r0), .int .u64 (r1), .int .u64 (r2), .int .u64 (r3)]) := by
    have h1 : CV u4 (w.heap.size + 1 + 1 + 1) (bif fZ 5 then [.int .u64 (r0), .int .u64 (r1), .int .u64 (r2), .int .u64 (r3)] else L0s) := hM.ex.1.2.2.2
    rw [hall 5 (by decide)] at h1; exact h1
  have l4r6 : w.heap.size + 1 + 1 + 1 < u4.heap.size := Nat.lt_of_lt_of_le hM.ex.1.2.1 hM.sz
  simp only [ovr, List.set_cons_zero, List.set_cons_succ, e21, e22, e23, e24, e25, e7]
  clear hM hG hO hN hall e21 e22 e23 e24 e25 e7 K3n2_2 K3p2 K3r6 HB3
  clear tZ
  have c6_0 := (K4r6 0 _ rfl).1
  have c6_1 := (K4r6 1 _ rfl).1
  have c6_2 := (K4r6 2 _ rfl).1
  have c6_3 := (K4r6 3 _ rfl).1
  go_wp2
  refine bodyPost_ret (v := .tuple #[A4 (r0) (r1) (r2) (r3), .int .i64 ec]) (by simp [results, Try.results20, go_sem, c6_0, c6_1, c6_2, c6_3]) rfl ⟨rfl, HB4⟩
theorem addG (a b m0 m1 m2 m3 r0 r1 r2 r3 ec : Int) (w : World) (ha : In a) (hb : In b) (hR : Hid (∀ u, Calls Try.prog 26 #[WV (a + b), A4 m0 m1 m2 m3] u fun e u' => e = .returned (.tuple #[A4 r0 r1 r2 r3, .int .i64 ec]) ∧ Below u.heap.size u u')) : Calls Try.prog 20 #[NV a, NV b, A4 m0 m1 m2 m3] w fun e w' => e = .returned (.tuple #[A4 (r0) (r1) (r2) (r3), .int .i64 ec]) ∧ Below w.heap.size w w' := by
  by_cases hl : a + b < 115792089237316195423570985008687907853269984665640564039457584007913129639936
  · exact addG_lt a b m0 m1 m2 m3 r0 r1 r2 r3 ec w ha hb hR hl
  · exact addG_ge a b m0 m1 m2 m3 r0 r1 r2 r3 ec w ha hb hR (by omega)
theorem mAdd (a b m : Int) (w : World) (ha : In a) (hb : In b) (hm : In m) (h : m ≠ 0) : Calls Try.prog 20 #[NV a, NV b, NV m] w fun e w' => e = .returned (.tuple #[NV ((a + b) % m), .int .i64 0]) ∧ Below w.heap.size w w' :=
  addG a b _ _ _ _ _ _ _ _ 0 w ha hb (fun u => mReduce (a + b) m u ⟨by have := ha.1; have := hb.1; omega, by have := ha.2; have := hb.2; omega⟩ hm h)
theorem mAdd0 (a b : Int) (w : World) (ha : In a) (hb : In b) : Calls Try.prog 20 #[NV a, NV b, A4 0 0 0 0] w fun e w' => e = .returned (.tuple #[A4 0 0 0 0, .int .i64 20]) ∧ Below w.heap.size w w' :=
  addG a b 0 0 0 0 0 0 0 0 20 w ha hb (fun u => mReduce0 (a + b) u)
end Go.Proofs.Ytnmkbihjbnbkkaa
