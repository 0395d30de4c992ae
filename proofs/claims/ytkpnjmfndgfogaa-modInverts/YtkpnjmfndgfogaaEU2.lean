/- Numbers modulo one: Inverse. -/
import Derived.Test.YtkpnjmfndgfogaaEU1
namespace Go.Proofs.Ytkpnjmfndgfogaa
open Go.RowKit
set_option linter.unusedVariables false
set_option linter.unusedSimpArgs false
theorem NV_0 : NV 0 = A4 0 0 0 0 := NV_small (by omega) (by omega)
theorem In_0 : In 0 := ⟨by omega, by omega⟩
theorem In_1 : In 1 := ⟨by omega, by omega⟩
theorem mSub0 (b m : Int) (w : World) (hb : In b) (hm : In m) (h : m ≠ 0) : Calls Try.prog 59 #[A4 0 0 0 0, NV b, NV m] w fun e w' => e = .returned (.tuple #[NV ((0 - b) % m), .int .i64 0]) ∧ Below w.heap.size w w' := by
  rw [← NV_0]; exact mSub 0 b m w In_0 hb hm h
theorem In_gI {a b : Int} (ha : In a) (hb : In b) (h : b ≠ 0) : In (gI b a) := by
  unfold gI
  have h1 : Nat.gcd b.toNat a.toNat ≤ b.toNat := Nat.gcd_le_left _ (by have := hb.1; omega)
  exact In_le hb (by omega) (by have := hb.1; omega)
set_option maxRecDepth 100000 in
set_option maxHeartbeats 4000000 in
theorem mInverse_no (a m : Int) (w : World) (ha : In a) (hm : In m) (h : m ≠ 0) (hg : gI m (a % m) ≠ 1) :
    Calls Try.prog 21 #[NV a, NV m] w fun e w' => e = .returned (.tuple #[A4 0 0 0 0, .int .i64 20]) ∧ Below w.heap.size w w' := by
  have ia : In (a % m) := In_mod hm h
  have h0 : 0 ≤ a % m := ia.1
  have h1 : a % m < m := Int.emod_lt_of_pos a (by have := hm.1; omega)
  obtain ⟨e1, e2, e3, e4⟩ := eu_spec h0 h1
  have id := In_gI ia hm h
  have hE := fun w => meuclid m (a % m) w hm ia h0 h1
  rw [e1] at hE
  generalize gI m (a % m) = d at *
  generalize (eu m (a % m)).2.1 = f at *
  generalize (eu m (a % m)).2.2 = s at *
  have hE' : Hid _ := hE
  clear hE
  have hz : decide (d = 1) = !true := by simp [hg]
  clear e1 e4 hg
  go_enter Try.func21, Try.ntmps21
  go_upto_region 1 with fail
  generalize hC : (((w.alloc (.cells (LN a : List Value).toArray 25)).alloc (.cells (LN m : List Value).toArray 25)).alloc (.cells (L0s : List Value).toArray 25)) = v0 at *
  have HB0 : Below w.heap.size w v0 := by rw [← hC]; exact (balloc (balloc (balloc (bself w) _) _) _)
  have K0p0 : CV v0 (w.heap.size) (LN a) := by rw [← hC]; exact (((CV.new w (LN a) 25).alloc (by simp <;> omega) _).alloc (by simp <;> omega) _)
  have l0p0 : w.heap.size < v0.heap.size := by rw [← hC]; simp <;> omega
  have K0p1 : CV v0 (w.heap.size + 1) (LN m) := by rw [← hC]; exact ((CV.newAt (w.alloc (.cells (LN a : List Value).toArray 25)) (LN m) 25 _ (by simp)).alloc (by simp <;> omega) _)
  have l0p1 : w.heap.size + 1 < v0.heap.size := by rw [← hC]; simp <;> omega
  have K0r4 : CV v0 (w.heap.size + 1 + 1) (L0s) := by rw [← hC]; exact (CV.newAt ((w.alloc (.cells (LN a : List Value).toArray 25)).alloc (.cells (LN m : List Value).toArray 25)) (L0s) 25 _ (by simp))
  have l0r4 : w.heap.size + 1 + 1 < v0.heap.size := by rw [← hC]; simp <;> omega
  clear hC
  refine region_drawn [11, 12, 13, 14, 10, 15, 16, 6] (fun fZ tZ uZ => MR w.heap.size w (v0.heap.size) [(w.heap.size + 1, LN m), (w.heap.size + 1 + 1, L0s)] [(w.heap.size, fZ 7, LN a, LN (a % m))] [] uZ ∧ Gs fZ tZ [(0, 11, NV a), (1, 12, WV a), (2, 13, NV m), (3, 14, .tuple #[NV (a % m), .int .i64 0]), (4, 10, .tuple #[NV (a % m), .int .i64 0]), (5, 15, NV (a % m)), (6, 16, .int .i64 0), (8, 6, .int .i64 0)] ∧ Os fZ [(7, 0)] ∧ Ns fZ tZ []) (by kernel_rfl) (by kernel_rfl) ?_ ?_ ?_
  · exact ⟨{ bel := HB0.drew, lo := HB0.size, sz := Nat.le_refl _, ks := ⟨⟨l0p1, K0p1⟩, ⟨l0r4, K0r4⟩, trivial⟩, ex := ⟨⟨(by omega), l0p0, rfl, K0p0⟩, trivial⟩, nw := trivial, nd := trivial }, Gs.none _ _, Os.none _, trivial⟩
  · rintro fZ tZ uZ iZ oZ aZ hF ⟨hM, hG, hO, hN⟩ ho hfi hdep
    obtain ⟨hS, hV⟩ := hF.two 42 (by decide) rfl (by decide)
    rcases cZ9 ho with rfl | rfl | rfl | rfl | rfl | rfl | rfl | rfl | rfl <;> cases ho
    · refine op_plain rfl rfl (fun K hK => ?_)
      have ys : fZ 7 = false := Os.not (hO.1) hfi
      have kk : CV uZ (w.heap.size) (bif fZ 7 then LN (a % m) else LN a) := hM.ex.1.2.2.2
      rw [ys] at kk
      have kk : CV uZ (w.heap.size) (LN a) := kk
      refine wp_load_mid 25 _ rfl (w.heap.size) 0 (show aZ.eval (.tmp 2) = .pointer (some ⟨w.heap.size, 0, none⟩) from (hF.out 2 (by decide)).trans rfl) (LN a) _ kk.range Try.underlying25 rfl info_api_Nat ?_
      exact tell hK hF hS (by decide) (Jm hM hG hO hN)
    · exact t_call (vs := [NV a]) (by show [aZ.eval (.tmp 11)] = _; rw [(ve 11 hV (hG.1 (dd 0 hdep)))]) ent_limb_Widen (nWiden a uZ ha) hF hS rfl rfl rfl rfl (by decide) (fun _ hB => (Jm (hM.call hB) hG hO hN))
    · exact t_load (show aZ.eval (.tmp 3) = .pointer (some ⟨w.heap.size + 1, 0, none⟩) from (hF.out 3 (by decide)).trans rfl) hM.ks.1.2 Try.underlying25 info_api_Nat hF hS rfl rfl rfl rfl rfl (by decide) (Jm hM hG hO hN)
    · exact t_call (vs := [WV a, NV m]) (by show [aZ.eval (.tmp 12), aZ.eval (.tmp 13)] = _; rw [(ve 12 hV (hG.2.1 (dd 1 hdep))), (ve 13 hV (hG.2.2.1 (dd 2 hdep)))]) ent_mod_Reduce (mReduce a m uZ ha.wide hm h) hF hS rfl rfl rfl rfl (by decide) (fun _ hB => (Jm (hM.call hB) hG hO hN))
    · exact t_move (ve 14 hV (hG.2.2.2.1 (dd 3 hdep))) hF hS rfl rfl rfl rfl (by decide) (Jm hM hG hO hN)
    · exact t_extract (ve 10 hV (hG.2.2.2.2.1 (dd 4 hdep))) hF hS rfl rfl rfl rfl rfl (by decide) (Jm hM hG hO hN)
    · exact t_extract (ve 10 hV (hG.2.2.2.2.1 (dd 4 hdep))) hF hS rfl rfl rfl rfl rfl (by decide) (Jm hM hG hO hN)
    · refine op_plain rfl rfl (fun K hK => ?_)
      have kk : CV uZ (w.heap.size) (bif fZ 7 then LN (a % m) else LN a) := hM.ex.1.2.2.2
      rw [hfi] at kk
      have kk : CV uZ (w.heap.size) (LN a) := kk
      refine wp_store_mid 25 _ _ rfl (w.heap.size) 0 (LN (a % m) : List Value).toArray (show aZ.eval (.tmp 2) = .pointer (some ⟨w.heap.size, 0, none⟩) from (hF.out 2 (by decide)).trans rfl) (ve 15 hV (hG.2.2.2.2.2.1 (dd 5 hdep))) kk.there info_api_Nat (all_one rfl) ?_
      exact tell0 hK hF ⟨MR.putXF 0 hM rfl ⟨by omega, by omega, trivial⟩ trivial, Gs.idle rfl hG, ⟨fun _ => hdep ⟨0, .phase⟩ (by simp) rfl, trivial⟩, Ns.idle hN⟩
    · exact t_assign (ve 16 hV (hG.2.2.2.2.2.2.1 (dd 6 hdep))) hF hS rfl rfl rfl rfl (by decide) (Jm hM hG hO hN)
  rintro fZ tZ u1 ⟨hM, hG, hO, hN⟩ hall
  obtain ⟨e11, e12, e13, e14, e10, e15, e16, e6, -⟩ := Gs.all 9 hall hG rfl
  have HB1 : Below w.heap.size w u1 := hM.bel
  have sz1 : v0.heap.size ≤ u1.heap.size := hM.sz
  obtain ⟨⟨l1p1, K1p1⟩, ⟨l1r4, K1r4⟩, -⟩ := hM.ks.up hM.sz
  dsimp only at l1p1 K1p1 l1r4 K1r4
  have K1p0 : CV u1 (w.heap.size) (LN (a % m)) := by
    have h1 : CV u1 (w.heap.size) (bif fZ 7 then LN (a % m) else LN a) := hM.ex.1.2.2.2
    rw [hall 7 (by decide)] at h1; exact h1
  have l1p0 : w.heap.size < u1.heap.size := Nat.lt_of_lt_of_le hM.ex.1.2.1 hM.sz
  simp only [ovr, List.set_cons_zero, List.set_cons_succ, e11, e12, e13, e14, e10, e15, e16, e6]
  clear hM hG hO hN hall e11 e12 e13 e14 e10 e15 e16 e6 K0p0 K0p1 K0r4 HB0
  clear tZ
  go_upto_region 4 with fail
  refine region_plain [22, 23, 24, 21, 25, 26, 27, 7, 8, 9] (fun fZ tZ uZ => MR w.heap.size w (u1.heap.size) [(w.heap.size, LN (a % m)), (w.heap.size + 1, LN m), (w.heap.size + 1 + 1, L0s)] [] [(fZ 7, fZ 9, tZ 7, L0s, LN d), (fZ 8, fZ 10, tZ 8, L0s, LN f)] uZ ∧ Gs fZ tZ [(0, 22, NV m), (1, 23, NV (a % m)), (2, 24, .tuple #[NV d, NV f, .bool s]), (3, 21, .tuple #[NV d, NV f, .bool s]), (4, 25, NV d), (5, 26, NV f), (6, 27, .bool s), (11, 9, .bool s)] ∧ Os fZ [(9, 7), (10, 8)] ∧ Ns fZ tZ []) (by kernel_rfl) ?_ ?_ ?_
  · exact ⟨{ bel := HB1, lo := HB1.size, sz := Nat.le_refl _, ks := ⟨⟨l1p0, K1p0⟩, ⟨l1p1, K1p1⟩, ⟨l1r4, K1r4⟩, trivial⟩, ex := trivial, nw := ⟨fun e => (by cases e), fun e => (by cases e), trivial⟩, nd := ⟨fun e => (by cases e), fun e => (by cases e), trivial⟩ }, Gs.none _ _, Os.none _, trivial⟩
  · rintro fZ tZ uZ iZ oZ aZ hF ⟨hM, hG, hO, hN⟩ ho hfi hdep
    obtain ⟨hS, hV⟩ := hF.two 42 (by decide) rfl (by decide)
    rcases cZ12 ho with rfl | rfl | rfl | rfl | rfl | rfl | rfl | rfl | rfl | rfl | rfl | rfl <;> cases ho
    · exact t_load (show aZ.eval (.tmp 3) = .pointer (some ⟨w.heap.size + 1, 0, none⟩) from (hF.out 3 (by decide)).trans rfl) hM.ks.2.1.2 Try.underlying25 info_api_Nat hF hS rfl rfl rfl rfl rfl (by decide) (Jm hM hG hO hN)
    · exact t_load (show aZ.eval (.tmp 2) = .pointer (some ⟨w.heap.size, 0, none⟩) from (hF.out 2 (by decide)).trans rfl) hM.ks.1.2 Try.underlying25 info_api_Nat hF hS rfl rfl rfl rfl rfl (by decide) (Jm hM hG hO hN)
    · exact t_call (vs := [NV m, NV (a % m)]) (by show [aZ.eval (.tmp 22), aZ.eval (.tmp 23)] = _; rw [(ve 22 hV (hG.1 (dd 0 hdep))), (ve 23 hV (hG.2.1 (dd 1 hdep)))]) ent_mod_euclid (hE'.out uZ) hF hS rfl rfl rfl rfl (by decide) (fun _ hB => (Jm (hM.call hB) hG hO hN))
    · exact t_move (ve 24 hV (hG.2.2.1 (dd 2 hdep))) hF hS rfl rfl rfl rfl (by decide) (Jm hM hG hO hN)
    · exact t_extract (ve 21 hV (hG.2.2.2.1 (dd 3 hdep))) hF hS rfl rfl rfl rfl rfl (by decide) (Jm hM hG hO hN)
    · exact t_extract (ve 21 hV (hG.2.2.2.1 (dd 3 hdep))) hF hS rfl rfl rfl rfl rfl (by decide) (Jm hM hG hO hN)
    · exact t_extract (ve 21 hV (hG.2.2.2.1 (dd 3 hdep))) hF hS rfl rfl rfl rfl rfl (by decide) (Jm hM hG hO hN)
    · have q1 : fZ 9 = false := Os.not (hO.1) hfi
      exact t_alloc (al_api_Nat uZ) hF hS rfl rfl rfl rfl (by decide) ⟨MR.newF 0 hM rfl hfi q1, Gs.other rfl hG, hO.keep rfl, Ns.step hN rfl⟩
    · have q1 : fZ 10 = false := Os.not (hO.2.1) hfi
      exact t_alloc (al_api_Nat uZ) hF hS rfl rfl rfl rfl (by decide) ⟨MR.newF 1 hM rfl hfi q1, Gs.other rfl hG, hO.keep rfl, Ns.step hN rfl⟩
    · exact t_storeN 0 hM rfl (dd 7 hdep) hfi (hV 7 (by decide)) (ve 25 hV (hG.2.2.2.2.1 (dd 4 hdep))) rfl info_api_Nat rfl hF rfl rfl rfl rfl (fun _ h => ⟨h, Gs.idle rfl hG, ⟨fun _ => (dd 7 hdep :), hO.2.1, trivial⟩, Ns.idle hN⟩)
    · exact t_storeN 1 hM rfl (dd 8 hdep) hfi (hV 8 (by decide)) (ve 26 hV (hG.2.2.2.2.2.1 (dd 5 hdep))) rfl info_api_Nat rfl hF rfl rfl rfl rfl (fun _ h => ⟨h, Gs.idle rfl hG, ⟨hO.1, fun _ => (dd 8 hdep :), trivial⟩, Ns.idle hN⟩)
    · exact t_assign (ve 27 hV (hG.2.2.2.2.2.2.1 (dd 6 hdep))) hF hS rfl rfl rfl rfl (by decide) (Jm hM hG hO hN)
  rintro fZ tZ u2 ⟨hM, hG, hO, hN⟩ hall
  obtain ⟨e22, e23, e24, e21, e25, e26, e27, e9, -⟩ := Gs.all 12 hall hG rfl
  obtain ⟨b2_7, ee7, pb2_7, lb2_7, kb2_7⟩ := hM.nw.1 (hall 7 (by decide))
  have e7 : tZ 7 = .pointer (some ⟨b2_7, 0, none⟩) := ee7
  clear ee7
  have Kb2_7 : CV u2 b2_7 (LN d) := by
    have h1 : CV u2 b2_7 (bif fZ 9 then LN d else L0s) := kb2_7
    rw [hall 9 (by decide)] at h1; exact h1
  clear kb2_7
  obtain ⟨b2_8, ee8, pb2_8, lb2_8, kb2_8⟩ := hM.nw.2.1 (hall 8 (by decide))
  have e8 : tZ 8 = .pointer (some ⟨b2_8, 0, none⟩) := ee8
  clear ee8
  have Kb2_8 : CV u2 b2_8 (LN f) := by
    have h1 : CV u2 b2_8 (bif fZ 10 then LN f else L0s) := kb2_8
    rw [hall 10 (by decide)] at h1; exact h1
  clear kb2_8
  have nb2_7_b2_8 : b2_7 ≠ b2_8 := fun e => (hM.nd.1 (hall 7 (by decide))).1 (hall 8 (by decide)) (by show tZ 8 = tZ 7; rw [e8, e7, e])
  have HB2 : Below w.heap.size w u2 := hM.bel
  have sz2 : u1.heap.size ≤ u2.heap.size := hM.sz
  obtain ⟨-, -, ⟨l2r4, K2r4⟩, -⟩ := hM.ks.up hM.sz
  dsimp only at l2r4 K2r4
  simp only [ovr, List.set_cons_zero, List.set_cons_succ, e22, e23, e24, e21, e25, e26, e27, e9, e7, e8]
  clear hM hG hO hN hall e22 e23 e24 e21 e25 e26 e27 e9 e7 e8 K1p0 K1p1 K1r4 HB1
  clear tZ
  go_upto_region 5 with fail
  refine region_drawn [29, 30, 31, 28] (fun fZ tZ uZ => MR w.heap.size w (u2.heap.size) [(w.heap.size + 1 + 1, L0s), (b2_7, LN d)] [] [] uZ ∧ Gs fZ tZ [(0, 29, NV d), (1, 30, NV 1), (2, 31, .bool true), (3, 28, .bool true)] ∧ Os fZ [] ∧ Ns fZ tZ []) (by kernel_rfl) (by kernel_rfl) ?_ ?_ ?_
  · exact ⟨{ bel := HB2.drew, lo := HB2.size, sz := Nat.le_refl _, ks := ⟨⟨l2r4, K2r4⟩, ⟨lb2_7, Kb2_7⟩, trivial⟩, ex := trivial, nw := trivial, nd := trivial }, Gs.none _ _, Os.none _, trivial⟩
  · rintro fZ tZ uZ iZ oZ aZ hF ⟨hM, hG, hO, hN⟩ ho hfi hdep
    obtain ⟨hS, hV⟩ := hF.two 42 (by decide) rfl (by decide)
    rcases cZ4 ho with rfl | rfl | rfl | rfl <;> cases ho
    · exact t_load (show aZ.eval (.tmp 7) = .pointer (some ⟨b2_7, 0, none⟩) from (hF.out 7 (by decide)).trans rfl) hM.ks.2.1.2 Try.underlying25 info_api_Nat hF hS rfl rfl rfl rfl rfl (by decide) (Jt hM hG hN)
    · exact t_call (vs := [(Go.Value.int Go.IntKind.u64 1)]) (by show [(Go.Value.int Go.IntKind.u64 1)] = _; rfl) ent_limb_Of (nOf 1 uZ (by omega) (by omega)) hF hS rfl rfl rfl rfl (by decide) (fun _ hB => (Jt (hM.call hB) hG hN))
    · refine op_plain rfl rfl (fun K hK => ?_)
      refine wp_bin rfl (ve 29 hV (hG.1 (dd 0 hdep))) (ve 30 hV (hG.2.1 (dd 1 hdep))) (neq_n _ _ id In_1 _ hz uZ) ?_
      exact tell hK hF hS (by decide) (Jt hM hG hN)
    · exact t_assign (ve 31 hV (hG.2.2.1 (dd 2 hdep))) hF hS rfl rfl rfl rfl (by decide) (Jt hM hG hN)
  rintro fZ tZ u3 ⟨hM, hG, hO, hN⟩ hall
  obtain ⟨e29, e30, e31, e28, -⟩ := Gs.all 4 hall hG rfl
  have HB3 : Below w.heap.size w u3 := hM.bel
  have sz3 : u2.heap.size ≤ u3.heap.size := hM.sz
  obtain ⟨⟨l3r4, K3r4⟩, -, -⟩ := hM.ks.up hM.sz
  dsimp only at l3r4 K3r4
  simp only [ovr, List.set_cons_zero, List.set_cons_succ, e29, e30, e31, e28]
  clear hM hG hO hN hall e29 e30 e31 e28 K2r4 Kb2_7 HB2
  clear tZ
  go_upto_region 6 with fail
  refine region_plain [32, 5] (fun fZ tZ uZ => MR w.heap.size w (u3.heap.size) [] [(w.heap.size + 1 + 1, fZ 1, L0s, [.int .u64 (0), .int .u64 (0), .int .u64 (0), .int .u64 (0)])] [] uZ ∧ Gs fZ tZ [(0, 32, A4 (0) (0) (0) (0)), (2, 5, (Go.Value.int Go.IntKind.i64 20))] ∧ Os fZ [] ∧ Ns fZ tZ []) (by kernel_rfl) ?_ ?_ ?_
  · exact ⟨{ bel := HB3, lo := HB3.size, sz := Nat.le_refl _, ks := trivial, ex := ⟨⟨(by omega), l3r4, rfl, K3r4⟩, trivial⟩, nw := trivial, nd := trivial }, Gs.none _ _, Os.none _, trivial⟩
  · rintro fZ tZ uZ iZ oZ aZ hF ⟨hM, hG, hO, hN⟩ ho hfi hdep
    obtain ⟨hS, hV⟩ := hF.two 42 (by decide) rfl (by decide)
    rcases cZ3 ho with rfl | rfl | rfl <;> cases ho
    · refine op_plain rfl rfl (fun K hK => ?_)
      refine wp_val (v := A4 (0) (0) (0) (0)) (w' := uZ) (by kernel_rfl) ?_
      exact tell hK hF hS (by decide) (Jt hM hG hN)
    · refine op_plain rfl rfl (fun K hK => ?_)
      have kk : CV uZ (w.heap.size + 1 + 1) (bif fZ 1 then [.int .u64 (0), .int .u64 (0), .int .u64 (0), .int .u64 (0)] else L0s) := hM.ex.1.2.2.2
      rw [hfi] at kk
      have kk : CV uZ (w.heap.size + 1 + 1) (L0s) := kk
      refine wp_store_mid 25 _ _ rfl (w.heap.size + 1 + 1) 0 ([.int .u64 (0), .int .u64 (0), .int .u64 (0), .int .u64 (0)] : List Value).toArray (show aZ.eval (.tmp 4) = .pointer (some ⟨w.heap.size + 1 + 1, 0, none⟩) from (hF.out 4 (by decide)).trans rfl) (ve 32 hV (hG.1 (dd 0 hdep))) kk.there info_api_Nat (all_one rfl) ?_
      exact tell0 hK hF ⟨MR.putXF 0 hM rfl trivial trivial, Gs.idle rfl hG, trivial, Ns.idle hN⟩
    · exact t_assign rfl hF hS rfl rfl rfl rfl (by decide) (Jt hM hG hN)
  rintro fZ tZ u4 ⟨hM, hG, hO, hN⟩ hall
  obtain ⟨e32, e5, -⟩ := Gs.all 3 hall hG rfl
  have HB4 : Below w.heap.size w u4 := hM.bel
  have sz4 : u3.heap.size ≤ u4.heap.size := hM.sz
  have K4r4 : CV u4 (w.heap.size + 1 + 1) ([.int .u64 (0), .int .u64 (0), .int .u64 (0), .int .u64 (0)]) := by
    have h1 : CV u4 (w.heap.size + 1 + 1) (bif fZ 1 then [.int .u64 (0), .int .u64 (0), .int .u64 (0), .int .u64 (0)] else L0s) := hM.ex.1.2.2.2
    rw [hall 1 (by decide)] at h1; exact h1
  have l4r4 : w.heap.size + 1 + 1 < u4.heap.size := Nat.lt_of_lt_of_le hM.ex.1.2.1 hM.sz
  simp only [ovr, List.set_cons_zero, List.set_cons_succ, e32, e5]
  clear hM hG hO hN hall e32 e5 K3r4 HB3
  clear tZ
  have c4_0 := (K4r4 0 _ rfl).1
  have c4_1 := (K4r4 1 _ rfl).1
  have c4_2 := (K4r4 2 _ rfl).1
  have c4_3 := (K4r4 3 _ rfl).1
  go_wp2
  refine bodyPost_ret (v := .tuple #[A4 0 0 0 0, .int .i64 20]) (by simp [results, Try.results21, go_sem, c4_0, c4_1, c4_2, c4_3]) rfl ⟨rfl, HB4⟩
set_option maxRecDepth 100000 in
set_option maxHeartbeats 4000000 in
theorem mInverse_neg (a m x : Int) (w : World) (ha : In a) (hm : In m) (h : m ≠ 0) (hg : gI m (a % m) = 1) (hx : IsInv (a % m) m x) (hb : (eu m (a % m)).2.2 = true) :
    Calls Try.prog 21 #[NV a, NV m] w fun e w' => e = .returned (.tuple #[NV x, .int .i64 0]) ∧ Below w.heap.size w w' := by
  have ia : In (a % m) := In_mod hm h
  have h0 : 0 ≤ a % m := ia.1
  have h1 : a % m < m := Int.emod_lt_of_pos a (by have := hm.1; omega)
  obtain ⟨e1, e2, e3, e4⟩ := eu_spec h0 h1
  have hE := fun w => meuclid m (a % m) w hm ia h0 h1
  have hx' := hx.uniq (eu_neg h0 h1 hg hb)
  rw [e1, hg, hb] at hE
  generalize (eu m (a % m)).2.1 = f at *
  obtain ⟨d, hd⟩ : ∃ d : Int, d = 1 := ⟨1, rfl⟩
  rw [← hd] at hE
  have id : In d := by rw [hd]; exact In_1
  have if' : In f := In_le hm e2 e3
  have hz : decide (d = 1) = !false := by simp [hd]
  have hE' : Hid _ := hE
  have Hx : Hid _ := hx'
  clear hE hx' e1 e4 hg hb hx hd
  go_enter Try.func21, Try.ntmps21
  go_upto_region 1 with fail
  generalize hC : (((w.alloc (.cells (LN a : List Value).toArray 25)).alloc (.cells (LN m : List Value).toArray 25)).alloc (.cells (L0s : List Value).toArray 25)) = v0 at *
  have HB0 : Below w.heap.size w v0 := by rw [← hC]; exact (balloc (balloc (balloc (bself w) _) _) _)
  have K0p0 : CV v0 (w.heap.size) (LN a) := by rw [← hC]; exact (((CV.new w (LN a) 25).alloc (by simp <;> omega) _).alloc (by simp <;> omega) _)
  have l0p0 : w.heap.size < v0.heap.size := by rw [← hC]; simp <;> omega
  have K0p1 : CV v0 (w.heap.size + 1) (LN m) := by rw [← hC]; exact ((CV.newAt (w.alloc (.cells (LN a : List Value).toArray 25)) (LN m) 25 _ (by simp)).alloc (by simp <;> omega) _)
  have l0p1 : w.heap.size + 1 < v0.heap.size := by rw [← hC]; simp <;> omega
  have K0r4 : CV v0 (w.heap.size + 1 + 1) (L0s) := by rw [← hC]; exact (CV.newAt ((w.alloc (.cells (LN a : List Value).toArray 25)).alloc (.cells (LN m : List Value).toArray 25)) (L0s) 25 _ (by simp))
  have l0r4 : w.heap.size + 1 + 1 < v0.heap.size := by rw [← hC]; simp <;> omega
  clear hC
  refine region_drawn [11, 12, 13, 14, 10, 15, 16, 6] (fun fZ tZ uZ => MR w.heap.size w (v0.heap.size) [(w.heap.size + 1, LN m), (w.heap.size + 1 + 1, L0s)] [(w.heap.size, fZ 7, LN a, LN (a % m))] [] uZ ∧ Gs fZ tZ [(0, 11, NV a), (1, 12, WV a), (2, 13, NV m), (3, 14, .tuple #[NV (a % m), .int .i64 0]), (4, 10, .tuple #[NV (a % m), .int .i64 0]), (5, 15, NV (a % m)), (6, 16, .int .i64 0), (8, 6, .int .i64 0)] ∧ Os fZ [(7, 0)] ∧ Ns fZ tZ []) (by kernel_rfl) (by kernel_rfl) ?_ ?_ ?_
  · exact ⟨{ bel := HB0.drew, lo := HB0.size, sz := Nat.le_refl _, ks := ⟨⟨l0p1, K0p1⟩, ⟨l0r4, K0r4⟩, trivial⟩, ex := ⟨⟨(by omega), l0p0, rfl, K0p0⟩, trivial⟩, nw := trivial, nd := trivial }, Gs.none _ _, Os.none _, trivial⟩
  · rintro fZ tZ uZ iZ oZ aZ hF ⟨hM, hG, hO, hN⟩ ho hfi hdep
    obtain ⟨hS, hV⟩ := hF.two 42 (by decide) rfl (by decide)
    rcases cZ9 ho with rfl | rfl | rfl | rfl | rfl | rfl | rfl | rfl | rfl <;> cases ho
    · refine op_plain rfl rfl (fun K hK => ?_)
      have ys : fZ 7 = false := Os.not (hO.1) hfi
      have kk : CV uZ (w.heap.size) (bif fZ 7 then LN (a % m) else LN a) := hM.ex.1.2.2.2
      rw [ys] at kk
      have kk : CV uZ (w.heap.size) (LN a) := kk
      refine wp_load_mid 25 _ rfl (w.heap.size) 0 (show aZ.eval (.tmp 2) = .pointer (some ⟨w.heap.size, 0, none⟩) from (hF.out 2 (by decide)).trans rfl) (LN a) _ kk.range Try.underlying25 rfl info_api_Nat ?_
      exact tell hK hF hS (by decide) (Jm hM hG hO hN)
    · exact t_call (vs := [NV a]) (by show [aZ.eval (.tmp 11)] = _; rw [(ve 11 hV (hG.1 (dd 0 hdep)))]) ent_limb_Widen (nWiden a uZ ha) hF hS rfl rfl rfl rfl (by decide) (fun _ hB => (Jm (hM.call hB) hG hO hN))
    · exact t_load (show aZ.eval (.tmp 3) = .pointer (some ⟨w.heap.size + 1, 0, none⟩) from (hF.out 3 (by decide)).trans rfl) hM.ks.1.2 Try.underlying25 info_api_Nat hF hS rfl rfl rfl rfl rfl (by decide) (Jm hM hG hO hN)
    · exact t_call (vs := [WV a, NV m]) (by show [aZ.eval (.tmp 12), aZ.eval (.tmp 13)] = _; rw [(ve 12 hV (hG.2.1 (dd 1 hdep))), (ve 13 hV (hG.2.2.1 (dd 2 hdep)))]) ent_mod_Reduce (mReduce a m uZ ha.wide hm h) hF hS rfl rfl rfl rfl (by decide) (fun _ hB => (Jm (hM.call hB) hG hO hN))
    · exact t_move (ve 14 hV (hG.2.2.2.1 (dd 3 hdep))) hF hS rfl rfl rfl rfl (by decide) (Jm hM hG hO hN)
    · exact t_extract (ve 10 hV (hG.2.2.2.2.1 (dd 4 hdep))) hF hS rfl rfl rfl rfl rfl (by decide) (Jm hM hG hO hN)
    · exact t_extract (ve 10 hV (hG.2.2.2.2.1 (dd 4 hdep))) hF hS rfl rfl rfl rfl rfl (by decide) (Jm hM hG hO hN)
    · refine op_plain rfl rfl (fun K hK => ?_)
      have kk : CV uZ (w.heap.size) (bif fZ 7 then LN (a % m) else LN a) := hM.ex.1.2.2.2
      rw [hfi] at kk
      have kk : CV uZ (w.heap.size) (LN a) := kk
      refine wp_store_mid 25 _ _ rfl (w.heap.size) 0 (LN (a % m) : List Value).toArray (show aZ.eval (.tmp 2) = .pointer (some ⟨w.heap.size, 0, none⟩) from (hF.out 2 (by decide)).trans rfl) (ve 15 hV (hG.2.2.2.2.2.1 (dd 5 hdep))) kk.there info_api_Nat (all_one rfl) ?_
      exact tell0 hK hF ⟨MR.putXF 0 hM rfl ⟨by omega, by omega, trivial⟩ trivial, Gs.idle rfl hG, ⟨fun _ => hdep ⟨0, .phase⟩ (by simp) rfl, trivial⟩, Ns.idle hN⟩
    · exact t_assign (ve 16 hV (hG.2.2.2.2.2.2.1 (dd 6 hdep))) hF hS rfl rfl rfl rfl (by decide) (Jm hM hG hO hN)
  rintro fZ tZ u1 ⟨hM, hG, hO, hN⟩ hall
  obtain ⟨e11, e12, e13, e14, e10, e15, e16, e6, -⟩ := Gs.all 9 hall hG rfl
  have HB1 : Below w.heap.size w u1 := hM.bel
  have sz1 : v0.heap.size ≤ u1.heap.size := hM.sz
  obtain ⟨⟨l1p1, K1p1⟩, ⟨l1r4, K1r4⟩, -⟩ := hM.ks.up hM.sz
  dsimp only at l1p1 K1p1 l1r4 K1r4
  have K1p0 : CV u1 (w.heap.size) (LN (a % m)) := by
    have h1 : CV u1 (w.heap.size) (bif fZ 7 then LN (a % m) else LN a) := hM.ex.1.2.2.2
    rw [hall 7 (by decide)] at h1; exact h1
  have l1p0 : w.heap.size < u1.heap.size := Nat.lt_of_lt_of_le hM.ex.1.2.1 hM.sz
  simp only [ovr, List.set_cons_zero, List.set_cons_succ, e11, e12, e13, e14, e10, e15, e16, e6]
  clear hM hG hO hN hall e11 e12 e13 e14 e10 e15 e16 e6 K0p0 K0p1 K0r4 HB0
  clear tZ
  go_upto_region 4 with fail
  refine region_plain [22, 23, 24, 21, 25, 26, 27, 7, 8, 9] (fun fZ tZ uZ => MR w.heap.size w (u1.heap.size) [(w.heap.size, LN (a % m)), (w.heap.size + 1, LN m), (w.heap.size + 1 + 1, L0s)] [] [(fZ 7, fZ 9, tZ 7, L0s, LN d), (fZ 8, fZ 10, tZ 8, L0s, LN f)] uZ ∧ Gs fZ tZ [(0, 22, NV m), (1, 23, NV (a % m)), (2, 24, .tuple #[NV d, NV f, .bool true]), (3, 21, .tuple #[NV d, NV f, .bool true]), (4, 25, NV d), (5, 26, NV f), (6, 27, .bool true), (11, 9, .bool true)] ∧ Os fZ [(9, 7), (10, 8)] ∧ Ns fZ tZ []) (by kernel_rfl) ?_ ?_ ?_
  · exact ⟨{ bel := HB1, lo := HB1.size, sz := Nat.le_refl _, ks := ⟨⟨l1p0, K1p0⟩, ⟨l1p1, K1p1⟩, ⟨l1r4, K1r4⟩, trivial⟩, ex := trivial, nw := ⟨fun e => (by cases e), fun e => (by cases e), trivial⟩, nd := ⟨fun e => (by cases e), fun e => (by cases e), trivial⟩ }, Gs.none _ _, Os.none _, trivial⟩
  · rintro fZ tZ uZ iZ oZ aZ hF ⟨hM, hG, hO, hN⟩ ho hfi hdep
    obtain ⟨hS, hV⟩ := hF.two 42 (by decide) rfl (by decide)
    rcases cZ12 ho with rfl | rfl | rfl | rfl | rfl | rfl | rfl | rfl | rfl | rfl | rfl | rfl <;> cases ho
    · exact t_load (show aZ.eval (.tmp 3) = .pointer (some ⟨w.heap.size + 1, 0, none⟩) from (hF.out 3 (by decide)).trans rfl) hM.ks.2.1.2 Try.underlying25 info_api_Nat hF hS rfl rfl rfl rfl rfl (by decide) (Jm hM hG hO hN)
    · exact t_load (show aZ.eval (.tmp 2) = .pointer (some ⟨w.heap.size, 0, none⟩) from (hF.out 2 (by decide)).trans rfl) hM.ks.1.2 Try.underlying25 info_api_Nat hF hS rfl rfl rfl rfl rfl (by decide) (Jm hM hG hO hN)
    · exact t_call (vs := [NV m, NV (a % m)]) (by show [aZ.eval (.tmp 22), aZ.eval (.tmp 23)] = _; rw [(ve 22 hV (hG.1 (dd 0 hdep))), (ve 23 hV (hG.2.1 (dd 1 hdep)))]) ent_mod_euclid (hE'.out uZ) hF hS rfl rfl rfl rfl (by decide) (fun _ hB => (Jm (hM.call hB) hG hO hN))
    · exact t_move (ve 24 hV (hG.2.2.1 (dd 2 hdep))) hF hS rfl rfl rfl rfl (by decide) (Jm hM hG hO hN)
    · exact t_extract (ve 21 hV (hG.2.2.2.1 (dd 3 hdep))) hF hS rfl rfl rfl rfl rfl (by decide) (Jm hM hG hO hN)
    · exact t_extract (ve 21 hV (hG.2.2.2.1 (dd 3 hdep))) hF hS rfl rfl rfl rfl rfl (by decide) (Jm hM hG hO hN)
    · exact t_extract (ve 21 hV (hG.2.2.2.1 (dd 3 hdep))) hF hS rfl rfl rfl rfl rfl (by decide) (Jm hM hG hO hN)
    · have q1 : fZ 9 = false := Os.not (hO.1) hfi
      exact t_alloc (al_api_Nat uZ) hF hS rfl rfl rfl rfl (by decide) ⟨MR.newF 0 hM rfl hfi q1, Gs.other rfl hG, hO.keep rfl, Ns.step hN rfl⟩
    · have q1 : fZ 10 = false := Os.not (hO.2.1) hfi
      exact t_alloc (al_api_Nat uZ) hF hS rfl rfl rfl rfl (by decide) ⟨MR.newF 1 hM rfl hfi q1, Gs.other rfl hG, hO.keep rfl, Ns.step hN rfl⟩
    · exact t_storeN 0 hM rfl (dd 7 hdep) hfi (hV 7 (by decide)) (ve 25 hV (hG.2.2.2.2.1 (dd 4 hdep))) rfl info_api_Nat rfl hF rfl rfl rfl rfl (fun _ h => ⟨h, Gs.idle rfl hG, ⟨fun _ => (dd 7 hdep :), hO.2.1, trivial⟩, Ns.idle hN⟩)
    · exact t_storeN 1 hM rfl (dd 8 hdep) hfi (hV 8 (by decide)) (ve 26 hV (hG.2.2.2.2.2.1 (dd 5 hdep))) rfl info_api_Nat rfl hF rfl rfl rfl rfl (fun _ h => ⟨h, Gs.idle rfl hG, ⟨hO.1, fun _ => (dd 8 hdep :), trivial⟩, Ns.idle hN⟩)
    · exact t_assign (ve 27 hV (hG.2.2.2.2.2.2.1 (dd 6 hdep))) hF hS rfl rfl rfl rfl (by decide) (Jm hM hG hO hN)
  rintro fZ tZ u2 ⟨hM, hG, hO, hN⟩ hall
  obtain ⟨e22, e23, e24, e21, e25, e26, e27, e9, -⟩ := Gs.all 12 hall hG rfl
  obtain ⟨b2_7, ee7, pb2_7, lb2_7, kb2_7⟩ := hM.nw.1 (hall 7 (by decide))
  have e7 : tZ 7 = .pointer (some ⟨b2_7, 0, none⟩) := ee7
  clear ee7
  have Kb2_7 : CV u2 b2_7 (LN d) := by
    have h1 : CV u2 b2_7 (bif fZ 9 then LN d else L0s) := kb2_7
    rw [hall 9 (by decide)] at h1; exact h1
  clear kb2_7
  obtain ⟨b2_8, ee8, pb2_8, lb2_8, kb2_8⟩ := hM.nw.2.1 (hall 8 (by decide))
  have e8 : tZ 8 = .pointer (some ⟨b2_8, 0, none⟩) := ee8
  clear ee8
  have Kb2_8 : CV u2 b2_8 (LN f) := by
    have h1 : CV u2 b2_8 (bif fZ 10 then LN f else L0s) := kb2_8
    rw [hall 10 (by decide)] at h1; exact h1
  clear kb2_8
  have nb2_7_b2_8 : b2_7 ≠ b2_8 := fun e => (hM.nd.1 (hall 7 (by decide))).1 (hall 8 (by decide)) (by show tZ 8 = tZ 7; rw [e8, e7, e])
  have HB2 : Below w.heap.size w u2 := hM.bel
  have sz2 : u1.heap.size ≤ u2.heap.size := hM.sz
  obtain ⟨-, ⟨l2p1, K2p1⟩, ⟨l2r4, K2r4⟩, -⟩ := hM.ks.up hM.sz
  dsimp only at l2p1 K2p1 l2r4 K2r4
  simp only [ovr, List.set_cons_zero, List.set_cons_succ, e22, e23, e24, e21, e25, e26, e27, e9, e7, e8]
  clear hM hG hO hN hall e22 e23 e24 e21 e25 e26 e27 e9 e7 e8 K1p0 K1p1 K1r4 HB1
  clear tZ
  go_upto_region 5 with fail
  refine region_drawn [29, 30, 31, 28] (fun fZ tZ uZ => MR w.heap.size w (u2.heap.size) [(w.heap.size + 1, LN m), (w.heap.size + 1 + 1, L0s), (b2_7, LN d), (b2_8, LN f)] [] [] uZ ∧ Gs fZ tZ [(0, 29, NV d), (1, 30, NV 1), (2, 31, .bool false), (3, 28, .bool false)] ∧ Os fZ [] ∧ Ns fZ tZ []) (by kernel_rfl) (by kernel_rfl) ?_ ?_ ?_
  · exact ⟨{ bel := HB2.drew, lo := HB2.size, sz := Nat.le_refl _, ks := ⟨⟨l2p1, K2p1⟩, ⟨l2r4, K2r4⟩, ⟨lb2_7, Kb2_7⟩, ⟨lb2_8, Kb2_8⟩, trivial⟩, ex := trivial, nw := trivial, nd := trivial }, Gs.none _ _, Os.none _, trivial⟩
  · rintro fZ tZ uZ iZ oZ aZ hF ⟨hM, hG, hO, hN⟩ ho hfi hdep
    obtain ⟨hS, hV⟩ := hF.two 42 (by decide) rfl (by decide)
    rcases cZ4 ho with rfl | rfl | rfl | rfl <;> cases ho
    · exact t_load (show aZ.eval (.tmp 7) = .pointer (some ⟨b2_7, 0, none⟩) from (hF.out 7 (by decide)).trans rfl) hM.ks.2.2.1.2 Try.underlying25 info_api_Nat hF hS rfl rfl rfl rfl rfl (by decide) (Jt hM hG hN)
    · exact t_call (vs := [(Go.Value.int Go.IntKind.u64 1)]) (by show [(Go.Value.int Go.IntKind.u64 1)] = _; rfl) ent_limb_Of (nOf 1 uZ (by omega) (by omega)) hF hS rfl rfl rfl rfl (by decide) (fun _ hB => (Jt (hM.call hB) hG hN))
    · refine op_plain rfl rfl (fun K hK => ?_)
      refine wp_bin rfl (ve 29 hV (hG.1 (dd 0 hdep))) (ve 30 hV (hG.2.1 (dd 1 hdep))) (neq_n _ _ id In_1 _ hz uZ) ?_
      exact tell hK hF hS (by decide) (Jt hM hG hN)
    · exact t_assign (ve 31 hV (hG.2.2.1 (dd 2 hdep))) hF hS rfl rfl rfl rfl (by decide) (Jt hM hG hN)
  rintro fZ tZ u3 ⟨hM, hG, hO, hN⟩ hall
  obtain ⟨e29, e30, e31, e28, -⟩ := Gs.all 4 hall hG rfl
  have HB3 : Below w.heap.size w u3 := hM.bel
  have sz3 : u2.heap.size ≤ u3.heap.size := hM.sz
  obtain ⟨⟨l3p1, K3p1⟩, ⟨l3r4, K3r4⟩, -, ⟨l3n4_8, K3n4_8⟩, -⟩ := hM.ks.up hM.sz
  dsimp only at l3p1 K3p1 l3r4 K3r4 l3n4_8 K3n4_8
  simp only [ovr, List.set_cons_zero, List.set_cons_succ, e29, e30, e31, e28]
  clear hM hG hO hN hall e29 e30 e31 e28 K2p1 K2r4 Kb2_7 Kb2_8 HB2
  clear tZ
  go_upto_region 7 with fail
  refine region_plain [34, 33] (fun fZ tZ uZ => MR w.heap.size w (u3.heap.size) [(w.heap.size + 1, LN m), (w.heap.size + 1 + 1, L0s), (b2_8, LN f)] [] [] uZ ∧ Gs fZ tZ [(0, 34, .bool true), (1, 33, .bool true)] ∧ Os fZ [] ∧ Ns fZ tZ []) (by kernel_rfl) ?_ ?_ ?_
  · exact ⟨{ bel := HB3, lo := HB3.size, sz := Nat.le_refl _, ks := ⟨⟨l3p1, K3p1⟩, ⟨l3r4, K3r4⟩, ⟨l3n4_8, K3n4_8⟩, trivial⟩, ex := trivial, nw := trivial, nd := trivial }, Gs.none _ _, Os.none _, trivial⟩
  · rintro fZ tZ uZ iZ oZ aZ hF ⟨hM, hG, hO, hN⟩ ho hfi hdep
    obtain ⟨hS, hV⟩ := hF.two 42 (by decide) rfl (by decide)
    rcases cZ2 ho with rfl | rfl <;> cases ho
    · exact t_move (show aZ.eval (.tmp 9) = .bool true from (hF.out 9 (by decide)).trans rfl) hF hS rfl rfl rfl rfl (by decide) (Jt hM hG hN)
    · exact t_assign (ve 34 hV (hG.1 (dd 0 hdep))) hF hS rfl rfl rfl rfl (by decide) (Jt hM hG hN)
  rintro fZ tZ u4 ⟨hM, hG, hO, hN⟩ hall
  obtain ⟨e34, e33, -⟩ := Gs.all 2 hall hG rfl
  have HB4 : Below w.heap.size w u4 := hM.bel
  have sz4 : u3.heap.size ≤ u4.heap.size := hM.sz
  obtain ⟨⟨l4p1, K4p1⟩, ⟨l4r4, K4r4⟩, ⟨l4n4_8, K4n4_8⟩, -⟩ := hM.ks.up hM.sz
  dsimp only at l4p1 K4p1 l4r4 K4r4 l4n4_8 K4n4_8
  simp only [ovr, List.set_cons_zero, List.set_cons_succ, e34, e33]
  clear hM hG hO hN hall e34 e33 K3n4_8 K3p1 K3r4 HB3
  clear tZ
  go_upto_region 8 with fail
  refine region_plain [35, 36, 37, 38, 39, 40, 5] (fun fZ tZ uZ => MR w.heap.size w (u4.heap.size) [(w.heap.size + 1, LN m), (b2_8, LN f)] [(w.heap.size + 1 + 1, fZ 6, L0s, LN ((0 - f) % m))] [] uZ ∧ Gs fZ tZ [(0, 35, A4 (0) (0) (0) (0)), (1, 36, NV f), (2, 37, NV m), (3, 38, .tuple #[NV ((0 - f) % m), .int .i64 0]), (4, 39, NV ((0 - f) % m)), (5, 40, .int .i64 0), (7, 5, .int .i64 0)] ∧ Os fZ [] ∧ Ns fZ tZ []) (by kernel_rfl) ?_ ?_ ?_
  · exact ⟨{ bel := HB4, lo := HB4.size, sz := Nat.le_refl _, ks := ⟨⟨l4p1, K4p1⟩, ⟨l4n4_8, K4n4_8⟩, trivial⟩, ex := ⟨⟨(by omega), l4r4, rfl, K4r4⟩, trivial⟩, nw := trivial, nd := trivial }, Gs.none _ _, Os.none _, trivial⟩
  · rintro fZ tZ uZ iZ oZ aZ hF ⟨hM, hG, hO, hN⟩ ho hfi hdep
    obtain ⟨hS, hV⟩ := hF.two 42 (by decide) rfl (by decide)
    rcases cZ8 ho with rfl | rfl | rfl | rfl | rfl | rfl | rfl | rfl <;> cases ho
    · refine op_plain rfl rfl (fun K hK => ?_)
      refine wp_val (v := A4 (0) (0) (0) (0)) (w' := uZ) (by kernel_rfl) ?_
      exact tell hK hF hS (by decide) (Jt hM hG hN)
    · exact t_load (show aZ.eval (.tmp 8) = .pointer (some ⟨b2_8, 0, none⟩) from (hF.out 8 (by decide)).trans rfl) hM.ks.2.1.2 Try.underlying25 info_api_Nat hF hS rfl rfl rfl rfl rfl (by decide) (Jt hM hG hN)
    · exact t_load (show aZ.eval (.tmp 3) = .pointer (some ⟨w.heap.size + 1, 0, none⟩) from (hF.out 3 (by decide)).trans rfl) hM.ks.1.2 Try.underlying25 info_api_Nat hF hS rfl rfl rfl rfl rfl (by decide) (Jt hM hG hN)
    · exact t_call (vs := [A4 (0) (0) (0) (0), NV f, NV m]) (by show [aZ.eval (.tmp 35), aZ.eval (.tmp 36), aZ.eval (.tmp 37)] = _; rw [(ve 35 hV (hG.1 (dd 0 hdep))), (ve 36 hV (hG.2.1 (dd 1 hdep))), (ve 37 hV (hG.2.2.1 (dd 2 hdep)))]) ent_mod_Sub (mSub0 f m uZ if' hm h) hF hS rfl rfl rfl rfl (by decide) (fun _ hB => (Jt (hM.call hB) hG hN))
    · exact t_extract (ve 38 hV (hG.2.2.2.1 (dd 3 hdep))) hF hS rfl rfl rfl rfl rfl (by decide) (Jt hM hG hN)
    · exact t_extract (ve 38 hV (hG.2.2.2.1 (dd 3 hdep))) hF hS rfl rfl rfl rfl rfl (by decide) (Jt hM hG hN)
    · refine op_plain rfl rfl (fun K hK => ?_)
      have kk : CV uZ (w.heap.size + 1 + 1) (bif fZ 6 then LN ((0 - f) % m) else L0s) := hM.ex.1.2.2.2
      rw [hfi] at kk
      have kk : CV uZ (w.heap.size + 1 + 1) (L0s) := kk
      refine wp_store_mid 25 _ _ rfl (w.heap.size + 1 + 1) 0 (LN ((0 - f) % m) : List Value).toArray (show aZ.eval (.tmp 4) = .pointer (some ⟨w.heap.size + 1 + 1, 0, none⟩) from (hF.out 4 (by decide)).trans rfl) (ve 39 hV (hG.2.2.2.2.1 (dd 4 hdep))) kk.there info_api_Nat (all_one rfl) ?_
      exact tell0 hK hF ⟨MR.putXF 0 hM rfl ⟨by omega, by omega, trivial⟩ trivial, Gs.idle rfl hG, trivial, Ns.idle hN⟩
    · exact t_assign (ve 40 hV (hG.2.2.2.2.2.1 (dd 5 hdep))) hF hS rfl rfl rfl rfl (by decide) (Jt hM hG hN)
  rintro fZ tZ u5 ⟨hM, hG, hO, hN⟩ hall
  obtain ⟨e35, e36, e37, e38, e39, e40, e5, -⟩ := Gs.all 8 hall hG rfl
  have HB5 : Below w.heap.size w u5 := hM.bel
  have sz5 : u4.heap.size ≤ u5.heap.size := hM.sz
  have K5r4 : CV u5 (w.heap.size + 1 + 1) (LN ((0 - f) % m)) := by
    have h1 : CV u5 (w.heap.size + 1 + 1) (bif fZ 6 then LN ((0 - f) % m) else L0s) := hM.ex.1.2.2.2
    rw [hall 6 (by decide)] at h1; exact h1
  have l5r4 : w.heap.size + 1 + 1 < u5.heap.size := Nat.lt_of_lt_of_le hM.ex.1.2.1 hM.sz
  simp only [ovr, List.set_cons_zero, List.set_cons_succ, e35, e36, e37, e38, e39, e40, e5]
  clear hM hG hO hN hall e35 e36 e37 e38 e39 e40 e5 K4n4_8 K4p1 K4r4 HB4
  clear tZ
  have c4_0 := (K5r4 0 _ rfl).1
  have c4_1 := (K5r4 1 _ rfl).1
  have c4_2 := (K5r4 2 _ rfl).1
  have c4_3 := (K5r4 3 _ rfl).1
  go_wp2
  refine bodyPost_ret (v := .tuple #[NV ((0 - f) % m), .int .i64 0]) (by simp [results, Try.results21, go_sem, c4_0, c4_1, c4_2, c4_3]) rfl ⟨by rw [Hx.out], HB5⟩
set_option maxRecDepth 100000 in
set_option maxHeartbeats 4000000 in
theorem mInverse_pos (a m x : Int) (w : World) (ha : In a) (hm : In m) (h : m ≠ 0) (hg : gI m (a % m) = 1) (hx : IsInv (a % m) m x) (hb : (eu m (a % m)).2.2 = false) :
    Calls Try.prog 21 #[NV a, NV m] w fun e w' => e = .returned (.tuple #[NV x, .int .i64 0]) ∧ Below w.heap.size w w' := by
  have ia : In (a % m) := In_mod hm h
  have h0 : 0 ≤ a % m := ia.1
  have h1 : a % m < m := Int.emod_lt_of_pos a (by have := hm.1; omega)
  obtain ⟨e1, e2, e3, e4⟩ := eu_spec h0 h1
  have hE := fun w => meuclid m (a % m) w hm ia h0 h1
  have hx' := hx.uniq (eu_pos h0 h1 hg hb)
  rw [e1, hg, hb] at hE
  generalize (eu m (a % m)).2.1 = f at *
  obtain ⟨d, hd⟩ : ∃ d : Int, d = 1 := ⟨1, rfl⟩
  rw [← hd] at hE
  have id : In d := by rw [hd]; exact In_1
  have if' : In f := In_le hm e2 e3
  have hz : decide (d = 1) = !false := by simp [hd]
  have hE' : Hid _ := hE
  have Hx : Hid _ := hx'
  clear hE hx' e1 e4 hg hb hx hd
  go_enter Try.func21, Try.ntmps21
  go_upto_region 1 with fail
  generalize hC : (((w.alloc (.cells (LN a : List Value).toArray 25)).alloc (.cells (LN m : List Value).toArray 25)).alloc (.cells (L0s : List Value).toArray 25)) = v0 at *
  have HB0 : Below w.heap.size w v0 := by rw [← hC]; exact (balloc (balloc (balloc (bself w) _) _) _)
  have K0p0 : CV v0 (w.heap.size) (LN a) := by rw [← hC]; exact (((CV.new w (LN a) 25).alloc (by simp <;> omega) _).alloc (by simp <;> omega) _)
  have l0p0 : w.heap.size < v0.heap.size := by rw [← hC]; simp <;> omega
  have K0p1 : CV v0 (w.heap.size + 1) (LN m) := by rw [← hC]; exact ((CV.newAt (w.alloc (.cells (LN a : List Value).toArray 25)) (LN m) 25 _ (by simp)).alloc (by simp <;> omega) _)
  have l0p1 : w.heap.size + 1 < v0.heap.size := by rw [← hC]; simp <;> omega
  have K0r4 : CV v0 (w.heap.size + 1 + 1) (L0s) := by rw [← hC]; exact (CV.newAt ((w.alloc (.cells (LN a : List Value).toArray 25)).alloc (.cells (LN m : List Value).toArray 25)) (L0s) 25 _ (by simp))
  have l0r4 : w.heap.size + 1 + 1 < v0.heap.size := by rw [← hC]; simp <;> omega
  clear hC
  refine region_drawn [11, 12, 13, 14, 10, 15, 16, 6] (fun fZ tZ uZ => MR w.heap.size w (v0.heap.size) [(w.heap.size + 1, LN m), (w.heap.size + 1 + 1, L0s)] [(w.heap.size, fZ 7, LN a, LN (a % m))] [] uZ ∧ Gs fZ tZ [(0, 11, NV a), (1, 12, WV a), (2, 13, NV m), (3, 14, .tuple #[NV (a % m), .int .i64 0]), (4, 10, .tuple #[NV (a % m), .int .i64 0]), (5, 15, NV (a % m)), (6, 16, .int .i64 0), (8, 6, .int .i64 0)] ∧ Os fZ [(7, 0)] ∧ Ns fZ tZ []) (by kernel_rfl) (by kernel_rfl) ?_ ?_ ?_
  · exact ⟨{ bel := HB0.drew, lo := HB0.size, sz := Nat.le_refl _, ks := ⟨⟨l0p1, K0p1⟩, ⟨l0r4, K0r4⟩, trivial⟩, ex := ⟨⟨(by omega), l0p0, rfl, K0p0⟩, trivial⟩, nw := trivial, nd := trivial }, Gs.none _ _, Os.none _, trivial⟩
  · rintro fZ tZ uZ iZ oZ aZ hF ⟨hM, hG, hO, hN⟩ ho hfi hdep
    obtain ⟨hS, hV⟩ := hF.two 42 (by decide) rfl (by decide)
    rcases cZ9 ho with rfl | rfl | rfl | rfl | rfl | rfl | rfl | rfl | rfl <;> cases ho
    · refine op_plain rfl rfl (fun K hK => ?_)
      have ys : fZ 7 = false := Os.not (hO.1) hfi
      have kk : CV uZ (w.heap.size) (bif fZ 7 then LN (a % m) else LN a) := hM.ex.1.2.2.2
      rw [ys] at kk
      have kk : CV uZ (w.heap.size) (LN a) := kk
      refine wp_load_mid 25 _ rfl (w.heap.size) 0 (show aZ.eval (.tmp 2) = .pointer (some ⟨w.heap.size, 0, none⟩) from (hF.out 2 (by decide)).trans rfl) (LN a) _ kk.range Try.underlying25 rfl info_api_Nat ?_
      exact tell hK hF hS (by decide) (Jm hM hG hO hN)
    · exact t_call (vs := [NV a]) (by show [aZ.eval (.tmp 11)] = _; rw [(ve 11 hV (hG.1 (dd 0 hdep)))]) ent_limb_Widen (nWiden a uZ ha) hF hS rfl rfl rfl rfl (by decide) (fun _ hB => (Jm (hM.call hB) hG hO hN))
    · exact t_load (show aZ.eval (.tmp 3) = .pointer (some ⟨w.heap.size + 1, 0, none⟩) from (hF.out 3 (by decide)).trans rfl) hM.ks.1.2 Try.underlying25 info_api_Nat hF hS rfl rfl rfl rfl rfl (by decide) (Jm hM hG hO hN)
    · exact t_call (vs := [WV a, NV m]) (by show [aZ.eval (.tmp 12), aZ.eval (.tmp 13)] = _; rw [(ve 12 hV (hG.2.1 (dd 1 hdep))), (ve 13 hV (hG.2.2.1 (dd 2 hdep)))]) ent_mod_Reduce (mReduce a m uZ ha.wide hm h) hF hS rfl rfl rfl rfl (by decide) (fun _ hB => (Jm (hM.call hB) hG hO hN))
    · exact t_move (ve 14 hV (hG.2.2.2.1 (dd 3 hdep))) hF hS rfl rfl rfl rfl (by decide) (Jm hM hG hO hN)
    · exact t_extract (ve 10 hV (hG.2.2.2.2.1 (dd 4 hdep))) hF hS rfl rfl rfl rfl rfl (by decide) (Jm hM hG hO hN)
    · exact t_extract (ve 10 hV (hG.2.2.2.2.1 (dd 4 hdep))) hF hS rfl rfl rfl rfl rfl (by decide) (Jm hM hG hO hN)
    · refine op_plain rfl rfl (fun K hK => ?_)
      have kk : CV uZ (w.heap.size) (bif fZ 7 then LN (a % m) else LN a) := hM.ex.1.2.2.2
      rw [hfi] at kk
      have kk : CV uZ (w.heap.size) (LN a) := kk
      refine wp_store_mid 25 _ _ rfl (w.heap.size) 0 (LN (a % m) : List Value).toArray (show aZ.eval (.tmp 2) = .pointer (some ⟨w.heap.size, 0, none⟩) from (hF.out 2 (by decide)).trans rfl) (ve 15 hV (hG.2.2.2.2.2.1 (dd 5 hdep))) kk.there info_api_Nat (all_one rfl) ?_
      exact tell0 hK hF ⟨MR.putXF 0 hM rfl ⟨by omega, by omega, trivial⟩ trivial, Gs.idle rfl hG, ⟨fun _ => hdep ⟨0, .phase⟩ (by simp) rfl, trivial⟩, Ns.idle hN⟩
    · exact t_assign (ve 16 hV (hG.2.2.2.2.2.2.1 (dd 6 hdep))) hF hS rfl rfl rfl rfl (by decide) (Jm hM hG hO hN)
  rintro fZ tZ u1 ⟨hM, hG, hO, hN⟩ hall
  obtain ⟨e11, e12, e13, e14, e10, e15, e16, e6, -⟩ := Gs.all 9 hall hG rfl
  have HB1 : Below w.heap.size w u1 := hM.bel
  have sz1 : v0.heap.size ≤ u1.heap.size := hM.sz
  obtain ⟨⟨l1p1, K1p1⟩, ⟨l1r4, K1r4⟩, -⟩ := hM.ks.up hM.sz
  dsimp only at l1p1 K1p1 l1r4 K1r4
  have K1p0 : CV u1 (w.heap.size) (LN (a % m)) := by
    have h1 : CV u1 (w.heap.size) (bif fZ 7 then LN (a % m) else LN a) := hM.ex.1.2.2.2
    rw [hall 7 (by decide)] at h1; exact h1
  have l1p0 : w.heap.size < u1.heap.size := Nat.lt_of_lt_of_le hM.ex.1.2.1 hM.sz
  simp only [ovr, List.set_cons_zero, List.set_cons_succ, e11, e12, e13, e14, e10, e15, e16, e6]
  clear hM hG hO hN hall e11 e12 e13 e14 e10 e15 e16 e6 K0p0 K0p1 K0r4 HB0
  clear tZ
  go_upto_region 4 with fail
  refine region_plain [22, 23, 24, 21, 25, 26, 27, 7, 8, 9] (fun fZ tZ uZ => MR w.heap.size w (u1.heap.size) [(w.heap.size, LN (a % m)), (w.heap.size + 1, LN m), (w.heap.size + 1 + 1, L0s)] [] [(fZ 7, fZ 9, tZ 7, L0s, LN d), (fZ 8, fZ 10, tZ 8, L0s, LN f)] uZ ∧ Gs fZ tZ [(0, 22, NV m), (1, 23, NV (a % m)), (2, 24, .tuple #[NV d, NV f, .bool false]), (3, 21, .tuple #[NV d, NV f, .bool false]), (4, 25, NV d), (5, 26, NV f), (6, 27, .bool false), (11, 9, .bool false)] ∧ Os fZ [(9, 7), (10, 8)] ∧ Ns fZ tZ []) (by kernel_rfl) ?_ ?_ ?_
  · exact ⟨{ bel := HB1, lo := HB1.size, sz := Nat.le_refl _, ks := ⟨⟨l1p0, K1p0⟩, ⟨l1p1, K1p1⟩, ⟨l1r4, K1r4⟩, trivial⟩, ex := trivial, nw := ⟨fun e => (by cases e), fun e => (by cases e), trivial⟩, nd := ⟨fun e => (by cases e), fun e => (by cases e), trivial⟩ }, Gs.none _ _, Os.none _, trivial⟩
  · rintro fZ tZ uZ iZ oZ aZ hF ⟨hM, hG, hO, hN⟩ ho hfi hdep
    obtain ⟨hS, hV⟩ := hF.two 42 (by decide) rfl (by decide)
    rcases cZ12 ho with rfl | rfl | rfl | rfl | rfl | rfl | rfl | rfl | rfl | rfl | rfl | rfl <;> cases ho
    · exact t_load (show aZ.eval (.tmp 3) = .pointer (some ⟨w.heap.size + 1, 0, none⟩) from (hF.out 3 (by decide)).trans rfl) hM.ks.2.1.2 Try.underlying25 info_api_Nat hF hS rfl rfl rfl rfl rfl (by decide) (Jm hM hG hO hN)
    · exact t_load (show aZ.eval (.tmp 2) = .pointer (some ⟨w.heap.size, 0, none⟩) from (hF.out 2 (by decide)).trans rfl) hM.ks.1.2 Try.underlying25 info_api_Nat hF hS rfl rfl rfl rfl rfl (by decide) (Jm hM hG hO hN)
    · exact t_call (vs := [NV m, NV (a % m)]) (by show [aZ.eval (.tmp 22), aZ.eval (.tmp 23)] = _; rw [(ve 22 hV (hG.1 (dd 0 hdep))), (ve 23 hV (hG.2.1 (dd 1 hdep)))]) ent_mod_euclid (hE'.out uZ) hF hS rfl rfl rfl rfl (by decide) (fun _ hB => (Jm (hM.call hB) hG hO hN))
    · exact t_move (ve 24 hV (hG.2.2.1 (dd 2 hdep))) hF hS rfl rfl rfl rfl (by decide) (Jm hM hG hO hN)
    · exact t_extract (ve 21 hV (hG.2.2.2.1 (dd 3 hdep))) hF hS rfl rfl rfl rfl rfl (by decide) (Jm hM hG hO hN)
    · exact t_extract (ve 21 hV (hG.2.2.2.1 (dd 3 hdep))) hF hS rfl rfl rfl rfl rfl (by decide) (Jm hM hG hO hN)
    · exact t_extract (ve 21 hV (hG.2.2.2.1 (dd 3 hdep))) hF hS rfl rfl rfl rfl rfl (by decide) (Jm hM hG hO hN)
    · have q1 : fZ 9 = false := Os.not (hO.1) hfi
      exact t_alloc (al_api_Nat uZ) hF hS rfl rfl rfl rfl (by decide) ⟨MR.newF 0 hM rfl hfi q1, Gs.other rfl hG, hO.keep rfl, Ns.step hN rfl⟩
    · have q1 : fZ 10 = false := Os.not (hO.2.1) hfi
      exact t_alloc (al_api_Nat uZ) hF hS rfl rfl rfl rfl (by decide) ⟨MR.newF 1 hM rfl hfi q1, Gs.other rfl hG, hO.keep rfl, Ns.step hN rfl⟩
    · exact t_storeN 0 hM rfl (dd 7 hdep) hfi (hV 7 (by decide)) (ve 25 hV (hG.2.2.2.2.1 (dd 4 hdep))) rfl info_api_Nat rfl hF rfl rfl rfl rfl (fun _ h => ⟨h, Gs.idle rfl hG, ⟨fun _ => (dd 7 hdep :), hO.2.1, trivial⟩, Ns.idle hN⟩)
    · exact t_storeN 1 hM rfl (dd 8 hdep) hfi (hV 8 (by decide)) (ve 26 hV (hG.2.2.2.2.2.1 (dd 5 hdep))) rfl info_api_Nat rfl hF rfl rfl rfl rfl (fun _ h => ⟨h, Gs.idle rfl hG, ⟨hO.1, fun _ => (dd 8 hdep :), trivial⟩, Ns.idle hN⟩)
    · exact t_assign (ve 27 hV (hG.2.2.2.2.2.2.1 (dd 6 hdep))) hF hS rfl rfl rfl rfl (by decide) (Jm hM hG hO hN)
  rintro fZ tZ u2 ⟨hM, hG, hO, hN⟩ hall
  obtain ⟨e22, e23, e24, e21, e25, e26, e27, e9, -⟩ := Gs.all 12 hall hG rfl
  obtain ⟨b2_7, ee7, pb2_7, lb2_7, kb2_7⟩ := hM.nw.1 (hall 7 (by decide))
  have e7 : tZ 7 = .pointer (some ⟨b2_7, 0, none⟩) := ee7
  clear ee7
  have Kb2_7 : CV u2 b2_7 (LN d) := by
    have h1 : CV u2 b2_7 (bif fZ 9 then LN d else L0s) := kb2_7
    rw [hall 9 (by decide)] at h1; exact h1
  clear kb2_7
  obtain ⟨b2_8, ee8, pb2_8, lb2_8, kb2_8⟩ := hM.nw.2.1 (hall 8 (by decide))
  have e8 : tZ 8 = .pointer (some ⟨b2_8, 0, none⟩) := ee8
  clear ee8
  have Kb2_8 : CV u2 b2_8 (LN f) := by
    have h1 : CV u2 b2_8 (bif fZ 10 then LN f else L0s) := kb2_8
    rw [hall 10 (by decide)] at h1; exact h1
  clear kb2_8
  have nb2_7_b2_8 : b2_7 ≠ b2_8 := fun e => (hM.nd.1 (hall 7 (by decide))).1 (hall 8 (by decide)) (by show tZ 8 = tZ 7; rw [e8, e7, e])
  have HB2 : Below w.heap.size w u2 := hM.bel
  have sz2 : u1.heap.size ≤ u2.heap.size := hM.sz
  obtain ⟨-, -, ⟨l2r4, K2r4⟩, -⟩ := hM.ks.up hM.sz
  dsimp only at l2r4 K2r4
  simp only [ovr, List.set_cons_zero, List.set_cons_succ, e22, e23, e24, e21, e25, e26, e27, e9, e7, e8]
  clear hM hG hO hN hall e22 e23 e24 e21 e25 e26 e27 e9 e7 e8 K1p0 K1p1 K1r4 HB1
  clear tZ
  go_upto_region 5 with fail
  refine region_drawn [29, 30, 31, 28] (fun fZ tZ uZ => MR w.heap.size w (u2.heap.size) [(w.heap.size + 1 + 1, L0s), (b2_7, LN d), (b2_8, LN f)] [] [] uZ ∧ Gs fZ tZ [(0, 29, NV d), (1, 30, NV 1), (2, 31, .bool false), (3, 28, .bool false)] ∧ Os fZ [] ∧ Ns fZ tZ []) (by kernel_rfl) (by kernel_rfl) ?_ ?_ ?_
  · exact ⟨{ bel := HB2.drew, lo := HB2.size, sz := Nat.le_refl _, ks := ⟨⟨l2r4, K2r4⟩, ⟨lb2_7, Kb2_7⟩, ⟨lb2_8, Kb2_8⟩, trivial⟩, ex := trivial, nw := trivial, nd := trivial }, Gs.none _ _, Os.none _, trivial⟩
  · rintro fZ tZ uZ iZ oZ aZ hF ⟨hM, hG, hO, hN⟩ ho hfi hdep
    obtain ⟨hS, hV⟩ := hF.two 42 (by decide) rfl (by decide)
    rcases cZ4 ho with rfl | rfl | rfl | rfl <;> cases ho
    · exact t_load (show aZ.eval (.tmp 7) = .pointer (some ⟨b2_7, 0, none⟩) from (hF.out 7 (by decide)).trans rfl) hM.ks.2.1.2 Try.underlying25 info_api_Nat hF hS rfl rfl rfl rfl rfl (by decide) (Jt hM hG hN)
    · exact t_call (vs := [(Go.Value.int Go.IntKind.u64 1)]) (by show [(Go.Value.int Go.IntKind.u64 1)] = _; rfl) ent_limb_Of (nOf 1 uZ (by omega) (by omega)) hF hS rfl rfl rfl rfl (by decide) (fun _ hB => (Jt (hM.call hB) hG hN))
    · refine op_plain rfl rfl (fun K hK => ?_)
      refine wp_bin rfl (ve 29 hV (hG.1 (dd 0 hdep))) (ve 30 hV (hG.2.1 (dd 1 hdep))) (neq_n _ _ id In_1 _ hz uZ) ?_
      exact tell hK hF hS (by decide) (Jt hM hG hN)
    · exact t_assign (ve 31 hV (hG.2.2.1 (dd 2 hdep))) hF hS rfl rfl rfl rfl (by decide) (Jt hM hG hN)
  rintro fZ tZ u3 ⟨hM, hG, hO, hN⟩ hall
  obtain ⟨e29, e30, e31, e28, -⟩ := Gs.all 4 hall hG rfl
  have HB3 : Below w.heap.size w u3 := hM.bel
  have sz3 : u2.heap.size ≤ u3.heap.size := hM.sz
  obtain ⟨⟨l3r4, K3r4⟩, -, ⟨l3n4_8, K3n4_8⟩, -⟩ := hM.ks.up hM.sz
  dsimp only at l3r4 K3r4 l3n4_8 K3n4_8
  simp only [ovr, List.set_cons_zero, List.set_cons_succ, e29, e30, e31, e28]
  clear hM hG hO hN hall e29 e30 e31 e28 K2r4 Kb2_7 Kb2_8 HB2
  clear tZ
  go_upto_region 7 with fail
  refine region_plain [34, 33] (fun fZ tZ uZ => MR w.heap.size w (u3.heap.size) [(w.heap.size + 1 + 1, L0s), (b2_8, LN f)] [] [] uZ ∧ Gs fZ tZ [(0, 34, .bool false), (1, 33, .bool false)] ∧ Os fZ [] ∧ Ns fZ tZ []) (by kernel_rfl) ?_ ?_ ?_
  · exact ⟨{ bel := HB3, lo := HB3.size, sz := Nat.le_refl _, ks := ⟨⟨l3r4, K3r4⟩, ⟨l3n4_8, K3n4_8⟩, trivial⟩, ex := trivial, nw := trivial, nd := trivial }, Gs.none _ _, Os.none _, trivial⟩
  · rintro fZ tZ uZ iZ oZ aZ hF ⟨hM, hG, hO, hN⟩ ho hfi hdep
    obtain ⟨hS, hV⟩ := hF.two 42 (by decide) rfl (by decide)
    rcases cZ2 ho with rfl | rfl <;> cases ho
    · exact t_move (show aZ.eval (.tmp 9) = .bool false from (hF.out 9 (by decide)).trans rfl) hF hS rfl rfl rfl rfl (by decide) (Jt hM hG hN)
    · exact t_assign (ve 34 hV (hG.1 (dd 0 hdep))) hF hS rfl rfl rfl rfl (by decide) (Jt hM hG hN)
  rintro fZ tZ u4 ⟨hM, hG, hO, hN⟩ hall
  obtain ⟨e34, e33, -⟩ := Gs.all 2 hall hG rfl
  have HB4 : Below w.heap.size w u4 := hM.bel
  have sz4 : u3.heap.size ≤ u4.heap.size := hM.sz
  obtain ⟨⟨l4r4, K4r4⟩, ⟨l4n4_8, K4n4_8⟩, -⟩ := hM.ks.up hM.sz
  dsimp only at l4r4 K4r4 l4n4_8 K4n4_8
  simp only [ovr, List.set_cons_zero, List.set_cons_succ, e34, e33]
  clear hM hG hO hN hall e34 e33 K3n4_8 K3r4 HB3
  clear tZ
  go_upto_region 9 with fail
  refine region_plain [41, 5] (fun fZ tZ uZ => MR w.heap.size w (u4.heap.size) [(b2_8, LN f)] [(w.heap.size + 1 + 1, fZ 1, L0s, LN f)] [] uZ ∧ Gs fZ tZ [(0, 41, NV f), (2, 5, (Go.Value.int Go.IntKind.i64 0))] ∧ Os fZ [] ∧ Ns fZ tZ []) (by kernel_rfl) ?_ ?_ ?_
  · exact ⟨{ bel := HB4, lo := HB4.size, sz := Nat.le_refl _, ks := ⟨⟨l4n4_8, K4n4_8⟩, trivial⟩, ex := ⟨⟨(by omega), l4r4, rfl, K4r4⟩, trivial⟩, nw := trivial, nd := trivial }, Gs.none _ _, Os.none _, trivial⟩
  · rintro fZ tZ uZ iZ oZ aZ hF ⟨hM, hG, hO, hN⟩ ho hfi hdep
    obtain ⟨hS, hV⟩ := hF.two 42 (by decide) rfl (by decide)
    rcases cZ3 ho with rfl | rfl | rfl <;> cases ho
    · exact t_load (show aZ.eval (.tmp 8) = .pointer (some ⟨b2_8, 0, none⟩) from (hF.out 8 (by decide)).trans rfl) hM.ks.1.2 Try.underlying25 info_api_Nat hF hS rfl rfl rfl rfl rfl (by decide) (Jt hM hG hN)
    · refine op_plain rfl rfl (fun K hK => ?_)
      have kk : CV uZ (w.heap.size + 1 + 1) (bif fZ 1 then LN f else L0s) := hM.ex.1.2.2.2
      rw [hfi] at kk
      have kk : CV uZ (w.heap.size + 1 + 1) (L0s) := kk
      refine wp_store_mid 25 _ _ rfl (w.heap.size + 1 + 1) 0 (LN f : List Value).toArray (show aZ.eval (.tmp 4) = .pointer (some ⟨w.heap.size + 1 + 1, 0, none⟩) from (hF.out 4 (by decide)).trans rfl) (ve 41 hV (hG.1 (dd 0 hdep))) kk.there info_api_Nat (all_one rfl) ?_
      exact tell0 hK hF ⟨MR.putXF 0 hM rfl ⟨by omega, trivial⟩ trivial, Gs.idle rfl hG, trivial, Ns.idle hN⟩
    · exact t_assign rfl hF hS rfl rfl rfl rfl (by decide) (Jt hM hG hN)
  rintro fZ tZ u5 ⟨hM, hG, hO, hN⟩ hall
  obtain ⟨e41, e5, -⟩ := Gs.all 3 hall hG rfl
  have HB5 : Below w.heap.size w u5 := hM.bel
  have sz5 : u4.heap.size ≤ u5.heap.size := hM.sz
  have K5r4 : CV u5 (w.heap.size + 1 + 1) (LN f) := by
    have h1 : CV u5 (w.heap.size + 1 + 1) (bif fZ 1 then LN f else L0s) := hM.ex.1.2.2.2
    rw [hall 1 (by decide)] at h1; exact h1
  have l5r4 : w.heap.size + 1 + 1 < u5.heap.size := Nat.lt_of_lt_of_le hM.ex.1.2.1 hM.sz
  simp only [ovr, List.set_cons_zero, List.set_cons_succ, e41, e5]
  clear hM hG hO hN hall e41 e5 K4n4_8 K4r4 HB4
  clear tZ
  have c4_0 := (K5r4 0 _ rfl).1
  have c4_1 := (K5r4 1 _ rfl).1
  have c4_2 := (K5r4 2 _ rfl).1
  have c4_3 := (K5r4 3 _ rfl).1
  go_wp2
  refine bodyPost_ret (v := .tuple #[NV f, .int .i64 0]) (by simp [results, Try.results21, go_sem, c4_0, c4_1, c4_2, c4_3]) rfl ⟨by rw [Hx.out], HB5⟩
theorem mInverse (a m x : Int) (w : World) (ha : In a) (hm : In m) (h : m ≠ 0) (hg : gI m (a % m) = 1) (hx : IsInv (a % m) m x) :
    Calls Try.prog 21 #[NV a, NV m] w fun e w' => e = .returned (.tuple #[NV x, .int .i64 0]) ∧ Below w.heap.size w w' := by
  cases hb : (eu m (a % m)).2.2
  · exact mInverse_pos a m x w ha hm h hg hx hb
  · exact mInverse_neg a m x w ha hm h hg hx hb
set_option maxRecDepth 100000 in
set_option maxHeartbeats 4000000 in
theorem mInverse0 (a : Int) (w : World) (ha : In a) :
    Calls Try.prog 21 #[NV a, A4 0 0 0 0] w fun e w' => e = .returned (.tuple #[A4 0 0 0 0, .int .i64 20]) ∧ Below w.heap.size w w' := by
  go_enter Try.func21, Try.ntmps21
  go_upto_region 1 with fail
  generalize hC : (((w.alloc (.cells (LN a : List Value).toArray 25)).alloc (.cells ([.int .u64 (0), .int .u64 (0), .int .u64 (0), .int .u64 (0)] : List Value).toArray 25)).alloc (.cells (L0s : List Value).toArray 25)) = v0 at *
  have HB0 : Below w.heap.size w v0 := by rw [← hC]; exact (balloc (balloc (balloc (bself w) _) _) _)
  have K0p0 : CV v0 (w.heap.size) (LN a) := by rw [← hC]; exact (((CV.new w (LN a) 25).alloc (by simp <;> omega) _).alloc (by simp <;> omega) _)
  have l0p0 : w.heap.size < v0.heap.size := by rw [← hC]; simp <;> omega
  have K0p1 : CV v0 (w.heap.size + 1) ([.int .u64 (0), .int .u64 (0), .int .u64 (0), .int .u64 (0)]) := by rw [← hC]; exact ((CV.newAt (w.alloc (.cells (LN a : List Value).toArray 25)) ([.int .u64 (0), .int .u64 (0), .int .u64 (0), .int .u64 (0)]) 25 _ (by simp)).alloc (by simp <;> omega) _)
  have l0p1 : w.heap.size + 1 < v0.heap.size := by rw [← hC]; simp <;> omega
  have K0r4 : CV v0 (w.heap.size + 1 + 1) (L0s) := by rw [← hC]; exact (CV.newAt ((w.alloc (.cells (LN a : List Value).toArray 25)).alloc (.cells ([.int .u64 (0), .int .u64 (0), .int .u64 (0), .int .u64 (0)] : List Value).toArray 25)) (L0s) 25 _ (by simp))
  have l0r4 : w.heap.size + 1 + 1 < v0.heap.size := by rw [← hC]; simp <;> omega
  clear hC
  refine region_drawn [11, 12, 13, 14, 10, 15, 16, 6] (fun fZ tZ uZ => MR w.heap.size w (v0.heap.size) [(w.heap.size + 1, [.int .u64 (0), .int .u64 (0), .int .u64 (0), .int .u64 (0)]), (w.heap.size + 1 + 1, L0s)] [(w.heap.size, fZ 7, LN a, [.int .u64 (0), .int .u64 (0), .int .u64 (0), .int .u64 (0)])] [] uZ ∧ Gs fZ tZ [(0, 11, NV a), (1, 12, WV a), (2, 13, .agg #[.int .u64 (0), .int .u64 (0), .int .u64 (0), .int .u64 (0)]), (3, 14, .tuple #[A4 (0) (0) (0) (0), .int .i64 20]), (4, 10, .tuple #[A4 (0) (0) (0) (0), .int .i64 20]), (5, 15, A4 (0) (0) (0) (0)), (6, 16, .int .i64 20), (8, 6, .int .i64 20)] ∧ Os fZ [(7, 0)] ∧ Ns fZ tZ []) (by kernel_rfl) (by kernel_rfl) ?_ ?_ ?_
  · exact ⟨{ bel := HB0.drew, lo := HB0.size, sz := Nat.le_refl _, ks := ⟨⟨l0p1, K0p1⟩, ⟨l0r4, K0r4⟩, trivial⟩, ex := ⟨⟨(by omega), l0p0, rfl, K0p0⟩, trivial⟩, nw := trivial, nd := trivial }, Gs.none _ _, Os.none _, trivial⟩
  · rintro fZ tZ uZ iZ oZ aZ hF ⟨hM, hG, hO, hN⟩ ho hfi hdep
    obtain ⟨hS, hV⟩ := hF.two 42 (by decide) rfl (by decide)
    rcases cZ9 ho with rfl | rfl | rfl | rfl | rfl | rfl | rfl | rfl | rfl <;> cases ho
    · refine op_plain rfl rfl (fun K hK => ?_)
      have ys : fZ 7 = false := Os.not (hO.1) hfi
      have kk : CV uZ (w.heap.size) (bif fZ 7 then [.int .u64 (0), .int .u64 (0), .int .u64 (0), .int .u64 (0)] else LN a) := hM.ex.1.2.2.2
      rw [ys] at kk
      have kk : CV uZ (w.heap.size) (LN a) := kk
      refine wp_load_mid 25 _ rfl (w.heap.size) 0 (show aZ.eval (.tmp 2) = .pointer (some ⟨w.heap.size, 0, none⟩) from (hF.out 2 (by decide)).trans rfl) (LN a) _ kk.range Try.underlying25 rfl info_api_Nat ?_
      exact tell hK hF hS (by decide) (Jm hM hG hO hN)
    · exact t_call (vs := [NV a]) (by show [aZ.eval (.tmp 11)] = _; rw [(ve 11 hV (hG.1 (dd 0 hdep)))]) ent_limb_Widen (nWiden a uZ ha) hF hS rfl rfl rfl rfl (by decide) (fun _ hB => (Jm (hM.call hB) hG hO hN))
    · exact t_load (show aZ.eval (.tmp 3) = .pointer (some ⟨w.heap.size + 1, 0, none⟩) from (hF.out 3 (by decide)).trans rfl) hM.ks.1.2 Try.underlying25 info_api_Nat hF hS rfl rfl rfl rfl rfl (by decide) (Jm hM hG hO hN)
    · exact t_call (vs := [WV a, .agg #[.int .u64 (0), .int .u64 (0), .int .u64 (0), .int .u64 (0)]]) (by show [aZ.eval (.tmp 12), aZ.eval (.tmp 13)] = _; rw [(ve 12 hV (hG.2.1 (dd 1 hdep))), (ve 13 hV (hG.2.2.1 (dd 2 hdep)))]) ent_mod_Reduce (mReduce0 a uZ) hF hS rfl rfl rfl rfl (by decide) (fun _ hB => (Jm (hM.call hB) hG hO hN))
    · exact t_move (ve 14 hV (hG.2.2.2.1 (dd 3 hdep))) hF hS rfl rfl rfl rfl (by decide) (Jm hM hG hO hN)
    · exact t_extract (ve 10 hV (hG.2.2.2.2.1 (dd 4 hdep))) hF hS rfl rfl rfl rfl rfl (by decide) (Jm hM hG hO hN)
    · exact t_extract (ve 10 hV (hG.2.2.2.2.1 (dd 4 hdep))) hF hS rfl rfl rfl rfl rfl (by decide) (Jm hM hG hO hN)
    · refine op_plain rfl rfl (fun K hK => ?_)
      have kk : CV uZ (w.heap.size) (bif fZ 7 then [.int .u64 (0), .int .u64 (0), .int .u64 (0), .int .u64 (0)] else LN a) := hM.ex.1.2.2.2
      rw [hfi] at kk
      have kk : CV uZ (w.heap.size) (LN a) := kk
      refine wp_store_mid 25 _ _ rfl (w.heap.size) 0 ([.int .u64 (0), .int .u64 (0), .int .u64 (0), .int .u64 (0)] : List Value).toArray (show aZ.eval (.tmp 2) = .pointer (some ⟨w.heap.size, 0, none⟩) from (hF.out 2 (by decide)).trans rfl) (ve 15 hV (hG.2.2.2.2.2.1 (dd 5 hdep))) kk.there info_api_Nat (all_one rfl) ?_
      exact tell0 hK hF ⟨MR.putXF 0 hM rfl ⟨by omega, by omega, trivial⟩ trivial, Gs.idle rfl hG, ⟨fun _ => hdep ⟨0, .phase⟩ (by simp) rfl, trivial⟩, Ns.idle hN⟩
    · exact t_assign (ve 16 hV (hG.2.2.2.2.2.2.1 (dd 6 hdep))) hF hS rfl rfl rfl rfl (by decide) (Jm hM hG hO hN)
  rintro fZ tZ u1 ⟨hM, hG, hO, hN⟩ hall
  obtain ⟨e11, e12, e13, e14, e10, e15, e16, e6, -⟩ := Gs.all 9 hall hG rfl
  have HB1 : Below w.heap.size w u1 := hM.bel
  have sz1 : v0.heap.size ≤ u1.heap.size := hM.sz
  obtain ⟨-, ⟨l1r4, K1r4⟩, -⟩ := hM.ks.up hM.sz
  dsimp only at l1r4 K1r4
  simp only [ovr, List.set_cons_zero, List.set_cons_succ, e11, e12, e13, e14, e10, e15, e16, e6]
  clear hM hG hO hN hall e11 e12 e13 e14 e10 e15 e16 e6 K0p0 K0p1 K0r4 HB0
  clear tZ
  go_upto_region 3 with fail
  refine region_plain [19, 20, 5] (fun fZ tZ uZ => MR w.heap.size w (u1.heap.size) [] [(w.heap.size + 1 + 1, fZ 2, L0s, [.int .u64 (0), .int .u64 (0), .int .u64 (0), .int .u64 (0)])] [] uZ ∧ Gs fZ tZ [(0, 19, A4 (0) (0) (0) (0)), (1, 20, .int .i64 20), (3, 5, .int .i64 20)] ∧ Os fZ [] ∧ Ns fZ tZ []) (by kernel_rfl) ?_ ?_ ?_
  · exact ⟨{ bel := HB1, lo := HB1.size, sz := Nat.le_refl _, ks := trivial, ex := ⟨⟨(by omega), l1r4, rfl, K1r4⟩, trivial⟩, nw := trivial, nd := trivial }, Gs.none _ _, Os.none _, trivial⟩
  · rintro fZ tZ uZ iZ oZ aZ hF ⟨hM, hG, hO, hN⟩ ho hfi hdep
    obtain ⟨hS, hV⟩ := hF.two 42 (by decide) rfl (by decide)
    rcases cZ4 ho with rfl | rfl | rfl | rfl <;> cases ho
    · refine op_plain rfl rfl (fun K hK => ?_)
      refine wp_val (v := A4 (0) (0) (0) (0)) (w' := uZ) (by kernel_rfl) ?_
      exact tell hK hF hS (by decide) (Jt hM hG hN)
    · exact t_move (show aZ.eval (.tmp 6) = .int .i64 20 from (hF.out 6 (by decide)).trans rfl) hF hS rfl rfl rfl rfl (by decide) (Jt hM hG hN)
    · refine op_plain rfl rfl (fun K hK => ?_)
      have kk : CV uZ (w.heap.size + 1 + 1) (bif fZ 2 then [.int .u64 (0), .int .u64 (0), .int .u64 (0), .int .u64 (0)] else L0s) := hM.ex.1.2.2.2
      rw [hfi] at kk
      have kk : CV uZ (w.heap.size + 1 + 1) (L0s) := kk
      refine wp_store_mid 25 _ _ rfl (w.heap.size + 1 + 1) 0 ([.int .u64 (0), .int .u64 (0), .int .u64 (0), .int .u64 (0)] : List Value).toArray (show aZ.eval (.tmp 4) = .pointer (some ⟨w.heap.size + 1 + 1, 0, none⟩) from (hF.out 4 (by decide)).trans rfl) (ve 19 hV (hG.1 (dd 0 hdep))) kk.there info_api_Nat (all_one rfl) ?_
      exact tell0 hK hF ⟨MR.putXF 0 hM rfl trivial trivial, Gs.idle rfl hG, trivial, Ns.idle hN⟩
    · exact t_assign (ve 20 hV (hG.2.1 (dd 1 hdep))) hF hS rfl rfl rfl rfl (by decide) (Jt hM hG hN)
  rintro fZ tZ u2 ⟨hM, hG, hO, hN⟩ hall
  obtain ⟨e19, e20, e5, -⟩ := Gs.all 4 hall hG rfl
  have HB2 : Below w.heap.size w u2 := hM.bel
  have sz2 : u1.heap.size ≤ u2.heap.size := hM.sz
  have K2r4 : CV u2 (w.heap.size + 1 + 1) ([.int .u64 (0), .int .u64 (0), .int .u64 (0), .int .u64 (0)]) := by
    have h1 : CV u2 (w.heap.size + 1 + 1) (bif fZ 2 then [.int .u64 (0), .int .u64 (0), .int .u64 (0), .int .u64 (0)] else L0s) := hM.ex.1.2.2.2
    rw [hall 2 (by decide)] at h1; exact h1
  have l2r4 : w.heap.size + 1 + 1 < u2.heap.size := Nat.lt_of_lt_of_le hM.ex.1.2.1 hM.sz
  simp only [ovr, List.set_cons_zero, List.set_cons_succ, e19, e20, e5]
  clear hM hG hO hN hall e19 e20 e5 K1r4 HB1
  clear tZ
  have c4_0 := (K2r4 0 _ rfl).1
  have c4_1 := (K2r4 1 _ rfl).1
  have c4_2 := (K2r4 2 _ rfl).1
  have c4_3 := (K2r4 3 _ rfl).1
  go_wp2
  refine bodyPost_ret (v := .tuple #[A4 0 0 0 0, .int .i64 20]) (by simp [results, Try.results21, go_sem, c4_0, c4_1, c4_2, c4_3]) rfl ⟨rfl, HB2⟩
end Go.Proofs.Ytkpnjmfndgfogaa
