/- Numbers modulo one: Sub. -/
import Derived.Test.YtkpnjmfndgfogaaMA1
import Derived.Test.YtkpnjmfndgfogaaRR
namespace Go.Proofs.Ytkpnjmfndgfogaa
open Go.RowKit
set_option linter.unusedVariables false
set_option linter.unusedSimpArgs false
theorem NV_more (s : Int) : NV (s + 115792089237316195423570985008687907853269984665640564039457584007913129639936) = NV s := by rw [← NV_less (s + 115792089237316195423570985008687907853269984665640564039457584007913129639936)]; congr 1 <;> omega
theorem nSub_ge (a b : Int) (w : World) (ha : In a) (hb : In b) (h : b ≤ a) : Calls Try.prog 53 #[NV a, NV b] w fun e w' => e = .returned (.tuple #[NV (a - b), .bool false]) ∧ Below w.heap.size w w' := by
  have e : ltB a b = false := by unfold ltB; simp; omega
  have k := nSub a b w ha hb
  rw [e] at k; exact k
theorem nSub_lt (a b : Int) (w : World) (ha : In a) (hb : In b) (h : a < b) : Calls Try.prog 53 #[NV a, NV b] w fun e w' => e = .returned (.tuple #[NV (a - b + 115792089237316195423570985008687907853269984665640564039457584007913129639936), .bool true]) ∧ Below w.heap.size w w' := by
  have e : ltB a b = true := by unfold ltB; simp; omega
  have k := nSub a b w ha hb
  rw [e] at k; rw [NV_more]; exact k
set_option maxRecDepth 100000 in
set_option maxHeartbeats 4000000 in
theorem mSub_lt (a b m : Int) (w : World) (ha : In a) (hb : In b) (hm : In m) (h : m ≠ 0) (hc : a % m < b % m) :
    Calls Try.prog 59 #[NV a, NV b, NV m] w fun e w' => e = .returned (.tuple #[NV ((a - b) % m), .int .i64 0]) ∧ Below w.heap.size w w' := by
  have hm0 := hm.1
  have h1 := Int.emod_nonneg a h
  have h2 := Int.emod_lt_of_pos b (show 0 < m by omega)
  have h3 := Int.emod_nonneg b h
  have h4 := Int.emod_lt_of_pos a (show 0 < m by omega)
  have hm2 := hm.2
  have hr : NV ((a - b) % m) = NV (a % m - b % m + 115792089237316195423570985008687907853269984665640564039457584007913129639936 + m - 115792089237316195423570985008687907853269984665640564039457584007913129639936) := by
    congr 1
    rw [Int.sub_emod, ← Int.add_emod_right (a % m - b % m) m, Int.emod_eq_of_lt (by omega) (by omega)]
    omega
  have hi : In (a % m - b % m + 115792089237316195423570985008687907853269984665640564039457584007913129639936) := ⟨by omega, by omega⟩
  have hj : 115792089237316195423570985008687907853269984665640564039457584007913129639936 ≤ a % m - b % m + 115792089237316195423570985008687907853269984665640564039457584007913129639936 + m := by omega
  have Hr : Hid _ := hr
  clear hr h1 h2 h3 h4 hm2 hm0
  go_enter Try.func59, Try.ntmps59
  go_upto_region 1 with fail
  generalize hC : ((((w.alloc (.cells (LN a : List Value).toArray 25)).alloc (.cells (LN b : List Value).toArray 25)).alloc (.cells (LN m : List Value).toArray 25)).alloc (.cells (L0s : List Value).toArray 25)) = v0 at *
  have HB0 : Below w.heap.size w v0 := by rw [← hC]; exact (balloc (balloc (balloc (balloc (bself w) _) _) _) _)
  have K0p0 : CV v0 (w.heap.size) (LN a) := by rw [← hC]; exact ((((CV.new w (LN a) 25).alloc (by simp <;> omega) _).alloc (by simp <;> omega) _).alloc (by simp <;> omega) _)
  have l0p0 : w.heap.size < v0.heap.size := by rw [← hC]; simp <;> omega
  have K0p1 : CV v0 (w.heap.size + 1) (LN b) := by rw [← hC]; exact (((CV.newAt (w.alloc (.cells (LN a : List Value).toArray 25)) (LN b) 25 _ (by simp)).alloc (by simp <;> omega) _).alloc (by simp <;> omega) _)
  have l0p1 : w.heap.size + 1 < v0.heap.size := by rw [← hC]; simp <;> omega
  have K0p2 : CV v0 (w.heap.size + 1 + 1) (LN m) := by rw [← hC]; exact ((CV.newAt ((w.alloc (.cells (LN a : List Value).toArray 25)).alloc (.cells (LN b : List Value).toArray 25)) (LN m) 25 _ (by simp)).alloc (by simp <;> omega) _)
  have l0p2 : w.heap.size + 1 + 1 < v0.heap.size := by rw [← hC]; simp <;> omega
  have K0r6 : CV v0 (w.heap.size + 1 + 1 + 1) (L0s) := by rw [← hC]; exact (CV.newAt (((w.alloc (.cells (LN a : List Value).toArray 25)).alloc (.cells (LN b : List Value).toArray 25)).alloc (.cells (LN m : List Value).toArray 25)) (L0s) 25 _ (by simp))
  have l0r6 : w.heap.size + 1 + 1 + 1 < v0.heap.size := by rw [← hC]; simp <;> omega
  clear hC
  refine region_drawn [12, 13, 14, 15, 11, 16, 17, 8] (fun fZ tZ uZ => MR w.heap.size w (v0.heap.size) [(w.heap.size + 1, LN b), (w.heap.size + 1 + 1, LN m), (w.heap.size + 1 + 1 + 1, L0s)] [(w.heap.size, fZ 7, LN a, LN (a % m))] [] uZ ∧ Gs fZ tZ [(0, 12, NV a), (1, 13, WV a), (2, 14, NV m), (3, 15, .tuple #[NV (a % m), .int .i64 0]), (4, 11, .tuple #[NV (a % m), .int .i64 0]), (5, 16, NV (a % m)), (6, 17, .int .i64 0), (8, 8, .int .i64 0)] ∧ Os fZ [(7, 0)] ∧ Ns fZ tZ []) (by kernel_rfl) (by kernel_rfl) ?_ ?_ ?_
  · exact ⟨{ bel := HB0.drew, lo := HB0.size, sz := Nat.le_refl _, ks := ⟨⟨l0p1, K0p1⟩, ⟨l0p2, K0p2⟩, ⟨l0r6, K0r6⟩, trivial⟩, ex := ⟨⟨(by omega), l0p0, rfl, K0p0⟩, trivial⟩, nw := trivial, nd := trivial }, Gs.none _ _, Os.none _, trivial⟩
  · rintro fZ tZ uZ iZ oZ aZ hF ⟨hM, hG, hO, hN⟩ ho hfi hdep
    obtain ⟨hS, hV⟩ := hF.two 43 (by decide) rfl (by decide)
    rcases cZ9 ho with rfl | rfl | rfl | rfl | rfl | rfl | rfl | rfl | rfl <;> cases ho
    · refine op_plain rfl rfl (fun K hK => ?_)
      have ys : fZ 7 = false := Os.not (hO.1) hfi
      have kk : CV uZ (w.heap.size) (bif fZ 7 then LN (a % m) else LN a) := hM.ex.1.2.2.2
      rw [ys] at kk
      have kk : CV uZ (w.heap.size) (LN a) := kk
      refine wp_load_mid 25 _ rfl (w.heap.size) 0 (show aZ.eval (.tmp 3) = .pointer (some ⟨w.heap.size, 0, none⟩) from (hF.out 3 (by decide)).trans rfl) (LN a) _ kk.range Try.underlying25 rfl info_api_Nat ?_
      exact tell hK hF hS (by decide) (Jm hM hG hO hN)
    · exact t_call (vs := [NV a]) (by show [aZ.eval (.tmp 12)] = _; rw [(ve 12 hV (hG.1 (dd 0 hdep)))]) ent_limb_Widen (nWiden a uZ ha) hF hS rfl rfl rfl rfl (by decide) (fun _ hB => (Jm (hM.call hB) hG hO hN))
    · exact t_load (show aZ.eval (.tmp 5) = .pointer (some ⟨w.heap.size + 1 + 1, 0, none⟩) from (hF.out 5 (by decide)).trans rfl) hM.ks.2.1.2 Try.underlying25 info_api_Nat hF hS rfl rfl rfl rfl rfl (by decide) (Jm hM hG hO hN)
    · exact t_call (vs := [WV a, NV m]) (by show [aZ.eval (.tmp 13), aZ.eval (.tmp 14)] = _; rw [(ve 13 hV (hG.2.1 (dd 1 hdep))), (ve 14 hV (hG.2.2.1 (dd 2 hdep)))]) ent_mod_Reduce (mReduce a m uZ ha.wide hm h) hF hS rfl rfl rfl rfl (by decide) (fun _ hB => (Jm (hM.call hB) hG hO hN))
    · exact t_move (ve 15 hV (hG.2.2.2.1 (dd 3 hdep))) hF hS rfl rfl rfl rfl (by decide) (Jm hM hG hO hN)
    · exact t_extract (ve 11 hV (hG.2.2.2.2.1 (dd 4 hdep))) hF hS rfl rfl rfl rfl rfl (by decide) (Jm hM hG hO hN)
    · exact t_extract (ve 11 hV (hG.2.2.2.2.1 (dd 4 hdep))) hF hS rfl rfl rfl rfl rfl (by decide) (Jm hM hG hO hN)
    · refine op_plain rfl rfl (fun K hK => ?_)
      have kk : CV uZ (w.heap.size) (bif fZ 7 then LN (a % m) else LN a) := hM.ex.1.2.2.2
      rw [hfi] at kk
      have kk : CV uZ (w.heap.size) (LN a) := kk
      refine wp_store_mid 25 _ _ rfl (w.heap.size) 0 (LN (a % m) : List Value).toArray (show aZ.eval (.tmp 3) = .pointer (some ⟨w.heap.size, 0, none⟩) from (hF.out 3 (by decide)).trans rfl) (ve 16 hV (hG.2.2.2.2.2.1 (dd 5 hdep))) kk.there info_api_Nat (all_one rfl) ?_
      exact tell0 hK hF ⟨MR.putXF 0 hM rfl ⟨by omega, by omega, by omega, trivial⟩ trivial, Gs.idle rfl hG, ⟨fun _ => hdep ⟨0, .phase⟩ (by simp) rfl, trivial⟩, Ns.idle hN⟩
    · exact t_assign (ve 17 hV (hG.2.2.2.2.2.2.1 (dd 6 hdep))) hF hS rfl rfl rfl rfl (by decide) (Jm hM hG hO hN)
  rintro fZ tZ u1 ⟨hM, hG, hO, hN⟩ hall
  obtain ⟨e12, e13, e14, e15, e11, e16, e17, e8, -⟩ := Gs.all 9 hall hG rfl
  have HB1 : Below w.heap.size w u1 := hM.bel
  have sz1 : v0.heap.size ≤ u1.heap.size := hM.sz
  obtain ⟨⟨l1p1, K1p1⟩, ⟨l1p2, K1p2⟩, ⟨l1r6, K1r6⟩, -⟩ := hM.ks.up hM.sz
  dsimp only at l1p1 K1p1 l1p2 K1p2 l1r6 K1r6
  have K1p0 : CV u1 (w.heap.size) (LN (a % m)) := by
    have h1 : CV u1 (w.heap.size) (bif fZ 7 then LN (a % m) else LN a) := hM.ex.1.2.2.2
    rw [hall 7 (by decide)] at h1; exact h1
  have l1p0 : w.heap.size < u1.heap.size := Nat.lt_of_lt_of_le hM.ex.1.2.1 hM.sz
  simp only [ovr, List.set_cons_zero, List.set_cons_succ, e12, e13, e14, e15, e11, e16, e17, e8]
  clear hM hG hO hN hall e12 e13 e14 e15 e11 e16 e17 e8 K0p0 K0p1 K0p2 K0r6 HB0
  clear tZ
  go_upto_region 4 with fail
  refine region_drawn [23, 24, 25, 26, 22, 27, 28] (fun fZ tZ uZ => MR w.heap.size w (u1.heap.size) [(w.heap.size, LN (a % m)), (w.heap.size + 1 + 1, LN m), (w.heap.size + 1 + 1 + 1, L0s)] [(w.heap.size + 1, fZ 7, LN b, LN (b % m))] [] uZ ∧ Gs fZ tZ [(0, 23, NV b), (1, 24, WV b), (2, 25, NV m), (3, 26, .tuple #[NV (b % m), .int .i64 0]), (4, 22, .tuple #[NV (b % m), .int .i64 0]), (5, 27, NV (b % m)), (6, 28, .int .i64 0)] ∧ Os fZ [(7, 0)] ∧ Ns fZ tZ []) (by kernel_rfl) (by kernel_rfl) ?_ ?_ ?_
  · exact ⟨{ bel := HB1.drew, lo := HB1.size, sz := Nat.le_refl _, ks := ⟨⟨l1p0, K1p0⟩, ⟨l1p2, K1p2⟩, ⟨l1r6, K1r6⟩, trivial⟩, ex := ⟨⟨(by omega), l1p1, rfl, K1p1⟩, trivial⟩, nw := trivial, nd := trivial }, Gs.none _ _, Os.none _, trivial⟩
  · rintro fZ tZ uZ iZ oZ aZ hF ⟨hM, hG, hO, hN⟩ ho hfi hdep
    obtain ⟨hS, hV⟩ := hF.two 43 (by decide) rfl (by decide)
    rcases cZ8 ho with rfl | rfl | rfl | rfl | rfl | rfl | rfl | rfl <;> cases ho
    · refine op_plain rfl rfl (fun K hK => ?_)
      have ys : fZ 7 = false := Os.not (hO.1) hfi
      have kk : CV uZ (w.heap.size + 1) (bif fZ 7 then LN (b % m) else LN b) := hM.ex.1.2.2.2
      rw [ys] at kk
      have kk : CV uZ (w.heap.size + 1) (LN b) := kk
      refine wp_load_mid 25 _ rfl (w.heap.size + 1) 0 (show aZ.eval (.tmp 4) = .pointer (some ⟨w.heap.size + 1, 0, none⟩) from (hF.out 4 (by decide)).trans rfl) (LN b) _ kk.range Try.underlying25 rfl info_api_Nat ?_
      exact tell hK hF hS (by decide) (Jm hM hG hO hN)
    · exact t_call (vs := [NV b]) (by show [aZ.eval (.tmp 23)] = _; rw [(ve 23 hV (hG.1 (dd 0 hdep)))]) ent_limb_Widen (nWiden b uZ hb) hF hS rfl rfl rfl rfl (by decide) (fun _ hB => (Jm (hM.call hB) hG hO hN))
    · exact t_load (show aZ.eval (.tmp 5) = .pointer (some ⟨w.heap.size + 1 + 1, 0, none⟩) from (hF.out 5 (by decide)).trans rfl) hM.ks.2.1.2 Try.underlying25 info_api_Nat hF hS rfl rfl rfl rfl rfl (by decide) (Jm hM hG hO hN)
    · exact t_call (vs := [WV b, NV m]) (by show [aZ.eval (.tmp 24), aZ.eval (.tmp 25)] = _; rw [(ve 24 hV (hG.2.1 (dd 1 hdep))), (ve 25 hV (hG.2.2.1 (dd 2 hdep)))]) ent_mod_Reduce (mReduce b m uZ hb.wide hm h) hF hS rfl rfl rfl rfl (by decide) (fun _ hB => (Jm (hM.call hB) hG hO hN))
    · exact t_move (ve 26 hV (hG.2.2.2.1 (dd 3 hdep))) hF hS rfl rfl rfl rfl (by decide) (Jm hM hG hO hN)
    · exact t_extract (ve 22 hV (hG.2.2.2.2.1 (dd 4 hdep))) hF hS rfl rfl rfl rfl rfl (by decide) (Jm hM hG hO hN)
    · exact t_extract (ve 22 hV (hG.2.2.2.2.1 (dd 4 hdep))) hF hS rfl rfl rfl rfl rfl (by decide) (Jm hM hG hO hN)
    · refine op_plain rfl rfl (fun K hK => ?_)
      have kk : CV uZ (w.heap.size + 1) (bif fZ 7 then LN (b % m) else LN b) := hM.ex.1.2.2.2
      rw [hfi] at kk
      have kk : CV uZ (w.heap.size + 1) (LN b) := kk
      refine wp_store_mid 25 _ _ rfl (w.heap.size + 1) 0 (LN (b % m) : List Value).toArray (show aZ.eval (.tmp 4) = .pointer (some ⟨w.heap.size + 1, 0, none⟩) from (hF.out 4 (by decide)).trans rfl) (ve 27 hV (hG.2.2.2.2.2.1 (dd 5 hdep))) kk.there info_api_Nat (all_one rfl) ?_
      exact tell0 hK hF ⟨MR.putXF 0 hM rfl ⟨by omega, by omega, by omega, trivial⟩ trivial, Gs.idle rfl hG, ⟨fun _ => hdep ⟨0, .phase⟩ (by simp) rfl, trivial⟩, Ns.idle hN⟩
  rintro fZ tZ u2 ⟨hM, hG, hO, hN⟩ hall
  obtain ⟨e23, e24, e25, e26, e22, e27, e28, -⟩ := Gs.all 8 hall hG rfl
  have HB2 : Below w.heap.size w u2 := hM.bel
  have sz2 : u1.heap.size ≤ u2.heap.size := hM.sz
  obtain ⟨⟨l2p0, K2p0⟩, ⟨l2p2, K2p2⟩, ⟨l2r6, K2r6⟩, -⟩ := hM.ks.up hM.sz
  dsimp only at l2p0 K2p0 l2p2 K2p2 l2r6 K2r6
  have K2p1 : CV u2 (w.heap.size + 1) (LN (b % m)) := by
    have h1 : CV u2 (w.heap.size + 1) (bif fZ 7 then LN (b % m) else LN b) := hM.ex.1.2.2.2
    rw [hall 7 (by decide)] at h1; exact h1
  have l2p1 : w.heap.size + 1 < u2.heap.size := Nat.lt_of_lt_of_le hM.ex.1.2.1 hM.sz
  simp only [ovr, List.set_cons_zero, List.set_cons_succ, e23, e24, e25, e26, e22, e27, e28]
  clear hM hG hO hN hall e23 e24 e25 e26 e22 e27 e28 K1p0 K1p1 K1p2 K1r6 HB1
  clear tZ
  go_upto_region 5 with fail
  refine region_plain [30, 31, 32, 29, 33, 34, 9, 10] (fun fZ tZ uZ => MR w.heap.size w (u2.heap.size) [(w.heap.size, LN (a % m)), (w.heap.size + 1, LN (b % m)), (w.heap.size + 1 + 1, LN m), (w.heap.size + 1 + 1 + 1, L0s)] [] [(fZ 6, fZ 7, tZ 9, L0s, LN (a % m - b % m + 115792089237316195423570985008687907853269984665640564039457584007913129639936))] uZ ∧ Gs fZ tZ [(0, 30, NV (a % m)), (1, 31, NV (b % m)), (2, 32, .tuple #[NV (a % m - b % m + 115792089237316195423570985008687907853269984665640564039457584007913129639936), .bool true]), (3, 29, .tuple #[NV (a % m - b % m + 115792089237316195423570985008687907853269984665640564039457584007913129639936), .bool true]), (4, 33, NV (a % m - b % m + 115792089237316195423570985008687907853269984665640564039457584007913129639936)), (5, 34, .bool true), (8, 10, .bool true)] ∧ Os fZ [(7, 6)] ∧ Ns fZ tZ []) (by kernel_rfl) ?_ ?_ ?_
  · exact ⟨{ bel := HB2, lo := HB2.size, sz := Nat.le_refl _, ks := ⟨⟨l2p0, K2p0⟩, ⟨l2p1, K2p1⟩, ⟨l2p2, K2p2⟩, ⟨l2r6, K2r6⟩, trivial⟩, ex := trivial, nw := ⟨fun e => (by cases e), trivial⟩, nd := ⟨fun e => (by cases e), trivial⟩ }, Gs.none _ _, Os.none _, trivial⟩
  · rintro fZ tZ uZ iZ oZ aZ hF ⟨hM, hG, hO, hN⟩ ho hfi hdep
    obtain ⟨hS, hV⟩ := hF.two 43 (by decide) rfl (by decide)
    rcases cZ9 ho with rfl | rfl | rfl | rfl | rfl | rfl | rfl | rfl | rfl <;> cases ho
    · exact t_load (show aZ.eval (.tmp 3) = .pointer (some ⟨w.heap.size, 0, none⟩) from (hF.out 3 (by decide)).trans rfl) hM.ks.1.2 Try.underlying25 info_api_Nat hF hS rfl rfl rfl rfl rfl (by decide) (Jm hM hG hO hN)
    · exact t_load (show aZ.eval (.tmp 4) = .pointer (some ⟨w.heap.size + 1, 0, none⟩) from (hF.out 4 (by decide)).trans rfl) hM.ks.2.1.2 Try.underlying25 info_api_Nat hF hS rfl rfl rfl rfl rfl (by decide) (Jm hM hG hO hN)
    · exact t_call (vs := [NV (a % m), NV (b % m)]) (by show [aZ.eval (.tmp 30), aZ.eval (.tmp 31)] = _; rw [(ve 30 hV (hG.1 (dd 0 hdep))), (ve 31 hV (hG.2.1 (dd 1 hdep)))]) ent_limb_Sub (nSub_lt (a % m) (b % m) uZ (In_mod hm h) (In_mod hm h) hc) hF hS rfl rfl rfl rfl (by decide) (fun _ hB => (Jm (hM.call hB) hG hO hN))
    · exact t_move (ve 32 hV (hG.2.2.1 (dd 2 hdep))) hF hS rfl rfl rfl rfl (by decide) (Jm hM hG hO hN)
    · exact t_extract (ve 29 hV (hG.2.2.2.1 (dd 3 hdep))) hF hS rfl rfl rfl rfl rfl (by decide) (Jm hM hG hO hN)
    · exact t_extract (ve 29 hV (hG.2.2.2.1 (dd 3 hdep))) hF hS rfl rfl rfl rfl rfl (by decide) (Jm hM hG hO hN)
    · have q1 : fZ 7 = false := Os.not (hO.1) hfi
      exact t_alloc (al_api_Nat uZ) hF hS rfl rfl rfl rfl (by decide) ⟨MR.newF 0 hM rfl hfi q1, Gs.other rfl hG, hO.keep rfl, Ns.step hN rfl⟩
    · exact t_storeN 0 hM rfl (dd 6 hdep) hfi (hV 9 (by decide)) (ve 33 hV (hG.2.2.2.2.1 (dd 4 hdep))) rfl info_api_Nat rfl hF rfl rfl rfl rfl (fun _ h => ⟨h, Gs.idle rfl hG, ⟨fun _ => (dd 6 hdep :), trivial⟩, Ns.idle hN⟩)
    · exact t_assign (ve 34 hV (hG.2.2.2.2.2.1 (dd 5 hdep))) hF hS rfl rfl rfl rfl (by decide) (Jm hM hG hO hN)
  rintro fZ tZ u3 ⟨hM, hG, hO, hN⟩ hall
  obtain ⟨e30, e31, e32, e29, e33, e34, e10, -⟩ := Gs.all 9 hall hG rfl
  obtain ⟨b3_6, ee9, pb3_6, lb3_6, kb3_6⟩ := hM.nw.1 (hall 6 (by decide))
  have e9 : tZ 9 = .pointer (some ⟨b3_6, 0, none⟩) := ee9
  clear ee9
  have Kb3_6 : CV u3 b3_6 (LN (a % m - b % m + 115792089237316195423570985008687907853269984665640564039457584007913129639936)) := by
    have h1 : CV u3 b3_6 (bif fZ 7 then LN (a % m - b % m + 115792089237316195423570985008687907853269984665640564039457584007913129639936) else L0s) := kb3_6
    rw [hall 7 (by decide)] at h1; exact h1
  clear kb3_6
  have HB3 : Below w.heap.size w u3 := hM.bel
  have sz3 : u2.heap.size ≤ u3.heap.size := hM.sz
  obtain ⟨-, -, ⟨l3p2, K3p2⟩, ⟨l3r6, K3r6⟩, -⟩ := hM.ks.up hM.sz
  dsimp only at l3p2 K3p2 l3r6 K3r6
  simp only [ovr, List.set_cons_zero, List.set_cons_succ, e30, e31, e32, e29, e33, e34, e10, e9]
  clear hM hG hO hN hall e30 e31 e32 e29 e33 e34 e10 e9 K2p0 K2p1 K2p2 K2r6 HB2
  clear tZ
  go_upto_region 7 with fail
  refine region_plain [37, 38, 39, 36, 40, 41] (fun fZ tZ uZ => MR w.heap.size w (u3.heap.size) [(w.heap.size + 1 + 1, LN m), (w.heap.size + 1 + 1 + 1, L0s)] [(b3_6, fZ 6, LN (a % m - b % m + 115792089237316195423570985008687907853269984665640564039457584007913129639936), LN (a % m - b % m + 115792089237316195423570985008687907853269984665640564039457584007913129639936 + m - 115792089237316195423570985008687907853269984665640564039457584007913129639936))] [] uZ ∧ Gs fZ tZ [(0, 37, NV (a % m - b % m + 115792089237316195423570985008687907853269984665640564039457584007913129639936)), (1, 38, NV m), (2, 39, .tuple #[NV (a % m - b % m + 115792089237316195423570985008687907853269984665640564039457584007913129639936 + m - 115792089237316195423570985008687907853269984665640564039457584007913129639936), .bool true]), (3, 36, .tuple #[NV (a % m - b % m + 115792089237316195423570985008687907853269984665640564039457584007913129639936 + m - 115792089237316195423570985008687907853269984665640564039457584007913129639936), .bool true]), (4, 40, NV (a % m - b % m + 115792089237316195423570985008687907853269984665640564039457584007913129639936 + m - 115792089237316195423570985008687907853269984665640564039457584007913129639936)), (5, 41, .bool true)] ∧ Os fZ [(6, 0)] ∧ Ns fZ tZ []) (by kernel_rfl) ?_ ?_ ?_
  · exact ⟨{ bel := HB3, lo := HB3.size, sz := Nat.le_refl _, ks := ⟨⟨l3p2, K3p2⟩, ⟨l3r6, K3r6⟩, trivial⟩, ex := ⟨⟨(by omega), lb3_6, rfl, Kb3_6⟩, trivial⟩, nw := trivial, nd := trivial }, Gs.none _ _, Os.none _, trivial⟩
  · rintro fZ tZ uZ iZ oZ aZ hF ⟨hM, hG, hO, hN⟩ ho hfi hdep
    obtain ⟨hS, hV⟩ := hF.two 43 (by decide) rfl (by decide)
    rcases cZ7 ho with rfl | rfl | rfl | rfl | rfl | rfl | rfl <;> cases ho
    · refine op_plain rfl rfl (fun K hK => ?_)
      have ys : fZ 6 = false := Os.not (hO.1) hfi
      have kk : CV uZ (b3_6) (bif fZ 6 then LN (a % m - b % m + 115792089237316195423570985008687907853269984665640564039457584007913129639936 + m - 115792089237316195423570985008687907853269984665640564039457584007913129639936) else LN (a % m - b % m + 115792089237316195423570985008687907853269984665640564039457584007913129639936)) := hM.ex.1.2.2.2
      rw [ys] at kk
      have kk : CV uZ (b3_6) (LN (a % m - b % m + 115792089237316195423570985008687907853269984665640564039457584007913129639936)) := kk
      refine wp_load_mid 25 _ rfl (b3_6) 0 (show aZ.eval (.tmp 9) = .pointer (some ⟨b3_6, 0, none⟩) from (hF.out 9 (by decide)).trans rfl) (LN (a % m - b % m + 115792089237316195423570985008687907853269984665640564039457584007913129639936)) _ kk.range Try.underlying25 rfl info_api_Nat ?_
      exact tell hK hF hS (by decide) (Jm hM hG hO hN)
    · exact t_load (show aZ.eval (.tmp 5) = .pointer (some ⟨w.heap.size + 1 + 1, 0, none⟩) from (hF.out 5 (by decide)).trans rfl) hM.ks.1.2 Try.underlying25 info_api_Nat hF hS rfl rfl rfl rfl rfl (by decide) (Jm hM hG hO hN)
    · exact t_call (vs := [NV (a % m - b % m + 115792089237316195423570985008687907853269984665640564039457584007913129639936), NV m]) (by show [aZ.eval (.tmp 37), aZ.eval (.tmp 38)] = _; rw [(ve 37 hV (hG.1 (dd 0 hdep))), (ve 38 hV (hG.2.1 (dd 1 hdep)))]) ent_limb_Add (nAdd_ge (a % m - b % m + 115792089237316195423570985008687907853269984665640564039457584007913129639936) m uZ hi hm hj) hF hS rfl rfl rfl rfl (by decide) (fun _ hB => (Jm (hM.call hB) hG hO hN))
    · exact t_move (ve 39 hV (hG.2.2.1 (dd 2 hdep))) hF hS rfl rfl rfl rfl (by decide) (Jm hM hG hO hN)
    · exact t_extract (ve 36 hV (hG.2.2.2.1 (dd 3 hdep))) hF hS rfl rfl rfl rfl rfl (by decide) (Jm hM hG hO hN)
    · exact t_extract (ve 36 hV (hG.2.2.2.1 (dd 3 hdep))) hF hS rfl rfl rfl rfl rfl (by decide) (Jm hM hG hO hN)
    · refine op_plain rfl rfl (fun K hK => ?_)
      have kk : CV uZ (b3_6) (bif fZ 6 then LN (a % m - b % m + 115792089237316195423570985008687907853269984665640564039457584007913129639936 + m - 115792089237316195423570985008687907853269984665640564039457584007913129639936) else LN (a % m - b % m + 115792089237316195423570985008687907853269984665640564039457584007913129639936)) := hM.ex.1.2.2.2
      rw [hfi] at kk
      have kk : CV uZ (b3_6) (LN (a % m - b % m + 115792089237316195423570985008687907853269984665640564039457584007913129639936)) := kk
      refine wp_store_mid 25 _ _ rfl (b3_6) 0 (LN (a % m - b % m + 115792089237316195423570985008687907853269984665640564039457584007913129639936 + m - 115792089237316195423570985008687907853269984665640564039457584007913129639936) : List Value).toArray (show aZ.eval (.tmp 9) = .pointer (some ⟨b3_6, 0, none⟩) from (hF.out 9 (by decide)).trans rfl) (ve 40 hV (hG.2.2.2.2.1 (dd 4 hdep))) kk.there info_api_Nat (all_one rfl) ?_
      exact tell0 hK hF ⟨MR.putXF 0 hM rfl ⟨by omega, by omega, trivial⟩ trivial, Gs.idle rfl hG, ⟨fun _ => hdep ⟨0, .phase⟩ (by simp) rfl, trivial⟩, Ns.idle hN⟩
  rintro fZ tZ u4 ⟨hM, hG, hO, hN⟩ hall
  obtain ⟨e37, e38, e39, e36, e40, e41, -⟩ := Gs.all 7 hall hG rfl
  have HB4 : Below w.heap.size w u4 := hM.bel
  have sz4 : u3.heap.size ≤ u4.heap.size := hM.sz
  obtain ⟨-, ⟨l4r6, K4r6⟩, -⟩ := hM.ks.up hM.sz
  dsimp only at l4r6 K4r6
  have K4n5_6 : CV u4 (b3_6) (LN (a % m - b % m + 115792089237316195423570985008687907853269984665640564039457584007913129639936 + m - 115792089237316195423570985008687907853269984665640564039457584007913129639936)) := by
    have h1 : CV u4 (b3_6) (bif fZ 6 then LN (a % m - b % m + 115792089237316195423570985008687907853269984665640564039457584007913129639936 + m - 115792089237316195423570985008687907853269984665640564039457584007913129639936) else LN (a % m - b % m + 115792089237316195423570985008687907853269984665640564039457584007913129639936)) := hM.ex.1.2.2.2
    rw [hall 6 (by decide)] at h1; exact h1
  have l4n5_6 : b3_6 < u4.heap.size := Nat.lt_of_lt_of_le hM.ex.1.2.1 hM.sz
  simp only [ovr, List.set_cons_zero, List.set_cons_succ, e37, e38, e39, e36, e40, e41]
  clear hM hG hO hN hall e37 e38 e39 e36 e40 e41 K3p2 K3r6 Kb3_6 HB3
  clear tZ
  go_upto_region 8 with fail
  refine region_plain [42, 7] (fun fZ tZ uZ => MR w.heap.size w (u4.heap.size) [(b3_6, LN (a % m - b % m + 115792089237316195423570985008687907853269984665640564039457584007913129639936 + m - 115792089237316195423570985008687907853269984665640564039457584007913129639936))] [(w.heap.size + 1 + 1 + 1, fZ 1, L0s, LN (a % m - b % m + 115792089237316195423570985008687907853269984665640564039457584007913129639936 + m - 115792089237316195423570985008687907853269984665640564039457584007913129639936))] [] uZ ∧ Gs fZ tZ [(0, 42, NV (a % m - b % m + 115792089237316195423570985008687907853269984665640564039457584007913129639936 + m - 115792089237316195423570985008687907853269984665640564039457584007913129639936)), (2, 7, (Go.Value.int Go.IntKind.i64 0))] ∧ Os fZ [] ∧ Ns fZ tZ []) (by kernel_rfl) ?_ ?_ ?_
  · exact ⟨{ bel := HB4, lo := HB4.size, sz := Nat.le_refl _, ks := ⟨⟨l4n5_6, K4n5_6⟩, trivial⟩, ex := ⟨⟨(by omega), l4r6, rfl, K4r6⟩, trivial⟩, nw := trivial, nd := trivial }, Gs.none _ _, Os.none _, trivial⟩
  · rintro fZ tZ uZ iZ oZ aZ hF ⟨hM, hG, hO, hN⟩ ho hfi hdep
    obtain ⟨hS, hV⟩ := hF.two 43 (by decide) rfl (by decide)
    rcases cZ3 ho with rfl | rfl | rfl <;> cases ho
    · exact t_load (show aZ.eval (.tmp 9) = .pointer (some ⟨b3_6, 0, none⟩) from (hF.out 9 (by decide)).trans rfl) hM.ks.1.2 Try.underlying25 info_api_Nat hF hS rfl rfl rfl rfl rfl (by decide) (Jt hM hG hN)
    · refine op_plain rfl rfl (fun K hK => ?_)
      have kk : CV uZ (w.heap.size + 1 + 1 + 1) (bif fZ 1 then LN (a % m - b % m + 115792089237316195423570985008687907853269984665640564039457584007913129639936 + m - 115792089237316195423570985008687907853269984665640564039457584007913129639936) else L0s) := hM.ex.1.2.2.2
      rw [hfi] at kk
      have kk : CV uZ (w.heap.size + 1 + 1 + 1) (L0s) := kk
      refine wp_store_mid 25 _ _ rfl (w.heap.size + 1 + 1 + 1) 0 (LN (a % m - b % m + 115792089237316195423570985008687907853269984665640564039457584007913129639936 + m - 115792089237316195423570985008687907853269984665640564039457584007913129639936) : List Value).toArray (show aZ.eval (.tmp 6) = .pointer (some ⟨w.heap.size + 1 + 1 + 1, 0, none⟩) from (hF.out 6 (by decide)).trans rfl) (ve 42 hV (hG.1 (dd 0 hdep))) kk.there info_api_Nat (all_one rfl) ?_
      exact tell0 hK hF ⟨MR.putXF 0 hM rfl ⟨by omega, trivial⟩ trivial, Gs.idle rfl hG, trivial, Ns.idle hN⟩
    · exact t_assign rfl hF hS rfl rfl rfl rfl (by decide) (Jt hM hG hN)
  rintro fZ tZ u5 ⟨hM, hG, hO, hN⟩ hall
  obtain ⟨e42, e7, -⟩ := Gs.all 3 hall hG rfl
  have HB5 : Below w.heap.size w u5 := hM.bel
  have sz5 : u4.heap.size ≤ u5.heap.size := hM.sz
  have K5r6 : CV u5 (w.heap.size + 1 + 1 + 1) (LN (a % m - b % m + 115792089237316195423570985008687907853269984665640564039457584007913129639936 + m - 115792089237316195423570985008687907853269984665640564039457584007913129639936)) := by
    have h1 : CV u5 (w.heap.size + 1 + 1 + 1) (bif fZ 1 then LN (a % m - b % m + 115792089237316195423570985008687907853269984665640564039457584007913129639936 + m - 115792089237316195423570985008687907853269984665640564039457584007913129639936) else L0s) := hM.ex.1.2.2.2
    rw [hall 1 (by decide)] at h1; exact h1
  have l5r6 : w.heap.size + 1 + 1 + 1 < u5.heap.size := Nat.lt_of_lt_of_le hM.ex.1.2.1 hM.sz
  simp only [ovr, List.set_cons_zero, List.set_cons_succ, e42, e7]
  clear hM hG hO hN hall e42 e7 K4n5_6 K4r6 HB4
  clear tZ
  have c6_0 := (K5r6 0 _ rfl).1
  have c6_1 := (K5r6 1 _ rfl).1
  have c6_2 := (K5r6 2 _ rfl).1
  have c6_3 := (K5r6 3 _ rfl).1
  go_wp2
  refine bodyPost_ret (v := .tuple #[NV (a % m - b % m + 115792089237316195423570985008687907853269984665640564039457584007913129639936 + m - 115792089237316195423570985008687907853269984665640564039457584007913129639936), .int .i64 0]) (by simp [results, Try.results59, go_sem, c6_0, c6_1, c6_2, c6_3]) rfl ⟨by rw [Hr.out], HB5⟩
set_option maxRecDepth 100000 in
set_option maxHeartbeats 4000000 in
theorem mSub_ge (a b m : Int) (w : World) (ha : In a) (hb : In b) (hm : In m) (h : m ≠ 0) (hc : b % m ≤ a % m) :
    Calls Try.prog 59 #[NV a, NV b, NV m] w fun e w' => e = .returned (.tuple #[NV ((a - b) % m), .int .i64 0]) ∧ Below w.heap.size w w' := by
  have hm0 := hm.1
  have h3 := Int.emod_nonneg b h
  have h4 := Int.emod_lt_of_pos a (show 0 < m by omega)
  have hr : NV ((a - b) % m) = NV (a % m - b % m) := by
    congr 1
    rw [Int.sub_emod, Int.emod_eq_of_lt (by omega) (by omega)]
  have Hr : Hid _ := hr
  clear hr h3 h4 hm0
  go_enter Try.func59, Try.ntmps59
  go_upto_region 1 with fail
  generalize hC : ((((w.alloc (.cells (LN a : List Value).toArray 25)).alloc (.cells (LN b : List Value).toArray 25)).alloc (.cells (LN m : List Value).toArray 25)).alloc (.cells (L0s : List Value).toArray 25)) = v0 at *
  have HB0 : Below w.heap.size w v0 := by rw [← hC]; exact (balloc (balloc (balloc (balloc (bself w) _) _) _) _)
  have K0p0 : CV v0 (w.heap.size) (LN a) := by rw [← hC]; exact ((((CV.new w (LN a) 25).alloc (by simp <;> omega) _).alloc (by simp <;> omega) _).alloc (by simp <;> omega) _)
  have l0p0 : w.heap.size < v0.heap.size := by rw [← hC]; simp <;> omega
  have K0p1 : CV v0 (w.heap.size + 1) (LN b) := by rw [← hC]; exact (((CV.newAt (w.alloc (.cells (LN a : List Value).toArray 25)) (LN b) 25 _ (by simp)).alloc (by simp <;> omega) _).alloc (by simp <;> omega) _)
  have l0p1 : w.heap.size + 1 < v0.heap.size := by rw [← hC]; simp <;> omega
  have K0p2 : CV v0 (w.heap.size + 1 + 1) (LN m) := by rw [← hC]; exact ((CV.newAt ((w.alloc (.cells (LN a : List Value).toArray 25)).alloc (.cells (LN b : List Value).toArray 25)) (LN m) 25 _ (by simp)).alloc (by simp <;> omega) _)
  have l0p2 : w.heap.size + 1 + 1 < v0.heap.size := by rw [← hC]; simp <;> omega
  have K0r6 : CV v0 (w.heap.size + 1 + 1 + 1) (L0s) := by rw [← hC]; exact (CV.newAt (((w.alloc (.cells (LN a : List Value).toArray 25)).alloc (.cells (LN b : List Value).toArray 25)).alloc (.cells (LN m : List Value).toArray 25)) (L0s) 25 _ (by simp))
  have l0r6 : w.heap.size + 1 + 1 + 1 < v0.heap.size := by rw [← hC]; simp <;> omega
  clear hC
  refine region_drawn [12, 13, 14, 15, 11, 16, 17, 8] (fun fZ tZ uZ => MR w.heap.size w (v0.heap.size) [(w.heap.size + 1, LN b), (w.heap.size + 1 + 1, LN m), (w.heap.size + 1 + 1 + 1, L0s)] [(w.heap.size, fZ 7, LN a, LN (a % m))] [] uZ ∧ Gs fZ tZ [(0, 12, NV a), (1, 13, WV a), (2, 14, NV m), (3, 15, .tuple #[NV (a % m), .int .i64 0]), (4, 11, .tuple #[NV (a % m), .int .i64 0]), (5, 16, NV (a % m)), (6, 17, .int .i64 0), (8, 8, .int .i64 0)] ∧ Os fZ [(7, 0)] ∧ Ns fZ tZ []) (by kernel_rfl) (by kernel_rfl) ?_ ?_ ?_
  · exact ⟨{ bel := HB0.drew, lo := HB0.size, sz := Nat.le_refl _, ks := ⟨⟨l0p1, K0p1⟩, ⟨l0p2, K0p2⟩, ⟨l0r6, K0r6⟩, trivial⟩, ex := ⟨⟨(by omega), l0p0, rfl, K0p0⟩, trivial⟩, nw := trivial, nd := trivial }, Gs.none _ _, Os.none _, trivial⟩
  · rintro fZ tZ uZ iZ oZ aZ hF ⟨hM, hG, hO, hN⟩ ho hfi hdep
    obtain ⟨hS, hV⟩ := hF.two 43 (by decide) rfl (by decide)
    rcases cZ9 ho with rfl | rfl | rfl | rfl | rfl | rfl | rfl | rfl | rfl <;> cases ho
    · refine op_plain rfl rfl (fun K hK => ?_)
      have ys : fZ 7 = false := Os.not (hO.1) hfi
      have kk : CV uZ (w.heap.size) (bif fZ 7 then LN (a % m) else LN a) := hM.ex.1.2.2.2
      rw [ys] at kk
      have kk : CV uZ (w.heap.size) (LN a) := kk
      refine wp_load_mid 25 _ rfl (w.heap.size) 0 (show aZ.eval (.tmp 3) = .pointer (some ⟨w.heap.size, 0, none⟩) from (hF.out 3 (by decide)).trans rfl) (LN a) _ kk.range Try.underlying25 rfl info_api_Nat ?_
      exact tell hK hF hS (by decide) (Jm hM hG hO hN)
    · exact t_call (vs := [NV a]) (by show [aZ.eval (.tmp 12)] = _; rw [(ve 12 hV (hG.1 (dd 0 hdep)))]) ent_limb_Widen (nWiden a uZ ha) hF hS rfl rfl rfl rfl (by decide) (fun _ hB => (Jm (hM.call hB) hG hO hN))
    · exact t_load (show aZ.eval (.tmp 5) = .pointer (some ⟨w.heap.size + 1 + 1, 0, none⟩) from (hF.out 5 (by decide)).trans rfl) hM.ks.2.1.2 Try.underlying25 info_api_Nat hF hS rfl rfl rfl rfl rfl (by decide) (Jm hM hG hO hN)
    · exact t_call (vs := [WV a, NV m]) (by show [aZ.eval (.tmp 13), aZ.eval (.tmp 14)] = _; rw [(ve 13 hV (hG.2.1 (dd 1 hdep))), (ve 14 hV (hG.2.2.1 (dd 2 hdep)))]) ent_mod_Reduce (mReduce a m uZ ha.wide hm h) hF hS rfl rfl rfl rfl (by decide) (fun _ hB => (Jm (hM.call hB) hG hO hN))
    · exact t_move (ve 15 hV (hG.2.2.2.1 (dd 3 hdep))) hF hS rfl rfl rfl rfl (by decide) (Jm hM hG hO hN)
    · exact t_extract (ve 11 hV (hG.2.2.2.2.1 (dd 4 hdep))) hF hS rfl rfl rfl rfl rfl (by decide) (Jm hM hG hO hN)
    · exact t_extract (ve 11 hV (hG.2.2.2.2.1 (dd 4 hdep))) hF hS rfl rfl rfl rfl rfl (by decide) (Jm hM hG hO hN)
    · refine op_plain rfl rfl (fun K hK => ?_)
      have kk : CV uZ (w.heap.size) (bif fZ 7 then LN (a % m) else LN a) := hM.ex.1.2.2.2
      rw [hfi] at kk
      have kk : CV uZ (w.heap.size) (LN a) := kk
      refine wp_store_mid 25 _ _ rfl (w.heap.size) 0 (LN (a % m) : List Value).toArray (show aZ.eval (.tmp 3) = .pointer (some ⟨w.heap.size, 0, none⟩) from (hF.out 3 (by decide)).trans rfl) (ve 16 hV (hG.2.2.2.2.2.1 (dd 5 hdep))) kk.there info_api_Nat (all_one rfl) ?_
      exact tell0 hK hF ⟨MR.putXF 0 hM rfl ⟨by omega, by omega, by omega, trivial⟩ trivial, Gs.idle rfl hG, ⟨fun _ => hdep ⟨0, .phase⟩ (by simp) rfl, trivial⟩, Ns.idle hN⟩
    · exact t_assign (ve 17 hV (hG.2.2.2.2.2.2.1 (dd 6 hdep))) hF hS rfl rfl rfl rfl (by decide) (Jm hM hG hO hN)
  rintro fZ tZ u1 ⟨hM, hG, hO, hN⟩ hall
  obtain ⟨e12, e13, e14, e15, e11, e16, e17, e8, -⟩ := Gs.all 9 hall hG rfl
  have HB1 : Below w.heap.size w u1 := hM.bel
  have sz1 : v0.heap.size ≤ u1.heap.size := hM.sz
  obtain ⟨⟨l1p1, K1p1⟩, ⟨l1p2, K1p2⟩, ⟨l1r6, K1r6⟩, -⟩ := hM.ks.up hM.sz
  dsimp only at l1p1 K1p1 l1p2 K1p2 l1r6 K1r6
  have K1p0 : CV u1 (w.heap.size) (LN (a % m)) := by
    have h1 : CV u1 (w.heap.size) (bif fZ 7 then LN (a % m) else LN a) := hM.ex.1.2.2.2
    rw [hall 7 (by decide)] at h1; exact h1
  have l1p0 : w.heap.size < u1.heap.size := Nat.lt_of_lt_of_le hM.ex.1.2.1 hM.sz
  simp only [ovr, List.set_cons_zero, List.set_cons_succ, e12, e13, e14, e15, e11, e16, e17, e8]
  clear hM hG hO hN hall e12 e13 e14 e15 e11 e16 e17 e8 K0p0 K0p1 K0p2 K0r6 HB0
  clear tZ
  go_upto_region 4 with fail
  refine region_drawn [23, 24, 25, 26, 22, 27, 28] (fun fZ tZ uZ => MR w.heap.size w (u1.heap.size) [(w.heap.size, LN (a % m)), (w.heap.size + 1 + 1, LN m), (w.heap.size + 1 + 1 + 1, L0s)] [(w.heap.size + 1, fZ 7, LN b, LN (b % m))] [] uZ ∧ Gs fZ tZ [(0, 23, NV b), (1, 24, WV b), (2, 25, NV m), (3, 26, .tuple #[NV (b % m), .int .i64 0]), (4, 22, .tuple #[NV (b % m), .int .i64 0]), (5, 27, NV (b % m)), (6, 28, .int .i64 0)] ∧ Os fZ [(7, 0)] ∧ Ns fZ tZ []) (by kernel_rfl) (by kernel_rfl) ?_ ?_ ?_
  · exact ⟨{ bel := HB1.drew, lo := HB1.size, sz := Nat.le_refl _, ks := ⟨⟨l1p0, K1p0⟩, ⟨l1p2, K1p2⟩, ⟨l1r6, K1r6⟩, trivial⟩, ex := ⟨⟨(by omega), l1p1, rfl, K1p1⟩, trivial⟩, nw := trivial, nd := trivial }, Gs.none _ _, Os.none _, trivial⟩
  · rintro fZ tZ uZ iZ oZ aZ hF ⟨hM, hG, hO, hN⟩ ho hfi hdep
    obtain ⟨hS, hV⟩ := hF.two 43 (by decide) rfl (by decide)
    rcases cZ8 ho with rfl | rfl | rfl | rfl | rfl | rfl | rfl | rfl <;> cases ho
    · refine op_plain rfl rfl (fun K hK => ?_)
      have ys : fZ 7 = false := Os.not (hO.1) hfi
      have kk : CV uZ (w.heap.size + 1) (bif fZ 7 then LN (b % m) else LN b) := hM.ex.1.2.2.2
      rw [ys] at kk
      have kk : CV uZ (w.heap.size + 1) (LN b) := kk
      refine wp_load_mid 25 _ rfl (w.heap.size + 1) 0 (show aZ.eval (.tmp 4) = .pointer (some ⟨w.heap.size + 1, 0, none⟩) from (hF.out 4 (by decide)).trans rfl) (LN b) _ kk.range Try.underlying25 rfl info_api_Nat ?_
      exact tell hK hF hS (by decide) (Jm hM hG hO hN)
    · exact t_call (vs := [NV b]) (by show [aZ.eval (.tmp 23)] = _; rw [(ve 23 hV (hG.1 (dd 0 hdep)))]) ent_limb_Widen (nWiden b uZ hb) hF hS rfl rfl rfl rfl (by decide) (fun _ hB => (Jm (hM.call hB) hG hO hN))
    · exact t_load (show aZ.eval (.tmp 5) = .pointer (some ⟨w.heap.size + 1 + 1, 0, none⟩) from (hF.out 5 (by decide)).trans rfl) hM.ks.2.1.2 Try.underlying25 info_api_Nat hF hS rfl rfl rfl rfl rfl (by decide) (Jm hM hG hO hN)
    · exact t_call (vs := [WV b, NV m]) (by show [aZ.eval (.tmp 24), aZ.eval (.tmp 25)] = _; rw [(ve 24 hV (hG.2.1 (dd 1 hdep))), (ve 25 hV (hG.2.2.1 (dd 2 hdep)))]) ent_mod_Reduce (mReduce b m uZ hb.wide hm h) hF hS rfl rfl rfl rfl (by decide) (fun _ hB => (Jm (hM.call hB) hG hO hN))
    · exact t_move (ve 26 hV (hG.2.2.2.1 (dd 3 hdep))) hF hS rfl rfl rfl rfl (by decide) (Jm hM hG hO hN)
    · exact t_extract (ve 22 hV (hG.2.2.2.2.1 (dd 4 hdep))) hF hS rfl rfl rfl rfl rfl (by decide) (Jm hM hG hO hN)
    · exact t_extract (ve 22 hV (hG.2.2.2.2.1 (dd 4 hdep))) hF hS rfl rfl rfl rfl rfl (by decide) (Jm hM hG hO hN)
    · refine op_plain rfl rfl (fun K hK => ?_)
      have kk : CV uZ (w.heap.size + 1) (bif fZ 7 then LN (b % m) else LN b) := hM.ex.1.2.2.2
      rw [hfi] at kk
      have kk : CV uZ (w.heap.size + 1) (LN b) := kk
      refine wp_store_mid 25 _ _ rfl (w.heap.size + 1) 0 (LN (b % m) : List Value).toArray (show aZ.eval (.tmp 4) = .pointer (some ⟨w.heap.size + 1, 0, none⟩) from (hF.out 4 (by decide)).trans rfl) (ve 27 hV (hG.2.2.2.2.2.1 (dd 5 hdep))) kk.there info_api_Nat (all_one rfl) ?_
      exact tell0 hK hF ⟨MR.putXF 0 hM rfl ⟨by omega, by omega, by omega, trivial⟩ trivial, Gs.idle rfl hG, ⟨fun _ => hdep ⟨0, .phase⟩ (by simp) rfl, trivial⟩, Ns.idle hN⟩
  rintro fZ tZ u2 ⟨hM, hG, hO, hN⟩ hall
  obtain ⟨e23, e24, e25, e26, e22, e27, e28, -⟩ := Gs.all 8 hall hG rfl
  have HB2 : Below w.heap.size w u2 := hM.bel
  have sz2 : u1.heap.size ≤ u2.heap.size := hM.sz
  obtain ⟨⟨l2p0, K2p0⟩, -, ⟨l2r6, K2r6⟩, -⟩ := hM.ks.up hM.sz
  dsimp only at l2p0 K2p0 l2r6 K2r6
  have K2p1 : CV u2 (w.heap.size + 1) (LN (b % m)) := by
    have h1 : CV u2 (w.heap.size + 1) (bif fZ 7 then LN (b % m) else LN b) := hM.ex.1.2.2.2
    rw [hall 7 (by decide)] at h1; exact h1
  have l2p1 : w.heap.size + 1 < u2.heap.size := Nat.lt_of_lt_of_le hM.ex.1.2.1 hM.sz
  simp only [ovr, List.set_cons_zero, List.set_cons_succ, e23, e24, e25, e26, e22, e27, e28]
  clear hM hG hO hN hall e23 e24 e25 e26 e22 e27 e28 K1p0 K1p1 K1p2 K1r6 HB1
  clear tZ
  go_upto_region 5 with fail
  refine region_plain [30, 31, 32, 29, 33, 34, 9, 10] (fun fZ tZ uZ => MR w.heap.size w (u2.heap.size) [(w.heap.size, LN (a % m)), (w.heap.size + 1, LN (b % m)), (w.heap.size + 1 + 1 + 1, L0s)] [] [(fZ 6, fZ 7, tZ 9, L0s, LN (a % m - b % m))] uZ ∧ Gs fZ tZ [(0, 30, NV (a % m)), (1, 31, NV (b % m)), (2, 32, .tuple #[NV (a % m - b % m), .bool false]), (3, 29, .tuple #[NV (a % m - b % m), .bool false]), (4, 33, NV (a % m - b % m)), (5, 34, .bool false), (8, 10, .bool false)] ∧ Os fZ [(7, 6)] ∧ Ns fZ tZ []) (by kernel_rfl) ?_ ?_ ?_
  · exact ⟨{ bel := HB2, lo := HB2.size, sz := Nat.le_refl _, ks := ⟨⟨l2p0, K2p0⟩, ⟨l2p1, K2p1⟩, ⟨l2r6, K2r6⟩, trivial⟩, ex := trivial, nw := ⟨fun e => (by cases e), trivial⟩, nd := ⟨fun e => (by cases e), trivial⟩ }, Gs.none _ _, Os.none _, trivial⟩
  · rintro fZ tZ uZ iZ oZ aZ hF ⟨hM, hG, hO, hN⟩ ho hfi hdep
    obtain ⟨hS, hV⟩ := hF.two 43 (by decide) rfl (by decide)
    rcases cZ9 ho with rfl | rfl | rfl | rfl | rfl | rfl | rfl | rfl | rfl <;> cases ho
    · exact t_load (show aZ.eval (.tmp 3) = .pointer (some ⟨w.heap.size, 0, none⟩) from (hF.out 3 (by decide)).trans rfl) hM.ks.1.2 Try.underlying25 info_api_Nat hF hS rfl rfl rfl rfl rfl (by decide) (Jm hM hG hO hN)
    · exact t_load (show aZ.eval (.tmp 4) = .pointer (some ⟨w.heap.size + 1, 0, none⟩) from (hF.out 4 (by decide)).trans rfl) hM.ks.2.1.2 Try.underlying25 info_api_Nat hF hS rfl rfl rfl rfl rfl (by decide) (Jm hM hG hO hN)
    · exact t_call (vs := [NV (a % m), NV (b % m)]) (by show [aZ.eval (.tmp 30), aZ.eval (.tmp 31)] = _; rw [(ve 30 hV (hG.1 (dd 0 hdep))), (ve 31 hV (hG.2.1 (dd 1 hdep)))]) ent_limb_Sub (nSub_ge (a % m) (b % m) uZ (In_mod hm h) (In_mod hm h) hc) hF hS rfl rfl rfl rfl (by decide) (fun _ hB => (Jm (hM.call hB) hG hO hN))
    · exact t_move (ve 32 hV (hG.2.2.1 (dd 2 hdep))) hF hS rfl rfl rfl rfl (by decide) (Jm hM hG hO hN)
    · exact t_extract (ve 29 hV (hG.2.2.2.1 (dd 3 hdep))) hF hS rfl rfl rfl rfl rfl (by decide) (Jm hM hG hO hN)
    · exact t_extract (ve 29 hV (hG.2.2.2.1 (dd 3 hdep))) hF hS rfl rfl rfl rfl rfl (by decide) (Jm hM hG hO hN)
    · have q1 : fZ 7 = false := Os.not (hO.1) hfi
      exact t_alloc (al_api_Nat uZ) hF hS rfl rfl rfl rfl (by decide) ⟨MR.newF 0 hM rfl hfi q1, Gs.other rfl hG, hO.keep rfl, Ns.step hN rfl⟩
    · exact t_storeN 0 hM rfl (dd 6 hdep) hfi (hV 9 (by decide)) (ve 33 hV (hG.2.2.2.2.1 (dd 4 hdep))) rfl info_api_Nat rfl hF rfl rfl rfl rfl (fun _ h => ⟨h, Gs.idle rfl hG, ⟨fun _ => (dd 6 hdep :), trivial⟩, Ns.idle hN⟩)
    · exact t_assign (ve 34 hV (hG.2.2.2.2.2.1 (dd 5 hdep))) hF hS rfl rfl rfl rfl (by decide) (Jm hM hG hO hN)
  rintro fZ tZ u3 ⟨hM, hG, hO, hN⟩ hall
  obtain ⟨e30, e31, e32, e29, e33, e34, e10, -⟩ := Gs.all 9 hall hG rfl
  obtain ⟨b3_6, ee9, pb3_6, lb3_6, kb3_6⟩ := hM.nw.1 (hall 6 (by decide))
  have e9 : tZ 9 = .pointer (some ⟨b3_6, 0, none⟩) := ee9
  clear ee9
  have Kb3_6 : CV u3 b3_6 (LN (a % m - b % m)) := by
    have h1 : CV u3 b3_6 (bif fZ 7 then LN (a % m - b % m) else L0s) := kb3_6
    rw [hall 7 (by decide)] at h1; exact h1
  clear kb3_6
  have HB3 : Below w.heap.size w u3 := hM.bel
  have sz3 : u2.heap.size ≤ u3.heap.size := hM.sz
  obtain ⟨-, -, ⟨l3r6, K3r6⟩, -⟩ := hM.ks.up hM.sz
  dsimp only at l3r6 K3r6
  simp only [ovr, List.set_cons_zero, List.set_cons_succ, e30, e31, e32, e29, e33, e34, e10, e9]
  clear hM hG hO hN hall e30 e31 e32 e29 e33 e34 e10 e9 K2p0 K2p1 K2r6 HB2
  clear tZ
  go_upto_region 8 with fail
  refine region_plain [42, 7] (fun fZ tZ uZ => MR w.heap.size w (u3.heap.size) [(b3_6, LN (a % m - b % m))] [(w.heap.size + 1 + 1 + 1, fZ 1, L0s, LN (a % m - b % m))] [] uZ ∧ Gs fZ tZ [(0, 42, NV (a % m - b % m)), (2, 7, (Go.Value.int Go.IntKind.i64 0))] ∧ Os fZ [] ∧ Ns fZ tZ []) (by kernel_rfl) ?_ ?_ ?_
  · exact ⟨{ bel := HB3, lo := HB3.size, sz := Nat.le_refl _, ks := ⟨⟨lb3_6, Kb3_6⟩, trivial⟩, ex := ⟨⟨(by omega), l3r6, rfl, K3r6⟩, trivial⟩, nw := trivial, nd := trivial }, Gs.none _ _, Os.none _, trivial⟩
  · rintro fZ tZ uZ iZ oZ aZ hF ⟨hM, hG, hO, hN⟩ ho hfi hdep
    obtain ⟨hS, hV⟩ := hF.two 43 (by decide) rfl (by decide)
    rcases cZ3 ho with rfl | rfl | rfl <;> cases ho
    · exact t_load (show aZ.eval (.tmp 9) = .pointer (some ⟨b3_6, 0, none⟩) from (hF.out 9 (by decide)).trans rfl) hM.ks.1.2 Try.underlying25 info_api_Nat hF hS rfl rfl rfl rfl rfl (by decide) (Jt hM hG hN)
    · refine op_plain rfl rfl (fun K hK => ?_)
      have kk : CV uZ (w.heap.size + 1 + 1 + 1) (bif fZ 1 then LN (a % m - b % m) else L0s) := hM.ex.1.2.2.2
      rw [hfi] at kk
      have kk : CV uZ (w.heap.size + 1 + 1 + 1) (L0s) := kk
      refine wp_store_mid 25 _ _ rfl (w.heap.size + 1 + 1 + 1) 0 (LN (a % m - b % m) : List Value).toArray (show aZ.eval (.tmp 6) = .pointer (some ⟨w.heap.size + 1 + 1 + 1, 0, none⟩) from (hF.out 6 (by decide)).trans rfl) (ve 42 hV (hG.1 (dd 0 hdep))) kk.there info_api_Nat (all_one rfl) ?_
      exact tell0 hK hF ⟨MR.putXF 0 hM rfl ⟨by omega, trivial⟩ trivial, Gs.idle rfl hG, trivial, Ns.idle hN⟩
    · exact t_assign rfl hF hS rfl rfl rfl rfl (by decide) (Jt hM hG hN)
  rintro fZ tZ u4 ⟨hM, hG, hO, hN⟩ hall
  obtain ⟨e42, e7, -⟩ := Gs.all 3 hall hG rfl
  have HB4 : Below w.heap.size w u4 := hM.bel
  have sz4 : u3.heap.size ≤ u4.heap.size := hM.sz
  have K4r6 : CV u4 (w.heap.size + 1 + 1 + 1) (LN (a % m - b % m)) := by
    have h1 : CV u4 (w.heap.size + 1 + 1 + 1) (bif fZ 1 then LN (a % m - b % m) else L0s) := hM.ex.1.2.2.2
    rw [hall 1 (by decide)] at h1; exact h1
  have l4r6 : w.heap.size + 1 + 1 + 1 < u4.heap.size := Nat.lt_of_lt_of_le hM.ex.1.2.1 hM.sz
  simp only [ovr, List.set_cons_zero, List.set_cons_succ, e42, e7]
  clear hM hG hO hN hall e42 e7 K3r6 Kb3_6 HB3
  clear tZ
  have c6_0 := (K4r6 0 _ rfl).1
  have c6_1 := (K4r6 1 _ rfl).1
  have c6_2 := (K4r6 2 _ rfl).1
  have c6_3 := (K4r6 3 _ rfl).1
  go_wp2
  refine bodyPost_ret (v := .tuple #[NV (a % m - b % m), .int .i64 0]) (by simp [results, Try.results59, go_sem, c6_0, c6_1, c6_2, c6_3]) rfl ⟨by rw [Hr.out], HB4⟩
theorem mSub (a b m : Int) (w : World) (ha : In a) (hb : In b) (hm : In m) (h : m ≠ 0) :
    Calls Try.prog 59 #[NV a, NV b, NV m] w fun e w' => e = .returned (.tuple #[NV ((a - b) % m), .int .i64 0]) ∧ Below w.heap.size w w' := by
  by_cases hc : a % m < b % m
  · exact mSub_lt a b m w ha hb hm h hc
  · exact mSub_ge a b m w ha hb hm h (by omega)
end Go.Proofs.Ytkpnjmfndgfogaa
