/- Numbers modulo one: Mul, low, divide, and the reference's Reduce, Sub, Mul. -/
import Derived.Test.YtkpnjmfndgfogaaMA2
namespace Go.Proofs.Ytkpnjmfndgfogaa
open Go.RowKit
set_option linter.unusedVariables false
set_option linter.unusedSimpArgs false
set_option maxRecDepth 100000 in
set_option maxHeartbeats 4000000 in
theorem mMul (a b m : Int) (w : World) (ha : In a) (hb : In b) (hm : In m) (h : m ≠ 0) :
    Calls Try.prog 68 #[NV a, NV b, NV m] w fun e w' => e = .returned (.tuple #[NV (a * b % m), .int .i64 0]) ∧ Below w.heap.size w w' := by
  go_enter Try.func68, Try.ntmps68
  go_upto_region 1 with fail
  generalize hC : ((((w.alloc (.cells (LN a : List Value).toArray 25)).alloc (.cells (LN b : List Value).toArray 25)).alloc (.cells (LN m : List Value).toArray 25)).alloc (.cells (L0s : List Value).toArray 25)) = v0 at *
  have HB0 : Below w.heap.size w v0 := by rw [← hC]; exact (balloc (balloc (balloc (balloc (bself w) _) _) _) _)
  have K0p0 : CV v0 (w.heap.size) (LN a) := by rw [← hC]; exact ((((CV.new w (LN a) 25).alloc (by simp <;> omega) _).alloc (by simp <;> omega) _).alloc (by simp <;> omega) _)
  have l0p0 : w.heap.size < v0.heap.size := by rw [← hC]; simp <;> omega
  have K0p1 : CV v0 (w.heap.size + 1) (LN b) := by rw [← hC]; exact (((CV.newAt (w.alloc (.cells (LN a : List Value).toArray 25)) (LN b) 25 _ (by simp)).alloc (by simp <;> omega) _).alloc (by simp <;> omega) _)
  have l0p1 : w.heap.size + 1 < v0.heap.size := by rw [← hC]; simp <;> omega
  have K0p2 : CV v0 (w.heap.size + 1 + 1) (LN m) := by rw [← hC]; exact ((CV.newAt ((w.alloc (.cells (LN a : List Value).toArray 25)).alloc (.cells (LN b : List Value).toArray 25)) (LN m) 25 _ (by simp)).alloc (by simp <;> omega) _)
  have l0p2 : w.heap.size + 1 + 1 < v0.heap.size := by rw [← hC]; simp <;> omega
  have K0r6 : CV v0 (w.heap.size + 1 + 1 + 1) (L0s) := by rw [← hC]; exact (CV.newAt (((w.alloc (.cells (LN a : List Value).toArray 25)).alloc (.cells (LN b : List Value).toArray 25)).alloc (.cells (LN m : List Value).toArray 25)) (L0s) 25 _ (by simp))
  have l0r6 : w.heap.size + 1 + 1 + 1 < v0.heap.size := by rw [← hC]; simp <;> omega
  clear hC
  refine region_drawn [8, 9, 10, 11, 12, 13, 14, 7] (fun fZ tZ uZ => MR w.heap.size w (v0.heap.size) [(w.heap.size, LN a), (w.heap.size + 1, LN b), (w.heap.size + 1 + 1, LN m)] [(w.heap.size + 1 + 1 + 1, fZ 7, L0s, LN (a * b % m))] [] uZ ∧ Gs fZ tZ [(0, 8, NV a), (1, 9, NV b), (2, 10, WV (a * b)), (3, 11, NV m), (4, 12, .tuple #[NV (a * b % m), .int .i64 0]), (5, 13, NV (a * b % m)), (6, 14, .int .i64 0), (8, 7, .int .i64 0)] ∧ Os fZ [] ∧ Ns fZ tZ []) (by kernel_rfl) (by kernel_rfl) ?_ ?_ ?_
  · exact ⟨{ bel := HB0.drew, lo := HB0.size, sz := Nat.le_refl _, ks := ⟨⟨l0p0, K0p0⟩, ⟨l0p1, K0p1⟩, ⟨l0p2, K0p2⟩, trivial⟩, ex := ⟨⟨(by omega), l0r6, rfl, K0r6⟩, trivial⟩, nw := trivial, nd := trivial }, Gs.none _ _, Os.none _, trivial⟩
  · rintro fZ tZ uZ iZ oZ aZ hF ⟨hM, hG, hO, hN⟩ ho hfi hdep
    obtain ⟨hS, hV⟩ := hF.two 15 (by decide) rfl (by decide)
    rcases cZ9 ho with rfl | rfl | rfl | rfl | rfl | rfl | rfl | rfl | rfl <;> cases ho
    · exact t_load (show aZ.eval (.tmp 3) = .pointer (some ⟨w.heap.size, 0, none⟩) from (hF.out 3 (by decide)).trans rfl) hM.ks.1.2 Try.underlying25 info_api_Nat hF hS rfl rfl rfl rfl rfl (by decide) (Jt hM hG hN)
    · exact t_load (show aZ.eval (.tmp 4) = .pointer (some ⟨w.heap.size + 1, 0, none⟩) from (hF.out 4 (by decide)).trans rfl) hM.ks.2.1.2 Try.underlying25 info_api_Nat hF hS rfl rfl rfl rfl rfl (by decide) (Jt hM hG hN)
    · exact t_call (vs := [NV a, NV b]) (by show [aZ.eval (.tmp 8), aZ.eval (.tmp 9)] = _; rw [(ve 8 hV (hG.1 (dd 0 hdep))), (ve 9 hV (hG.2.1 (dd 1 hdep)))]) ent_limb_Mul (nMul a b uZ ha hb) hF hS rfl rfl rfl rfl (by decide) (fun _ hB => (Jt (hM.call hB) hG hN))
    · exact t_load (show aZ.eval (.tmp 5) = .pointer (some ⟨w.heap.size + 1 + 1, 0, none⟩) from (hF.out 5 (by decide)).trans rfl) hM.ks.2.2.1.2 Try.underlying25 info_api_Nat hF hS rfl rfl rfl rfl rfl (by decide) (Jt hM hG hN)
    · exact t_call (vs := [WV (a * b), NV m]) (by show [aZ.eval (.tmp 10), aZ.eval (.tmp 11)] = _; rw [(ve 10 hV (hG.2.2.1 (dd 2 hdep))), (ve 11 hV (hG.2.2.2.1 (dd 3 hdep)))]) ent_mod_Reduce (mReduce (a * b) m uZ (In_mul ha hb) hm h) hF hS rfl rfl rfl rfl (by decide) (fun _ hB => (Jt (hM.call hB) hG hN))
    · exact t_extract (ve 12 hV (hG.2.2.2.2.1 (dd 4 hdep))) hF hS rfl rfl rfl rfl rfl (by decide) (Jt hM hG hN)
    · exact t_extract (ve 12 hV (hG.2.2.2.2.1 (dd 4 hdep))) hF hS rfl rfl rfl rfl rfl (by decide) (Jt hM hG hN)
    · refine op_plain rfl rfl (fun K hK => ?_)
      have kk : CV uZ (w.heap.size + 1 + 1 + 1) (bif fZ 7 then LN (a * b % m) else L0s) := hM.ex.1.2.2.2
      rw [hfi] at kk
      have kk : CV uZ (w.heap.size + 1 + 1 + 1) (L0s) := kk
      refine wp_store_mid 25 _ _ rfl (w.heap.size + 1 + 1 + 1) 0 (LN (a * b % m) : List Value).toArray (show aZ.eval (.tmp 6) = .pointer (some ⟨w.heap.size + 1 + 1 + 1, 0, none⟩) from (hF.out 6 (by decide)).trans rfl) (ve 13 hV (hG.2.2.2.2.2.1 (dd 5 hdep))) kk.there info_api_Nat (all_one rfl) ?_
      exact tell0 hK hF ⟨MR.putXF 0 hM rfl ⟨by omega, by omega, by omega, trivial⟩ trivial, Gs.idle rfl hG, trivial, Ns.idle hN⟩
    · exact t_assign (ve 14 hV (hG.2.2.2.2.2.2.1 (dd 6 hdep))) hF hS rfl rfl rfl rfl (by decide) (Jt hM hG hN)
  rintro fZ tZ u1 ⟨hM, hG, hO, hN⟩ hall
  obtain ⟨e8, e9, e10, e11, e12, e13, e14, e7, -⟩ := Gs.all 9 hall hG rfl
  have HB1 : Below w.heap.size w u1 := hM.bel
  have sz1 : v0.heap.size ≤ u1.heap.size := hM.sz
  have K1r6 : CV u1 (w.heap.size + 1 + 1 + 1) (LN (a * b % m)) := by
    have h1 : CV u1 (w.heap.size + 1 + 1 + 1) (bif fZ 7 then LN (a * b % m) else L0s) := hM.ex.1.2.2.2
    rw [hall 7 (by decide)] at h1; exact h1
  have l1r6 : w.heap.size + 1 + 1 + 1 < u1.heap.size := Nat.lt_of_lt_of_le hM.ex.1.2.1 hM.sz
  simp only [ovr, List.set_cons_zero, List.set_cons_succ, e8, e9, e10, e11, e12, e13, e14, e7]
  clear hM hG hO hN hall e8 e9 e10 e11 e12 e13 e14 e7 K0p0 K0p1 K0p2 K0r6 HB0
  clear tZ
  have c6_0 := (K1r6 0 _ rfl).1
  have c6_1 := (K1r6 1 _ rfl).1
  have c6_2 := (K1r6 2 _ rfl).1
  have c6_3 := (K1r6 3 _ rfl).1
  go_wp2
  refine bodyPost_ret (v := .tuple #[NV (a * b % m), .int .i64 0]) (by simp [results, Try.results68, go_sem, c6_0, c6_1, c6_2, c6_3]) rfl ⟨rfl, HB1⟩
theorem LN_LW (n : Int) : A4 (D0 n) (D1 n) (D2 n) (D3 n) = NV (n % 115792089237316195423570985008687907853269984665640564039457584007913129639936) := by
  have e0 : D0 (n % 115792089237316195423570985008687907853269984665640564039457584007913129639936) = D0 n := by unfold D0; omega
  have e1 : D1 (n % 115792089237316195423570985008687907853269984665640564039457584007913129639936) = D1 n := by unfold D1; omega
  have e2 : D2 (n % 115792089237316195423570985008687907853269984665640564039457584007913129639936) = D2 n := by unfold D2; omega
  have e3 : D3 (n % 115792089237316195423570985008687907853269984665640564039457584007913129639936) = D3 n := by unfold D3; omega
  rw [NV, e0, e1, e2, e3]
set_option maxRecDepth 100000 in
set_option maxHeartbeats 4000000 in
theorem mlow (n : Int) (w : World) : Calls Try.prog 84 #[WV n] w fun e w' => e = .returned (NV (n % 115792089237316195423570985008687907853269984665640564039457584007913129639936)) ∧ Below w.heap.size w w' := by
  have har : ∀ b w, (Instr.arrayAt 25 (.slice (some ⟨b, 0, none⟩) 4 8)).run Try.prog w = .ok (.pointer (some ⟨b, 0, none⟩)) w := fun _ _ => by kernel_rfl
  rw [← LN_LW]
  go_enter Try.func84, Try.ntmps84
  go_wp2
  go_returns
  exact ⟨rfl, by go_grown⟩
theorem In_div {a b : Int} (ha : In a) (hb : In b) (h : b ≠ 0) : In (a / b) := by
  have h0 := hb.1; have h1 := ha.1; have h2 := ha.2
  have : a / b ≤ a := Int.ediv_le_self _ h1
  exact ⟨Int.ediv_nonneg h1 h0, by omega⟩
theorem In_lo {n : Int} (h : In n) : n % 115792089237316195423570985008687907853269984665640564039457584007913129639936 = n := Int.emod_eq_of_lt h.1 h.2
set_option maxRecDepth 100000 in
set_option maxHeartbeats 4000000 in
theorem mdivide (a b : Int) (w : World) (ha : In a) (hb : In b) (h : b ≠ 0) :
    Calls Try.prog 63 #[NV a, NV b] w fun e w' => e = .returned (.tuple #[NV (a / b), NV (a % b)]) ∧ Below w.heap.size w w' := by
  go_enter Try.func63, Try.ntmps63
  go_upto_region 1 with fail
  generalize hC : ((((w.alloc (.cells (LN a : List Value).toArray 25)).alloc (.cells (LN b : List Value).toArray 25)).alloc (.cells (L0s : List Value).toArray 25)).alloc (.cells (L0s : List Value).toArray 25)) = v0 at *
  have HB0 : Below w.heap.size w v0 := by rw [← hC]; exact (balloc (balloc (balloc (balloc (bself w) _) _) _) _)
  have K0p0 : CV v0 (w.heap.size) (LN a) := by rw [← hC]; exact ((((CV.new w (LN a) 25).alloc (by simp <;> omega) _).alloc (by simp <;> omega) _).alloc (by simp <;> omega) _)
  have l0p0 : w.heap.size < v0.heap.size := by rw [← hC]; simp <;> omega
  have K0p1 : CV v0 (w.heap.size + 1) (LN b) := by rw [← hC]; exact (((CV.newAt (w.alloc (.cells (LN a : List Value).toArray 25)) (LN b) 25 _ (by simp)).alloc (by simp <;> omega) _).alloc (by simp <;> omega) _)
  have l0p1 : w.heap.size + 1 < v0.heap.size := by rw [← hC]; simp <;> omega
  have K0r4 : CV v0 (w.heap.size + 1 + 1) (L0s) := by rw [← hC]; exact ((CV.newAt ((w.alloc (.cells (LN a : List Value).toArray 25)).alloc (.cells (LN b : List Value).toArray 25)) (L0s) 25 _ (by simp)).alloc (by simp <;> omega) _)
  have l0r4 : w.heap.size + 1 + 1 < v0.heap.size := by rw [← hC]; simp <;> omega
  have K0r5 : CV v0 (w.heap.size + 1 + 1 + 1) (L0s) := by rw [← hC]; exact (CV.newAt (((w.alloc (.cells (LN a : List Value).toArray 25)).alloc (.cells (LN b : List Value).toArray 25)).alloc (.cells (L0s : List Value).toArray 25)) (L0s) 25 _ (by simp))
  have l0r5 : w.heap.size + 1 + 1 + 1 < v0.heap.size := by rw [← hC]; simp <;> omega
  clear hC
  refine region_drawn [9, 10, 11, 12, 8, 13, 14, 15, 6, 7] (fun fZ tZ uZ => MR w.heap.size w (v0.heap.size) [(w.heap.size, LN a), (w.heap.size + 1, LN b), (w.heap.size + 1 + 1, L0s)] [(w.heap.size + 1 + 1 + 1, fZ 10, L0s, LN (a % b))] [(fZ 8, fZ 9, tZ 6, L0w, LW (a / b))] uZ ∧ Gs fZ tZ [(0, 9, NV a), (1, 10, WV a), (2, 11, NV b), (3, 12, .tuple #[WV (a / b), NV (a % b), .int .i64 0]), (4, 8, .tuple #[WV (a / b), NV (a % b), .int .i64 0]), (5, 13, WV (a / b)), (6, 14, NV (a % b)), (7, 15, .int .i64 0), (11, 7, .int .i64 0)] ∧ Os fZ [(9, 8)] ∧ Ns fZ tZ []) (by kernel_rfl) (by kernel_rfl) ?_ ?_ ?_
  · exact ⟨{ bel := HB0.drew, lo := HB0.size, sz := Nat.le_refl _, ks := ⟨⟨l0p0, K0p0⟩, ⟨l0p1, K0p1⟩, ⟨l0r4, K0r4⟩, trivial⟩, ex := ⟨⟨(by omega), l0r5, rfl, K0r5⟩, trivial⟩, nw := ⟨fun e => (by cases e), trivial⟩, nd := ⟨fun e => (by cases e), trivial⟩ }, Gs.none _ _, Os.none _, trivial⟩
  · rintro fZ tZ uZ iZ oZ aZ hF ⟨hM, hG, hO, hN⟩ ho hfi hdep
    obtain ⟨hS, hV⟩ := hF.two 19 (by decide) rfl (by decide)
    rcases cZ12 ho with rfl | rfl | rfl | rfl | rfl | rfl | rfl | rfl | rfl | rfl | rfl | rfl <;> cases ho
    · exact t_load (show aZ.eval (.tmp 2) = .pointer (some ⟨w.heap.size, 0, none⟩) from (hF.out 2 (by decide)).trans rfl) hM.ks.1.2 Try.underlying25 info_api_Nat hF hS rfl rfl rfl rfl rfl (by decide) (Jm hM hG hO hN)
    · exact t_call (vs := [NV a]) (by show [aZ.eval (.tmp 9)] = _; rw [(ve 9 hV (hG.1 (dd 0 hdep)))]) ent_limb_Widen (nWiden a uZ ha) hF hS rfl rfl rfl rfl (by decide) (fun _ hB => (Jm (hM.call hB) hG hO hN))
    · exact t_load (show aZ.eval (.tmp 3) = .pointer (some ⟨w.heap.size + 1, 0, none⟩) from (hF.out 3 (by decide)).trans rfl) hM.ks.2.1.2 Try.underlying25 info_api_Nat hF hS rfl rfl rfl rfl rfl (by decide) (Jm hM hG hO hN)
    · exact t_call (vs := [WV a, NV b]) (by show [aZ.eval (.tmp 10), aZ.eval (.tmp 11)] = _; rw [(ve 10 hV (hG.2.1 (dd 1 hdep))), (ve 11 hV (hG.2.2.1 (dd 2 hdep)))]) ent_limb_Divide (nDivide a b uZ ha.wide hb h) hF hS rfl rfl rfl rfl (by decide) (fun _ hB => (Jm (hM.call hB) hG hO hN))
    · exact t_move (ve 12 hV (hG.2.2.2.1 (dd 3 hdep))) hF hS rfl rfl rfl rfl (by decide) (Jm hM hG hO hN)
    · exact t_extract (ve 8 hV (hG.2.2.2.2.1 (dd 4 hdep))) hF hS rfl rfl rfl rfl rfl (by decide) (Jm hM hG hO hN)
    · exact t_extract (ve 8 hV (hG.2.2.2.2.1 (dd 4 hdep))) hF hS rfl rfl rfl rfl rfl (by decide) (Jm hM hG hO hN)
    · exact t_extract (ve 8 hV (hG.2.2.2.2.1 (dd 4 hdep))) hF hS rfl rfl rfl rfl rfl (by decide) (Jm hM hG hO hN)
    · have q1 : fZ 9 = false := Os.not (hO.1) hfi
      exact t_alloc (al_api_Wide uZ) hF hS rfl rfl rfl rfl (by decide) ⟨MR.newF 0 hM rfl hfi q1, Gs.other rfl hG, hO.keep rfl, Ns.step hN rfl⟩
    · exact t_storeN 0 hM rfl (dd 8 hdep) hfi (hV 6 (by decide)) (ve 13 hV (hG.2.2.2.2.2.1 (dd 5 hdep))) rfl info_api_Wide rfl hF rfl rfl rfl rfl (fun _ h => ⟨h, Gs.idle rfl hG, ⟨fun _ => (dd 8 hdep :), trivial⟩, Ns.idle hN⟩)
    · refine op_plain rfl rfl (fun K hK => ?_)
      have kk : CV uZ (w.heap.size + 1 + 1 + 1) (bif fZ 10 then LN (a % b) else L0s) := hM.ex.1.2.2.2
      rw [hfi] at kk
      have kk : CV uZ (w.heap.size + 1 + 1 + 1) (L0s) := kk
      refine wp_store_mid 25 _ _ rfl (w.heap.size + 1 + 1 + 1) 0 (LN (a % b) : List Value).toArray (show aZ.eval (.tmp 5) = .pointer (some ⟨w.heap.size + 1 + 1 + 1, 0, none⟩) from (hF.out 5 (by decide)).trans rfl) (ve 14 hV (hG.2.2.2.2.2.2.1 (dd 6 hdep))) kk.there info_api_Nat (all_one rfl) ?_
      exact tell0 hK hF ⟨MR.putXF 0 hM rfl ⟨by omega, by omega, by omega, trivial⟩ trivial, Gs.idle rfl hG, hO.keep rfl, Ns.idle hN⟩
    · exact t_assign (ve 15 hV (hG.2.2.2.2.2.2.2.1 (dd 7 hdep))) hF hS rfl rfl rfl rfl (by decide) (Jm hM hG hO hN)
  rintro fZ tZ u1 ⟨hM, hG, hO, hN⟩ hall
  obtain ⟨e9, e10, e11, e12, e8, e13, e14, e15, e7, -⟩ := Gs.all 12 hall hG rfl
  obtain ⟨b1_8, ee6, pb1_8, lb1_8, kb1_8⟩ := hM.nw.1 (hall 8 (by decide))
  have e6 : tZ 6 = .pointer (some ⟨b1_8, 0, none⟩) := ee6
  clear ee6
  have Kb1_8 : CV u1 b1_8 (LW (a / b)) := by
    have h1 : CV u1 b1_8 (bif fZ 9 then LW (a / b) else L0w) := kb1_8
    rw [hall 9 (by decide)] at h1; exact h1
  clear kb1_8
  have HB1 : Below w.heap.size w u1 := hM.bel
  have sz1 : v0.heap.size ≤ u1.heap.size := hM.sz
  obtain ⟨-, -, ⟨l1r4, K1r4⟩, -⟩ := hM.ks.up hM.sz
  dsimp only at l1r4 K1r4
  have K1r5 : CV u1 (w.heap.size + 1 + 1 + 1) (LN (a % b)) := by
    have h1 : CV u1 (w.heap.size + 1 + 1 + 1) (bif fZ 10 then LN (a % b) else L0s) := hM.ex.1.2.2.2
    rw [hall 10 (by decide)] at h1; exact h1
  have l1r5 : w.heap.size + 1 + 1 + 1 < u1.heap.size := Nat.lt_of_lt_of_le hM.ex.1.2.1 hM.sz
  simp only [ovr, List.set_cons_zero, List.set_cons_succ, e9, e10, e11, e12, e8, e13, e14, e15, e7, e6]
  clear hM hG hO hN hall e9 e10 e11 e12 e8 e13 e14 e15 e7 e6 K0p0 K0p1 K0r4 K0r5 HB0
  clear tZ
  go_upto_region 2 with fail
  refine region_drawn [16, 17, 18] (fun fZ tZ uZ => MR w.heap.size w (u1.heap.size) [(b1_8, LW (a / b))] [(w.heap.size + 1 + 1, fZ 3, L0s, LN (a / b % 115792089237316195423570985008687907853269984665640564039457584007913129639936)), (w.heap.size + 1 + 1 + 1, fZ 4, LN (a % b), LN (a % b))] [] uZ ∧ Gs fZ tZ [(0, 16, WV (a / b)), (1, 17, NV (a / b % 115792089237316195423570985008687907853269984665640564039457584007913129639936)), (2, 18, NV (a % b))] ∧ Os fZ [(4, 2)] ∧ Ns fZ tZ []) (by kernel_rfl) (by kernel_rfl) ?_ ?_ ?_
  · exact ⟨{ bel := HB1.drew, lo := HB1.size, sz := Nat.le_refl _, ks := ⟨⟨lb1_8, Kb1_8⟩, trivial⟩, ex := ⟨⟨(by omega), l1r4, rfl, K1r4⟩, ⟨(by omega), l1r5, rfl, K1r5⟩, trivial⟩, nw := trivial, nd := trivial }, Gs.none _ _, Os.none _, trivial⟩
  · rintro fZ tZ uZ iZ oZ aZ hF ⟨hM, hG, hO, hN⟩ ho hfi hdep
    obtain ⟨hS, hV⟩ := hF.two 19 (by decide) rfl (by decide)
    rcases cZ5 ho with rfl | rfl | rfl | rfl | rfl <;> cases ho
    · exact t_load (show aZ.eval (.tmp 6) = .pointer (some ⟨b1_8, 0, none⟩) from (hF.out 6 (by decide)).trans rfl) hM.ks.1.2 Try.underlying61 info_api_Wide hF hS rfl rfl rfl rfl rfl (by decide) (Jm hM hG hO hN)
    · exact t_call (vs := [WV (a / b)]) (by show [aZ.eval (.tmp 16)] = _; rw [(ve 16 hV (hG.1 (dd 0 hdep)))]) ent_mod_low (mlow (a / b) uZ) hF hS rfl rfl rfl rfl (by decide) (fun _ hB => (Jm (hM.call hB) hG hO hN))
    · refine op_plain rfl rfl (fun K hK => ?_)
      have ys : fZ 4 = false := Os.not (hO.1) hfi
      have kk : CV uZ (w.heap.size + 1 + 1 + 1) (bif fZ 4 then LN (a % b) else LN (a % b)) := hM.ex.2.1.2.2.2
      rw [ys] at kk
      have kk : CV uZ (w.heap.size + 1 + 1 + 1) (LN (a % b)) := kk
      refine wp_load_mid 25 _ rfl (w.heap.size + 1 + 1 + 1) 0 (show aZ.eval (.tmp 5) = .pointer (some ⟨w.heap.size + 1 + 1 + 1, 0, none⟩) from (hF.out 5 (by decide)).trans rfl) (LN (a % b)) _ kk.range Try.underlying25 rfl info_api_Nat ?_
      exact tell hK hF hS (by decide) (Jm hM hG hO hN)
    · refine op_plain rfl rfl (fun K hK => ?_)
      have kk : CV uZ (w.heap.size + 1 + 1) (bif fZ 3 then LN (a / b % 115792089237316195423570985008687907853269984665640564039457584007913129639936) else L0s) := hM.ex.1.2.2.2
      rw [hfi] at kk
      have kk : CV uZ (w.heap.size + 1 + 1) (L0s) := kk
      refine wp_store_mid 25 _ _ rfl (w.heap.size + 1 + 1) 0 (LN (a / b % 115792089237316195423570985008687907853269984665640564039457584007913129639936) : List Value).toArray (show aZ.eval (.tmp 4) = .pointer (some ⟨w.heap.size + 1 + 1, 0, none⟩) from (hF.out 4 (by decide)).trans rfl) (ve 17 hV (hG.2.1 (dd 1 hdep))) kk.there info_api_Nat (all_one rfl) ?_
      exact tell0 hK hF ⟨MR.putXF 0 hM rfl ⟨by omega, trivial⟩ ⟨by omega, trivial⟩, Gs.idle rfl hG, hO.keep rfl, Ns.idle hN⟩
    · refine op_plain rfl rfl (fun K hK => ?_)
      have kk : CV uZ (w.heap.size + 1 + 1 + 1) (bif fZ 4 then LN (a % b) else LN (a % b)) := hM.ex.2.1.2.2.2
      rw [hfi] at kk
      have kk : CV uZ (w.heap.size + 1 + 1 + 1) (LN (a % b)) := kk
      refine wp_store_mid 25 _ _ rfl (w.heap.size + 1 + 1 + 1) 0 (LN (a % b) : List Value).toArray (show aZ.eval (.tmp 5) = .pointer (some ⟨w.heap.size + 1 + 1 + 1, 0, none⟩) from (hF.out 5 (by decide)).trans rfl) (ve 18 hV (hG.2.2.1 (dd 2 hdep))) kk.there info_api_Nat (all_one rfl) ?_
      exact tell0 hK hF ⟨MR.putXF 1 hM rfl ⟨by omega, trivial⟩ ⟨by omega, trivial⟩, Gs.idle rfl hG, ⟨fun _ => (dd 2 hdep :), trivial⟩, Ns.idle hN⟩
  rintro fZ tZ u2 ⟨hM, hG, hO, hN⟩ hall
  obtain ⟨e16, e17, e18, -⟩ := Gs.all 5 hall hG rfl
  have HB2 : Below w.heap.size w u2 := hM.bel
  have sz2 : u1.heap.size ≤ u2.heap.size := hM.sz
  have K2r4 : CV u2 (w.heap.size + 1 + 1) (LN (a / b % 115792089237316195423570985008687907853269984665640564039457584007913129639936)) := by
    have h1 : CV u2 (w.heap.size + 1 + 1) (bif fZ 3 then LN (a / b % 115792089237316195423570985008687907853269984665640564039457584007913129639936) else L0s) := hM.ex.1.2.2.2
    rw [hall 3 (by decide)] at h1; exact h1
  have l2r4 : w.heap.size + 1 + 1 < u2.heap.size := Nat.lt_of_lt_of_le hM.ex.1.2.1 hM.sz
  have K2r5 : CV u2 (w.heap.size + 1 + 1 + 1) (LN (a % b)) := by
    have h1 : CV u2 (w.heap.size + 1 + 1 + 1) (bif fZ 4 then LN (a % b) else LN (a % b)) := hM.ex.2.1.2.2.2
    rw [hall 4 (by decide)] at h1; exact h1
  have l2r5 : w.heap.size + 1 + 1 + 1 < u2.heap.size := Nat.lt_of_lt_of_le hM.ex.2.1.2.1 hM.sz
  simp only [ovr, List.set_cons_zero, List.set_cons_succ, e16, e17, e18]
  clear hM hG hO hN hall e16 e17 e18 K1r4 K1r5 Kb1_8 HB1
  clear tZ
  have c4_0 := (K2r4 0 _ rfl).1
  have c4_1 := (K2r4 1 _ rfl).1
  have c4_2 := (K2r4 2 _ rfl).1
  have c4_3 := (K2r4 3 _ rfl).1
  have c5_0 := (K2r5 0 _ rfl).1
  have c5_1 := (K2r5 1 _ rfl).1
  have c5_2 := (K2r5 2 _ rfl).1
  have c5_3 := (K2r5 3 _ rfl).1
  go_wp2
  refine bodyPost_ret (v := .tuple #[NV (a / b % 115792089237316195423570985008687907853269984665640564039457584007913129639936), NV (a % b)]) (by simp [results, Try.results63, go_sem, c4_0, c4_1, c4_2, c4_3, c5_0, c5_1, c5_2, c5_3]) rfl ⟨by rw [In_lo (In_div ha hb h)], HB2⟩
end Go.Proofs.Ytkpnjmfndgfogaa
