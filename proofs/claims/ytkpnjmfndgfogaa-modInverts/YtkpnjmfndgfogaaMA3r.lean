import Derived.Test.YtkpnjmfndgfogaaN1
import Derived.Test.YtkpnjmfndgfogaaXX
import Derived.Test.YtkpnjmfndgfogaaYY
import Derived.Test.YtkpnjmfndgfogaaWW
import Derived.Test.YtkpnjmfndgfogaaMA3
/- The reference's functions of layer 1, in the words of numbers. -/
namespace Go.Proofs.Ytkpnjmfndgfogaa
open Go.RowKit
set_option linter.unusedSimpArgs false
set_option linter.unusedVariables false
theorem nrAdd (a b : Int) (w : World) (ha : In a) (hb : In b) : Calls Try.prog 49 #[NV a, NV b] w fun e w' => e = .returned (.tuple #[NV (a + b), .bool (ovB a b)]) ∧ Below w.heap.size w w' := by
  have k := rAdd_any _ _ _ _ _ _ _ _ w (W_D0 a) (W_D1 a) (W_D2 a) (W_D3 a) (W_D0 b) (W_D1 b) (W_D2 b) (W_D3 b)
  simp only [V_In ha, V_In hb] at k
  have e : (D4 (a + b) == 1) = ovB a b := by
    unfold In at ha hb; unfold ovB D4; rw [Bool.eq_iff_iff]; simp; omega
  rw [e] at k
  exact k
theorem nrSub (a b : Int) (w : World) (ha : In a) (hb : In b) : Calls Try.prog 50 #[NV a, NV b] w fun e w' => e = .returned (.tuple #[NV (a - b), .bool (ltB a b)]) ∧ Below w.heap.size w w' := by
  have k := rSub_any _ _ _ _ _ _ _ _ w (W_D0 a) (W_D1 a) (W_D2 a) (W_D3 a) (W_D0 b) (W_D1 b) (W_D2 b) (W_D3 b)
  simp only [V_In ha, V_In hb] at k
  have e : (-D4 (a - b) == 1) = ltB a b := by
    unfold In at ha hb; unfold ltB D4; rw [Bool.eq_iff_iff]; simp; omega
  rw [e] at k
  exact k
theorem nrMul (a b : Int) (w : World) (ha : In a) (hb : In b) : Calls Try.prog 45 #[NV a, NV b] w fun e w' => e = .returned (WV (a * b)) ∧ Below w.heap.size w w' := by
  have k := rMul_any _ _ _ _ _ _ _ _ w (W_D0 a) (W_D1 a) (W_D2 a) (W_D3 a) (W_D0 b) (W_D1 b) (W_D2 b) (W_D3 b)
  simp only [V_In ha, V_In hb] at k
  exact k
theorem nrDivide (n m : Int) (w : World) (hn : InW n) (hm : In m) (h : m ≠ 0) : Calls Try.prog 43 #[WV n, NV m] w fun e w' => e = .returned (.tuple #[WV (n / m), NV (n % m), .int .i64 0]) ∧ Below w.heap.size w w' := by
  have k := rDivide_1 _ _ _ _ _ _ _ _ _ _ _ _ w (W_D0 n) (W_D1 n) (W_D2 n) (W_D3 n) (W_D0 (D4 n)) (W_D1 (D4 n)) (W_D2 (D4 n)) (W_D3 (D4 n)) (W_D0 m) (W_D1 m) (W_D2 m) (W_D3 m) (by rw [V_In hm]; exact h)
  simp only [V_In hm, V_InW hn] at k
  exact k
theorem nrWiden (n : Int) (w : World) (hn : In n) : Calls Try.prog 44 #[NV n] w fun e w' => e = .returned (WV n) ∧ Below w.heap.size w w' := by
  rw [WV_In hn]; exact rWiden_any _ _ _ _ w (W_D0 n) (W_D1 n) (W_D2 n) (W_D3 n)
set_option maxRecDepth 100000 in
set_option maxHeartbeats 1000000 in
theorem rDivide_0 (a b c d e f g h : Int) (w : World) :
    Calls Try.prog 43 #[A8 a b c d e f g h, A4 0 0 0 0] w fun en w' => en = .returned (.tuple #[A8 0 0 0 0 0 0 0 0, A4 0 0 0 0, .int .i64 10]) ∧ Below w.heap.size w w' := by
  go_enter Try.func43, Try.ntmps43
  go_wp2
  refine bodyPost_ret (v := .tuple #[A8 0 0 0 0 0 0 0 0, A4 0 0 0 0, .int .i64 10]) (by simp [results, Try.results43, go_sem]) rfl ⟨rfl, ?_⟩
  repeat' (first | (with_reducible exact Below.refl _ _) | (with_reducible assumption) | (with_reducible refine below_drewN ?_ _) | (with_reducible refine Below.drew ?_) | (with_reducible refine Below.setCell ?_ ?_ _) | (with_reducible refine Below.alloc ?_ ?_ _) | go_size)
end Go.Proofs.Ytkpnjmfndgfogaa
/- Numbers modulo one: the reference's Reduce, Mul. -/
namespace Go.Proofs.Ytkpnjmfndgfogaa
open Go.RowKit
set_option linter.unusedVariables false
set_option linter.unusedSimpArgs false
set_option maxRecDepth 100000 in
set_option maxHeartbeats 4000000 in
theorem xReduce (n m : Int) (w : World) (hn : InW n) (hm : In m) (h : m ≠ 0) :
    Calls Try.prog 60 #[WV n, NV m] w fun e w' => e = .returned (.tuple #[NV (n % m), .int .i64 0]) ∧ Below w.heap.size w w' := by
  go_enter Try.func60, Try.ntmps60
  go_upto_region 1 with fail
  generalize hC : (((w.alloc (.cells (LW n : List Value).toArray 61)).alloc (.cells (LN m : List Value).toArray 25)).alloc (.cells (L0s : List Value).toArray 25)) = v0 at *
  have HB0 : Below w.heap.size w v0 := by rw [← hC]; exact (balloc (balloc (balloc (bself w) _) _) _)
  have K0p0 : CV v0 (w.heap.size) (LW n) := by rw [← hC]; exact (((CV.new w (LW n) 61).alloc (by simp <;> omega) _).alloc (by simp <;> omega) _)
  have l0p0 : w.heap.size < v0.heap.size := by rw [← hC]; simp <;> omega
  have K0p1 : CV v0 (w.heap.size + 1) (LN m) := by rw [← hC]; exact ((CV.newAt (w.alloc (.cells (LW n : List Value).toArray 61)) (LN m) 25 _ (by simp)).alloc (by simp <;> omega) _)
  have l0p1 : w.heap.size + 1 < v0.heap.size := by rw [← hC]; simp <;> omega
  have K0r4 : CV v0 (w.heap.size + 1 + 1) (L0s) := by rw [← hC]; exact (CV.newAt ((w.alloc (.cells (LW n : List Value).toArray 61)).alloc (.cells (LN m : List Value).toArray 25)) (L0s) 25 _ (by simp))
  have l0r4 : w.heap.size + 1 + 1 < v0.heap.size := by rw [← hC]; simp <;> omega
  clear hC
  refine region_plain [10, 11, 12, 9, 13, 14, 15, 6, 7, 8] (fun fZ tZ uZ => MR w.heap.size w (v0.heap.size) [(w.heap.size, LW n), (w.heap.size + 1, LN m), (w.heap.size + 1 + 1, L0s)] [] [(fZ 7, fZ 9, tZ 6, L0w, LW (n / m)), (fZ 8, fZ 10, tZ 7, L0s, LN (n % m))] uZ ∧ Gs fZ tZ [(0, 10, WV n), (1, 11, NV m), (2, 12, .tuple #[WV (n / m), NV (n % m), .int .i64 0]), (3, 9, .tuple #[WV (n / m), NV (n % m), .int .i64 0]), (4, 13, WV (n / m)), (5, 14, NV (n % m)), (6, 15, .int .i64 0), (11, 8, .int .i64 0)] ∧ Os fZ [(9, 7), (10, 8)] ∧ Ns fZ tZ []) (by kernel_rfl) ?_ ?_ ?_
  · exact ⟨{ bel := HB0, lo := HB0.size, sz := Nat.le_refl _, ks := ⟨⟨l0p0, K0p0⟩, ⟨l0p1, K0p1⟩, ⟨l0r4, K0r4⟩, trivial⟩, ex := trivial, nw := ⟨fun e => (by cases e), fun e => (by cases e), trivial⟩, nd := ⟨fun e => (by cases e), fun e => (by cases e), trivial⟩ }, Gs.none _ _, Os.none _, trivial⟩
  · rintro fZ tZ uZ iZ oZ aZ hF ⟨hM, hG, hO, hN⟩ ho hfi hdep
    obtain ⟨hS, hV⟩ := hF.two 20 (by decide) rfl (by decide)
    rcases cZ12 ho with rfl | rfl | rfl | rfl | rfl | rfl | rfl | rfl | rfl | rfl | rfl | rfl <;> cases ho
    · exact t_load (show aZ.eval (.tmp 2) = .pointer (some ⟨w.heap.size, 0, none⟩) from (hF.out 2 (by decide)).trans rfl) hM.ks.1.2 Try.underlying61 info_api_Wide hF hS rfl rfl rfl rfl rfl (by decide) (Jm hM hG hO hN)
    · exact t_load (show aZ.eval (.tmp 3) = .pointer (some ⟨w.heap.size + 1, 0, none⟩) from (hF.out 3 (by decide)).trans rfl) hM.ks.2.1.2 Try.underlying25 info_api_Nat hF hS rfl rfl rfl rfl rfl (by decide) (Jm hM hG hO hN)
    · exact t_call (vs := [WV n, NV m]) (by show [aZ.eval (.tmp 10), aZ.eval (.tmp 11)] = _; rw [(ve 10 hV (hG.1 (dd 0 hdep))), (ve 11 hV (hG.2.1 (dd 1 hdep)))]) ent_seneschalref01_Divide (nrDivide n m uZ hn hm h) hF hS rfl rfl rfl rfl (by decide) (fun _ hB => (Jm (hM.call hB) hG hO hN))
    · exact t_move (ve 12 hV (hG.2.2.1 (dd 2 hdep))) hF hS rfl rfl rfl rfl (by decide) (Jm hM hG hO hN)
    · exact t_extract (ve 9 hV (hG.2.2.2.1 (dd 3 hdep))) hF hS rfl rfl rfl rfl rfl (by decide) (Jm hM hG hO hN)
    · exact t_extract (ve 9 hV (hG.2.2.2.1 (dd 3 hdep))) hF hS rfl rfl rfl rfl rfl (by decide) (Jm hM hG hO hN)
    · exact t_extract (ve 9 hV (hG.2.2.2.1 (dd 3 hdep))) hF hS rfl rfl rfl rfl rfl (by decide) (Jm hM hG hO hN)
    · have q1 : fZ 9 = false := Os.not (hO.1) hfi
      exact t_alloc (al_api_Wide uZ) hF hS rfl rfl rfl rfl (by decide) ⟨MR.newF 0 hM rfl hfi q1, Gs.other rfl hG, hO.keep rfl, Ns.step hN rfl⟩
    · have q1 : fZ 10 = false := Os.not (hO.2.1) hfi
      exact t_alloc (al_api_Nat uZ) hF hS rfl rfl rfl rfl (by decide) ⟨MR.newF 1 hM rfl hfi q1, Gs.other rfl hG, hO.keep rfl, Ns.step hN rfl⟩
    · exact t_storeN 0 hM rfl (dd 7 hdep) hfi (hV 6 (by decide)) (ve 13 hV (hG.2.2.2.2.1 (dd 4 hdep))) rfl info_api_Wide rfl hF rfl rfl rfl rfl (fun _ h => ⟨h, Gs.idle rfl hG, ⟨fun _ => (dd 7 hdep :), hO.2.1, trivial⟩, Ns.idle hN⟩)
    · exact t_storeN 1 hM rfl (dd 8 hdep) hfi (hV 7 (by decide)) (ve 14 hV (hG.2.2.2.2.2.1 (dd 5 hdep))) rfl info_api_Nat rfl hF rfl rfl rfl rfl (fun _ h => ⟨h, Gs.idle rfl hG, ⟨hO.1, fun _ => (dd 8 hdep :), trivial⟩, Ns.idle hN⟩)
    · exact t_assign (ve 15 hV (hG.2.2.2.2.2.2.1 (dd 6 hdep))) hF hS rfl rfl rfl rfl (by decide) (Jm hM hG hO hN)
  rintro fZ tZ u1 ⟨hM, hG, hO, hN⟩ hall
  obtain ⟨e10, e11, e12, e9, e13, e14, e15, e8, -⟩ := Gs.all 12 hall hG rfl
  obtain ⟨b1_7, ee6, pb1_7, lb1_7, kb1_7⟩ := hM.nw.1 (hall 7 (by decide))
  have e6 : tZ 6 = .pointer (some ⟨b1_7, 0, none⟩) := ee6
  clear ee6
  have Kb1_7 : CV u1 b1_7 (LW (n / m)) := by
    have h1 : CV u1 b1_7 (bif fZ 9 then LW (n / m) else L0w) := kb1_7
    rw [hall 9 (by decide)] at h1; exact h1
  clear kb1_7
  obtain ⟨b1_8, ee7, pb1_8, lb1_8, kb1_8⟩ := hM.nw.2.1 (hall 8 (by decide))
  have e7 : tZ 7 = .pointer (some ⟨b1_8, 0, none⟩) := ee7
  clear ee7
  have Kb1_8 : CV u1 b1_8 (LN (n % m)) := by
    have h1 : CV u1 b1_8 (bif fZ 10 then LN (n % m) else L0s) := kb1_8
    rw [hall 10 (by decide)] at h1; exact h1
  clear kb1_8
  have nb1_7_b1_8 : b1_7 ≠ b1_8 := fun e => (hM.nd.1 (hall 7 (by decide))).1 (hall 8 (by decide)) (by show tZ 7 = tZ 6; rw [e7, e6, e])
  have HB1 : Below w.heap.size w u1 := hM.bel
  have sz1 : v0.heap.size ≤ u1.heap.size := hM.sz
  obtain ⟨-, -, ⟨l1r4, K1r4⟩, -⟩ := hM.ks.up hM.sz
  dsimp only at l1r4 K1r4
  simp only [ovr, List.set_cons_zero, List.set_cons_succ, e10, e11, e12, e9, e13, e14, e15, e8, e6, e7]
  clear hM hG hO hN hall e10 e11 e12 e9 e13 e14 e15 e8 e6 e7 K0p0 K0p1 K0r4 HB0
  clear tZ
  go_upto_region 4 with fail
  refine region_plain [19, 5] (fun fZ tZ uZ => MR w.heap.size w (u1.heap.size) [(b1_8, LN (n % m))] [(w.heap.size + 1 + 1, fZ 1, L0s, LN (n % m))] [] uZ ∧ Gs fZ tZ [(0, 19, NV (n % m)), (2, 5, (Go.Value.int Go.IntKind.i64 0))] ∧ Os fZ [] ∧ Ns fZ tZ []) (by kernel_rfl) ?_ ?_ ?_
  · exact ⟨{ bel := HB1, lo := HB1.size, sz := Nat.le_refl _, ks := ⟨⟨lb1_8, Kb1_8⟩, trivial⟩, ex := ⟨⟨(by omega), l1r4, rfl, K1r4⟩, trivial⟩, nw := trivial, nd := trivial }, Gs.none _ _, Os.none _, trivial⟩
  · rintro fZ tZ uZ iZ oZ aZ hF ⟨hM, hG, hO, hN⟩ ho hfi hdep
    obtain ⟨hS, hV⟩ := hF.two 20 (by decide) rfl (by decide)
    rcases cZ3 ho with rfl | rfl | rfl <;> cases ho
    · exact t_load (show aZ.eval (.tmp 7) = .pointer (some ⟨b1_8, 0, none⟩) from (hF.out 7 (by decide)).trans rfl) hM.ks.1.2 Try.underlying25 info_api_Nat hF hS rfl rfl rfl rfl rfl (by decide) (Jt hM hG hN)
    · refine op_plain rfl rfl (fun K hK => ?_)
      have kk : CV uZ (w.heap.size + 1 + 1) (bif fZ 1 then LN (n % m) else L0s) := hM.ex.1.2.2.2
      rw [hfi] at kk
      have kk : CV uZ (w.heap.size + 1 + 1) (L0s) := kk
      refine wp_store_mid 25 _ _ rfl (w.heap.size + 1 + 1) 0 (LN (n % m) : List Value).toArray (show aZ.eval (.tmp 4) = .pointer (some ⟨w.heap.size + 1 + 1, 0, none⟩) from (hF.out 4 (by decide)).trans rfl) (ve 19 hV (hG.1 (dd 0 hdep))) kk.there info_api_Nat (all_one rfl) ?_
      exact tell0 hK hF ⟨MR.putXF 0 hM rfl ⟨by omega, trivial⟩ trivial, Gs.idle rfl hG, trivial, Ns.idle hN⟩
    · exact t_assign rfl hF hS rfl rfl rfl rfl (by decide) (Jt hM hG hN)
  rintro fZ tZ u2 ⟨hM, hG, hO, hN⟩ hall
  obtain ⟨e19, e5, -⟩ := Gs.all 3 hall hG rfl
  have HB2 : Below w.heap.size w u2 := hM.bel
  have sz2 : u1.heap.size ≤ u2.heap.size := hM.sz
  have K2r4 : CV u2 (w.heap.size + 1 + 1) (LN (n % m)) := by
    have h1 : CV u2 (w.heap.size + 1 + 1) (bif fZ 1 then LN (n % m) else L0s) := hM.ex.1.2.2.2
    rw [hall 1 (by decide)] at h1; exact h1
  have l2r4 : w.heap.size + 1 + 1 < u2.heap.size := Nat.lt_of_lt_of_le hM.ex.1.2.1 hM.sz
  simp only [ovr, List.set_cons_zero, List.set_cons_succ, e19, e5]
  clear hM hG hO hN hall e19 e5 K1r4 Kb1_8 HB1
  clear tZ
  have c4_0 := (K2r4 0 _ rfl).1
  have c4_1 := (K2r4 1 _ rfl).1
  have c4_2 := (K2r4 2 _ rfl).1
  have c4_3 := (K2r4 3 _ rfl).1
  go_wp2
  refine bodyPost_ret (v := .tuple #[NV (n % m), .int .i64 0]) (by simp [results, Try.results60, go_sem, c4_0, c4_1, c4_2, c4_3]) rfl ⟨rfl, HB2⟩
set_option maxRecDepth 100000 in
set_option maxHeartbeats 4000000 in
theorem xMul (a b m : Int) (w : World) (ha : In a) (hb : In b) (hm : In m) (h : m ≠ 0) :
    Calls Try.prog 61 #[NV a, NV b, NV m] w fun e w' => e = .returned (.tuple #[NV (a * b % m), .int .i64 0]) ∧ Below w.heap.size w w' := by
  go_enter Try.func61, Try.ntmps61
  go_upto_region 1 with fail
  generalize hC : ((((w.alloc (.cells (LN a : List Value).toArray 25)).alloc (.cells (LN b : List Value).toArray 25)).alloc (.cells (LN m : List Value).toArray 25)).alloc (.cells (L0s : List Value).toArray 25)) = v0 at *
  have HB0 : Below w.heap.size w v0 := by rw [← hC]; exact (balloc (balloc (balloc (balloc (bself w) _) _) _) _)
  have K0p0 : CV v0 (w.heap.size) (LN a) := by rw [← hC]; exact ((((CV.new w (LN a) 25).alloc (by simp <;> omega) _).alloc (by simp <;> omega) _).alloc (by simp <;> omega) _)
  have l0p0 : w.heap.size < v0.heap.size := by rw [← hC]; simp <;> omega
  have K0p1 : CV v0 (w.heap.size + 1) (LN b) := by rw [← hC]; exact (((CV.newAt (w.alloc (.cells (LN a : List Value).toArray 25)) (LN b) 25 _ (by simp)).alloc (by simp <;> omega) _).alloc (by simp <;> omega) _)
  have l0p1 : w.heap.size + 1 < v0.heap.size := by rw [← hC]; simp <;> omega
  have K0p2 : CV v0 (w.heap.size + 1 + 1) (LN m) := by rw [← hC]; exact ((CV.newAt ((w.alloc (.cells (LN a : List Value).toArray 25)).alloc (.cells (LN b : List Value).toArray 25)) (LN m) 25 _ (by simp)).alloc (by simp <;> omega) _)
  have l0p2 : w.heap.size + 1 + 1 < v0.heap.size := by rw [← hC]; simp <;> omega
  have K0r6 : CV v0 (w.heap.size + 1 + 1 + 1) (L0s) := by rw [← hC]; exact (CV.newAt (((w.alloc (.cells (LN a : List Value).toArray 25)).alloc (.cells (LN b : List Value).toArray 25)).alloc (.cells (LN m : List Value).toArray 25)) (L0s) 25 _ (by simp))
  have l0r6 : w.heap.size + 1 + 1 + 1 < v0.heap.size := by rw [← hC]; simp <;> omega
  clear hC
  refine region_drawn [8, 9, 10, 11, 12, 13, 14, 7] (fun fZ tZ uZ => MR w.heap.size w (v0.heap.size) [(w.heap.size, LN a), (w.heap.size + 1, LN b), (w.heap.size + 1 + 1, LN m)] [(w.heap.size + 1 + 1 + 1, fZ 7, L0s, LN (a * b % m))] [] uZ ∧ Gs fZ tZ [(0, 8, NV a), (1, 9, NV b), (2, 10, WV (a * b)), (3, 11, NV m), (4, 12, .tuple #[NV (a * b % m), .int .i64 0]), (5, 13, NV (a * b % m)), (6, 14, .int .i64 0), (8, 7, .int .i64 0)] ∧ Os fZ [] ∧ Ns fZ tZ []) (by kernel_rfl) (by kernel_rfl) ?_ ?_ ?_
  · exact ⟨{ bel := HB0.drew, lo := HB0.size, sz := Nat.le_refl _, ks := ⟨⟨l0p0, K0p0⟩, ⟨l0p1, K0p1⟩, ⟨l0p2, K0p2⟩, trivial⟩, ex := ⟨⟨(by omega), l0r6, rfl, K0r6⟩, trivial⟩, nw := trivial, nd := trivial }, Gs.none _ _, Os.none _, trivial⟩
  · rintro fZ tZ uZ iZ oZ aZ hF ⟨hM, hG, hO, hN⟩ ho hfi hdep
    obtain ⟨hS, hV⟩ := hF.two 15 (by decide) rfl (by decide)
    rcases cZ9 ho with rfl | rfl | rfl | rfl | rfl | rfl | rfl | rfl | rfl <;> cases ho
    · exact t_load (show aZ.eval (.tmp 3) = .pointer (some ⟨w.heap.size, 0, none⟩) from (hF.out 3 (by decide)).trans rfl) hM.ks.1.2 Try.underlying25 info_api_Nat hF hS rfl rfl rfl rfl rfl (by decide) (Jt hM hG hN)
    · exact t_load (show aZ.eval (.tmp 4) = .pointer (some ⟨w.heap.size + 1, 0, none⟩) from (hF.out 4 (by decide)).trans rfl) hM.ks.2.1.2 Try.underlying25 info_api_Nat hF hS rfl rfl rfl rfl rfl (by decide) (Jt hM hG hN)
    · exact t_call (vs := [NV a, NV b]) (by show [aZ.eval (.tmp 8), aZ.eval (.tmp 9)] = _; rw [(ve 8 hV (hG.1 (dd 0 hdep))), (ve 9 hV (hG.2.1 (dd 1 hdep)))]) ent_seneschalref01_Mul (nrMul a b uZ ha hb) hF hS rfl rfl rfl rfl (by decide) (fun _ hB => (Jt (hM.call hB) hG hN))
    · exact t_load (show aZ.eval (.tmp 5) = .pointer (some ⟨w.heap.size + 1 + 1, 0, none⟩) from (hF.out 5 (by decide)).trans rfl) hM.ks.2.2.1.2 Try.underlying25 info_api_Nat hF hS rfl rfl rfl rfl rfl (by decide) (Jt hM hG hN)
    · exact t_call (vs := [WV (a * b), NV m]) (by show [aZ.eval (.tmp 10), aZ.eval (.tmp 11)] = _; rw [(ve 10 hV (hG.2.2.1 (dd 2 hdep))), (ve 11 hV (hG.2.2.2.1 (dd 3 hdep)))]) ent_seneschalref02_Reduce (xReduce (a * b) m uZ (In_mul ha hb) hm h) hF hS rfl rfl rfl rfl (by decide) (fun _ hB => (Jt (hM.call hB) hG hN))
    · exact t_extract (ve 12 hV (hG.2.2.2.2.1 (dd 4 hdep))) hF hS rfl rfl rfl rfl rfl (by decide) (Jt hM hG hN)
    · exact t_extract (ve 12 hV (hG.2.2.2.2.1 (dd 4 hdep))) hF hS rfl rfl rfl rfl rfl (by decide) (Jt hM hG hN)
    · refine op_plain rfl rfl (fun K hK => ?_)
      have kk : CV uZ (w.heap.size + 1 + 1 + 1) (bif fZ 7 then LN (a * b % m) else L0s) := hM.ex.1.2.2.2
      rw [hfi] at kk
      have kk : CV uZ (w.heap.size + 1 + 1 + 1) (L0s) := kk
      refine wp_store_mid 25 _ _ rfl (w.heap.size + 1 + 1 + 1) 0 (LN (a * b % m) : List Value).toArray (show aZ.eval (.tmp 6) = .pointer (some ⟨w.heap.size + 1 + 1 + 1, 0, none⟩) from (hF.out 6 (by decide)).trans rfl) (ve 13 hV (hG.2.2.2.2.2.1 (dd 5 hdep))) kk.there info_api_Nat (all_one rfl) ?_
      exact tell0 hK hF ⟨MR.putXF 0 hM rfl ⟨by omega, by omega, by omega, trivial⟩ trivial, Gs.idle rfl hG, trivial, Ns.idle hN⟩
    · exact t_assign (ve 14 hV (hG.2.2.2.2.2.2.1 (dd 6 hdep))) hF hS rfl rfl rfl rfl (by decide) (Jt hM hG hN)
  rintro fZ tZ u1 ⟨hM, hG, hO, hN⟩ hall
  obtain ⟨e8, e9, e10, e11, e12, e13, e14, e7, -⟩ := Gs.all 9 hall hG rfl
  have HB1 : Below w.heap.size w u1 := hM.bel
  have sz1 : v0.heap.size ≤ u1.heap.size := hM.sz
  have K1r6 : CV u1 (w.heap.size + 1 + 1 + 1) (LN (a * b % m)) := by
    have h1 : CV u1 (w.heap.size + 1 + 1 + 1) (bif fZ 7 then LN (a * b % m) else L0s) := hM.ex.1.2.2.2
    rw [hall 7 (by decide)] at h1; exact h1
  have l1r6 : w.heap.size + 1 + 1 + 1 < u1.heap.size := Nat.lt_of_lt_of_le hM.ex.1.2.1 hM.sz
  simp only [ovr, List.set_cons_zero, List.set_cons_succ, e8, e9, e10, e11, e12, e13, e14, e7]
  clear hM hG hO hN hall e8 e9 e10 e11 e12 e13 e14 e7 K0p0 K0p1 K0p2 K0r6 HB0
  clear tZ
  have c6_0 := (K1r6 0 _ rfl).1
  have c6_1 := (K1r6 1 _ rfl).1
  have c6_2 := (K1r6 2 _ rfl).1
  have c6_3 := (K1r6 3 _ rfl).1
  go_wp2
  refine bodyPost_ret (v := .tuple #[NV (a * b % m), .int .i64 0]) (by simp [results, Try.results61, go_sem, c6_0, c6_1, c6_2, c6_3]) rfl ⟨rfl, HB1⟩
theorem nrDivide0 (n : Int) (w : World) : Calls Try.prog 43 #[WV n, A4 0 0 0 0] w fun e w' => e = .returned (.tuple #[A8 0 0 0 0 0 0 0 0, A4 0 0 0 0, .int .i64 10]) ∧ Below w.heap.size w w' := rDivide_0 _ _ _ _ _ _ _ _ w
set_option maxRecDepth 100000 in
set_option maxHeartbeats 4000000 in
theorem xReduce0 (n : Int) (w : World) :
    Calls Try.prog 60 #[WV n, A4 0 0 0 0] w fun e w' => e = .returned (.tuple #[A4 0 0 0 0, .int .i64 20]) ∧ Below w.heap.size w w' := by
  go_enter Try.func60, Try.ntmps60
  go_upto_region 1 with fail
  generalize hC : (((w.alloc (.cells (LW n : List Value).toArray 61)).alloc (.cells ([.int .u64 (0), .int .u64 (0), .int .u64 (0), .int .u64 (0)] : List Value).toArray 25)).alloc (.cells (L0s : List Value).toArray 25)) = v0 at *
  have HB0 : Below w.heap.size w v0 := by rw [← hC]; exact (balloc (balloc (balloc (bself w) _) _) _)
  have K0p0 : CV v0 (w.heap.size) (LW n) := by rw [← hC]; exact (((CV.new w (LW n) 61).alloc (by simp <;> omega) _).alloc (by simp <;> omega) _)
  have l0p0 : w.heap.size < v0.heap.size := by rw [← hC]; simp <;> omega
  have K0p1 : CV v0 (w.heap.size + 1) ([.int .u64 (0), .int .u64 (0), .int .u64 (0), .int .u64 (0)]) := by rw [← hC]; exact ((CV.newAt (w.alloc (.cells (LW n : List Value).toArray 61)) ([.int .u64 (0), .int .u64 (0), .int .u64 (0), .int .u64 (0)]) 25 _ (by simp)).alloc (by simp <;> omega) _)
  have l0p1 : w.heap.size + 1 < v0.heap.size := by rw [← hC]; simp <;> omega
  have K0r4 : CV v0 (w.heap.size + 1 + 1) (L0s) := by rw [← hC]; exact (CV.newAt ((w.alloc (.cells (LW n : List Value).toArray 61)).alloc (.cells ([.int .u64 (0), .int .u64 (0), .int .u64 (0), .int .u64 (0)] : List Value).toArray 25)) (L0s) 25 _ (by simp))
  have l0r4 : w.heap.size + 1 + 1 < v0.heap.size := by rw [← hC]; simp <;> omega
  clear hC
  refine region_plain [10, 11, 12, 9, 13, 14, 15, 6, 7, 8] (fun fZ tZ uZ => MR w.heap.size w (v0.heap.size) [(w.heap.size, LW n), (w.heap.size + 1, [.int .u64 (0), .int .u64 (0), .int .u64 (0), .int .u64 (0)]), (w.heap.size + 1 + 1, L0s)] [] [(fZ 7, fZ 9, tZ 6, L0w, [.int .u64 (0), .int .u64 (0), .int .u64 (0), .int .u64 (0), .int .u64 (0), .int .u64 (0), .int .u64 (0), .int .u64 (0)]), (fZ 8, fZ 10, tZ 7, L0s, [.int .u64 (0), .int .u64 (0), .int .u64 (0), .int .u64 (0)])] uZ ∧ Gs fZ tZ [(0, 10, WV n), (1, 11, .agg #[.int .u64 (0), .int .u64 (0), .int .u64 (0), .int .u64 (0)]), (2, 12, .tuple #[A8 (0) (0) (0) (0) (0) (0) (0) (0), A4 (0) (0) (0) (0), .int .i64 10]), (3, 9, .tuple #[A8 (0) (0) (0) (0) (0) (0) (0) (0), A4 (0) (0) (0) (0), .int .i64 10]), (4, 13, A8 (0) (0) (0) (0) (0) (0) (0) (0)), (5, 14, A4 (0) (0) (0) (0)), (6, 15, .int .i64 10), (11, 8, .int .i64 10)] ∧ Os fZ [(9, 7), (10, 8)] ∧ Ns fZ tZ []) (by kernel_rfl) ?_ ?_ ?_
  · exact ⟨{ bel := HB0, lo := HB0.size, sz := Nat.le_refl _, ks := ⟨⟨l0p0, K0p0⟩, ⟨l0p1, K0p1⟩, ⟨l0r4, K0r4⟩, trivial⟩, ex := trivial, nw := ⟨fun e => (by cases e), fun e => (by cases e), trivial⟩, nd := ⟨fun e => (by cases e), fun e => (by cases e), trivial⟩ }, Gs.none _ _, Os.none _, trivial⟩
  · rintro fZ tZ uZ iZ oZ aZ hF ⟨hM, hG, hO, hN⟩ ho hfi hdep
    obtain ⟨hS, hV⟩ := hF.two 20 (by decide) rfl (by decide)
    rcases cZ12 ho with rfl | rfl | rfl | rfl | rfl | rfl | rfl | rfl | rfl | rfl | rfl | rfl <;> cases ho
    · exact t_load (show aZ.eval (.tmp 2) = .pointer (some ⟨w.heap.size, 0, none⟩) from (hF.out 2 (by decide)).trans rfl) hM.ks.1.2 Try.underlying61 info_api_Wide hF hS rfl rfl rfl rfl rfl (by decide) (Jm hM hG hO hN)
    · exact t_load (show aZ.eval (.tmp 3) = .pointer (some ⟨w.heap.size + 1, 0, none⟩) from (hF.out 3 (by decide)).trans rfl) hM.ks.2.1.2 Try.underlying25 info_api_Nat hF hS rfl rfl rfl rfl rfl (by decide) (Jm hM hG hO hN)
    · exact t_call (vs := [WV n, .agg #[.int .u64 (0), .int .u64 (0), .int .u64 (0), .int .u64 (0)]]) (by show [aZ.eval (.tmp 10), aZ.eval (.tmp 11)] = _; rw [(ve 10 hV (hG.1 (dd 0 hdep))), (ve 11 hV (hG.2.1 (dd 1 hdep)))]) ent_seneschalref01_Divide (nrDivide0 n uZ) hF hS rfl rfl rfl rfl (by decide) (fun _ hB => (Jm (hM.call hB) hG hO hN))
    · exact t_move (ve 12 hV (hG.2.2.1 (dd 2 hdep))) hF hS rfl rfl rfl rfl (by decide) (Jm hM hG hO hN)
    · exact t_extract (ve 9 hV (hG.2.2.2.1 (dd 3 hdep))) hF hS rfl rfl rfl rfl rfl (by decide) (Jm hM hG hO hN)
    · exact t_extract (ve 9 hV (hG.2.2.2.1 (dd 3 hdep))) hF hS rfl rfl rfl rfl rfl (by decide) (Jm hM hG hO hN)
    · exact t_extract (ve 9 hV (hG.2.2.2.1 (dd 3 hdep))) hF hS rfl rfl rfl rfl rfl (by decide) (Jm hM hG hO hN)
    · have q1 : fZ 9 = false := Os.not (hO.1) hfi
      exact t_alloc (al_api_Wide uZ) hF hS rfl rfl rfl rfl (by decide) ⟨MR.newF 0 hM rfl hfi q1, Gs.other rfl hG, hO.keep rfl, Ns.step hN rfl⟩
    · have q1 : fZ 10 = false := Os.not (hO.2.1) hfi
      exact t_alloc (al_api_Nat uZ) hF hS rfl rfl rfl rfl (by decide) ⟨MR.newF 1 hM rfl hfi q1, Gs.other rfl hG, hO.keep rfl, Ns.step hN rfl⟩
    · exact t_storeN 0 hM rfl (dd 7 hdep) hfi (hV 6 (by decide)) (ve 13 hV (hG.2.2.2.2.1 (dd 4 hdep))) rfl info_api_Wide rfl hF rfl rfl rfl rfl (fun _ h => ⟨h, Gs.idle rfl hG, ⟨fun _ => (dd 7 hdep :), hO.2.1, trivial⟩, Ns.idle hN⟩)
    · exact t_storeN 1 hM rfl (dd 8 hdep) hfi (hV 7 (by decide)) (ve 14 hV (hG.2.2.2.2.2.1 (dd 5 hdep))) rfl info_api_Nat rfl hF rfl rfl rfl rfl (fun _ h => ⟨h, Gs.idle rfl hG, ⟨hO.1, fun _ => (dd 8 hdep :), trivial⟩, Ns.idle hN⟩)
    · exact t_assign (ve 15 hV (hG.2.2.2.2.2.2.1 (dd 6 hdep))) hF hS rfl rfl rfl rfl (by decide) (Jm hM hG hO hN)
  rintro fZ tZ u1 ⟨hM, hG, hO, hN⟩ hall
  obtain ⟨e10, e11, e12, e9, e13, e14, e15, e8, -⟩ := Gs.all 12 hall hG rfl
  obtain ⟨b1_7, ee6, pb1_7, lb1_7, kb1_7⟩ := hM.nw.1 (hall 7 (by decide))
  have e6 : tZ 6 = .pointer (some ⟨b1_7, 0, none⟩) := ee6
  clear ee6
  have Kb1_7 : CV u1 b1_7 ([.int .u64 (0), .int .u64 (0), .int .u64 (0), .int .u64 (0), .int .u64 (0), .int .u64 (0), .int .u64 (0), .int .u64 (0)]) := by
    have h1 : CV u1 b1_7 (bif fZ 9 then [.int .u64 (0), .int .u64 (0), .int .u64 (0), .int .u64 (0), .int .u64 (0), .int .u64 (0), .int .u64 (0), .int .u64 (0)] else L0w) := kb1_7
    rw [hall 9 (by decide)] at h1; exact h1
  clear kb1_7
  obtain ⟨b1_8, ee7, pb1_8, lb1_8, kb1_8⟩ := hM.nw.2.1 (hall 8 (by decide))
  have e7 : tZ 7 = .pointer (some ⟨b1_8, 0, none⟩) := ee7
  clear ee7
  have Kb1_8 : CV u1 b1_8 ([.int .u64 (0), .int .u64 (0), .int .u64 (0), .int .u64 (0)]) := by
    have h1 : CV u1 b1_8 (bif fZ 10 then [.int .u64 (0), .int .u64 (0), .int .u64 (0), .int .u64 (0)] else L0s) := kb1_8
    rw [hall 10 (by decide)] at h1; exact h1
  clear kb1_8
  have nb1_7_b1_8 : b1_7 ≠ b1_8 := fun e => (hM.nd.1 (hall 7 (by decide))).1 (hall 8 (by decide)) (by show tZ 7 = tZ 6; rw [e7, e6, e])
  have HB1 : Below w.heap.size w u1 := hM.bel
  have sz1 : v0.heap.size ≤ u1.heap.size := hM.sz
  obtain ⟨-, -, ⟨l1r4, K1r4⟩, -⟩ := hM.ks.up hM.sz
  dsimp only at l1r4 K1r4
  simp only [ovr, List.set_cons_zero, List.set_cons_succ, e10, e11, e12, e9, e13, e14, e15, e8, e6, e7]
  clear hM hG hO hN hall e10 e11 e12 e9 e13 e14 e15 e8 e6 e7 K0p0 K0p1 K0r4 HB0
  clear tZ
  go_upto_region 3 with fail
  refine region_plain [18, 5] (fun fZ tZ uZ => MR w.heap.size w (u1.heap.size) [] [(w.heap.size + 1 + 1, fZ 1, L0s, [.int .u64 (0), .int .u64 (0), .int .u64 (0), .int .u64 (0)])] [] uZ ∧ Gs fZ tZ [(0, 18, A4 (0) (0) (0) (0)), (2, 5, (Go.Value.int Go.IntKind.i64 20))] ∧ Os fZ [] ∧ Ns fZ tZ []) (by kernel_rfl) ?_ ?_ ?_
  · exact ⟨{ bel := HB1, lo := HB1.size, sz := Nat.le_refl _, ks := trivial, ex := ⟨⟨(by omega), l1r4, rfl, K1r4⟩, trivial⟩, nw := trivial, nd := trivial }, Gs.none _ _, Os.none _, trivial⟩
  · rintro fZ tZ uZ iZ oZ aZ hF ⟨hM, hG, hO, hN⟩ ho hfi hdep
    obtain ⟨hS, hV⟩ := hF.two 20 (by decide) rfl (by decide)
    rcases cZ3 ho with rfl | rfl | rfl <;> cases ho
    · refine op_plain rfl rfl (fun K hK => ?_)
      refine wp_val (v := A4 (0) (0) (0) (0)) (w' := uZ) (by kernel_rfl) ?_
      exact tell hK hF hS (by decide) (Jt hM hG hN)
    · refine op_plain rfl rfl (fun K hK => ?_)
      have kk : CV uZ (w.heap.size + 1 + 1) (bif fZ 1 then [.int .u64 (0), .int .u64 (0), .int .u64 (0), .int .u64 (0)] else L0s) := hM.ex.1.2.2.2
      rw [hfi] at kk
      have kk : CV uZ (w.heap.size + 1 + 1) (L0s) := kk
      refine wp_store_mid 25 _ _ rfl (w.heap.size + 1 + 1) 0 ([.int .u64 (0), .int .u64 (0), .int .u64 (0), .int .u64 (0)] : List Value).toArray (show aZ.eval (.tmp 4) = .pointer (some ⟨w.heap.size + 1 + 1, 0, none⟩) from (hF.out 4 (by decide)).trans rfl) (ve 18 hV (hG.1 (dd 0 hdep))) kk.there info_api_Nat (all_one rfl) ?_
      exact tell0 hK hF ⟨MR.putXF 0 hM rfl trivial trivial, Gs.idle rfl hG, trivial, Ns.idle hN⟩
    · exact t_assign rfl hF hS rfl rfl rfl rfl (by decide) (Jt hM hG hN)
  rintro fZ tZ u2 ⟨hM, hG, hO, hN⟩ hall
  obtain ⟨e18, e5, -⟩ := Gs.all 3 hall hG rfl
  have HB2 : Below w.heap.size w u2 := hM.bel
  have sz2 : u1.heap.size ≤ u2.heap.size := hM.sz
  have K2r4 : CV u2 (w.heap.size + 1 + 1) ([.int .u64 (0), .int .u64 (0), .int .u64 (0), .int .u64 (0)]) := by
    have h1 : CV u2 (w.heap.size + 1 + 1) (bif fZ 1 then [.int .u64 (0), .int .u64 (0), .int .u64 (0), .int .u64 (0)] else L0s) := hM.ex.1.2.2.2
    rw [hall 1 (by decide)] at h1; exact h1
  have l2r4 : w.heap.size + 1 + 1 < u2.heap.size := Nat.lt_of_lt_of_le hM.ex.1.2.1 hM.sz
  simp only [ovr, List.set_cons_zero, List.set_cons_succ, e18, e5]
  clear hM hG hO hN hall e18 e5 K1r4 HB1
  clear tZ
  have c4_0 := (K2r4 0 _ rfl).1
  have c4_1 := (K2r4 1 _ rfl).1
  have c4_2 := (K2r4 2 _ rfl).1
  have c4_3 := (K2r4 3 _ rfl).1
  go_wp2
  refine bodyPost_ret (v := .tuple #[A4 0 0 0 0, .int .i64 20]) (by simp [results, Try.results60, go_sem, c4_0, c4_1, c4_2, c4_3]) rfl ⟨rfl, HB2⟩
end Go.Proofs.Ytkpnjmfndgfogaa
