/- Numbers modulo one: raise, lowProduct. -/
import Derived.Test.YtkpnjmfndgfogaaNN
import Derived.Test.YtkpnjmfndgfogaaRS
import Derived.Test.YtkpnjmfndgfogaaMA3
namespace Go.Proofs.Ytkpnjmfndgfogaa
open Go.RowKit
set_option linter.unusedVariables false
set_option linter.unusedSimpArgs false
set_option maxRecDepth 100000 in
set_option maxHeartbeats 8000000 in
theorem mlowProduct (a b : Int) (w : World) (ha : In a) (hb : In b) :
    Calls Try.prog 89 #[NV a, NV b] w fun e w' => e = .returned (NV (a * b % 115792089237316195423570985008687907853269984665640564039457584007913129639936)) ∧ Below w.heap.size w w' := by
  go_enter Try.func89, Try.ntmps89
  go_upto_region 1 with fail
  generalize hC : (((w.alloc (.cells (LN a : List Value).toArray 25)).alloc (.cells (LN b : List Value).toArray 25)).alloc (.cells (L0s : List Value).toArray 25)) = v0 at *
  have HB0 : Below w.heap.size w v0 := by rw [← hC]; exact (balloc (balloc (balloc (bself w) _) _) _)
  have K0p0 : CV v0 (w.heap.size) (LN a) := by rw [← hC]; exact (((CV.new w (LN a) 25).alloc (by simp <;> omega) _).alloc (by simp <;> omega) _)
  have l0p0 : w.heap.size < v0.heap.size := by rw [← hC]; simp <;> omega
  have K0p1 : CV v0 (w.heap.size + 1) (LN b) := by rw [← hC]; exact ((CV.newAt (w.alloc (.cells (LN a : List Value).toArray 25)) (LN b) 25 _ (by simp)).alloc (by simp <;> omega) _)
  have l0p1 : w.heap.size + 1 < v0.heap.size := by rw [← hC]; simp <;> omega
  have K0r4 : CV v0 (w.heap.size + 1 + 1) (L0s) := by rw [← hC]; exact (CV.newAt ((w.alloc (.cells (LN a : List Value).toArray 25)).alloc (.cells (LN b : List Value).toArray 25)) (L0s) 25 _ (by simp))
  have l0r4 : w.heap.size + 1 + 1 < v0.heap.size := by rw [← hC]; simp <;> omega
  clear hC
  refine region_plain [5, 6, 7, 8] (fun fZ tZ uZ => MR w.heap.size w (v0.heap.size) [(w.heap.size, LN a), (w.heap.size + 1, LN b)] [(w.heap.size + 1 + 1, fZ 4, L0s, LN (a * b % 115792089237316195423570985008687907853269984665640564039457584007913129639936))] [] uZ ∧ Gs fZ tZ [(0, 5, NV a), (1, 6, NV b), (2, 7, WV (a * b)), (3, 8, NV (a * b % 115792089237316195423570985008687907853269984665640564039457584007913129639936))] ∧ Os fZ [] ∧ Ns fZ tZ []) (by kernel_rfl) ?_ ?_ ?_
  · exact ⟨{ bel := HB0, lo := HB0.size, sz := Nat.le_refl _, ks := ⟨⟨l0p0, K0p0⟩, ⟨l0p1, K0p1⟩, trivial⟩, ex := ⟨⟨(by omega), l0r4, rfl, K0r4⟩, trivial⟩, nw := trivial, nd := trivial }, Gs.none _ _, Os.none _, trivial⟩
  · rintro fZ tZ uZ iZ oZ aZ hF ⟨hM, hG, hO, hN⟩ ho hfi hdep
    obtain ⟨hS, hV⟩ := hF.two 9 (by decide) rfl (by decide)
    rcases cZ5 ho with rfl | rfl | rfl | rfl | rfl <;> cases ho
    · exact t_load (show aZ.eval (.tmp 2) = .pointer (some ⟨w.heap.size, 0, none⟩) from (hF.out 2 (by decide)).trans rfl) hM.ks.1.2 Try.underlying25 info_api_Nat hF hS rfl rfl rfl rfl rfl (by decide) (Jt hM hG hN)
    · exact t_load (show aZ.eval (.tmp 3) = .pointer (some ⟨w.heap.size + 1, 0, none⟩) from (hF.out 3 (by decide)).trans rfl) hM.ks.2.1.2 Try.underlying25 info_api_Nat hF hS rfl rfl rfl rfl rfl (by decide) (Jt hM hG hN)
    · exact t_call (vs := [NV a, NV b]) (by show [aZ.eval (.tmp 5), aZ.eval (.tmp 6)] = _; rw [(ve 5 hV (hG.1 (dd 0 hdep))), (ve 6 hV (hG.2.1 (dd 1 hdep)))]) ent_limb_Mul (nMul a b uZ ha hb) hF hS rfl rfl rfl rfl (by decide) (fun _ hB => (Jt (hM.call hB) hG hN))
    · exact t_call (vs := [WV (a * b)]) (by show [aZ.eval (.tmp 7)] = _; rw [(ve 7 hV (hG.2.2.1 (dd 2 hdep)))]) ent_mod_low (mlow (a * b) uZ) hF hS rfl rfl rfl rfl (by decide) (fun _ hB => (Jt (hM.call hB) hG hN))
    · refine op_plain rfl rfl (fun K hK => ?_)
      have kk : CV uZ (w.heap.size + 1 + 1) (bif fZ 4 then LN (a * b % 115792089237316195423570985008687907853269984665640564039457584007913129639936) else L0s) := hM.ex.1.2.2.2
      rw [hfi] at kk
      have kk : CV uZ (w.heap.size + 1 + 1) (L0s) := kk
      refine wp_store_mid 25 _ _ rfl (w.heap.size + 1 + 1) 0 (LN (a * b % 115792089237316195423570985008687907853269984665640564039457584007913129639936) : List Value).toArray (show aZ.eval (.tmp 4) = .pointer (some ⟨w.heap.size + 1 + 1, 0, none⟩) from (hF.out 4 (by decide)).trans rfl) (ve 8 hV (hG.2.2.2.1 (dd 3 hdep))) kk.there info_api_Nat (all_one rfl) ?_
      exact tell0 hK hF ⟨MR.putXF 0 hM rfl ⟨by omega, by omega, trivial⟩ trivial, Gs.idle rfl hG, trivial, Ns.idle hN⟩
  rintro fZ tZ u1 ⟨hM, hG, hO, hN⟩ hall
  obtain ⟨e5, e6, e7, e8, -⟩ := Gs.all 5 hall hG rfl
  have HB1 : Below w.heap.size w u1 := hM.bel
  have sz1 : v0.heap.size ≤ u1.heap.size := hM.sz
  have K1r4 : CV u1 (w.heap.size + 1 + 1) (LN (a * b % 115792089237316195423570985008687907853269984665640564039457584007913129639936)) := by
    have h1 : CV u1 (w.heap.size + 1 + 1) (bif fZ 4 then LN (a * b % 115792089237316195423570985008687907853269984665640564039457584007913129639936) else L0s) := hM.ex.1.2.2.2
    rw [hall 4 (by decide)] at h1; exact h1
  have l1r4 : w.heap.size + 1 + 1 < u1.heap.size := Nat.lt_of_lt_of_le hM.ex.1.2.1 hM.sz
  simp only [ovr, List.set_cons_zero, List.set_cons_succ, e5, e6, e7, e8]
  clear hM hG hO hN hall e5 e6 e7 e8 K0p0 K0p1 K0r4 HB0
  clear tZ
  have c4_0 := (K1r4 0 _ rfl).1
  have c4_1 := (K1r4 1 _ rfl).1
  have c4_2 := (K1r4 2 _ rfl).1
  have c4_3 := (K1r4 3 _ rfl).1
  go_wp2
  refine bodyPost_ret (v := NV (a * b % 115792089237316195423570985008687907853269984665640564039457584007913129639936)) (by simp [results, Try.results89, go_sem, c4_0, c4_1, c4_2, c4_3]) rfl ⟨rfl, HB1⟩
set_option maxRecDepth 100000 in
set_option maxHeartbeats 8000000 in
theorem mraise (N : FuncId) (first : List Value) (P : Nat → Int) (e : Int) (bo : Nat) (l0 : List Value) (w : World) (hEnt : ∀ (vs : Array Value) (w : World), (callFunc N vs).run Try.prog w = .ok (.enter N vs) w)
    (hT : Hid (∀ (i j : Nat) (u : World), CV u bo l0 → bo < u.heap.size → Calls Try.prog N (first ++ [NV (P i), NV (P j)]).toArray u fun en u' => en = .returned (NV (P (i + j))) ∧ Below u.heap.size u u')) (he : In e) (Kb : CV w bo l0) (lb : bo < w.heap.size) :
    Calls Try.prog 88 #[NV (P 1), NV e, NV (P 0), .func (.func N) first.toArray #[]] w fun en w' => en = .returned (NV (P e.toNat)) ∧ Below w.heap.size w w' := by
  have hb := lenI_bd e
  obtain ⟨L, hLe⟩ : ∃ L : Nat, lenI e = (L : Int) := ⟨(lenI e).toNat, by omega⟩
  have hL : Hid (∀ u, Calls Try.prog 55 #[NV e] u fun en u' => en = .returned (.int .i64 (L : Int)) ∧ Below u.heap.size u u') := fun u => by rw [← hLe]; exact nLen e u
  have hlt := lenI_lt he
  rw [hLe] at hlt hb
  have h0 : Hid ((e / 2 ^ (L - 0)).toNat = 0) := by
    show (e / 2 ^ (L - 0)).toNat = 0
    rw [Nat.sub_zero, Int.ediv_eq_zero_of_lt he.1 (by simpa using hlt)]; rfl
  have hL256 : L ≤ 256 := by omega
  clear hLe hlt hb
  go_enter Try.func88, Try.ntmps88
  go_upto_region 1 with fail
  generalize hC : ((((w.alloc (.cells (LN (P 1) : List Value).toArray 25)).alloc (.cells (LN e : List Value).toArray 25)).alloc (.cells (LN (P 0) : List Value).toArray 25)).alloc (.cells (L0s : List Value).toArray 25)) = v0 at *
  have HB0 : Below w.heap.size w v0 := by rw [← hC]; exact (balloc (balloc (balloc (balloc (bself w) _) _) _) _)
  have K0p0 : CV v0 (w.heap.size) (LN (P 1)) := by rw [← hC]; exact ((((CV.new w (LN (P 1)) 25).alloc (by simp <;> omega) _).alloc (by simp <;> omega) _).alloc (by simp <;> omega) _)
  have l0p0 : w.heap.size < v0.heap.size := by rw [← hC]; simp <;> omega
  have K0p1 : CV v0 (w.heap.size + 1) (LN e) := by rw [← hC]; exact (((CV.newAt (w.alloc (.cells (LN (P 1) : List Value).toArray 25)) (LN e) 25 _ (by simp)).alloc (by simp <;> omega) _).alloc (by simp <;> omega) _)
  have l0p1 : w.heap.size + 1 < v0.heap.size := by rw [← hC]; simp <;> omega
  have K0p2 : CV v0 (w.heap.size + 1 + 1) (LN (P 0)) := by rw [← hC]; exact ((CV.newAt ((w.alloc (.cells (LN (P 1) : List Value).toArray 25)).alloc (.cells (LN e : List Value).toArray 25)) (LN (P 0)) 25 _ (by simp)).alloc (by simp <;> omega) _)
  have l0p2 : w.heap.size + 1 + 1 < v0.heap.size := by rw [← hC]; simp <;> omega
  have K0r8 : CV v0 (w.heap.size + 1 + 1 + 1) (L0s) := by rw [← hC]; exact (CV.newAt (((w.alloc (.cells (LN (P 1) : List Value).toArray 25)).alloc (.cells (LN e : List Value).toArray 25)).alloc (.cells (LN (P 0) : List Value).toArray 25)) (L0s) 25 _ (by simp))
  have l0r8 : w.heap.size + 1 + 1 + 1 < v0.heap.size := by rw [← hC]; simp <;> omega
  clear hC
  have Ko0 : CV v0 bo l0 := Kb.below HB0 lb
  have lo0 : bo < v0.heap.size := Nat.lt_of_lt_of_le lb HB0.size
  clear Kb
  refine region_drawn [12, 13, 14, 9, 10] (fun fZ tZ uZ => MR w.heap.size w (v0.heap.size) [(w.heap.size, LN (P 1)), (w.heap.size + 1, LN e), (w.heap.size + 1 + 1, LN (P 0)), (w.heap.size + 1 + 1 + 1, L0s), (bo, l0)] [] [(fZ 3, fZ 4, tZ 9, L0s, LN (P 0))] uZ ∧ Gs fZ tZ [(0, 12, NV (P 0)), (1, 13, NV e), (2, 14, .int .i64 (L : Int)), (5, 10, .int .i64 (L : Int))] ∧ Os fZ [(4, 3)] ∧ Ns fZ tZ []) (by kernel_rfl) (by kernel_rfl) ?_ ?_ ?_
  · exact ⟨{ bel := HB0.drew, lo := HB0.size, sz := Nat.le_refl _, ks := ⟨⟨l0p0, K0p0⟩, ⟨l0p1, K0p1⟩, ⟨l0p2, K0p2⟩, ⟨l0r8, K0r8⟩, ⟨lo0, Ko0⟩, trivial⟩, ex := trivial, nw := ⟨fun e => (by cases e), trivial⟩, nd := ⟨fun e => (by cases e), trivial⟩ }, Gs.none _ _, Os.none _, trivial⟩
  · rintro fZ tZ uZ iZ oZ aZ hF ⟨hM, hG, hO, hN⟩ ho hfi hdep
    obtain ⟨hS, hV⟩ := hF.two 35 (by decide) rfl (by decide)
    rcases cZ6 ho with rfl | rfl | rfl | rfl | rfl | rfl <;> cases ho
    · exact t_load (show aZ.eval (.tmp 6) = .pointer (some ⟨w.heap.size + 1 + 1, 0, none⟩) from (hF.out 6 (by decide)).trans rfl) hM.ks.2.2.1.2 Try.underlying25 info_api_Nat hF hS rfl rfl rfl rfl rfl (by decide) (Jm hM hG hO hN)
    · exact t_load (show aZ.eval (.tmp 5) = .pointer (some ⟨w.heap.size + 1, 0, none⟩) from (hF.out 5 (by decide)).trans rfl) hM.ks.2.1.2 Try.underlying25 info_api_Nat hF hS rfl rfl rfl rfl rfl (by decide) (Jm hM hG hO hN)
    · exact t_call (vs := [NV e]) (by show [aZ.eval (.tmp 13)] = _; rw [(ve 13 hV (hG.2.1 (dd 1 hdep)))]) ent_limb_Length (hL.out uZ) hF hS rfl rfl rfl rfl (by decide) (fun _ hB => (Jm (hM.call hB) hG hO hN))
    · have q1 : fZ 4 = false := Os.not (hO.1) hfi
      exact t_alloc (al_api_Nat uZ) hF hS rfl rfl rfl rfl (by decide) ⟨MR.newF 0 hM rfl hfi q1, Gs.other rfl hG, hO.keep rfl, Ns.step hN rfl⟩
    · exact t_storeN 0 hM rfl (dd 3 hdep) hfi (hV 9 (by decide)) (ve 12 hV (hG.1 (dd 0 hdep))) rfl info_api_Nat rfl hF rfl rfl rfl rfl (fun _ h => ⟨h, Gs.idle rfl hG, ⟨fun _ => (dd 3 hdep :), trivial⟩, Ns.idle hN⟩)
    · exact t_assign (ve 14 hV (hG.2.2.1 (dd 2 hdep))) hF hS rfl rfl rfl rfl (by decide) (Jm hM hG hO hN)
  rintro fZ tZ u1 ⟨hM, hG, hO, hN⟩ hall
  obtain ⟨e12, e13, e14, e10, -⟩ := Gs.all 6 hall hG rfl
  obtain ⟨b1_3, ee9, pb1_3, lb1_3, kb1_3⟩ := hM.nw.1 (hall 3 (by decide))
  have e9 : tZ 9 = .pointer (some ⟨b1_3, 0, none⟩) := ee9
  clear ee9
  have Kb1_3 : CV u1 b1_3 (LN (P 0)) := by
    have h1 : CV u1 b1_3 (bif fZ 4 then LN (P 0) else L0s) := kb1_3
    rw [hall 4 (by decide)] at h1; exact h1
  clear kb1_3
  have HB1 : Below w.heap.size w u1 := hM.bel
  have sz1 : v0.heap.size ≤ u1.heap.size := hM.sz
  obtain ⟨⟨l1p0, K1p0⟩, ⟨l1p1, K1p1⟩, ⟨l1p2, K1p2⟩, ⟨l1r8, K1r8⟩, ⟨l1o, K1o⟩, -⟩ := hM.ks.up hM.sz
  dsimp only at l1p0 K1p0 l1p1 K1p1 l1p2 K1p2 l1r8 K1r8 l1o K1o
  simp only [ovr, List.set_cons_zero, List.set_cons_succ, e12, e13, e14, e10, e9]
  clear hM hG hO hN hall e12 e13 e14 e10 e9 K0p0 K0p1 K0p2 K0r8 Ko0 HB0
  clear tZ
  go_wp2_with fail
  go_loopw [16] (fun s16 wr => ∃ (j : Nat), j ≤ L ∧ s16 = .int .i64 j ∧ Below w.heap.size w wr ∧ CV wr (w.heap.size) (LN (P 1)) ∧ CV wr (w.heap.size + 1) (LN e) ∧ CV wr (w.heap.size + 1 + 1 + 1) L0s ∧ CV wr bo l0 ∧ CV wr b1_3 (LN (P (e / 2 ^ (L - j)).toNat)) ∧ b1_3 < wr.heap.size) (fun s16 _ => L - (intOf s16).toNat)
  case atStart => exact ⟨0, by omega, rfl, HB1, K1p0, K1p1, K1r8, K1o, by rw [h0.out]; exact Kb1_3, lb1_3⟩
  case round =>
    obtain ⟨j, hj, rfl, HBr, Ka, Ke, Kr, Ko, Kp, lp⟩ := hrel
    clear HB1 K1p0 K1p1 K1p2 K1r8 K1o Kb1_3
    by_cases hjl : j < L
    · have hjl' : (j : Int) < (L : Int) := by omega
      obtain ⟨k, hk1, hk2⟩ : ∃ k : Nat, k + j + 1 ≤ L ∧ L ≤ k + j + 1 := ⟨L - 1 - j, by omega, by omega⟩
      obtain ⟨n, hn⟩ : ∃ n : Nat, (e / 2 ^ (L - j)).toNat = n := ⟨_, rfl⟩
      have hts := top_step e he.1 k
      rw [show L - j = k + 1 by omega] at hn
      have hnn : 0 ≤ e / 2 ^ (k + 1) := Int.ediv_nonneg he.1 (Int.le_of_lt (Int.pow_pos (by decide)))
      have Kp : CV wr b1_3 (LN (P n)) := by rw [← hn, ← show L - j = k + 1 by omega]; exact Kp
      have hnx : Hid ((e / 2 ^ (L - (j + 1))).toNat = n + n + (if bitI e k then 1 else 0)) := by
        show (e / 2 ^ (L - (j + 1))).toNat = _
        rw [show L - (j + 1) = k by omega, hts]
        split <;> omega
      clear hts hn hnn
      go_upto_region 4 with fail
      refine region_plain [18, 11] (fun fZ tZ uZ => MR w.heap.size w (wr.heap.size) [(w.heap.size, LN (P 1)), (w.heap.size + 1, LN e), (w.heap.size + 1 + 1 + 1, L0s), (bo, l0), (b1_3, LN (P n))] [] [] uZ ∧ Gs fZ tZ [(0, 18, .int .i64 j), (1, 11, .int .i64 j)] ∧ Os fZ [] ∧ Ns fZ tZ []) (by kernel_rfl) ?_ ?_ ?_
      · exact ⟨{ bel := HBr, lo := HBr.size, sz := Nat.le_refl _, ks := ⟨⟨(by omega), Ka⟩, ⟨(by omega), Ke⟩, ⟨(by omega), Kr⟩, ⟨(by omega), Ko⟩, ⟨lp, Kp⟩, trivial⟩, ex := trivial, nw := trivial, nd := trivial }, Gs.none _ _, Os.none _, trivial⟩
      · rintro fZ tZ uZ iZ oZ aZ hF ⟨hM, hG, hO, hN⟩ ho hfi hdep
        obtain ⟨hS, hV⟩ := hF.two 35 (by decide) rfl (by decide)
        rcases cZ2 ho with rfl | rfl <;> cases ho
        · exact t_move (show aZ.eval (.tmp 16) = .int .i64 j from (hF.out 16 (by decide)).trans rfl) hF hS rfl rfl rfl rfl (by decide) (Jt hM hG hN)
        · exact t_assign (ve 18 hV (hG.1 (dd 0 hdep))) hF hS rfl rfl rfl rfl (by decide) (Jt hM hG hN)
      rintro fZ tZ u2 ⟨hM, hG, hO, hN⟩ hall
      obtain ⟨e18, e11, -⟩ := Gs.all 2 hall hG rfl
      have HB2 : Below w.heap.size w u2 := hM.bel
      have sz2 : wr.heap.size ≤ u2.heap.size := hM.sz
      obtain ⟨⟨l2p0, K2p0⟩, ⟨l2p1, K2p1⟩, ⟨l2r8, K2r8⟩, ⟨l2o, K2o⟩, ⟨l2n1_3, K2n1_3⟩, -⟩ := hM.ks.up hM.sz
      dsimp only at l2p0 K2p0 l2p1 K2p1 l2r8 K2r8 l2o K2o l2n1_3 K2n1_3
      simp only [ovr, List.set_cons_zero, List.set_cons_succ, e18, e11]
      clear hM hG hO hN hall e18 e11 Ka Ke Ko Kp Kr
      clear tZ
      go_upto_region 5 with fail
      refine region_plain [19, 20, 21, 22] (fun fZ tZ uZ => MR w.heap.size w (u2.heap.size) [(w.heap.size, LN (P 1)), (w.heap.size + 1, LN e), (w.heap.size + 1 + 1 + 1, L0s), (bo, l0)] [(b1_3, fZ 4, LN (P n), LN (P (n + n)))] [] uZ ∧ Gs fZ tZ [(0, 19, .func (.func N) first.toArray #[]), (1, 20, NV (P n)), (2, 21, NV (P n)), (3, 22, NV (P (n + n)))] ∧ Os fZ [(4, 1), (4, 2)] ∧ Ns fZ tZ []) (by kernel_rfl) ?_ ?_ ?_
      · exact ⟨{ bel := HB2, lo := HB2.size, sz := Nat.le_refl _, ks := ⟨⟨l2p0, K2p0⟩, ⟨l2p1, K2p1⟩, ⟨l2r8, K2r8⟩, ⟨l2o, K2o⟩, trivial⟩, ex := ⟨⟨(by omega), l2n1_3, rfl, K2n1_3⟩, trivial⟩, nw := trivial, nd := trivial }, Gs.none _ _, Os.none _, trivial⟩
      · rintro fZ tZ uZ iZ oZ aZ hF ⟨hM, hG, hO, hN⟩ ho hfi hdep
        obtain ⟨hS, hV⟩ := hF.two 35 (by decide) rfl (by decide)
        rcases cZ5 ho with rfl | rfl | rfl | rfl | rfl <;> cases ho
        · exact t_move (show aZ.eval (.tmp 3) = .func (.func N) first.toArray #[] from (hF.out 3 (by decide)).trans rfl) hF hS rfl rfl rfl rfl (by decide) (Jm hM hG hO hN)
        · refine op_plain rfl rfl (fun K hK => ?_)
          have ys : fZ 4 = false := Os.not (hO.1) hfi
          have kk : CV uZ (b1_3) (bif fZ 4 then LN (P (n + n)) else LN (P n)) := hM.ex.1.2.2.2
          rw [ys] at kk
          have kk : CV uZ (b1_3) (LN (P n)) := kk
          refine wp_load_mid 25 _ rfl (b1_3) 0 (show aZ.eval (.tmp 9) = .pointer (some ⟨b1_3, 0, none⟩) from (hF.out 9 (by decide)).trans rfl) (LN (P n)) _ kk.range Try.underlying25 rfl info_api_Nat ?_
          exact tell hK hF hS (by decide) (Jm hM hG hO hN)
        · refine op_plain rfl rfl (fun K hK => ?_)
          have ys : fZ 4 = false := Os.not (hO.2.1) hfi
          have kk : CV uZ (b1_3) (bif fZ 4 then LN (P (n + n)) else LN (P n)) := hM.ex.1.2.2.2
          rw [ys] at kk
          have kk : CV uZ (b1_3) (LN (P n)) := kk
          refine wp_load_mid 25 _ rfl (b1_3) 0 (show aZ.eval (.tmp 9) = .pointer (some ⟨b1_3, 0, none⟩) from (hF.out 9 (by decide)).trans rfl) (LN (P n)) _ kk.range Try.underlying25 rfl info_api_Nat ?_
          exact tell hK hF hS (by decide) (Jm hM hG hO hN)
        · refine op_plain rfl rfl (fun K hK => ?_)
          have kkp0 : CV uZ (w.heap.size) (LN (P 1)) := hM.ks.1.2
          have lbp0 : w.heap.size < uZ.heap.size := Nat.lt_of_lt_of_le hM.ks.1.1 hM.sz
          have kkp1 : CV uZ (w.heap.size + 1) (LN e) := hM.ks.2.1.2
          have lbp1 : w.heap.size + 1 < uZ.heap.size := Nat.lt_of_lt_of_le hM.ks.2.1.1 hM.sz
          have kkr8 : CV uZ (w.heap.size + 1 + 1 + 1) (L0s) := hM.ks.2.2.1.2
          have lbr8 : w.heap.size + 1 + 1 + 1 < uZ.heap.size := Nat.lt_of_lt_of_le hM.ks.2.2.1.1 hM.sz
          have kko : CV uZ (bo) (l0) := hM.ks.2.2.2.1.2
          have lbo : bo < uZ.heap.size := Nat.lt_of_lt_of_le hM.ks.2.2.2.1.1 hM.sz
          refine wp_callV rfl (first := first) (ve 19 hV (hG.1 (dd 0 hdep))) (vs := [NV (P n), NV (P n)]) (by show [aZ.eval (.tmp 20), aZ.eval (.tmp 21)] = _; rw [(ve 20 hV (hG.2.1 (dd 1 hdep))), (ve 21 hV (hG.2.2.1 (dd 2 hdep)))]) hEnt (hT.out n n uZ kko lbo) (fun vZ hB => ?_)
          exact tell hK hF hS (by decide) (Jm (hM.call hB) hG hO hN)
        · refine op_plain rfl rfl (fun K hK => ?_)
          have kk : CV uZ (b1_3) (bif fZ 4 then LN (P (n + n)) else LN (P n)) := hM.ex.1.2.2.2
          rw [hfi] at kk
          have kk : CV uZ (b1_3) (LN (P n)) := kk
          refine wp_store_mid 25 _ _ rfl (b1_3) 0 (LN (P (n + n)) : List Value).toArray (show aZ.eval (.tmp 9) = .pointer (some ⟨b1_3, 0, none⟩) from (hF.out 9 (by decide)).trans rfl) (ve 22 hV (hG.2.2.2.1 (dd 3 hdep))) kk.there info_api_Nat (all_one rfl) ?_
          exact tell0 hK hF ⟨MR.putXF 0 hM rfl ⟨by omega, by omega, by omega, by omega, trivial⟩ trivial, Gs.idle rfl hG, ⟨fun _ => hdep ⟨1, .phase⟩ (by simp) rfl, fun _ => hdep ⟨2, .phase⟩ (by simp) rfl, trivial⟩, Ns.idle hN⟩
      rintro fZ tZ u3 ⟨hM, hG, hO, hN⟩ hall
      obtain ⟨e19, e20, e21, e22, -⟩ := Gs.all 5 hall hG rfl
      have HB3 : Below w.heap.size w u3 := hM.bel
      have sz3 : u2.heap.size ≤ u3.heap.size := hM.sz
      obtain ⟨⟨l3p0, K3p0⟩, ⟨l3p1, K3p1⟩, ⟨l3r8, K3r8⟩, ⟨l3o, K3o⟩, -⟩ := hM.ks.up hM.sz
      dsimp only at l3p0 K3p0 l3p1 K3p1 l3r8 K3r8 l3o K3o
      have K3n1_3 : CV u3 (b1_3) (LN (P (n + n))) := by
        have h1 : CV u3 (b1_3) (bif fZ 4 then LN (P (n + n)) else LN (P n)) := hM.ex.1.2.2.2
        rw [hall 4 (by decide)] at h1; exact h1
      have l3n1_3 : b1_3 < u3.heap.size := Nat.lt_of_lt_of_le hM.ex.1.2.1 hM.sz
      simp only [ovr, List.set_cons_zero, List.set_cons_succ, e19, e20, e21, e22]
      clear hM hG hO hN hall e19 e20 e21 e22 K2n1_3 K2o K2p0 K2p1 K2r8 HB2
      clear tZ
      cases hbit : bitI e k
      · have Hb : Hid (bitI e k = false) := hbit
        clear hbit
        go_upto_region 6 with fail
        refine region_plain [23, 24, 25, 26, 27, 28] (fun fZ tZ uZ => MR w.heap.size w (u3.heap.size) [(w.heap.size, LN (P 1)), (w.heap.size + 1, LN e), (w.heap.size + 1 + 1 + 1, L0s), (bo, l0), (b1_3, LN (P (n + n)))] [] [] uZ ∧ Gs fZ tZ [(0, 23, NV e), (1, 24, .int .i64 (L : Int)), (2, 25, .int .i64 ((L : Int) - 1)), (3, 26, .int .i64 j), (4, 27, .int .i64 (k : Int)), (5, 28, .bool false)] ∧ Os fZ [] ∧ Ns fZ tZ []) (by kernel_rfl) ?_ ?_ ?_
        · exact ⟨{ bel := HB3, lo := HB3.size, sz := Nat.le_refl _, ks := ⟨⟨l3p0, K3p0⟩, ⟨l3p1, K3p1⟩, ⟨l3r8, K3r8⟩, ⟨l3o, K3o⟩, ⟨l3n1_3, K3n1_3⟩, trivial⟩, ex := trivial, nw := trivial, nd := trivial }, Gs.none _ _, Os.none _, trivial⟩
        · rintro fZ tZ uZ iZ oZ aZ hF ⟨hM, hG, hO, hN⟩ ho hfi hdep
          obtain ⟨hS, hV⟩ := hF.two 35 (by decide) rfl (by decide)
          rcases cZ6 ho with rfl | rfl | rfl | rfl | rfl | rfl <;> cases ho
          · exact t_load (show aZ.eval (.tmp 5) = .pointer (some ⟨w.heap.size + 1, 0, none⟩) from (hF.out 5 (by decide)).trans rfl) hM.ks.2.1.2 Try.underlying25 info_api_Nat hF hS rfl rfl rfl rfl rfl (by decide) (Jt hM hG hN)
          · exact t_move (show aZ.eval (.tmp 10) = .int .i64 (L : Int) from (hF.out 10 (by decide)).trans rfl) hF hS rfl rfl rfl rfl (by decide) (Jt hM hG hN)
          · refine op_plain rfl rfl (fun K hK => ?_)
            refine wp_bin rfl (ve 24 hV (hG.2.1 (dd 1 hdep))) rfl (sub_i _ _ (L : Int) 1 ((L : Int) - 1) uZ rfl (by omega) (by omega)) ?_
            exact tell hK hF hS (by decide) (Jt hM hG hN)
          · exact t_move (show aZ.eval (.tmp 11) = .int .i64 j from (hF.out 11 (by decide)).trans rfl) hF hS rfl rfl rfl rfl (by decide) (Jt hM hG hN)
          · refine op_plain rfl rfl (fun K hK => ?_)
            refine wp_bin rfl (ve 25 hV (hG.2.2.1 (dd 2 hdep))) (ve 26 hV (hG.2.2.2.1 (dd 3 hdep))) (sub_i _ _ ((L : Int) - 1) (j : Int) (k : Int) uZ (by omega) (by omega) (by omega)) ?_
            exact tell hK hF hS (by decide) (Jt hM hG hN)
          · exact t_call (vs := [NV e, .int .i64 (k : Int)]) (by show [aZ.eval (.tmp 23), aZ.eval (.tmp 27)] = _; rw [(ve 23 hV (hG.1 (dd 0 hdep))), (ve 27 hV (hG.2.2.2.2.1 (dd 4 hdep)))]) ent_limb_Bit (by have h1 := nBit e k uZ (by omega) (by omega); rw [Hb.out] at h1; exact h1) hF hS rfl rfl rfl rfl (by decide) (fun _ hB => (Jt (hM.call hB) hG hN))
        rintro fZ tZ u4 ⟨hM, hG, hO, hN⟩ hall
        obtain ⟨e23, e24, e25, e26, e27, e28, -⟩ := Gs.all 6 hall hG rfl
        have HB4 : Below w.heap.size w u4 := hM.bel
        have sz4 : u3.heap.size ≤ u4.heap.size := hM.sz
        obtain ⟨⟨l4p0, K4p0⟩, ⟨l4p1, K4p1⟩, ⟨l4r8, K4r8⟩, ⟨l4o, K4o⟩, ⟨l4n1_3, K4n1_3⟩, -⟩ := hM.ks.up hM.sz
        dsimp only at l4p0 K4p0 l4p1 K4p1 l4r8 K4r8 l4o K4o l4n1_3 K4n1_3
        simp only [ovr, List.set_cons_zero, List.set_cons_succ, e23, e24, e25, e26, e27, e28]
        clear hM hG hO hN hall e23 e24 e25 e26 e27 e28 K3n1_3 K3o K3p0 K3p1 K3r8 HB3
        clear tZ
        go_upto_region 8 with fail
        refine region_plain [33, 16] (fun fZ tZ uZ => MR w.heap.size w (u4.heap.size) [(w.heap.size, LN (P 1)), (w.heap.size + 1, LN e), (w.heap.size + 1 + 1 + 1, L0s), (bo, l0), (b1_3, LN (P (n + n)))] [] [] uZ ∧ Gs fZ tZ [(0, 33, .int .i64 ((j + 1 : Nat) : Int)), (1, 16, .int .i64 ((j + 1 : Nat) : Int))] ∧ Os fZ [(1, 0)] ∧ Ns fZ tZ [(1, 16, .int .i64 j)]) (by kernel_rfl) ?_ ?_ ?_
        · exact ⟨{ bel := HB4, lo := HB4.size, sz := Nat.le_refl _, ks := ⟨⟨l4p0, K4p0⟩, ⟨l4p1, K4p1⟩, ⟨l4r8, K4r8⟩, ⟨l4o, K4o⟩, ⟨l4n1_3, K4n1_3⟩, trivial⟩, ex := trivial, nw := trivial, nd := trivial }, Gs.none _ _, Os.none _, ⟨fun _ => rfl, trivial⟩⟩
        · rintro fZ tZ uZ iZ oZ aZ hF ⟨hM, hG, hO, hN⟩ ho hfi hdep
          obtain ⟨hS, hV⟩ := hF.two 35 (by decide) rfl (by decide)
          rcases cZ2 ho with rfl | rfl <;> cases ho
          · refine op_plain rfl rfl (fun K hK => ?_)
            have yi16 : fZ 1 = false := Os.not (hO.1) hfi
            have ei16 : tZ 16 = .int .i64 j := hN.1 yi16
            refine wp_bin rfl ((hV 16 (by decide)).trans ei16) rfl (add_i _ _ (j : Int) 1 ((j + 1 : Nat) : Int) uZ (by omega) (by omega) (by omega)) ?_
            exact tell hK hF hS (by decide) (Jm hM hG hO hN)
          · exact t_move (ve 33 hV (hG.1 (dd 0 hdep))) hF hS rfl rfl rfl rfl (by decide) ⟨hM, Gs.stepA hG rfl rfl, ⟨fun _ => (dd 0 hdep :), trivial⟩, Ns.step hN rfl⟩
        rintro fZ tZ u5 ⟨hM, hG, hO, hN⟩ hall
        obtain ⟨e33, e16, -⟩ := Gs.all 2 hall hG rfl
        have HB5 : Below w.heap.size w u5 := hM.bel
        have sz5 : u4.heap.size ≤ u5.heap.size := hM.sz
        obtain ⟨⟨l5p0, K5p0⟩, ⟨l5p1, K5p1⟩, ⟨l5r8, K5r8⟩, ⟨l5o, K5o⟩, ⟨l5n1_3, K5n1_3⟩, -⟩ := hM.ks.up hM.sz
        dsimp only at l5p0 K5p0 l5p1 K5p1 l5r8 K5r8 l5o K5o l5n1_3 K5n1_3
        simp only [ovr, List.set_cons_zero, List.set_cons_succ, e33, e16]
        clear hM hG hO hN hall e33 e16 K4n1_3 K4o K4p0 K4p1 K4r8 HB4
        clear tZ
        go_wp2
        refine ⟨⟨j + 1, by omega, rfl, HB5, K5p0, K5p1, K5r8, K5o, by rw [hnx.out]; simp only [Hb.out]; exact K5n1_3, l5n1_3⟩, ?_⟩
        simp [intOf]; omega
      · have Hb : Hid (bitI e k = true) := hbit
        clear hbit
        go_upto_region 6 with fail
        refine region_plain [23, 24, 25, 26, 27, 28] (fun fZ tZ uZ => MR w.heap.size w (u3.heap.size) [(w.heap.size, LN (P 1)), (w.heap.size + 1, LN e), (w.heap.size + 1 + 1 + 1, L0s), (bo, l0), (b1_3, LN (P (n + n)))] [] [] uZ ∧ Gs fZ tZ [(0, 23, NV e), (1, 24, .int .i64 (L : Int)), (2, 25, .int .i64 ((L : Int) - 1)), (3, 26, .int .i64 j), (4, 27, .int .i64 (k : Int)), (5, 28, .bool true)] ∧ Os fZ [] ∧ Ns fZ tZ []) (by kernel_rfl) ?_ ?_ ?_
        · exact ⟨{ bel := HB3, lo := HB3.size, sz := Nat.le_refl _, ks := ⟨⟨l3p0, K3p0⟩, ⟨l3p1, K3p1⟩, ⟨l3r8, K3r8⟩, ⟨l3o, K3o⟩, ⟨l3n1_3, K3n1_3⟩, trivial⟩, ex := trivial, nw := trivial, nd := trivial }, Gs.none _ _, Os.none _, trivial⟩
        · rintro fZ tZ uZ iZ oZ aZ hF ⟨hM, hG, hO, hN⟩ ho hfi hdep
          obtain ⟨hS, hV⟩ := hF.two 35 (by decide) rfl (by decide)
          rcases cZ6 ho with rfl | rfl | rfl | rfl | rfl | rfl <;> cases ho
          · exact t_load (show aZ.eval (.tmp 5) = .pointer (some ⟨w.heap.size + 1, 0, none⟩) from (hF.out 5 (by decide)).trans rfl) hM.ks.2.1.2 Try.underlying25 info_api_Nat hF hS rfl rfl rfl rfl rfl (by decide) (Jt hM hG hN)
          · exact t_move (show aZ.eval (.tmp 10) = .int .i64 (L : Int) from (hF.out 10 (by decide)).trans rfl) hF hS rfl rfl rfl rfl (by decide) (Jt hM hG hN)
          · refine op_plain rfl rfl (fun K hK => ?_)
            refine wp_bin rfl (ve 24 hV (hG.2.1 (dd 1 hdep))) rfl (sub_i _ _ (L : Int) 1 ((L : Int) - 1) uZ rfl (by omega) (by omega)) ?_
            exact tell hK hF hS (by decide) (Jt hM hG hN)
          · exact t_move (show aZ.eval (.tmp 11) = .int .i64 j from (hF.out 11 (by decide)).trans rfl) hF hS rfl rfl rfl rfl (by decide) (Jt hM hG hN)
          · refine op_plain rfl rfl (fun K hK => ?_)
            refine wp_bin rfl (ve 25 hV (hG.2.2.1 (dd 2 hdep))) (ve 26 hV (hG.2.2.2.1 (dd 3 hdep))) (sub_i _ _ ((L : Int) - 1) (j : Int) (k : Int) uZ (by omega) (by omega) (by omega)) ?_
            exact tell hK hF hS (by decide) (Jt hM hG hN)
          · exact t_call (vs := [NV e, .int .i64 (k : Int)]) (by show [aZ.eval (.tmp 23), aZ.eval (.tmp 27)] = _; rw [(ve 23 hV (hG.1 (dd 0 hdep))), (ve 27 hV (hG.2.2.2.2.1 (dd 4 hdep)))]) ent_limb_Bit (by have h1 := nBit e k uZ (by omega) (by omega); rw [Hb.out] at h1; exact h1) hF hS rfl rfl rfl rfl (by decide) (fun _ hB => (Jt (hM.call hB) hG hN))
        rintro fZ tZ u4 ⟨hM, hG, hO, hN⟩ hall
        obtain ⟨e23, e24, e25, e26, e27, e28, -⟩ := Gs.all 6 hall hG rfl
        have HB4 : Below w.heap.size w u4 := hM.bel
        have sz4 : u3.heap.size ≤ u4.heap.size := hM.sz
        obtain ⟨⟨l4p0, K4p0⟩, ⟨l4p1, K4p1⟩, ⟨l4r8, K4r8⟩, ⟨l4o, K4o⟩, ⟨l4n1_3, K4n1_3⟩, -⟩ := hM.ks.up hM.sz
        dsimp only at l4p0 K4p0 l4p1 K4p1 l4r8 K4r8 l4o K4o l4n1_3 K4n1_3
        simp only [ovr, List.set_cons_zero, List.set_cons_succ, e23, e24, e25, e26, e27, e28]
        clear hM hG hO hN hall e23 e24 e25 e26 e27 e28 K3n1_3 K3o K3p0 K3p1 K3r8 HB3
        clear tZ
        go_upto_region 7 with fail
        refine region_plain [29, 30, 31, 32] (fun fZ tZ uZ => MR w.heap.size w (u4.heap.size) [(w.heap.size, LN (P 1)), (w.heap.size + 1, LN e), (w.heap.size + 1 + 1 + 1, L0s), (bo, l0)] [(b1_3, fZ 4, LN (P (n + n)), LN (P (n + n + 1)))] [] uZ ∧ Gs fZ tZ [(0, 29, .func (.func N) first.toArray #[]), (1, 30, NV (P (n + n))), (2, 31, NV (P 1)), (3, 32, NV (P (n + n + 1)))] ∧ Os fZ [(4, 1)] ∧ Ns fZ tZ []) (by kernel_rfl) ?_ ?_ ?_
        · exact ⟨{ bel := HB4, lo := HB4.size, sz := Nat.le_refl _, ks := ⟨⟨l4p0, K4p0⟩, ⟨l4p1, K4p1⟩, ⟨l4r8, K4r8⟩, ⟨l4o, K4o⟩, trivial⟩, ex := ⟨⟨(by omega), l4n1_3, rfl, K4n1_3⟩, trivial⟩, nw := trivial, nd := trivial }, Gs.none _ _, Os.none _, trivial⟩
        · rintro fZ tZ uZ iZ oZ aZ hF ⟨hM, hG, hO, hN⟩ ho hfi hdep
          obtain ⟨hS, hV⟩ := hF.two 35 (by decide) rfl (by decide)
          rcases cZ5 ho with rfl | rfl | rfl | rfl | rfl <;> cases ho
          · exact t_move (show aZ.eval (.tmp 3) = .func (.func N) first.toArray #[] from (hF.out 3 (by decide)).trans rfl) hF hS rfl rfl rfl rfl (by decide) (Jm hM hG hO hN)
          · refine op_plain rfl rfl (fun K hK => ?_)
            have ys : fZ 4 = false := Os.not (hO.1) hfi
            have kk : CV uZ (b1_3) (bif fZ 4 then LN (P (n + n + 1)) else LN (P (n + n))) := hM.ex.1.2.2.2
            rw [ys] at kk
            have kk : CV uZ (b1_3) (LN (P (n + n))) := kk
            refine wp_load_mid 25 _ rfl (b1_3) 0 (show aZ.eval (.tmp 9) = .pointer (some ⟨b1_3, 0, none⟩) from (hF.out 9 (by decide)).trans rfl) (LN (P (n + n))) _ kk.range Try.underlying25 rfl info_api_Nat ?_
            exact tell hK hF hS (by decide) (Jm hM hG hO hN)
          · exact t_load (show aZ.eval (.tmp 4) = .pointer (some ⟨w.heap.size, 0, none⟩) from (hF.out 4 (by decide)).trans rfl) hM.ks.1.2 Try.underlying25 info_api_Nat hF hS rfl rfl rfl rfl rfl (by decide) (Jm hM hG hO hN)
          · refine op_plain rfl rfl (fun K hK => ?_)
            have kkp0 : CV uZ (w.heap.size) (LN (P 1)) := hM.ks.1.2
            have lbp0 : w.heap.size < uZ.heap.size := Nat.lt_of_lt_of_le hM.ks.1.1 hM.sz
            have kkp1 : CV uZ (w.heap.size + 1) (LN e) := hM.ks.2.1.2
            have lbp1 : w.heap.size + 1 < uZ.heap.size := Nat.lt_of_lt_of_le hM.ks.2.1.1 hM.sz
            have kkr8 : CV uZ (w.heap.size + 1 + 1 + 1) (L0s) := hM.ks.2.2.1.2
            have lbr8 : w.heap.size + 1 + 1 + 1 < uZ.heap.size := Nat.lt_of_lt_of_le hM.ks.2.2.1.1 hM.sz
            have kko : CV uZ (bo) (l0) := hM.ks.2.2.2.1.2
            have lbo : bo < uZ.heap.size := Nat.lt_of_lt_of_le hM.ks.2.2.2.1.1 hM.sz
            refine wp_callV rfl (first := first) (ve 29 hV (hG.1 (dd 0 hdep))) (vs := [NV (P (n + n)), NV (P 1)]) (by show [aZ.eval (.tmp 30), aZ.eval (.tmp 31)] = _; rw [(ve 30 hV (hG.2.1 (dd 1 hdep))), (ve 31 hV (hG.2.2.1 (dd 2 hdep)))]) hEnt (hT.out (n + n) 1 uZ kko lbo) (fun vZ hB => ?_)
            exact tell hK hF hS (by decide) (Jm (hM.call hB) hG hO hN)
          · refine op_plain rfl rfl (fun K hK => ?_)
            have kk : CV uZ (b1_3) (bif fZ 4 then LN (P (n + n + 1)) else LN (P (n + n))) := hM.ex.1.2.2.2
            rw [hfi] at kk
            have kk : CV uZ (b1_3) (LN (P (n + n))) := kk
            refine wp_store_mid 25 _ _ rfl (b1_3) 0 (LN (P (n + n + 1)) : List Value).toArray (show aZ.eval (.tmp 9) = .pointer (some ⟨b1_3, 0, none⟩) from (hF.out 9 (by decide)).trans rfl) (ve 32 hV (hG.2.2.2.1 (dd 3 hdep))) kk.there info_api_Nat (all_one rfl) ?_
            exact tell0 hK hF ⟨MR.putXF 0 hM rfl ⟨by omega, by omega, by omega, by omega, trivial⟩ trivial, Gs.idle rfl hG, ⟨fun _ => hdep ⟨1, .phase⟩ (by simp) rfl, trivial⟩, Ns.idle hN⟩
        rintro fZ tZ u5 ⟨hM, hG, hO, hN⟩ hall
        obtain ⟨e29, e30, e31, e32, -⟩ := Gs.all 5 hall hG rfl
        have HB5 : Below w.heap.size w u5 := hM.bel
        have sz5 : u4.heap.size ≤ u5.heap.size := hM.sz
        obtain ⟨⟨l5p0, K5p0⟩, ⟨l5p1, K5p1⟩, ⟨l5r8, K5r8⟩, ⟨l5o, K5o⟩, -⟩ := hM.ks.up hM.sz
        dsimp only at l5p0 K5p0 l5p1 K5p1 l5r8 K5r8 l5o K5o
        have K5n1_3 : CV u5 (b1_3) (LN (P (n + n + 1))) := by
          have h1 : CV u5 (b1_3) (bif fZ 4 then LN (P (n + n + 1)) else LN (P (n + n))) := hM.ex.1.2.2.2
          rw [hall 4 (by decide)] at h1; exact h1
        have l5n1_3 : b1_3 < u5.heap.size := Nat.lt_of_lt_of_le hM.ex.1.2.1 hM.sz
        simp only [ovr, List.set_cons_zero, List.set_cons_succ, e29, e30, e31, e32]
        clear hM hG hO hN hall e29 e30 e31 e32 K4n1_3 K4o K4p0 K4p1 K4r8 HB4
        clear tZ
        go_upto_region 8 with fail
        refine region_plain [33, 16] (fun fZ tZ uZ => MR w.heap.size w (u5.heap.size) [(w.heap.size, LN (P 1)), (w.heap.size + 1, LN e), (w.heap.size + 1 + 1 + 1, L0s), (bo, l0), (b1_3, LN (P (n + n + 1)))] [] [] uZ ∧ Gs fZ tZ [(0, 33, .int .i64 ((j + 1 : Nat) : Int)), (1, 16, .int .i64 ((j + 1 : Nat) : Int))] ∧ Os fZ [(1, 0)] ∧ Ns fZ tZ [(1, 16, .int .i64 j)]) (by kernel_rfl) ?_ ?_ ?_
        · exact ⟨{ bel := HB5, lo := HB5.size, sz := Nat.le_refl _, ks := ⟨⟨l5p0, K5p0⟩, ⟨l5p1, K5p1⟩, ⟨l5r8, K5r8⟩, ⟨l5o, K5o⟩, ⟨l5n1_3, K5n1_3⟩, trivial⟩, ex := trivial, nw := trivial, nd := trivial }, Gs.none _ _, Os.none _, ⟨fun _ => rfl, trivial⟩⟩
        · rintro fZ tZ uZ iZ oZ aZ hF ⟨hM, hG, hO, hN⟩ ho hfi hdep
          obtain ⟨hS, hV⟩ := hF.two 35 (by decide) rfl (by decide)
          rcases cZ2 ho with rfl | rfl <;> cases ho
          · refine op_plain rfl rfl (fun K hK => ?_)
            have yi16 : fZ 1 = false := Os.not (hO.1) hfi
            have ei16 : tZ 16 = .int .i64 j := hN.1 yi16
            refine wp_bin rfl ((hV 16 (by decide)).trans ei16) rfl (add_i _ _ (j : Int) 1 ((j + 1 : Nat) : Int) uZ (by omega) (by omega) (by omega)) ?_
            exact tell hK hF hS (by decide) (Jm hM hG hO hN)
          · exact t_move (ve 33 hV (hG.1 (dd 0 hdep))) hF hS rfl rfl rfl rfl (by decide) ⟨hM, Gs.stepA hG rfl rfl, ⟨fun _ => (dd 0 hdep :), trivial⟩, Ns.step hN rfl⟩
        rintro fZ tZ u6 ⟨hM, hG, hO, hN⟩ hall
        obtain ⟨e33, e16, -⟩ := Gs.all 2 hall hG rfl
        have HB6 : Below w.heap.size w u6 := hM.bel
        have sz6 : u5.heap.size ≤ u6.heap.size := hM.sz
        obtain ⟨⟨l6p0, K6p0⟩, ⟨l6p1, K6p1⟩, ⟨l6r8, K6r8⟩, ⟨l6o, K6o⟩, ⟨l6n1_3, K6n1_3⟩, -⟩ := hM.ks.up hM.sz
        dsimp only at l6p0 K6p0 l6p1 K6p1 l6r8 K6r8 l6o K6o l6n1_3 K6n1_3
        simp only [ovr, List.set_cons_zero, List.set_cons_succ, e33, e16]
        clear hM hG hO hN hall e33 e16 K5n1_3 K5o K5p0 K5p1 K5r8 HB5
        clear tZ
        go_wp2
        refine ⟨⟨j + 1, by omega, rfl, HB6, K6p0, K6p1, K6r8, K6o, by rw [hnx.out]; simp only [Hb.out]; exact K6n1_3, l6n1_3⟩, ?_⟩
        simp [intOf]; omega
    · have hjl' : ¬ (j : Int) < (L : Int) := by omega
      have hend : (e / 2 ^ (L - j)).toNat = e.toNat := by rw [show L - j = 0 by omega]; simp
      have Kp : CV wr b1_3 (LN (P e.toNat)) := by rw [← hend]; exact Kp
      clear hend
      go_upto_region 9 with fail
      refine region_plain [34] (fun fZ tZ uZ => MR w.heap.size w (wr.heap.size) [(w.heap.size, LN (P 1)), (w.heap.size + 1, LN e), (bo, l0), (b1_3, LN (P e.toNat))] [(w.heap.size + 1 + 1 + 1, fZ 1, L0s, LN (P e.toNat))] [] uZ ∧ Gs fZ tZ [(0, 34, NV (P e.toNat))] ∧ Os fZ [] ∧ Ns fZ tZ []) (by kernel_rfl) ?_ ?_ ?_
      · exact ⟨{ bel := HBr, lo := HBr.size, sz := Nat.le_refl _, ks := ⟨⟨(by omega), Ka⟩, ⟨(by omega), Ke⟩, ⟨(by omega), Ko⟩, ⟨lp, Kp⟩, trivial⟩, ex := ⟨⟨(by omega), (by omega), rfl, Kr⟩, trivial⟩, nw := trivial, nd := trivial }, Gs.none _ _, Os.none _, trivial⟩
      · rintro fZ tZ uZ iZ oZ aZ hF ⟨hM, hG, hO, hN⟩ ho hfi hdep
        obtain ⟨hS, hV⟩ := hF.two 35 (by decide) rfl (by decide)
        rcases cZ2 ho with rfl | rfl <;> cases ho
        · exact t_load (show aZ.eval (.tmp 9) = .pointer (some ⟨b1_3, 0, none⟩) from (hF.out 9 (by decide)).trans rfl) hM.ks.2.2.2.1.2 Try.underlying25 info_api_Nat hF hS rfl rfl rfl rfl rfl (by decide) (Jt hM hG hN)
        · refine op_plain rfl rfl (fun K hK => ?_)
          have kk : CV uZ (w.heap.size + 1 + 1 + 1) (bif fZ 1 then LN (P e.toNat) else L0s) := hM.ex.1.2.2.2
          rw [hfi] at kk
          have kk : CV uZ (w.heap.size + 1 + 1 + 1) (L0s) := kk
          refine wp_store_mid 25 _ _ rfl (w.heap.size + 1 + 1 + 1) 0 (LN (P e.toNat) : List Value).toArray (show aZ.eval (.tmp 8) = .pointer (some ⟨w.heap.size + 1 + 1 + 1, 0, none⟩) from (hF.out 8 (by decide)).trans rfl) (ve 34 hV (hG.1 (dd 0 hdep))) kk.there info_api_Nat (all_one rfl) ?_
          exact tell0 hK hF ⟨MR.putXF 0 hM rfl ⟨by omega, by omega, by omega, by omega, trivial⟩ trivial, Gs.idle rfl hG, trivial, Ns.idle hN⟩
      rintro fZ tZ u4 ⟨hM, hG, hO, hN⟩ hall
      obtain ⟨e34, -⟩ := Gs.all 2 hall hG rfl
      have HB4 : Below w.heap.size w u4 := hM.bel
      have sz4 : wr.heap.size ≤ u4.heap.size := hM.sz
      have K4r8 : CV u4 (w.heap.size + 1 + 1 + 1) (LN (P e.toNat)) := by
        have h1 : CV u4 (w.heap.size + 1 + 1 + 1) (bif fZ 1 then LN (P e.toNat) else L0s) := hM.ex.1.2.2.2
        rw [hall 1 (by decide)] at h1; exact h1
      have l4r8 : w.heap.size + 1 + 1 + 1 < u4.heap.size := Nat.lt_of_lt_of_le hM.ex.1.2.1 hM.sz
      simp only [ovr, List.set_cons_zero, List.set_cons_succ, e34]
      clear hM hG hO hN hall e34 Ka Ke Ko Kp Kr
      clear tZ
      have c8_0 := (K4r8 0 _ rfl).1
      have c8_1 := (K4r8 1 _ rfl).1
      have c8_2 := (K4r8 2 _ rfl).1
      have c8_3 := (K4r8 3 _ rfl).1
      go_wp2
      refine bodyPost_ret (v := NV (P e.toNat)) (by simp [results, Try.results88, go_sem, c8_0, c8_1, c8_2, c8_3]) rfl ⟨rfl, HB4⟩
end Go.Proofs.Ytkpnjmfndgfogaa
