/- Numbers modulo one: Gcd. -/
import Derived.Test.YtkpnjmfndgfogaaMA2
import Derived.Test.YtkpnjmfndgfogaaRS
namespace Go.Proofs.Ytkpnjmfndgfogaa
open Go.RowKit
set_option linter.unusedVariables false
set_option linter.unusedSimpArgs false
/-- The greatest common divisor. -/
def gI (a b : Int) : Int := (Nat.gcd a.toNat b.toNat : Int)
theorem gI_0 (a : Int) (ha : 0 ≤ a) : gI a 0 = a := by unfold gI; simp; omega
theorem gI_step (x y : Int) (hx : 0 ≤ x) (hy : 0 ≤ y) (h : y ≠ 0) : gI y (x % y) = gI x y := by
  unfold gI
  obtain ⟨p, rfl⟩ := Int.eq_ofNat_of_zero_le hx
  obtain ⟨q, rfl⟩ := Int.eq_ofNat_of_zero_le hy
  have e : ((p : Int) % (q : Int)).toNat = p % q := by rw [← Int.natCast_emod]; rfl
  rw [e]
  simp only [Int.toNat_natCast]
  rw [Nat.gcd_comm p q, Nat.gcd_rec q p, Nat.gcd_comm]
set_option maxRecDepth 100000 in
set_option maxHeartbeats 4000000 in
theorem mGcd (a b : Int) (w : World) (ha : In a) (hb : In b) :
    Calls Try.prog 23 #[NV a, NV b] w fun e w' => e = .returned (NV (gI a b)) ∧ Below w.heap.size w w' := by
  go_enter Try.func23, Try.ntmps23
  go_wp2_with fail
  generalize hC : (((w.alloc (.cells (LN a : List Value).toArray 25)).alloc (.cells (LN b : List Value).toArray 25)).alloc (.cells (L0s : List Value).toArray 25)) = v0 at *
  have HB0 : Below w.heap.size w v0 := by rw [← hC]; exact (balloc (balloc (balloc (bself w) _) _) _)
  have K0p0 : CV v0 (w.heap.size) (LN a) := by rw [← hC]; exact (((CV.new w (LN a) 25).alloc (by simp <;> omega) _).alloc (by simp <;> omega) _)
  have l0p0 : w.heap.size < v0.heap.size := by rw [← hC]; simp <;> omega
  have K0p1 : CV v0 (w.heap.size + 1) (LN b) := by rw [← hC]; exact ((CV.newAt (w.alloc (.cells (LN a : List Value).toArray 25)) (LN b) 25 _ (by simp)).alloc (by simp <;> omega) _)
  have l0p1 : w.heap.size + 1 < v0.heap.size := by rw [← hC]; simp <;> omega
  have K0r4 : CV v0 (w.heap.size + 1 + 1) (L0s) := by rw [← hC]; exact (CV.newAt ((w.alloc (.cells (LN a : List Value).toArray 25)).alloc (.cells (LN b : List Value).toArray 25)) (L0s) 25 _ (by simp))
  have l0r4 : w.heap.size + 1 + 1 < v0.heap.size := by rw [← hC]; simp <;> omega
  clear hC
  go_loopw [9] (fun _ wr => ∃ x y : Int, In x ∧ In y ∧ Hid (gI x y = gI a b) ∧ Below w.heap.size w wr ∧ CV wr (w.heap.size) (LN x) ∧ CV wr (w.heap.size + 1) (LN y) ∧ CV wr (w.heap.size + 1 + 1) L0s ∧ w.heap.size + 1 + 1 < wr.heap.size) (fun _ wr => natAt wr (w.heap.size + 1))
  case atStart => exact ⟨a, b, ha, hb, rfl, HB0, K0p0, K0p1, K0r4, l0r4⟩
  case round =>
    obtain ⟨x, y, hx, hy, hg, HBr, Kr0, Kr1, Kr2, szr⟩ := hrel
    clear HB0 K0p0 K0p1 K0r4
    by_cases h0 : y = 0
    · have hz : decide (y = 0) = !false := by simp [h0]
      have hgx : gI a b = x := by rw [← hg.out, h0, gI_0 x hx.1]
      have Hg : Hid _ := hgx
      clear hgx hg h0
      go_upto_region 1 with fail
      refine region_plain [7, 8, 9] (fun fZ tZ uZ => MR w.heap.size w (wr.heap.size) [(w.heap.size, LN x), (w.heap.size + 1, LN y), (w.heap.size + 1 + 1, L0s)] [] [] uZ ∧ Gs fZ tZ [(0, 7, NV y), (1, 8, A4 (0) (0) (0) (0)), (2, 9, .bool false)] ∧ Os fZ [] ∧ Ns fZ tZ []) (by kernel_rfl) ?_ ?_ ?_
      · exact ⟨{ bel := HBr, lo := HBr.size, sz := Nat.le_refl _, ks := ⟨⟨(by omega), Kr0⟩, ⟨(by omega), Kr1⟩, ⟨szr, Kr2⟩, trivial⟩, ex := trivial, nw := trivial, nd := trivial }, Gs.none _ _, Os.none _, trivial⟩
      · rintro fZ tZ uZ iZ oZ aZ hF ⟨hM, hG, hO, hN⟩ ho hfi hdep
        obtain ⟨hS, hV⟩ := hF.two 19 (by decide) rfl (by decide)
        rcases cZ3 ho with rfl | rfl | rfl <;> cases ho
        · exact t_load (show aZ.eval (.tmp 3) = .pointer (some ⟨w.heap.size + 1, 0, none⟩) from (hF.out 3 (by decide)).trans rfl) hM.ks.2.1.2 Try.underlying25 info_api_Nat hF hS rfl rfl rfl rfl rfl (by decide) (Jt hM hG hN)
        · refine op_plain rfl rfl (fun K hK => ?_)
          refine wp_val (v := A4 (0) (0) (0) (0)) (w' := uZ) (by kernel_rfl) ?_
          exact tell hK hF hS (by decide) (Jt hM hG hN)
        · refine op_plain rfl rfl (fun K hK => ?_)
          refine wp_bin rfl (ve 7 hV (hG.1 (dd 0 hdep))) (ve 8 hV (hG.2.1 (dd 1 hdep))) (neq_0 _ _ hy _ hz uZ) ?_
          exact tell hK hF hS (by decide) (Jt hM hG hN)
      rintro fZ tZ u1 ⟨hM, hG, hO, hN⟩ hall
      have e7 : tZ 7 = _ := hG.1 (hall 0 (by decide))
      have e8 : tZ 8 = _ := hG.2.1 (hall 1 (by decide))
      have e9 : tZ 9 = _ := hG.2.2.1 (hall 2 (by decide))
      have HB1 : Below w.heap.size w u1 := hM.bel
      have sz1 : wr.heap.size ≤ u1.heap.size := hM.sz
      have K1p0 : CV u1 (w.heap.size) (LN x) := hM.ks.1.2
      have l1p0 : w.heap.size < u1.heap.size := Nat.lt_of_lt_of_le hM.ks.1.1 hM.sz
      have K1r4 : CV u1 (w.heap.size + 1 + 1) (L0s) := hM.ks.2.2.1.2
      have l1r4 : w.heap.size + 1 + 1 < u1.heap.size := Nat.lt_of_lt_of_le hM.ks.2.2.1.1 hM.sz
      simp only [ovr, List.set_cons_zero, List.set_cons_succ, e7, e8, e9]
      clear hM hG hO hN hall e7 e8 e9 Kr0 Kr1 Kr2
      clear tZ
      go_upto_region 4 with fail
      refine region_plain [18] (fun fZ tZ uZ => MR w.heap.size w (u1.heap.size) [(w.heap.size, LN x)] [(w.heap.size + 1 + 1, fZ 1, L0s, LN x)] [] uZ ∧ Gs fZ tZ [(0, 18, NV x)] ∧ Os fZ [] ∧ Ns fZ tZ []) (by kernel_rfl) ?_ ?_ ?_
      · exact ⟨{ bel := HB1, lo := HB1.size, sz := Nat.le_refl _, ks := ⟨⟨l1p0, K1p0⟩, trivial⟩, ex := ⟨⟨(by omega), l1r4, rfl, K1r4⟩, trivial⟩, nw := trivial, nd := trivial }, Gs.none _ _, Os.none _, trivial⟩
      · rintro fZ tZ uZ iZ oZ aZ hF ⟨hM, hG, hO, hN⟩ ho hfi hdep
        obtain ⟨hS, hV⟩ := hF.two 19 (by decide) rfl (by decide)
        rcases cZ2 ho with rfl | rfl <;> cases ho
        · exact t_load (show aZ.eval (.tmp 2) = .pointer (some ⟨w.heap.size, 0, none⟩) from (hF.out 2 (by decide)).trans rfl) hM.ks.1.2 Try.underlying25 info_api_Nat hF hS rfl rfl rfl rfl rfl (by decide) (Jt hM hG hN)
        · refine op_plain rfl rfl (fun K hK => ?_)
          have kk : CV uZ (w.heap.size + 1 + 1) (bif fZ 1 then LN x else L0s) := hM.ex.1.2.2.2
          rw [hfi] at kk
          have kk : CV uZ (w.heap.size + 1 + 1) (L0s) := kk
          refine wp_store_mid 25 _ _ rfl (w.heap.size + 1 + 1) 0 (LN x : List Value).toArray (show aZ.eval (.tmp 4) = .pointer (some ⟨w.heap.size + 1 + 1, 0, none⟩) from (hF.out 4 (by decide)).trans rfl) (ve 18 hV (hG.1 (dd 0 hdep))) kk.there info_api_Nat (all_one rfl) ?_
          exact tell0 hK hF ⟨MR.putXF 0 hM rfl ⟨by omega, trivial⟩ trivial, Gs.idle rfl hG, trivial, Ns.idle hN⟩
      rintro fZ tZ u2 ⟨hM, hG, hO, hN⟩ hall
      have e18 : tZ 18 = _ := hG.1 (hall 0 (by decide))
      have HB2 : Below w.heap.size w u2 := hM.bel
      have sz2 : u1.heap.size ≤ u2.heap.size := hM.sz
      have K2r4 : CV u2 (w.heap.size + 1 + 1) (LN x) := by
        have h1 : CV u2 (w.heap.size + 1 + 1) (bif fZ 1 then LN x else L0s) := hM.ex.1.2.2.2
        rw [hall 1 (by decide)] at h1; exact h1
      have l2r4 : w.heap.size + 1 + 1 < u2.heap.size := Nat.lt_of_lt_of_le hM.ex.1.2.1 hM.sz
      simp only [ovr, List.set_cons_zero, List.set_cons_succ, e18]
      clear hM hG hO hN hall e18 K1p0 K1r4 HB1
      clear tZ
      have c4_0 := (K2r4 0 _ rfl).1
      have c4_1 := (K2r4 1 _ rfl).1
      have c4_2 := (K2r4 2 _ rfl).1
      have c4_3 := (K2r4 3 _ rfl).1
      go_wp2
      refine bodyPost_ret (v := NV x) (by simp [results, Try.results23, go_sem, c4_0, c4_1, c4_2, c4_3]) rfl ⟨by rw [Hg.out], HB2⟩
    · have hz : decide (y = 0) = !true := by simp [h0]
      have hgx : Hid (gI y (x % y) = gI a b) := by rw [gI_step x y hx.1 hy.1 h0]; exact hg
      have hlt := Int.emod_lt_of_pos x (show 0 < y by have := hy.1; omega)
      have hnn := Int.emod_nonneg x h0
      have n0 : Hid _ := natAt_of Kr1 hy
      clear hg
      go_upto_region 1 with fail
      refine region_plain [7, 8, 9] (fun fZ tZ uZ => MR w.heap.size w (wr.heap.size) [(w.heap.size, LN x), (w.heap.size + 1, LN y), (w.heap.size + 1 + 1, L0s)] [] [] uZ ∧ Gs fZ tZ [(0, 7, NV y), (1, 8, A4 (0) (0) (0) (0)), (2, 9, .bool true)] ∧ Os fZ [] ∧ Ns fZ tZ []) (by kernel_rfl) ?_ ?_ ?_
      · exact ⟨{ bel := HBr, lo := HBr.size, sz := Nat.le_refl _, ks := ⟨⟨(by omega), Kr0⟩, ⟨(by omega), Kr1⟩, ⟨szr, Kr2⟩, trivial⟩, ex := trivial, nw := trivial, nd := trivial }, Gs.none _ _, Os.none _, trivial⟩
      · rintro fZ tZ uZ iZ oZ aZ hF ⟨hM, hG, hO, hN⟩ ho hfi hdep
        obtain ⟨hS, hV⟩ := hF.two 19 (by decide) rfl (by decide)
        rcases cZ3 ho with rfl | rfl | rfl <;> cases ho
        · exact t_load (show aZ.eval (.tmp 3) = .pointer (some ⟨w.heap.size + 1, 0, none⟩) from (hF.out 3 (by decide)).trans rfl) hM.ks.2.1.2 Try.underlying25 info_api_Nat hF hS rfl rfl rfl rfl rfl (by decide) (Jt hM hG hN)
        · refine op_plain rfl rfl (fun K hK => ?_)
          refine wp_val (v := A4 (0) (0) (0) (0)) (w' := uZ) (by kernel_rfl) ?_
          exact tell hK hF hS (by decide) (Jt hM hG hN)
        · refine op_plain rfl rfl (fun K hK => ?_)
          refine wp_bin rfl (ve 7 hV (hG.1 (dd 0 hdep))) (ve 8 hV (hG.2.1 (dd 1 hdep))) (neq_0 _ _ hy _ hz uZ) ?_
          exact tell hK hF hS (by decide) (Jt hM hG hN)
      rintro fZ tZ u1 ⟨hM, hG, hO, hN⟩ hall
      have e7 : tZ 7 = _ := hG.1 (hall 0 (by decide))
      have e8 : tZ 8 = _ := hG.2.1 (hall 1 (by decide))
      have e9 : tZ 9 = _ := hG.2.2.1 (hall 2 (by decide))
      have HB1 : Below w.heap.size w u1 := hM.bel
      have sz1 : wr.heap.size ≤ u1.heap.size := hM.sz
      have K1p0 : CV u1 (w.heap.size) (LN x) := hM.ks.1.2
      have l1p0 : w.heap.size < u1.heap.size := Nat.lt_of_lt_of_le hM.ks.1.1 hM.sz
      have K1p1 : CV u1 (w.heap.size + 1) (LN y) := hM.ks.2.1.2
      have l1p1 : w.heap.size + 1 < u1.heap.size := Nat.lt_of_lt_of_le hM.ks.2.1.1 hM.sz
      have K1r4 : CV u1 (w.heap.size + 1 + 1) (L0s) := hM.ks.2.2.1.2
      have l1r4 : w.heap.size + 1 + 1 < u1.heap.size := Nat.lt_of_lt_of_le hM.ks.2.2.1.1 hM.sz
      simp only [ovr, List.set_cons_zero, List.set_cons_succ, e7, e8, e9]
      clear hM hG hO hN hall e7 e8 e9 Kr0 Kr1 Kr2
      clear tZ
      go_upto_region 2 with fail
      refine region_plain [11, 12, 13, 10, 14, 15, 5, 6] (fun fZ tZ uZ => MR w.heap.size w (u1.heap.size) [(w.heap.size, LN x), (w.heap.size + 1, LN y), (w.heap.size + 1 + 1, L0s)] [] [(fZ 6, fZ 8, tZ 5, L0s, LN (x / y)), (fZ 7, fZ 9, tZ 6, L0s, LN (x % y))] uZ ∧ Gs fZ tZ [(0, 11, NV x), (1, 12, NV y), (2, 13, .tuple #[NV (x / y), NV (x % y)]), (3, 10, .tuple #[NV (x / y), NV (x % y)]), (4, 14, NV (x / y)), (5, 15, NV (x % y))] ∧ Os fZ [(8, 6), (9, 7)] ∧ Ns fZ tZ []) (by kernel_rfl) ?_ ?_ ?_
      · exact ⟨{ bel := HB1, lo := HB1.size, sz := Nat.le_refl _, ks := ⟨⟨l1p0, K1p0⟩, ⟨l1p1, K1p1⟩, ⟨l1r4, K1r4⟩, trivial⟩, ex := trivial, nw := ⟨fun e => (by cases e), fun e => (by cases e), trivial⟩, nd := ⟨fun e => (by cases e), fun e => (by cases e), trivial⟩ }, Gs.none _ _, Os.none _, trivial⟩
      · rintro fZ tZ uZ iZ oZ aZ hF ⟨hM, hG, hO, hN⟩ ho hfi hdep
        obtain ⟨hS, hV⟩ := hF.two 19 (by decide) rfl (by decide)
        rcases cZ10 ho with rfl | rfl | rfl | rfl | rfl | rfl | rfl | rfl | rfl | rfl <;> cases ho
        · exact t_load (show aZ.eval (.tmp 2) = .pointer (some ⟨w.heap.size, 0, none⟩) from (hF.out 2 (by decide)).trans rfl) hM.ks.1.2 Try.underlying25 info_api_Nat hF hS rfl rfl rfl rfl rfl (by decide) (Jm hM hG hO hN)
        · exact t_load (show aZ.eval (.tmp 3) = .pointer (some ⟨w.heap.size + 1, 0, none⟩) from (hF.out 3 (by decide)).trans rfl) hM.ks.2.1.2 Try.underlying25 info_api_Nat hF hS rfl rfl rfl rfl rfl (by decide) (Jm hM hG hO hN)
        · exact t_call (vs := [NV x, NV y]) (by show [aZ.eval (.tmp 11), aZ.eval (.tmp 12)] = _; rw [(ve 11 hV (hG.1 (dd 0 hdep))), (ve 12 hV (hG.2.1 (dd 1 hdep)))]) ent_mod_divide (mdivide x y uZ hx hy h0) hF hS rfl rfl rfl rfl (by decide) (fun _ hB => (Jm (hM.call hB) hG hO hN))
        · exact t_move (ve 13 hV (hG.2.2.1 (dd 2 hdep))) hF hS rfl rfl rfl rfl (by decide) (Jm hM hG hO hN)
        · exact t_extract (ve 10 hV (hG.2.2.2.1 (dd 3 hdep))) hF hS rfl rfl rfl rfl rfl (by decide) (Jm hM hG hO hN)
        · exact t_extract (ve 10 hV (hG.2.2.2.1 (dd 3 hdep))) hF hS rfl rfl rfl rfl rfl (by decide) (Jm hM hG hO hN)
        · refine op_plain rfl rfl (fun K hK => ?_)
          refine wp_alloc rfl (al_api_Nat uZ) ?_
          have q1 : fZ 8 = false := Os.not (hO.1) hfi
          exact tell hK hF hS (by decide) ⟨MR.newF 0 hM rfl hfi q1, Gs.other rfl hG, hO.keep rfl, Ns.step hN rfl⟩
        · refine op_plain rfl rfl (fun K hK => ?_)
          refine wp_alloc rfl (al_api_Nat uZ) ?_
          have q1 : fZ 9 = false := Os.not (hO.2.1) hfi
          exact tell hK hF hS (by decide) ⟨MR.newF 1 hM rfl hfi q1, Gs.other rfl hG, hO.keep rfl, Ns.step hN rfl⟩
        · refine op_plain rfl rfl (fun K hK => ?_)
          have y6 : fZ 6 = true := dd 6 hdep
          obtain ⟨bb, eb, b1, b2, b3⟩ := hM.nw.1 y6
          have eb : tZ 5 = .pointer (some ⟨bb, 0, none⟩) := eb
          refine wp_store_mid 25 _ _ rfl bb 0 (LN (x / y) : List Value).toArray ((hV 5 (by decide)).trans eb) (ve 14 hV (hG.2.2.2.2.1 (dd 4 hdep))) (by have h2 := b3; simp only [hfi] at h2; exact h2.there) info_api_Nat (all_one rfl) ?_
          exact tell0 hK hF ⟨MR.putF 0 hM rfl y6 eb b1 rfl, Gs.idle rfl hG, ⟨fun _ => (dd 6 hdep :), hO.2.1, trivial⟩, Ns.idle hN⟩
        · refine op_plain rfl rfl (fun K hK => ?_)
          have y7 : fZ 7 = true := dd 7 hdep
          obtain ⟨bb, eb, b1, b2, b3⟩ := hM.nw.2.1 y7
          have eb : tZ 6 = .pointer (some ⟨bb, 0, none⟩) := eb
          refine wp_store_mid 25 _ _ rfl bb 0 (LN (x % y) : List Value).toArray ((hV 6 (by decide)).trans eb) (ve 15 hV (hG.2.2.2.2.2.1 (dd 5 hdep))) (by have h2 := b3; simp only [hfi] at h2; exact h2.there) info_api_Nat (all_one rfl) ?_
          exact tell0 hK hF ⟨MR.putF 1 hM rfl y7 eb b1 rfl, Gs.idle rfl hG, ⟨hO.1, fun _ => (dd 7 hdep :), trivial⟩, Ns.idle hN⟩
      rintro fZ tZ u2 ⟨hM, hG, hO, hN⟩ hall
      have e11 : tZ 11 = _ := hG.1 (hall 0 (by decide))
      have e12 : tZ 12 = _ := hG.2.1 (hall 1 (by decide))
      have e13 : tZ 13 = _ := hG.2.2.1 (hall 2 (by decide))
      have e10 : tZ 10 = _ := hG.2.2.2.1 (hall 3 (by decide))
      have e14 : tZ 14 = _ := hG.2.2.2.2.1 (hall 4 (by decide))
      have e15 : tZ 15 = _ := hG.2.2.2.2.2.1 (hall 5 (by decide))
      obtain ⟨b2_6, ee5, pb2_6, lb2_6, kb2_6⟩ := hM.nw.1 (hall 6 (by decide))
      have e5 : tZ 5 = .pointer (some ⟨b2_6, 0, none⟩) := ee5
      clear ee5
      have Kb2_6 : CV u2 b2_6 (LN (x / y)) := by
        have h1 : CV u2 b2_6 (bif fZ 8 then LN (x / y) else L0s) := kb2_6
        rw [hall 8 (by decide)] at h1; exact h1
      clear kb2_6
      obtain ⟨b2_7, ee6, pb2_7, lb2_7, kb2_7⟩ := hM.nw.2.1 (hall 7 (by decide))
      have e6 : tZ 6 = .pointer (some ⟨b2_7, 0, none⟩) := ee6
      clear ee6
      have Kb2_7 : CV u2 b2_7 (LN (x % y)) := by
        have h1 : CV u2 b2_7 (bif fZ 9 then LN (x % y) else L0s) := kb2_7
        rw [hall 9 (by decide)] at h1; exact h1
      clear kb2_7
      have nb2_6_b2_7 : b2_6 ≠ b2_7 := fun e => (hM.nd.1 (hall 6 (by decide))).1 (hall 7 (by decide)) (by show tZ 6 = tZ 5; rw [e6, e5, e])
      have HB2 : Below w.heap.size w u2 := hM.bel
      have sz2 : u1.heap.size ≤ u2.heap.size := hM.sz
      have K2p0 : CV u2 (w.heap.size) (LN x) := hM.ks.1.2
      have l2p0 : w.heap.size < u2.heap.size := Nat.lt_of_lt_of_le hM.ks.1.1 hM.sz
      have K2p1 : CV u2 (w.heap.size + 1) (LN y) := hM.ks.2.1.2
      have l2p1 : w.heap.size + 1 < u2.heap.size := Nat.lt_of_lt_of_le hM.ks.2.1.1 hM.sz
      have K2r4 : CV u2 (w.heap.size + 1 + 1) (L0s) := hM.ks.2.2.1.2
      have l2r4 : w.heap.size + 1 + 1 < u2.heap.size := Nat.lt_of_lt_of_le hM.ks.2.2.1.1 hM.sz
      simp only [ovr, List.set_cons_zero, List.set_cons_succ, e11, e12, e13, e10, e14, e15, e5, e6]
      clear hM hG hO hN hall e11 e12 e13 e10 e14 e15 e5 e6 K1p0 K1p1 K1r4 HB1
      clear tZ
      go_upto_region 3 with fail
      refine region_drawn [16, 17] (fun fZ tZ uZ => MR w.heap.size w (u2.heap.size) [(w.heap.size + 1 + 1, L0s), (b2_7, LN (x % y))] [(w.heap.size, fZ 2, LN x, LN y), (w.heap.size + 1, fZ 3, LN y, LN (x % y))] [] uZ ∧ Gs fZ tZ [(0, 16, NV y), (1, 17, NV (x % y))] ∧ Os fZ [(3, 0)] ∧ Ns fZ tZ []) (by kernel_rfl) (by kernel_rfl) ?_ ?_ ?_
      · exact ⟨{ bel := HB2.drew, lo := HB2.size, sz := Nat.le_refl _, ks := ⟨⟨l2r4, K2r4⟩, ⟨lb2_7, Kb2_7⟩, trivial⟩, ex := ⟨⟨(by omega), l2p0, rfl, K2p0⟩, ⟨(by omega), l2p1, rfl, K2p1⟩, trivial⟩, nw := trivial, nd := trivial }, Gs.none _ _, Os.none _, trivial⟩
      · rintro fZ tZ uZ iZ oZ aZ hF ⟨hM, hG, hO, hN⟩ ho hfi hdep
        obtain ⟨hS, hV⟩ := hF.two 19 (by decide) rfl (by decide)
        rcases cZ4 ho with rfl | rfl | rfl | rfl <;> cases ho
        · refine op_plain rfl rfl (fun K hK => ?_)
          have ys : fZ 3 = false := Os.not (hO.1) hfi
          have kk : CV uZ (w.heap.size + 1) (bif fZ 3 then LN (x % y) else LN y) := hM.ex.2.1.2.2.2
          rw [ys] at kk
          have kk : CV uZ (w.heap.size + 1) (LN y) := kk
          refine wp_load_mid 25 _ rfl (w.heap.size + 1) 0 (show aZ.eval (.tmp 3) = .pointer (some ⟨w.heap.size + 1, 0, none⟩) from (hF.out 3 (by decide)).trans rfl) (LN y) _ kk.range Try.underlying25 rfl info_api_Nat ?_
          exact tell hK hF hS (by decide) (Jm hM hG hO hN)
        · exact t_load (show aZ.eval (.tmp 6) = .pointer (some ⟨b2_7, 0, none⟩) from (hF.out 6 (by decide)).trans rfl) hM.ks.2.1.2 Try.underlying25 info_api_Nat hF hS rfl rfl rfl rfl rfl (by decide) (Jm hM hG hO hN)
        · refine op_plain rfl rfl (fun K hK => ?_)
          have kk : CV uZ (w.heap.size) (bif fZ 2 then LN y else LN x) := hM.ex.1.2.2.2
          rw [hfi] at kk
          have kk : CV uZ (w.heap.size) (LN x) := kk
          refine wp_store_mid 25 _ _ rfl (w.heap.size) 0 (LN y : List Value).toArray (show aZ.eval (.tmp 2) = .pointer (some ⟨w.heap.size, 0, none⟩) from (hF.out 2 (by decide)).trans rfl) (ve 16 hV (hG.1 (dd 0 hdep))) kk.there info_api_Nat (all_one rfl) ?_
          exact tell0 hK hF ⟨MR.putXF 0 hM rfl ⟨by omega, by omega, trivial⟩ ⟨by omega, trivial⟩, Gs.idle rfl hG, hO.keep rfl, Ns.idle hN⟩
        · refine op_plain rfl rfl (fun K hK => ?_)
          have kk : CV uZ (w.heap.size + 1) (bif fZ 3 then LN (x % y) else LN y) := hM.ex.2.1.2.2.2
          rw [hfi] at kk
          have kk : CV uZ (w.heap.size + 1) (LN y) := kk
          refine wp_store_mid 25 _ _ rfl (w.heap.size + 1) 0 (LN (x % y) : List Value).toArray (show aZ.eval (.tmp 3) = .pointer (some ⟨w.heap.size + 1, 0, none⟩) from (hF.out 3 (by decide)).trans rfl) (ve 17 hV (hG.2.1 (dd 1 hdep))) kk.there info_api_Nat (all_one rfl) ?_
          exact tell0 hK hF ⟨MR.putXF 1 hM rfl ⟨by omega, by omega, trivial⟩ ⟨by omega, trivial⟩, Gs.idle rfl hG, ⟨fun _ => hdep ⟨0, .phase⟩ (by simp) rfl, trivial⟩, Ns.idle hN⟩
      rintro fZ tZ u3 ⟨hM, hG, hO, hN⟩ hall
      have e16 : tZ 16 = _ := hG.1 (hall 0 (by decide))
      have e17 : tZ 17 = _ := hG.2.1 (hall 1 (by decide))
      have HB3 : Below w.heap.size w u3 := hM.bel
      have sz3 : u2.heap.size ≤ u3.heap.size := hM.sz
      have K3r4 : CV u3 (w.heap.size + 1 + 1) (L0s) := hM.ks.1.2
      have l3r4 : w.heap.size + 1 + 1 < u3.heap.size := Nat.lt_of_lt_of_le hM.ks.1.1 hM.sz
      have K3p0 : CV u3 (w.heap.size) (LN y) := by
        have h1 : CV u3 (w.heap.size) (bif fZ 2 then LN y else LN x) := hM.ex.1.2.2.2
        rw [hall 2 (by decide)] at h1; exact h1
      have l3p0 : w.heap.size < u3.heap.size := Nat.lt_of_lt_of_le hM.ex.1.2.1 hM.sz
      have K3p1 : CV u3 (w.heap.size + 1) (LN (x % y)) := by
        have h1 : CV u3 (w.heap.size + 1) (bif fZ 3 then LN (x % y) else LN y) := hM.ex.2.1.2.2.2
        rw [hall 3 (by decide)] at h1; exact h1
      have l3p1 : w.heap.size + 1 < u3.heap.size := Nat.lt_of_lt_of_le hM.ex.2.1.2.1 hM.sz
      simp only [ovr, List.set_cons_zero, List.set_cons_succ, e16, e17]
      clear hM hG hO hN hall e16 e17 K2p0 K2p1 K2r4 Kb2_7 HB2
      clear tZ
      go_wp2
      refine ⟨⟨y, x % y, hy, In_mod hy h0, hgx, HB3, K3p0, K3p1, K3r4, l3r4⟩, ?_⟩
      rw [natAt_of K3p1 (In_mod hy h0), n0.out]
      omega
end Go.Proofs.Ytkpnjmfndgfogaa
/- Euclid's steps with their factors: plain numbers. -/
namespace Go.Proofs.Ytkpnjmfndgfogaa
set_option linter.unusedVariables false
def sg (b : Bool) : Int := if b then -1 else 1
theorem sg_not (b : Bool) : sg (!b) = -(sg b) := by cases b <;> rfl
structure EI (m a d r f n : Int) (b : Bool) : Prop where
  r0 : 0 ≤ r
  rd : r < d
  f0 : 0 ≤ f
  n0 : 0 ≤ n
  eq : f * r + n * d = m
  df : m ∣ sg b * f * a - d
  dn : m ∣ -(sg b) * n * a - r
theorem EI.start {m a : Int} (h0 : 0 ≤ a) (h1 : a < m) : EI m a m a 0 1 true where
  r0 := h0
  rd := h1
  f0 := by omega
  n0 := by omega
  eq := by omega
  df := ⟨-1, by simp⟩
  dn := ⟨0, by simp [sg]⟩
theorem EI.step {m a d r f n : Int} {b : Bool} (h : EI m a d r f n b) (hr : r ≠ 0) : EI m a r (d % r) n (f + d / r * n) (!b) where
  r0 := Int.emod_nonneg _ hr
  rd := Int.emod_lt_of_pos _ (by have := h.r0; omega)
  f0 := h.n0
  n0 := by
    have h1 := h.f0; have h2 := h.n0
    have h3 : 0 ≤ d / r := Int.ediv_nonneg (by have := h.rd; have := h.r0; omega) h.r0
    have := Int.mul_nonneg h3 h2
    omega
  eq := by
    have e := Int.mul_ediv_add_emod d r
    have := h.eq
    generalize d / r = q at *
    generalize d % r = s at *
    grind
  df := by rw [sg_not]; exact h.dn
  dn := by
    rw [sg_not]
    have e := Int.mul_ediv_add_emod d r
    obtain ⟨p, hp⟩ := h.df
    obtain ⟨s, hs⟩ := h.dn
    refine ⟨p - d / r * s, ?_⟩
    generalize d / r = q at *
    generalize d % r = t at *
    grind
theorem EI.nm {m a d r f n : Int} {b : Bool} (h : EI m a d r f n b) : n ≤ m := by
  have h1 := h.rd; have h2 := h.r0; have h3 := h.f0; have h4 := h.n0; have h5 := h.eq
  have h6 := Int.mul_nonneg h3 h2
  have h7 : n * 1 ≤ n * d := Int.mul_le_mul_of_nonneg_left (by omega) h4
  omega
theorem EI.dm {m a d r f n : Int} {b : Bool} (h : EI m a d r f n b) (hm : 0 < m) : d ≤ m ∨ n = 0 := by
  have h1 := h.rd; have h2 := h.r0; have h3 := h.f0; have h4 := h.n0; have h5 := h.eq
  have h6 := Int.mul_nonneg h3 h2
  by_cases hn : n = 0
  · exact .inr hn
  · have h7 : 1 * d ≤ n * d := Int.mul_le_mul_of_nonneg_right (by omega) (by omega)
    left; omega
/-- The steps, so many of them. -/
def euF : Nat → Int → Int → Int → Int → Bool → Int × Int × Bool
  | 0, d, _, f, _, b => (d, f, b)
  | k + 1, d, r, f, n, b => if r = 0 then (d, f, b) else euF k r (d % r) n (f + d / r * n) (!b)
theorem euF_end (k : Nat) (d f n : Int) (b : Bool) : euF k d 0 f n b = (d, f, b) := by cases k <;> simp [euF]
theorem euF_step (k : Nat) (d r f n : Int) (b : Bool) (h : r ≠ 0) : euF (k + 1) d r f n b = euF k r (d % r) n (f + d / r * n) (!b) := by simp [euF, h]
theorem euF_spec (m a : Int) : ∀ (k : Nat) (d r f n : Int) (b : Bool), r.toNat ≤ k → EI m a d r f n b → f ≤ m →
    (euF k d r f n b).1 = gI d r ∧ 0 ≤ (euF k d r f n b).2.1 ∧ (euF k d r f n b).2.1 ≤ m ∧ m ∣ sg (euF k d r f n b).2.2 * (euF k d r f n b).2.1 * a - (euF k d r f n b).1
  | 0, d, r, f, n, b, hk, h, hf => by
    have hr : r = 0 := by have := h.r0; omega
    subst hr
    exact ⟨(gI_0 d (by have := h.rd; omega)).symm, h.f0, hf, h.df⟩
  | k + 1, d, r, f, n, b, hk, h, hf => by
    by_cases hr : r = 0
    · subst hr
      rw [euF_end]
      exact ⟨(gI_0 d (by have := h.rd; omega)).symm, h.f0, hf, h.df⟩
    · rw [euF_step _ _ _ _ _ _ hr]
      have hs := h.step hr
      have := euF_spec m a k r (d % r) n (f + d / r * n) (!b) (by have := hs.rd; have := hs.r0; omega) hs h.nm
      rw [gI_step d r (by have := h.rd; have := h.r0; omega) h.r0 hr] at this
      exact this
/-- What euclid answers. -/
def eu (m a : Int) : Int × Int × Bool := euF a.toNat m a 0 1 true
theorem eu_spec {m a : Int} (h0 : 0 ≤ a) (h1 : a < m) : (eu m a).1 = gI m a ∧ 0 ≤ (eu m a).2.1 ∧ (eu m a).2.1 ≤ m ∧ m ∣ sg (eu m a).2.2 * (eu m a).2.1 * a - (eu m a).1 :=
  euF_spec m a _ m a 0 1 true (Nat.le_refl _) (EI.start h0 h1) (by omega)
/-- The inverse. -/
def IsInv (a m x : Int) : Prop := 0 ≤ x ∧ x < m ∧ m ∣ x * a - 1
theorem IsInv.uniq {a m x y : Int} (hx : IsInv a m x) (hy : IsInv a m y) : x = y := by
  obtain ⟨p, hp⟩ := hx.2.2
  obtain ⟨q, hq⟩ := hy.2.2
  have h1 : m ∣ x - y := ⟨y * p - x * q, by grind⟩
  have h2 := hx.1; have h3 := hx.2.1; have h4 := hy.1; have h5 := hy.2.1
  obtain ⟨k, hk⟩ := h1
  have : k = 0 := by
    have hm : 0 < m := by omega
    by_cases hk0 : k = 0
    · exact hk0
    · exfalso
      rcases Int.lt_or_gt_of_ne hk0 with h | h
      · have := Int.mul_le_mul_of_nonneg_left (show k ≤ -1 by omega) (show 0 ≤ m by omega); omega
      · have := Int.mul_le_mul_of_nonneg_left (show 1 ≤ k by omega) (show 0 ≤ m by omega); omega
  subst this; omega
theorem eu_pos {m a : Int} (h0 : 0 ≤ a) (h1 : a < m) (hg : gI m a = 1) (hb : (eu m a).2.2 = false) : IsInv a m (eu m a).2.1 := by
  obtain ⟨e1, e2, e3, e4⟩ := eu_spec h0 h1
  rw [e1, hg, hb] at e4
  have e5 : m ∣ (eu m a).2.1 * a - 1 := by simpa [sg] using e4
  refine ⟨e2, ?_, e5⟩
  by_cases hm : (eu m a).2.1 = m
  · exfalso
    rw [hm] at e5
    obtain ⟨k, hk⟩ := e5
    have h6 : m ∣ 1 := ⟨a - k, by grind⟩
    have h7 := Int.le_of_dvd (by omega) h6
    have h8 : m = 1 := by omega
    have h9 : a = 0 := by omega
    subst h8 h9
    simp [eu, euF] at hb
  · omega
theorem eu_neg {m a : Int} (h0 : 0 ≤ a) (h1 : a < m) (hg : gI m a = 1) (hb : (eu m a).2.2 = true) : IsInv a m ((0 - (eu m a).2.1) % m) := by
  obtain ⟨e1, e2, e3, e4⟩ := eu_spec h0 h1
  rw [e1, hg, hb] at e4
  have e5 : m ∣ -(eu m a).2.1 * a - 1 := by simpa [sg] using e4
  refine ⟨Int.emod_nonneg _ (by omega), Int.emod_lt_of_pos _ (by omega), ?_⟩
  obtain ⟨k, hk⟩ := e5
  have e := Int.mul_ediv_add_emod (0 - (eu m a).2.1) m
  refine ⟨k - (0 - (eu m a).2.1) / m * a, ?_⟩
  generalize (0 - (eu m a).2.1) / m = q at *
  generalize (0 - (eu m a).2.1) % m = t at *
  grind
theorem IsInv.ex {m a : Int} (h0 : 0 ≤ a) (h1 : a < m) (hg : gI m a = 1) : ∃ x, IsInv a m x := by
  cases hb : (eu m a).2.2
  · exact ⟨_, eu_pos h0 h1 hg hb⟩
  · exact ⟨_, eu_neg h0 h1 hg hb⟩
end Go.Proofs.Ytkpnjmfndgfogaa
