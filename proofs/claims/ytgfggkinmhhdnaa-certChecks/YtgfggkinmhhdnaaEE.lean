import Derived.Test.YtgfggkinmhhdnaaMA1
import Derived.Test.YtgfggkinmhhdnaaRS
import Derived.Test.YtgfggkinmhhdnaaRC
/- Numbers modulo one: Gcd. -/
namespace Go.Proofs.Ytgfggkinmhhdnaa
open Go.RowKit
set_option linter.unusedVariables false
set_option linter.unusedSimpArgs false
/-- The greatest common divisor. -/
def gI (a b : Int) : Int := (Nat.gcd a.toNat b.toNat : Int)
theorem gI_0 (a : Int) (ha : 0 ≤ a) : gI a 0 = a := by unfold gI; simp; omega
theorem gI_step (x y : Int) (hx : 0 ≤ x) (hy : 0 ≤ y) (h : y ≠ 0) : gI y (x % y) = gI x y := by
  unfold gI
  obtain ⟨p, rfl⟩ := Int.eq_ofNat_of_zero_le hx
  obtain ⟨q, rfl⟩ := Int.eq_ofNat_of_zero_le hy
  have e : ((p : Int) % (q : Int)).toNat = p % q := by rw [← Int.natCast_emod]; rfl
  rw [e]
  simp only [Int.toNat_natCast]
  rw [Nat.gcd_comm p q, Nat.gcd_rec q p, Nat.gcd_comm]
set_option maxRecDepth 100000 in
set_option maxHeartbeats 4000000 in
theorem mGcd (a b : Int) (w : World) (ha : In a) (hb : In b) :
    Calls Try.prog 51 #[NV a, NV b] w fun e w' => e = .returned (NV (gI a b)) ∧ Below w.heap.size w w' := by
  go_enter Try.func51, Try.ntmps51
  go_wp2_with fail
  generalize hC : (((w.alloc (.cells (LN a : List Value).toArray 24)).alloc (.cells (LN b : List Value).toArray 24)).alloc (.cells (L0s : List Value).toArray 24)) = v0 at *
  have HB0 : Below w.heap.size w v0 := by rw [← hC]; exact (balloc (balloc (balloc (bself w) _) _) _)
  have K0p0 : CV v0 (w.heap.size) (LN a) := by rw [← hC]; exact (((CV.new w (LN a) 24).alloc (by simp <;> omega) _).alloc (by simp <;> omega) _)
  have l0p0 : w.heap.size < v0.heap.size := by rw [← hC]; simp <;> omega
  have K0p1 : CV v0 (w.heap.size + 1) (LN b) := by rw [← hC]; exact ((CV.newAt (w.alloc (.cells (LN a : List Value).toArray 24)) (LN b) 24 _ (by simp)).alloc (by simp <;> omega) _)
  have l0p1 : w.heap.size + 1 < v0.heap.size := by rw [← hC]; simp <;> omega
  have K0r4 : CV v0 (w.heap.size + 1 + 1) (L0s) := by rw [← hC]; exact (CV.newAt ((w.alloc (.cells (LN a : List Value).toArray 24)).alloc (.cells (LN b : List Value).toArray 24)) (L0s) 24 _ (by simp))
  have l0r4 : w.heap.size + 1 + 1 < v0.heap.size := by rw [← hC]; simp <;> omega
  clear hC
  go_loopw [9] (fun _ wr => ∃ x y : Int, In x ∧ In y ∧ Hid (gI x y = gI a b) ∧ Below w.heap.size w wr ∧ CV wr (w.heap.size) (LN x) ∧ CV wr (w.heap.size + 1) (LN y) ∧ CV wr (w.heap.size + 1 + 1) L0s ∧ w.heap.size + 1 + 1 < wr.heap.size) (fun _ wr => natAt wr (w.heap.size + 1))
  case atStart => exact ⟨a, b, ha, hb, rfl, HB0, K0p0, K0p1, K0r4, l0r4⟩
  case round =>
    obtain ⟨x, y, hx, hy, hg, HBr, Kr0, Kr1, Kr2, szr⟩ := hrel
    clear HB0 K0p0 K0p1 K0r4
    by_cases h0 : y = 0
    · have hz : decide (y = 0) = !false := by simp [h0]
      have hgx : gI a b = x := by rw [← hg.out, h0, gI_0 x hx.1]
      have Hg : Hid _ := hgx
      clear hgx hg h0
      go_upto_region 1 with fail
      refine region_plain [7, 8, 9] (fun fZ tZ uZ => MR w.heap.size w (wr.heap.size) [(w.heap.size, LN x), (w.heap.size + 1, LN y), (w.heap.size + 1 + 1, L0s)] [] [] uZ ∧ Gs fZ tZ [(0, 7, NV y), (1, 8, A4 (0) (0) (0) (0)), (2, 9, .bool false)] ∧ Os fZ [] ∧ Ns fZ tZ []) (by kernel_rfl) ?_ ?_ ?_
      · exact ⟨{ bel := HBr, lo := HBr.size, sz := Nat.le_refl _, ks := ⟨⟨(by omega), Kr0⟩, ⟨(by omega), Kr1⟩, ⟨szr, Kr2⟩, trivial⟩, ex := trivial, nw := trivial, nd := trivial }, Gs.none _ _, Os.none _, trivial⟩
      · rintro fZ tZ uZ iZ oZ aZ hF ⟨hM, hG, hO, hN⟩ ho hfi hdep
        obtain ⟨hS, hV⟩ := hF.two 19 (by decide) rfl (by decide)
        rcases cZ3 ho with rfl | rfl | rfl <;> cases ho
        · exact t_load (show aZ.eval (.tmp 3) = .pointer (some ⟨w.heap.size + 1, 0, none⟩) from (hF.out 3 (by decide)).trans rfl) hM.ks.2.1.2 Try.underlying24 info_api_Nat hF hS rfl rfl rfl rfl rfl (by decide) (Jt hM hG hN)
        · refine op_plain rfl rfl (fun K hK => ?_)
          refine wp_val (v := A4 (0) (0) (0) (0)) (w' := uZ) (by kernel_rfl) ?_
          exact tell hK hF hS (by decide) (Jt hM hG hN)
        · refine op_plain rfl rfl (fun K hK => ?_)
          refine wp_bin rfl (ve 7 hV (hG.1 (dd 0 hdep))) (ve 8 hV (hG.2.1 (dd 1 hdep))) (neq_0 _ _ hy _ hz uZ) ?_
          exact tell hK hF hS (by decide) (Jt hM hG hN)
      rintro fZ tZ u1 ⟨hM, hG, hO, hN⟩ hall
      have e7 : tZ 7 = _ := hG.1 (hall 0 (by decide))
      have e8 : tZ 8 = _ := hG.2.1 (hall 1 (by decide))
      have e9 : tZ 9 = _ := hG.2.2.1 (hall 2 (by decide))
      have HB1 : Below w.heap.size w u1 := hM.bel
      have sz1 : wr.heap.size ≤ u1.heap.size := hM.sz
      have K1p0 : CV u1 (w.heap.size) (LN x) := hM.ks.1.2
      have l1p0 : w.heap.size < u1.heap.size := Nat.lt_of_lt_of_le hM.ks.1.1 hM.sz
      have K1r4 : CV u1 (w.heap.size + 1 + 1) (L0s) := hM.ks.2.2.1.2
      have l1r4 : w.heap.size + 1 + 1 < u1.heap.size := Nat.lt_of_lt_of_le hM.ks.2.2.1.1 hM.sz
      simp only [ovr, List.set_cons_zero, List.set_cons_succ, e7, e8, e9]
      clear hM hG hO hN hall e7 e8 e9 Kr0 Kr1 Kr2
      clear tZ
      go_upto_region 4 with fail
      refine region_plain [18] (fun fZ tZ uZ => MR w.heap.size w (u1.heap.size) [(w.heap.size, LN x)] [(w.heap.size + 1 + 1, fZ 1, L0s, LN x)] [] uZ ∧ Gs fZ tZ [(0, 18, NV x)] ∧ Os fZ [] ∧ Ns fZ tZ []) (by kernel_rfl) ?_ ?_ ?_
      · exact ⟨{ bel := HB1, lo := HB1.size, sz := Nat.le_refl _, ks := ⟨⟨l1p0, K1p0⟩, trivial⟩, ex := ⟨⟨(by omega), l1r4, rfl, K1r4⟩, trivial⟩, nw := trivial, nd := trivial }, Gs.none _ _, Os.none _, trivial⟩
      · rintro fZ tZ uZ iZ oZ aZ hF ⟨hM, hG, hO, hN⟩ ho hfi hdep
        obtain ⟨hS, hV⟩ := hF.two 19 (by decide) rfl (by decide)
        rcases cZ2 ho with rfl | rfl <;> cases ho
        · exact t_load (show aZ.eval (.tmp 2) = .pointer (some ⟨w.heap.size, 0, none⟩) from (hF.out 2 (by decide)).trans rfl) hM.ks.1.2 Try.underlying24 info_api_Nat hF hS rfl rfl rfl rfl rfl (by decide) (Jt hM hG hN)
        · refine op_plain rfl rfl (fun K hK => ?_)
          have kk : CV uZ (w.heap.size + 1 + 1) (bif fZ 1 then LN x else L0s) := hM.ex.1.2.2.2
          rw [hfi] at kk
          have kk : CV uZ (w.heap.size + 1 + 1) (L0s) := kk
          refine wp_store_mid 24 _ _ rfl (w.heap.size + 1 + 1) 0 (LN x : List Value).toArray (show aZ.eval (.tmp 4) = .pointer (some ⟨w.heap.size + 1 + 1, 0, none⟩) from (hF.out 4 (by decide)).trans rfl) (ve 18 hV (hG.1 (dd 0 hdep))) kk.there info_api_Nat (all_one rfl) ?_
          exact tell0 hK hF ⟨MR.putXF 0 hM rfl ⟨by omega, trivial⟩ trivial, Gs.idle rfl hG, trivial, Ns.idle hN⟩
      rintro fZ tZ u2 ⟨hM, hG, hO, hN⟩ hall
      have e18 : tZ 18 = _ := hG.1 (hall 0 (by decide))
      have HB2 : Below w.heap.size w u2 := hM.bel
      have sz2 : u1.heap.size ≤ u2.heap.size := hM.sz
      have K2r4 : CV u2 (w.heap.size + 1 + 1) (LN x) := by
        have h1 : CV u2 (w.heap.size + 1 + 1) (bif fZ 1 then LN x else L0s) := hM.ex.1.2.2.2
        rw [hall 1 (by decide)] at h1; exact h1
      have l2r4 : w.heap.size + 1 + 1 < u2.heap.size := Nat.lt_of_lt_of_le hM.ex.1.2.1 hM.sz
      simp only [ovr, List.set_cons_zero, List.set_cons_succ, e18]
      clear hM hG hO hN hall e18 K1p0 K1r4 HB1
      clear tZ
      have c4_0 := (K2r4 0 _ rfl).1
      have c4_1 := (K2r4 1 _ rfl).1
      have c4_2 := (K2r4 2 _ rfl).1
      have c4_3 := (K2r4 3 _ rfl).1
      go_wp2
      refine bodyPost_ret (v := NV x) (by simp [results, Try.results51, go_sem, c4_0, c4_1, c4_2, c4_3]) rfl ⟨by rw [Hg.out], HB2⟩
    · have hz : decide (y = 0) = !true := by simp [h0]
      have hgx : Hid (gI y (x % y) = gI a b) := by rw [gI_step x y hx.1 hy.1 h0]; exact hg
      have hlt := Int.emod_lt_of_pos x (show 0 < y by have := hy.1; omega)
      have hnn := Int.emod_nonneg x h0
      have n0 : Hid _ := natAt_of Kr1 hy
      clear hg
      go_upto_region 1 with fail
      refine region_plain [7, 8, 9] (fun fZ tZ uZ => MR w.heap.size w (wr.heap.size) [(w.heap.size, LN x), (w.heap.size + 1, LN y), (w.heap.size + 1 + 1, L0s)] [] [] uZ ∧ Gs fZ tZ [(0, 7, NV y), (1, 8, A4 (0) (0) (0) (0)), (2, 9, .bool true)] ∧ Os fZ [] ∧ Ns fZ tZ []) (by kernel_rfl) ?_ ?_ ?_
      · exact ⟨{ bel := HBr, lo := HBr.size, sz := Nat.le_refl _, ks := ⟨⟨(by omega), Kr0⟩, ⟨(by omega), Kr1⟩, ⟨szr, Kr2⟩, trivial⟩, ex := trivial, nw := trivial, nd := trivial }, Gs.none _ _, Os.none _, trivial⟩
      · rintro fZ tZ uZ iZ oZ aZ hF ⟨hM, hG, hO, hN⟩ ho hfi hdep
        obtain ⟨hS, hV⟩ := hF.two 19 (by decide) rfl (by decide)
        rcases cZ3 ho with rfl | rfl | rfl <;> cases ho
        · exact t_load (show aZ.eval (.tmp 3) = .pointer (some ⟨w.heap.size + 1, 0, none⟩) from (hF.out 3 (by decide)).trans rfl) hM.ks.2.1.2 Try.underlying24 info_api_Nat hF hS rfl rfl rfl rfl rfl (by decide) (Jt hM hG hN)
        · refine op_plain rfl rfl (fun K hK => ?_)
          refine wp_val (v := A4 (0) (0) (0) (0)) (w' := uZ) (by kernel_rfl) ?_
          exact tell hK hF hS (by decide) (Jt hM hG hN)
        · refine op_plain rfl rfl (fun K hK => ?_)
          refine wp_bin rfl (ve 7 hV (hG.1 (dd 0 hdep))) (ve 8 hV (hG.2.1 (dd 1 hdep))) (neq_0 _ _ hy _ hz uZ) ?_
          exact tell hK hF hS (by decide) (Jt hM hG hN)
      rintro fZ tZ u1 ⟨hM, hG, hO, hN⟩ hall
      have e7 : tZ 7 = _ := hG.1 (hall 0 (by decide))
      have e8 : tZ 8 = _ := hG.2.1 (hall 1 (by decide))
      have e9 : tZ 9 = _ := hG.2.2.1 (hall 2 (by decide))
      have HB1 : Below w.heap.size w u1 := hM.bel
      have sz1 : wr.heap.size ≤ u1.heap.size := hM.sz
      have K1p0 : CV u1 (w.heap.size) (LN x) := hM.ks.1.2
      have l1p0 : w.heap.size < u1.heap.size := Nat.lt_of_lt_of_le hM.ks.1.1 hM.sz
      have K1p1 : CV u1 (w.heap.size + 1) (LN y) := hM.ks.2.1.2
      have l1p1 : w.heap.size + 1 < u1.heap.size := Nat.lt_of_lt_of_le hM.ks.2.1.1 hM.sz
      have K1r4 : CV u1 (w.heap.size + 1 + 1) (L0s) := hM.ks.2.2.1.2
      have l1r4 : w.heap.size + 1 + 1 < u1.heap.size := Nat.lt_of_lt_of_le hM.ks.2.2.1.1 hM.sz
      simp only [ovr, List.set_cons_zero, List.set_cons_succ, e7, e8, e9]
      clear hM hG hO hN hall e7 e8 e9 Kr0 Kr1 Kr2
      clear tZ
      go_upto_region 2 with fail
      refine region_plain [11, 12, 13, 10, 14, 15, 5, 6] (fun fZ tZ uZ => MR w.heap.size w (u1.heap.size) [(w.heap.size, LN x), (w.heap.size + 1, LN y), (w.heap.size + 1 + 1, L0s)] [] [(fZ 6, fZ 8, tZ 5, L0s, LN (x / y)), (fZ 7, fZ 9, tZ 6, L0s, LN (x % y))] uZ ∧ Gs fZ tZ [(0, 11, NV x), (1, 12, NV y), (2, 13, .tuple #[NV (x / y), NV (x % y)]), (3, 10, .tuple #[NV (x / y), NV (x % y)]), (4, 14, NV (x / y)), (5, 15, NV (x % y))] ∧ Os fZ [(8, 6), (9, 7)] ∧ Ns fZ tZ []) (by kernel_rfl) ?_ ?_ ?_
      · exact ⟨{ bel := HB1, lo := HB1.size, sz := Nat.le_refl _, ks := ⟨⟨l1p0, K1p0⟩, ⟨l1p1, K1p1⟩, ⟨l1r4, K1r4⟩, trivial⟩, ex := trivial, nw := ⟨fun e => (by cases e), fun e => (by cases e), trivial⟩, nd := ⟨fun e => (by cases e), fun e => (by cases e), trivial⟩ }, Gs.none _ _, Os.none _, trivial⟩
      · rintro fZ tZ uZ iZ oZ aZ hF ⟨hM, hG, hO, hN⟩ ho hfi hdep
        obtain ⟨hS, hV⟩ := hF.two 19 (by decide) rfl (by decide)
        rcases cZ10 ho with rfl | rfl | rfl | rfl | rfl | rfl | rfl | rfl | rfl | rfl <;> cases ho
        · exact t_load (show aZ.eval (.tmp 2) = .pointer (some ⟨w.heap.size, 0, none⟩) from (hF.out 2 (by decide)).trans rfl) hM.ks.1.2 Try.underlying24 info_api_Nat hF hS rfl rfl rfl rfl rfl (by decide) (Jm hM hG hO hN)
        · exact t_load (show aZ.eval (.tmp 3) = .pointer (some ⟨w.heap.size + 1, 0, none⟩) from (hF.out 3 (by decide)).trans rfl) hM.ks.2.1.2 Try.underlying24 info_api_Nat hF hS rfl rfl rfl rfl rfl (by decide) (Jm hM hG hO hN)
        · exact t_call (vs := [NV x, NV y]) (by show [aZ.eval (.tmp 11), aZ.eval (.tmp 12)] = _; rw [(ve 11 hV (hG.1 (dd 0 hdep))), (ve 12 hV (hG.2.1 (dd 1 hdep)))]) ent_mod_divide (mdivide x y uZ hx hy h0) hF hS rfl rfl rfl rfl (by decide) (fun _ hB => (Jm (hM.call hB) hG hO hN))
        · exact t_move (ve 13 hV (hG.2.2.1 (dd 2 hdep))) hF hS rfl rfl rfl rfl (by decide) (Jm hM hG hO hN)
        · exact t_extract (ve 10 hV (hG.2.2.2.1 (dd 3 hdep))) hF hS rfl rfl rfl rfl rfl (by decide) (Jm hM hG hO hN)
        · exact t_extract (ve 10 hV (hG.2.2.2.1 (dd 3 hdep))) hF hS rfl rfl rfl rfl rfl (by decide) (Jm hM hG hO hN)
        · refine op_plain rfl rfl (fun K hK => ?_)
          refine wp_alloc rfl (al_api_Nat uZ) ?_
          have q1 : fZ 8 = false := Os.not (hO.1) hfi
          exact tell hK hF hS (by decide) ⟨MR.newF 0 hM rfl hfi q1, Gs.other rfl hG, hO.keep rfl, Ns.step hN rfl⟩
        · refine op_plain rfl rfl (fun K hK => ?_)
          refine wp_alloc rfl (al_api_Nat uZ) ?_
          have q1 : fZ 9 = false := Os.not (hO.2.1) hfi
          exact tell hK hF hS (by decide) ⟨MR.newF 1 hM rfl hfi q1, Gs.other rfl hG, hO.keep rfl, Ns.step hN rfl⟩
        · refine op_plain rfl rfl (fun K hK => ?_)
          have y6 : fZ 6 = true := dd 6 hdep
          obtain ⟨bb, eb, b1, b2, b3⟩ := hM.nw.1 y6
          have eb : tZ 5 = .pointer (some ⟨bb, 0, none⟩) := eb
          refine wp_store_mid 24 _ _ rfl bb 0 (LN (x / y) : List Value).toArray ((hV 5 (by decide)).trans eb) (ve 14 hV (hG.2.2.2.2.1 (dd 4 hdep))) (by have h2 := b3; simp only [hfi] at h2; exact h2.there) info_api_Nat (all_one rfl) ?_
          exact tell0 hK hF ⟨MR.putF 0 hM rfl y6 eb b1 rfl, Gs.idle rfl hG, ⟨fun _ => (dd 6 hdep :), hO.2.1, trivial⟩, Ns.idle hN⟩
        · refine op_plain rfl rfl (fun K hK => ?_)
          have y7 : fZ 7 = true := dd 7 hdep
          obtain ⟨bb, eb, b1, b2, b3⟩ := hM.nw.2.1 y7
          have eb : tZ 6 = .pointer (some ⟨bb, 0, none⟩) := eb
          refine wp_store_mid 24 _ _ rfl bb 0 (LN (x % y) : List Value).toArray ((hV 6 (by decide)).trans eb) (ve 15 hV (hG.2.2.2.2.2.1 (dd 5 hdep))) (by have h2 := b3; simp only [hfi] at h2; exact h2.there) info_api_Nat (all_one rfl) ?_
          exact tell0 hK hF ⟨MR.putF 1 hM rfl y7 eb b1 rfl, Gs.idle rfl hG, ⟨hO.1, fun _ => (dd 7 hdep :), trivial⟩, Ns.idle hN⟩
      rintro fZ tZ u2 ⟨hM, hG, hO, hN⟩ hall
      have e11 : tZ 11 = _ := hG.1 (hall 0 (by decide))
      have e12 : tZ 12 = _ := hG.2.1 (hall 1 (by decide))
      have e13 : tZ 13 = _ := hG.2.2.1 (hall 2 (by decide))
      have e10 : tZ 10 = _ := hG.2.2.2.1 (hall 3 (by decide))
      have e14 : tZ 14 = _ := hG.2.2.2.2.1 (hall 4 (by decide))
      have e15 : tZ 15 = _ := hG.2.2.2.2.2.1 (hall 5 (by decide))
      obtain ⟨b2_6, ee5, pb2_6, lb2_6, kb2_6⟩ := hM.nw.1 (hall 6 (by decide))
      have e5 : tZ 5 = .pointer (some ⟨b2_6, 0, none⟩) := ee5
      clear ee5
      have Kb2_6 : CV u2 b2_6 (LN (x / y)) := by
        have h1 : CV u2 b2_6 (bif fZ 8 then LN (x / y) else L0s) := kb2_6
        rw [hall 8 (by decide)] at h1; exact h1
      clear kb2_6
      obtain ⟨b2_7, ee6, pb2_7, lb2_7, kb2_7⟩ := hM.nw.2.1 (hall 7 (by decide))
      have e6 : tZ 6 = .pointer (some ⟨b2_7, 0, none⟩) := ee6
      clear ee6
      have Kb2_7 : CV u2 b2_7 (LN (x % y)) := by
        have h1 : CV u2 b2_7 (bif fZ 9 then LN (x % y) else L0s) := kb2_7
        rw [hall 9 (by decide)] at h1; exact h1
      clear kb2_7
      have nb2_6_b2_7 : b2_6 ≠ b2_7 := fun e => (hM.nd.1 (hall 6 (by decide))).1 (hall 7 (by decide)) (by show tZ 6 = tZ 5; rw [e6, e5, e])
      have HB2 : Below w.heap.size w u2 := hM.bel
      have sz2 : u1.heap.size ≤ u2.heap.size := hM.sz
      have K2p0 : CV u2 (w.heap.size) (LN x) := hM.ks.1.2
      have l2p0 : w.heap.size < u2.heap.size := Nat.lt_of_lt_of_le hM.ks.1.1 hM.sz
      have K2p1 : CV u2 (w.heap.size + 1) (LN y) := hM.ks.2.1.2
      have l2p1 : w.heap.size + 1 < u2.heap.size := Nat.lt_of_lt_of_le hM.ks.2.1.1 hM.sz
      have K2r4 : CV u2 (w.heap.size + 1 + 1) (L0s) := hM.ks.2.2.1.2
      have l2r4 : w.heap.size + 1 + 1 < u2.heap.size := Nat.lt_of_lt_of_le hM.ks.2.2.1.1 hM.sz
      simp only [ovr, List.set_cons_zero, List.set_cons_succ, e11, e12, e13, e10, e14, e15, e5, e6]
      clear hM hG hO hN hall e11 e12 e13 e10 e14 e15 e5 e6 K1p0 K1p1 K1r4 HB1
      clear tZ
      go_upto_region 3 with fail
      refine region_drawn [16, 17] (fun fZ tZ uZ => MR w.heap.size w (u2.heap.size) [(w.heap.size + 1 + 1, L0s), (b2_7, LN (x % y))] [(w.heap.size, fZ 2, LN x, LN y), (w.heap.size + 1, fZ 3, LN y, LN (x % y))] [] uZ ∧ Gs fZ tZ [(0, 16, NV y), (1, 17, NV (x % y))] ∧ Os fZ [(3, 0)] ∧ Ns fZ tZ []) (by kernel_rfl) (by kernel_rfl) ?_ ?_ ?_
      · exact ⟨{ bel := HB2.drew, lo := HB2.size, sz := Nat.le_refl _, ks := ⟨⟨l2r4, K2r4⟩, ⟨lb2_7, Kb2_7⟩, trivial⟩, ex := ⟨⟨(by omega), l2p0, rfl, K2p0⟩, ⟨(by omega), l2p1, rfl, K2p1⟩, trivial⟩, nw := trivial, nd := trivial }, Gs.none _ _, Os.none _, trivial⟩
      · rintro fZ tZ uZ iZ oZ aZ hF ⟨hM, hG, hO, hN⟩ ho hfi hdep
        obtain ⟨hS, hV⟩ := hF.two 19 (by decide) rfl (by decide)
        rcases cZ4 ho with rfl | rfl | rfl | rfl <;> cases ho
        · refine op_plain rfl rfl (fun K hK => ?_)
          have ys : fZ 3 = false := Os.not (hO.1) hfi
          have kk : CV uZ (w.heap.size + 1) (bif fZ 3 then LN (x % y) else LN y) := hM.ex.2.1.2.2.2
          rw [ys] at kk
          have kk : CV uZ (w.heap.size + 1) (LN y) := kk
          refine wp_load_mid 24 _ rfl (w.heap.size + 1) 0 (show aZ.eval (.tmp 3) = .pointer (some ⟨w.heap.size + 1, 0, none⟩) from (hF.out 3 (by decide)).trans rfl) (LN y) _ kk.range Try.underlying24 rfl info_api_Nat ?_
          exact tell hK hF hS (by decide) (Jm hM hG hO hN)
        · exact t_load (show aZ.eval (.tmp 6) = .pointer (some ⟨b2_7, 0, none⟩) from (hF.out 6 (by decide)).trans rfl) hM.ks.2.1.2 Try.underlying24 info_api_Nat hF hS rfl rfl rfl rfl rfl (by decide) (Jm hM hG hO hN)
        · refine op_plain rfl rfl (fun K hK => ?_)
          have kk : CV uZ (w.heap.size) (bif fZ 2 then LN y else LN x) := hM.ex.1.2.2.2
          rw [hfi] at kk
          have kk : CV uZ (w.heap.size) (LN x) := kk
          refine wp_store_mid 24 _ _ rfl (w.heap.size) 0 (LN y : List Value).toArray (show aZ.eval (.tmp 2) = .pointer (some ⟨w.heap.size, 0, none⟩) from (hF.out 2 (by decide)).trans rfl) (ve 16 hV (hG.1 (dd 0 hdep))) kk.there info_api_Nat (all_one rfl) ?_
          exact tell0 hK hF ⟨MR.putXF 0 hM rfl ⟨by omega, by omega, trivial⟩ ⟨by omega, trivial⟩, Gs.idle rfl hG, hO.keep rfl, Ns.idle hN⟩
        · refine op_plain rfl rfl (fun K hK => ?_)
          have kk : CV uZ (w.heap.size + 1) (bif fZ 3 then LN (x % y) else LN y) := hM.ex.2.1.2.2.2
          rw [hfi] at kk
          have kk : CV uZ (w.heap.size + 1) (LN y) := kk
          refine wp_store_mid 24 _ _ rfl (w.heap.size + 1) 0 (LN (x % y) : List Value).toArray (show aZ.eval (.tmp 3) = .pointer (some ⟨w.heap.size + 1, 0, none⟩) from (hF.out 3 (by decide)).trans rfl) (ve 17 hV (hG.2.1 (dd 1 hdep))) kk.there info_api_Nat (all_one rfl) ?_
          exact tell0 hK hF ⟨MR.putXF 1 hM rfl ⟨by omega, by omega, trivial⟩ ⟨by omega, trivial⟩, Gs.idle rfl hG, ⟨fun _ => hdep ⟨0, .phase⟩ (by simp) rfl, trivial⟩, Ns.idle hN⟩
      rintro fZ tZ u3 ⟨hM, hG, hO, hN⟩ hall
      have e16 : tZ 16 = _ := hG.1 (hall 0 (by decide))
      have e17 : tZ 17 = _ := hG.2.1 (hall 1 (by decide))
      have HB3 : Below w.heap.size w u3 := hM.bel
      have sz3 : u2.heap.size ≤ u3.heap.size := hM.sz
      have K3r4 : CV u3 (w.heap.size + 1 + 1) (L0s) := hM.ks.1.2
      have l3r4 : w.heap.size + 1 + 1 < u3.heap.size := Nat.lt_of_lt_of_le hM.ks.1.1 hM.sz
      have K3p0 : CV u3 (w.heap.size) (LN y) := by
        have h1 : CV u3 (w.heap.size) (bif fZ 2 then LN y else LN x) := hM.ex.1.2.2.2
        rw [hall 2 (by decide)] at h1; exact h1
      have l3p0 : w.heap.size < u3.heap.size := Nat.lt_of_lt_of_le hM.ex.1.2.1 hM.sz
      have K3p1 : CV u3 (w.heap.size + 1) (LN (x % y)) := by
        have h1 : CV u3 (w.heap.size + 1) (bif fZ 3 then LN (x % y) else LN y) := hM.ex.2.1.2.2.2
        rw [hall 3 (by decide)] at h1; exact h1
      have l3p1 : w.heap.size + 1 < u3.heap.size := Nat.lt_of_lt_of_le hM.ex.2.1.2.1 hM.sz
      simp only [ovr, List.set_cons_zero, List.set_cons_succ, e16, e17]
      clear hM hG hO hN hall e16 e17 K2p0 K2p1 K2r4 Kb2_7 HB2
      clear tZ
      go_wp2
      refine ⟨⟨y, x % y, hy, In_mod hy h0, hgx, HB3, K3p0, K3p1, K3r4, l3r4⟩, ?_⟩
      rw [natAt_of K3p1 (In_mod hy h0), n0.out]
      omega
end Go.Proofs.Ytgfggkinmhhdnaa
/- Euclid's steps with their factors: plain numbers. -/
namespace Go.Proofs.Ytgfggkinmhhdnaa
set_option linter.unusedVariables false
def sg (b : Bool) : Int := if b then -1 else 1
theorem sg_not (b : Bool) : sg (!b) = -(sg b) := by cases b <;> rfl
structure EI (m a d r f n : Int) (b : Bool) : Prop where
  r0 : 0 ≤ r
  rd : r < d
  f0 : 0 ≤ f
  n0 : 0 ≤ n
  eq : f * r + n * d = m
  df : m ∣ sg b * f * a - d
  dn : m ∣ -(sg b) * n * a - r
theorem EI.start {m a : Int} (h0 : 0 ≤ a) (h1 : a < m) : EI m a m a 0 1 true where
  r0 := h0
  rd := h1
  f0 := by omega
  n0 := by omega
  eq := by omega
  df := ⟨-1, by simp⟩
  dn := ⟨0, by simp [sg]⟩
theorem EI.step {m a d r f n : Int} {b : Bool} (h : EI m a d r f n b) (hr : r ≠ 0) : EI m a r (d % r) n (f + d / r * n) (!b) where
  r0 := Int.emod_nonneg _ hr
  rd := Int.emod_lt_of_pos _ (by have := h.r0; omega)
  f0 := h.n0
  n0 := by
    have h1 := h.f0; have h2 := h.n0
    have h3 : 0 ≤ d / r := Int.ediv_nonneg (by have := h.rd; have := h.r0; omega) h.r0
    have := Int.mul_nonneg h3 h2
    omega
  eq := by
    have e := Int.mul_ediv_add_emod d r
    have := h.eq
    generalize d / r = q at *
    generalize d % r = s at *
    grind
  df := by rw [sg_not]; exact h.dn
  dn := by
    rw [sg_not]
    have e := Int.mul_ediv_add_emod d r
    obtain ⟨p, hp⟩ := h.df
    obtain ⟨s, hs⟩ := h.dn
    refine ⟨p - d / r * s, ?_⟩
    generalize d / r = q at *
    generalize d % r = t at *
    grind
theorem EI.nm {m a d r f n : Int} {b : Bool} (h : EI m a d r f n b) : n ≤ m := by
  have h1 := h.rd; have h2 := h.r0; have h3 := h.f0; have h4 := h.n0; have h5 := h.eq
  have h6 := Int.mul_nonneg h3 h2
  have h7 : n * 1 ≤ n * d := Int.mul_le_mul_of_nonneg_left (by omega) h4
  omega
/-- The steps, so many of them. -/
def euF : Nat → Int → Int → Int → Int → Bool → Int × Int × Bool
  | 0, d, _, f, _, b => (d, f, b)
  | k + 1, d, r, f, n, b => if r = 0 then (d, f, b) else euF k r (d % r) n (f + d / r * n) (!b)
theorem euF_end (k : Nat) (d f n : Int) (b : Bool) : euF k d 0 f n b = (d, f, b) := by cases k <;> simp [euF]
theorem euF_step (k : Nat) (d r f n : Int) (b : Bool) (h : r ≠ 0) : euF (k + 1) d r f n b = euF k r (d % r) n (f + d / r * n) (!b) := by simp [euF, h]
theorem euF_spec (m a : Int) : ∀ (k : Nat) (d r f n : Int) (b : Bool), r.toNat ≤ k → EI m a d r f n b → f ≤ m →
    (euF k d r f n b).1 = gI d r ∧ 0 ≤ (euF k d r f n b).2.1 ∧ (euF k d r f n b).2.1 ≤ m ∧ m ∣ sg (euF k d r f n b).2.2 * (euF k d r f n b).2.1 * a - (euF k d r f n b).1
  | 0, d, r, f, n, b, hk, h, hf => by
    have hr : r = 0 := by have := h.r0; omega
    subst hr
    exact ⟨(gI_0 d (by have := h.rd; omega)).symm, h.f0, hf, h.df⟩
  | k + 1, d, r, f, n, b, hk, h, hf => by
    by_cases hr : r = 0
    · subst hr
      rw [euF_end]
      exact ⟨(gI_0 d (by have := h.rd; omega)).symm, h.f0, hf, h.df⟩
    · rw [euF_step _ _ _ _ _ _ hr]
      have hs := h.step hr
      have := euF_spec m a k r (d % r) n (f + d / r * n) (!b) (by have := hs.rd; have := hs.r0; omega) hs h.nm
      rw [gI_step d r (by have := h.rd; have := h.r0; omega) h.r0 hr] at this
      exact this
/-- What euclid answers. -/
def eu (m a : Int) : Int × Int × Bool := euF a.toNat m a 0 1 true
theorem eu_spec {m a : Int} (h0 : 0 ≤ a) (h1 : a < m) : (eu m a).1 = gI m a ∧ 0 ≤ (eu m a).2.1 ∧ (eu m a).2.1 ≤ m ∧ m ∣ sg (eu m a).2.2 * (eu m a).2.1 * a - (eu m a).1 :=
  euF_spec m a _ m a 0 1 true (Nat.le_refl _) (EI.start h0 h1) (by omega)
/-- The inverse. -/
def IsInv (a m x : Int) : Prop := 0 ≤ x ∧ x < m ∧ m ∣ x * a - 1
theorem IsInv.uniq {a m x y : Int} (hx : IsInv a m x) (hy : IsInv a m y) : x = y := by
  obtain ⟨p, hp⟩ := hx.2.2
  obtain ⟨q, hq⟩ := hy.2.2
  have h1 : m ∣ x - y := ⟨y * p - x * q, by grind⟩
  have h2 := hx.1; have h3 := hx.2.1; have h4 := hy.1; have h5 := hy.2.1
  obtain ⟨k, hk⟩ := h1
  have : k = 0 := by
    have hm : 0 < m := by omega
    by_cases hk0 : k = 0
    · exact hk0
    · exfalso
      rcases Int.lt_or_gt_of_ne hk0 with h | h
      · have := Int.mul_le_mul_of_nonneg_left (show k ≤ -1 by omega) (show 0 ≤ m by omega); omega
      · have := Int.mul_le_mul_of_nonneg_left (show 1 ≤ k by omega) (show 0 ≤ m by omega); omega
  subst this; omega
theorem eu_pos {m a : Int} (h0 : 0 ≤ a) (h1 : a < m) (hg : gI m a = 1) (hb : (eu m a).2.2 = false) : IsInv a m (eu m a).2.1 := by
  obtain ⟨e1, e2, e3, e4⟩ := eu_spec h0 h1
  rw [e1, hg, hb] at e4
  have e5 : m ∣ (eu m a).2.1 * a - 1 := by simpa [sg] using e4
  refine ⟨e2, ?_, e5⟩
  by_cases hm : (eu m a).2.1 = m
  · exfalso
    rw [hm] at e5
    obtain ⟨k, hk⟩ := e5
    have h6 : m ∣ 1 := ⟨a - k, by grind⟩
    have h7 := Int.le_of_dvd (by omega) h6
    have h8 : m = 1 := by omega
    have h9 : a = 0 := by omega
    subst h8 h9
    simp [eu, euF] at hb
  · omega
theorem eu_neg {m a : Int} (h0 : 0 ≤ a) (h1 : a < m) (hg : gI m a = 1) (hb : (eu m a).2.2 = true) : IsInv a m ((0 - (eu m a).2.1) % m) := by
  obtain ⟨e1, e2, e3, e4⟩ := eu_spec h0 h1
  rw [e1, hg, hb] at e4
  have e5 : m ∣ -(eu m a).2.1 * a - 1 := by simpa [sg] using e4
  refine ⟨Int.emod_nonneg _ (by omega), Int.emod_lt_of_pos _ (by omega), ?_⟩
  obtain ⟨k, hk⟩ := e5
  have e := Int.mul_ediv_add_emod (0 - (eu m a).2.1) m
  refine ⟨k - (0 - (eu m a).2.1) / m * a, ?_⟩
  generalize (0 - (eu m a).2.1) / m = q at *
  generalize (0 - (eu m a).2.1) % m = t at *
  grind
theorem IsInv.ex {m a : Int} (h0 : 0 ≤ a) (h1 : a < m) (hg : gI m a = 1) : ∃ x, IsInv a m x := by
  cases hb : (eu m a).2.2
  · exact ⟨_, eu_pos h0 h1 hg hb⟩
  · exact ⟨_, eu_neg h0 h1 hg hb⟩
end Go.Proofs.Ytgfggkinmhhdnaa
/- Numbers modulo one: euclid. -/
namespace Go.Proofs.Ytgfggkinmhhdnaa
open Go.RowKit
set_option linter.unusedVariables false
set_option linter.unusedSimpArgs false
theorem LN_0 : LN 0 = [.int .u64 0, .int .u64 0, .int .u64 0, .int .u64 0] := by simp [LN, D0, D1, D2, D3]
theorem In_le {m x : Int} (hm : In m) (h0 : 0 ≤ x) (h1 : x ≤ m) : In x := ⟨h0, by have := hm.2; omega⟩
theorem mlowI (n : Int) (w : World) (h : In n) : Calls Try.prog 79 #[WV n] w fun e w' => e = .returned (NV n) ∧ Below w.heap.size w w' := by
  have := mlow n w
  rw [In_lo h] at this; exact this
set_option maxRecDepth 100000 in
set_option maxHeartbeats 4000000 in
theorem meuclid (m a : Int) (w : World) (hm : In m) (ha : In a) (h0 : 0 ≤ a) (h1 : a < m) :
    Calls Try.prog 92 #[NV m, NV a] w fun e w' => e = .returned (.tuple #[NV (eu m a).1, NV (eu m a).2.1, .bool (eu m a).2.2]) ∧ Below w.heap.size w w' := by
  go_enter Try.func92, Try.ntmps92
  go_upto_region 1 with fail
  generalize hC : ((((w.alloc (.cells (LN m : List Value).toArray 24)).alloc (.cells (LN a : List Value).toArray 24)).alloc (.cells (L0s : List Value).toArray 24)).alloc (.cells (L0s : List Value).toArray 24)) = v0 at *
  have HB0 : Below w.heap.size w v0 := by rw [← hC]; exact balloc (balloc (balloc (balloc (bself w) _) _) _) _
  have K0 : Bk w.heap.size v0 [(true, w.heap.size, LN m), (true, w.heap.size + 1, LN a), (true, w.heap.size + 1 + 1, L0s), (true, w.heap.size + 1 + 1 + 1, L0s)] := by rw [← hC]; exact (Bk.nil _ w).ad.ad.ad.ad
  clear hC
  refine rgD K0 HB0 HB0.size [.no, .no, .all 3 (LN m)] [(2, 7, L0s, some (4, LN a))] [(0, 13, NV m), (1, 14, NV a)] [(4, 2)] [] [] ?_ ?_
  · refine oc (g_ld 0 uN iN) ?_
    refine oc (g_ld 1 uN iN) ?_
    refine oc (g_al 0 aN) ?_
    refine oc (g_st 2 iN) ?_
    exact oc (g_sn 0 iN) on
  intro u1 b1_2 HB1 sz1 K1
  simp only [fX, nK, nP, Wr.f, aK, pM] at K1
  simp only [setG, setN, List.set_cons_zero, List.set_cons_succ]
  clear K0 HB0
  go_upto_region 2 with fail
  refine rgP K1 HB1 HB1.size [.no, .no, .no, .all 3 ([.int .u64 (0), .int .u64 (0), .int .u64 (0), .int .u64 (0)])] [(2, 8, L0s, some (4, LN 1))] [(0, 15, A4 (0) (0) (0) (0)), (1, 16, NV 1)] [(4, 2)] [] [] ?_ ?_
  · refine oc (g_bd zN) ?_
    refine oc (g_cl ent_limb_Of (fun uZ => nOf 1 uZ (by omega) (by omega))) ?_
    refine oc (g_al 0 aN) ?_
    refine oc (g_st 3 iN) ?_
    exact oc (g_sn 0 iN) on
  intro u2 b2_2 HB2 sz2 K2
  simp only [fX, nK, nP, Wr.f, aK, pM] at K2
  simp only [setG, setN, List.set_cons_zero, List.set_cons_succ]
  clear K1 HB1
  go_wp2_with fail
  go_loopw [6] (fun s6 wr => ∃ (k : Nat) (d r f n : Int) (b : Bool), s6 = .bool b ∧ r.toNat ≤ k ∧ EI m a d r f n b ∧ d ≤ m ∧ f ≤ m ∧ Hid (euF k d r f n b = eu m a) ∧ Below w.heap.size w wr ∧ CV wr (w.heap.size + 1 + 1) (LN d) ∧ CV wr (w.heap.size + 1 + 1 + 1) (LN f) ∧ CV wr (b1_2) (LN r) ∧ CV wr (b2_2) (LN n) ∧ b1_2 < wr.heap.size ∧ b2_2 < wr.heap.size) (fun _ wr => natAt wr (b1_2))
  case atStart => exact ⟨a.toNat, m, a, 0, 1, true, rfl, Nat.le_refl _, EI.start h0 h1, by omega, by have := hm.1; omega, rfl, HB2, (K2.cv 2), by rw [LN_0]; exact (K2.cv 3), (K2.cv 4), (K2.cv 5), (K2.lt 4), (K2.lt 5)⟩
  case round =>
    obtain ⟨k, d, r, f, n, b, rfl, hk, hE, hdm, hfm, hg, HBr, Kd, Kf, Kr, Kn, lr, ln⟩ := hrel
    have id : In d := In_le hm (by have := hE.r0; have := hE.rd; omega) hdm
    have ir : In r := In_le hm hE.r0 (by have := hE.rd; omega)
    have if' : In f := In_le hm hE.f0 hfm
    have inn : In n := In_le hm hE.n0 hE.nm
    clear HB2
    have hn := K2.n
    simp at hn
    have ho4 := K2.lo 4
    have ho5 := K2.lo 5
    by_cases h2 : r = 0
    · have hz : decide (r = 0) = !false := by simp [h2]
      have hgx : eu m a = (d, f, b) := by rw [← hg.out, h2, euF_end]
      have Hg : Hid _ := hgx
      clear hgx hg h2
      have K2_1 : Bk w.heap.size wr [(true, w.heap.size + 1 + 1, LN d), (true, w.heap.size + 1 + 1 + 1, LN f), (false, b1_2, LN r), (false, b2_2, LN n)] := ⟨.o (by omega) (K2.lo 2) Kd <| .o (by omega) (K2.lo 3) Kf <| .c lr Kr <| .c ln Kn <| trivial, by simp; omega⟩
      go_upto_region 4 with fail
      refine rgP K2_1 HBr HBr.size [] [] [(0, 17, NV r), (1, 18, A4 (0) (0) (0) (0)), (2, 19, .bool false)] [] [] [true, true, false, false] ?_ ?_
      · refine oc (g_ld 2 uN iN) ?_
        refine oc (g_bd zN) ?_
        exact oc (g_bn (fun uZ => neq_0 _ _ ir _ hz uZ)) on
      intro u3 HB3 sz3 K3
      simp only [fX, nK, nP, Wr.f, aK, pM] at K3
      simp only [setG, setN, List.set_cons_zero, List.set_cons_succ]
      go_upto_region 10 with fail
      refine rgD K3 HB3 HB3.size [.all 3 (LN d), .all 4 (LN f)] [] [(0, 41, NV d), (1, 42, NV f), (2, 43, .bool b), (5, 6, .bool b)] [(3, 0), (4, 1), (5, 2)] [(5, 6)] [] ?_ ?_
      · refine oc (g_ld 0 uN iN) ?_
        refine oc (g_ld 1 uN iN) ?_
        refine oc g_mv ?_
        refine oc (g_st 0 iN) ?_
        refine oc (g_st 1 iN) ?_
        exact oc g_as on
      intro u4 HB4 sz4 K4
      simp only [fX, nK, nP, Wr.f, aK, pM] at K4
      simp only [setG, setN, List.set_cons_zero, List.set_cons_succ]
      clear K3 HB3
      have c4_0 := ((K4.cv 0) 0 _ rfl).1
      have c4_1 := ((K4.cv 0) 1 _ rfl).1
      have c4_2 := ((K4.cv 0) 2 _ rfl).1
      have c4_3 := ((K4.cv 0) 3 _ rfl).1
      have c5_0 := ((K4.cv 1) 0 _ rfl).1
      have c5_1 := ((K4.cv 1) 1 _ rfl).1
      have c5_2 := ((K4.cv 1) 2 _ rfl).1
      have c5_3 := ((K4.cv 1) 3 _ rfl).1
      go_wp2
      refine bodyPost_ret (v := .tuple #[NV d, NV f, .bool b]) (by simp [results, Try.results92, go_sem, c4_0, c4_1, c4_2, c4_3, c5_0, c5_1, c5_2, c5_3]) rfl ⟨by rw [Hg.out], HB4⟩
    · have hz : decide (r = 0) = !true := by simp [h2]
      have hs := hE.step h2
      obtain ⟨k', rfl⟩ : ∃ k', k = k' + 1 := ⟨k - 1, by have := hE.r0; omega⟩
      have hgx : Hid (euF k' r (d % r) n (f + d / r * n) (!b) = eu m a) := by rw [← euF_step k' d r f n b h2]; exact hg
      have i1 : In (d % r) := In_mod ir h2
      have q0 : 0 ≤ d / r * n := Int.mul_nonneg (Int.ediv_nonneg id.1 ir.1) inn.1
      have i3 : In (f + d / r * n) := In_le hm hs.n0 hs.nm
      have i2 : In (d / r * n) := In_le hm q0 (by have := hs.nm; have := if'.1; omega)
      have i4 : In (d / r) := In_div id ir h2
      have i5 : f + d / r * n < 115792089237316195423570985008687907853269984665640564039457584007913129639936 := i3.2
      have n0 : Hid _ := natAt_of Kr ir
      clear hg
      have K2_1 : Bk w.heap.size wr [(true, w.heap.size + 1 + 1, LN d), (true, w.heap.size + 1 + 1 + 1, LN f), (true, b1_2, LN r), (true, b2_2, LN n)] := ⟨.o (by omega) (K2.lo 2) Kd <| .o (by omega) (K2.lo 3) Kf <| .o lr (K2.lo 4) Kr <| .o ln (K2.lo 5) Kn <| trivial, by simp; omega⟩
      go_upto_region 4 with fail
      refine rgP K2_1 HBr HBr.size [] [] [(0, 17, NV r), (1, 18, A4 (0) (0) (0) (0)), (2, 19, .bool true)] [] [] [] ?_ ?_
      · refine oc (g_ld 2 uN iN) ?_
        refine oc (g_bd zN) ?_
        exact oc (g_bn (fun uZ => neq_0 _ _ ir _ hz uZ)) on
      intro u3 HB3 sz3 K3
      simp only [fX, nK, nP, Wr.f, aK, pM] at K3
      simp only [setG, setN, List.set_cons_zero, List.set_cons_succ]
      go_upto_region 5 with fail
      refine rgP K3 HB3 HB3.size [] [(6, 9, L0s, some (8, LN (d / r))), (7, 10, L0s, some (9, LN (d % r)))] [(0, 21, NV d), (1, 22, NV r), (2, 23, .tuple #[NV (d / r), NV (d % r)]), (3, 20, .tuple #[NV (d / r), NV (d % r)]), (4, 24, NV (d / r)), (5, 25, NV (d % r))] [(8, 6), (9, 7)] [] [] ?_ ?_
      · refine oc (g_ld 0 uN iN) ?_
        refine oc (g_ld 2 uN iN) ?_
        refine oc (g_cl ent_mod_divide (fun uZ => mdivide d r uZ id ir h2)) ?_
        refine oc g_mv ?_
        refine oc g_ex ?_
        refine oc g_ex ?_
        refine oc (g_al 0 aN) ?_
        refine oc (g_al 1 aN) ?_
        refine oc (g_sn 0 iN) ?_
        exact oc (g_sn 1 iN) on
      intro u4 b4_6 b4_7 HB4 sz4 K4
      simp only [fX, nK, nP, Wr.f, aK, pM] at K4
      simp only [setG, setN, List.set_cons_zero, List.set_cons_succ]
      clear K3 HB3
      go_upto_region 6 with fail
      refine rgD K4 HB4 HB4.size [.all 2 (LN r), .no, .all 3 (LN (d % r))] [] [(0, 26, NV r), (1, 27, NV (d % r))] [(3, 0)] [] [true, true, true, true, true, false] ?_ ?_
      · refine oc (g_ld 2 uN iN) ?_
        refine oc (g_ld 5 uN iN) ?_
        refine oc (g_st 0 iN) ?_
        exact oc (g_st 2 iN) on
      intro u5 HB5 sz5 K5
      simp only [fX, nK, nP, Wr.f, aK, pM] at K5
      simp only [setG, setN, List.set_cons_zero, List.set_cons_succ]
      clear K4 HB4
      go_upto_region 7 with fail
      refine rgD K5 HB5 HB5.size [] [(9, 11, L0s, some (10, LN (f + d / r * n)))] [(0, 29, NV f), (1, 30, NV (d / r)), (2, 31, NV n), (3, 32, WV (d / r * n)), (4, 33, NV (d / r * n)), (5, 34, .tuple #[NV (f + d / r * n), .bool false]), (6, 28, .tuple #[NV (f + d / r * n), .bool false]), (7, 35, NV (f + d / r * n)), (8, 36, .bool false), (11, 12, .bool false)] [(10, 9)] [] [true, true, true, true, false] ?_ ?_
      · refine oc (g_ld 1 uN iN) ?_
        refine oc (g_ld 4 uN iN) ?_
        refine oc (g_ld 3 uN iN) ?_
        refine oc (g_cl ent_limb_Mul (fun uZ => nMul (d / r) n uZ i4 inn)) ?_
        refine oc (g_cl ent_mod_low (fun uZ => mlowI (d / r * n) uZ i2)) ?_
        refine oc (g_cl ent_limb_Add (fun uZ => nAdd_lt f (d / r * n) uZ if' i2 i5)) ?_
        refine oc g_mv ?_
        refine oc g_ex ?_
        refine oc g_ex ?_
        refine oc (g_al 0 aN) ?_
        refine oc (g_sn 0 iN) ?_
        exact oc g_as on
      intro u6 b6_9 HB6 sz6 K6
      simp only [fX, nK, nP, Wr.f, aK, pM] at K6
      simp only [setG, setN, List.set_cons_zero, List.set_cons_succ]
      clear K5 HB5
      go_upto_region 8 with fail
      refine rgD K6 HB6 HB6.size [.no, .all 2 (LN n), .no, .all 3 (LN (f + d / r * n))] [] [(0, 37, NV n), (1, 38, NV (f + d / r * n))] [(3, 0)] [] [true, true, true, true, false] ?_ ?_
      · refine oc (g_ld 3 uN iN) ?_
        refine oc (g_ld 4 uN iN) ?_
        refine oc (g_st 1 iN) ?_
        exact oc (g_st 3 iN) on
      intro u7 HB7 sz7 K7
      simp only [fX, nK, nP, Wr.f, aK, pM] at K7
      simp only [setG, setN, List.set_cons_zero, List.set_cons_succ]
      clear K6 HB6
      go_upto_region 9 with fail
      refine rgP K7 HB7 HB7.size [] [] [(0, 39, .bool b), (1, 40, .bool (!b)), (2, 6, .bool (!b))] [(2, 0)] [(2, 6)] [] ?_ ?_
      · refine oc g_mv ?_
        refine oc (g_un (fun uZ => rfl)) ?_
        exact oc g_as on
      intro u8 HB8 sz8 K8
      simp only [fX, nK, nP, Wr.f, aK, pM] at K8
      simp only [setG, setN, List.set_cons_zero, List.set_cons_succ]
      clear K7 HB7
      go_wp2
      refine ⟨⟨k', r, d % r, n, f + d / r * n, !b, rfl, by have := hs.rd; have := hs.r0; omega, hs, by have := hE.rd; omega, hE.nm, hgx, HB8, (K8.cv 0), (K8.cv 1), (K8.cv 2), (K8.cv 3), (K8.lt 2), (K8.lt 3)⟩, ?_⟩
      rw [natAt_of (K8.cv 2) i1, n0.out]
      have := hs.rd; have := hs.r0; omega
end Go.Proofs.Ytgfggkinmhhdnaa
/- Numbers modulo one: Inverse. -/
namespace Go.Proofs.Ytgfggkinmhhdnaa
open Go.RowKit
set_option linter.unusedVariables false
set_option linter.unusedSimpArgs false
theorem NV_0 : NV 0 = A4 0 0 0 0 := NV_small (by omega) (by omega)
theorem In_0 : In 0 := ⟨by omega, by omega⟩
theorem In_1 : In 1 := ⟨by omega, by omega⟩
theorem mSub0 (b m : Int) (w : World) (hb : In b) (hm : In m) (h : m ≠ 0) : Calls Try.prog 49 #[A4 0 0 0 0, NV b, NV m] w fun e w' => e = .returned (.tuple #[NV ((0 - b) % m), .int .i64 0]) ∧ Below w.heap.size w w' := by
  rw [← NV_0]; exact mSub 0 b m w In_0 hb hm h
set_option maxRecDepth 100000 in
set_option maxHeartbeats 4000000 in
theorem mInverse_neg (a m x : Int) (w : World) (ha : In a) (hm : In m) (h : m ≠ 0) (hg : gI m (a % m) = 1) (hx : IsInv (a % m) m x) (hb : (eu m (a % m)).2.2 = true) :
    Calls Try.prog 84 #[NV a, NV m] w fun e w' => e = .returned (.tuple #[NV x, .int .i64 0]) ∧ Below w.heap.size w w' := by
  have ia : In (a % m) := In_mod hm h
  have h0 : 0 ≤ a % m := ia.1
  have h1 : a % m < m := Int.emod_lt_of_pos a (by have := hm.1; omega)
  obtain ⟨e1, e2, e3, e4⟩ := eu_spec h0 h1
  have hE := fun w => meuclid m (a % m) w hm ia h0 h1
  have hx' := hx.uniq (eu_neg h0 h1 hg hb)
  rw [e1, hg, hb] at hE
  generalize (eu m (a % m)).2.1 = f at *
  obtain ⟨d, hd⟩ : ∃ d : Int, d = 1 := ⟨1, rfl⟩
  rw [← hd] at hE
  have id : In d := by rw [hd]; exact In_1
  have if' : In f := In_le hm e2 e3
  have hz : decide (d = 1) = !false := by simp [hd]
  have hE' : Hid _ := hE
  have Hx : Hid _ := hx'
  clear hE hx' e1 e4 hg hb hx hd
  go_enter Try.func84, Try.ntmps84
  go_upto_region 1 with fail
  generalize hC : (((w.alloc (.cells (LN a : List Value).toArray 24)).alloc (.cells (LN m : List Value).toArray 24)).alloc (.cells (L0s : List Value).toArray 24)) = v0 at *
  have HB0 : Below w.heap.size w v0 := by rw [← hC]; exact balloc (balloc (balloc (bself w) _) _) _
  have K0 : Bk w.heap.size v0 [(true, w.heap.size, LN a), (true, w.heap.size + 1, LN m), (true, w.heap.size + 1 + 1, L0s)] := by rw [← hC]; exact (Bk.nil _ w).ad.ad.ad
  clear hC
  refine rgD K0 HB0 HB0.size [.all 7 (LN (a % m))] [] [(0, 11, NV a), (1, 12, WV a), (2, 13, NV m), (3, 14, .tuple #[NV (a % m), .int .i64 0]), (4, 10, .tuple #[NV (a % m), .int .i64 0]), (5, 15, NV (a % m)), (6, 16, .int .i64 0), (8, 6, .int .i64 0)] [(7, 0)] [] [] ?_ ?_
  · refine oc (g_ld 0 uN iN) ?_
    refine oc (g_cl ent_limb_Widen (fun uZ => nWiden a uZ ha)) ?_
    refine oc (g_ld 1 uN iN) ?_
    refine oc (g_cl ent_mod_Reduce (fun uZ => mReduce a m uZ ha.wide hm h)) ?_
    refine oc g_mv ?_
    refine oc g_ex ?_
    refine oc g_ex ?_
    refine oc (g_st 0 iN) ?_
    exact oc g_as on
  intro u1 HB1 sz1 K1
  simp only [fX, nK, nP, Wr.f, aK, pM] at K1
  simp only [setG, setN, List.set_cons_zero, List.set_cons_succ]
  clear K0 HB0
  go_upto_region 4 with fail
  refine rgP K1 HB1 HB1.size [] [(7, 7, L0s, some (9, LN d)), (8, 8, L0s, some (10, LN f))] [(0, 22, NV m), (1, 23, NV (a % m)), (2, 24, .tuple #[NV d, NV f, .bool true]), (3, 21, .tuple #[NV d, NV f, .bool true]), (4, 25, NV d), (5, 26, NV f), (6, 27, .bool true), (11, 9, .bool true)] [(9, 7), (10, 8)] [] [false] ?_ ?_
  · refine oc (g_ld 1 uN iN) ?_
    refine oc (g_ld 0 uN iN) ?_
    refine oc (g_cl ent_mod_euclid (fun uZ => hE'.out uZ)) ?_
    refine oc g_mv ?_
    refine oc g_ex ?_
    refine oc g_ex ?_
    refine oc g_ex ?_
    refine oc (g_al 0 aN) ?_
    refine oc (g_al 1 aN) ?_
    refine oc (g_sn 0 iN) ?_
    refine oc (g_sn 1 iN) ?_
    exact oc g_as on
  intro u2 b2_7 b2_8 HB2 sz2 K2
  simp only [fX, nK, nP, Wr.f, aK, pM] at K2
  simp only [setG, setN, List.set_cons_zero, List.set_cons_succ]
  clear K1 HB1
  go_upto_region 5 with fail
  refine rgD K2 HB2 HB2.size [] [] [(0, 29, NV d), (1, 30, NV 1), (2, 31, .bool false), (3, 28, .bool false)] [] [] [true, true, false] ?_ ?_
  · refine oc (g_ld 2 uN iN) ?_
    refine oc (g_cl ent_limb_Of (fun uZ => nOf 1 uZ (by omega) (by omega))) ?_
    refine oc (g_bn (fun uZ => neq_n _ _ id In_1 _ hz uZ)) ?_
    exact oc g_as on
  intro u3 HB3 sz3 K3
  simp only [fX, nK, nP, Wr.f, aK, pM] at K3
  simp only [setG, setN, List.set_cons_zero, List.set_cons_succ]
  clear K2 HB2
  go_upto_region 7 with fail
  refine rgP K3 HB3 HB3.size [] [] [(0, 34, .bool true), (1, 33, .bool true)] [] [] [] ?_ ?_
  · refine oc g_mv ?_
    exact oc g_as on
  intro u4 HB4 sz4 K4
  simp only [fX, nK, nP, Wr.f, aK, pM] at K4
  simp only [setG, setN, List.set_cons_zero, List.set_cons_succ]
  clear K3 HB3
  go_upto_region 8 with fail
  refine rgP K4 HB4 HB4.size [.no, .all 6 (LN ((0 - f) % m))] [] [(0, 35, A4 (0) (0) (0) (0)), (1, 36, NV f), (2, 37, NV m), (3, 38, .tuple #[NV ((0 - f) % m), .int .i64 0]), (4, 39, NV ((0 - f) % m)), (5, 40, .int .i64 0), (7, 5, .int .i64 0)] [] [] [false, true, false] ?_ ?_
  · refine oc (g_bd zN) ?_
    refine oc (g_ld 2 uN iN) ?_
    refine oc (g_ld 0 uN iN) ?_
    refine oc (g_cl ent_mod_Sub (fun uZ => mSub0 f m uZ if' hm h)) ?_
    refine oc g_ex ?_
    refine oc g_ex ?_
    refine oc (g_st 1 iN) ?_
    exact oc g_as on
  intro u5 HB5 sz5 K5
  simp only [fX, nK, nP, Wr.f, aK, pM] at K5
  simp only [setG, setN, List.set_cons_zero, List.set_cons_succ]
  clear K4 HB4
  have c4_0 := ((K5.cv 0) 0 _ rfl).1
  have c4_1 := ((K5.cv 0) 1 _ rfl).1
  have c4_2 := ((K5.cv 0) 2 _ rfl).1
  have c4_3 := ((K5.cv 0) 3 _ rfl).1
  go_wp2
  refine bodyPost_ret (v := .tuple #[NV ((0 - f) % m), .int .i64 0]) (by simp [results, Try.results84, go_sem, c4_0, c4_1, c4_2, c4_3]) rfl ⟨by rw [Hx.out], HB5⟩
set_option maxRecDepth 100000 in
set_option maxHeartbeats 4000000 in
theorem mInverse_pos (a m x : Int) (w : World) (ha : In a) (hm : In m) (h : m ≠ 0) (hg : gI m (a % m) = 1) (hx : IsInv (a % m) m x) (hb : (eu m (a % m)).2.2 = false) :
    Calls Try.prog 84 #[NV a, NV m] w fun e w' => e = .returned (.tuple #[NV x, .int .i64 0]) ∧ Below w.heap.size w w' := by
  have ia : In (a % m) := In_mod hm h
  have h0 : 0 ≤ a % m := ia.1
  have h1 : a % m < m := Int.emod_lt_of_pos a (by have := hm.1; omega)
  obtain ⟨e1, e2, e3, e4⟩ := eu_spec h0 h1
  have hE := fun w => meuclid m (a % m) w hm ia h0 h1
  have hx' := hx.uniq (eu_pos h0 h1 hg hb)
  rw [e1, hg, hb] at hE
  generalize (eu m (a % m)).2.1 = f at *
  obtain ⟨d, hd⟩ : ∃ d : Int, d = 1 := ⟨1, rfl⟩
  rw [← hd] at hE
  have id : In d := by rw [hd]; exact In_1
  have if' : In f := In_le hm e2 e3
  have hz : decide (d = 1) = !false := by simp [hd]
  have hE' : Hid _ := hE
  have Hx : Hid _ := hx'
  clear hE hx' e1 e4 hg hb hx hd
  go_enter Try.func84, Try.ntmps84
  go_upto_region 1 with fail
  generalize hC : (((w.alloc (.cells (LN a : List Value).toArray 24)).alloc (.cells (LN m : List Value).toArray 24)).alloc (.cells (L0s : List Value).toArray 24)) = v0 at *
  have HB0 : Below w.heap.size w v0 := by rw [← hC]; exact balloc (balloc (balloc (bself w) _) _) _
  have K0 : Bk w.heap.size v0 [(true, w.heap.size, LN a), (true, w.heap.size + 1, LN m), (true, w.heap.size + 1 + 1, L0s)] := by rw [← hC]; exact (Bk.nil _ w).ad.ad.ad
  clear hC
  refine rgD K0 HB0 HB0.size [.all 7 (LN (a % m))] [] [(0, 11, NV a), (1, 12, WV a), (2, 13, NV m), (3, 14, .tuple #[NV (a % m), .int .i64 0]), (4, 10, .tuple #[NV (a % m), .int .i64 0]), (5, 15, NV (a % m)), (6, 16, .int .i64 0), (8, 6, .int .i64 0)] [(7, 0)] [] [] ?_ ?_
  · refine oc (g_ld 0 uN iN) ?_
    refine oc (g_cl ent_limb_Widen (fun uZ => nWiden a uZ ha)) ?_
    refine oc (g_ld 1 uN iN) ?_
    refine oc (g_cl ent_mod_Reduce (fun uZ => mReduce a m uZ ha.wide hm h)) ?_
    refine oc g_mv ?_
    refine oc g_ex ?_
    refine oc g_ex ?_
    refine oc (g_st 0 iN) ?_
    exact oc g_as on
  intro u1 HB1 sz1 K1
  simp only [fX, nK, nP, Wr.f, aK, pM] at K1
  simp only [setG, setN, List.set_cons_zero, List.set_cons_succ]
  clear K0 HB0
  go_upto_region 4 with fail
  refine rgP K1 HB1 HB1.size [] [(7, 7, L0s, some (9, LN d)), (8, 8, L0s, some (10, LN f))] [(0, 22, NV m), (1, 23, NV (a % m)), (2, 24, .tuple #[NV d, NV f, .bool false]), (3, 21, .tuple #[NV d, NV f, .bool false]), (4, 25, NV d), (5, 26, NV f), (6, 27, .bool false), (11, 9, .bool false)] [(9, 7), (10, 8)] [] [false, false] ?_ ?_
  · refine oc (g_ld 1 uN iN) ?_
    refine oc (g_ld 0 uN iN) ?_
    refine oc (g_cl ent_mod_euclid (fun uZ => hE'.out uZ)) ?_
    refine oc g_mv ?_
    refine oc g_ex ?_
    refine oc g_ex ?_
    refine oc g_ex ?_
    refine oc (g_al 0 aN) ?_
    refine oc (g_al 1 aN) ?_
    refine oc (g_sn 0 iN) ?_
    refine oc (g_sn 1 iN) ?_
    exact oc g_as on
  intro u2 b2_7 b2_8 HB2 sz2 K2
  simp only [fX, nK, nP, Wr.f, aK, pM] at K2
  simp only [setG, setN, List.set_cons_zero, List.set_cons_succ]
  clear K1 HB1
  go_upto_region 5 with fail
  refine rgD K2 HB2 HB2.size [] [] [(0, 29, NV d), (1, 30, NV 1), (2, 31, .bool false), (3, 28, .bool false)] [] [] [true, false] ?_ ?_
  · refine oc (g_ld 1 uN iN) ?_
    refine oc (g_cl ent_limb_Of (fun uZ => nOf 1 uZ (by omega) (by omega))) ?_
    refine oc (g_bn (fun uZ => neq_n _ _ id In_1 _ hz uZ)) ?_
    exact oc g_as on
  intro u3 HB3 sz3 K3
  simp only [fX, nK, nP, Wr.f, aK, pM] at K3
  simp only [setG, setN, List.set_cons_zero, List.set_cons_succ]
  clear K2 HB2
  go_upto_region 7 with fail
  refine rgP K3 HB3 HB3.size [] [] [(0, 34, .bool false), (1, 33, .bool false)] [] [] [] ?_ ?_
  · refine oc g_mv ?_
    exact oc g_as on
  intro u4 HB4 sz4 K4
  simp only [fX, nK, nP, Wr.f, aK, pM] at K4
  simp only [setG, setN, List.set_cons_zero, List.set_cons_succ]
  clear K3 HB3
  go_upto_region 9 with fail
  refine rgP K4 HB4 HB4.size [.all 1 (LN f)] [] [(0, 41, NV f), (2, 5, (Go.Value.int Go.IntKind.i64 0))] [] [] [true, false] ?_ ?_
  · refine oc (g_ld 1 uN iN) ?_
    refine oc (g_st 0 iN) ?_
    exact oc g_as on
  intro u5 HB5 sz5 K5
  simp only [fX, nK, nP, Wr.f, aK, pM] at K5
  simp only [setG, setN, List.set_cons_zero, List.set_cons_succ]
  clear K4 HB4
  have c4_0 := ((K5.cv 0) 0 _ rfl).1
  have c4_1 := ((K5.cv 0) 1 _ rfl).1
  have c4_2 := ((K5.cv 0) 2 _ rfl).1
  have c4_3 := ((K5.cv 0) 3 _ rfl).1
  go_wp2
  refine bodyPost_ret (v := .tuple #[NV f, .int .i64 0]) (by simp [results, Try.results84, go_sem, c4_0, c4_1, c4_2, c4_3]) rfl ⟨by rw [Hx.out], HB5⟩
theorem mInverse (a m x : Int) (w : World) (ha : In a) (hm : In m) (h : m ≠ 0) (hg : gI m (a % m) = 1) (hx : IsInv (a % m) m x) :
    Calls Try.prog 84 #[NV a, NV m] w fun e w' => e = .returned (.tuple #[NV x, .int .i64 0]) ∧ Below w.heap.size w w' := by
  cases hb : (eu m (a % m)).2.2
  · exact mInverse_pos a m x w ha hm h hg hx hb
  · exact mInverse_neg a m x w ha hm h hg hx hb
end Go.Proofs.Ytgfggkinmhhdnaa
