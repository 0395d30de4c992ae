/- ModDivides: the walk. -/
import Derived.Test.YtnmkbihjbnbkkaaWK2
import Derived.Test.YtnmkbihjbnbkkaaWW
import Derived.Test.YtnmkbihjbnbkkaaYY
namespace Go.Proofs.Ytnmkbihjbnbkkaa
open Go.RowKit
set_option linter.unusedVariables false
set_option linter.unusedSimpArgs false
theorem nrWiden (n : Int) (w : World) (hn : In n) : Calls Try.prog 40 #[NV n] w fun e w' => e = .returned (WV n) ∧ Below w.heap.size w w' := by
  rw [WV_In hn]; exact rWiden_any _ _ _ _ w (W_D0 n) (W_D1 n) (W_D2 n) (W_D3 n)
theorem nrDivide (n m : Int) (w : World) (hn : InW n) (hm : In m) (h : m ≠ 0) : Calls Try.prog 42 #[WV n, NV m] w fun e w' => e = .returned (.tuple #[WV (n / m), NV (n % m), .int .i64 0]) ∧ Below w.heap.size w w' := by
  have k := rDivide_1 _ _ _ _ _ _ _ _ _ _ _ _ w (W_D0 n) (W_D1 n) (W_D2 n) (W_D3 n) (W_D0 (D4 n)) (W_D1 (D4 n)) (W_D2 (D4 n)) (W_D3 (D4 n)) (W_D0 m) (W_D1 m) (W_D2 m) (W_D3 m) (by rw [V_In hm]; exact h)
  simp only [V_In hm, V_InW hn] at k
  exact k
theorem bd4 (x y z t : Int) (w : World) : (Instr.build 25 [(0, .int .u64 x), (1, .int .u64 y), (2, .int .u64 z), (3, .int .u64 t)].toArray).run Try.prog w = .ok (A4 x y z t) w := by kernel_rfl
theorem gI_comm (a b : Int) : gI a b = gI b a := by unfold gI; rw [Nat.gcd_comm]
theorem gI_z {a b : Int} (ha : 0 ≤ a) (hb : 0 ≤ b) (h : gI a b = 0) : a = 0 ∧ b = 0 := by
  unfold gI at h
  have := Nat.gcd_eq_zero_iff.1 (show Nat.gcd a.toNat b.toNat = 0 by omega)
  omega
theorem gI_mod {a b : Int} (ha : 0 ≤ a) : a % gI a b = 0 := by
  unfold gI
  obtain ⟨n, rfl⟩ := Int.eq_ofNat_of_zero_le ha
  rw [← Int.natCast_emod, Int.toNat_natCast, Nat.mod_eq_zero_of_dvd (Nat.gcd_dvd_left n b.toNat)]; rfl
theorem gI_div {a b : Int} (ha : 0 ≤ a) (hb : 0 ≤ b) (h : gI a b ≠ 0) : gI (a / gI a b) (b / gI a b) = 1 := by
  unfold gI at *
  obtain ⟨n, rfl⟩ := Int.eq_ofNat_of_zero_le ha
  obtain ⟨k, rfl⟩ := Int.eq_ofNat_of_zero_le hb
  simp only [Int.toNat_natCast] at *
  rw [← Int.natCast_ediv, ← Int.natCast_ediv, Int.toNat_natCast, Int.toNat_natCast, Nat.gcd_div (Nat.gcd_dvd_left n k) (Nat.gcd_dvd_right n k), Nat.div_self (by omega)]; rfl
theorem In_g {a b : Int} (ha : In a) (hb : In b) : In (gI a b) := by
  by_cases h : a = 0
  · subst h
    rw [gI_comm, gI_0 b hb.1]; exact hb
  · exact In_gI hb ha h
set_option maxRecDepth 100000 in
set_option maxHeartbeats 4000000 in
theorem modDivides_any (a b : Int) (w : World) (ha : In a) (hb : In b) : Calls Try.prog 11 #[NV a, NV b] w fun en w' => en = .returned (.bool true) ∧ Below w.heap.size w w' := by
  obtain ⟨g, hg⟩ : ∃ g, gI a b = g := ⟨_, rfl⟩
  have hgi : Hid (gI a b = g) := hg
  have ig : In g := by rw [← hg]; exact In_g ha hb
  have hGc : Hid (∀ u, Calls Try.prog 33 #[NV a, NV b] u fun e u' => e = .returned (NV g) ∧ Below u.heap.size u u') := fun u => by rw [← hg]; exact mGcd a b u ha hb
  have hg2 : Hid (∀ u, Calls Try.prog 33 #[NV b, NV a] u fun e u' => e = .returned (NV g) ∧ Below u.heap.size u u') := fun u => by rw [← hg, gI_comm a b]; exact mGcd b a u hb ha
  have hg1 : True := trivial
  clear hg
  go_enter Try.func11, Try.ntmps11
  go_upto_region 1 with fail
  have HB0 : Below w.heap.size w ((w.alloc (.cells (LN (a) : List Value).toArray 25)).alloc (.cells (LN (b) : List Value).toArray 25)) := (balloc (balloc (bself w) _) _)
  have K0p0 : CV ((w.alloc (.cells (LN (a) : List Value).toArray 25)).alloc (.cells (LN (b) : List Value).toArray 25)) (w.heap.size) (LN (a)) := ((CV.new w (LN (a)) 25).alloc (by simp <;> omega) _)
  have l0p0 : w.heap.size < ((w.alloc (.cells (LN (a) : List Value).toArray 25)).alloc (.cells (LN (b) : List Value).toArray 25)).heap.size := by simp <;> omega
  have K0p1 : CV ((w.alloc (.cells (LN (a) : List Value).toArray 25)).alloc (.cells (LN (b) : List Value).toArray 25)) (w.heap.size + 1) (LN (b)) := (CV.newAt (w.alloc (.cells (LN (a) : List Value).toArray 25)) (LN (b)) 25 _ (by simp))
  have l0p1 : w.heap.size + 1 < ((w.alloc (.cells (LN (a) : List Value).toArray 25)).alloc (.cells (LN (b) : List Value).toArray 25)).heap.size := by simp <;> omega
  generalize ((w.alloc (.cells (LN (a) : List Value).toArray 25)).alloc (.cells (LN (b) : List Value).toArray 25)) = v0 at *
  refine region_plain [12, 13] (fun fZ tZ uZ => MR w.heap.size w (v0.heap.size) [(w.heap.size, LN (a)), (w.heap.size + 1, LN (b))] [] [] uZ ∧ Gs fZ tZ [(0, 12, .bool true), (1, 13, .bool false)] ∧ Os fZ [] ∧ Ns fZ tZ []) (by kernel_rfl) ?_ ?_ ?_
  · exact ⟨{ bel := HB0, lo := HB0.size, sz := Nat.le_refl _, ks := ⟨⟨l0p0, K0p0⟩, ⟨l0p1, K0p1⟩, trivial⟩, ex := trivial, nw := trivial, nd := trivial }, Gs.none _ _, Os.none _, trivial⟩
  · rintro fZ tZ uZ iZ oZ aZ hF ⟨hM, hG, hO, hN⟩ ho hfi hdep
    have hS : [12, 13].Nodup := by decide
    have hV := hF.evs (N := 82) (by decide) rfl (by decide)
    have il : iZ < 2 := (Array.getElem?_eq_some_iff.1 ho).1
    have ix : iZ = 0 ∨ iZ = 1 := by omega
    rcases ix with rfl | rfl
    · cases ho
      exact t_call (vs := []) (by show [] = _; rfl) ent_seneschallaw02_works (works2 uZ) hF hS rfl rfl rfl rfl (by decide) (fun _ hB => ⟨hM.call hB, Gs.stepA hG rfl rfl, trivial, Ns.step hN rfl⟩)
    · cases ho
      refine op_plain rfl rfl (fun K hK => ?_)
      have e12 := hG.1 (hdep ⟨0, .data⟩ (by simp) rfl)
      refine wp_un rfl ((hV 12 (by decide)).trans e12) (rfl) ?_
      exact tell hK hF hS (by decide) ⟨hM, Gs.stepA hG rfl rfl, trivial, Ns.step hN rfl⟩
  rintro fZ tZ u1 ⟨hM, hG, hO, hN⟩ hall
  have e12 : tZ 12 = _ := hG.1 (hall 0 (by decide))
  have e13 : tZ 13 = _ := hG.2.1 (hall 1 (by decide))
  have HB1 : Below w.heap.size w u1 := hM.bel
  have sz1 : v0.heap.size ≤ u1.heap.size := hM.sz
  have K1p0 : CV u1 (w.heap.size) (LN (a)) := hM.ks.1.2
  have l1p0 : w.heap.size < u1.heap.size := Nat.lt_of_lt_of_le hM.ks.1.1 hM.sz
  have K1p1 : CV u1 (w.heap.size + 1) (LN (b)) := hM.ks.2.1.2
  have l1p1 : w.heap.size + 1 < u1.heap.size := Nat.lt_of_lt_of_le hM.ks.2.1.1 hM.sz
  simp only [ovr, List.set_cons_zero, List.set_cons_succ, e12, e13]
  clear hM hG hO hN hall e12 e13 K0p0 K0p1 HB0
  clear tZ
  go_upto_region 3 with fail
  refine region_plain [14, 15, 16, 5] (fun fZ tZ uZ => MR w.heap.size w (u1.heap.size) [(w.heap.size, LN (a)), (w.heap.size + 1, LN (b))] [] [(fZ 3, fZ 4, tZ 5, L0s, LN (g))] uZ ∧ Gs fZ tZ [(0, 14, NV (a)), (1, 15, NV (b)), (2, 16, NV (g))] ∧ Os fZ [(4, 3)] ∧ Ns fZ tZ []) (by kernel_rfl) ?_ ?_ ?_
  · exact ⟨{ bel := HB1, lo := HB1.size, sz := Nat.le_refl _, ks := ⟨⟨l1p0, K1p0⟩, ⟨l1p1, K1p1⟩, trivial⟩, ex := trivial, nw := ⟨fun e => (by cases e), trivial⟩, nd := ⟨fun e => (by cases e), trivial⟩ }, Gs.none _ _, Os.none _, trivial⟩
  · rintro fZ tZ uZ iZ oZ aZ hF ⟨hM, hG, hO, hN⟩ ho hfi hdep
    have hS : [14, 15, 16, 5].Nodup := by decide
    have hV := hF.evs (N := 82) (by decide) rfl (by decide)
    have il : iZ < 5 := (Array.getElem?_eq_some_iff.1 ho).1
    have ix : iZ = 0 ∨ iZ = 1 ∨ iZ = 2 ∨ iZ = 3 ∨ iZ = 4 := by omega
    rcases ix with rfl | rfl | rfl | rfl | rfl
    · cases ho
      exact t_load (show aZ.eval (.tmp 2) = .pointer (some ⟨w.heap.size, 0, none⟩) from (hF.out 2 (by decide)).trans rfl) hM.ks.1.2 Try.underlying25 info_api_Nat hF hS rfl rfl rfl rfl rfl (by decide) ⟨hM, Gs.stepA hG rfl rfl, hO.keep rfl, Ns.step hN rfl⟩
    · cases ho
      exact t_load (show aZ.eval (.tmp 3) = .pointer (some ⟨w.heap.size + 1, 0, none⟩) from (hF.out 3 (by decide)).trans rfl) hM.ks.2.1.2 Try.underlying25 info_api_Nat hF hS rfl rfl rfl rfl rfl (by decide) ⟨hM, Gs.stepA hG rfl rfl, hO.keep rfl, Ns.step hN rfl⟩
    · cases ho
      have e14 := hG.1 (hdep ⟨0, .data⟩ (by simp) rfl)
      have e15 := hG.2.1 (hdep ⟨1, .data⟩ (by simp) rfl)
      exact t_call (vs := [NV (a), NV (b)]) (by show [aZ.eval (.tmp 14), aZ.eval (.tmp 15)] = _; rw [((hV 14 (by decide)).trans e14), ((hV 15 (by decide)).trans e15)]) ent_mod_Gcd (hGc.out uZ) hF hS rfl rfl rfl rfl (by decide) (fun _ hB => ⟨hM.call hB, Gs.stepA hG rfl rfl, hO.keep rfl, Ns.step hN rfl⟩)
    · cases ho
      refine op_plain rfl rfl (fun K hK => ?_)
      refine wp_alloc rfl (al_api_Nat uZ) ?_
      have q1 : fZ 4 = false := Os.not (hO.1) hfi
      exact tell hK hF hS (by decide) ⟨MR.newF 0 hM rfl hfi q1, Gs.other rfl hG, hO.keep rfl, Ns.step hN rfl⟩
    · cases ho
      refine op_plain rfl rfl (fun K hK => ?_)
      have y3 : fZ 3 = true := hdep ⟨3, .data⟩ (by simp) rfl
      obtain ⟨bb, eb, b1, b2, b3⟩ := hM.nw.1 y3
      have eb : tZ 5 = .pointer (some ⟨bb, 0, none⟩) := eb
      have e16 := hG.2.2.1 (hdep ⟨2, .data⟩ (by simp) rfl)
      refine wp_store_mid 25 _ _ rfl bb 0 (LN (g) : List Value).toArray ((hV 5 (by decide)).trans eb) ((hV 16 (by decide)).trans e16) (by have h2 := b3; simp only [hfi] at h2; exact h2.there) info_api_Nat (all_one rfl) ?_
      exact tell0 hK hF ⟨MR.putF 0 hM rfl y3 eb b1 rfl, Gs.idle rfl hG, ⟨fun _ => hdep ⟨3, .data⟩ (by simp) rfl, trivial⟩, Ns.idle hN⟩
  rintro fZ tZ u2 ⟨hM, hG, hO, hN⟩ hall
  have e14 : tZ 14 = _ := hG.1 (hall 0 (by decide))
  have e15 : tZ 15 = _ := hG.2.1 (hall 1 (by decide))
  have e16 : tZ 16 = _ := hG.2.2.1 (hall 2 (by decide))
  obtain ⟨b2_3, ee5, pb2_3, lb2_3, kb2_3⟩ := hM.nw.1 (hall 3 (by decide))
  have e5 : tZ 5 = .pointer (some ⟨b2_3, 0, none⟩) := ee5
  clear ee5
  have Kb2_3 : CV u2 b2_3 (LN (g)) := by
    have h1 : CV u2 b2_3 (bif fZ 4 then LN (g) else L0s) := kb2_3
    rw [hall 4 (by decide)] at h1; exact h1
  clear kb2_3
  have HB2 : Below w.heap.size w u2 := hM.bel
  have sz2 : u1.heap.size ≤ u2.heap.size := hM.sz
  have K2p0 : CV u2 (w.heap.size) (LN (a)) := hM.ks.1.2
  have l2p0 : w.heap.size < u2.heap.size := Nat.lt_of_lt_of_le hM.ks.1.1 hM.sz
  have K2p1 : CV u2 (w.heap.size + 1) (LN (b)) := hM.ks.2.1.2
  have l2p1 : w.heap.size + 1 < u2.heap.size := Nat.lt_of_lt_of_le hM.ks.2.1.1 hM.sz
  simp only [ovr, List.set_cons_zero, List.set_cons_succ, e14, e15, e16, e5]
  clear hM hG hO hN hall e14 e15 e16 e5 K1p0 K1p1 HB1
  clear tZ
  by_cases h : g = 0
  · have hz : decide (g = 0) = true := by simp [h]
    have h1 : decide (a = g) = true := by rw [h]; exact decide_eq_true (gI_z ha.1 hb.1 (by rw [hgi.out]; exact h)).1
    have h2 : decide (b = g) = true := by rw [h]; exact decide_eq_true (gI_z ha.1 hb.1 (by rw [hgi.out]; exact h)).2
    clear h hgi hg1 hg2
    go_upto_region 4 with fail
    refine region_plain [17, 18, 19] (fun fZ tZ uZ => MR w.heap.size w (u2.heap.size) [(w.heap.size, LN (a)), (w.heap.size + 1, LN (b)), (b2_3, LN (g))] [] [] uZ ∧ Gs fZ tZ [(0, 17, NV (g)), (1, 18, A4 (0) (0) (0) (0)), (2, 19, .bool true)] ∧ Os fZ [] ∧ Ns fZ tZ []) (by kernel_rfl) ?_ ?_ ?_
    · exact ⟨{ bel := HB2, lo := HB2.size, sz := Nat.le_refl _, ks := ⟨⟨l2p0, K2p0⟩, ⟨l2p1, K2p1⟩, ⟨lb2_3, Kb2_3⟩, trivial⟩, ex := trivial, nw := trivial, nd := trivial }, Gs.none _ _, Os.none _, trivial⟩
    · rintro fZ tZ uZ iZ oZ aZ hF ⟨hM, hG, hO, hN⟩ ho hfi hdep
      have hS : [17, 18, 19].Nodup := by decide
      have hV := hF.evs (N := 82) (by decide) rfl (by decide)
      have il : iZ < 3 := (Array.getElem?_eq_some_iff.1 ho).1
      have ix : iZ = 0 ∨ iZ = 1 ∨ iZ = 2 := by omega
      rcases ix with rfl | rfl | rfl
      · cases ho
        exact t_load (show aZ.eval (.tmp 5) = .pointer (some ⟨b2_3, 0, none⟩) from (hF.out 5 (by decide)).trans rfl) hM.ks.2.2.1.2 Try.underlying25 info_api_Nat hF hS rfl rfl rfl rfl rfl (by decide) ⟨hM, Gs.stepA hG rfl rfl, trivial, Ns.step hN rfl⟩
      · cases ho
        refine op_plain rfl rfl (fun K hK => ?_)
        refine wp_val (v := A4 (0) (0) (0) (0)) (w' := uZ) (by kernel_rfl) ?_
        exact tell hK hF hS (by decide) ⟨hM, Gs.stepA hG rfl rfl, trivial, Ns.step hN rfl⟩
      · cases ho
        refine op_plain rfl rfl (fun K hK => ?_)
        have e17 := hG.1 (hdep ⟨0, .data⟩ (by simp) rfl)
        have e18 := hG.2.1 (hdep ⟨1, .data⟩ (by simp) rfl)
        refine wp_bin rfl ((hV 17 (by decide)).trans e17) ((hV 18 (by decide)).trans e18) (eql_0 _ _ ig _ hz uZ) ?_
        exact tell hK hF hS (by decide) ⟨hM, Gs.stepA hG rfl rfl, trivial, Ns.step hN rfl⟩
    rintro fZ tZ u3 ⟨hM, hG, hO, hN⟩ hall
    have e17 : tZ 17 = _ := hG.1 (hall 0 (by decide))
    have e18 : tZ 18 = _ := hG.2.1 (hall 1 (by decide))
    have e19 : tZ 19 = _ := hG.2.2.1 (hall 2 (by decide))
    have HB3 : Below w.heap.size w u3 := hM.bel
    have sz3 : u2.heap.size ≤ u3.heap.size := hM.sz
    have K3p0 : CV u3 (w.heap.size) (LN (a)) := hM.ks.1.2
    have l3p0 : w.heap.size < u3.heap.size := Nat.lt_of_lt_of_le hM.ks.1.1 hM.sz
    have K3p1 : CV u3 (w.heap.size + 1) (LN (b)) := hM.ks.2.1.2
    have l3p1 : w.heap.size + 1 < u3.heap.size := Nat.lt_of_lt_of_le hM.ks.2.1.1 hM.sz
    have K3n3_3 : CV u3 (b2_3) (LN (g)) := hM.ks.2.2.1.2
    have l3n3_3 : b2_3 < u3.heap.size := Nat.lt_of_lt_of_le hM.ks.2.2.1.1 hM.sz
    simp only [ovr, List.set_cons_zero, List.set_cons_succ, e17, e18, e19]
    clear hM hG hO hN hall e17 e18 e19 K2p0 K2p1 Kb2_3 HB2
    clear tZ
    go_upto_region 5 with fail
    refine region_plain [20, 21, 22, 23, 24, 25, 26, 27, 4] (fun fZ tZ uZ => MR w.heap.size w (u3.heap.size) [(w.heap.size, LN (a)), (w.heap.size + 1, LN (b)), (b2_3, LN (g))] [] [] uZ ∧ Gs fZ tZ [(0, 20, NV (a)), (1, 21, NV (g)), (2, 22, .bool true), (3, 23, .bool true), (4, 24, NV (b)), (5, 25, NV (g)), (6, 26, .bool true), (7, 27, .bool true), (8, 4, .bool true)] ∧ Os fZ [] ∧ Ns fZ tZ []) (by kernel_rfl) ?_ ?_ ?_
    · exact ⟨{ bel := HB3, lo := HB3.size, sz := Nat.le_refl _, ks := ⟨⟨l3p0, K3p0⟩, ⟨l3p1, K3p1⟩, ⟨l3n3_3, K3n3_3⟩, trivial⟩, ex := trivial, nw := trivial, nd := trivial }, Gs.none _ _, Os.none _, trivial⟩
    · rintro fZ tZ uZ iZ oZ aZ hF ⟨hM, hG, hO, hN⟩ ho hfi hdep
      have hS : [20, 21, 22, 23, 24, 25, 26, 27, 4].Nodup := by decide
      have hV := hF.evs (N := 82) (by decide) rfl (by decide)
      have il : iZ < 9 := (Array.getElem?_eq_some_iff.1 ho).1
      have ix : iZ = 0 ∨ iZ = 1 ∨ iZ = 2 ∨ iZ = 3 ∨ iZ = 4 ∨ iZ = 5 ∨ iZ = 6 ∨ iZ = 7 ∨ iZ = 8 := by omega
      rcases ix with rfl | rfl | rfl | rfl | rfl | rfl | rfl | rfl | rfl
      · cases ho
        exact t_load (show aZ.eval (.tmp 2) = .pointer (some ⟨w.heap.size, 0, none⟩) from (hF.out 2 (by decide)).trans rfl) hM.ks.1.2 Try.underlying25 info_api_Nat hF hS rfl rfl rfl rfl rfl (by decide) ⟨hM, Gs.stepA hG rfl rfl, trivial, Ns.step hN rfl⟩
      · cases ho
        exact t_load (show aZ.eval (.tmp 5) = .pointer (some ⟨b2_3, 0, none⟩) from (hF.out 5 (by decide)).trans rfl) hM.ks.2.2.1.2 Try.underlying25 info_api_Nat hF hS rfl rfl rfl rfl rfl (by decide) ⟨hM, Gs.stepA hG rfl rfl, trivial, Ns.step hN rfl⟩
      · cases ho
        refine op_plain rfl rfl (fun K hK => ?_)
        have e20 := hG.1 (hdep ⟨0, .data⟩ (by simp) rfl)
        have e21 := hG.2.1 (hdep ⟨1, .data⟩ (by simp) rfl)
        refine wp_bin rfl ((hV 20 (by decide)).trans e20) ((hV 21 (by decide)).trans e21) (eql_n _ _ ha ig true h1 uZ) ?_
        exact tell hK hF hS (by decide) ⟨hM, Gs.stepA hG rfl rfl, trivial, Ns.step hN rfl⟩
      · cases ho
        have e22 := hG.2.2.1 (hdep ⟨2, .data⟩ (by simp) rfl)
        exact t_move ((hV 22 (by decide)).trans e22) hF hS rfl rfl rfl rfl (by decide) ⟨hM, Gs.stepA hG rfl rfl, trivial, Ns.step hN rfl⟩
      · cases ho
        refine wpOp_step rfl (fun K hK => ?_)
        have yg : fZ 3 = true := hdep ⟨3, .guard⟩ (by simp) rfl
        have eg : tZ 23 = .bool true := hG.2.2.2.1 yg
        rw [if_pos (wanted_of rfl rfl (show aZ.tmps[23]? = some (.bool true) by rw [hF.tmps (N := 82) (by decide) rfl 23 (by decide) (by decide), eg]))]
        refine wp_load_mid 25 _ rfl _ 0 (show aZ.eval (.tmp 3) = .pointer (some ⟨w.heap.size + 1, 0, none⟩) from (hF.out 3 (by decide)).trans rfl) _ _ (CV.range hM.ks.2.1.2) Try.underlying25 rfl info_api_Nat ?_
        exact tell hK hF hS (by decide) ⟨hM, Gs.stepA hG rfl rfl, trivial, Ns.step hN rfl⟩
      · cases ho
        refine wpOp_step rfl (fun K hK => ?_)
        have yg : fZ 3 = true := hdep ⟨3, .guard⟩ (by simp) rfl
        have eg : tZ 23 = .bool true := hG.2.2.2.1 yg
        rw [if_pos (wanted_of rfl rfl (show aZ.tmps[23]? = some (.bool true) by rw [hF.tmps (N := 82) (by decide) rfl 23 (by decide) (by decide), eg]))]
        refine wp_load_mid 25 _ rfl _ 0 (show aZ.eval (.tmp 5) = .pointer (some ⟨b2_3, 0, none⟩) from (hF.out 5 (by decide)).trans rfl) _ _ (CV.range hM.ks.2.2.1.2) Try.underlying25 rfl info_api_Nat ?_
        exact tell hK hF hS (by decide) ⟨hM, Gs.stepA hG rfl rfl, trivial, Ns.step hN rfl⟩
      · cases ho
        refine wpOp_step rfl (fun K hK => ?_)
        have yg : fZ 3 = true := hdep ⟨3, .guard⟩ (by simp) rfl
        have eg : tZ 23 = .bool true := hG.2.2.2.1 yg
        rw [if_pos (wanted_of rfl rfl (show aZ.tmps[23]? = some (.bool true) by rw [hF.tmps (N := 82) (by decide) rfl 23 (by decide) (by decide), eg]))]
        have e24 := hG.2.2.2.2.1 (hdep ⟨4, .data⟩ (by simp) rfl)
        have e25 := hG.2.2.2.2.2.1 (hdep ⟨5, .data⟩ (by simp) rfl)
        refine wp_bin rfl ((hV 24 (by decide)).trans e24) ((hV 25 (by decide)).trans e25) (eql_n _ _ hb ig true h2 uZ) ?_
        exact tell hK hF hS (by decide) ⟨hM, Gs.stepA hG rfl rfl, trivial, Ns.step hN rfl⟩
      · cases ho
        refine op_plain rfl rfl (fun K hK => ?_)
        have e23 := hG.2.2.2.1 (hdep ⟨3, .data⟩ (by simp) rfl)
        have e26 := hG.2.2.2.2.2.2.1 (hdep ⟨6, .data⟩ (by simp) rfl)
        refine wp_pick rfl ((hV 23 (by decide)).trans e23) (b := true) ((if_pos rfl).trans ((hV 26 (by decide)).trans e26)) ?_
        exact tell hK hF hS (by decide) ⟨hM, Gs.stepA hG rfl rfl, trivial, Ns.step hN rfl⟩
      · cases ho
        have e27 := hG.2.2.2.2.2.2.2.1 (hdep ⟨7, .data⟩ (by simp) rfl)
        exact t_assign ((hV 27 (by decide)).trans e27) hF hS rfl rfl rfl rfl (by decide) ⟨hM, Gs.stepA hG rfl rfl, trivial, Ns.step hN rfl⟩
    rintro fZ tZ u4 ⟨hM, hG, hO, hN⟩ hall
    have e20 : tZ 20 = _ := hG.1 (hall 0 (by decide))
    have e21 : tZ 21 = _ := hG.2.1 (hall 1 (by decide))
    have e22 : tZ 22 = _ := hG.2.2.1 (hall 2 (by decide))
    have e23 : tZ 23 = _ := hG.2.2.2.1 (hall 3 (by decide))
    have e24 : tZ 24 = _ := hG.2.2.2.2.1 (hall 4 (by decide))
    have e25 : tZ 25 = _ := hG.2.2.2.2.2.1 (hall 5 (by decide))
    have e26 : tZ 26 = _ := hG.2.2.2.2.2.2.1 (hall 6 (by decide))
    have e27 : tZ 27 = _ := hG.2.2.2.2.2.2.2.1 (hall 7 (by decide))
    have e4 : tZ 4 = _ := hG.2.2.2.2.2.2.2.2.1 (hall 8 (by decide))
    have HB4 : Below w.heap.size w u4 := hM.bel
    have sz4 : u3.heap.size ≤ u4.heap.size := hM.sz
    simp only [ovr, List.set_cons_zero, List.set_cons_succ, e20, e21, e22, e23, e24, e25, e26, e27, e4]
    clear hM hG hO hN hall e20 e21 e22 e23 e24 e25 e26 e27 e4 K3n3_3 K3p0 K3p1 HB3
    clear tZ
    go_wp2
    refine bodyPost_ret (v := .bool true) (by simp [results, Try.results11, go_sem, ]) rfl ⟨rfl, HB4⟩
  · have hz : decide (g = 0) = false := by simp [h]
    have z1 : decide (a % g = 0) = true := by rw [← hgi.out]; exact decide_eq_true (gI_mod ha.1)
    have z2 : decide (b % g = 0) = true := by rw [← hgi.out, gI_comm]; exact decide_eq_true (gI_mod hb.1)
    have hD : Hid (∀ u, Calls Try.prog 33 #[NV (a / g), NV (b / g)] u fun e u' => e = .returned (NV 1) ∧ Below u.heap.size u u') := fun u => by
      have k := mGcd (a / g) (b / g) u (In_div ha ig h) (In_div hb ig h)
      rw [← hgi.out, gI_div ha.1 hb.1 (by rw [hgi.out]; exact h), hgi.out] at k
      exact k
    clear hgi hg1
    go_upto_region 4 with fail
    refine region_plain [17, 18, 19] (fun fZ tZ uZ => MR w.heap.size w (u2.heap.size) [(w.heap.size, LN (a)), (w.heap.size + 1, LN (b)), (b2_3, LN (g))] [] [] uZ ∧ Gs fZ tZ [(0, 17, NV (g)), (1, 18, A4 (0) (0) (0) (0)), (2, 19, .bool false)] ∧ Os fZ [] ∧ Ns fZ tZ []) (by kernel_rfl) ?_ ?_ ?_
    · exact ⟨{ bel := HB2, lo := HB2.size, sz := Nat.le_refl _, ks := ⟨⟨l2p0, K2p0⟩, ⟨l2p1, K2p1⟩, ⟨lb2_3, Kb2_3⟩, trivial⟩, ex := trivial, nw := trivial, nd := trivial }, Gs.none _ _, Os.none _, trivial⟩
    · rintro fZ tZ uZ iZ oZ aZ hF ⟨hM, hG, hO, hN⟩ ho hfi hdep
      have hS : [17, 18, 19].Nodup := by decide
      have hV := hF.evs (N := 82) (by decide) rfl (by decide)
      have il : iZ < 3 := (Array.getElem?_eq_some_iff.1 ho).1
      have ix : iZ = 0 ∨ iZ = 1 ∨ iZ = 2 := by omega
      rcases ix with rfl | rfl | rfl
      · cases ho
        exact t_load (show aZ.eval (.tmp 5) = .pointer (some ⟨b2_3, 0, none⟩) from (hF.out 5 (by decide)).trans rfl) hM.ks.2.2.1.2 Try.underlying25 info_api_Nat hF hS rfl rfl rfl rfl rfl (by decide) ⟨hM, Gs.stepA hG rfl rfl, trivial, Ns.step hN rfl⟩
      · cases ho
        refine op_plain rfl rfl (fun K hK => ?_)
        refine wp_val (v := A4 (0) (0) (0) (0)) (w' := uZ) (by kernel_rfl) ?_
        exact tell hK hF hS (by decide) ⟨hM, Gs.stepA hG rfl rfl, trivial, Ns.step hN rfl⟩
      · cases ho
        refine op_plain rfl rfl (fun K hK => ?_)
        have e17 := hG.1 (hdep ⟨0, .data⟩ (by simp) rfl)
        have e18 := hG.2.1 (hdep ⟨1, .data⟩ (by simp) rfl)
        refine wp_bin rfl ((hV 17 (by decide)).trans e17) ((hV 18 (by decide)).trans e18) (eql_0 _ _ ig _ hz uZ) ?_
        exact tell hK hF hS (by decide) ⟨hM, Gs.stepA hG rfl rfl, trivial, Ns.step hN rfl⟩
    rintro fZ tZ u3 ⟨hM, hG, hO, hN⟩ hall
    have e17 : tZ 17 = _ := hG.1 (hall 0 (by decide))
    have e18 : tZ 18 = _ := hG.2.1 (hall 1 (by decide))
    have e19 : tZ 19 = _ := hG.2.2.1 (hall 2 (by decide))
    have HB3 : Below w.heap.size w u3 := hM.bel
    have sz3 : u2.heap.size ≤ u3.heap.size := hM.sz
    have K3p0 : CV u3 (w.heap.size) (LN (a)) := hM.ks.1.2
    have l3p0 : w.heap.size < u3.heap.size := Nat.lt_of_lt_of_le hM.ks.1.1 hM.sz
    have K3p1 : CV u3 (w.heap.size + 1) (LN (b)) := hM.ks.2.1.2
    have l3p1 : w.heap.size + 1 < u3.heap.size := Nat.lt_of_lt_of_le hM.ks.2.1.1 hM.sz
    have K3n3_3 : CV u3 (b2_3) (LN (g)) := hM.ks.2.2.1.2
    have l3n3_3 : b2_3 < u3.heap.size := Nat.lt_of_lt_of_le hM.ks.2.2.1.1 hM.sz
    simp only [ovr, List.set_cons_zero, List.set_cons_succ, e17, e18, e19]
    clear hM hG hO hN hall e17 e18 e19 K2p0 K2p1 Kb2_3 HB2
    clear tZ
    go_upto_region 6 with fail
    refine region_drawn [29, 30, 31, 32, 28, 33, 34, 35, 6, 7, 8] (fun fZ tZ uZ => MR w.heap.size w (u3.heap.size) [(w.heap.size, LN (a)), (w.heap.size + 1, LN (b)), (b2_3, LN (g))] [] [(fZ 8, fZ 10, tZ 6, L0w, LW (a / g)), (fZ 9, fZ 11, tZ 7, L0s, LN (a % g))] uZ ∧ Gs fZ tZ [(0, 29, NV (a)), (1, 30, WV (a)), (2, 31, NV (g)), (3, 32, .tuple #[WV (a / g), NV (a % g), .int .i64 0]), (4, 28, .tuple #[WV (a / g), NV (a % g), .int .i64 0]), (5, 33, WV (a / g)), (6, 34, NV (a % g)), (7, 35, .int .i64 0), (12, 8, .int .i64 0)] ∧ Os fZ [(10, 8), (11, 9)] ∧ Ns fZ tZ []) (by kernel_rfl) (by kernel_rfl) ?_ ?_ ?_
    · exact ⟨{ bel := HB3.drew, lo := HB3.size, sz := Nat.le_refl _, ks := ⟨⟨l3p0, K3p0⟩, ⟨l3p1, K3p1⟩, ⟨l3n3_3, K3n3_3⟩, trivial⟩, ex := trivial, nw := ⟨fun e => (by cases e), fun e => (by cases e), trivial⟩, nd := ⟨fun e => (by cases e), fun e => (by cases e), trivial⟩ }, Gs.none _ _, Os.none _, trivial⟩
    · rintro fZ tZ uZ iZ oZ aZ hF ⟨hM, hG, hO, hN⟩ ho hfi hdep
      have hS : [29, 30, 31, 32, 28, 33, 34, 35, 6, 7, 8].Nodup := by decide
      have hV := hF.evs (N := 82) (by decide) rfl (by decide)
      have il : iZ < 13 := (Array.getElem?_eq_some_iff.1 ho).1
      have ix : iZ = 0 ∨ iZ = 1 ∨ iZ = 2 ∨ iZ = 3 ∨ iZ = 4 ∨ iZ = 5 ∨ iZ = 6 ∨ iZ = 7 ∨ iZ = 8 ∨ iZ = 9 ∨ iZ = 10 ∨ iZ = 11 ∨ iZ = 12 := by omega
      rcases ix with rfl | rfl | rfl | rfl | rfl | rfl | rfl | rfl | rfl | rfl | rfl | rfl | rfl
      · cases ho
        exact t_load (show aZ.eval (.tmp 2) = .pointer (some ⟨w.heap.size, 0, none⟩) from (hF.out 2 (by decide)).trans rfl) hM.ks.1.2 Try.underlying25 info_api_Nat hF hS rfl rfl rfl rfl rfl (by decide) ⟨hM, Gs.stepA hG rfl rfl, hO.keep rfl, Ns.step hN rfl⟩
      · cases ho
        have e29 := hG.1 (hdep ⟨0, .data⟩ (by simp) rfl)
        exact t_call (vs := [NV (a)]) (by show [aZ.eval (.tmp 29)] = _; rw [((hV 29 (by decide)).trans e29)]) ent_seneschalref01_Widen (nrWiden a uZ ha) hF hS rfl rfl rfl rfl (by decide) (fun _ hB => ⟨hM.call hB, Gs.stepA hG rfl rfl, hO.keep rfl, Ns.step hN rfl⟩)
      · cases ho
        exact t_load (show aZ.eval (.tmp 5) = .pointer (some ⟨b2_3, 0, none⟩) from (hF.out 5 (by decide)).trans rfl) hM.ks.2.2.1.2 Try.underlying25 info_api_Nat hF hS rfl rfl rfl rfl rfl (by decide) ⟨hM, Gs.stepA hG rfl rfl, hO.keep rfl, Ns.step hN rfl⟩
      · cases ho
        have e30 := hG.2.1 (hdep ⟨1, .data⟩ (by simp) rfl)
        have e31 := hG.2.2.1 (hdep ⟨2, .data⟩ (by simp) rfl)
        exact t_call (vs := [WV (a), NV (g)]) (by show [aZ.eval (.tmp 30), aZ.eval (.tmp 31)] = _; rw [((hV 30 (by decide)).trans e30), ((hV 31 (by decide)).trans e31)]) ent_seneschalref01_Divide (nrDivide a g uZ ha.wide ig h) hF hS rfl rfl rfl rfl (by decide) (fun _ hB => ⟨hM.call hB, Gs.stepA hG rfl rfl, hO.keep rfl, Ns.step hN rfl⟩)
      · cases ho
        have e32 := hG.2.2.2.1 (hdep ⟨3, .data⟩ (by simp) rfl)
        exact t_move ((hV 32 (by decide)).trans e32) hF hS rfl rfl rfl rfl (by decide) ⟨hM, Gs.stepA hG rfl rfl, hO.keep rfl, Ns.step hN rfl⟩
      · cases ho
        have e28 := hG.2.2.2.2.1 (hdep ⟨4, .data⟩ (by simp) rfl)
        exact t_extract ((hV 28 (by decide)).trans e28) hF hS rfl rfl rfl rfl rfl (by decide) ⟨hM, Gs.stepA hG rfl rfl, hO.keep rfl, Ns.step hN rfl⟩
      · cases ho
        have e28 := hG.2.2.2.2.1 (hdep ⟨4, .data⟩ (by simp) rfl)
        exact t_extract ((hV 28 (by decide)).trans e28) hF hS rfl rfl rfl rfl rfl (by decide) ⟨hM, Gs.stepA hG rfl rfl, hO.keep rfl, Ns.step hN rfl⟩
      · cases ho
        have e28 := hG.2.2.2.2.1 (hdep ⟨4, .data⟩ (by simp) rfl)
        exact t_extract ((hV 28 (by decide)).trans e28) hF hS rfl rfl rfl rfl rfl (by decide) ⟨hM, Gs.stepA hG rfl rfl, hO.keep rfl, Ns.step hN rfl⟩
      · cases ho
        refine op_plain rfl rfl (fun K hK => ?_)
        refine wp_alloc rfl (al_api_Wide uZ) ?_
        have q1 : fZ 10 = false := Os.not (hO.1) hfi
        exact tell hK hF hS (by decide) ⟨MR.newF 0 hM rfl hfi q1, Gs.other rfl hG, hO.keep rfl, Ns.step hN rfl⟩
      · cases ho
        refine op_plain rfl rfl (fun K hK => ?_)
        refine wp_alloc rfl (al_api_Nat uZ) ?_
        have q1 : fZ 11 = false := Os.not (hO.2.1) hfi
        exact tell hK hF hS (by decide) ⟨MR.newF 1 hM rfl hfi q1, Gs.other rfl hG, hO.keep rfl, Ns.step hN rfl⟩
      · cases ho
        refine op_plain rfl rfl (fun K hK => ?_)
        have y8 : fZ 8 = true := hdep ⟨8, .data⟩ (by simp) rfl
        obtain ⟨bb, eb, b1, b2, b3⟩ := hM.nw.1 y8
        have eb : tZ 6 = .pointer (some ⟨bb, 0, none⟩) := eb
        have e33 := hG.2.2.2.2.2.1 (hdep ⟨5, .data⟩ (by simp) rfl)
        refine wp_store_mid 37 _ _ rfl bb 0 (LW (a / g) : List Value).toArray ((hV 6 (by decide)).trans eb) ((hV 33 (by decide)).trans e33) (by have h2 := b3; simp only [hfi] at h2; exact h2.there) info_api_Wide (all_one rfl) ?_
        exact tell0 hK hF ⟨MR.putF 0 hM rfl y8 eb b1 rfl, Gs.idle rfl hG, ⟨fun _ => hdep ⟨8, .data⟩ (by simp) rfl, hO.2.1, trivial⟩, Ns.idle hN⟩
      · cases ho
        refine op_plain rfl rfl (fun K hK => ?_)
        have y9 : fZ 9 = true := hdep ⟨9, .data⟩ (by simp) rfl
        obtain ⟨bb, eb, b1, b2, b3⟩ := hM.nw.2.1 y9
        have eb : tZ 7 = .pointer (some ⟨bb, 0, none⟩) := eb
        have e34 := hG.2.2.2.2.2.2.1 (hdep ⟨6, .data⟩ (by simp) rfl)
        refine wp_store_mid 25 _ _ rfl bb 0 (LN (a % g) : List Value).toArray ((hV 7 (by decide)).trans eb) ((hV 34 (by decide)).trans e34) (by have h2 := b3; simp only [hfi] at h2; exact h2.there) info_api_Nat (all_one rfl) ?_
        exact tell0 hK hF ⟨MR.putF 1 hM rfl y9 eb b1 rfl, Gs.idle rfl hG, ⟨hO.1, fun _ => hdep ⟨9, .data⟩ (by simp) rfl, trivial⟩, Ns.idle hN⟩
      · cases ho
        have e35 := hG.2.2.2.2.2.2.2.1 (hdep ⟨7, .data⟩ (by simp) rfl)
        exact t_assign ((hV 35 (by decide)).trans e35) hF hS rfl rfl rfl rfl (by decide) ⟨hM, Gs.stepA hG rfl rfl, hO.keep rfl, Ns.step hN rfl⟩
    rintro fZ tZ u4 ⟨hM, hG, hO, hN⟩ hall
    have e29 : tZ 29 = _ := hG.1 (hall 0 (by decide))
    have e30 : tZ 30 = _ := hG.2.1 (hall 1 (by decide))
    have e31 : tZ 31 = _ := hG.2.2.1 (hall 2 (by decide))
    have e32 : tZ 32 = _ := hG.2.2.2.1 (hall 3 (by decide))
    have e28 : tZ 28 = _ := hG.2.2.2.2.1 (hall 4 (by decide))
    have e33 : tZ 33 = _ := hG.2.2.2.2.2.1 (hall 5 (by decide))
    have e34 : tZ 34 = _ := hG.2.2.2.2.2.2.1 (hall 6 (by decide))
    have e35 : tZ 35 = _ := hG.2.2.2.2.2.2.2.1 (hall 7 (by decide))
    have e8 : tZ 8 = _ := hG.2.2.2.2.2.2.2.2.1 (hall 12 (by decide))
    obtain ⟨b4_8, ee6, pb4_8, lb4_8, kb4_8⟩ := hM.nw.1 (hall 8 (by decide))
    have e6 : tZ 6 = .pointer (some ⟨b4_8, 0, none⟩) := ee6
    clear ee6
    have Kb4_8 : CV u4 b4_8 (LW (a / g)) := by
      have h1 : CV u4 b4_8 (bif fZ 10 then LW (a / g) else L0w) := kb4_8
      rw [hall 10 (by decide)] at h1; exact h1
    clear kb4_8
    obtain ⟨b4_9, ee7, pb4_9, lb4_9, kb4_9⟩ := hM.nw.2.1 (hall 9 (by decide))
    have e7 : tZ 7 = .pointer (some ⟨b4_9, 0, none⟩) := ee7
    clear ee7
    have Kb4_9 : CV u4 b4_9 (LN (a % g)) := by
      have h1 : CV u4 b4_9 (bif fZ 11 then LN (a % g) else L0s) := kb4_9
      rw [hall 11 (by decide)] at h1; exact h1
    clear kb4_9
    have nb4_8_b4_9 : b4_8 ≠ b4_9 := fun e => (hM.nd.1 (hall 8 (by decide))).1 (hall 9 (by decide)) (by show tZ 7 = tZ 6; rw [e7, e6, e])
    have HB4 : Below w.heap.size w u4 := hM.bel
    have sz4 : u3.heap.size ≤ u4.heap.size := hM.sz
    have K4p0 : CV u4 (w.heap.size) (LN (a)) := hM.ks.1.2
    have l4p0 : w.heap.size < u4.heap.size := Nat.lt_of_lt_of_le hM.ks.1.1 hM.sz
    have K4p1 : CV u4 (w.heap.size + 1) (LN (b)) := hM.ks.2.1.2
    have l4p1 : w.heap.size + 1 < u4.heap.size := Nat.lt_of_lt_of_le hM.ks.2.1.1 hM.sz
    have K4n3_3 : CV u4 (b2_3) (LN (g)) := hM.ks.2.2.1.2
    have l4n3_3 : b2_3 < u4.heap.size := Nat.lt_of_lt_of_le hM.ks.2.2.1.1 hM.sz
    simp only [ovr, List.set_cons_zero, List.set_cons_succ, e29, e30, e31, e32, e28, e33, e34, e35, e8, e6, e7]
    clear hM hG hO hN hall e29 e30 e31 e32 e28 e33 e34 e35 e8 e6 e7 K3n3_3 K3p0 K3p1 HB3
    clear tZ
    go_upto_region 7 with fail
    refine region_drawn [37, 38, 39, 40, 36, 41, 42, 43, 9, 10, 11] (fun fZ tZ uZ => MR w.heap.size w (u4.heap.size) [(w.heap.size, LN (a)), (w.heap.size + 1, LN (b)), (b2_3, LN (g)), (b4_8, LW (a / g)), (b4_9, LN (a % g))] [] [(fZ 8, fZ 10, tZ 9, L0w, LW (b / g)), (fZ 9, fZ 11, tZ 10, L0s, LN (b % g))] uZ ∧ Gs fZ tZ [(0, 37, NV (b)), (1, 38, WV (b)), (2, 39, NV (g)), (3, 40, .tuple #[WV (b / g), NV (b % g), .int .i64 0]), (4, 36, .tuple #[WV (b / g), NV (b % g), .int .i64 0]), (5, 41, WV (b / g)), (6, 42, NV (b % g)), (7, 43, .int .i64 0), (12, 11, .int .i64 0)] ∧ Os fZ [(10, 8), (11, 9)] ∧ Ns fZ tZ []) (by kernel_rfl) (by kernel_rfl) ?_ ?_ ?_
    · exact ⟨{ bel := HB4.drew, lo := HB4.size, sz := Nat.le_refl _, ks := ⟨⟨l4p0, K4p0⟩, ⟨l4p1, K4p1⟩, ⟨l4n3_3, K4n3_3⟩, ⟨lb4_8, Kb4_8⟩, ⟨lb4_9, Kb4_9⟩, trivial⟩, ex := trivial, nw := ⟨fun e => (by cases e), fun e => (by cases e), trivial⟩, nd := ⟨fun e => (by cases e), fun e => (by cases e), trivial⟩ }, Gs.none _ _, Os.none _, trivial⟩
    · rintro fZ tZ uZ iZ oZ aZ hF ⟨hM, hG, hO, hN⟩ ho hfi hdep
      have hS : [37, 38, 39, 40, 36, 41, 42, 43, 9, 10, 11].Nodup := by decide
      have hV := hF.evs (N := 82) (by decide) rfl (by decide)
      have il : iZ < 13 := (Array.getElem?_eq_some_iff.1 ho).1
      have ix : iZ = 0 ∨ iZ = 1 ∨ iZ = 2 ∨ iZ = 3 ∨ iZ = 4 ∨ iZ = 5 ∨ iZ = 6 ∨ iZ = 7 ∨ iZ = 8 ∨ iZ = 9 ∨ iZ = 10 ∨ iZ = 11 ∨ iZ = 12 := by omega
      rcases ix with rfl | rfl | rfl | rfl | rfl | rfl | rfl | rfl | rfl | rfl | rfl | rfl | rfl
      · cases ho
        exact t_load (show aZ.eval (.tmp 3) = .pointer (some ⟨w.heap.size + 1, 0, none⟩) from (hF.out 3 (by decide)).trans rfl) hM.ks.2.1.2 Try.underlying25 info_api_Nat hF hS rfl rfl rfl rfl rfl (by decide) ⟨hM, Gs.stepA hG rfl rfl, hO.keep rfl, Ns.step hN rfl⟩
      · cases ho
        have e37 := hG.1 (hdep ⟨0, .data⟩ (by simp) rfl)
        exact t_call (vs := [NV (b)]) (by show [aZ.eval (.tmp 37)] = _; rw [((hV 37 (by decide)).trans e37)]) ent_seneschalref01_Widen (nrWiden b uZ hb) hF hS rfl rfl rfl rfl (by decide) (fun _ hB => ⟨hM.call hB, Gs.stepA hG rfl rfl, hO.keep rfl, Ns.step hN rfl⟩)
      · cases ho
        exact t_load (show aZ.eval (.tmp 5) = .pointer (some ⟨b2_3, 0, none⟩) from (hF.out 5 (by decide)).trans rfl) hM.ks.2.2.1.2 Try.underlying25 info_api_Nat hF hS rfl rfl rfl rfl rfl (by decide) ⟨hM, Gs.stepA hG rfl rfl, hO.keep rfl, Ns.step hN rfl⟩
      · cases ho
        have e38 := hG.2.1 (hdep ⟨1, .data⟩ (by simp) rfl)
        have e39 := hG.2.2.1 (hdep ⟨2, .data⟩ (by simp) rfl)
        exact t_call (vs := [WV (b), NV (g)]) (by show [aZ.eval (.tmp 38), aZ.eval (.tmp 39)] = _; rw [((hV 38 (by decide)).trans e38), ((hV 39 (by decide)).trans e39)]) ent_seneschalref01_Divide (nrDivide b g uZ hb.wide ig h) hF hS rfl rfl rfl rfl (by decide) (fun _ hB => ⟨hM.call hB, Gs.stepA hG rfl rfl, hO.keep rfl, Ns.step hN rfl⟩)
      · cases ho
        have e40 := hG.2.2.2.1 (hdep ⟨3, .data⟩ (by simp) rfl)
        exact t_move ((hV 40 (by decide)).trans e40) hF hS rfl rfl rfl rfl (by decide) ⟨hM, Gs.stepA hG rfl rfl, hO.keep rfl, Ns.step hN rfl⟩
      · cases ho
        have e36 := hG.2.2.2.2.1 (hdep ⟨4, .data⟩ (by simp) rfl)
        exact t_extract ((hV 36 (by decide)).trans e36) hF hS rfl rfl rfl rfl rfl (by decide) ⟨hM, Gs.stepA hG rfl rfl, hO.keep rfl, Ns.step hN rfl⟩
      · cases ho
        have e36 := hG.2.2.2.2.1 (hdep ⟨4, .data⟩ (by simp) rfl)
        exact t_extract ((hV 36 (by decide)).trans e36) hF hS rfl rfl rfl rfl rfl (by decide) ⟨hM, Gs.stepA hG rfl rfl, hO.keep rfl, Ns.step hN rfl⟩
      · cases ho
        have e36 := hG.2.2.2.2.1 (hdep ⟨4, .data⟩ (by simp) rfl)
        exact t_extract ((hV 36 (by decide)).trans e36) hF hS rfl rfl rfl rfl rfl (by decide) ⟨hM, Gs.stepA hG rfl rfl, hO.keep rfl, Ns.step hN rfl⟩
      · cases ho
        refine op_plain rfl rfl (fun K hK => ?_)
        refine wp_alloc rfl (al_api_Wide uZ) ?_
        have q1 : fZ 10 = false := Os.not (hO.1) hfi
        exact tell hK hF hS (by decide) ⟨MR.newF 0 hM rfl hfi q1, Gs.other rfl hG, hO.keep rfl, Ns.step hN rfl⟩
      · cases ho
        refine op_plain rfl rfl (fun K hK => ?_)
        refine wp_alloc rfl (al_api_Nat uZ) ?_
        have q1 : fZ 11 = false := Os.not (hO.2.1) hfi
        exact tell hK hF hS (by decide) ⟨MR.newF 1 hM rfl hfi q1, Gs.other rfl hG, hO.keep rfl, Ns.step hN rfl⟩
      · cases ho
        refine op_plain rfl rfl (fun K hK => ?_)
        have y8 : fZ 8 = true := hdep ⟨8, .data⟩ (by simp) rfl
        obtain ⟨bb, eb, b1, b2, b3⟩ := hM.nw.1 y8
        have eb : tZ 9 = .pointer (some ⟨bb, 0, none⟩) := eb
        have e41 := hG.2.2.2.2.2.1 (hdep ⟨5, .data⟩ (by simp) rfl)
        refine wp_store_mid 37 _ _ rfl bb 0 (LW (b / g) : List Value).toArray ((hV 9 (by decide)).trans eb) ((hV 41 (by decide)).trans e41) (by have h2 := b3; simp only [hfi] at h2; exact h2.there) info_api_Wide (all_one rfl) ?_
        exact tell0 hK hF ⟨MR.putF 0 hM rfl y8 eb b1 rfl, Gs.idle rfl hG, ⟨fun _ => hdep ⟨8, .data⟩ (by simp) rfl, hO.2.1, trivial⟩, Ns.idle hN⟩
      · cases ho
        refine op_plain rfl rfl (fun K hK => ?_)
        have y9 : fZ 9 = true := hdep ⟨9, .data⟩ (by simp) rfl
        obtain ⟨bb, eb, b1, b2, b3⟩ := hM.nw.2.1 y9
        have eb : tZ 10 = .pointer (some ⟨bb, 0, none⟩) := eb
        have e42 := hG.2.2.2.2.2.2.1 (hdep ⟨6, .data⟩ (by simp) rfl)
        refine wp_store_mid 25 _ _ rfl bb 0 (LN (b % g) : List Value).toArray ((hV 10 (by decide)).trans eb) ((hV 42 (by decide)).trans e42) (by have h2 := b3; simp only [hfi] at h2; exact h2.there) info_api_Nat (all_one rfl) ?_
        exact tell0 hK hF ⟨MR.putF 1 hM rfl y9 eb b1 rfl, Gs.idle rfl hG, ⟨hO.1, fun _ => hdep ⟨9, .data⟩ (by simp) rfl, trivial⟩, Ns.idle hN⟩
      · cases ho
        have e43 := hG.2.2.2.2.2.2.2.1 (hdep ⟨7, .data⟩ (by simp) rfl)
        exact t_assign ((hV 43 (by decide)).trans e43) hF hS rfl rfl rfl rfl (by decide) ⟨hM, Gs.stepA hG rfl rfl, hO.keep rfl, Ns.step hN rfl⟩
    rintro fZ tZ u5 ⟨hM, hG, hO, hN⟩ hall
    have e37 : tZ 37 = _ := hG.1 (hall 0 (by decide))
    have e38 : tZ 38 = _ := hG.2.1 (hall 1 (by decide))
    have e39 : tZ 39 = _ := hG.2.2.1 (hall 2 (by decide))
    have e40 : tZ 40 = _ := hG.2.2.2.1 (hall 3 (by decide))
    have e36 : tZ 36 = _ := hG.2.2.2.2.1 (hall 4 (by decide))
    have e41 : tZ 41 = _ := hG.2.2.2.2.2.1 (hall 5 (by decide))
    have e42 : tZ 42 = _ := hG.2.2.2.2.2.2.1 (hall 6 (by decide))
    have e43 : tZ 43 = _ := hG.2.2.2.2.2.2.2.1 (hall 7 (by decide))
    have e11 : tZ 11 = _ := hG.2.2.2.2.2.2.2.2.1 (hall 12 (by decide))
    obtain ⟨b5_8, ee9, pb5_8, lb5_8, kb5_8⟩ := hM.nw.1 (hall 8 (by decide))
    have e9 : tZ 9 = .pointer (some ⟨b5_8, 0, none⟩) := ee9
    clear ee9
    have Kb5_8 : CV u5 b5_8 (LW (b / g)) := by
      have h1 : CV u5 b5_8 (bif fZ 10 then LW (b / g) else L0w) := kb5_8
      rw [hall 10 (by decide)] at h1; exact h1
    clear kb5_8
    obtain ⟨b5_9, ee10, pb5_9, lb5_9, kb5_9⟩ := hM.nw.2.1 (hall 9 (by decide))
    have e10 : tZ 10 = .pointer (some ⟨b5_9, 0, none⟩) := ee10
    clear ee10
    have Kb5_9 : CV u5 b5_9 (LN (b % g)) := by
      have h1 : CV u5 b5_9 (bif fZ 11 then LN (b % g) else L0s) := kb5_9
      rw [hall 11 (by decide)] at h1; exact h1
    clear kb5_9
    have nb5_8_b5_9 : b5_8 ≠ b5_9 := fun e => (hM.nd.1 (hall 8 (by decide))).1 (hall 9 (by decide)) (by show tZ 10 = tZ 9; rw [e10, e9, e])
    have HB5 : Below w.heap.size w u5 := hM.bel
    have sz5 : u4.heap.size ≤ u5.heap.size := hM.sz
    have K5p0 : CV u5 (w.heap.size) (LN (a)) := hM.ks.1.2
    have l5p0 : w.heap.size < u5.heap.size := Nat.lt_of_lt_of_le hM.ks.1.1 hM.sz
    have K5p1 : CV u5 (w.heap.size + 1) (LN (b)) := hM.ks.2.1.2
    have l5p1 : w.heap.size + 1 < u5.heap.size := Nat.lt_of_lt_of_le hM.ks.2.1.1 hM.sz
    have K5n3_3 : CV u5 (b2_3) (LN (g)) := hM.ks.2.2.1.2
    have l5n3_3 : b2_3 < u5.heap.size := Nat.lt_of_lt_of_le hM.ks.2.2.1.1 hM.sz
    have K5n6_8 : CV u5 (b4_8) (LW (a / g)) := hM.ks.2.2.2.1.2
    have l5n6_8 : b4_8 < u5.heap.size := Nat.lt_of_lt_of_le hM.ks.2.2.2.1.1 hM.sz
    have K5n6_9 : CV u5 (b4_9) (LN (a % g)) := hM.ks.2.2.2.2.1.2
    have l5n6_9 : b4_9 < u5.heap.size := Nat.lt_of_lt_of_le hM.ks.2.2.2.2.1.1 hM.sz
    simp only [ovr, List.set_cons_zero, List.set_cons_succ, e37, e38, e39, e40, e36, e41, e42, e43, e11, e9, e10]
    clear hM hG hO hN hall e37 e38 e39 e40 e36 e41 e42 e43 e11 e9 e10 K4n3_3 K4p0 K4p1 Kb4_8 Kb4_9 HB4
    clear tZ
    go_upto_region 8 with fail
    refine region_drawn [44, 45, 46, 47, 48, 49, 50, 51, 52, 53, 54, 55, 56, 57, 58, 59, 60, 61, 62, 63, 64, 65, 66, 67, 68, 69, 70, 71, 72, 73, 74, 75, 76, 77, 78, 79, 80, 81, 4] (fun fZ tZ uZ => MR w.heap.size w (u5.heap.size) [(w.heap.size, LN (a)), (w.heap.size + 1, LN (b)), (b2_3, LN (g)), (b4_8, LW (a / g)), (b4_9, LN (a % g)), (b5_8, LW (b / g)), (b5_9, LN (b % g))] [] [] uZ ∧ Gs fZ tZ [(0, 44, NV (a % g)), (1, 45, A4 (0) (0) (0) (0)), (2, 46, .bool true), (3, 47, .bool true), (4, 48, NV (b % g)), (5, 49, A4 (0) (0) (0) (0)), (6, 50, .bool true), (7, 51, .bool true), (8, 52, .bool true), (9, 53, .pointer (some ⟨b4_8, 0, none⟩)), (10, 54, .int .u64 (D0 (a / g))), (11, 55, .pointer (some ⟨b4_8, 1, none⟩)), (12, 56, .int .u64 (D1 (a / g))), (13, 57, .pointer (some ⟨b4_8, 2, none⟩)), (14, 58, .int .u64 (D2 (a / g))), (15, 59, .pointer (some ⟨b4_8, 3, none⟩)), (16, 60, .int .u64 (D3 (a / g))), (17, 61, NV (a / g)), (18, 62, .pointer (some ⟨b5_8, 0, none⟩)), (19, 63, .int .u64 (D0 (b / g))), (20, 64, .pointer (some ⟨b5_8, 1, none⟩)), (21, 65, .int .u64 (D1 (b / g))), (22, 66, .pointer (some ⟨b5_8, 2, none⟩)), (23, 67, .int .u64 (D2 (b / g))), (24, 68, .pointer (some ⟨b5_8, 3, none⟩)), (25, 69, .int .u64 (D3 (b / g))), (26, 70, NV (b / g)), (27, 71, NV (1)), (28, 72, NV (1)), (29, 73, .bool true), (30, 74, .bool true), (31, 75, .bool true), (32, 76, NV (b)), (33, 77, NV (a)), (34, 78, NV (g)), (35, 79, NV (g)), (36, 80, .bool true), (37, 81, .bool true), (38, 4, .bool true)] ∧ Os fZ [] ∧ Ns fZ tZ []) (by kernel_rfl) (by kernel_rfl) ?_ ?_ ?_
    · exact ⟨{ bel := HB5.drew, lo := HB5.size, sz := Nat.le_refl _, ks := ⟨⟨l5p0, K5p0⟩, ⟨l5p1, K5p1⟩, ⟨l5n3_3, K5n3_3⟩, ⟨l5n6_8, K5n6_8⟩, ⟨l5n6_9, K5n6_9⟩, ⟨lb5_8, Kb5_8⟩, ⟨lb5_9, Kb5_9⟩, trivial⟩, ex := trivial, nw := trivial, nd := trivial }, Gs.none _ _, Os.none _, trivial⟩
    · rintro fZ tZ uZ iZ oZ aZ hF ⟨hM, hG, hO, hN⟩ ho hfi hdep
      have hS : [44, 45, 46, 47, 48, 49, 50, 51, 52, 53, 54, 55, 56, 57, 58, 59, 60, 61, 62, 63, 64, 65, 66, 67, 68, 69, 70, 71, 72, 73, 74, 75, 76, 77, 78, 79, 80, 81, 4].Nodup := by decide
      have hV := hF.evs (N := 82) (by decide) rfl (by decide)
      have il : iZ < 39 := (Array.getElem?_eq_some_iff.1 ho).1
      have ix : iZ = 0 ∨ iZ = 1 ∨ iZ = 2 ∨ iZ = 3 ∨ iZ = 4 ∨ iZ = 5 ∨ iZ = 6 ∨ iZ = 7 ∨ iZ = 8 ∨ iZ = 9 ∨ iZ = 10 ∨ iZ = 11 ∨ iZ = 12 ∨ iZ = 13 ∨ iZ = 14 ∨ iZ = 15 ∨ iZ = 16 ∨ iZ = 17 ∨ iZ = 18 ∨ iZ = 19 ∨ iZ = 20 ∨ iZ = 21 ∨ iZ = 22 ∨ iZ = 23 ∨ iZ = 24 ∨ iZ = 25 ∨ iZ = 26 ∨ iZ = 27 ∨ iZ = 28 ∨ iZ = 29 ∨ iZ = 30 ∨ iZ = 31 ∨ iZ = 32 ∨ iZ = 33 ∨ iZ = 34 ∨ iZ = 35 ∨ iZ = 36 ∨ iZ = 37 ∨ iZ = 38 := by omega
      rcases ix with rfl | rfl | rfl | rfl | rfl | rfl | rfl | rfl | rfl | rfl | rfl | rfl | rfl | rfl | rfl | rfl | rfl | rfl | rfl | rfl | rfl | rfl | rfl | rfl | rfl | rfl | rfl | rfl | rfl | rfl | rfl | rfl | rfl | rfl | rfl | rfl | rfl | rfl | rfl
      · cases ho
        exact t_load (show aZ.eval (.tmp 7) = .pointer (some ⟨b4_9, 0, none⟩) from (hF.out 7 (by decide)).trans rfl) hM.ks.2.2.2.2.1.2 Try.underlying25 info_api_Nat hF hS rfl rfl rfl rfl rfl (by decide) ⟨hM, Gs.stepA hG rfl rfl, trivial, Ns.step hN rfl⟩
      · cases ho
        refine op_plain rfl rfl (fun K hK => ?_)
        refine wp_val (v := A4 (0) (0) (0) (0)) (w' := uZ) (by kernel_rfl) ?_
        exact tell hK hF hS (by decide) ⟨hM, Gs.stepA hG rfl rfl, trivial, Ns.step hN rfl⟩
      · cases ho
        refine op_plain rfl rfl (fun K hK => ?_)
        have e44 := hG.1 (hdep ⟨0, .data⟩ (by simp) rfl)
        have e45 := hG.2.1 (hdep ⟨1, .data⟩ (by simp) rfl)
        refine wp_bin rfl ((hV 44 (by decide)).trans e44) ((hV 45 (by decide)).trans e45) (eql_0 _ _ (In_mod ig h) _ z1 uZ) ?_
        exact tell hK hF hS (by decide) ⟨hM, Gs.stepA hG rfl rfl, trivial, Ns.step hN rfl⟩
      · cases ho
        have e46 := hG.2.2.1 (hdep ⟨2, .data⟩ (by simp) rfl)
        exact t_move ((hV 46 (by decide)).trans e46) hF hS rfl rfl rfl rfl (by decide) ⟨hM, Gs.stepA hG rfl rfl, trivial, Ns.step hN rfl⟩
      · cases ho
        refine wpOp_step rfl (fun K hK => ?_)
        have yg : fZ 3 = true := hdep ⟨3, .guard⟩ (by simp) rfl
        have eg : tZ 47 = .bool true := hG.2.2.2.1 yg
        rw [if_pos (wanted_of rfl rfl (show aZ.tmps[47]? = some (.bool true) by rw [hF.tmps (N := 82) (by decide) rfl 47 (by decide) (by decide), eg]))]
        refine wp_load_mid 25 _ rfl _ 0 (show aZ.eval (.tmp 10) = .pointer (some ⟨b5_9, 0, none⟩) from (hF.out 10 (by decide)).trans rfl) _ _ (CV.range hM.ks.2.2.2.2.2.2.1.2) Try.underlying25 rfl info_api_Nat ?_
        exact tell hK hF hS (by decide) ⟨hM, Gs.stepA hG rfl rfl, trivial, Ns.step hN rfl⟩
      · cases ho
        refine wpOp_step rfl (fun K hK => ?_)
        have yg : fZ 3 = true := hdep ⟨3, .guard⟩ (by simp) rfl
        have eg : tZ 47 = .bool true := hG.2.2.2.1 yg
        rw [if_pos (wanted_of rfl rfl (show aZ.tmps[47]? = some (.bool true) by rw [hF.tmps (N := 82) (by decide) rfl 47 (by decide) (by decide), eg]))]
        refine wp_val (v := A4 (0) (0) (0) (0)) (w' := uZ) (by kernel_rfl) ?_
        exact tell hK hF hS (by decide) ⟨hM, Gs.stepA hG rfl rfl, trivial, Ns.step hN rfl⟩
      · cases ho
        refine wpOp_step rfl (fun K hK => ?_)
        have yg : fZ 3 = true := hdep ⟨3, .guard⟩ (by simp) rfl
        have eg : tZ 47 = .bool true := hG.2.2.2.1 yg
        rw [if_pos (wanted_of rfl rfl (show aZ.tmps[47]? = some (.bool true) by rw [hF.tmps (N := 82) (by decide) rfl 47 (by decide) (by decide), eg]))]
        have e48 := hG.2.2.2.2.1 (hdep ⟨4, .data⟩ (by simp) rfl)
        have e49 := hG.2.2.2.2.2.1 (hdep ⟨5, .data⟩ (by simp) rfl)
        refine wp_bin rfl ((hV 48 (by decide)).trans e48) ((hV 49 (by decide)).trans e49) (eql_0 _ _ (In_mod ig h) _ z2 uZ) ?_
        exact tell hK hF hS (by decide) ⟨hM, Gs.stepA hG rfl rfl, trivial, Ns.step hN rfl⟩
      · cases ho
        refine op_plain rfl rfl (fun K hK => ?_)
        have e47 := hG.2.2.2.1 (hdep ⟨3, .data⟩ (by simp) rfl)
        have e50 := hG.2.2.2.2.2.2.1 (hdep ⟨6, .data⟩ (by simp) rfl)
        refine wp_pick rfl ((hV 47 (by decide)).trans e47) (b := true) ((if_pos rfl).trans ((hV 50 (by decide)).trans e50)) ?_
        exact tell hK hF hS (by decide) ⟨hM, Gs.stepA hG rfl rfl, trivial, Ns.step hN rfl⟩
      · cases ho
        have e51 := hG.2.2.2.2.2.2.2.1 (hdep ⟨7, .data⟩ (by simp) rfl)
        exact t_move ((hV 51 (by decide)).trans e51) hF hS rfl rfl rfl rfl (by decide) ⟨hM, Gs.stepA hG rfl rfl, trivial, Ns.step hN rfl⟩
      · cases ho
        refine wpOp_step rfl (fun K hK => ?_)
        have yg : fZ 8 = true := hdep ⟨8, .guard⟩ (by simp) rfl
        have eg : tZ 52 = .bool true := hG.2.2.2.2.2.2.2.2.1 yg
        rw [if_pos (wanted_of rfl rfl (show aZ.tmps[52]? = some (.bool true) by rw [hF.tmps (N := 82) (by decide) rfl 52 (by decide) (by decide), eg]))]
        refine wp_index rfl (show aZ.eval (.tmp 6) = .pointer (some ⟨b4_8, 0, none⟩) from (hF.out 6 (by decide)).trans rfl) rfl (ix_wide uZ (b4_8) 0 (by omega)) ?_
        exact tell hK hF hS (by decide) ⟨hM, Gs.stepA hG rfl rfl, trivial, Ns.step hN rfl⟩
      · cases ho
        refine wpOp_step rfl (fun K hK => ?_)
        have yg : fZ 8 = true := hdep ⟨8, .guard⟩ (by simp) rfl
        have eg : tZ 52 = .bool true := hG.2.2.2.2.2.2.2.2.1 yg
        rw [if_pos (wanted_of rfl rfl (show aZ.tmps[52]? = some (.bool true) by rw [hF.tmps (N := 82) (by decide) rfl 52 (by decide) (by decide), eg]))]
        have kk : CV uZ (b4_8) (LW (a / g)) := hM.ks.2.2.2.1.2
        have e53 := hG.2.2.2.2.2.2.2.2.2.1 (hdep ⟨9, .data⟩ (by simp) rfl)
        have kc := (kk 0 _ (rfl)).1
        refine wp_load rfl ((hV 53 (by decide)).trans e53) (ld_u64 uZ (b4_8) 0 _ kc) ?_
        exact tell hK hF hS (by decide) ⟨hM, Gs.stepA hG rfl rfl, trivial, Ns.step hN rfl⟩
      · cases ho
        refine wpOp_step rfl (fun K hK => ?_)
        have yg : fZ 8 = true := hdep ⟨8, .guard⟩ (by simp) rfl
        have eg : tZ 52 = .bool true := hG.2.2.2.2.2.2.2.2.1 yg
        rw [if_pos (wanted_of rfl rfl (show aZ.tmps[52]? = some (.bool true) by rw [hF.tmps (N := 82) (by decide) rfl 52 (by decide) (by decide), eg]))]
        refine wp_index rfl (show aZ.eval (.tmp 6) = .pointer (some ⟨b4_8, 0, none⟩) from (hF.out 6 (by decide)).trans rfl) rfl (ix_wide uZ (b4_8) 1 (by omega)) ?_
        exact tell hK hF hS (by decide) ⟨hM, Gs.stepA hG rfl rfl, trivial, Ns.step hN rfl⟩
      · cases ho
        refine wpOp_step rfl (fun K hK => ?_)
        have yg : fZ 8 = true := hdep ⟨8, .guard⟩ (by simp) rfl
        have eg : tZ 52 = .bool true := hG.2.2.2.2.2.2.2.2.1 yg
        rw [if_pos (wanted_of rfl rfl (show aZ.tmps[52]? = some (.bool true) by rw [hF.tmps (N := 82) (by decide) rfl 52 (by decide) (by decide), eg]))]
        have kk : CV uZ (b4_8) (LW (a / g)) := hM.ks.2.2.2.1.2
        have e55 := hG.2.2.2.2.2.2.2.2.2.2.2.1 (hdep ⟨11, .data⟩ (by simp) rfl)
        have kc := (kk 1 _ (rfl)).1
        refine wp_load rfl ((hV 55 (by decide)).trans e55) (ld_u64 uZ (b4_8) 1 _ kc) ?_
        exact tell hK hF hS (by decide) ⟨hM, Gs.stepA hG rfl rfl, trivial, Ns.step hN rfl⟩
      · cases ho
        refine wpOp_step rfl (fun K hK => ?_)
        have yg : fZ 8 = true := hdep ⟨8, .guard⟩ (by simp) rfl
        have eg : tZ 52 = .bool true := hG.2.2.2.2.2.2.2.2.1 yg
        rw [if_pos (wanted_of rfl rfl (show aZ.tmps[52]? = some (.bool true) by rw [hF.tmps (N := 82) (by decide) rfl 52 (by decide) (by decide), eg]))]
        refine wp_index rfl (show aZ.eval (.tmp 6) = .pointer (some ⟨b4_8, 0, none⟩) from (hF.out 6 (by decide)).trans rfl) rfl (ix_wide uZ (b4_8) 2 (by omega)) ?_
        exact tell hK hF hS (by decide) ⟨hM, Gs.stepA hG rfl rfl, trivial, Ns.step hN rfl⟩
      · cases ho
        refine wpOp_step rfl (fun K hK => ?_)
        have yg : fZ 8 = true := hdep ⟨8, .guard⟩ (by simp) rfl
        have eg : tZ 52 = .bool true := hG.2.2.2.2.2.2.2.2.1 yg
        rw [if_pos (wanted_of rfl rfl (show aZ.tmps[52]? = some (.bool true) by rw [hF.tmps (N := 82) (by decide) rfl 52 (by decide) (by decide), eg]))]
        have kk : CV uZ (b4_8) (LW (a / g)) := hM.ks.2.2.2.1.2
        have e57 := hG.2.2.2.2.2.2.2.2.2.2.2.2.2.1 (hdep ⟨13, .data⟩ (by simp) rfl)
        have kc := (kk 2 _ (rfl)).1
        refine wp_load rfl ((hV 57 (by decide)).trans e57) (ld_u64 uZ (b4_8) 2 _ kc) ?_
        exact tell hK hF hS (by decide) ⟨hM, Gs.stepA hG rfl rfl, trivial, Ns.step hN rfl⟩
      · cases ho
        refine wpOp_step rfl (fun K hK => ?_)
        have yg : fZ 8 = true := hdep ⟨8, .guard⟩ (by simp) rfl
        have eg : tZ 52 = .bool true := hG.2.2.2.2.2.2.2.2.1 yg
        rw [if_pos (wanted_of rfl rfl (show aZ.tmps[52]? = some (.bool true) by rw [hF.tmps (N := 82) (by decide) rfl 52 (by decide) (by decide), eg]))]
        refine wp_index rfl (show aZ.eval (.tmp 6) = .pointer (some ⟨b4_8, 0, none⟩) from (hF.out 6 (by decide)).trans rfl) rfl (ix_wide uZ (b4_8) 3 (by omega)) ?_
        exact tell hK hF hS (by decide) ⟨hM, Gs.stepA hG rfl rfl, trivial, Ns.step hN rfl⟩
      · cases ho
        refine wpOp_step rfl (fun K hK => ?_)
        have yg : fZ 8 = true := hdep ⟨8, .guard⟩ (by simp) rfl
        have eg : tZ 52 = .bool true := hG.2.2.2.2.2.2.2.2.1 yg
        rw [if_pos (wanted_of rfl rfl (show aZ.tmps[52]? = some (.bool true) by rw [hF.tmps (N := 82) (by decide) rfl 52 (by decide) (by decide), eg]))]
        have kk : CV uZ (b4_8) (LW (a / g)) := hM.ks.2.2.2.1.2
        have e59 := hG.2.2.2.2.2.2.2.2.2.2.2.2.2.2.2.1 (hdep ⟨15, .data⟩ (by simp) rfl)
        have kc := (kk 3 _ (rfl)).1
        refine wp_load rfl ((hV 59 (by decide)).trans e59) (ld_u64 uZ (b4_8) 3 _ kc) ?_
        exact tell hK hF hS (by decide) ⟨hM, Gs.stepA hG rfl rfl, trivial, Ns.step hN rfl⟩
      · cases ho
        refine wpOp_step rfl (fun K hK => ?_)
        have yg : fZ 8 = true := hdep ⟨8, .guard⟩ (by simp) rfl
        have eg : tZ 52 = .bool true := hG.2.2.2.2.2.2.2.2.1 yg
        rw [if_pos (wanted_of rfl rfl (show aZ.tmps[52]? = some (.bool true) by rw [hF.tmps (N := 82) (by decide) rfl 52 (by decide) (by decide), eg]))]
        have e54 := hG.2.2.2.2.2.2.2.2.2.2.1 (hdep ⟨10, .data⟩ (by simp) rfl)
        have e56 := hG.2.2.2.2.2.2.2.2.2.2.2.2.1 (hdep ⟨12, .data⟩ (by simp) rfl)
        have e58 := hG.2.2.2.2.2.2.2.2.2.2.2.2.2.2.1 (hdep ⟨14, .data⟩ (by simp) rfl)
        have e60 := hG.2.2.2.2.2.2.2.2.2.2.2.2.2.2.2.2.1 (hdep ⟨16, .data⟩ (by simp) rfl)
        refine wp_build rfl (vps := [(0, .int .u64 (D0 (a / g))), (1, .int .u64 (D1 (a / g))), (2, .int .u64 (D2 (a / g))), (3, .int .u64 (D3 (a / g)))]) (by show [(0, aZ.eval (.tmp 54)), (1, aZ.eval (.tmp 56)), (2, aZ.eval (.tmp 58)), (3, aZ.eval (.tmp 60))] = _; rw [((hV 54 (by decide)).trans e54), ((hV 56 (by decide)).trans e56), ((hV 58 (by decide)).trans e58), ((hV 60 (by decide)).trans e60)]) (bd4 _ _ _ _ uZ) ?_
        exact tell hK hF hS (by decide) ⟨hM, Gs.stepA hG rfl rfl, trivial, Ns.step hN rfl⟩
      · cases ho
        refine wpOp_step rfl (fun K hK => ?_)
        have yg : fZ 8 = true := hdep ⟨8, .guard⟩ (by simp) rfl
        have eg : tZ 52 = .bool true := hG.2.2.2.2.2.2.2.2.1 yg
        rw [if_pos (wanted_of rfl rfl (show aZ.tmps[52]? = some (.bool true) by rw [hF.tmps (N := 82) (by decide) rfl 52 (by decide) (by decide), eg]))]
        refine wp_index rfl (show aZ.eval (.tmp 9) = .pointer (some ⟨b5_8, 0, none⟩) from (hF.out 9 (by decide)).trans rfl) rfl (ix_wide uZ (b5_8) 0 (by omega)) ?_
        exact tell hK hF hS (by decide) ⟨hM, Gs.stepA hG rfl rfl, trivial, Ns.step hN rfl⟩
      · cases ho
        refine wpOp_step rfl (fun K hK => ?_)
        have yg : fZ 8 = true := hdep ⟨8, .guard⟩ (by simp) rfl
        have eg : tZ 52 = .bool true := hG.2.2.2.2.2.2.2.2.1 yg
        rw [if_pos (wanted_of rfl rfl (show aZ.tmps[52]? = some (.bool true) by rw [hF.tmps (N := 82) (by decide) rfl 52 (by decide) (by decide), eg]))]
        have kk : CV uZ (b5_8) (LW (b / g)) := hM.ks.2.2.2.2.2.1.2
        have e62 := hG.2.2.2.2.2.2.2.2.2.2.2.2.2.2.2.2.2.2.1 (hdep ⟨18, .data⟩ (by simp) rfl)
        have kc := (kk 0 _ (rfl)).1
        refine wp_load rfl ((hV 62 (by decide)).trans e62) (ld_u64 uZ (b5_8) 0 _ kc) ?_
        exact tell hK hF hS (by decide) ⟨hM, Gs.stepA hG rfl rfl, trivial, Ns.step hN rfl⟩
      · cases ho
        refine wpOp_step rfl (fun K hK => ?_)
        have yg : fZ 8 = true := hdep ⟨8, .guard⟩ (by simp) rfl
        have eg : tZ 52 = .bool true := hG.2.2.2.2.2.2.2.2.1 yg
        rw [if_pos (wanted_of rfl rfl (show aZ.tmps[52]? = some (.bool true) by rw [hF.tmps (N := 82) (by decide) rfl 52 (by decide) (by decide), eg]))]
        refine wp_index rfl (show aZ.eval (.tmp 9) = .pointer (some ⟨b5_8, 0, none⟩) from (hF.out 9 (by decide)).trans rfl) rfl (ix_wide uZ (b5_8) 1 (by omega)) ?_
        exact tell hK hF hS (by decide) ⟨hM, Gs.stepA hG rfl rfl, trivial, Ns.step hN rfl⟩
      · cases ho
        refine wpOp_step rfl (fun K hK => ?_)
        have yg : fZ 8 = true := hdep ⟨8, .guard⟩ (by simp) rfl
        have eg : tZ 52 = .bool true := hG.2.2.2.2.2.2.2.2.1 yg
        rw [if_pos (wanted_of rfl rfl (show aZ.tmps[52]? = some (.bool true) by rw [hF.tmps (N := 82) (by decide) rfl 52 (by decide) (by decide), eg]))]
        have kk : CV uZ (b5_8) (LW (b / g)) := hM.ks.2.2.2.2.2.1.2
        have e64 := hG.2.2.2.2.2.2.2.2.2.2.2.2.2.2.2.2.2.2.2.2.1 (hdep ⟨20, .data⟩ (by simp) rfl)
        have kc := (kk 1 _ (rfl)).1
        refine wp_load rfl ((hV 64 (by decide)).trans e64) (ld_u64 uZ (b5_8) 1 _ kc) ?_
        exact tell hK hF hS (by decide) ⟨hM, Gs.stepA hG rfl rfl, trivial, Ns.step hN rfl⟩
      · cases ho
        refine wpOp_step rfl (fun K hK => ?_)
        have yg : fZ 8 = true := hdep ⟨8, .guard⟩ (by simp) rfl
        have eg : tZ 52 = .bool true := hG.2.2.2.2.2.2.2.2.1 yg
        rw [if_pos (wanted_of rfl rfl (show aZ.tmps[52]? = some (.bool true) by rw [hF.tmps (N := 82) (by decide) rfl 52 (by decide) (by decide), eg]))]
        refine wp_index rfl (show aZ.eval (.tmp 9) = .pointer (some ⟨b5_8, 0, none⟩) from (hF.out 9 (by decide)).trans rfl) rfl (ix_wide uZ (b5_8) 2 (by omega)) ?_
        exact tell hK hF hS (by decide) ⟨hM, Gs.stepA hG rfl rfl, trivial, Ns.step hN rfl⟩
      · cases ho
        refine wpOp_step rfl (fun K hK => ?_)
        have yg : fZ 8 = true := hdep ⟨8, .guard⟩ (by simp) rfl
        have eg : tZ 52 = .bool true := hG.2.2.2.2.2.2.2.2.1 yg
        rw [if_pos (wanted_of rfl rfl (show aZ.tmps[52]? = some (.bool true) by rw [hF.tmps (N := 82) (by decide) rfl 52 (by decide) (by decide), eg]))]
        have kk : CV uZ (b5_8) (LW (b / g)) := hM.ks.2.2.2.2.2.1.2
        have e66 := hG.2.2.2.2.2.2.2.2.2.2.2.2.2.2.2.2.2.2.2.2.2.2.1 (hdep ⟨22, .data⟩ (by simp) rfl)
        have kc := (kk 2 _ (rfl)).1
        refine wp_load rfl ((hV 66 (by decide)).trans e66) (ld_u64 uZ (b5_8) 2 _ kc) ?_
        exact tell hK hF hS (by decide) ⟨hM, Gs.stepA hG rfl rfl, trivial, Ns.step hN rfl⟩
      · cases ho
        refine wpOp_step rfl (fun K hK => ?_)
        have yg : fZ 8 = true := hdep ⟨8, .guard⟩ (by simp) rfl
        have eg : tZ 52 = .bool true := hG.2.2.2.2.2.2.2.2.1 yg
        rw [if_pos (wanted_of rfl rfl (show aZ.tmps[52]? = some (.bool true) by rw [hF.tmps (N := 82) (by decide) rfl 52 (by decide) (by decide), eg]))]
        refine wp_index rfl (show aZ.eval (.tmp 9) = .pointer (some ⟨b5_8, 0, none⟩) from (hF.out 9 (by decide)).trans rfl) rfl (ix_wide uZ (b5_8) 3 (by omega)) ?_
        exact tell hK hF hS (by decide) ⟨hM, Gs.stepA hG rfl rfl, trivial, Ns.step hN rfl⟩
      · cases ho
        refine wpOp_step rfl (fun K hK => ?_)
        have yg : fZ 8 = true := hdep ⟨8, .guard⟩ (by simp) rfl
        have eg : tZ 52 = .bool true := hG.2.2.2.2.2.2.2.2.1 yg
        rw [if_pos (wanted_of rfl rfl (show aZ.tmps[52]? = some (.bool true) by rw [hF.tmps (N := 82) (by decide) rfl 52 (by decide) (by decide), eg]))]
        have kk : CV uZ (b5_8) (LW (b / g)) := hM.ks.2.2.2.2.2.1.2
        have e68 := hG.2.2.2.2.2.2.2.2.2.2.2.2.2.2.2.2.2.2.2.2.2.2.2.2.1 (hdep ⟨24, .data⟩ (by simp) rfl)
        have kc := (kk 3 _ (rfl)).1
        refine wp_load rfl ((hV 68 (by decide)).trans e68) (ld_u64 uZ (b5_8) 3 _ kc) ?_
        exact tell hK hF hS (by decide) ⟨hM, Gs.stepA hG rfl rfl, trivial, Ns.step hN rfl⟩
      · cases ho
        refine wpOp_step rfl (fun K hK => ?_)
        have yg : fZ 8 = true := hdep ⟨8, .guard⟩ (by simp) rfl
        have eg : tZ 52 = .bool true := hG.2.2.2.2.2.2.2.2.1 yg
        rw [if_pos (wanted_of rfl rfl (show aZ.tmps[52]? = some (.bool true) by rw [hF.tmps (N := 82) (by decide) rfl 52 (by decide) (by decide), eg]))]
        have e63 := hG.2.2.2.2.2.2.2.2.2.2.2.2.2.2.2.2.2.2.2.1 (hdep ⟨19, .data⟩ (by simp) rfl)
        have e65 := hG.2.2.2.2.2.2.2.2.2.2.2.2.2.2.2.2.2.2.2.2.2.1 (hdep ⟨21, .data⟩ (by simp) rfl)
        have e67 := hG.2.2.2.2.2.2.2.2.2.2.2.2.2.2.2.2.2.2.2.2.2.2.2.1 (hdep ⟨23, .data⟩ (by simp) rfl)
        have e69 := hG.2.2.2.2.2.2.2.2.2.2.2.2.2.2.2.2.2.2.2.2.2.2.2.2.2.1 (hdep ⟨25, .data⟩ (by simp) rfl)
        refine wp_build rfl (vps := [(0, .int .u64 (D0 (b / g))), (1, .int .u64 (D1 (b / g))), (2, .int .u64 (D2 (b / g))), (3, .int .u64 (D3 (b / g)))]) (by show [(0, aZ.eval (.tmp 63)), (1, aZ.eval (.tmp 65)), (2, aZ.eval (.tmp 67)), (3, aZ.eval (.tmp 69))] = _; rw [((hV 63 (by decide)).trans e63), ((hV 65 (by decide)).trans e65), ((hV 67 (by decide)).trans e67), ((hV 69 (by decide)).trans e69)]) (bd4 _ _ _ _ uZ) ?_
        exact tell hK hF hS (by decide) ⟨hM, Gs.stepA hG rfl rfl, trivial, Ns.step hN rfl⟩
      · cases ho
        refine wpOp_step rfl (fun K hK => ?_)
        have yg : fZ 8 = true := hdep ⟨8, .guard⟩ (by simp) rfl
        have eg : tZ 52 = .bool true := hG.2.2.2.2.2.2.2.2.1 yg
        rw [if_pos (wanted_of rfl rfl (show aZ.tmps[52]? = some (.bool true) by rw [hF.tmps (N := 82) (by decide) rfl 52 (by decide) (by decide), eg]))]
        have e61 := hG.2.2.2.2.2.2.2.2.2.2.2.2.2.2.2.2.2.1 (hdep ⟨17, .data⟩ (by simp) rfl)
        have e70 := hG.2.2.2.2.2.2.2.2.2.2.2.2.2.2.2.2.2.2.2.2.2.2.2.2.2.2.1 (hdep ⟨26, .data⟩ (by simp) rfl)
        refine wp_callF rfl (vs := [NV (a / g), NV (b / g)]) (by show [aZ.eval (.tmp 61), aZ.eval (.tmp 70)] = _; rw [((hV 61 (by decide)).trans e61), ((hV 70 (by decide)).trans e70)]) ent_mod_Gcd (hD.out uZ) (fun vZ hB => ?_)
        exact tell hK hF hS (by decide) ⟨hM.call hB, Gs.stepA hG rfl rfl, trivial, Ns.step hN rfl⟩
      · cases ho
        refine wpOp_step rfl (fun K hK => ?_)
        have yg : fZ 8 = true := hdep ⟨8, .guard⟩ (by simp) rfl
        have eg : tZ 52 = .bool true := hG.2.2.2.2.2.2.2.2.1 yg
        rw [if_pos (wanted_of rfl rfl (show aZ.tmps[52]? = some (.bool true) by rw [hF.tmps (N := 82) (by decide) rfl 52 (by decide) (by decide), eg]))]
        refine wp_callF rfl (vs := [(Go.Value.int Go.IntKind.i64 1)]) (by show [(Go.Value.int Go.IntKind.i64 1)] = _; rfl) ent_seneschalbase_Nat (bNat_any 1 uZ (by omega) (by omega)) (fun vZ hB => ?_)
        exact tell hK hF hS (by decide) ⟨hM.call hB, Gs.stepA hG rfl rfl, trivial, Ns.step hN rfl⟩
      · cases ho
        refine wpOp_step rfl (fun K hK => ?_)
        have yg : fZ 8 = true := hdep ⟨8, .guard⟩ (by simp) rfl
        have eg : tZ 52 = .bool true := hG.2.2.2.2.2.2.2.2.1 yg
        rw [if_pos (wanted_of rfl rfl (show aZ.tmps[52]? = some (.bool true) by rw [hF.tmps (N := 82) (by decide) rfl 52 (by decide) (by decide), eg]))]
        have e71 := hG.2.2.2.2.2.2.2.2.2.2.2.2.2.2.2.2.2.2.2.2.2.2.2.2.2.2.2.1 (hdep ⟨27, .data⟩ (by simp) rfl)
        have e72 := hG.2.2.2.2.2.2.2.2.2.2.2.2.2.2.2.2.2.2.2.2.2.2.2.2.2.2.2.2.1 (hdep ⟨28, .data⟩ (by simp) rfl)
        refine wp_bin rfl ((hV 71 (by decide)).trans e71) ((hV 72 (by decide)).trans e72) (eql_same _ _ (1) uZ) ?_
        exact tell hK hF hS (by decide) ⟨hM, Gs.stepA hG rfl rfl, trivial, Ns.step hN rfl⟩
      · cases ho
        refine op_plain rfl rfl (fun K hK => ?_)
        have e52 := hG.2.2.2.2.2.2.2.2.1 (hdep ⟨8, .data⟩ (by simp) rfl)
        have e73 := hG.2.2.2.2.2.2.2.2.2.2.2.2.2.2.2.2.2.2.2.2.2.2.2.2.2.2.2.2.2.1 (hdep ⟨29, .data⟩ (by simp) rfl)
        refine wp_pick rfl ((hV 52 (by decide)).trans e52) (b := true) ((if_pos rfl).trans ((hV 73 (by decide)).trans e73)) ?_
        exact tell hK hF hS (by decide) ⟨hM, Gs.stepA hG rfl rfl, trivial, Ns.step hN rfl⟩
      · cases ho
        have e74 := hG.2.2.2.2.2.2.2.2.2.2.2.2.2.2.2.2.2.2.2.2.2.2.2.2.2.2.2.2.2.2.1 (hdep ⟨30, .data⟩ (by simp) rfl)
        exact t_move ((hV 74 (by decide)).trans e74) hF hS rfl rfl rfl rfl (by decide) ⟨hM, Gs.stepA hG rfl rfl, trivial, Ns.step hN rfl⟩
      · cases ho
        refine wpOp_step rfl (fun K hK => ?_)
        have yg : fZ 31 = true := hdep ⟨31, .guard⟩ (by simp) rfl
        have eg : tZ 75 = .bool true := hG.2.2.2.2.2.2.2.2.2.2.2.2.2.2.2.2.2.2.2.2.2.2.2.2.2.2.2.2.2.2.2.1 yg
        rw [if_pos (wanted_of rfl rfl (show aZ.tmps[75]? = some (.bool true) by rw [hF.tmps (N := 82) (by decide) rfl 75 (by decide) (by decide), eg]))]
        refine wp_load_mid 25 _ rfl _ 0 (show aZ.eval (.tmp 3) = .pointer (some ⟨w.heap.size + 1, 0, none⟩) from (hF.out 3 (by decide)).trans rfl) _ _ (CV.range hM.ks.2.1.2) Try.underlying25 rfl info_api_Nat ?_
        exact tell hK hF hS (by decide) ⟨hM, Gs.stepA hG rfl rfl, trivial, Ns.step hN rfl⟩
      · cases ho
        refine wpOp_step rfl (fun K hK => ?_)
        have yg : fZ 31 = true := hdep ⟨31, .guard⟩ (by simp) rfl
        have eg : tZ 75 = .bool true := hG.2.2.2.2.2.2.2.2.2.2.2.2.2.2.2.2.2.2.2.2.2.2.2.2.2.2.2.2.2.2.2.1 yg
        rw [if_pos (wanted_of rfl rfl (show aZ.tmps[75]? = some (.bool true) by rw [hF.tmps (N := 82) (by decide) rfl 75 (by decide) (by decide), eg]))]
        refine wp_load_mid 25 _ rfl _ 0 (show aZ.eval (.tmp 2) = .pointer (some ⟨w.heap.size, 0, none⟩) from (hF.out 2 (by decide)).trans rfl) _ _ (CV.range hM.ks.1.2) Try.underlying25 rfl info_api_Nat ?_
        exact tell hK hF hS (by decide) ⟨hM, Gs.stepA hG rfl rfl, trivial, Ns.step hN rfl⟩
      · cases ho
        refine wpOp_step rfl (fun K hK => ?_)
        have yg : fZ 31 = true := hdep ⟨31, .guard⟩ (by simp) rfl
        have eg : tZ 75 = .bool true := hG.2.2.2.2.2.2.2.2.2.2.2.2.2.2.2.2.2.2.2.2.2.2.2.2.2.2.2.2.2.2.2.1 yg
        rw [if_pos (wanted_of rfl rfl (show aZ.tmps[75]? = some (.bool true) by rw [hF.tmps (N := 82) (by decide) rfl 75 (by decide) (by decide), eg]))]
        have e76 := hG.2.2.2.2.2.2.2.2.2.2.2.2.2.2.2.2.2.2.2.2.2.2.2.2.2.2.2.2.2.2.2.2.1 (hdep ⟨32, .data⟩ (by simp) rfl)
        have e77 := hG.2.2.2.2.2.2.2.2.2.2.2.2.2.2.2.2.2.2.2.2.2.2.2.2.2.2.2.2.2.2.2.2.2.1 (hdep ⟨33, .data⟩ (by simp) rfl)
        refine wp_callF rfl (vs := [NV (b), NV (a)]) (by show [aZ.eval (.tmp 76), aZ.eval (.tmp 77)] = _; rw [((hV 76 (by decide)).trans e76), ((hV 77 (by decide)).trans e77)]) ent_mod_Gcd (hg2.out uZ) (fun vZ hB => ?_)
        exact tell hK hF hS (by decide) ⟨hM.call hB, Gs.stepA hG rfl rfl, trivial, Ns.step hN rfl⟩
      · cases ho
        refine wpOp_step rfl (fun K hK => ?_)
        have yg : fZ 31 = true := hdep ⟨31, .guard⟩ (by simp) rfl
        have eg : tZ 75 = .bool true := hG.2.2.2.2.2.2.2.2.2.2.2.2.2.2.2.2.2.2.2.2.2.2.2.2.2.2.2.2.2.2.2.1 yg
        rw [if_pos (wanted_of rfl rfl (show aZ.tmps[75]? = some (.bool true) by rw [hF.tmps (N := 82) (by decide) rfl 75 (by decide) (by decide), eg]))]
        refine wp_load_mid 25 _ rfl _ 0 (show aZ.eval (.tmp 5) = .pointer (some ⟨b2_3, 0, none⟩) from (hF.out 5 (by decide)).trans rfl) _ _ (CV.range hM.ks.2.2.1.2) Try.underlying25 rfl info_api_Nat ?_
        exact tell hK hF hS (by decide) ⟨hM, Gs.stepA hG rfl rfl, trivial, Ns.step hN rfl⟩
      · cases ho
        refine wpOp_step rfl (fun K hK => ?_)
        have yg : fZ 31 = true := hdep ⟨31, .guard⟩ (by simp) rfl
        have eg : tZ 75 = .bool true := hG.2.2.2.2.2.2.2.2.2.2.2.2.2.2.2.2.2.2.2.2.2.2.2.2.2.2.2.2.2.2.2.1 yg
        rw [if_pos (wanted_of rfl rfl (show aZ.tmps[75]? = some (.bool true) by rw [hF.tmps (N := 82) (by decide) rfl 75 (by decide) (by decide), eg]))]
        have e78 := hG.2.2.2.2.2.2.2.2.2.2.2.2.2.2.2.2.2.2.2.2.2.2.2.2.2.2.2.2.2.2.2.2.2.2.1 (hdep ⟨34, .data⟩ (by simp) rfl)
        have e79 := hG.2.2.2.2.2.2.2.2.2.2.2.2.2.2.2.2.2.2.2.2.2.2.2.2.2.2.2.2.2.2.2.2.2.2.2.1 (hdep ⟨35, .data⟩ (by simp) rfl)
        refine wp_bin rfl ((hV 78 (by decide)).trans e78) ((hV 79 (by decide)).trans e79) (eql_same _ _ (g) uZ) ?_
        exact tell hK hF hS (by decide) ⟨hM, Gs.stepA hG rfl rfl, trivial, Ns.step hN rfl⟩
      · cases ho
        refine op_plain rfl rfl (fun K hK => ?_)
        have e75 := hG.2.2.2.2.2.2.2.2.2.2.2.2.2.2.2.2.2.2.2.2.2.2.2.2.2.2.2.2.2.2.2.1 (hdep ⟨31, .data⟩ (by simp) rfl)
        have e80 := hG.2.2.2.2.2.2.2.2.2.2.2.2.2.2.2.2.2.2.2.2.2.2.2.2.2.2.2.2.2.2.2.2.2.2.2.2.1 (hdep ⟨36, .data⟩ (by simp) rfl)
        refine wp_pick rfl ((hV 75 (by decide)).trans e75) (b := true) ((if_pos rfl).trans ((hV 80 (by decide)).trans e80)) ?_
        exact tell hK hF hS (by decide) ⟨hM, Gs.stepA hG rfl rfl, trivial, Ns.step hN rfl⟩
      · cases ho
        have e81 := hG.2.2.2.2.2.2.2.2.2.2.2.2.2.2.2.2.2.2.2.2.2.2.2.2.2.2.2.2.2.2.2.2.2.2.2.2.2.1 (hdep ⟨37, .data⟩ (by simp) rfl)
        exact t_assign ((hV 81 (by decide)).trans e81) hF hS rfl rfl rfl rfl (by decide) ⟨hM, Gs.stepA hG rfl rfl, trivial, Ns.step hN rfl⟩
    rintro fZ tZ u6 ⟨hM, hG, hO, hN⟩ hall
    have e44 : tZ 44 = _ := hG.1 (hall 0 (by decide))
    have e45 : tZ 45 = _ := hG.2.1 (hall 1 (by decide))
    have e46 : tZ 46 = _ := hG.2.2.1 (hall 2 (by decide))
    have e47 : tZ 47 = _ := hG.2.2.2.1 (hall 3 (by decide))
    have e48 : tZ 48 = _ := hG.2.2.2.2.1 (hall 4 (by decide))
    have e49 : tZ 49 = _ := hG.2.2.2.2.2.1 (hall 5 (by decide))
    have e50 : tZ 50 = _ := hG.2.2.2.2.2.2.1 (hall 6 (by decide))
    have e51 : tZ 51 = _ := hG.2.2.2.2.2.2.2.1 (hall 7 (by decide))
    have e52 : tZ 52 = _ := hG.2.2.2.2.2.2.2.2.1 (hall 8 (by decide))
    have e53 : tZ 53 = _ := hG.2.2.2.2.2.2.2.2.2.1 (hall 9 (by decide))
    have e54 : tZ 54 = _ := hG.2.2.2.2.2.2.2.2.2.2.1 (hall 10 (by decide))
    have e55 : tZ 55 = _ := hG.2.2.2.2.2.2.2.2.2.2.2.1 (hall 11 (by decide))
    have e56 : tZ 56 = _ := hG.2.2.2.2.2.2.2.2.2.2.2.2.1 (hall 12 (by decide))
    have e57 : tZ 57 = _ := hG.2.2.2.2.2.2.2.2.2.2.2.2.2.1 (hall 13 (by decide))
    have e58 : tZ 58 = _ := hG.2.2.2.2.2.2.2.2.2.2.2.2.2.2.1 (hall 14 (by decide))
    have e59 : tZ 59 = _ := hG.2.2.2.2.2.2.2.2.2.2.2.2.2.2.2.1 (hall 15 (by decide))
    have e60 : tZ 60 = _ := hG.2.2.2.2.2.2.2.2.2.2.2.2.2.2.2.2.1 (hall 16 (by decide))
    have e61 : tZ 61 = _ := hG.2.2.2.2.2.2.2.2.2.2.2.2.2.2.2.2.2.1 (hall 17 (by decide))
    have e62 : tZ 62 = _ := hG.2.2.2.2.2.2.2.2.2.2.2.2.2.2.2.2.2.2.1 (hall 18 (by decide))
    have e63 : tZ 63 = _ := hG.2.2.2.2.2.2.2.2.2.2.2.2.2.2.2.2.2.2.2.1 (hall 19 (by decide))
    have e64 : tZ 64 = _ := hG.2.2.2.2.2.2.2.2.2.2.2.2.2.2.2.2.2.2.2.2.1 (hall 20 (by decide))
    have e65 : tZ 65 = _ := hG.2.2.2.2.2.2.2.2.2.2.2.2.2.2.2.2.2.2.2.2.2.1 (hall 21 (by decide))
    have e66 : tZ 66 = _ := hG.2.2.2.2.2.2.2.2.2.2.2.2.2.2.2.2.2.2.2.2.2.2.1 (hall 22 (by decide))
    have e67 : tZ 67 = _ := hG.2.2.2.2.2.2.2.2.2.2.2.2.2.2.2.2.2.2.2.2.2.2.2.1 (hall 23 (by decide))
    have e68 : tZ 68 = _ := hG.2.2.2.2.2.2.2.2.2.2.2.2.2.2.2.2.2.2.2.2.2.2.2.2.1 (hall 24 (by decide))
    have e69 : tZ 69 = _ := hG.2.2.2.2.2.2.2.2.2.2.2.2.2.2.2.2.2.2.2.2.2.2.2.2.2.1 (hall 25 (by decide))
    have e70 : tZ 70 = _ := hG.2.2.2.2.2.2.2.2.2.2.2.2.2.2.2.2.2.2.2.2.2.2.2.2.2.2.1 (hall 26 (by decide))
    have e71 : tZ 71 = _ := hG.2.2.2.2.2.2.2.2.2.2.2.2.2.2.2.2.2.2.2.2.2.2.2.2.2.2.2.1 (hall 27 (by decide))
    have e72 : tZ 72 = _ := hG.2.2.2.2.2.2.2.2.2.2.2.2.2.2.2.2.2.2.2.2.2.2.2.2.2.2.2.2.1 (hall 28 (by decide))
    have e73 : tZ 73 = _ := hG.2.2.2.2.2.2.2.2.2.2.2.2.2.2.2.2.2.2.2.2.2.2.2.2.2.2.2.2.2.1 (hall 29 (by decide))
    have e74 : tZ 74 = _ := hG.2.2.2.2.2.2.2.2.2.2.2.2.2.2.2.2.2.2.2.2.2.2.2.2.2.2.2.2.2.2.1 (hall 30 (by decide))
    have e75 : tZ 75 = _ := hG.2.2.2.2.2.2.2.2.2.2.2.2.2.2.2.2.2.2.2.2.2.2.2.2.2.2.2.2.2.2.2.1 (hall 31 (by decide))
    have e76 : tZ 76 = _ := hG.2.2.2.2.2.2.2.2.2.2.2.2.2.2.2.2.2.2.2.2.2.2.2.2.2.2.2.2.2.2.2.2.1 (hall 32 (by decide))
    have e77 : tZ 77 = _ := hG.2.2.2.2.2.2.2.2.2.2.2.2.2.2.2.2.2.2.2.2.2.2.2.2.2.2.2.2.2.2.2.2.2.1 (hall 33 (by decide))
    have e78 : tZ 78 = _ := hG.2.2.2.2.2.2.2.2.2.2.2.2.2.2.2.2.2.2.2.2.2.2.2.2.2.2.2.2.2.2.2.2.2.2.1 (hall 34 (by decide))
    have e79 : tZ 79 = _ := hG.2.2.2.2.2.2.2.2.2.2.2.2.2.2.2.2.2.2.2.2.2.2.2.2.2.2.2.2.2.2.2.2.2.2.2.1 (hall 35 (by decide))
    have e80 : tZ 80 = _ := hG.2.2.2.2.2.2.2.2.2.2.2.2.2.2.2.2.2.2.2.2.2.2.2.2.2.2.2.2.2.2.2.2.2.2.2.2.1 (hall 36 (by decide))
    have e81 : tZ 81 = _ := hG.2.2.2.2.2.2.2.2.2.2.2.2.2.2.2.2.2.2.2.2.2.2.2.2.2.2.2.2.2.2.2.2.2.2.2.2.2.1 (hall 37 (by decide))
    have e4 : tZ 4 = _ := hG.2.2.2.2.2.2.2.2.2.2.2.2.2.2.2.2.2.2.2.2.2.2.2.2.2.2.2.2.2.2.2.2.2.2.2.2.2.2.1 (hall 38 (by decide))
    have HB6 : Below w.heap.size w u6 := hM.bel
    have sz6 : u5.heap.size ≤ u6.heap.size := hM.sz
    simp only [ovr, List.set_cons_zero, List.set_cons_succ, e44, e45, e46, e47, e48, e49, e50, e51, e52, e53, e54, e55, e56, e57, e58, e59, e60, e61, e62, e63, e64, e65, e66, e67, e68, e69, e70, e71, e72, e73, e74, e75, e76, e77, e78, e79, e80, e81, e4]
    clear hM hG hO hN hall e44 e45 e46 e47 e48 e49 e50 e51 e52 e53 e54 e55 e56 e57 e58 e59 e60 e61 e62 e63 e64 e65 e66 e67 e68 e69 e70 e71 e72 e73 e74 e75 e76 e77 e78 e79 e80 e81 e4 K5n3_3 K5n6_8 K5n6_9 K5p0 K5p1 Kb5_8 Kb5_9 HB5
    clear tZ
    go_wp2
    refine bodyPost_ret (v := .bool true) (by simp [results, Try.results11, go_sem, ]) rfl ⟨rfl, HB6⟩
end Go.Proofs.Ytnmkbihjbnbkkaa
