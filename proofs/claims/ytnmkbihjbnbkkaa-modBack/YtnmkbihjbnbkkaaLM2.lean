/- ModBack: the walk. -/
import Derived.Test.YtnmkbihjbnbkkaaWK2
import Derived.Test.YtnmkbihjbnbkkaaMA4
import Derived.Test.YtnmkbihjbnbkkaaWW
namespace Go.Proofs.Ytnmkbihjbnbkkaa
open Go.RowKit
set_option linter.unusedVariables false
set_option linter.unusedSimpArgs false
theorem nrWiden (n : Int) (w : World) (hn : In n) : Calls Try.prog 40 #[NV n] w fun e w' => e = .returned (WV n) ∧ Below w.heap.size w w' := by
  rw [WV_In hn]; exact rWiden_any _ _ _ _ w (W_D0 n) (W_D1 n) (W_D2 n) (W_D3 n)
theorem gI_comm (a b : Int) : gI a b = gI b a := by unfold gI; rw [Nat.gcd_comm]
theorem back1 (a b m : Int) : ((a + b) % m - b) % m = a % m := by rw [Int.emod_sub_emod, Int.add_sub_cancel]
theorem back2 (a b m x : Int) (hx : IsInv (b % m) m x) : a * b % m * x % m = a % m := by
  obtain ⟨q, hq⟩ := hx.2.2
  rw [Int.mul_emod, Int.emod_emod, ← Int.mul_emod]
  have e := Int.mul_ediv_add_emod b m
  have : a * b * x = a + m * (a * q + a * x * (b / m)) := by
    generalize b / m = z at *
    generalize b % m = r at *
    have h1 : b = m * z + r := by omega
    have h2 : x * r = 1 + m * q := by omega
    subst h1; grind
  rw [this, Int.add_mul_emod_self_left]
set_option maxRecDepth 100000 in
set_option maxHeartbeats 4000000 in
theorem modBack_0 (a b : Int) (w : World) (ha : In a) (hb : In b) : Calls Try.prog 9 #[NV a, NV b, A4 0 0 0 0] w fun en w' => en = .returned (.bool true) ∧ Below w.heap.size w w' := by
  go_enter Try.func9, Try.ntmps9
  go_upto_region 1 with fail
  have HB0 : Below w.heap.size w (((w.alloc (.cells (LN (a) : List Value).toArray 25)).alloc (.cells (LN (b) : List Value).toArray 25)).alloc (.cells ([.int .u64 (0), .int .u64 (0), .int .u64 (0), .int .u64 (0)] : List Value).toArray 25)) := (balloc (balloc (balloc (bself w) _) _) _)
  have K0p0 : CV (((w.alloc (.cells (LN (a) : List Value).toArray 25)).alloc (.cells (LN (b) : List Value).toArray 25)).alloc (.cells ([.int .u64 (0), .int .u64 (0), .int .u64 (0), .int .u64 (0)] : List Value).toArray 25)) (w.heap.size) (LN (a)) := (((CV.new w (LN (a)) 25).alloc (by simp <;> omega) _).alloc (by simp <;> omega) _)
  have l0p0 : w.heap.size < (((w.alloc (.cells (LN (a) : List Value).toArray 25)).alloc (.cells (LN (b) : List Value).toArray 25)).alloc (.cells ([.int .u64 (0), .int .u64 (0), .int .u64 (0), .int .u64 (0)] : List Value).toArray 25)).heap.size := by simp <;> omega
  have K0p1 : CV (((w.alloc (.cells (LN (a) : List Value).toArray 25)).alloc (.cells (LN (b) : List Value).toArray 25)).alloc (.cells ([.int .u64 (0), .int .u64 (0), .int .u64 (0), .int .u64 (0)] : List Value).toArray 25)) (w.heap.size + 1) (LN (b)) := ((CV.newAt (w.alloc (.cells (LN (a) : List Value).toArray 25)) (LN (b)) 25 _ (by simp)).alloc (by simp <;> omega) _)
  have l0p1 : w.heap.size + 1 < (((w.alloc (.cells (LN (a) : List Value).toArray 25)).alloc (.cells (LN (b) : List Value).toArray 25)).alloc (.cells ([.int .u64 (0), .int .u64 (0), .int .u64 (0), .int .u64 (0)] : List Value).toArray 25)).heap.size := by simp <;> omega
  have K0p2 : CV (((w.alloc (.cells (LN (a) : List Value).toArray 25)).alloc (.cells (LN (b) : List Value).toArray 25)).alloc (.cells ([.int .u64 (0), .int .u64 (0), .int .u64 (0), .int .u64 (0)] : List Value).toArray 25)) (w.heap.size + 1 + 1) ([.int .u64 (0), .int .u64 (0), .int .u64 (0), .int .u64 (0)]) := (CV.newAt ((w.alloc (.cells (LN (a) : List Value).toArray 25)).alloc (.cells (LN (b) : List Value).toArray 25)) ([.int .u64 (0), .int .u64 (0), .int .u64 (0), .int .u64 (0)]) 25 _ (by simp))
  have l0p2 : w.heap.size + 1 + 1 < (((w.alloc (.cells (LN (a) : List Value).toArray 25)).alloc (.cells (LN (b) : List Value).toArray 25)).alloc (.cells ([.int .u64 (0), .int .u64 (0), .int .u64 (0), .int .u64 (0)] : List Value).toArray 25)).heap.size := by simp <;> omega
  generalize (((w.alloc (.cells (LN (a) : List Value).toArray 25)).alloc (.cells (LN (b) : List Value).toArray 25)).alloc (.cells ([.int .u64 (0), .int .u64 (0), .int .u64 (0), .int .u64 (0)] : List Value).toArray 25)) = v0 at *
  refine region_plain [21, 22] (fun fZ tZ uZ => MR w.heap.size w (v0.heap.size) [(w.heap.size, LN (a)), (w.heap.size + 1, LN (b)), (w.heap.size + 1 + 1, [.int .u64 (0), .int .u64 (0), .int .u64 (0), .int .u64 (0)])] [] [] uZ ∧ Gs fZ tZ [(0, 21, .bool true), (1, 22, .bool false)] ∧ Os fZ [] ∧ Ns fZ tZ []) (by kernel_rfl) ?_ ?_ ?_
  · exact ⟨{ bel := HB0, lo := HB0.size, sz := Nat.le_refl _, ks := ⟨⟨l0p0, K0p0⟩, ⟨l0p1, K0p1⟩, ⟨l0p2, K0p2⟩, trivial⟩, ex := trivial, nw := trivial, nd := trivial }, Gs.none _ _, Os.none _, trivial⟩
  · rintro fZ tZ uZ iZ oZ aZ hF ⟨hM, hG, hO, hN⟩ ho hfi hdep
    have hS : [21, 22].Nodup := by decide
    have hV := hF.evs (N := 97) (by decide) rfl (by decide)
    have il : iZ < 2 := (Array.getElem?_eq_some_iff.1 ho).1
    have ix : iZ = 0 ∨ iZ = 1 := by omega
    rcases ix with rfl | rfl
    · cases ho
      exact t_call (vs := []) (by show [] = _; rfl) ent_seneschallaw02_works (works2 uZ) hF hS rfl rfl rfl rfl (by decide) (fun _ hB => ⟨hM.call hB, Gs.stepA hG rfl rfl, trivial, Ns.step hN rfl⟩)
    · cases ho
      refine op_plain rfl rfl (fun K hK => ?_)
      have e21 := hG.1 (hdep ⟨0, .data⟩ (by simp) rfl)
      refine wp_un rfl ((hV 21 (by decide)).trans e21) (rfl) ?_
      exact tell hK hF hS (by decide) ⟨hM, Gs.stepA hG rfl rfl, trivial, Ns.step hN rfl⟩
  rintro fZ tZ u1 ⟨hM, hG, hO, hN⟩ hall
  have e21 : tZ 21 = _ := hG.1 (hall 0 (by decide))
  have e22 : tZ 22 = _ := hG.2.1 (hall 1 (by decide))
  have HB1 : Below w.heap.size w u1 := hM.bel
  have sz1 : v0.heap.size ≤ u1.heap.size := hM.sz
  have K1p0 : CV u1 (w.heap.size) (LN (a)) := hM.ks.1.2
  have l1p0 : w.heap.size < u1.heap.size := Nat.lt_of_lt_of_le hM.ks.1.1 hM.sz
  have K1p1 : CV u1 (w.heap.size + 1) (LN (b)) := hM.ks.2.1.2
  have l1p1 : w.heap.size + 1 < u1.heap.size := Nat.lt_of_lt_of_le hM.ks.2.1.1 hM.sz
  have K1p2 : CV u1 (w.heap.size + 1 + 1) ([.int .u64 (0), .int .u64 (0), .int .u64 (0), .int .u64 (0)]) := hM.ks.2.2.1.2
  have l1p2 : w.heap.size + 1 + 1 < u1.heap.size := Nat.lt_of_lt_of_le hM.ks.2.2.1.1 hM.sz
  simp only [ovr, List.set_cons_zero, List.set_cons_succ, e21, e22]
  clear hM hG hO hN hall e21 e22 K0p0 K0p1 K0p2 HB0
  clear tZ
  go_upto_region 3 with fail
  refine region_plain [23, 24, 25] (fun fZ tZ uZ => MR w.heap.size w (u1.heap.size) [(w.heap.size, LN (a)), (w.heap.size + 1, LN (b)), (w.heap.size + 1 + 1, [.int .u64 (0), .int .u64 (0), .int .u64 (0), .int .u64 (0)])] [] [] uZ ∧ Gs fZ tZ [(0, 23, .agg #[.int .u64 (0), .int .u64 (0), .int .u64 (0), .int .u64 (0)]), (1, 24, A4 (0) (0) (0) (0)), (2, 25, .bool true)] ∧ Os fZ [] ∧ Ns fZ tZ []) (by kernel_rfl) ?_ ?_ ?_
  · exact ⟨{ bel := HB1, lo := HB1.size, sz := Nat.le_refl _, ks := ⟨⟨l1p0, K1p0⟩, ⟨l1p1, K1p1⟩, ⟨l1p2, K1p2⟩, trivial⟩, ex := trivial, nw := trivial, nd := trivial }, Gs.none _ _, Os.none _, trivial⟩
  · rintro fZ tZ uZ iZ oZ aZ hF ⟨hM, hG, hO, hN⟩ ho hfi hdep
    have hS : [23, 24, 25].Nodup := by decide
    have hV := hF.evs (N := 97) (by decide) rfl (by decide)
    have il : iZ < 3 := (Array.getElem?_eq_some_iff.1 ho).1
    have ix : iZ = 0 ∨ iZ = 1 ∨ iZ = 2 := by omega
    rcases ix with rfl | rfl | rfl
    · cases ho
      exact t_load (show aZ.eval (.tmp 5) = .pointer (some ⟨w.heap.size + 1 + 1, 0, none⟩) from (hF.out 5 (by decide)).trans rfl) hM.ks.2.2.1.2 Try.underlying25 info_api_Nat hF hS rfl rfl rfl rfl rfl (by decide) ⟨hM, Gs.stepA hG rfl rfl, trivial, Ns.step hN rfl⟩
    · cases ho
      refine op_plain rfl rfl (fun K hK => ?_)
      refine wp_val (v := A4 (0) (0) (0) (0)) (w' := uZ) (by kernel_rfl) ?_
      exact tell hK hF hS (by decide) ⟨hM, Gs.stepA hG rfl rfl, trivial, Ns.step hN rfl⟩
    · cases ho
      refine op_plain rfl rfl (fun K hK => ?_)
      have e23 := hG.1 (hdep ⟨0, .data⟩ (by simp) rfl)
      have e24 := hG.2.1 (hdep ⟨1, .data⟩ (by simp) rfl)
      refine wp_bin rfl ((hV 23 (by decide)).trans e23) ((hV 24 (by decide)).trans e24) (by rw [eql_w]) ?_
      exact tell hK hF hS (by decide) ⟨hM, Gs.stepA hG rfl rfl, trivial, Ns.step hN rfl⟩
  rintro fZ tZ u2 ⟨hM, hG, hO, hN⟩ hall
  have e23 : tZ 23 = _ := hG.1 (hall 0 (by decide))
  have e24 : tZ 24 = _ := hG.2.1 (hall 1 (by decide))
  have e25 : tZ 25 = _ := hG.2.2.1 (hall 2 (by decide))
  have HB2 : Below w.heap.size w u2 := hM.bel
  have sz2 : u1.heap.size ≤ u2.heap.size := hM.sz
  have K2p0 : CV u2 (w.heap.size) (LN (a)) := hM.ks.1.2
  have l2p0 : w.heap.size < u2.heap.size := Nat.lt_of_lt_of_le hM.ks.1.1 hM.sz
  have K2p1 : CV u2 (w.heap.size + 1) (LN (b)) := hM.ks.2.1.2
  have l2p1 : w.heap.size + 1 < u2.heap.size := Nat.lt_of_lt_of_le hM.ks.2.1.1 hM.sz
  have K2p2 : CV u2 (w.heap.size + 1 + 1) ([.int .u64 (0), .int .u64 (0), .int .u64 (0), .int .u64 (0)]) := hM.ks.2.2.1.2
  have l2p2 : w.heap.size + 1 + 1 < u2.heap.size := Nat.lt_of_lt_of_le hM.ks.2.2.1.1 hM.sz
  simp only [ovr, List.set_cons_zero, List.set_cons_succ, e23, e24, e25]
  clear hM hG hO hN hall e23 e24 e25 K1p0 K1p1 K1p2 HB1
  clear tZ
  go_upto_region 4 with fail
  refine region_plain [27, 28, 29, 30, 26, 31, 32, 7, 8] (fun fZ tZ uZ => MR w.heap.size w (u2.heap.size) [(w.heap.size, LN (a)), (w.heap.size + 1, LN (b)), (w.heap.size + 1 + 1, [.int .u64 (0), .int .u64 (0), .int .u64 (0), .int .u64 (0)])] [] [(fZ 7, fZ 8, tZ 7, L0s, [.int .u64 (0), .int .u64 (0), .int .u64 (0), .int .u64 (0)])] uZ ∧ Gs fZ tZ [(0, 27, NV (a)), (1, 28, NV (b)), (2, 29, .agg #[.int .u64 (0), .int .u64 (0), .int .u64 (0), .int .u64 (0)]), (3, 30, .tuple #[A4 (0) (0) (0) (0), .int .i64 20]), (4, 26, .tuple #[A4 (0) (0) (0) (0), .int .i64 20]), (5, 31, A4 (0) (0) (0) (0)), (6, 32, .int .i64 20), (9, 8, .int .i64 20)] ∧ Os fZ [(8, 7)] ∧ Ns fZ tZ []) (by kernel_rfl) ?_ ?_ ?_
  · exact ⟨{ bel := HB2, lo := HB2.size, sz := Nat.le_refl _, ks := ⟨⟨l2p0, K2p0⟩, ⟨l2p1, K2p1⟩, ⟨l2p2, K2p2⟩, trivial⟩, ex := trivial, nw := ⟨fun e => (by cases e), trivial⟩, nd := ⟨fun e => (by cases e), trivial⟩ }, Gs.none _ _, Os.none _, trivial⟩
  · rintro fZ tZ uZ iZ oZ aZ hF ⟨hM, hG, hO, hN⟩ ho hfi hdep
    have hS : [27, 28, 29, 30, 26, 31, 32, 7, 8].Nodup := by decide
    have hV := hF.evs (N := 97) (by decide) rfl (by decide)
    have il : iZ < 10 := (Array.getElem?_eq_some_iff.1 ho).1
    have ix : iZ = 0 ∨ iZ = 1 ∨ iZ = 2 ∨ iZ = 3 ∨ iZ = 4 ∨ iZ = 5 ∨ iZ = 6 ∨ iZ = 7 ∨ iZ = 8 ∨ iZ = 9 := by omega
    rcases ix with rfl | rfl | rfl | rfl | rfl | rfl | rfl | rfl | rfl | rfl
    · cases ho
      exact t_load (show aZ.eval (.tmp 3) = .pointer (some ⟨w.heap.size, 0, none⟩) from (hF.out 3 (by decide)).trans rfl) hM.ks.1.2 Try.underlying25 info_api_Nat hF hS rfl rfl rfl rfl rfl (by decide) ⟨hM, Gs.stepA hG rfl rfl, hO.keep rfl, Ns.step hN rfl⟩
    · cases ho
      exact t_load (show aZ.eval (.tmp 4) = .pointer (some ⟨w.heap.size + 1, 0, none⟩) from (hF.out 4 (by decide)).trans rfl) hM.ks.2.1.2 Try.underlying25 info_api_Nat hF hS rfl rfl rfl rfl rfl (by decide) ⟨hM, Gs.stepA hG rfl rfl, hO.keep rfl, Ns.step hN rfl⟩
    · cases ho
      exact t_load (show aZ.eval (.tmp 5) = .pointer (some ⟨w.heap.size + 1 + 1, 0, none⟩) from (hF.out 5 (by decide)).trans rfl) hM.ks.2.2.1.2 Try.underlying25 info_api_Nat hF hS rfl rfl rfl rfl rfl (by decide) ⟨hM, Gs.stepA hG rfl rfl, hO.keep rfl, Ns.step hN rfl⟩
    · cases ho
      have e27 := hG.1 (hdep ⟨0, .data⟩ (by simp) rfl)
      have e28 := hG.2.1 (hdep ⟨1, .data⟩ (by simp) rfl)
      have e29 := hG.2.2.1 (hdep ⟨2, .data⟩ (by simp) rfl)
      exact t_call (vs := [NV (a), NV (b), .agg #[.int .u64 (0), .int .u64 (0), .int .u64 (0), .int .u64 (0)]]) (by show [aZ.eval (.tmp 27), aZ.eval (.tmp 28), aZ.eval (.tmp 29)] = _; rw [((hV 27 (by decide)).trans e27), ((hV 28 (by decide)).trans e28), ((hV 29 (by decide)).trans e29)]) ent_mod_Add (mAdd0 a b uZ ha hb) hF hS rfl rfl rfl rfl (by decide) (fun _ hB => ⟨hM.call hB, Gs.stepA hG rfl rfl, hO.keep rfl, Ns.step hN rfl⟩)
    · cases ho
      have e30 := hG.2.2.2.1 (hdep ⟨3, .data⟩ (by simp) rfl)
      exact t_move ((hV 30 (by decide)).trans e30) hF hS rfl rfl rfl rfl (by decide) ⟨hM, Gs.stepA hG rfl rfl, hO.keep rfl, Ns.step hN rfl⟩
    · cases ho
      have e26 := hG.2.2.2.2.1 (hdep ⟨4, .data⟩ (by simp) rfl)
      exact t_extract ((hV 26 (by decide)).trans e26) hF hS rfl rfl rfl rfl rfl (by decide) ⟨hM, Gs.stepA hG rfl rfl, hO.keep rfl, Ns.step hN rfl⟩
    · cases ho
      have e26 := hG.2.2.2.2.1 (hdep ⟨4, .data⟩ (by simp) rfl)
      exact t_extract ((hV 26 (by decide)).trans e26) hF hS rfl rfl rfl rfl rfl (by decide) ⟨hM, Gs.stepA hG rfl rfl, hO.keep rfl, Ns.step hN rfl⟩
    · cases ho
      refine op_plain rfl rfl (fun K hK => ?_)
      refine wp_alloc rfl (al_api_Nat uZ) ?_
      have q1 : fZ 8 = false := Os.not (hO.1) hfi
      exact tell hK hF hS (by decide) ⟨MR.newF 0 hM rfl hfi q1, Gs.other rfl hG, hO.keep rfl, Ns.step hN rfl⟩
    · cases ho
      refine op_plain rfl rfl (fun K hK => ?_)
      have y7 : fZ 7 = true := hdep ⟨7, .data⟩ (by simp) rfl
      obtain ⟨bb, eb, b1, b2, b3⟩ := hM.nw.1 y7
      have eb : tZ 7 = .pointer (some ⟨bb, 0, none⟩) := eb
      have e31 := hG.2.2.2.2.2.1 (hdep ⟨5, .data⟩ (by simp) rfl)
      refine wp_store_mid 25 _ _ rfl bb 0 ([.int .u64 (0), .int .u64 (0), .int .u64 (0), .int .u64 (0)] : List Value).toArray ((hV 7 (by decide)).trans eb) ((hV 31 (by decide)).trans e31) (by have h2 := b3; simp only [hfi] at h2; exact h2.there) info_api_Nat (all_one rfl) ?_
      exact tell0 hK hF ⟨MR.putF 0 hM rfl y7 eb b1 rfl, Gs.idle rfl hG, ⟨fun _ => hdep ⟨7, .data⟩ (by simp) rfl, trivial⟩, Ns.idle hN⟩
    · cases ho
      have e32 := hG.2.2.2.2.2.2.1 (hdep ⟨6, .data⟩ (by simp) rfl)
      exact t_assign ((hV 32 (by decide)).trans e32) hF hS rfl rfl rfl rfl (by decide) ⟨hM, Gs.stepA hG rfl rfl, hO.keep rfl, Ns.step hN rfl⟩
  rintro fZ tZ u3 ⟨hM, hG, hO, hN⟩ hall
  have e27 : tZ 27 = _ := hG.1 (hall 0 (by decide))
  have e28 : tZ 28 = _ := hG.2.1 (hall 1 (by decide))
  have e29 : tZ 29 = _ := hG.2.2.1 (hall 2 (by decide))
  have e30 : tZ 30 = _ := hG.2.2.2.1 (hall 3 (by decide))
  have e26 : tZ 26 = _ := hG.2.2.2.2.1 (hall 4 (by decide))
  have e31 : tZ 31 = _ := hG.2.2.2.2.2.1 (hall 5 (by decide))
  have e32 : tZ 32 = _ := hG.2.2.2.2.2.2.1 (hall 6 (by decide))
  have e8 : tZ 8 = _ := hG.2.2.2.2.2.2.2.1 (hall 9 (by decide))
  obtain ⟨b3_7, ee7, pb3_7, lb3_7, kb3_7⟩ := hM.nw.1 (hall 7 (by decide))
  have e7 : tZ 7 = .pointer (some ⟨b3_7, 0, none⟩) := ee7
  clear ee7
  have Kb3_7 : CV u3 b3_7 ([.int .u64 (0), .int .u64 (0), .int .u64 (0), .int .u64 (0)]) := by
    have h1 : CV u3 b3_7 (bif fZ 8 then [.int .u64 (0), .int .u64 (0), .int .u64 (0), .int .u64 (0)] else L0s) := kb3_7
    rw [hall 8 (by decide)] at h1; exact h1
  clear kb3_7
  have HB3 : Below w.heap.size w u3 := hM.bel
  have sz3 : u2.heap.size ≤ u3.heap.size := hM.sz
  simp only [ovr, List.set_cons_zero, List.set_cons_succ, e27, e28, e29, e30, e26, e31, e32, e8, e7]
  clear hM hG hO hN hall e27 e28 e29 e30 e26 e31 e32 e8 e7 K2p0 K2p1 K2p2 HB2
  clear tZ
  go_upto_region 5 with fail
  refine region_plain [33, 34, 6] (fun fZ tZ uZ => MR w.heap.size w (u3.heap.size) [] [] [] uZ ∧ Gs fZ tZ [(0, 33, .int .i64 20), (1, 34, .bool true), (2, 6, .bool true)] ∧ Os fZ [] ∧ Ns fZ tZ []) (by kernel_rfl) ?_ ?_ ?_
  · exact ⟨{ bel := HB3, lo := HB3.size, sz := Nat.le_refl _, ks := trivial, ex := trivial, nw := trivial, nd := trivial }, Gs.none _ _, Os.none _, trivial⟩
  · rintro fZ tZ uZ iZ oZ aZ hF ⟨hM, hG, hO, hN⟩ ho hfi hdep
    have hS : [33, 34, 6].Nodup := by decide
    have hV := hF.evs (N := 97) (by decide) rfl (by decide)
    have il : iZ < 3 := (Array.getElem?_eq_some_iff.1 ho).1
    have ix : iZ = 0 ∨ iZ = 1 ∨ iZ = 2 := by omega
    rcases ix with rfl | rfl | rfl
    · cases ho
      exact t_move (show aZ.eval (.tmp 8) = .int .i64 20 from (hF.out 8 (by decide)).trans rfl) hF hS rfl rfl rfl rfl (by decide) ⟨hM, Gs.stepA hG rfl rfl, trivial, Ns.step hN rfl⟩
    · cases ho
      refine op_plain rfl rfl (fun K hK => ?_)
      have e33 := hG.1 (hdep ⟨0, .data⟩ (by simp) rfl)
      refine wp_bin rfl ((hV 33 (by decide)).trans e33) rfl (eql_i _ _ _ 20 20 _ uZ rfl) ?_
      exact tell hK hF hS (by decide) ⟨hM, Gs.stepA hG rfl rfl, trivial, Ns.step hN rfl⟩
    · cases ho
      have e34 := hG.2.1 (hdep ⟨1, .data⟩ (by simp) rfl)
      exact t_assign ((hV 34 (by decide)).trans e34) hF hS rfl rfl rfl rfl (by decide) ⟨hM, Gs.stepA hG rfl rfl, trivial, Ns.step hN rfl⟩
  rintro fZ tZ u4 ⟨hM, hG, hO, hN⟩ hall
  have e33 : tZ 33 = _ := hG.1 (hall 0 (by decide))
  have e34 : tZ 34 = _ := hG.2.1 (hall 1 (by decide))
  have e6 : tZ 6 = _ := hG.2.2.1 (hall 2 (by decide))
  have HB4 : Below w.heap.size w u4 := hM.bel
  have sz4 : u3.heap.size ≤ u4.heap.size := hM.sz
  simp only [ovr, List.set_cons_zero, List.set_cons_succ, e33, e34, e6]
  clear hM hG hO hN hall e33 e34 e6 HB3
  clear tZ
  go_wp2
  refine bodyPost_ret (v := .bool true) (by simp [results, Try.results9, go_sem, ]) rfl ⟨rfl, HB4⟩
set_option maxRecDepth 100000 in
set_option maxHeartbeats 4000000 in
theorem modBack_1 (a b m : Int) (w : World) (ha : In a) (hb : In b) (hm : In m) (h : m ≠ 0) : Calls Try.prog 9 #[NV a, NV b, NV m] w fun en w' => en = .returned (.bool true) ∧ Below w.heap.size w w' := by
  have hz : decide (m = 0) = false := by simp [h]
  go_enter Try.func9, Try.ntmps9
  go_upto_region 1 with fail
  have HB0 : Below w.heap.size w (((w.alloc (.cells (LN (a) : List Value).toArray 25)).alloc (.cells (LN (b) : List Value).toArray 25)).alloc (.cells (LN (m) : List Value).toArray 25)) := (balloc (balloc (balloc (bself w) _) _) _)
  have K0p0 : CV (((w.alloc (.cells (LN (a) : List Value).toArray 25)).alloc (.cells (LN (b) : List Value).toArray 25)).alloc (.cells (LN (m) : List Value).toArray 25)) (w.heap.size) (LN (a)) := (((CV.new w (LN (a)) 25).alloc (by simp <;> omega) _).alloc (by simp <;> omega) _)
  have l0p0 : w.heap.size < (((w.alloc (.cells (LN (a) : List Value).toArray 25)).alloc (.cells (LN (b) : List Value).toArray 25)).alloc (.cells (LN (m) : List Value).toArray 25)).heap.size := by simp <;> omega
  have K0p1 : CV (((w.alloc (.cells (LN (a) : List Value).toArray 25)).alloc (.cells (LN (b) : List Value).toArray 25)).alloc (.cells (LN (m) : List Value).toArray 25)) (w.heap.size + 1) (LN (b)) := ((CV.newAt (w.alloc (.cells (LN (a) : List Value).toArray 25)) (LN (b)) 25 _ (by simp)).alloc (by simp <;> omega) _)
  have l0p1 : w.heap.size + 1 < (((w.alloc (.cells (LN (a) : List Value).toArray 25)).alloc (.cells (LN (b) : List Value).toArray 25)).alloc (.cells (LN (m) : List Value).toArray 25)).heap.size := by simp <;> omega
  have K0p2 : CV (((w.alloc (.cells (LN (a) : List Value).toArray 25)).alloc (.cells (LN (b) : List Value).toArray 25)).alloc (.cells (LN (m) : List Value).toArray 25)) (w.heap.size + 1 + 1) (LN (m)) := (CV.newAt ((w.alloc (.cells (LN (a) : List Value).toArray 25)).alloc (.cells (LN (b) : List Value).toArray 25)) (LN (m)) 25 _ (by simp))
  have l0p2 : w.heap.size + 1 + 1 < (((w.alloc (.cells (LN (a) : List Value).toArray 25)).alloc (.cells (LN (b) : List Value).toArray 25)).alloc (.cells (LN (m) : List Value).toArray 25)).heap.size := by simp <;> omega
  generalize (((w.alloc (.cells (LN (a) : List Value).toArray 25)).alloc (.cells (LN (b) : List Value).toArray 25)).alloc (.cells (LN (m) : List Value).toArray 25)) = v0 at *
  refine region_plain [21, 22] (fun fZ tZ uZ => MR w.heap.size w (v0.heap.size) [(w.heap.size, LN (a)), (w.heap.size + 1, LN (b)), (w.heap.size + 1 + 1, LN (m))] [] [] uZ ∧ Gs fZ tZ [(0, 21, .bool true), (1, 22, .bool false)] ∧ Os fZ [] ∧ Ns fZ tZ []) (by kernel_rfl) ?_ ?_ ?_
  · exact ⟨{ bel := HB0, lo := HB0.size, sz := Nat.le_refl _, ks := ⟨⟨l0p0, K0p0⟩, ⟨l0p1, K0p1⟩, ⟨l0p2, K0p2⟩, trivial⟩, ex := trivial, nw := trivial, nd := trivial }, Gs.none _ _, Os.none _, trivial⟩
  · rintro fZ tZ uZ iZ oZ aZ hF ⟨hM, hG, hO, hN⟩ ho hfi hdep
    have hS : [21, 22].Nodup := by decide
    have hV := hF.evs (N := 97) (by decide) rfl (by decide)
    have il : iZ < 2 := (Array.getElem?_eq_some_iff.1 ho).1
    have ix : iZ = 0 ∨ iZ = 1 := by omega
    rcases ix with rfl | rfl
    · cases ho
      exact t_call (vs := []) (by show [] = _; rfl) ent_seneschallaw02_works (works2 uZ) hF hS rfl rfl rfl rfl (by decide) (fun _ hB => ⟨hM.call hB, Gs.stepA hG rfl rfl, trivial, Ns.step hN rfl⟩)
    · cases ho
      refine op_plain rfl rfl (fun K hK => ?_)
      have e21 := hG.1 (hdep ⟨0, .data⟩ (by simp) rfl)
      refine wp_un rfl ((hV 21 (by decide)).trans e21) (rfl) ?_
      exact tell hK hF hS (by decide) ⟨hM, Gs.stepA hG rfl rfl, trivial, Ns.step hN rfl⟩
  rintro fZ tZ u1 ⟨hM, hG, hO, hN⟩ hall
  have e21 : tZ 21 = _ := hG.1 (hall 0 (by decide))
  have e22 : tZ 22 = _ := hG.2.1 (hall 1 (by decide))
  have HB1 : Below w.heap.size w u1 := hM.bel
  have sz1 : v0.heap.size ≤ u1.heap.size := hM.sz
  have K1p0 : CV u1 (w.heap.size) (LN (a)) := hM.ks.1.2
  have l1p0 : w.heap.size < u1.heap.size := Nat.lt_of_lt_of_le hM.ks.1.1 hM.sz
  have K1p1 : CV u1 (w.heap.size + 1) (LN (b)) := hM.ks.2.1.2
  have l1p1 : w.heap.size + 1 < u1.heap.size := Nat.lt_of_lt_of_le hM.ks.2.1.1 hM.sz
  have K1p2 : CV u1 (w.heap.size + 1 + 1) (LN (m)) := hM.ks.2.2.1.2
  have l1p2 : w.heap.size + 1 + 1 < u1.heap.size := Nat.lt_of_lt_of_le hM.ks.2.2.1.1 hM.sz
  simp only [ovr, List.set_cons_zero, List.set_cons_succ, e21, e22]
  clear hM hG hO hN hall e21 e22 K0p0 K0p1 K0p2 HB0
  clear tZ
  go_upto_region 3 with fail
  refine region_plain [23, 24, 25] (fun fZ tZ uZ => MR w.heap.size w (u1.heap.size) [(w.heap.size, LN (a)), (w.heap.size + 1, LN (b)), (w.heap.size + 1 + 1, LN (m))] [] [] uZ ∧ Gs fZ tZ [(0, 23, NV (m)), (1, 24, A4 (0) (0) (0) (0)), (2, 25, .bool false)] ∧ Os fZ [] ∧ Ns fZ tZ []) (by kernel_rfl) ?_ ?_ ?_
  · exact ⟨{ bel := HB1, lo := HB1.size, sz := Nat.le_refl _, ks := ⟨⟨l1p0, K1p0⟩, ⟨l1p1, K1p1⟩, ⟨l1p2, K1p2⟩, trivial⟩, ex := trivial, nw := trivial, nd := trivial }, Gs.none _ _, Os.none _, trivial⟩
  · rintro fZ tZ uZ iZ oZ aZ hF ⟨hM, hG, hO, hN⟩ ho hfi hdep
    have hS : [23, 24, 25].Nodup := by decide
    have hV := hF.evs (N := 97) (by decide) rfl (by decide)
    have il : iZ < 3 := (Array.getElem?_eq_some_iff.1 ho).1
    have ix : iZ = 0 ∨ iZ = 1 ∨ iZ = 2 := by omega
    rcases ix with rfl | rfl | rfl
    · cases ho
      exact t_load (show aZ.eval (.tmp 5) = .pointer (some ⟨w.heap.size + 1 + 1, 0, none⟩) from (hF.out 5 (by decide)).trans rfl) hM.ks.2.2.1.2 Try.underlying25 info_api_Nat hF hS rfl rfl rfl rfl rfl (by decide) ⟨hM, Gs.stepA hG rfl rfl, trivial, Ns.step hN rfl⟩
    · cases ho
      refine op_plain rfl rfl (fun K hK => ?_)
      refine wp_val (v := A4 (0) (0) (0) (0)) (w' := uZ) (by kernel_rfl) ?_
      exact tell hK hF hS (by decide) ⟨hM, Gs.stepA hG rfl rfl, trivial, Ns.step hN rfl⟩
    · cases ho
      refine op_plain rfl rfl (fun K hK => ?_)
      have e23 := hG.1 (hdep ⟨0, .data⟩ (by simp) rfl)
      have e24 := hG.2.1 (hdep ⟨1, .data⟩ (by simp) rfl)
      refine wp_bin rfl ((hV 23 (by decide)).trans e23) ((hV 24 (by decide)).trans e24) (eql_0 _ _ hm _ hz uZ) ?_
      exact tell hK hF hS (by decide) ⟨hM, Gs.stepA hG rfl rfl, trivial, Ns.step hN rfl⟩
  rintro fZ tZ u2 ⟨hM, hG, hO, hN⟩ hall
  have e23 : tZ 23 = _ := hG.1 (hall 0 (by decide))
  have e24 : tZ 24 = _ := hG.2.1 (hall 1 (by decide))
  have e25 : tZ 25 = _ := hG.2.2.1 (hall 2 (by decide))
  have HB2 : Below w.heap.size w u2 := hM.bel
  have sz2 : u1.heap.size ≤ u2.heap.size := hM.sz
  have K2p0 : CV u2 (w.heap.size) (LN (a)) := hM.ks.1.2
  have l2p0 : w.heap.size < u2.heap.size := Nat.lt_of_lt_of_le hM.ks.1.1 hM.sz
  have K2p1 : CV u2 (w.heap.size + 1) (LN (b)) := hM.ks.2.1.2
  have l2p1 : w.heap.size + 1 < u2.heap.size := Nat.lt_of_lt_of_le hM.ks.2.1.1 hM.sz
  have K2p2 : CV u2 (w.heap.size + 1 + 1) (LN (m)) := hM.ks.2.2.1.2
  have l2p2 : w.heap.size + 1 + 1 < u2.heap.size := Nat.lt_of_lt_of_le hM.ks.2.2.1.1 hM.sz
  simp only [ovr, List.set_cons_zero, List.set_cons_succ, e23, e24, e25]
  clear hM hG hO hN hall e23 e24 e25 K1p0 K1p1 K1p2 HB1
  clear tZ
  go_upto_region 6 with fail
  refine region_drawn [36, 37, 38, 39, 35, 40, 41, 9, 10] (fun fZ tZ uZ => MR w.heap.size w (u2.heap.size) [(w.heap.size, LN (a)), (w.heap.size + 1, LN (b)), (w.heap.size + 1 + 1, LN (m))] [] [(fZ 7, fZ 8, tZ 9, L0s, LN (a % m))] uZ ∧ Gs fZ tZ [(0, 36, NV (a)), (1, 37, WV (a)), (2, 38, NV (m)), (3, 39, .tuple #[NV (a % m), .int .i64 0]), (4, 35, .tuple #[NV (a % m), .int .i64 0]), (5, 40, NV (a % m)), (6, 41, .int .i64 0), (9, 10, .int .i64 0)] ∧ Os fZ [(8, 7)] ∧ Ns fZ tZ []) (by kernel_rfl) (by kernel_rfl) ?_ ?_ ?_
  · exact ⟨{ bel := HB2.drew, lo := HB2.size, sz := Nat.le_refl _, ks := ⟨⟨l2p0, K2p0⟩, ⟨l2p1, K2p1⟩, ⟨l2p2, K2p2⟩, trivial⟩, ex := trivial, nw := ⟨fun e => (by cases e), trivial⟩, nd := ⟨fun e => (by cases e), trivial⟩ }, Gs.none _ _, Os.none _, trivial⟩
  · rintro fZ tZ uZ iZ oZ aZ hF ⟨hM, hG, hO, hN⟩ ho hfi hdep
    have hS : [36, 37, 38, 39, 35, 40, 41, 9, 10].Nodup := by decide
    have hV := hF.evs (N := 97) (by decide) rfl (by decide)
    have il : iZ < 10 := (Array.getElem?_eq_some_iff.1 ho).1
    have ix : iZ = 0 ∨ iZ = 1 ∨ iZ = 2 ∨ iZ = 3 ∨ iZ = 4 ∨ iZ = 5 ∨ iZ = 6 ∨ iZ = 7 ∨ iZ = 8 ∨ iZ = 9 := by omega
    rcases ix with rfl | rfl | rfl | rfl | rfl | rfl | rfl | rfl | rfl | rfl
    · cases ho
      exact t_load (show aZ.eval (.tmp 3) = .pointer (some ⟨w.heap.size, 0, none⟩) from (hF.out 3 (by decide)).trans rfl) hM.ks.1.2 Try.underlying25 info_api_Nat hF hS rfl rfl rfl rfl rfl (by decide) ⟨hM, Gs.stepA hG rfl rfl, hO.keep rfl, Ns.step hN rfl⟩
    · cases ho
      have e36 := hG.1 (hdep ⟨0, .data⟩ (by simp) rfl)
      exact t_call (vs := [NV (a)]) (by show [aZ.eval (.tmp 36)] = _; rw [((hV 36 (by decide)).trans e36)]) ent_seneschalref01_Widen (nrWiden a uZ ha) hF hS rfl rfl rfl rfl (by decide) (fun _ hB => ⟨hM.call hB, Gs.stepA hG rfl rfl, hO.keep rfl, Ns.step hN rfl⟩)
    · cases ho
      exact t_load (show aZ.eval (.tmp 5) = .pointer (some ⟨w.heap.size + 1 + 1, 0, none⟩) from (hF.out 5 (by decide)).trans rfl) hM.ks.2.2.1.2 Try.underlying25 info_api_Nat hF hS rfl rfl rfl rfl rfl (by decide) ⟨hM, Gs.stepA hG rfl rfl, hO.keep rfl, Ns.step hN rfl⟩
    · cases ho
      have e37 := hG.2.1 (hdep ⟨1, .data⟩ (by simp) rfl)
      have e38 := hG.2.2.1 (hdep ⟨2, .data⟩ (by simp) rfl)
      exact t_call (vs := [WV (a), NV (m)]) (by show [aZ.eval (.tmp 37), aZ.eval (.tmp 38)] = _; rw [((hV 37 (by decide)).trans e37), ((hV 38 (by decide)).trans e38)]) ent_mod_Reduce (mReduce a m uZ ha.wide hm h) hF hS rfl rfl rfl rfl (by decide) (fun _ hB => ⟨hM.call hB, Gs.stepA hG rfl rfl, hO.keep rfl, Ns.step hN rfl⟩)
    · cases ho
      have e39 := hG.2.2.2.1 (hdep ⟨3, .data⟩ (by simp) rfl)
      exact t_move ((hV 39 (by decide)).trans e39) hF hS rfl rfl rfl rfl (by decide) ⟨hM, Gs.stepA hG rfl rfl, hO.keep rfl, Ns.step hN rfl⟩
    · cases ho
      have e35 := hG.2.2.2.2.1 (hdep ⟨4, .data⟩ (by simp) rfl)
      exact t_extract ((hV 35 (by decide)).trans e35) hF hS rfl rfl rfl rfl rfl (by decide) ⟨hM, Gs.stepA hG rfl rfl, hO.keep rfl, Ns.step hN rfl⟩
    · cases ho
      have e35 := hG.2.2.2.2.1 (hdep ⟨4, .data⟩ (by simp) rfl)
      exact t_extract ((hV 35 (by decide)).trans e35) hF hS rfl rfl rfl rfl rfl (by decide) ⟨hM, Gs.stepA hG rfl rfl, hO.keep rfl, Ns.step hN rfl⟩
    · cases ho
      refine op_plain rfl rfl (fun K hK => ?_)
      refine wp_alloc rfl (al_api_Nat uZ) ?_
      have q1 : fZ 8 = false := Os.not (hO.1) hfi
      exact tell hK hF hS (by decide) ⟨MR.newF 0 hM rfl hfi q1, Gs.other rfl hG, hO.keep rfl, Ns.step hN rfl⟩
    · cases ho
      refine op_plain rfl rfl (fun K hK => ?_)
      have y7 : fZ 7 = true := hdep ⟨7, .data⟩ (by simp) rfl
      obtain ⟨bb, eb, b1, b2, b3⟩ := hM.nw.1 y7
      have eb : tZ 9 = .pointer (some ⟨bb, 0, none⟩) := eb
      have e40 := hG.2.2.2.2.2.1 (hdep ⟨5, .data⟩ (by simp) rfl)
      refine wp_store_mid 25 _ _ rfl bb 0 (LN (a % m) : List Value).toArray ((hV 9 (by decide)).trans eb) ((hV 40 (by decide)).trans e40) (by have h2 := b3; simp only [hfi] at h2; exact h2.there) info_api_Nat (all_one rfl) ?_
      exact tell0 hK hF ⟨MR.putF 0 hM rfl y7 eb b1 rfl, Gs.idle rfl hG, ⟨fun _ => hdep ⟨7, .data⟩ (by simp) rfl, trivial⟩, Ns.idle hN⟩
    · cases ho
      have e41 := hG.2.2.2.2.2.2.1 (hdep ⟨6, .data⟩ (by simp) rfl)
      exact t_assign ((hV 41 (by decide)).trans e41) hF hS rfl rfl rfl rfl (by decide) ⟨hM, Gs.stepA hG rfl rfl, hO.keep rfl, Ns.step hN rfl⟩
  rintro fZ tZ u3 ⟨hM, hG, hO, hN⟩ hall
  have e36 : tZ 36 = _ := hG.1 (hall 0 (by decide))
  have e37 : tZ 37 = _ := hG.2.1 (hall 1 (by decide))
  have e38 : tZ 38 = _ := hG.2.2.1 (hall 2 (by decide))
  have e39 : tZ 39 = _ := hG.2.2.2.1 (hall 3 (by decide))
  have e35 : tZ 35 = _ := hG.2.2.2.2.1 (hall 4 (by decide))
  have e40 : tZ 40 = _ := hG.2.2.2.2.2.1 (hall 5 (by decide))
  have e41 : tZ 41 = _ := hG.2.2.2.2.2.2.1 (hall 6 (by decide))
  have e10 : tZ 10 = _ := hG.2.2.2.2.2.2.2.1 (hall 9 (by decide))
  obtain ⟨b3_7, ee9, pb3_7, lb3_7, kb3_7⟩ := hM.nw.1 (hall 7 (by decide))
  have e9 : tZ 9 = .pointer (some ⟨b3_7, 0, none⟩) := ee9
  clear ee9
  have Kb3_7 : CV u3 b3_7 (LN (a % m)) := by
    have h1 : CV u3 b3_7 (bif fZ 8 then LN (a % m) else L0s) := kb3_7
    rw [hall 8 (by decide)] at h1; exact h1
  clear kb3_7
  have HB3 : Below w.heap.size w u3 := hM.bel
  have sz3 : u2.heap.size ≤ u3.heap.size := hM.sz
  have K3p0 : CV u3 (w.heap.size) (LN (a)) := hM.ks.1.2
  have l3p0 : w.heap.size < u3.heap.size := Nat.lt_of_lt_of_le hM.ks.1.1 hM.sz
  have K3p1 : CV u3 (w.heap.size + 1) (LN (b)) := hM.ks.2.1.2
  have l3p1 : w.heap.size + 1 < u3.heap.size := Nat.lt_of_lt_of_le hM.ks.2.1.1 hM.sz
  have K3p2 : CV u3 (w.heap.size + 1 + 1) (LN (m)) := hM.ks.2.2.1.2
  have l3p2 : w.heap.size + 1 + 1 < u3.heap.size := Nat.lt_of_lt_of_le hM.ks.2.2.1.1 hM.sz
  simp only [ovr, List.set_cons_zero, List.set_cons_succ, e36, e37, e38, e39, e35, e40, e41, e10, e9]
  clear hM hG hO hN hall e36 e37 e38 e39 e35 e40 e41 e10 e9 K2p0 K2p1 K2p2 HB2
  clear tZ
  go_upto_region 7 with fail
  refine region_plain [43, 44, 45, 46, 42, 47, 48, 11, 12] (fun fZ tZ uZ => MR w.heap.size w (u3.heap.size) [(w.heap.size, LN (a)), (w.heap.size + 1, LN (b)), (w.heap.size + 1 + 1, LN (m)), (b3_7, LN (a % m))] [] [(fZ 7, fZ 8, tZ 11, L0s, LN ((a + b) % m))] uZ ∧ Gs fZ tZ [(0, 43, NV (a)), (1, 44, NV (b)), (2, 45, NV (m)), (3, 46, .tuple #[NV ((a + b) % m), .int .i64 0]), (4, 42, .tuple #[NV ((a + b) % m), .int .i64 0]), (5, 47, NV ((a + b) % m)), (6, 48, .int .i64 0), (9, 12, .int .i64 0)] ∧ Os fZ [(8, 7)] ∧ Ns fZ tZ []) (by kernel_rfl) ?_ ?_ ?_
  · exact ⟨{ bel := HB3, lo := HB3.size, sz := Nat.le_refl _, ks := ⟨⟨l3p0, K3p0⟩, ⟨l3p1, K3p1⟩, ⟨l3p2, K3p2⟩, ⟨lb3_7, Kb3_7⟩, trivial⟩, ex := trivial, nw := ⟨fun e => (by cases e), trivial⟩, nd := ⟨fun e => (by cases e), trivial⟩ }, Gs.none _ _, Os.none _, trivial⟩
  · rintro fZ tZ uZ iZ oZ aZ hF ⟨hM, hG, hO, hN⟩ ho hfi hdep
    have hS : [43, 44, 45, 46, 42, 47, 48, 11, 12].Nodup := by decide
    have hV := hF.evs (N := 97) (by decide) rfl (by decide)
    have il : iZ < 10 := (Array.getElem?_eq_some_iff.1 ho).1
    have ix : iZ = 0 ∨ iZ = 1 ∨ iZ = 2 ∨ iZ = 3 ∨ iZ = 4 ∨ iZ = 5 ∨ iZ = 6 ∨ iZ = 7 ∨ iZ = 8 ∨ iZ = 9 := by omega
    rcases ix with rfl | rfl | rfl | rfl | rfl | rfl | rfl | rfl | rfl | rfl
    · cases ho
      exact t_load (show aZ.eval (.tmp 3) = .pointer (some ⟨w.heap.size, 0, none⟩) from (hF.out 3 (by decide)).trans rfl) hM.ks.1.2 Try.underlying25 info_api_Nat hF hS rfl rfl rfl rfl rfl (by decide) ⟨hM, Gs.stepA hG rfl rfl, hO.keep rfl, Ns.step hN rfl⟩
    · cases ho
      exact t_load (show aZ.eval (.tmp 4) = .pointer (some ⟨w.heap.size + 1, 0, none⟩) from (hF.out 4 (by decide)).trans rfl) hM.ks.2.1.2 Try.underlying25 info_api_Nat hF hS rfl rfl rfl rfl rfl (by decide) ⟨hM, Gs.stepA hG rfl rfl, hO.keep rfl, Ns.step hN rfl⟩
    · cases ho
      exact t_load (show aZ.eval (.tmp 5) = .pointer (some ⟨w.heap.size + 1 + 1, 0, none⟩) from (hF.out 5 (by decide)).trans rfl) hM.ks.2.2.1.2 Try.underlying25 info_api_Nat hF hS rfl rfl rfl rfl rfl (by decide) ⟨hM, Gs.stepA hG rfl rfl, hO.keep rfl, Ns.step hN rfl⟩
    · cases ho
      have e43 := hG.1 (hdep ⟨0, .data⟩ (by simp) rfl)
      have e44 := hG.2.1 (hdep ⟨1, .data⟩ (by simp) rfl)
      have e45 := hG.2.2.1 (hdep ⟨2, .data⟩ (by simp) rfl)
      exact t_call (vs := [NV (a), NV (b), NV (m)]) (by show [aZ.eval (.tmp 43), aZ.eval (.tmp 44), aZ.eval (.tmp 45)] = _; rw [((hV 43 (by decide)).trans e43), ((hV 44 (by decide)).trans e44), ((hV 45 (by decide)).trans e45)]) ent_mod_Add (mAdd a b m uZ ha hb hm h) hF hS rfl rfl rfl rfl (by decide) (fun _ hB => ⟨hM.call hB, Gs.stepA hG rfl rfl, hO.keep rfl, Ns.step hN rfl⟩)
    · cases ho
      have e46 := hG.2.2.2.1 (hdep ⟨3, .data⟩ (by simp) rfl)
      exact t_move ((hV 46 (by decide)).trans e46) hF hS rfl rfl rfl rfl (by decide) ⟨hM, Gs.stepA hG rfl rfl, hO.keep rfl, Ns.step hN rfl⟩
    · cases ho
      have e42 := hG.2.2.2.2.1 (hdep ⟨4, .data⟩ (by simp) rfl)
      exact t_extract ((hV 42 (by decide)).trans e42) hF hS rfl rfl rfl rfl rfl (by decide) ⟨hM, Gs.stepA hG rfl rfl, hO.keep rfl, Ns.step hN rfl⟩
    · cases ho
      have e42 := hG.2.2.2.2.1 (hdep ⟨4, .data⟩ (by simp) rfl)
      exact t_extract ((hV 42 (by decide)).trans e42) hF hS rfl rfl rfl rfl rfl (by decide) ⟨hM, Gs.stepA hG rfl rfl, hO.keep rfl, Ns.step hN rfl⟩
    · cases ho
      refine op_plain rfl rfl (fun K hK => ?_)
      refine wp_alloc rfl (al_api_Nat uZ) ?_
      have q1 : fZ 8 = false := Os.not (hO.1) hfi
      exact tell hK hF hS (by decide) ⟨MR.newF 0 hM rfl hfi q1, Gs.other rfl hG, hO.keep rfl, Ns.step hN rfl⟩
    · cases ho
      refine op_plain rfl rfl (fun K hK => ?_)
      have y7 : fZ 7 = true := hdep ⟨7, .data⟩ (by simp) rfl
      obtain ⟨bb, eb, b1, b2, b3⟩ := hM.nw.1 y7
      have eb : tZ 11 = .pointer (some ⟨bb, 0, none⟩) := eb
      have e47 := hG.2.2.2.2.2.1 (hdep ⟨5, .data⟩ (by simp) rfl)
      refine wp_store_mid 25 _ _ rfl bb 0 (LN ((a + b) % m) : List Value).toArray ((hV 11 (by decide)).trans eb) ((hV 47 (by decide)).trans e47) (by have h2 := b3; simp only [hfi] at h2; exact h2.there) info_api_Nat (all_one rfl) ?_
      exact tell0 hK hF ⟨MR.putF 0 hM rfl y7 eb b1 rfl, Gs.idle rfl hG, ⟨fun _ => hdep ⟨7, .data⟩ (by simp) rfl, trivial⟩, Ns.idle hN⟩
    · cases ho
      have e48 := hG.2.2.2.2.2.2.1 (hdep ⟨6, .data⟩ (by simp) rfl)
      exact t_assign ((hV 48 (by decide)).trans e48) hF hS rfl rfl rfl rfl (by decide) ⟨hM, Gs.stepA hG rfl rfl, hO.keep rfl, Ns.step hN rfl⟩
  rintro fZ tZ u4 ⟨hM, hG, hO, hN⟩ hall
  have e43 : tZ 43 = _ := hG.1 (hall 0 (by decide))
  have e44 : tZ 44 = _ := hG.2.1 (hall 1 (by decide))
  have e45 : tZ 45 = _ := hG.2.2.1 (hall 2 (by decide))
  have e46 : tZ 46 = _ := hG.2.2.2.1 (hall 3 (by decide))
  have e42 : tZ 42 = _ := hG.2.2.2.2.1 (hall 4 (by decide))
  have e47 : tZ 47 = _ := hG.2.2.2.2.2.1 (hall 5 (by decide))
  have e48 : tZ 48 = _ := hG.2.2.2.2.2.2.1 (hall 6 (by decide))
  have e12 : tZ 12 = _ := hG.2.2.2.2.2.2.2.1 (hall 9 (by decide))
  obtain ⟨b4_7, ee11, pb4_7, lb4_7, kb4_7⟩ := hM.nw.1 (hall 7 (by decide))
  have e11 : tZ 11 = .pointer (some ⟨b4_7, 0, none⟩) := ee11
  clear ee11
  have Kb4_7 : CV u4 b4_7 (LN ((a + b) % m)) := by
    have h1 : CV u4 b4_7 (bif fZ 8 then LN ((a + b) % m) else L0s) := kb4_7
    rw [hall 8 (by decide)] at h1; exact h1
  clear kb4_7
  have HB4 : Below w.heap.size w u4 := hM.bel
  have sz4 : u3.heap.size ≤ u4.heap.size := hM.sz
  have K4p0 : CV u4 (w.heap.size) (LN (a)) := hM.ks.1.2
  have l4p0 : w.heap.size < u4.heap.size := Nat.lt_of_lt_of_le hM.ks.1.1 hM.sz
  have K4p1 : CV u4 (w.heap.size + 1) (LN (b)) := hM.ks.2.1.2
  have l4p1 : w.heap.size + 1 < u4.heap.size := Nat.lt_of_lt_of_le hM.ks.2.1.1 hM.sz
  have K4p2 : CV u4 (w.heap.size + 1 + 1) (LN (m)) := hM.ks.2.2.1.2
  have l4p2 : w.heap.size + 1 + 1 < u4.heap.size := Nat.lt_of_lt_of_le hM.ks.2.2.1.1 hM.sz
  have K4n6_7 : CV u4 (b3_7) (LN (a % m)) := hM.ks.2.2.2.1.2
  have l4n6_7 : b3_7 < u4.heap.size := Nat.lt_of_lt_of_le hM.ks.2.2.2.1.1 hM.sz
  simp only [ovr, List.set_cons_zero, List.set_cons_succ, e43, e44, e45, e46, e42, e47, e48, e12, e11]
  clear hM hG hO hN hall e43 e44 e45 e46 e42 e47 e48 e12 e11 K3p0 K3p1 K3p2 Kb3_7 HB3
  clear tZ
  go_upto_region 8 with fail
  refine region_plain [50, 51, 52, 53, 49, 54, 55, 13, 14] (fun fZ tZ uZ => MR w.heap.size w (u4.heap.size) [(w.heap.size, LN (a)), (w.heap.size + 1, LN (b)), (w.heap.size + 1 + 1, LN (m)), (b3_7, LN (a % m)), (b4_7, LN ((a + b) % m))] [] [(fZ 7, fZ 8, tZ 13, L0s, LN (((a + b) % m - b) % m))] uZ ∧ Gs fZ tZ [(0, 50, NV ((a + b) % m)), (1, 51, NV (b)), (2, 52, NV (m)), (3, 53, .tuple #[NV (((a + b) % m - b) % m), .int .i64 0]), (4, 49, .tuple #[NV (((a + b) % m - b) % m), .int .i64 0]), (5, 54, NV (((a + b) % m - b) % m)), (6, 55, .int .i64 0), (9, 14, .int .i64 0)] ∧ Os fZ [(8, 7)] ∧ Ns fZ tZ []) (by kernel_rfl) ?_ ?_ ?_
  · exact ⟨{ bel := HB4, lo := HB4.size, sz := Nat.le_refl _, ks := ⟨⟨l4p0, K4p0⟩, ⟨l4p1, K4p1⟩, ⟨l4p2, K4p2⟩, ⟨l4n6_7, K4n6_7⟩, ⟨lb4_7, Kb4_7⟩, trivial⟩, ex := trivial, nw := ⟨fun e => (by cases e), trivial⟩, nd := ⟨fun e => (by cases e), trivial⟩ }, Gs.none _ _, Os.none _, trivial⟩
  · rintro fZ tZ uZ iZ oZ aZ hF ⟨hM, hG, hO, hN⟩ ho hfi hdep
    have hS : [50, 51, 52, 53, 49, 54, 55, 13, 14].Nodup := by decide
    have hV := hF.evs (N := 97) (by decide) rfl (by decide)
    have il : iZ < 10 := (Array.getElem?_eq_some_iff.1 ho).1
    have ix : iZ = 0 ∨ iZ = 1 ∨ iZ = 2 ∨ iZ = 3 ∨ iZ = 4 ∨ iZ = 5 ∨ iZ = 6 ∨ iZ = 7 ∨ iZ = 8 ∨ iZ = 9 := by omega
    rcases ix with rfl | rfl | rfl | rfl | rfl | rfl | rfl | rfl | rfl | rfl
    · cases ho
      exact t_load (show aZ.eval (.tmp 11) = .pointer (some ⟨b4_7, 0, none⟩) from (hF.out 11 (by decide)).trans rfl) hM.ks.2.2.2.2.1.2 Try.underlying25 info_api_Nat hF hS rfl rfl rfl rfl rfl (by decide) ⟨hM, Gs.stepA hG rfl rfl, hO.keep rfl, Ns.step hN rfl⟩
    · cases ho
      exact t_load (show aZ.eval (.tmp 4) = .pointer (some ⟨w.heap.size + 1, 0, none⟩) from (hF.out 4 (by decide)).trans rfl) hM.ks.2.1.2 Try.underlying25 info_api_Nat hF hS rfl rfl rfl rfl rfl (by decide) ⟨hM, Gs.stepA hG rfl rfl, hO.keep rfl, Ns.step hN rfl⟩
    · cases ho
      exact t_load (show aZ.eval (.tmp 5) = .pointer (some ⟨w.heap.size + 1 + 1, 0, none⟩) from (hF.out 5 (by decide)).trans rfl) hM.ks.2.2.1.2 Try.underlying25 info_api_Nat hF hS rfl rfl rfl rfl rfl (by decide) ⟨hM, Gs.stepA hG rfl rfl, hO.keep rfl, Ns.step hN rfl⟩
    · cases ho
      have e50 := hG.1 (hdep ⟨0, .data⟩ (by simp) rfl)
      have e51 := hG.2.1 (hdep ⟨1, .data⟩ (by simp) rfl)
      have e52 := hG.2.2.1 (hdep ⟨2, .data⟩ (by simp) rfl)
      exact t_call (vs := [NV ((a + b) % m), NV (b), NV (m)]) (by show [aZ.eval (.tmp 50), aZ.eval (.tmp 51), aZ.eval (.tmp 52)] = _; rw [((hV 50 (by decide)).trans e50), ((hV 51 (by decide)).trans e51), ((hV 52 (by decide)).trans e52)]) ent_mod_Sub (mSub ((a + b) % m) b m uZ (In_mod hm h) hb hm h) hF hS rfl rfl rfl rfl (by decide) (fun _ hB => ⟨hM.call hB, Gs.stepA hG rfl rfl, hO.keep rfl, Ns.step hN rfl⟩)
    · cases ho
      have e53 := hG.2.2.2.1 (hdep ⟨3, .data⟩ (by simp) rfl)
      exact t_move ((hV 53 (by decide)).trans e53) hF hS rfl rfl rfl rfl (by decide) ⟨hM, Gs.stepA hG rfl rfl, hO.keep rfl, Ns.step hN rfl⟩
    · cases ho
      have e49 := hG.2.2.2.2.1 (hdep ⟨4, .data⟩ (by simp) rfl)
      exact t_extract ((hV 49 (by decide)).trans e49) hF hS rfl rfl rfl rfl rfl (by decide) ⟨hM, Gs.stepA hG rfl rfl, hO.keep rfl, Ns.step hN rfl⟩
    · cases ho
      have e49 := hG.2.2.2.2.1 (hdep ⟨4, .data⟩ (by simp) rfl)
      exact t_extract ((hV 49 (by decide)).trans e49) hF hS rfl rfl rfl rfl rfl (by decide) ⟨hM, Gs.stepA hG rfl rfl, hO.keep rfl, Ns.step hN rfl⟩
    · cases ho
      refine op_plain rfl rfl (fun K hK => ?_)
      refine wp_alloc rfl (al_api_Nat uZ) ?_
      have q1 : fZ 8 = false := Os.not (hO.1) hfi
      exact tell hK hF hS (by decide) ⟨MR.newF 0 hM rfl hfi q1, Gs.other rfl hG, hO.keep rfl, Ns.step hN rfl⟩
    · cases ho
      refine op_plain rfl rfl (fun K hK => ?_)
      have y7 : fZ 7 = true := hdep ⟨7, .data⟩ (by simp) rfl
      obtain ⟨bb, eb, b1, b2, b3⟩ := hM.nw.1 y7
      have eb : tZ 13 = .pointer (some ⟨bb, 0, none⟩) := eb
      have e54 := hG.2.2.2.2.2.1 (hdep ⟨5, .data⟩ (by simp) rfl)
      refine wp_store_mid 25 _ _ rfl bb 0 (LN (((a + b) % m - b) % m) : List Value).toArray ((hV 13 (by decide)).trans eb) ((hV 54 (by decide)).trans e54) (by have h2 := b3; simp only [hfi] at h2; exact h2.there) info_api_Nat (all_one rfl) ?_
      exact tell0 hK hF ⟨MR.putF 0 hM rfl y7 eb b1 rfl, Gs.idle rfl hG, ⟨fun _ => hdep ⟨7, .data⟩ (by simp) rfl, trivial⟩, Ns.idle hN⟩
    · cases ho
      have e55 := hG.2.2.2.2.2.2.1 (hdep ⟨6, .data⟩ (by simp) rfl)
      exact t_assign ((hV 55 (by decide)).trans e55) hF hS rfl rfl rfl rfl (by decide) ⟨hM, Gs.stepA hG rfl rfl, hO.keep rfl, Ns.step hN rfl⟩
  rintro fZ tZ u5 ⟨hM, hG, hO, hN⟩ hall
  have e50 : tZ 50 = _ := hG.1 (hall 0 (by decide))
  have e51 : tZ 51 = _ := hG.2.1 (hall 1 (by decide))
  have e52 : tZ 52 = _ := hG.2.2.1 (hall 2 (by decide))
  have e53 : tZ 53 = _ := hG.2.2.2.1 (hall 3 (by decide))
  have e49 : tZ 49 = _ := hG.2.2.2.2.1 (hall 4 (by decide))
  have e54 : tZ 54 = _ := hG.2.2.2.2.2.1 (hall 5 (by decide))
  have e55 : tZ 55 = _ := hG.2.2.2.2.2.2.1 (hall 6 (by decide))
  have e14 : tZ 14 = _ := hG.2.2.2.2.2.2.2.1 (hall 9 (by decide))
  obtain ⟨b5_7, ee13, pb5_7, lb5_7, kb5_7⟩ := hM.nw.1 (hall 7 (by decide))
  have e13 : tZ 13 = .pointer (some ⟨b5_7, 0, none⟩) := ee13
  clear ee13
  have Kb5_7 : CV u5 b5_7 (LN (((a + b) % m - b) % m)) := by
    have h1 : CV u5 b5_7 (bif fZ 8 then LN (((a + b) % m - b) % m) else L0s) := kb5_7
    rw [hall 8 (by decide)] at h1; exact h1
  clear kb5_7
  have HB5 : Below w.heap.size w u5 := hM.bel
  have sz5 : u4.heap.size ≤ u5.heap.size := hM.sz
  have K5p0 : CV u5 (w.heap.size) (LN (a)) := hM.ks.1.2
  have l5p0 : w.heap.size < u5.heap.size := Nat.lt_of_lt_of_le hM.ks.1.1 hM.sz
  have K5p1 : CV u5 (w.heap.size + 1) (LN (b)) := hM.ks.2.1.2
  have l5p1 : w.heap.size + 1 < u5.heap.size := Nat.lt_of_lt_of_le hM.ks.2.1.1 hM.sz
  have K5p2 : CV u5 (w.heap.size + 1 + 1) (LN (m)) := hM.ks.2.2.1.2
  have l5p2 : w.heap.size + 1 + 1 < u5.heap.size := Nat.lt_of_lt_of_le hM.ks.2.2.1.1 hM.sz
  have K5n6_7 : CV u5 (b3_7) (LN (a % m)) := hM.ks.2.2.2.1.2
  have l5n6_7 : b3_7 < u5.heap.size := Nat.lt_of_lt_of_le hM.ks.2.2.2.1.1 hM.sz
  simp only [ovr, List.set_cons_zero, List.set_cons_succ, e50, e51, e52, e53, e49, e54, e55, e14, e13]
  clear hM hG hO hN hall e50 e51 e52 e53 e49 e54 e55 e14 e13 K4n6_7 K4p0 K4p1 K4p2 Kb4_7 HB4
  clear tZ
  go_upto_region 9 with fail
  refine region_plain [56, 57, 58, 59, 60, 61, 62, 63, 64, 65, 66] (fun fZ tZ uZ => MR w.heap.size w (u5.heap.size) [(w.heap.size, LN (a)), (w.heap.size + 1, LN (b)), (w.heap.size + 1 + 1, LN (m)), (b3_7, LN (a % m)), (b5_7, LN (((a + b) % m - b) % m))] [] [] uZ ∧ Gs fZ tZ [(0, 56, .int .i64 0), (1, 57, .bool false), (2, 58, .bool false), (3, 59, .int .i64 0), (4, 60, .bool false), (5, 61, .bool false), (6, 62, .bool false), (7, 63, NV (((a + b) % m - b) % m)), (8, 64, NV (a % m)), (9, 65, .bool false), (10, 66, .bool false)] ∧ Os fZ [] ∧ Ns fZ tZ []) (by kernel_rfl) ?_ ?_ ?_
  · exact ⟨{ bel := HB5, lo := HB5.size, sz := Nat.le_refl _, ks := ⟨⟨l5p0, K5p0⟩, ⟨l5p1, K5p1⟩, ⟨l5p2, K5p2⟩, ⟨l5n6_7, K5n6_7⟩, ⟨lb5_7, Kb5_7⟩, trivial⟩, ex := trivial, nw := trivial, nd := trivial }, Gs.none _ _, Os.none _, trivial⟩
  · rintro fZ tZ uZ iZ oZ aZ hF ⟨hM, hG, hO, hN⟩ ho hfi hdep
    have hS : [56, 57, 58, 59, 60, 61, 62, 63, 64, 65, 66].Nodup := by decide
    have hV := hF.evs (N := 97) (by decide) rfl (by decide)
    have il : iZ < 11 := (Array.getElem?_eq_some_iff.1 ho).1
    have ix : iZ = 0 ∨ iZ = 1 ∨ iZ = 2 ∨ iZ = 3 ∨ iZ = 4 ∨ iZ = 5 ∨ iZ = 6 ∨ iZ = 7 ∨ iZ = 8 ∨ iZ = 9 ∨ iZ = 10 := by omega
    rcases ix with rfl | rfl | rfl | rfl | rfl | rfl | rfl | rfl | rfl | rfl | rfl
    · cases ho
      exact t_move (show aZ.eval (.tmp 12) = .int .i64 0 from (hF.out 12 (by decide)).trans rfl) hF hS rfl rfl rfl rfl (by decide) ⟨hM, Gs.stepA hG rfl rfl, trivial, Ns.step hN rfl⟩
    · cases ho
      refine op_plain rfl rfl (fun K hK => ?_)
      have e56 := hG.1 (hdep ⟨0, .data⟩ (by simp) rfl)
      refine wp_bin rfl ((hV 56 (by decide)).trans e56) rfl (neq_i _ _ _ 0 0 _ uZ rfl) ?_
      exact tell hK hF hS (by decide) ⟨hM, Gs.stepA hG rfl rfl, trivial, Ns.step hN rfl⟩
    · cases ho
      have e57 := hG.2.1 (hdep ⟨1, .data⟩ (by simp) rfl)
      exact t_move ((hV 57 (by decide)).trans e57) hF hS rfl rfl rfl rfl (by decide) ⟨hM, Gs.stepA hG rfl rfl, trivial, Ns.step hN rfl⟩
    · cases ho
      refine wpOp_step rfl (fun K hK => ?_)
      have yg : fZ 2 = true := hdep ⟨2, .guard⟩ (by simp) rfl
      have eg : tZ 58 = .bool false := hG.2.2.1 yg
      rw [if_pos (wanted_of rfl rfl (show aZ.tmps[58]? = some (.bool false) by rw [hF.tmps (N := 97) (by decide) rfl 58 (by decide) (by decide), eg]))]
      refine wp_move rfl (show aZ.eval (.tmp 14) = .int .i64 0 from (hF.out 14 (by decide)).trans rfl) ?_
      exact tell hK hF hS (by decide) ⟨hM, Gs.stepA hG rfl rfl, trivial, Ns.step hN rfl⟩
    · cases ho
      refine wpOp_step rfl (fun K hK => ?_)
      have yg : fZ 2 = true := hdep ⟨2, .guard⟩ (by simp) rfl
      have eg : tZ 58 = .bool false := hG.2.2.1 yg
      rw [if_pos (wanted_of rfl rfl (show aZ.tmps[58]? = some (.bool false) by rw [hF.tmps (N := 97) (by decide) rfl 58 (by decide) (by decide), eg]))]
      have e59 := hG.2.2.2.1 (hdep ⟨3, .data⟩ (by simp) rfl)
      refine wp_bin rfl ((hV 59 (by decide)).trans e59) rfl (neq_i _ _ _ 0 0 _ uZ rfl) ?_
      exact tell hK hF hS (by decide) ⟨hM, Gs.stepA hG rfl rfl, trivial, Ns.step hN rfl⟩
    · cases ho
      refine op_plain rfl rfl (fun K hK => ?_)
      have e58 := hG.2.2.1 (hdep ⟨2, .data⟩ (by simp) rfl)
      have e60 := hG.2.2.2.2.1 (hdep ⟨4, .data⟩ (by simp) rfl)
      refine wp_pick rfl ((hV 58 (by decide)).trans e58) (b := false) ((if_neg (by decide)).trans ((hV 60 (by decide)).trans e60)) ?_
      exact tell hK hF hS (by decide) ⟨hM, Gs.stepA hG rfl rfl, trivial, Ns.step hN rfl⟩
    · cases ho
      have e61 := hG.2.2.2.2.2.1 (hdep ⟨5, .data⟩ (by simp) rfl)
      exact t_move ((hV 61 (by decide)).trans e61) hF hS rfl rfl rfl rfl (by decide) ⟨hM, Gs.stepA hG rfl rfl, trivial, Ns.step hN rfl⟩
    · cases ho
      refine wpOp_step rfl (fun K hK => ?_)
      have yg : fZ 6 = true := hdep ⟨6, .guard⟩ (by simp) rfl
      have eg : tZ 62 = .bool false := hG.2.2.2.2.2.2.1 yg
      rw [if_pos (wanted_of rfl rfl (show aZ.tmps[62]? = some (.bool false) by rw [hF.tmps (N := 97) (by decide) rfl 62 (by decide) (by decide), eg]))]
      refine wp_load_mid 25 _ rfl _ 0 (show aZ.eval (.tmp 13) = .pointer (some ⟨b5_7, 0, none⟩) from (hF.out 13 (by decide)).trans rfl) _ _ (CV.range hM.ks.2.2.2.2.1.2) Try.underlying25 rfl info_api_Nat ?_
      exact tell hK hF hS (by decide) ⟨hM, Gs.stepA hG rfl rfl, trivial, Ns.step hN rfl⟩
    · cases ho
      refine wpOp_step rfl (fun K hK => ?_)
      have yg : fZ 6 = true := hdep ⟨6, .guard⟩ (by simp) rfl
      have eg : tZ 62 = .bool false := hG.2.2.2.2.2.2.1 yg
      rw [if_pos (wanted_of rfl rfl (show aZ.tmps[62]? = some (.bool false) by rw [hF.tmps (N := 97) (by decide) rfl 62 (by decide) (by decide), eg]))]
      refine wp_load_mid 25 _ rfl _ 0 (show aZ.eval (.tmp 9) = .pointer (some ⟨b3_7, 0, none⟩) from (hF.out 9 (by decide)).trans rfl) _ _ (CV.range hM.ks.2.2.2.1.2) Try.underlying25 rfl info_api_Nat ?_
      exact tell hK hF hS (by decide) ⟨hM, Gs.stepA hG rfl rfl, trivial, Ns.step hN rfl⟩
    · cases ho
      refine wpOp_step rfl (fun K hK => ?_)
      have yg : fZ 6 = true := hdep ⟨6, .guard⟩ (by simp) rfl
      have eg : tZ 62 = .bool false := hG.2.2.2.2.2.2.1 yg
      rw [if_pos (wanted_of rfl rfl (show aZ.tmps[62]? = some (.bool false) by rw [hF.tmps (N := 97) (by decide) rfl 62 (by decide) (by decide), eg]))]
      have e63 := hG.2.2.2.2.2.2.2.1 (hdep ⟨7, .data⟩ (by simp) rfl)
      have e64 := hG.2.2.2.2.2.2.2.2.1 (hdep ⟨8, .data⟩ (by simp) rfl)
      refine wp_bin rfl ((hV 63 (by decide)).trans e63) ((hV 64 (by decide)).trans e64) (neq_n _ _ (In_mod hm h) (In_mod hm h) false (decide_eq_true (back1 a b m)) uZ) ?_
      exact tell hK hF hS (by decide) ⟨hM, Gs.stepA hG rfl rfl, trivial, Ns.step hN rfl⟩
    · cases ho
      refine op_plain rfl rfl (fun K hK => ?_)
      have e62 := hG.2.2.2.2.2.2.1 (hdep ⟨6, .data⟩ (by simp) rfl)
      have e65 := hG.2.2.2.2.2.2.2.2.2.1 (hdep ⟨9, .data⟩ (by simp) rfl)
      refine wp_pick rfl ((hV 62 (by decide)).trans e62) (b := false) ((if_neg (by decide)).trans ((hV 65 (by decide)).trans e65)) ?_
      exact tell hK hF hS (by decide) ⟨hM, Gs.stepA hG rfl rfl, trivial, Ns.step hN rfl⟩
  rintro fZ tZ u6 ⟨hM, hG, hO, hN⟩ hall
  have e56 : tZ 56 = _ := hG.1 (hall 0 (by decide))
  have e57 : tZ 57 = _ := hG.2.1 (hall 1 (by decide))
  have e58 : tZ 58 = _ := hG.2.2.1 (hall 2 (by decide))
  have e59 : tZ 59 = _ := hG.2.2.2.1 (hall 3 (by decide))
  have e60 : tZ 60 = _ := hG.2.2.2.2.1 (hall 4 (by decide))
  have e61 : tZ 61 = _ := hG.2.2.2.2.2.1 (hall 5 (by decide))
  have e62 : tZ 62 = _ := hG.2.2.2.2.2.2.1 (hall 6 (by decide))
  have e63 : tZ 63 = _ := hG.2.2.2.2.2.2.2.1 (hall 7 (by decide))
  have e64 : tZ 64 = _ := hG.2.2.2.2.2.2.2.2.1 (hall 8 (by decide))
  have e65 : tZ 65 = _ := hG.2.2.2.2.2.2.2.2.2.1 (hall 9 (by decide))
  have e66 : tZ 66 = _ := hG.2.2.2.2.2.2.2.2.2.2.1 (hall 10 (by decide))
  have HB6 : Below w.heap.size w u6 := hM.bel
  have sz6 : u5.heap.size ≤ u6.heap.size := hM.sz
  have K6p0 : CV u6 (w.heap.size) (LN (a)) := hM.ks.1.2
  have l6p0 : w.heap.size < u6.heap.size := Nat.lt_of_lt_of_le hM.ks.1.1 hM.sz
  have K6p1 : CV u6 (w.heap.size + 1) (LN (b)) := hM.ks.2.1.2
  have l6p1 : w.heap.size + 1 < u6.heap.size := Nat.lt_of_lt_of_le hM.ks.2.1.1 hM.sz
  have K6p2 : CV u6 (w.heap.size + 1 + 1) (LN (m)) := hM.ks.2.2.1.2
  have l6p2 : w.heap.size + 1 + 1 < u6.heap.size := Nat.lt_of_lt_of_le hM.ks.2.2.1.1 hM.sz
  have K6n6_7 : CV u6 (b3_7) (LN (a % m)) := hM.ks.2.2.2.1.2
  have l6n6_7 : b3_7 < u6.heap.size := Nat.lt_of_lt_of_le hM.ks.2.2.2.1.1 hM.sz
  simp only [ovr, List.set_cons_zero, List.set_cons_succ, e56, e57, e58, e59, e60, e61, e62, e63, e64, e65, e66]
  clear hM hG hO hN hall e56 e57 e58 e59 e60 e61 e62 e63 e64 e65 e66 K5n6_7 K5p0 K5p1 K5p2 Kb5_7 HB5
  clear tZ
  by_cases hg : gI b m = 1
  · have hg' : gI m (b % m) = 1 := by rw [gI_step b m hb.1 hm.1 h]; exact hg
    obtain ⟨x, hx⟩ := IsInv.ex (m := m) (a := b % m) (Int.emod_nonneg _ h) (Int.emod_lt_of_pos _ (by have := hm.1; omega)) hg'
    have hVV : Hid (∀ u, Calls Try.prog 31 #[NV b, NV m] u fun en u' => en = .returned (.tuple #[NV x, .int .i64 0]) ∧ Below u.heap.size u u') := fun u => mInverse b m x u hb hm h hg' hx
    have ix : In x := In_le hm hx.1 (by have := hx.2.1; omega)
    have H2 : Hid (a * b % m * x % m = a % m) := back2 a b m x hx
    clear hg hg' hx
    go_upto_region 11 with fail
    refine region_plain [68, 69, 70, 67, 71, 72, 15, 16] (fun fZ tZ uZ => MR w.heap.size w (u6.heap.size) [(w.heap.size, LN (a)), (w.heap.size + 1, LN (b)), (w.heap.size + 1 + 1, LN (m)), (b3_7, LN (a % m))] [] [(fZ 6, fZ 7, tZ 15, L0s, LN (x))] uZ ∧ Gs fZ tZ [(0, 68, NV (b)), (1, 69, NV (m)), (2, 70, .tuple #[NV (x), .int .i64 0]), (3, 67, .tuple #[NV (x), .int .i64 0]), (4, 71, NV (x)), (5, 72, .int .i64 0), (8, 16, .int .i64 0)] ∧ Os fZ [(7, 6)] ∧ Ns fZ tZ []) (by kernel_rfl) ?_ ?_ ?_
    · exact ⟨{ bel := HB6, lo := HB6.size, sz := Nat.le_refl _, ks := ⟨⟨l6p0, K6p0⟩, ⟨l6p1, K6p1⟩, ⟨l6p2, K6p2⟩, ⟨l6n6_7, K6n6_7⟩, trivial⟩, ex := trivial, nw := ⟨fun e => (by cases e), trivial⟩, nd := ⟨fun e => (by cases e), trivial⟩ }, Gs.none _ _, Os.none _, trivial⟩
    · rintro fZ tZ uZ iZ oZ aZ hF ⟨hM, hG, hO, hN⟩ ho hfi hdep
      have hS : [68, 69, 70, 67, 71, 72, 15, 16].Nodup := by decide
      have hV := hF.evs (N := 97) (by decide) rfl (by decide)
      have il : iZ < 9 := (Array.getElem?_eq_some_iff.1 ho).1
      have ix : iZ = 0 ∨ iZ = 1 ∨ iZ = 2 ∨ iZ = 3 ∨ iZ = 4 ∨ iZ = 5 ∨ iZ = 6 ∨ iZ = 7 ∨ iZ = 8 := by omega
      rcases ix with rfl | rfl | rfl | rfl | rfl | rfl | rfl | rfl | rfl
      · cases ho
        exact t_load (show aZ.eval (.tmp 4) = .pointer (some ⟨w.heap.size + 1, 0, none⟩) from (hF.out 4 (by decide)).trans rfl) hM.ks.2.1.2 Try.underlying25 info_api_Nat hF hS rfl rfl rfl rfl rfl (by decide) ⟨hM, Gs.stepA hG rfl rfl, hO.keep rfl, Ns.step hN rfl⟩
      · cases ho
        exact t_load (show aZ.eval (.tmp 5) = .pointer (some ⟨w.heap.size + 1 + 1, 0, none⟩) from (hF.out 5 (by decide)).trans rfl) hM.ks.2.2.1.2 Try.underlying25 info_api_Nat hF hS rfl rfl rfl rfl rfl (by decide) ⟨hM, Gs.stepA hG rfl rfl, hO.keep rfl, Ns.step hN rfl⟩
      · cases ho
        have e68 := hG.1 (hdep ⟨0, .data⟩ (by simp) rfl)
        have e69 := hG.2.1 (hdep ⟨1, .data⟩ (by simp) rfl)
        exact t_call (vs := [NV (b), NV (m)]) (by show [aZ.eval (.tmp 68), aZ.eval (.tmp 69)] = _; rw [((hV 68 (by decide)).trans e68), ((hV 69 (by decide)).trans e69)]) ent_mod_Inverse (hVV.out uZ) hF hS rfl rfl rfl rfl (by decide) (fun _ hB => ⟨hM.call hB, Gs.stepA hG rfl rfl, hO.keep rfl, Ns.step hN rfl⟩)
      · cases ho
        have e70 := hG.2.2.1 (hdep ⟨2, .data⟩ (by simp) rfl)
        exact t_move ((hV 70 (by decide)).trans e70) hF hS rfl rfl rfl rfl (by decide) ⟨hM, Gs.stepA hG rfl rfl, hO.keep rfl, Ns.step hN rfl⟩
      · cases ho
        have e67 := hG.2.2.2.1 (hdep ⟨3, .data⟩ (by simp) rfl)
        exact t_extract ((hV 67 (by decide)).trans e67) hF hS rfl rfl rfl rfl rfl (by decide) ⟨hM, Gs.stepA hG rfl rfl, hO.keep rfl, Ns.step hN rfl⟩
      · cases ho
        have e67 := hG.2.2.2.1 (hdep ⟨3, .data⟩ (by simp) rfl)
        exact t_extract ((hV 67 (by decide)).trans e67) hF hS rfl rfl rfl rfl rfl (by decide) ⟨hM, Gs.stepA hG rfl rfl, hO.keep rfl, Ns.step hN rfl⟩
      · cases ho
        refine op_plain rfl rfl (fun K hK => ?_)
        refine wp_alloc rfl (al_api_Nat uZ) ?_
        have q1 : fZ 7 = false := Os.not (hO.1) hfi
        exact tell hK hF hS (by decide) ⟨MR.newF 0 hM rfl hfi q1, Gs.other rfl hG, hO.keep rfl, Ns.step hN rfl⟩
      · cases ho
        refine op_plain rfl rfl (fun K hK => ?_)
        have y6 : fZ 6 = true := hdep ⟨6, .data⟩ (by simp) rfl
        obtain ⟨bb, eb, b1, b2, b3⟩ := hM.nw.1 y6
        have eb : tZ 15 = .pointer (some ⟨bb, 0, none⟩) := eb
        have e71 := hG.2.2.2.2.1 (hdep ⟨4, .data⟩ (by simp) rfl)
        refine wp_store_mid 25 _ _ rfl bb 0 (LN (x) : List Value).toArray ((hV 15 (by decide)).trans eb) ((hV 71 (by decide)).trans e71) (by have h2 := b3; simp only [hfi] at h2; exact h2.there) info_api_Nat (all_one rfl) ?_
        exact tell0 hK hF ⟨MR.putF 0 hM rfl y6 eb b1 rfl, Gs.idle rfl hG, ⟨fun _ => hdep ⟨6, .data⟩ (by simp) rfl, trivial⟩, Ns.idle hN⟩
      · cases ho
        have e72 := hG.2.2.2.2.2.1 (hdep ⟨5, .data⟩ (by simp) rfl)
        exact t_assign ((hV 72 (by decide)).trans e72) hF hS rfl rfl rfl rfl (by decide) ⟨hM, Gs.stepA hG rfl rfl, hO.keep rfl, Ns.step hN rfl⟩
    rintro fZ tZ u7 ⟨hM, hG, hO, hN⟩ hall
    have e68 : tZ 68 = _ := hG.1 (hall 0 (by decide))
    have e69 : tZ 69 = _ := hG.2.1 (hall 1 (by decide))
    have e70 : tZ 70 = _ := hG.2.2.1 (hall 2 (by decide))
    have e67 : tZ 67 = _ := hG.2.2.2.1 (hall 3 (by decide))
    have e71 : tZ 71 = _ := hG.2.2.2.2.1 (hall 4 (by decide))
    have e72 : tZ 72 = _ := hG.2.2.2.2.2.1 (hall 5 (by decide))
    have e16 : tZ 16 = _ := hG.2.2.2.2.2.2.1 (hall 8 (by decide))
    obtain ⟨b7_6, ee15, pb7_6, lb7_6, kb7_6⟩ := hM.nw.1 (hall 6 (by decide))
    have e15 : tZ 15 = .pointer (some ⟨b7_6, 0, none⟩) := ee15
    clear ee15
    have Kb7_6 : CV u7 b7_6 (LN (x)) := by
      have h1 : CV u7 b7_6 (bif fZ 7 then LN (x) else L0s) := kb7_6
      rw [hall 7 (by decide)] at h1; exact h1
    clear kb7_6
    have HB7 : Below w.heap.size w u7 := hM.bel
    have sz7 : u6.heap.size ≤ u7.heap.size := hM.sz
    have K7p0 : CV u7 (w.heap.size) (LN (a)) := hM.ks.1.2
    have l7p0 : w.heap.size < u7.heap.size := Nat.lt_of_lt_of_le hM.ks.1.1 hM.sz
    have K7p1 : CV u7 (w.heap.size + 1) (LN (b)) := hM.ks.2.1.2
    have l7p1 : w.heap.size + 1 < u7.heap.size := Nat.lt_of_lt_of_le hM.ks.2.1.1 hM.sz
    have K7p2 : CV u7 (w.heap.size + 1 + 1) (LN (m)) := hM.ks.2.2.1.2
    have l7p2 : w.heap.size + 1 + 1 < u7.heap.size := Nat.lt_of_lt_of_le hM.ks.2.2.1.1 hM.sz
    have K7n6_7 : CV u7 (b3_7) (LN (a % m)) := hM.ks.2.2.2.1.2
    have l7n6_7 : b3_7 < u7.heap.size := Nat.lt_of_lt_of_le hM.ks.2.2.2.1.1 hM.sz
    simp only [ovr, List.set_cons_zero, List.set_cons_succ, e68, e69, e70, e67, e71, e72, e16, e15]
    clear hM hG hO hN hall e68 e69 e70 e67 e71 e72 e16 e15 K6n6_7 K6p0 K6p1 K6p2 HB6
    clear tZ
    go_upto_region 14 with fail
    refine region_plain [81, 82, 83, 84, 80, 85, 86, 17, 18] (fun fZ tZ uZ => MR w.heap.size w (u7.heap.size) [(w.heap.size, LN (a)), (w.heap.size + 1, LN (b)), (w.heap.size + 1 + 1, LN (m)), (b3_7, LN (a % m)), (b7_6, LN (x))] [] [(fZ 7, fZ 8, tZ 17, L0s, LN (a * b % m))] uZ ∧ Gs fZ tZ [(0, 81, NV (a)), (1, 82, NV (b)), (2, 83, NV (m)), (3, 84, .tuple #[NV (a * b % m), .int .i64 0]), (4, 80, .tuple #[NV (a * b % m), .int .i64 0]), (5, 85, NV (a * b % m)), (6, 86, .int .i64 0), (9, 18, .int .i64 0)] ∧ Os fZ [(8, 7)] ∧ Ns fZ tZ []) (by kernel_rfl) ?_ ?_ ?_
    · exact ⟨{ bel := HB7, lo := HB7.size, sz := Nat.le_refl _, ks := ⟨⟨l7p0, K7p0⟩, ⟨l7p1, K7p1⟩, ⟨l7p2, K7p2⟩, ⟨l7n6_7, K7n6_7⟩, ⟨lb7_6, Kb7_6⟩, trivial⟩, ex := trivial, nw := ⟨fun e => (by cases e), trivial⟩, nd := ⟨fun e => (by cases e), trivial⟩ }, Gs.none _ _, Os.none _, trivial⟩
    · rintro fZ tZ uZ iZ oZ aZ hF ⟨hM, hG, hO, hN⟩ ho hfi hdep
      have hS : [81, 82, 83, 84, 80, 85, 86, 17, 18].Nodup := by decide
      have hV := hF.evs (N := 97) (by decide) rfl (by decide)
      have il : iZ < 10 := (Array.getElem?_eq_some_iff.1 ho).1
      have ix : iZ = 0 ∨ iZ = 1 ∨ iZ = 2 ∨ iZ = 3 ∨ iZ = 4 ∨ iZ = 5 ∨ iZ = 6 ∨ iZ = 7 ∨ iZ = 8 ∨ iZ = 9 := by omega
      rcases ix with rfl | rfl | rfl | rfl | rfl | rfl | rfl | rfl | rfl | rfl
      · cases ho
        exact t_load (show aZ.eval (.tmp 3) = .pointer (some ⟨w.heap.size, 0, none⟩) from (hF.out 3 (by decide)).trans rfl) hM.ks.1.2 Try.underlying25 info_api_Nat hF hS rfl rfl rfl rfl rfl (by decide) ⟨hM, Gs.stepA hG rfl rfl, hO.keep rfl, Ns.step hN rfl⟩
      · cases ho
        exact t_load (show aZ.eval (.tmp 4) = .pointer (some ⟨w.heap.size + 1, 0, none⟩) from (hF.out 4 (by decide)).trans rfl) hM.ks.2.1.2 Try.underlying25 info_api_Nat hF hS rfl rfl rfl rfl rfl (by decide) ⟨hM, Gs.stepA hG rfl rfl, hO.keep rfl, Ns.step hN rfl⟩
      · cases ho
        exact t_load (show aZ.eval (.tmp 5) = .pointer (some ⟨w.heap.size + 1 + 1, 0, none⟩) from (hF.out 5 (by decide)).trans rfl) hM.ks.2.2.1.2 Try.underlying25 info_api_Nat hF hS rfl rfl rfl rfl rfl (by decide) ⟨hM, Gs.stepA hG rfl rfl, hO.keep rfl, Ns.step hN rfl⟩
      · cases ho
        have e81 := hG.1 (hdep ⟨0, .data⟩ (by simp) rfl)
        have e82 := hG.2.1 (hdep ⟨1, .data⟩ (by simp) rfl)
        have e83 := hG.2.2.1 (hdep ⟨2, .data⟩ (by simp) rfl)
        exact t_call (vs := [NV (a), NV (b), NV (m)]) (by show [aZ.eval (.tmp 81), aZ.eval (.tmp 82), aZ.eval (.tmp 83)] = _; rw [((hV 81 (by decide)).trans e81), ((hV 82 (by decide)).trans e82), ((hV 83 (by decide)).trans e83)]) ent_mod_Mul (mMul a b m uZ ha hb hm h) hF hS rfl rfl rfl rfl (by decide) (fun _ hB => ⟨hM.call hB, Gs.stepA hG rfl rfl, hO.keep rfl, Ns.step hN rfl⟩)
      · cases ho
        have e84 := hG.2.2.2.1 (hdep ⟨3, .data⟩ (by simp) rfl)
        exact t_move ((hV 84 (by decide)).trans e84) hF hS rfl rfl rfl rfl (by decide) ⟨hM, Gs.stepA hG rfl rfl, hO.keep rfl, Ns.step hN rfl⟩
      · cases ho
        have e80 := hG.2.2.2.2.1 (hdep ⟨4, .data⟩ (by simp) rfl)
        exact t_extract ((hV 80 (by decide)).trans e80) hF hS rfl rfl rfl rfl rfl (by decide) ⟨hM, Gs.stepA hG rfl rfl, hO.keep rfl, Ns.step hN rfl⟩
      · cases ho
        have e80 := hG.2.2.2.2.1 (hdep ⟨4, .data⟩ (by simp) rfl)
        exact t_extract ((hV 80 (by decide)).trans e80) hF hS rfl rfl rfl rfl rfl (by decide) ⟨hM, Gs.stepA hG rfl rfl, hO.keep rfl, Ns.step hN rfl⟩
      · cases ho
        refine op_plain rfl rfl (fun K hK => ?_)
        refine wp_alloc rfl (al_api_Nat uZ) ?_
        have q1 : fZ 8 = false := Os.not (hO.1) hfi
        exact tell hK hF hS (by decide) ⟨MR.newF 0 hM rfl hfi q1, Gs.other rfl hG, hO.keep rfl, Ns.step hN rfl⟩
      · cases ho
        refine op_plain rfl rfl (fun K hK => ?_)
        have y7 : fZ 7 = true := hdep ⟨7, .data⟩ (by simp) rfl
        obtain ⟨bb, eb, b1, b2, b3⟩ := hM.nw.1 y7
        have eb : tZ 17 = .pointer (some ⟨bb, 0, none⟩) := eb
        have e85 := hG.2.2.2.2.2.1 (hdep ⟨5, .data⟩ (by simp) rfl)
        refine wp_store_mid 25 _ _ rfl bb 0 (LN (a * b % m) : List Value).toArray ((hV 17 (by decide)).trans eb) ((hV 85 (by decide)).trans e85) (by have h2 := b3; simp only [hfi] at h2; exact h2.there) info_api_Nat (all_one rfl) ?_
        exact tell0 hK hF ⟨MR.putF 0 hM rfl y7 eb b1 rfl, Gs.idle rfl hG, ⟨fun _ => hdep ⟨7, .data⟩ (by simp) rfl, trivial⟩, Ns.idle hN⟩
      · cases ho
        have e86 := hG.2.2.2.2.2.2.1 (hdep ⟨6, .data⟩ (by simp) rfl)
        exact t_assign ((hV 86 (by decide)).trans e86) hF hS rfl rfl rfl rfl (by decide) ⟨hM, Gs.stepA hG rfl rfl, hO.keep rfl, Ns.step hN rfl⟩
    rintro fZ tZ u8 ⟨hM, hG, hO, hN⟩ hall
    have e81 : tZ 81 = _ := hG.1 (hall 0 (by decide))
    have e82 : tZ 82 = _ := hG.2.1 (hall 1 (by decide))
    have e83 : tZ 83 = _ := hG.2.2.1 (hall 2 (by decide))
    have e84 : tZ 84 = _ := hG.2.2.2.1 (hall 3 (by decide))
    have e80 : tZ 80 = _ := hG.2.2.2.2.1 (hall 4 (by decide))
    have e85 : tZ 85 = _ := hG.2.2.2.2.2.1 (hall 5 (by decide))
    have e86 : tZ 86 = _ := hG.2.2.2.2.2.2.1 (hall 6 (by decide))
    have e18 : tZ 18 = _ := hG.2.2.2.2.2.2.2.1 (hall 9 (by decide))
    obtain ⟨b8_7, ee17, pb8_7, lb8_7, kb8_7⟩ := hM.nw.1 (hall 7 (by decide))
    have e17 : tZ 17 = .pointer (some ⟨b8_7, 0, none⟩) := ee17
    clear ee17
    have Kb8_7 : CV u8 b8_7 (LN (a * b % m)) := by
      have h1 : CV u8 b8_7 (bif fZ 8 then LN (a * b % m) else L0s) := kb8_7
      rw [hall 8 (by decide)] at h1; exact h1
    clear kb8_7
    have HB8 : Below w.heap.size w u8 := hM.bel
    have sz8 : u7.heap.size ≤ u8.heap.size := hM.sz
    have K8p2 : CV u8 (w.heap.size + 1 + 1) (LN (m)) := hM.ks.2.2.1.2
    have l8p2 : w.heap.size + 1 + 1 < u8.heap.size := Nat.lt_of_lt_of_le hM.ks.2.2.1.1 hM.sz
    have K8n6_7 : CV u8 (b3_7) (LN (a % m)) := hM.ks.2.2.2.1.2
    have l8n6_7 : b3_7 < u8.heap.size := Nat.lt_of_lt_of_le hM.ks.2.2.2.1.1 hM.sz
    have K8n11_6 : CV u8 (b7_6) (LN (x)) := hM.ks.2.2.2.2.1.2
    have l8n11_6 : b7_6 < u8.heap.size := Nat.lt_of_lt_of_le hM.ks.2.2.2.2.1.1 hM.sz
    simp only [ovr, List.set_cons_zero, List.set_cons_succ, e81, e82, e83, e84, e80, e85, e86, e18, e17]
    clear hM hG hO hN hall e81 e82 e83 e84 e80 e85 e86 e18 e17 K7n6_7 K7p0 K7p1 K7p2 Kb7_6 HB7
    clear tZ
    go_upto_region 15 with fail
    refine region_plain [88, 89, 90, 91, 87, 92, 93, 19, 20] (fun fZ tZ uZ => MR w.heap.size w (u8.heap.size) [(w.heap.size + 1 + 1, LN (m)), (b3_7, LN (a % m)), (b7_6, LN (x)), (b8_7, LN (a * b % m))] [] [(fZ 7, fZ 8, tZ 19, L0s, LN (a * b % m * x % m))] uZ ∧ Gs fZ tZ [(0, 88, NV (a * b % m)), (1, 89, NV (x)), (2, 90, NV (m)), (3, 91, .tuple #[NV (a * b % m * x % m), .int .i64 0]), (4, 87, .tuple #[NV (a * b % m * x % m), .int .i64 0]), (5, 92, NV (a * b % m * x % m)), (6, 93, .int .i64 0), (9, 20, .int .i64 0)] ∧ Os fZ [(8, 7)] ∧ Ns fZ tZ []) (by kernel_rfl) ?_ ?_ ?_
    · exact ⟨{ bel := HB8, lo := HB8.size, sz := Nat.le_refl _, ks := ⟨⟨l8p2, K8p2⟩, ⟨l8n6_7, K8n6_7⟩, ⟨l8n11_6, K8n11_6⟩, ⟨lb8_7, Kb8_7⟩, trivial⟩, ex := trivial, nw := ⟨fun e => (by cases e), trivial⟩, nd := ⟨fun e => (by cases e), trivial⟩ }, Gs.none _ _, Os.none _, trivial⟩
    · rintro fZ tZ uZ iZ oZ aZ hF ⟨hM, hG, hO, hN⟩ ho hfi hdep
      have hS : [88, 89, 90, 91, 87, 92, 93, 19, 20].Nodup := by decide
      have hV := hF.evs (N := 97) (by decide) rfl (by decide)
      have il : iZ < 10 := (Array.getElem?_eq_some_iff.1 ho).1
      have ix : iZ = 0 ∨ iZ = 1 ∨ iZ = 2 ∨ iZ = 3 ∨ iZ = 4 ∨ iZ = 5 ∨ iZ = 6 ∨ iZ = 7 ∨ iZ = 8 ∨ iZ = 9 := by omega
      rcases ix with rfl | rfl | rfl | rfl | rfl | rfl | rfl | rfl | rfl | rfl
      · cases ho
        exact t_load (show aZ.eval (.tmp 17) = .pointer (some ⟨b8_7, 0, none⟩) from (hF.out 17 (by decide)).trans rfl) hM.ks.2.2.2.1.2 Try.underlying25 info_api_Nat hF hS rfl rfl rfl rfl rfl (by decide) ⟨hM, Gs.stepA hG rfl rfl, hO.keep rfl, Ns.step hN rfl⟩
      · cases ho
        exact t_load (show aZ.eval (.tmp 15) = .pointer (some ⟨b7_6, 0, none⟩) from (hF.out 15 (by decide)).trans rfl) hM.ks.2.2.1.2 Try.underlying25 info_api_Nat hF hS rfl rfl rfl rfl rfl (by decide) ⟨hM, Gs.stepA hG rfl rfl, hO.keep rfl, Ns.step hN rfl⟩
      · cases ho
        exact t_load (show aZ.eval (.tmp 5) = .pointer (some ⟨w.heap.size + 1 + 1, 0, none⟩) from (hF.out 5 (by decide)).trans rfl) hM.ks.1.2 Try.underlying25 info_api_Nat hF hS rfl rfl rfl rfl rfl (by decide) ⟨hM, Gs.stepA hG rfl rfl, hO.keep rfl, Ns.step hN rfl⟩
      · cases ho
        have e88 := hG.1 (hdep ⟨0, .data⟩ (by simp) rfl)
        have e89 := hG.2.1 (hdep ⟨1, .data⟩ (by simp) rfl)
        have e90 := hG.2.2.1 (hdep ⟨2, .data⟩ (by simp) rfl)
        exact t_call (vs := [NV (a * b % m), NV (x), NV (m)]) (by show [aZ.eval (.tmp 88), aZ.eval (.tmp 89), aZ.eval (.tmp 90)] = _; rw [((hV 88 (by decide)).trans e88), ((hV 89 (by decide)).trans e89), ((hV 90 (by decide)).trans e90)]) ent_mod_Mul (mMul (a * b % m) x m uZ (In_mod hm h) ix hm h) hF hS rfl rfl rfl rfl (by decide) (fun _ hB => ⟨hM.call hB, Gs.stepA hG rfl rfl, hO.keep rfl, Ns.step hN rfl⟩)
      · cases ho
        have e91 := hG.2.2.2.1 (hdep ⟨3, .data⟩ (by simp) rfl)
        exact t_move ((hV 91 (by decide)).trans e91) hF hS rfl rfl rfl rfl (by decide) ⟨hM, Gs.stepA hG rfl rfl, hO.keep rfl, Ns.step hN rfl⟩
      · cases ho
        have e87 := hG.2.2.2.2.1 (hdep ⟨4, .data⟩ (by simp) rfl)
        exact t_extract ((hV 87 (by decide)).trans e87) hF hS rfl rfl rfl rfl rfl (by decide) ⟨hM, Gs.stepA hG rfl rfl, hO.keep rfl, Ns.step hN rfl⟩
      · cases ho
        have e87 := hG.2.2.2.2.1 (hdep ⟨4, .data⟩ (by simp) rfl)
        exact t_extract ((hV 87 (by decide)).trans e87) hF hS rfl rfl rfl rfl rfl (by decide) ⟨hM, Gs.stepA hG rfl rfl, hO.keep rfl, Ns.step hN rfl⟩
      · cases ho
        refine op_plain rfl rfl (fun K hK => ?_)
        refine wp_alloc rfl (al_api_Nat uZ) ?_
        have q1 : fZ 8 = false := Os.not (hO.1) hfi
        exact tell hK hF hS (by decide) ⟨MR.newF 0 hM rfl hfi q1, Gs.other rfl hG, hO.keep rfl, Ns.step hN rfl⟩
      · cases ho
        refine op_plain rfl rfl (fun K hK => ?_)
        have y7 : fZ 7 = true := hdep ⟨7, .data⟩ (by simp) rfl
        obtain ⟨bb, eb, b1, b2, b3⟩ := hM.nw.1 y7
        have eb : tZ 19 = .pointer (some ⟨bb, 0, none⟩) := eb
        have e92 := hG.2.2.2.2.2.1 (hdep ⟨5, .data⟩ (by simp) rfl)
        refine wp_store_mid 25 _ _ rfl bb 0 (LN (a * b % m * x % m) : List Value).toArray ((hV 19 (by decide)).trans eb) ((hV 92 (by decide)).trans e92) (by have h2 := b3; simp only [hfi] at h2; exact h2.there) info_api_Nat (all_one rfl) ?_
        exact tell0 hK hF ⟨MR.putF 0 hM rfl y7 eb b1 rfl, Gs.idle rfl hG, ⟨fun _ => hdep ⟨7, .data⟩ (by simp) rfl, trivial⟩, Ns.idle hN⟩
      · cases ho
        have e93 := hG.2.2.2.2.2.2.1 (hdep ⟨6, .data⟩ (by simp) rfl)
        exact t_assign ((hV 93 (by decide)).trans e93) hF hS rfl rfl rfl rfl (by decide) ⟨hM, Gs.stepA hG rfl rfl, hO.keep rfl, Ns.step hN rfl⟩
    rintro fZ tZ u9 ⟨hM, hG, hO, hN⟩ hall
    have e88 : tZ 88 = _ := hG.1 (hall 0 (by decide))
    have e89 : tZ 89 = _ := hG.2.1 (hall 1 (by decide))
    have e90 : tZ 90 = _ := hG.2.2.1 (hall 2 (by decide))
    have e91 : tZ 91 = _ := hG.2.2.2.1 (hall 3 (by decide))
    have e87 : tZ 87 = _ := hG.2.2.2.2.1 (hall 4 (by decide))
    have e92 : tZ 92 = _ := hG.2.2.2.2.2.1 (hall 5 (by decide))
    have e93 : tZ 93 = _ := hG.2.2.2.2.2.2.1 (hall 6 (by decide))
    have e20 : tZ 20 = _ := hG.2.2.2.2.2.2.2.1 (hall 9 (by decide))
    obtain ⟨b9_7, ee19, pb9_7, lb9_7, kb9_7⟩ := hM.nw.1 (hall 7 (by decide))
    have e19 : tZ 19 = .pointer (some ⟨b9_7, 0, none⟩) := ee19
    clear ee19
    have Kb9_7 : CV u9 b9_7 (LN (a * b % m * x % m)) := by
      have h1 : CV u9 b9_7 (bif fZ 8 then LN (a * b % m * x % m) else L0s) := kb9_7
      rw [hall 8 (by decide)] at h1; exact h1
    clear kb9_7
    have HB9 : Below w.heap.size w u9 := hM.bel
    have sz9 : u8.heap.size ≤ u9.heap.size := hM.sz
    have K9n6_7 : CV u9 (b3_7) (LN (a % m)) := hM.ks.2.1.2
    have l9n6_7 : b3_7 < u9.heap.size := Nat.lt_of_lt_of_le hM.ks.2.1.1 hM.sz
    simp only [ovr, List.set_cons_zero, List.set_cons_succ, e88, e89, e90, e91, e87, e92, e93, e20, e19]
    clear hM hG hO hN hall e88 e89 e90 e91 e87 e92 e93 e20 e19 K8n11_6 K8n6_7 K8p2 Kb8_7 HB8
    clear tZ
    go_upto_region 16 with fail
    refine region_plain [94, 95, 96, 6] (fun fZ tZ uZ => MR w.heap.size w (u9.heap.size) [(b3_7, LN (a % m)), (b9_7, LN (a * b % m * x % m))] [] [] uZ ∧ Gs fZ tZ [(0, 94, NV (a * b % m * x % m)), (1, 95, NV (a % m)), (2, 96, .bool true), (3, 6, .bool true)] ∧ Os fZ [] ∧ Ns fZ tZ []) (by kernel_rfl) ?_ ?_ ?_
    · exact ⟨{ bel := HB9, lo := HB9.size, sz := Nat.le_refl _, ks := ⟨⟨l9n6_7, K9n6_7⟩, ⟨lb9_7, Kb9_7⟩, trivial⟩, ex := trivial, nw := trivial, nd := trivial }, Gs.none _ _, Os.none _, trivial⟩
    · rintro fZ tZ uZ iZ oZ aZ hF ⟨hM, hG, hO, hN⟩ ho hfi hdep
      have hS : [94, 95, 96, 6].Nodup := by decide
      have hV := hF.evs (N := 97) (by decide) rfl (by decide)
      have il : iZ < 4 := (Array.getElem?_eq_some_iff.1 ho).1
      have ix : iZ = 0 ∨ iZ = 1 ∨ iZ = 2 ∨ iZ = 3 := by omega
      rcases ix with rfl | rfl | rfl | rfl
      · cases ho
        exact t_load (show aZ.eval (.tmp 19) = .pointer (some ⟨b9_7, 0, none⟩) from (hF.out 19 (by decide)).trans rfl) hM.ks.2.1.2 Try.underlying25 info_api_Nat hF hS rfl rfl rfl rfl rfl (by decide) ⟨hM, Gs.stepA hG rfl rfl, trivial, Ns.step hN rfl⟩
      · cases ho
        exact t_load (show aZ.eval (.tmp 9) = .pointer (some ⟨b3_7, 0, none⟩) from (hF.out 9 (by decide)).trans rfl) hM.ks.1.2 Try.underlying25 info_api_Nat hF hS rfl rfl rfl rfl rfl (by decide) ⟨hM, Gs.stepA hG rfl rfl, trivial, Ns.step hN rfl⟩
      · cases ho
        refine op_plain rfl rfl (fun K hK => ?_)
        have e94 := hG.1 (hdep ⟨0, .data⟩ (by simp) rfl)
        have e95 := hG.2.1 (hdep ⟨1, .data⟩ (by simp) rfl)
        refine wp_bin rfl ((hV 94 (by decide)).trans e94) ((hV 95 (by decide)).trans e95) (eql_n _ _ (In_mod hm h) (In_mod hm h) true (decide_eq_true H2.out) uZ) ?_
        exact tell hK hF hS (by decide) ⟨hM, Gs.stepA hG rfl rfl, trivial, Ns.step hN rfl⟩
      · cases ho
        have e96 := hG.2.2.1 (hdep ⟨2, .data⟩ (by simp) rfl)
        exact t_assign ((hV 96 (by decide)).trans e96) hF hS rfl rfl rfl rfl (by decide) ⟨hM, Gs.stepA hG rfl rfl, trivial, Ns.step hN rfl⟩
    rintro fZ tZ u10 ⟨hM, hG, hO, hN⟩ hall
    have e94 : tZ 94 = _ := hG.1 (hall 0 (by decide))
    have e95 : tZ 95 = _ := hG.2.1 (hall 1 (by decide))
    have e96 : tZ 96 = _ := hG.2.2.1 (hall 2 (by decide))
    have e6 : tZ 6 = _ := hG.2.2.2.1 (hall 3 (by decide))
    have HB10 : Below w.heap.size w u10 := hM.bel
    have sz10 : u9.heap.size ≤ u10.heap.size := hM.sz
    simp only [ovr, List.set_cons_zero, List.set_cons_succ, e94, e95, e96, e6]
    clear hM hG hO hN hall e94 e95 e96 e6 K9n6_7 Kb9_7 HB9
    clear tZ
    go_wp2
    refine bodyPost_ret (v := .bool true) (by simp [results, Try.results9, go_sem, ]) rfl ⟨rfl, HB10⟩
  · have ig : In (gI b m) := by rw [gI_comm]; exact In_gI hb hm h
    have hg' : gI m (b % m) ≠ 1 := by rw [gI_step b m hb.1 hm.1 h]; exact hg
    have hVV : Hid (∀ u, Calls Try.prog 31 #[NV b, NV m] u fun en u' => en = .returned (.tuple #[A4 0 0 0 0, .int .i64 20]) ∧ Below u.heap.size u u') := fun u => mInverse_no b m u hb hm h hg'
    clear hg'
    go_upto_region 11 with fail
    refine region_plain [68, 69, 70, 67, 71, 72, 15, 16] (fun fZ tZ uZ => MR w.heap.size w (u6.heap.size) [(w.heap.size, LN (a)), (w.heap.size + 1, LN (b)), (w.heap.size + 1 + 1, LN (m)), (b3_7, LN (a % m))] [] [(fZ 6, fZ 7, tZ 15, L0s, [.int .u64 (0), .int .u64 (0), .int .u64 (0), .int .u64 (0)])] uZ ∧ Gs fZ tZ [(0, 68, NV (b)), (1, 69, NV (m)), (2, 70, .tuple #[A4 (0) (0) (0) (0), .int .i64 20]), (3, 67, .tuple #[A4 (0) (0) (0) (0), .int .i64 20]), (4, 71, A4 (0) (0) (0) (0)), (5, 72, .int .i64 20), (8, 16, .int .i64 20)] ∧ Os fZ [(7, 6)] ∧ Ns fZ tZ []) (by kernel_rfl) ?_ ?_ ?_
    · exact ⟨{ bel := HB6, lo := HB6.size, sz := Nat.le_refl _, ks := ⟨⟨l6p0, K6p0⟩, ⟨l6p1, K6p1⟩, ⟨l6p2, K6p2⟩, ⟨l6n6_7, K6n6_7⟩, trivial⟩, ex := trivial, nw := ⟨fun e => (by cases e), trivial⟩, nd := ⟨fun e => (by cases e), trivial⟩ }, Gs.none _ _, Os.none _, trivial⟩
    · rintro fZ tZ uZ iZ oZ aZ hF ⟨hM, hG, hO, hN⟩ ho hfi hdep
      have hS : [68, 69, 70, 67, 71, 72, 15, 16].Nodup := by decide
      have hV := hF.evs (N := 97) (by decide) rfl (by decide)
      have il : iZ < 9 := (Array.getElem?_eq_some_iff.1 ho).1
      have ix : iZ = 0 ∨ iZ = 1 ∨ iZ = 2 ∨ iZ = 3 ∨ iZ = 4 ∨ iZ = 5 ∨ iZ = 6 ∨ iZ = 7 ∨ iZ = 8 := by omega
      rcases ix with rfl | rfl | rfl | rfl | rfl | rfl | rfl | rfl | rfl
      · cases ho
        exact t_load (show aZ.eval (.tmp 4) = .pointer (some ⟨w.heap.size + 1, 0, none⟩) from (hF.out 4 (by decide)).trans rfl) hM.ks.2.1.2 Try.underlying25 info_api_Nat hF hS rfl rfl rfl rfl rfl (by decide) ⟨hM, Gs.stepA hG rfl rfl, hO.keep rfl, Ns.step hN rfl⟩
      · cases ho
        exact t_load (show aZ.eval (.tmp 5) = .pointer (some ⟨w.heap.size + 1 + 1, 0, none⟩) from (hF.out 5 (by decide)).trans rfl) hM.ks.2.2.1.2 Try.underlying25 info_api_Nat hF hS rfl rfl rfl rfl rfl (by decide) ⟨hM, Gs.stepA hG rfl rfl, hO.keep rfl, Ns.step hN rfl⟩
      · cases ho
        have e68 := hG.1 (hdep ⟨0, .data⟩ (by simp) rfl)
        have e69 := hG.2.1 (hdep ⟨1, .data⟩ (by simp) rfl)
        exact t_call (vs := [NV (b), NV (m)]) (by show [aZ.eval (.tmp 68), aZ.eval (.tmp 69)] = _; rw [((hV 68 (by decide)).trans e68), ((hV 69 (by decide)).trans e69)]) ent_mod_Inverse (hVV.out uZ) hF hS rfl rfl rfl rfl (by decide) (fun _ hB => ⟨hM.call hB, Gs.stepA hG rfl rfl, hO.keep rfl, Ns.step hN rfl⟩)
      · cases ho
        have e70 := hG.2.2.1 (hdep ⟨2, .data⟩ (by simp) rfl)
        exact t_move ((hV 70 (by decide)).trans e70) hF hS rfl rfl rfl rfl (by decide) ⟨hM, Gs.stepA hG rfl rfl, hO.keep rfl, Ns.step hN rfl⟩
      · cases ho
        have e67 := hG.2.2.2.1 (hdep ⟨3, .data⟩ (by simp) rfl)
        exact t_extract ((hV 67 (by decide)).trans e67) hF hS rfl rfl rfl rfl rfl (by decide) ⟨hM, Gs.stepA hG rfl rfl, hO.keep rfl, Ns.step hN rfl⟩
      · cases ho
        have e67 := hG.2.2.2.1 (hdep ⟨3, .data⟩ (by simp) rfl)
        exact t_extract ((hV 67 (by decide)).trans e67) hF hS rfl rfl rfl rfl rfl (by decide) ⟨hM, Gs.stepA hG rfl rfl, hO.keep rfl, Ns.step hN rfl⟩
      · cases ho
        refine op_plain rfl rfl (fun K hK => ?_)
        refine wp_alloc rfl (al_api_Nat uZ) ?_
        have q1 : fZ 7 = false := Os.not (hO.1) hfi
        exact tell hK hF hS (by decide) ⟨MR.newF 0 hM rfl hfi q1, Gs.other rfl hG, hO.keep rfl, Ns.step hN rfl⟩
      · cases ho
        refine op_plain rfl rfl (fun K hK => ?_)
        have y6 : fZ 6 = true := hdep ⟨6, .data⟩ (by simp) rfl
        obtain ⟨bb, eb, b1, b2, b3⟩ := hM.nw.1 y6
        have eb : tZ 15 = .pointer (some ⟨bb, 0, none⟩) := eb
        have e71 := hG.2.2.2.2.1 (hdep ⟨4, .data⟩ (by simp) rfl)
        refine wp_store_mid 25 _ _ rfl bb 0 ([.int .u64 (0), .int .u64 (0), .int .u64 (0), .int .u64 (0)] : List Value).toArray ((hV 15 (by decide)).trans eb) ((hV 71 (by decide)).trans e71) (by have h2 := b3; simp only [hfi] at h2; exact h2.there) info_api_Nat (all_one rfl) ?_
        exact tell0 hK hF ⟨MR.putF 0 hM rfl y6 eb b1 rfl, Gs.idle rfl hG, ⟨fun _ => hdep ⟨6, .data⟩ (by simp) rfl, trivial⟩, Ns.idle hN⟩
      · cases ho
        have e72 := hG.2.2.2.2.2.1 (hdep ⟨5, .data⟩ (by simp) rfl)
        exact t_assign ((hV 72 (by decide)).trans e72) hF hS rfl rfl rfl rfl (by decide) ⟨hM, Gs.stepA hG rfl rfl, hO.keep rfl, Ns.step hN rfl⟩
    rintro fZ tZ u7 ⟨hM, hG, hO, hN⟩ hall
    have e68 : tZ 68 = _ := hG.1 (hall 0 (by decide))
    have e69 : tZ 69 = _ := hG.2.1 (hall 1 (by decide))
    have e70 : tZ 70 = _ := hG.2.2.1 (hall 2 (by decide))
    have e67 : tZ 67 = _ := hG.2.2.2.1 (hall 3 (by decide))
    have e71 : tZ 71 = _ := hG.2.2.2.2.1 (hall 4 (by decide))
    have e72 : tZ 72 = _ := hG.2.2.2.2.2.1 (hall 5 (by decide))
    have e16 : tZ 16 = _ := hG.2.2.2.2.2.2.1 (hall 8 (by decide))
    obtain ⟨b7_6, ee15, pb7_6, lb7_6, kb7_6⟩ := hM.nw.1 (hall 6 (by decide))
    have e15 : tZ 15 = .pointer (some ⟨b7_6, 0, none⟩) := ee15
    clear ee15
    have Kb7_6 : CV u7 b7_6 ([.int .u64 (0), .int .u64 (0), .int .u64 (0), .int .u64 (0)]) := by
      have h1 : CV u7 b7_6 (bif fZ 7 then [.int .u64 (0), .int .u64 (0), .int .u64 (0), .int .u64 (0)] else L0s) := kb7_6
      rw [hall 7 (by decide)] at h1; exact h1
    clear kb7_6
    have HB7 : Below w.heap.size w u7 := hM.bel
    have sz7 : u6.heap.size ≤ u7.heap.size := hM.sz
    have K7p1 : CV u7 (w.heap.size + 1) (LN (b)) := hM.ks.2.1.2
    have l7p1 : w.heap.size + 1 < u7.heap.size := Nat.lt_of_lt_of_le hM.ks.2.1.1 hM.sz
    have K7p2 : CV u7 (w.heap.size + 1 + 1) (LN (m)) := hM.ks.2.2.1.2
    have l7p2 : w.heap.size + 1 + 1 < u7.heap.size := Nat.lt_of_lt_of_le hM.ks.2.2.1.1 hM.sz
    simp only [ovr, List.set_cons_zero, List.set_cons_succ, e68, e69, e70, e67, e71, e72, e16, e15]
    clear hM hG hO hN hall e68 e69 e70 e67 e71 e72 e16 e15 K6n6_7 K6p0 K6p1 K6p2 HB6
    clear tZ
    go_upto_region 13 with fail
    refine region_plain [75, 76, 77, 78, 79, 6] (fun fZ tZ uZ => MR w.heap.size w (u7.heap.size) [(w.heap.size + 1, LN (b)), (w.heap.size + 1 + 1, LN (m))] [] [] uZ ∧ Gs fZ tZ [(0, 75, NV (b)), (1, 76, NV (m)), (2, 77, NV (gI b m)), (3, 78, NV (1)), (4, 79, .bool true), (5, 6, .bool true)] ∧ Os fZ [] ∧ Ns fZ tZ []) (by kernel_rfl) ?_ ?_ ?_
    · exact ⟨{ bel := HB7, lo := HB7.size, sz := Nat.le_refl _, ks := ⟨⟨l7p1, K7p1⟩, ⟨l7p2, K7p2⟩, trivial⟩, ex := trivial, nw := trivial, nd := trivial }, Gs.none _ _, Os.none _, trivial⟩
    · rintro fZ tZ uZ iZ oZ aZ hF ⟨hM, hG, hO, hN⟩ ho hfi hdep
      have hS : [75, 76, 77, 78, 79, 6].Nodup := by decide
      have hV := hF.evs (N := 97) (by decide) rfl (by decide)
      have il : iZ < 6 := (Array.getElem?_eq_some_iff.1 ho).1
      have ix : iZ = 0 ∨ iZ = 1 ∨ iZ = 2 ∨ iZ = 3 ∨ iZ = 4 ∨ iZ = 5 := by omega
      rcases ix with rfl | rfl | rfl | rfl | rfl | rfl
      · cases ho
        exact t_load (show aZ.eval (.tmp 4) = .pointer (some ⟨w.heap.size + 1, 0, none⟩) from (hF.out 4 (by decide)).trans rfl) hM.ks.1.2 Try.underlying25 info_api_Nat hF hS rfl rfl rfl rfl rfl (by decide) ⟨hM, Gs.stepA hG rfl rfl, trivial, Ns.step hN rfl⟩
      · cases ho
        exact t_load (show aZ.eval (.tmp 5) = .pointer (some ⟨w.heap.size + 1 + 1, 0, none⟩) from (hF.out 5 (by decide)).trans rfl) hM.ks.2.1.2 Try.underlying25 info_api_Nat hF hS rfl rfl rfl rfl rfl (by decide) ⟨hM, Gs.stepA hG rfl rfl, trivial, Ns.step hN rfl⟩
      · cases ho
        have e75 := hG.1 (hdep ⟨0, .data⟩ (by simp) rfl)
        have e76 := hG.2.1 (hdep ⟨1, .data⟩ (by simp) rfl)
        exact t_call (vs := [NV (b), NV (m)]) (by show [aZ.eval (.tmp 75), aZ.eval (.tmp 76)] = _; rw [((hV 75 (by decide)).trans e75), ((hV 76 (by decide)).trans e76)]) ent_mod_Gcd (mGcd b m uZ hb hm) hF hS rfl rfl rfl rfl (by decide) (fun _ hB => ⟨hM.call hB, Gs.stepA hG rfl rfl, trivial, Ns.step hN rfl⟩)
      · cases ho
        exact t_call (vs := [(Go.Value.int Go.IntKind.i64 1)]) (by show [(Go.Value.int Go.IntKind.i64 1)] = _; rfl) ent_seneschalbase_Nat (bNat_any 1 uZ (by omega) (by omega)) hF hS rfl rfl rfl rfl (by decide) (fun _ hB => ⟨hM.call hB, Gs.stepA hG rfl rfl, trivial, Ns.step hN rfl⟩)
      · cases ho
        refine op_plain rfl rfl (fun K hK => ?_)
        have e77 := hG.2.2.1 (hdep ⟨2, .data⟩ (by simp) rfl)
        have e78 := hG.2.2.2.1 (hdep ⟨3, .data⟩ (by simp) rfl)
        refine wp_bin rfl ((hV 77 (by decide)).trans e77) ((hV 78 (by decide)).trans e78) (neq_n _ _ ig In_1 true (decide_eq_false hg) uZ) ?_
        exact tell hK hF hS (by decide) ⟨hM, Gs.stepA hG rfl rfl, trivial, Ns.step hN rfl⟩
      · cases ho
        have e79 := hG.2.2.2.2.1 (hdep ⟨4, .data⟩ (by simp) rfl)
        exact t_assign ((hV 79 (by decide)).trans e79) hF hS rfl rfl rfl rfl (by decide) ⟨hM, Gs.stepA hG rfl rfl, trivial, Ns.step hN rfl⟩
    rintro fZ tZ u8 ⟨hM, hG, hO, hN⟩ hall
    have e75 : tZ 75 = _ := hG.1 (hall 0 (by decide))
    have e76 : tZ 76 = _ := hG.2.1 (hall 1 (by decide))
    have e77 : tZ 77 = _ := hG.2.2.1 (hall 2 (by decide))
    have e78 : tZ 78 = _ := hG.2.2.2.1 (hall 3 (by decide))
    have e79 : tZ 79 = _ := hG.2.2.2.2.1 (hall 4 (by decide))
    have e6 : tZ 6 = _ := hG.2.2.2.2.2.1 (hall 5 (by decide))
    have HB8 : Below w.heap.size w u8 := hM.bel
    have sz8 : u7.heap.size ≤ u8.heap.size := hM.sz
    simp only [ovr, List.set_cons_zero, List.set_cons_succ, e75, e76, e77, e78, e79, e6]
    clear hM hG hO hN hall e75 e76 e77 e78 e79 e6 K7p1 K7p2 HB7
    clear tZ
    go_wp2
    refine bodyPost_ret (v := .bool true) (by simp [results, Try.results9, go_sem, ]) rfl ⟨rfl, HB8⟩
theorem modBack_any (a b m : Int) (w : World) (ha : In a) (hb : In b) (hm : In m) : Calls Try.prog 9 #[NV a, NV b, NV m] w fun en w' => en = .returned (.bool true) ∧ Below w.heap.size w w' := by
  by_cases h : m = 0
  · rw [h, NV_0]; exact modBack_0 a b w ha hb
  · exact modBack_1 a b m w ha hb hm h
end Go.Proofs.Ytnmkbihjbnbkkaa
