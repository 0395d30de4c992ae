/- ModExponents: the walk. -/
import Derived.Test.YtnmkbihjbnbkkaaWK2
namespace Go.Proofs.Ytnmkbihjbnbkkaa
open Go.RowKit
set_option linter.unusedVariables false
set_option linter.unusedSimpArgs false
theorem shr1 (T : TypeId) (p q : Operand) (x : Int) (w : World) (hx : W64 x) : (do eqGuard .shr T p q (.int .u64 x) (.int .u64 1); binOp .shr T (.int .u64 x) (.int .u64 1) : Sem Value).run Try.prog w = .ok (.int .u64 (x / 2)) w := by
  obtain ⟨h1, h2⟩ := hx
  go_simp
theorem bd1 (x : Int) (w : World) (h0 : 0 ≤ x) (h1 : x < 18446744073709551616) : (Instr.build 25 [(0, .int .u64 x)].toArray).run Try.prog w = .ok (NV x) w := by
  rw [NV_small h0 h1]; kernel_rfl
theorem pow_mod (n m : Int) (k : Nat) : (n % m) ^ k % m = n ^ k % m := by
  induction k with
  | zero => rw [Int.pow_zero, Int.pow_zero]
  | succ k ih => rw [Int.pow_succ, Int.pow_succ, Int.mul_emod, ih, Int.emod_emod, ← Int.mul_emod]
theorem mul_pow' (a b : Int) (k : Nat) : (a * b) ^ k = a ^ k * b ^ k := by
  induction k with
  | zero => rw [Int.pow_zero, Int.pow_zero, Int.pow_zero, Int.one_mul]
  | succ k ih => rw [Int.pow_succ, Int.pow_succ, Int.pow_succ, ih]; grind
theorem exps (a m : Int) (i j : Nat) : a ^ i % m * (a ^ j % m) % m = a ^ (i + j) % m := by rw [← Int.mul_emod, Int.pow_add]
theorem exps2 (a b m : Int) (i : Nat) : a ^ i % m * (b ^ i % m) % m = (a * b % m) ^ i % m := by rw [← Int.mul_emod, pow_mod, mul_pow']
set_option maxRecDepth 100000 in
set_option maxHeartbeats 4000000 in
theorem modExponents_0 (a b e f m : Int) (w : World) (ha : In a) (hb : In b) (he : W64 e) (hf : W64 f) (hm : In m) (h : m = 0) : Calls Try.prog 10 #[NV a, NV b, .int .u64 e, .int .u64 f, NV m] w fun en w' => en = .returned (.bool true) ∧ Below w.heap.size w w' := by
  have hz : decide (m = 0) = true := by simp [h]
  clear h
  go_enter Try.func10, Try.ntmps10
  go_upto_region 1 with fail
  have HB0 : Below w.heap.size w (((w.alloc (.cells (LN (a) : List Value).toArray 25)).alloc (.cells (LN (b) : List Value).toArray 25)).alloc (.cells (LN (m) : List Value).toArray 25)) := (balloc (balloc (balloc (bself w) _) _) _)
  have K0p0 : CV (((w.alloc (.cells (LN (a) : List Value).toArray 25)).alloc (.cells (LN (b) : List Value).toArray 25)).alloc (.cells (LN (m) : List Value).toArray 25)) (w.heap.size) (LN (a)) := (((CV.new w (LN (a)) 25).alloc (by simp <;> omega) _).alloc (by simp <;> omega) _)
  have l0p0 : w.heap.size < (((w.alloc (.cells (LN (a) : List Value).toArray 25)).alloc (.cells (LN (b) : List Value).toArray 25)).alloc (.cells (LN (m) : List Value).toArray 25)).heap.size := by simp <;> omega
  have K0p1 : CV (((w.alloc (.cells (LN (a) : List Value).toArray 25)).alloc (.cells (LN (b) : List Value).toArray 25)).alloc (.cells (LN (m) : List Value).toArray 25)) (w.heap.size + 1) (LN (b)) := ((CV.newAt (w.alloc (.cells (LN (a) : List Value).toArray 25)) (LN (b)) 25 _ (by simp)).alloc (by simp <;> omega) _)
  have l0p1 : w.heap.size + 1 < (((w.alloc (.cells (LN (a) : List Value).toArray 25)).alloc (.cells (LN (b) : List Value).toArray 25)).alloc (.cells (LN (m) : List Value).toArray 25)).heap.size := by simp <;> omega
  have K0p4 : CV (((w.alloc (.cells (LN (a) : List Value).toArray 25)).alloc (.cells (LN (b) : List Value).toArray 25)).alloc (.cells (LN (m) : List Value).toArray 25)) (w.heap.size + 1 + 1) (LN (m)) := (CV.newAt ((w.alloc (.cells (LN (a) : List Value).toArray 25)).alloc (.cells (LN (b) : List Value).toArray 25)) (LN (m)) 25 _ (by simp))
  have l0p4 : w.heap.size + 1 + 1 < (((w.alloc (.cells (LN (a) : List Value).toArray 25)).alloc (.cells (LN (b) : List Value).toArray 25)).alloc (.cells (LN (m) : List Value).toArray 25)).heap.size := by simp <;> omega
  generalize (((w.alloc (.cells (LN (a) : List Value).toArray 25)).alloc (.cells (LN (b) : List Value).toArray 25)).alloc (.cells (LN (m) : List Value).toArray 25)) = v0 at *
  refine region_plain [27, 28] (fun fZ tZ uZ => MR w.heap.size w (v0.heap.size) [(w.heap.size, LN (a)), (w.heap.size + 1, LN (b)), (w.heap.size + 1 + 1, LN (m))] [] [] uZ ∧ Gs fZ tZ [(0, 27, .bool true), (1, 28, .bool false)] ∧ Os fZ [] ∧ Ns fZ tZ []) (by kernel_rfl) ?_ ?_ ?_
  · exact ⟨{ bel := HB0, lo := HB0.size, sz := Nat.le_refl _, ks := ⟨⟨l0p0, K0p0⟩, ⟨l0p1, K0p1⟩, ⟨l0p4, K0p4⟩, trivial⟩, ex := trivial, nw := trivial, nd := trivial }, Gs.none _ _, Os.none _, trivial⟩
  · rintro fZ tZ uZ iZ oZ aZ hF ⟨hM, hG, hO, hN⟩ ho hfi hdep
    have hS : [27, 28].Nodup := by decide
    have hV := hF.evs (N := 107) (by decide) rfl (by decide)
    have il : iZ < 2 := (Array.getElem?_eq_some_iff.1 ho).1
    have ix : iZ = 0 ∨ iZ = 1 := by omega
    rcases ix with rfl | rfl
    · cases ho
      exact t_call (vs := []) (by show [] = _; rfl) ent_seneschallaw02_works (works2 uZ) hF hS rfl rfl rfl rfl (by decide) (fun _ hB => ⟨hM.call hB, Gs.stepA hG rfl rfl, trivial, Ns.step hN rfl⟩)
    · cases ho
      refine op_plain rfl rfl (fun K hK => ?_)
      have e27 := hG.1 (hdep ⟨0, .data⟩ (by simp) rfl)
      refine wp_un rfl ((hV 27 (by decide)).trans e27) (rfl) ?_
      exact tell hK hF hS (by decide) ⟨hM, Gs.stepA hG rfl rfl, trivial, Ns.step hN rfl⟩
  rintro fZ tZ u1 ⟨hM, hG, hO, hN⟩ hall
  have e27 : tZ 27 = _ := hG.1 (hall 0 (by decide))
  have e28 : tZ 28 = _ := hG.2.1 (hall 1 (by decide))
  have HB1 : Below w.heap.size w u1 := hM.bel
  have sz1 : v0.heap.size ≤ u1.heap.size := hM.sz
  have K1p0 : CV u1 (w.heap.size) (LN (a)) := hM.ks.1.2
  have l1p0 : w.heap.size < u1.heap.size := Nat.lt_of_lt_of_le hM.ks.1.1 hM.sz
  have K1p1 : CV u1 (w.heap.size + 1) (LN (b)) := hM.ks.2.1.2
  have l1p1 : w.heap.size + 1 < u1.heap.size := Nat.lt_of_lt_of_le hM.ks.2.1.1 hM.sz
  have K1p4 : CV u1 (w.heap.size + 1 + 1) (LN (m)) := hM.ks.2.2.1.2
  have l1p4 : w.heap.size + 1 + 1 < u1.heap.size := Nat.lt_of_lt_of_le hM.ks.2.2.1.1 hM.sz
  simp only [ovr, List.set_cons_zero, List.set_cons_succ, e27, e28]
  clear hM hG hO hN hall e27 e28 K0p0 K0p1 K0p4 HB0
  clear tZ
  go_upto_region 3 with fail
  refine region_plain [29, 30, 31] (fun fZ tZ uZ => MR w.heap.size w (u1.heap.size) [(w.heap.size, LN (a)), (w.heap.size + 1, LN (b)), (w.heap.size + 1 + 1, LN (m))] [] [] uZ ∧ Gs fZ tZ [(0, 29, NV (m)), (1, 30, A4 (0) (0) (0) (0)), (2, 31, .bool true)] ∧ Os fZ [] ∧ Ns fZ tZ []) (by kernel_rfl) ?_ ?_ ?_
  · exact ⟨{ bel := HB1, lo := HB1.size, sz := Nat.le_refl _, ks := ⟨⟨l1p0, K1p0⟩, ⟨l1p1, K1p1⟩, ⟨l1p4, K1p4⟩, trivial⟩, ex := trivial, nw := trivial, nd := trivial }, Gs.none _ _, Os.none _, trivial⟩
  · rintro fZ tZ uZ iZ oZ aZ hF ⟨hM, hG, hO, hN⟩ ho hfi hdep
    have hS : [29, 30, 31].Nodup := by decide
    have hV := hF.evs (N := 107) (by decide) rfl (by decide)
    have il : iZ < 3 := (Array.getElem?_eq_some_iff.1 ho).1
    have ix : iZ = 0 ∨ iZ = 1 ∨ iZ = 2 := by omega
    rcases ix with rfl | rfl | rfl
    · cases ho
      exact t_load (show aZ.eval (.tmp 9) = .pointer (some ⟨w.heap.size + 1 + 1, 0, none⟩) from (hF.out 9 (by decide)).trans rfl) hM.ks.2.2.1.2 Try.underlying25 info_api_Nat hF hS rfl rfl rfl rfl rfl (by decide) ⟨hM, Gs.stepA hG rfl rfl, trivial, Ns.step hN rfl⟩
    · cases ho
      refine op_plain rfl rfl (fun K hK => ?_)
      refine wp_val (v := A4 (0) (0) (0) (0)) (w' := uZ) (by kernel_rfl) ?_
      exact tell hK hF hS (by decide) ⟨hM, Gs.stepA hG rfl rfl, trivial, Ns.step hN rfl⟩
    · cases ho
      refine op_plain rfl rfl (fun K hK => ?_)
      have e29 := hG.1 (hdep ⟨0, .data⟩ (by simp) rfl)
      have e30 := hG.2.1 (hdep ⟨1, .data⟩ (by simp) rfl)
      refine wp_bin rfl ((hV 29 (by decide)).trans e29) ((hV 30 (by decide)).trans e30) (eql_0 _ _ hm _ hz uZ) ?_
      exact tell hK hF hS (by decide) ⟨hM, Gs.stepA hG rfl rfl, trivial, Ns.step hN rfl⟩
  rintro fZ tZ u2 ⟨hM, hG, hO, hN⟩ hall
  have e29 : tZ 29 = _ := hG.1 (hall 0 (by decide))
  have e30 : tZ 30 = _ := hG.2.1 (hall 1 (by decide))
  have e31 : tZ 31 = _ := hG.2.2.1 (hall 2 (by decide))
  have HB2 : Below w.heap.size w u2 := hM.bel
  have sz2 : u1.heap.size ≤ u2.heap.size := hM.sz
  have K2p0 : CV u2 (w.heap.size) (LN (a)) := hM.ks.1.2
  have l2p0 : w.heap.size < u2.heap.size := Nat.lt_of_lt_of_le hM.ks.1.1 hM.sz
  have K2p1 : CV u2 (w.heap.size + 1) (LN (b)) := hM.ks.2.1.2
  have l2p1 : w.heap.size + 1 < u2.heap.size := Nat.lt_of_lt_of_le hM.ks.2.1.1 hM.sz
  have K2p4 : CV u2 (w.heap.size + 1 + 1) (LN (m)) := hM.ks.2.2.1.2
  have l2p4 : w.heap.size + 1 + 1 < u2.heap.size := Nat.lt_of_lt_of_le hM.ks.2.2.1.1 hM.sz
  simp only [ovr, List.set_cons_zero, List.set_cons_succ, e29, e30, e31]
  clear hM hG hO hN hall e29 e30 e31 K1p0 K1p1 K1p4 HB1
  clear tZ
  go_upto_region 4 with fail
  refine region_plain [10] (fun fZ tZ uZ => MR w.heap.size w (u2.heap.size) [(w.heap.size, LN (a)), (w.heap.size + 1, LN (b)), (w.heap.size + 1 + 1, LN (m))] [] [] uZ ∧ Gs fZ tZ [(0, 10, (Go.Value.bool Bool.true))] ∧ Os fZ [] ∧ Ns fZ tZ []) (by kernel_rfl) ?_ ?_ ?_
  · exact ⟨{ bel := HB2, lo := HB2.size, sz := Nat.le_refl _, ks := ⟨⟨l2p0, K2p0⟩, ⟨l2p1, K2p1⟩, ⟨l2p4, K2p4⟩, trivial⟩, ex := trivial, nw := trivial, nd := trivial }, Gs.none _ _, Os.none _, trivial⟩
  · rintro fZ tZ uZ iZ oZ aZ hF ⟨hM, hG, hO, hN⟩ ho hfi hdep
    have hS : [10].Nodup := by decide
    have hV := hF.evs (N := 107) (by decide) rfl (by decide)
    have il : iZ < 1 := (Array.getElem?_eq_some_iff.1 ho).1
    have ix : iZ = 0 := by omega
    subst ix
    · cases ho
      exact t_assign rfl hF hS rfl rfl rfl rfl (by decide) ⟨hM, Gs.stepA hG rfl rfl, trivial, Ns.step hN rfl⟩
  rintro fZ tZ u3 ⟨hM, hG, hO, hN⟩ hall
  have e10 : tZ 10 = _ := hG.1 (hall 0 (by decide))
  have HB3 : Below w.heap.size w u3 := hM.bel
  have sz3 : u2.heap.size ≤ u3.heap.size := hM.sz
  have K3p0 : CV u3 (w.heap.size) (LN (a)) := hM.ks.1.2
  have l3p0 : w.heap.size < u3.heap.size := Nat.lt_of_lt_of_le hM.ks.1.1 hM.sz
  have K3p1 : CV u3 (w.heap.size + 1) (LN (b)) := hM.ks.2.1.2
  have l3p1 : w.heap.size + 1 < u3.heap.size := Nat.lt_of_lt_of_le hM.ks.2.1.1 hM.sz
  have K3p4 : CV u3 (w.heap.size + 1 + 1) (LN (m)) := hM.ks.2.2.1.2
  have l3p4 : w.heap.size + 1 + 1 < u3.heap.size := Nat.lt_of_lt_of_le hM.ks.2.2.1.1 hM.sz
  simp only [ovr, List.set_cons_zero, List.set_cons_succ, e10]
  clear hM hG hO hN hall e10 K2p0 K2p1 K2p4 HB2
  clear tZ
  go_wp2
  refine bodyPost_ret (v := .bool true) (by simp [results, Try.results10, go_sem, ]) rfl ⟨rfl, HB3⟩
set_option maxRecDepth 100000 in
set_option maxHeartbeats 4000000 in
theorem modExponents_1 (a b e f m : Int) (w : World) (ha : In a) (hb : In b) (he : W64 e) (hf : W64 f) (hm : In m) (h : m ≠ 0) : Calls Try.prog 10 #[NV a, NV b, .int .u64 e, .int .u64 f, NV m] w fun en w' => en = .returned (.bool true) ∧ Below w.heap.size w w' := by
  have hz : decide (m = 0) = false := by simp [h]
  have e1 := he.1; have e2 := he.2; have f1 := hf.1; have f2 := hf.2
  have H1 : Hid ((a ^ (e / 2).toNat % m) * (a ^ (f / 2).toNat % m) % m = a ^ (e / 2 + f / 2).toNat % m) := by
    show _ = _
    rw [exps, ← Int.toNat_add (by omega) (by omega)]
  have H2 : Hid ((a ^ (e / 2).toNat % m) * (b ^ (e / 2).toNat % m) % m = ((a) * (b) % m) ^ (e / 2).toNat % m) := exps2 a b m _
  go_enter Try.func10, Try.ntmps10
  go_upto_region 1 with fail
  have HB0 : Below w.heap.size w (((w.alloc (.cells (LN (a) : List Value).toArray 25)).alloc (.cells (LN (b) : List Value).toArray 25)).alloc (.cells (LN (m) : List Value).toArray 25)) := (balloc (balloc (balloc (bself w) _) _) _)
  have K0p0 : CV (((w.alloc (.cells (LN (a) : List Value).toArray 25)).alloc (.cells (LN (b) : List Value).toArray 25)).alloc (.cells (LN (m) : List Value).toArray 25)) (w.heap.size) (LN (a)) := (((CV.new w (LN (a)) 25).alloc (by simp <;> omega) _).alloc (by simp <;> omega) _)
  have l0p0 : w.heap.size < (((w.alloc (.cells (LN (a) : List Value).toArray 25)).alloc (.cells (LN (b) : List Value).toArray 25)).alloc (.cells (LN (m) : List Value).toArray 25)).heap.size := by simp <;> omega
  have K0p1 : CV (((w.alloc (.cells (LN (a) : List Value).toArray 25)).alloc (.cells (LN (b) : List Value).toArray 25)).alloc (.cells (LN (m) : List Value).toArray 25)) (w.heap.size + 1) (LN (b)) := ((CV.newAt (w.alloc (.cells (LN (a) : List Value).toArray 25)) (LN (b)) 25 _ (by simp)).alloc (by simp <;> omega) _)
  have l0p1 : w.heap.size + 1 < (((w.alloc (.cells (LN (a) : List Value).toArray 25)).alloc (.cells (LN (b) : List Value).toArray 25)).alloc (.cells (LN (m) : List Value).toArray 25)).heap.size := by simp <;> omega
  have K0p4 : CV (((w.alloc (.cells (LN (a) : List Value).toArray 25)).alloc (.cells (LN (b) : List Value).toArray 25)).alloc (.cells (LN (m) : List Value).toArray 25)) (w.heap.size + 1 + 1) (LN (m)) := (CV.newAt ((w.alloc (.cells (LN (a) : List Value).toArray 25)).alloc (.cells (LN (b) : List Value).toArray 25)) (LN (m)) 25 _ (by simp))
  have l0p4 : w.heap.size + 1 + 1 < (((w.alloc (.cells (LN (a) : List Value).toArray 25)).alloc (.cells (LN (b) : List Value).toArray 25)).alloc (.cells (LN (m) : List Value).toArray 25)).heap.size := by simp <;> omega
  generalize (((w.alloc (.cells (LN (a) : List Value).toArray 25)).alloc (.cells (LN (b) : List Value).toArray 25)).alloc (.cells (LN (m) : List Value).toArray 25)) = v0 at *
  refine region_plain [27, 28] (fun fZ tZ uZ => MR w.heap.size w (v0.heap.size) [(w.heap.size, LN (a)), (w.heap.size + 1, LN (b)), (w.heap.size + 1 + 1, LN (m))] [] [] uZ ∧ Gs fZ tZ [(0, 27, .bool true), (1, 28, .bool false)] ∧ Os fZ [] ∧ Ns fZ tZ []) (by kernel_rfl) ?_ ?_ ?_
  · exact ⟨{ bel := HB0, lo := HB0.size, sz := Nat.le_refl _, ks := ⟨⟨l0p0, K0p0⟩, ⟨l0p1, K0p1⟩, ⟨l0p4, K0p4⟩, trivial⟩, ex := trivial, nw := trivial, nd := trivial }, Gs.none _ _, Os.none _, trivial⟩
  · rintro fZ tZ uZ iZ oZ aZ hF ⟨hM, hG, hO, hN⟩ ho hfi hdep
    have hS : [27, 28].Nodup := by decide
    have hV := hF.evs (N := 107) (by decide) rfl (by decide)
    have il : iZ < 2 := (Array.getElem?_eq_some_iff.1 ho).1
    have ix : iZ = 0 ∨ iZ = 1 := by omega
    rcases ix with rfl | rfl
    · cases ho
      exact t_call (vs := []) (by show [] = _; rfl) ent_seneschallaw02_works (works2 uZ) hF hS rfl rfl rfl rfl (by decide) (fun _ hB => ⟨hM.call hB, Gs.stepA hG rfl rfl, trivial, Ns.step hN rfl⟩)
    · cases ho
      refine op_plain rfl rfl (fun K hK => ?_)
      have e27 := hG.1 (hdep ⟨0, .data⟩ (by simp) rfl)
      refine wp_un rfl ((hV 27 (by decide)).trans e27) (rfl) ?_
      exact tell hK hF hS (by decide) ⟨hM, Gs.stepA hG rfl rfl, trivial, Ns.step hN rfl⟩
  rintro fZ tZ u1 ⟨hM, hG, hO, hN⟩ hall
  have e27 : tZ 27 = _ := hG.1 (hall 0 (by decide))
  have e28 : tZ 28 = _ := hG.2.1 (hall 1 (by decide))
  have HB1 : Below w.heap.size w u1 := hM.bel
  have sz1 : v0.heap.size ≤ u1.heap.size := hM.sz
  have K1p0 : CV u1 (w.heap.size) (LN (a)) := hM.ks.1.2
  have l1p0 : w.heap.size < u1.heap.size := Nat.lt_of_lt_of_le hM.ks.1.1 hM.sz
  have K1p1 : CV u1 (w.heap.size + 1) (LN (b)) := hM.ks.2.1.2
  have l1p1 : w.heap.size + 1 < u1.heap.size := Nat.lt_of_lt_of_le hM.ks.2.1.1 hM.sz
  have K1p4 : CV u1 (w.heap.size + 1 + 1) (LN (m)) := hM.ks.2.2.1.2
  have l1p4 : w.heap.size + 1 + 1 < u1.heap.size := Nat.lt_of_lt_of_le hM.ks.2.2.1.1 hM.sz
  simp only [ovr, List.set_cons_zero, List.set_cons_succ, e27, e28]
  clear hM hG hO hN hall e27 e28 K0p0 K0p1 K0p4 HB0
  clear tZ
  go_upto_region 3 with fail
  refine region_plain [29, 30, 31] (fun fZ tZ uZ => MR w.heap.size w (u1.heap.size) [(w.heap.size, LN (a)), (w.heap.size + 1, LN (b)), (w.heap.size + 1 + 1, LN (m))] [] [] uZ ∧ Gs fZ tZ [(0, 29, NV (m)), (1, 30, A4 (0) (0) (0) (0)), (2, 31, .bool false)] ∧ Os fZ [] ∧ Ns fZ tZ []) (by kernel_rfl) ?_ ?_ ?_
  · exact ⟨{ bel := HB1, lo := HB1.size, sz := Nat.le_refl _, ks := ⟨⟨l1p0, K1p0⟩, ⟨l1p1, K1p1⟩, ⟨l1p4, K1p4⟩, trivial⟩, ex := trivial, nw := trivial, nd := trivial }, Gs.none _ _, Os.none _, trivial⟩
  · rintro fZ tZ uZ iZ oZ aZ hF ⟨hM, hG, hO, hN⟩ ho hfi hdep
    have hS : [29, 30, 31].Nodup := by decide
    have hV := hF.evs (N := 107) (by decide) rfl (by decide)
    have il : iZ < 3 := (Array.getElem?_eq_some_iff.1 ho).1
    have ix : iZ = 0 ∨ iZ = 1 ∨ iZ = 2 := by omega
    rcases ix with rfl | rfl | rfl
    · cases ho
      exact t_load (show aZ.eval (.tmp 9) = .pointer (some ⟨w.heap.size + 1 + 1, 0, none⟩) from (hF.out 9 (by decide)).trans rfl) hM.ks.2.2.1.2 Try.underlying25 info_api_Nat hF hS rfl rfl rfl rfl rfl (by decide) ⟨hM, Gs.stepA hG rfl rfl, trivial, Ns.step hN rfl⟩
    · cases ho
      refine op_plain rfl rfl (fun K hK => ?_)
      refine wp_val (v := A4 (0) (0) (0) (0)) (w' := uZ) (by kernel_rfl) ?_
      exact tell hK hF hS (by decide) ⟨hM, Gs.stepA hG rfl rfl, trivial, Ns.step hN rfl⟩
    · cases ho
      refine op_plain rfl rfl (fun K hK => ?_)
      have e29 := hG.1 (hdep ⟨0, .data⟩ (by simp) rfl)
      have e30 := hG.2.1 (hdep ⟨1, .data⟩ (by simp) rfl)
      refine wp_bin rfl ((hV 29 (by decide)).trans e29) ((hV 30 (by decide)).trans e30) (eql_0 _ _ hm _ hz uZ) ?_
      exact tell hK hF hS (by decide) ⟨hM, Gs.stepA hG rfl rfl, trivial, Ns.step hN rfl⟩
  rintro fZ tZ u2 ⟨hM, hG, hO, hN⟩ hall
  have e29 : tZ 29 = _ := hG.1 (hall 0 (by decide))
  have e30 : tZ 30 = _ := hG.2.1 (hall 1 (by decide))
  have e31 : tZ 31 = _ := hG.2.2.1 (hall 2 (by decide))
  have HB2 : Below w.heap.size w u2 := hM.bel
  have sz2 : u1.heap.size ≤ u2.heap.size := hM.sz
  have K2p0 : CV u2 (w.heap.size) (LN (a)) := hM.ks.1.2
  have l2p0 : w.heap.size < u2.heap.size := Nat.lt_of_lt_of_le hM.ks.1.1 hM.sz
  have K2p1 : CV u2 (w.heap.size + 1) (LN (b)) := hM.ks.2.1.2
  have l2p1 : w.heap.size + 1 < u2.heap.size := Nat.lt_of_lt_of_le hM.ks.2.1.1 hM.sz
  have K2p4 : CV u2 (w.heap.size + 1 + 1) (LN (m)) := hM.ks.2.2.1.2
  have l2p4 : w.heap.size + 1 + 1 < u2.heap.size := Nat.lt_of_lt_of_le hM.ks.2.2.1.1 hM.sz
  simp only [ovr, List.set_cons_zero, List.set_cons_succ, e29, e30, e31]
  clear hM hG hO hN hall e29 e30 e31 K1p0 K1p1 K1p4 HB1
  clear tZ
  go_upto_region 5 with fail
  refine region_plain [32, 33, 34, 35, 2, 3] (fun fZ tZ uZ => MR w.heap.size w (u2.heap.size) [(w.heap.size, LN (a)), (w.heap.size + 1, LN (b)), (w.heap.size + 1 + 1, LN (m))] [] [] uZ ∧ Gs fZ tZ [(0, 32, .int .u64 e), (1, 33, .int .u64 (e / 2)), (2, 34, .int .u64 f), (3, 35, .int .u64 (f / 2)), (4, 2, .int .u64 (e / 2)), (5, 3, .int .u64 (f / 2))] ∧ Os fZ [(4, 0), (5, 2)] ∧ Ns fZ tZ [(4, 2, .int .u64 e), (5, 3, .int .u64 f)]) (by kernel_rfl) ?_ ?_ ?_
  · exact ⟨{ bel := HB2, lo := HB2.size, sz := Nat.le_refl _, ks := ⟨⟨l2p0, K2p0⟩, ⟨l2p1, K2p1⟩, ⟨l2p4, K2p4⟩, trivial⟩, ex := trivial, nw := trivial, nd := trivial }, Gs.none _ _, Os.none _, ⟨fun _ => rfl, fun _ => rfl, trivial⟩⟩
  · rintro fZ tZ uZ iZ oZ aZ hF ⟨hM, hG, hO, hN⟩ ho hfi hdep
    have hS : [32, 33, 34, 35, 2, 3].Nodup := by decide
    have hV := hF.evs (N := 107) (by decide) rfl (by decide)
    have il : iZ < 6 := (Array.getElem?_eq_some_iff.1 ho).1
    have ix : iZ = 0 ∨ iZ = 1 ∨ iZ = 2 ∨ iZ = 3 ∨ iZ = 4 ∨ iZ = 5 := by omega
    rcases ix with rfl | rfl | rfl | rfl | rfl | rfl
    · cases ho
      have yi2 : fZ 4 = false := Os.not (hO.1) hfi
      have ei2 : tZ 2 = .int .u64 e := hN.1 yi2
      exact t_move ((hV 2 (by decide)).trans ei2) hF hS rfl rfl rfl rfl (by decide) ⟨hM, Gs.stepA hG rfl rfl, hO.keep rfl, Ns.step hN rfl⟩
    · cases ho
      refine op_plain rfl rfl (fun K hK => ?_)
      have e32 := hG.1 (hdep ⟨0, .data⟩ (by simp) rfl)
      refine wp_bin rfl ((hV 32 (by decide)).trans e32) rfl (shr1 _ _ _ e uZ he) ?_
      exact tell hK hF hS (by decide) ⟨hM, Gs.stepA hG rfl rfl, hO.keep rfl, Ns.step hN rfl⟩
    · cases ho
      have yi3 : fZ 5 = false := Os.not (hO.2.1) hfi
      have ei3 : tZ 3 = .int .u64 f := hN.2.1 yi3
      exact t_move ((hV 3 (by decide)).trans ei3) hF hS rfl rfl rfl rfl (by decide) ⟨hM, Gs.stepA hG rfl rfl, hO.keep rfl, Ns.step hN rfl⟩
    · cases ho
      refine op_plain rfl rfl (fun K hK => ?_)
      have e34 := hG.2.2.1 (hdep ⟨2, .data⟩ (by simp) rfl)
      refine wp_bin rfl ((hV 34 (by decide)).trans e34) rfl (shr1 _ _ _ f uZ hf) ?_
      exact tell hK hF hS (by decide) ⟨hM, Gs.stepA hG rfl rfl, hO.keep rfl, Ns.step hN rfl⟩
    · cases ho
      have e33 := hG.2.1 (hdep ⟨1, .data⟩ (by simp) rfl)
      exact t_assign ((hV 33 (by decide)).trans e33) hF hS rfl rfl rfl rfl (by decide) ⟨hM, Gs.stepA hG rfl rfl, ⟨fun _ => hdep ⟨0, .phase⟩ (by simp) rfl, hO.2.1, trivial⟩, Ns.step hN rfl⟩
    · cases ho
      have e35 := hG.2.2.2.1 (hdep ⟨3, .data⟩ (by simp) rfl)
      exact t_assign ((hV 35 (by decide)).trans e35) hF hS rfl rfl rfl rfl (by decide) ⟨hM, Gs.stepA hG rfl rfl, ⟨hO.1, fun _ => hdep ⟨2, .phase⟩ (by simp) rfl, trivial⟩, Ns.step hN rfl⟩
  rintro fZ tZ u3 ⟨hM, hG, hO, hN⟩ hall
  have e32 : tZ 32 = _ := hG.1 (hall 0 (by decide))
  have e33 : tZ 33 = _ := hG.2.1 (hall 1 (by decide))
  have e34 : tZ 34 = _ := hG.2.2.1 (hall 2 (by decide))
  have e35 : tZ 35 = _ := hG.2.2.2.1 (hall 3 (by decide))
  have e2 : tZ 2 = _ := hG.2.2.2.2.1 (hall 4 (by decide))
  have e3 : tZ 3 = _ := hG.2.2.2.2.2.1 (hall 5 (by decide))
  have HB3 : Below w.heap.size w u3 := hM.bel
  have sz3 : u2.heap.size ≤ u3.heap.size := hM.sz
  have K3p0 : CV u3 (w.heap.size) (LN (a)) := hM.ks.1.2
  have l3p0 : w.heap.size < u3.heap.size := Nat.lt_of_lt_of_le hM.ks.1.1 hM.sz
  have K3p1 : CV u3 (w.heap.size + 1) (LN (b)) := hM.ks.2.1.2
  have l3p1 : w.heap.size + 1 < u3.heap.size := Nat.lt_of_lt_of_le hM.ks.2.1.1 hM.sz
  have K3p4 : CV u3 (w.heap.size + 1 + 1) (LN (m)) := hM.ks.2.2.1.2
  have l3p4 : w.heap.size + 1 + 1 < u3.heap.size := Nat.lt_of_lt_of_le hM.ks.2.2.1.1 hM.sz
  simp only [ovr, List.set_cons_zero, List.set_cons_succ, e32, e33, e34, e35, e2, e3]
  clear hM hG hO hN hall e32 e33 e34 e35 e2 e3 K2p0 K2p1 K2p4 HB2
  clear tZ
  go_upto_region 6 with fail
  refine region_plain [37, 38, 39, 40, 41, 36, 42, 43, 11, 12] (fun fZ tZ uZ => MR w.heap.size w (u3.heap.size) [(w.heap.size, LN (a)), (w.heap.size + 1, LN (b)), (w.heap.size + 1 + 1, LN (m))] [] [(fZ 8, fZ 9, tZ 11, L0s, LN (a ^ (e / 2).toNat % m))] uZ ∧ Gs fZ tZ [(0, 37, NV (a)), (1, 38, .int .u64 (e / 2)), (2, 39, NV ((e / 2))), (3, 40, NV (m)), (4, 41, .tuple #[NV (a ^ (e / 2).toNat % m), .int .i64 0]), (5, 36, .tuple #[NV (a ^ (e / 2).toNat % m), .int .i64 0]), (6, 42, NV (a ^ (e / 2).toNat % m)), (7, 43, .int .i64 0), (10, 12, .int .i64 0)] ∧ Os fZ [(9, 8)] ∧ Ns fZ tZ []) (by kernel_rfl) ?_ ?_ ?_
  · exact ⟨{ bel := HB3, lo := HB3.size, sz := Nat.le_refl _, ks := ⟨⟨l3p0, K3p0⟩, ⟨l3p1, K3p1⟩, ⟨l3p4, K3p4⟩, trivial⟩, ex := trivial, nw := ⟨fun e => (by cases e), trivial⟩, nd := ⟨fun e => (by cases e), trivial⟩ }, Gs.none _ _, Os.none _, trivial⟩
  · rintro fZ tZ uZ iZ oZ aZ hF ⟨hM, hG, hO, hN⟩ ho hfi hdep
    have hS : [37, 38, 39, 40, 41, 36, 42, 43, 11, 12].Nodup := by decide
    have hV := hF.evs (N := 107) (by decide) rfl (by decide)
    have il : iZ < 11 := (Array.getElem?_eq_some_iff.1 ho).1
    have ix : iZ = 0 ∨ iZ = 1 ∨ iZ = 2 ∨ iZ = 3 ∨ iZ = 4 ∨ iZ = 5 ∨ iZ = 6 ∨ iZ = 7 ∨ iZ = 8 ∨ iZ = 9 ∨ iZ = 10 := by omega
    rcases ix with rfl | rfl | rfl | rfl | rfl | rfl | rfl | rfl | rfl | rfl | rfl
    · cases ho
      exact t_load (show aZ.eval (.tmp 5) = .pointer (some ⟨w.heap.size, 0, none⟩) from (hF.out 5 (by decide)).trans rfl) hM.ks.1.2 Try.underlying25 info_api_Nat hF hS rfl rfl rfl rfl rfl (by decide) ⟨hM, Gs.stepA hG rfl rfl, hO.keep rfl, Ns.step hN rfl⟩
    · cases ho
      exact t_move (show aZ.eval (.tmp 2) = .int .u64 (e / 2) from (hF.out 2 (by decide)).trans rfl) hF hS rfl rfl rfl rfl (by decide) ⟨hM, Gs.stepA hG rfl rfl, hO.keep rfl, Ns.step hN rfl⟩
    · cases ho
      refine op_plain rfl rfl (fun K hK => ?_)
      have e38 := hG.2.1 (hdep ⟨1, .data⟩ (by simp) rfl)
      refine wp_build rfl (vps := [(0, .int .u64 (e / 2))]) (by show [(0, aZ.eval (.tmp 38))] = _; rw [((hV 38 (by decide)).trans e38)]) (bd1 (e / 2) uZ (by omega) (by omega)) ?_
      exact tell hK hF hS (by decide) ⟨hM, Gs.stepA hG rfl rfl, hO.keep rfl, Ns.step hN rfl⟩
    · cases ho
      exact t_load (show aZ.eval (.tmp 9) = .pointer (some ⟨w.heap.size + 1 + 1, 0, none⟩) from (hF.out 9 (by decide)).trans rfl) hM.ks.2.2.1.2 Try.underlying25 info_api_Nat hF hS rfl rfl rfl rfl rfl (by decide) ⟨hM, Gs.stepA hG rfl rfl, hO.keep rfl, Ns.step hN rfl⟩
    · cases ho
      have e37 := hG.1 (hdep ⟨0, .data⟩ (by simp) rfl)
      have e39 := hG.2.2.1 (hdep ⟨2, .data⟩ (by simp) rfl)
      have e40 := hG.2.2.2.1 (hdep ⟨3, .data⟩ (by simp) rfl)
      exact t_call (vs := [NV (a), NV ((e / 2)), NV (m)]) (by show [aZ.eval (.tmp 37), aZ.eval (.tmp 39), aZ.eval (.tmp 40)] = _; rw [((hV 37 (by decide)).trans e37), ((hV 39 (by decide)).trans e39), ((hV 40 (by decide)).trans e40)]) ent_mod_Exp (mExp a (e / 2) m uZ ha (In_k (by omega) (by omega)) hm h) hF hS rfl rfl rfl rfl (by decide) (fun _ hB => ⟨hM.call hB, Gs.stepA hG rfl rfl, hO.keep rfl, Ns.step hN rfl⟩)
    · cases ho
      have e41 := hG.2.2.2.2.1 (hdep ⟨4, .data⟩ (by simp) rfl)
      exact t_move ((hV 41 (by decide)).trans e41) hF hS rfl rfl rfl rfl (by decide) ⟨hM, Gs.stepA hG rfl rfl, hO.keep rfl, Ns.step hN rfl⟩
    · cases ho
      have e36 := hG.2.2.2.2.2.1 (hdep ⟨5, .data⟩ (by simp) rfl)
      exact t_extract ((hV 36 (by decide)).trans e36) hF hS rfl rfl rfl rfl rfl (by decide) ⟨hM, Gs.stepA hG rfl rfl, hO.keep rfl, Ns.step hN rfl⟩
    · cases ho
      have e36 := hG.2.2.2.2.2.1 (hdep ⟨5, .data⟩ (by simp) rfl)
      exact t_extract ((hV 36 (by decide)).trans e36) hF hS rfl rfl rfl rfl rfl (by decide) ⟨hM, Gs.stepA hG rfl rfl, hO.keep rfl, Ns.step hN rfl⟩
    · cases ho
      refine op_plain rfl rfl (fun K hK => ?_)
      refine wp_alloc rfl (al_api_Nat uZ) ?_
      have q1 : fZ 9 = false := Os.not (hO.1) hfi
      exact tell hK hF hS (by decide) ⟨MR.newF 0 hM rfl hfi q1, Gs.other rfl hG, hO.keep rfl, Ns.step hN rfl⟩
    · cases ho
      refine op_plain rfl rfl (fun K hK => ?_)
      have y8 : fZ 8 = true := hdep ⟨8, .data⟩ (by simp) rfl
      obtain ⟨bb, eb, b1, b2, b3⟩ := hM.nw.1 y8
      have eb : tZ 11 = .pointer (some ⟨bb, 0, none⟩) := eb
      have e42 := hG.2.2.2.2.2.2.1 (hdep ⟨6, .data⟩ (by simp) rfl)
      refine wp_store_mid 25 _ _ rfl bb 0 (LN (a ^ (e / 2).toNat % m) : List Value).toArray ((hV 11 (by decide)).trans eb) ((hV 42 (by decide)).trans e42) (by have h2 := b3; simp only [hfi] at h2; exact h2.there) info_api_Nat (all_one rfl) ?_
      exact tell0 hK hF ⟨MR.putF 0 hM rfl y8 eb b1 rfl, Gs.idle rfl hG, ⟨fun _ => hdep ⟨8, .data⟩ (by simp) rfl, trivial⟩, Ns.idle hN⟩
    · cases ho
      have e43 := hG.2.2.2.2.2.2.2.1 (hdep ⟨7, .data⟩ (by simp) rfl)
      exact t_assign ((hV 43 (by decide)).trans e43) hF hS rfl rfl rfl rfl (by decide) ⟨hM, Gs.stepA hG rfl rfl, hO.keep rfl, Ns.step hN rfl⟩
  rintro fZ tZ u4 ⟨hM, hG, hO, hN⟩ hall
  have e37 : tZ 37 = _ := hG.1 (hall 0 (by decide))
  have e38 : tZ 38 = _ := hG.2.1 (hall 1 (by decide))
  have e39 : tZ 39 = _ := hG.2.2.1 (hall 2 (by decide))
  have e40 : tZ 40 = _ := hG.2.2.2.1 (hall 3 (by decide))
  have e41 : tZ 41 = _ := hG.2.2.2.2.1 (hall 4 (by decide))
  have e36 : tZ 36 = _ := hG.2.2.2.2.2.1 (hall 5 (by decide))
  have e42 : tZ 42 = _ := hG.2.2.2.2.2.2.1 (hall 6 (by decide))
  have e43 : tZ 43 = _ := hG.2.2.2.2.2.2.2.1 (hall 7 (by decide))
  have e12 : tZ 12 = _ := hG.2.2.2.2.2.2.2.2.1 (hall 10 (by decide))
  obtain ⟨b4_8, ee11, pb4_8, lb4_8, kb4_8⟩ := hM.nw.1 (hall 8 (by decide))
  have e11 : tZ 11 = .pointer (some ⟨b4_8, 0, none⟩) := ee11
  clear ee11
  have Kb4_8 : CV u4 b4_8 (LN (a ^ (e / 2).toNat % m)) := by
    have h1 : CV u4 b4_8 (bif fZ 9 then LN (a ^ (e / 2).toNat % m) else L0s) := kb4_8
    rw [hall 9 (by decide)] at h1; exact h1
  clear kb4_8
  have HB4 : Below w.heap.size w u4 := hM.bel
  have sz4 : u3.heap.size ≤ u4.heap.size := hM.sz
  have K4p0 : CV u4 (w.heap.size) (LN (a)) := hM.ks.1.2
  have l4p0 : w.heap.size < u4.heap.size := Nat.lt_of_lt_of_le hM.ks.1.1 hM.sz
  have K4p1 : CV u4 (w.heap.size + 1) (LN (b)) := hM.ks.2.1.2
  have l4p1 : w.heap.size + 1 < u4.heap.size := Nat.lt_of_lt_of_le hM.ks.2.1.1 hM.sz
  have K4p4 : CV u4 (w.heap.size + 1 + 1) (LN (m)) := hM.ks.2.2.1.2
  have l4p4 : w.heap.size + 1 + 1 < u4.heap.size := Nat.lt_of_lt_of_le hM.ks.2.2.1.1 hM.sz
  simp only [ovr, List.set_cons_zero, List.set_cons_succ, e37, e38, e39, e40, e41, e36, e42, e43, e12, e11]
  clear hM hG hO hN hall e37 e38 e39 e40 e41 e36 e42 e43 e12 e11 K3p0 K3p1 K3p4 HB3
  clear tZ
  go_upto_region 7 with fail
  refine region_plain [45, 46, 47, 48, 49, 44, 50, 51, 13, 14] (fun fZ tZ uZ => MR w.heap.size w (u4.heap.size) [(w.heap.size, LN (a)), (w.heap.size + 1, LN (b)), (w.heap.size + 1 + 1, LN (m)), (b4_8, LN (a ^ (e / 2).toNat % m))] [] [(fZ 8, fZ 9, tZ 13, L0s, LN (a ^ (f / 2).toNat % m))] uZ ∧ Gs fZ tZ [(0, 45, NV (a)), (1, 46, .int .u64 (f / 2)), (2, 47, NV ((f / 2))), (3, 48, NV (m)), (4, 49, .tuple #[NV (a ^ (f / 2).toNat % m), .int .i64 0]), (5, 44, .tuple #[NV (a ^ (f / 2).toNat % m), .int .i64 0]), (6, 50, NV (a ^ (f / 2).toNat % m)), (7, 51, .int .i64 0), (10, 14, .int .i64 0)] ∧ Os fZ [(9, 8)] ∧ Ns fZ tZ []) (by kernel_rfl) ?_ ?_ ?_
  · exact ⟨{ bel := HB4, lo := HB4.size, sz := Nat.le_refl _, ks := ⟨⟨l4p0, K4p0⟩, ⟨l4p1, K4p1⟩, ⟨l4p4, K4p4⟩, ⟨lb4_8, Kb4_8⟩, trivial⟩, ex := trivial, nw := ⟨fun e => (by cases e), trivial⟩, nd := ⟨fun e => (by cases e), trivial⟩ }, Gs.none _ _, Os.none _, trivial⟩
  · rintro fZ tZ uZ iZ oZ aZ hF ⟨hM, hG, hO, hN⟩ ho hfi hdep
    have hS : [45, 46, 47, 48, 49, 44, 50, 51, 13, 14].Nodup := by decide
    have hV := hF.evs (N := 107) (by decide) rfl (by decide)
    have il : iZ < 11 := (Array.getElem?_eq_some_iff.1 ho).1
    have ix : iZ = 0 ∨ iZ = 1 ∨ iZ = 2 ∨ iZ = 3 ∨ iZ = 4 ∨ iZ = 5 ∨ iZ = 6 ∨ iZ = 7 ∨ iZ = 8 ∨ iZ = 9 ∨ iZ = 10 := by omega
    rcases ix with rfl | rfl | rfl | rfl | rfl | rfl | rfl | rfl | rfl | rfl | rfl
    · cases ho
      exact t_load (show aZ.eval (.tmp 5) = .pointer (some ⟨w.heap.size, 0, none⟩) from (hF.out 5 (by decide)).trans rfl) hM.ks.1.2 Try.underlying25 info_api_Nat hF hS rfl rfl rfl rfl rfl (by decide) ⟨hM, Gs.stepA hG rfl rfl, hO.keep rfl, Ns.step hN rfl⟩
    · cases ho
      exact t_move (show aZ.eval (.tmp 3) = .int .u64 (f / 2) from (hF.out 3 (by decide)).trans rfl) hF hS rfl rfl rfl rfl (by decide) ⟨hM, Gs.stepA hG rfl rfl, hO.keep rfl, Ns.step hN rfl⟩
    · cases ho
      refine op_plain rfl rfl (fun K hK => ?_)
      have e46 := hG.2.1 (hdep ⟨1, .data⟩ (by simp) rfl)
      refine wp_build rfl (vps := [(0, .int .u64 (f / 2))]) (by show [(0, aZ.eval (.tmp 46))] = _; rw [((hV 46 (by decide)).trans e46)]) (bd1 (f / 2) uZ (by omega) (by omega)) ?_
      exact tell hK hF hS (by decide) ⟨hM, Gs.stepA hG rfl rfl, hO.keep rfl, Ns.step hN rfl⟩
    · cases ho
      exact t_load (show aZ.eval (.tmp 9) = .pointer (some ⟨w.heap.size + 1 + 1, 0, none⟩) from (hF.out 9 (by decide)).trans rfl) hM.ks.2.2.1.2 Try.underlying25 info_api_Nat hF hS rfl rfl rfl rfl rfl (by decide) ⟨hM, Gs.stepA hG rfl rfl, hO.keep rfl, Ns.step hN rfl⟩
    · cases ho
      have e45 := hG.1 (hdep ⟨0, .data⟩ (by simp) rfl)
      have e47 := hG.2.2.1 (hdep ⟨2, .data⟩ (by simp) rfl)
      have e48 := hG.2.2.2.1 (hdep ⟨3, .data⟩ (by simp) rfl)
      exact t_call (vs := [NV (a), NV ((f / 2)), NV (m)]) (by show [aZ.eval (.tmp 45), aZ.eval (.tmp 47), aZ.eval (.tmp 48)] = _; rw [((hV 45 (by decide)).trans e45), ((hV 47 (by decide)).trans e47), ((hV 48 (by decide)).trans e48)]) ent_mod_Exp (mExp a (f / 2) m uZ ha (In_k (by omega) (by omega)) hm h) hF hS rfl rfl rfl rfl (by decide) (fun _ hB => ⟨hM.call hB, Gs.stepA hG rfl rfl, hO.keep rfl, Ns.step hN rfl⟩)
    · cases ho
      have e49 := hG.2.2.2.2.1 (hdep ⟨4, .data⟩ (by simp) rfl)
      exact t_move ((hV 49 (by decide)).trans e49) hF hS rfl rfl rfl rfl (by decide) ⟨hM, Gs.stepA hG rfl rfl, hO.keep rfl, Ns.step hN rfl⟩
    · cases ho
      have e44 := hG.2.2.2.2.2.1 (hdep ⟨5, .data⟩ (by simp) rfl)
      exact t_extract ((hV 44 (by decide)).trans e44) hF hS rfl rfl rfl rfl rfl (by decide) ⟨hM, Gs.stepA hG rfl rfl, hO.keep rfl, Ns.step hN rfl⟩
    · cases ho
      have e44 := hG.2.2.2.2.2.1 (hdep ⟨5, .data⟩ (by simp) rfl)
      exact t_extract ((hV 44 (by decide)).trans e44) hF hS rfl rfl rfl rfl rfl (by decide) ⟨hM, Gs.stepA hG rfl rfl, hO.keep rfl, Ns.step hN rfl⟩
    · cases ho
      refine op_plain rfl rfl (fun K hK => ?_)
      refine wp_alloc rfl (al_api_Nat uZ) ?_
      have q1 : fZ 9 = false := Os.not (hO.1) hfi
      exact tell hK hF hS (by decide) ⟨MR.newF 0 hM rfl hfi q1, Gs.other rfl hG, hO.keep rfl, Ns.step hN rfl⟩
    · cases ho
      refine op_plain rfl rfl (fun K hK => ?_)
      have y8 : fZ 8 = true := hdep ⟨8, .data⟩ (by simp) rfl
      obtain ⟨bb, eb, b1, b2, b3⟩ := hM.nw.1 y8
      have eb : tZ 13 = .pointer (some ⟨bb, 0, none⟩) := eb
      have e50 := hG.2.2.2.2.2.2.1 (hdep ⟨6, .data⟩ (by simp) rfl)
      refine wp_store_mid 25 _ _ rfl bb 0 (LN (a ^ (f / 2).toNat % m) : List Value).toArray ((hV 13 (by decide)).trans eb) ((hV 50 (by decide)).trans e50) (by have h2 := b3; simp only [hfi] at h2; exact h2.there) info_api_Nat (all_one rfl) ?_
      exact tell0 hK hF ⟨MR.putF 0 hM rfl y8 eb b1 rfl, Gs.idle rfl hG, ⟨fun _ => hdep ⟨8, .data⟩ (by simp) rfl, trivial⟩, Ns.idle hN⟩
    · cases ho
      have e51 := hG.2.2.2.2.2.2.2.1 (hdep ⟨7, .data⟩ (by simp) rfl)
      exact t_assign ((hV 51 (by decide)).trans e51) hF hS rfl rfl rfl rfl (by decide) ⟨hM, Gs.stepA hG rfl rfl, hO.keep rfl, Ns.step hN rfl⟩
  rintro fZ tZ u5 ⟨hM, hG, hO, hN⟩ hall
  have e45 : tZ 45 = _ := hG.1 (hall 0 (by decide))
  have e46 : tZ 46 = _ := hG.2.1 (hall 1 (by decide))
  have e47 : tZ 47 = _ := hG.2.2.1 (hall 2 (by decide))
  have e48 : tZ 48 = _ := hG.2.2.2.1 (hall 3 (by decide))
  have e49 : tZ 49 = _ := hG.2.2.2.2.1 (hall 4 (by decide))
  have e44 : tZ 44 = _ := hG.2.2.2.2.2.1 (hall 5 (by decide))
  have e50 : tZ 50 = _ := hG.2.2.2.2.2.2.1 (hall 6 (by decide))
  have e51 : tZ 51 = _ := hG.2.2.2.2.2.2.2.1 (hall 7 (by decide))
  have e14 : tZ 14 = _ := hG.2.2.2.2.2.2.2.2.1 (hall 10 (by decide))
  obtain ⟨b5_8, ee13, pb5_8, lb5_8, kb5_8⟩ := hM.nw.1 (hall 8 (by decide))
  have e13 : tZ 13 = .pointer (some ⟨b5_8, 0, none⟩) := ee13
  clear ee13
  have Kb5_8 : CV u5 b5_8 (LN (a ^ (f / 2).toNat % m)) := by
    have h1 : CV u5 b5_8 (bif fZ 9 then LN (a ^ (f / 2).toNat % m) else L0s) := kb5_8
    rw [hall 9 (by decide)] at h1; exact h1
  clear kb5_8
  have HB5 : Below w.heap.size w u5 := hM.bel
  have sz5 : u4.heap.size ≤ u5.heap.size := hM.sz
  have K5p0 : CV u5 (w.heap.size) (LN (a)) := hM.ks.1.2
  have l5p0 : w.heap.size < u5.heap.size := Nat.lt_of_lt_of_le hM.ks.1.1 hM.sz
  have K5p1 : CV u5 (w.heap.size + 1) (LN (b)) := hM.ks.2.1.2
  have l5p1 : w.heap.size + 1 < u5.heap.size := Nat.lt_of_lt_of_le hM.ks.2.1.1 hM.sz
  have K5p4 : CV u5 (w.heap.size + 1 + 1) (LN (m)) := hM.ks.2.2.1.2
  have l5p4 : w.heap.size + 1 + 1 < u5.heap.size := Nat.lt_of_lt_of_le hM.ks.2.2.1.1 hM.sz
  have K5n6_8 : CV u5 (b4_8) (LN (a ^ (e / 2).toNat % m)) := hM.ks.2.2.2.1.2
  have l5n6_8 : b4_8 < u5.heap.size := Nat.lt_of_lt_of_le hM.ks.2.2.2.1.1 hM.sz
  simp only [ovr, List.set_cons_zero, List.set_cons_succ, e45, e46, e47, e48, e49, e44, e50, e51, e14, e13]
  clear hM hG hO hN hall e45 e46 e47 e48 e49 e44 e50 e51 e14 e13 K4p0 K4p1 K4p4 Kb4_8 HB4
  clear tZ
  go_upto_region 8 with fail
  refine region_plain [53, 54, 55, 56, 57, 58, 59, 52, 60, 61, 15, 16] (fun fZ tZ uZ => MR w.heap.size w (u5.heap.size) [(w.heap.size, LN (a)), (w.heap.size + 1, LN (b)), (w.heap.size + 1 + 1, LN (m)), (b4_8, LN (a ^ (e / 2).toNat % m)), (b5_8, LN (a ^ (f / 2).toNat % m))] [] [(fZ 10, fZ 11, tZ 15, L0s, LN (a ^ (e / 2 + f / 2).toNat % m))] uZ ∧ Gs fZ tZ [(0, 53, NV (a)), (1, 54, .int .u64 (e / 2)), (2, 55, .int .u64 (f / 2)), (3, 56, .int .u64 (e / 2 + f / 2)), (4, 57, NV ((e / 2 + f / 2))), (5, 58, NV (m)), (6, 59, .tuple #[NV (a ^ (e / 2 + f / 2).toNat % m), .int .i64 0]), (7, 52, .tuple #[NV (a ^ (e / 2 + f / 2).toNat % m), .int .i64 0]), (8, 60, NV (a ^ (e / 2 + f / 2).toNat % m)), (9, 61, .int .i64 0), (12, 16, .int .i64 0)] ∧ Os fZ [(11, 10)] ∧ Ns fZ tZ []) (by kernel_rfl) ?_ ?_ ?_
  · exact ⟨{ bel := HB5, lo := HB5.size, sz := Nat.le_refl _, ks := ⟨⟨l5p0, K5p0⟩, ⟨l5p1, K5p1⟩, ⟨l5p4, K5p4⟩, ⟨l5n6_8, K5n6_8⟩, ⟨lb5_8, Kb5_8⟩, trivial⟩, ex := trivial, nw := ⟨fun e => (by cases e), trivial⟩, nd := ⟨fun e => (by cases e), trivial⟩ }, Gs.none _ _, Os.none _, trivial⟩
  · rintro fZ tZ uZ iZ oZ aZ hF ⟨hM, hG, hO, hN⟩ ho hfi hdep
    have hS : [53, 54, 55, 56, 57, 58, 59, 52, 60, 61, 15, 16].Nodup := by decide
    have hV := hF.evs (N := 107) (by decide) rfl (by decide)
    have il : iZ < 13 := (Array.getElem?_eq_some_iff.1 ho).1
    have ix : iZ = 0 ∨ iZ = 1 ∨ iZ = 2 ∨ iZ = 3 ∨ iZ = 4 ∨ iZ = 5 ∨ iZ = 6 ∨ iZ = 7 ∨ iZ = 8 ∨ iZ = 9 ∨ iZ = 10 ∨ iZ = 11 ∨ iZ = 12 := by omega
    rcases ix with rfl | rfl | rfl | rfl | rfl | rfl | rfl | rfl | rfl | rfl | rfl | rfl | rfl
    · cases ho
      exact t_load (show aZ.eval (.tmp 5) = .pointer (some ⟨w.heap.size, 0, none⟩) from (hF.out 5 (by decide)).trans rfl) hM.ks.1.2 Try.underlying25 info_api_Nat hF hS rfl rfl rfl rfl rfl (by decide) ⟨hM, Gs.stepA hG rfl rfl, hO.keep rfl, Ns.step hN rfl⟩
    · cases ho
      exact t_move (show aZ.eval (.tmp 2) = .int .u64 (e / 2) from (hF.out 2 (by decide)).trans rfl) hF hS rfl rfl rfl rfl (by decide) ⟨hM, Gs.stepA hG rfl rfl, hO.keep rfl, Ns.step hN rfl⟩
    · cases ho
      exact t_move (show aZ.eval (.tmp 3) = .int .u64 (f / 2) from (hF.out 3 (by decide)).trans rfl) hF hS rfl rfl rfl rfl (by decide) ⟨hM, Gs.stepA hG rfl rfl, hO.keep rfl, Ns.step hN rfl⟩
    · cases ho
      refine op_plain rfl rfl (fun K hK => ?_)
      have e54 := hG.2.1 (hdep ⟨1, .data⟩ (by simp) rfl)
      have e55 := hG.2.2.1 (hdep ⟨2, .data⟩ (by simp) rfl)
      refine wp_bin rfl ((hV 54 (by decide)).trans e54) ((hV 55 (by decide)).trans e55) (add_u _ _ (e / 2) (f / 2) (e / 2 + f / 2) uZ (by omega)) ?_
      exact tell hK hF hS (by decide) ⟨hM, Gs.stepA hG rfl rfl, hO.keep rfl, Ns.step hN rfl⟩
    · cases ho
      refine op_plain rfl rfl (fun K hK => ?_)
      have e56 := hG.2.2.2.1 (hdep ⟨3, .data⟩ (by simp) rfl)
      refine wp_build rfl (vps := [(0, .int .u64 (e / 2 + f / 2))]) (by show [(0, aZ.eval (.tmp 56))] = _; rw [((hV 56 (by decide)).trans e56)]) (bd1 (e / 2 + f / 2) uZ (by omega) (by omega)) ?_
      exact tell hK hF hS (by decide) ⟨hM, Gs.stepA hG rfl rfl, hO.keep rfl, Ns.step hN rfl⟩
    · cases ho
      exact t_load (show aZ.eval (.tmp 9) = .pointer (some ⟨w.heap.size + 1 + 1, 0, none⟩) from (hF.out 9 (by decide)).trans rfl) hM.ks.2.2.1.2 Try.underlying25 info_api_Nat hF hS rfl rfl rfl rfl rfl (by decide) ⟨hM, Gs.stepA hG rfl rfl, hO.keep rfl, Ns.step hN rfl⟩
    · cases ho
      have e53 := hG.1 (hdep ⟨0, .data⟩ (by simp) rfl)
      have e57 := hG.2.2.2.2.1 (hdep ⟨4, .data⟩ (by simp) rfl)
      have e58 := hG.2.2.2.2.2.1 (hdep ⟨5, .data⟩ (by simp) rfl)
      exact t_call (vs := [NV (a), NV ((e / 2 + f / 2)), NV (m)]) (by show [aZ.eval (.tmp 53), aZ.eval (.tmp 57), aZ.eval (.tmp 58)] = _; rw [((hV 53 (by decide)).trans e53), ((hV 57 (by decide)).trans e57), ((hV 58 (by decide)).trans e58)]) ent_mod_Exp (mExp a (e / 2 + f / 2) m uZ ha (In_k (by omega) (by omega)) hm h) hF hS rfl rfl rfl rfl (by decide) (fun _ hB => ⟨hM.call hB, Gs.stepA hG rfl rfl, hO.keep rfl, Ns.step hN rfl⟩)
    · cases ho
      have e59 := hG.2.2.2.2.2.2.1 (hdep ⟨6, .data⟩ (by simp) rfl)
      exact t_move ((hV 59 (by decide)).trans e59) hF hS rfl rfl rfl rfl (by decide) ⟨hM, Gs.stepA hG rfl rfl, hO.keep rfl, Ns.step hN rfl⟩
    · cases ho
      have e52 := hG.2.2.2.2.2.2.2.1 (hdep ⟨7, .data⟩ (by simp) rfl)
      exact t_extract ((hV 52 (by decide)).trans e52) hF hS rfl rfl rfl rfl rfl (by decide) ⟨hM, Gs.stepA hG rfl rfl, hO.keep rfl, Ns.step hN rfl⟩
    · cases ho
      have e52 := hG.2.2.2.2.2.2.2.1 (hdep ⟨7, .data⟩ (by simp) rfl)
      exact t_extract ((hV 52 (by decide)).trans e52) hF hS rfl rfl rfl rfl rfl (by decide) ⟨hM, Gs.stepA hG rfl rfl, hO.keep rfl, Ns.step hN rfl⟩
    · cases ho
      refine op_plain rfl rfl (fun K hK => ?_)
      refine wp_alloc rfl (al_api_Nat uZ) ?_
      have q1 : fZ 11 = false := Os.not (hO.1) hfi
      exact tell hK hF hS (by decide) ⟨MR.newF 0 hM rfl hfi q1, Gs.other rfl hG, hO.keep rfl, Ns.step hN rfl⟩
    · cases ho
      refine op_plain rfl rfl (fun K hK => ?_)
      have y10 : fZ 10 = true := hdep ⟨10, .data⟩ (by simp) rfl
      obtain ⟨bb, eb, b1, b2, b3⟩ := hM.nw.1 y10
      have eb : tZ 15 = .pointer (some ⟨bb, 0, none⟩) := eb
      have e60 := hG.2.2.2.2.2.2.2.2.1 (hdep ⟨8, .data⟩ (by simp) rfl)
      refine wp_store_mid 25 _ _ rfl bb 0 (LN (a ^ (e / 2 + f / 2).toNat % m) : List Value).toArray ((hV 15 (by decide)).trans eb) ((hV 60 (by decide)).trans e60) (by have h2 := b3; simp only [hfi] at h2; exact h2.there) info_api_Nat (all_one rfl) ?_
      exact tell0 hK hF ⟨MR.putF 0 hM rfl y10 eb b1 rfl, Gs.idle rfl hG, ⟨fun _ => hdep ⟨10, .data⟩ (by simp) rfl, trivial⟩, Ns.idle hN⟩
    · cases ho
      have e61 := hG.2.2.2.2.2.2.2.2.2.1 (hdep ⟨9, .data⟩ (by simp) rfl)
      exact t_assign ((hV 61 (by decide)).trans e61) hF hS rfl rfl rfl rfl (by decide) ⟨hM, Gs.stepA hG rfl rfl, hO.keep rfl, Ns.step hN rfl⟩
  rintro fZ tZ u6 ⟨hM, hG, hO, hN⟩ hall
  have e53 : tZ 53 = _ := hG.1 (hall 0 (by decide))
  have e54 : tZ 54 = _ := hG.2.1 (hall 1 (by decide))
  have e55 : tZ 55 = _ := hG.2.2.1 (hall 2 (by decide))
  have e56 : tZ 56 = _ := hG.2.2.2.1 (hall 3 (by decide))
  have e57 : tZ 57 = _ := hG.2.2.2.2.1 (hall 4 (by decide))
  have e58 : tZ 58 = _ := hG.2.2.2.2.2.1 (hall 5 (by decide))
  have e59 : tZ 59 = _ := hG.2.2.2.2.2.2.1 (hall 6 (by decide))
  have e52 : tZ 52 = _ := hG.2.2.2.2.2.2.2.1 (hall 7 (by decide))
  have e60 : tZ 60 = _ := hG.2.2.2.2.2.2.2.2.1 (hall 8 (by decide))
  have e61 : tZ 61 = _ := hG.2.2.2.2.2.2.2.2.2.1 (hall 9 (by decide))
  have e16 : tZ 16 = _ := hG.2.2.2.2.2.2.2.2.2.2.1 (hall 12 (by decide))
  obtain ⟨b6_10, ee15, pb6_10, lb6_10, kb6_10⟩ := hM.nw.1 (hall 10 (by decide))
  have e15 : tZ 15 = .pointer (some ⟨b6_10, 0, none⟩) := ee15
  clear ee15
  have Kb6_10 : CV u6 b6_10 (LN (a ^ (e / 2 + f / 2).toNat % m)) := by
    have h1 : CV u6 b6_10 (bif fZ 11 then LN (a ^ (e / 2 + f / 2).toNat % m) else L0s) := kb6_10
    rw [hall 11 (by decide)] at h1; exact h1
  clear kb6_10
  have HB6 : Below w.heap.size w u6 := hM.bel
  have sz6 : u5.heap.size ≤ u6.heap.size := hM.sz
  have K6p0 : CV u6 (w.heap.size) (LN (a)) := hM.ks.1.2
  have l6p0 : w.heap.size < u6.heap.size := Nat.lt_of_lt_of_le hM.ks.1.1 hM.sz
  have K6p1 : CV u6 (w.heap.size + 1) (LN (b)) := hM.ks.2.1.2
  have l6p1 : w.heap.size + 1 < u6.heap.size := Nat.lt_of_lt_of_le hM.ks.2.1.1 hM.sz
  have K6p4 : CV u6 (w.heap.size + 1 + 1) (LN (m)) := hM.ks.2.2.1.2
  have l6p4 : w.heap.size + 1 + 1 < u6.heap.size := Nat.lt_of_lt_of_le hM.ks.2.2.1.1 hM.sz
  have K6n6_8 : CV u6 (b4_8) (LN (a ^ (e / 2).toNat % m)) := hM.ks.2.2.2.1.2
  have l6n6_8 : b4_8 < u6.heap.size := Nat.lt_of_lt_of_le hM.ks.2.2.2.1.1 hM.sz
  have K6n7_8 : CV u6 (b5_8) (LN (a ^ (f / 2).toNat % m)) := hM.ks.2.2.2.2.1.2
  have l6n7_8 : b5_8 < u6.heap.size := Nat.lt_of_lt_of_le hM.ks.2.2.2.2.1.1 hM.sz
  simp only [ovr, List.set_cons_zero, List.set_cons_succ, e53, e54, e55, e56, e57, e58, e59, e52, e60, e61, e16, e15]
  clear hM hG hO hN hall e53 e54 e55 e56 e57 e58 e59 e52 e60 e61 e16 e15 K5n6_8 K5p0 K5p1 K5p4 Kb5_8 HB5
  clear tZ
  go_upto_region 9 with fail
  refine region_plain [63, 64, 65, 66, 62, 67, 68, 17, 18] (fun fZ tZ uZ => MR w.heap.size w (u6.heap.size) [(w.heap.size, LN (a)), (w.heap.size + 1, LN (b)), (w.heap.size + 1 + 1, LN (m)), (b4_8, LN (a ^ (e / 2).toNat % m)), (b5_8, LN (a ^ (f / 2).toNat % m)), (b6_10, LN (a ^ (e / 2 + f / 2).toNat % m))] [] [(fZ 7, fZ 8, tZ 17, L0s, LN ((a ^ (e / 2).toNat % m) * (a ^ (f / 2).toNat % m) % m))] uZ ∧ Gs fZ tZ [(0, 63, NV (a ^ (e / 2).toNat % m)), (1, 64, NV (a ^ (f / 2).toNat % m)), (2, 65, NV (m)), (3, 66, .tuple #[NV ((a ^ (e / 2).toNat % m) * (a ^ (f / 2).toNat % m) % m), .int .i64 0]), (4, 62, .tuple #[NV ((a ^ (e / 2).toNat % m) * (a ^ (f / 2).toNat % m) % m), .int .i64 0]), (5, 67, NV ((a ^ (e / 2).toNat % m) * (a ^ (f / 2).toNat % m) % m)), (6, 68, .int .i64 0), (9, 18, .int .i64 0)] ∧ Os fZ [(8, 7)] ∧ Ns fZ tZ []) (by kernel_rfl) ?_ ?_ ?_
  · exact ⟨{ bel := HB6, lo := HB6.size, sz := Nat.le_refl _, ks := ⟨⟨l6p0, K6p0⟩, ⟨l6p1, K6p1⟩, ⟨l6p4, K6p4⟩, ⟨l6n6_8, K6n6_8⟩, ⟨l6n7_8, K6n7_8⟩, ⟨lb6_10, Kb6_10⟩, trivial⟩, ex := trivial, nw := ⟨fun e => (by cases e), trivial⟩, nd := ⟨fun e => (by cases e), trivial⟩ }, Gs.none _ _, Os.none _, trivial⟩
  · rintro fZ tZ uZ iZ oZ aZ hF ⟨hM, hG, hO, hN⟩ ho hfi hdep
    have hS : [63, 64, 65, 66, 62, 67, 68, 17, 18].Nodup := by decide
    have hV := hF.evs (N := 107) (by decide) rfl (by decide)
    have il : iZ < 10 := (Array.getElem?_eq_some_iff.1 ho).1
    have ix : iZ = 0 ∨ iZ = 1 ∨ iZ = 2 ∨ iZ = 3 ∨ iZ = 4 ∨ iZ = 5 ∨ iZ = 6 ∨ iZ = 7 ∨ iZ = 8 ∨ iZ = 9 := by omega
    rcases ix with rfl | rfl | rfl | rfl | rfl | rfl | rfl | rfl | rfl | rfl
    · cases ho
      exact t_load (show aZ.eval (.tmp 11) = .pointer (some ⟨b4_8, 0, none⟩) from (hF.out 11 (by decide)).trans rfl) hM.ks.2.2.2.1.2 Try.underlying25 info_api_Nat hF hS rfl rfl rfl rfl rfl (by decide) ⟨hM, Gs.stepA hG rfl rfl, hO.keep rfl, Ns.step hN rfl⟩
    · cases ho
      exact t_load (show aZ.eval (.tmp 13) = .pointer (some ⟨b5_8, 0, none⟩) from (hF.out 13 (by decide)).trans rfl) hM.ks.2.2.2.2.1.2 Try.underlying25 info_api_Nat hF hS rfl rfl rfl rfl rfl (by decide) ⟨hM, Gs.stepA hG rfl rfl, hO.keep rfl, Ns.step hN rfl⟩
    · cases ho
      exact t_load (show aZ.eval (.tmp 9) = .pointer (some ⟨w.heap.size + 1 + 1, 0, none⟩) from (hF.out 9 (by decide)).trans rfl) hM.ks.2.2.1.2 Try.underlying25 info_api_Nat hF hS rfl rfl rfl rfl rfl (by decide) ⟨hM, Gs.stepA hG rfl rfl, hO.keep rfl, Ns.step hN rfl⟩
    · cases ho
      have e63 := hG.1 (hdep ⟨0, .data⟩ (by simp) rfl)
      have e64 := hG.2.1 (hdep ⟨1, .data⟩ (by simp) rfl)
      have e65 := hG.2.2.1 (hdep ⟨2, .data⟩ (by simp) rfl)
      exact t_call (vs := [NV (a ^ (e / 2).toNat % m), NV (a ^ (f / 2).toNat % m), NV (m)]) (by show [aZ.eval (.tmp 63), aZ.eval (.tmp 64), aZ.eval (.tmp 65)] = _; rw [((hV 63 (by decide)).trans e63), ((hV 64 (by decide)).trans e64), ((hV 65 (by decide)).trans e65)]) ent_mod_Mul (mMul (a ^ (e / 2).toNat % m) (a ^ (f / 2).toNat % m) m uZ (In_mod hm h) (In_mod hm h) hm h) hF hS rfl rfl rfl rfl (by decide) (fun _ hB => ⟨hM.call hB, Gs.stepA hG rfl rfl, hO.keep rfl, Ns.step hN rfl⟩)
    · cases ho
      have e66 := hG.2.2.2.1 (hdep ⟨3, .data⟩ (by simp) rfl)
      exact t_move ((hV 66 (by decide)).trans e66) hF hS rfl rfl rfl rfl (by decide) ⟨hM, Gs.stepA hG rfl rfl, hO.keep rfl, Ns.step hN rfl⟩
    · cases ho
      have e62 := hG.2.2.2.2.1 (hdep ⟨4, .data⟩ (by simp) rfl)
      exact t_extract ((hV 62 (by decide)).trans e62) hF hS rfl rfl rfl rfl rfl (by decide) ⟨hM, Gs.stepA hG rfl rfl, hO.keep rfl, Ns.step hN rfl⟩
    · cases ho
      have e62 := hG.2.2.2.2.1 (hdep ⟨4, .data⟩ (by simp) rfl)
      exact t_extract ((hV 62 (by decide)).trans e62) hF hS rfl rfl rfl rfl rfl (by decide) ⟨hM, Gs.stepA hG rfl rfl, hO.keep rfl, Ns.step hN rfl⟩
    · cases ho
      refine op_plain rfl rfl (fun K hK => ?_)
      refine wp_alloc rfl (al_api_Nat uZ) ?_
      have q1 : fZ 8 = false := Os.not (hO.1) hfi
      exact tell hK hF hS (by decide) ⟨MR.newF 0 hM rfl hfi q1, Gs.other rfl hG, hO.keep rfl, Ns.step hN rfl⟩
    · cases ho
      refine op_plain rfl rfl (fun K hK => ?_)
      have y7 : fZ 7 = true := hdep ⟨7, .data⟩ (by simp) rfl
      obtain ⟨bb, eb, b1, b2, b3⟩ := hM.nw.1 y7
      have eb : tZ 17 = .pointer (some ⟨bb, 0, none⟩) := eb
      have e67 := hG.2.2.2.2.2.1 (hdep ⟨5, .data⟩ (by simp) rfl)
      refine wp_store_mid 25 _ _ rfl bb 0 (LN ((a ^ (e / 2).toNat % m) * (a ^ (f / 2).toNat % m) % m) : List Value).toArray ((hV 17 (by decide)).trans eb) ((hV 67 (by decide)).trans e67) (by have h2 := b3; simp only [hfi] at h2; exact h2.there) info_api_Nat (all_one rfl) ?_
      exact tell0 hK hF ⟨MR.putF 0 hM rfl y7 eb b1 rfl, Gs.idle rfl hG, ⟨fun _ => hdep ⟨7, .data⟩ (by simp) rfl, trivial⟩, Ns.idle hN⟩
    · cases ho
      have e68 := hG.2.2.2.2.2.2.1 (hdep ⟨6, .data⟩ (by simp) rfl)
      exact t_assign ((hV 68 (by decide)).trans e68) hF hS rfl rfl rfl rfl (by decide) ⟨hM, Gs.stepA hG rfl rfl, hO.keep rfl, Ns.step hN rfl⟩
  rintro fZ tZ u7 ⟨hM, hG, hO, hN⟩ hall
  have e63 : tZ 63 = _ := hG.1 (hall 0 (by decide))
  have e64 : tZ 64 = _ := hG.2.1 (hall 1 (by decide))
  have e65 : tZ 65 = _ := hG.2.2.1 (hall 2 (by decide))
  have e66 : tZ 66 = _ := hG.2.2.2.1 (hall 3 (by decide))
  have e62 : tZ 62 = _ := hG.2.2.2.2.1 (hall 4 (by decide))
  have e67 : tZ 67 = _ := hG.2.2.2.2.2.1 (hall 5 (by decide))
  have e68 : tZ 68 = _ := hG.2.2.2.2.2.2.1 (hall 6 (by decide))
  have e18 : tZ 18 = _ := hG.2.2.2.2.2.2.2.1 (hall 9 (by decide))
  obtain ⟨b7_7, ee17, pb7_7, lb7_7, kb7_7⟩ := hM.nw.1 (hall 7 (by decide))
  have e17 : tZ 17 = .pointer (some ⟨b7_7, 0, none⟩) := ee17
  clear ee17
  have Kb7_7 : CV u7 b7_7 (LN ((a ^ (e / 2).toNat % m) * (a ^ (f / 2).toNat % m) % m)) := by
    have h1 : CV u7 b7_7 (bif fZ 8 then LN ((a ^ (e / 2).toNat % m) * (a ^ (f / 2).toNat % m) % m) else L0s) := kb7_7
    rw [hall 8 (by decide)] at h1; exact h1
  clear kb7_7
  have HB7 : Below w.heap.size w u7 := hM.bel
  have sz7 : u6.heap.size ≤ u7.heap.size := hM.sz
  have K7p0 : CV u7 (w.heap.size) (LN (a)) := hM.ks.1.2
  have l7p0 : w.heap.size < u7.heap.size := Nat.lt_of_lt_of_le hM.ks.1.1 hM.sz
  have K7p1 : CV u7 (w.heap.size + 1) (LN (b)) := hM.ks.2.1.2
  have l7p1 : w.heap.size + 1 < u7.heap.size := Nat.lt_of_lt_of_le hM.ks.2.1.1 hM.sz
  have K7p4 : CV u7 (w.heap.size + 1 + 1) (LN (m)) := hM.ks.2.2.1.2
  have l7p4 : w.heap.size + 1 + 1 < u7.heap.size := Nat.lt_of_lt_of_le hM.ks.2.2.1.1 hM.sz
  have K7n6_8 : CV u7 (b4_8) (LN (a ^ (e / 2).toNat % m)) := hM.ks.2.2.2.1.2
  have l7n6_8 : b4_8 < u7.heap.size := Nat.lt_of_lt_of_le hM.ks.2.2.2.1.1 hM.sz
  have K7n8_10 : CV u7 (b6_10) (LN (a ^ (e / 2 + f / 2).toNat % m)) := hM.ks.2.2.2.2.2.1.2
  have l7n8_10 : b6_10 < u7.heap.size := Nat.lt_of_lt_of_le hM.ks.2.2.2.2.2.1.1 hM.sz
  simp only [ovr, List.set_cons_zero, List.set_cons_succ, e63, e64, e65, e66, e62, e67, e68, e18, e17]
  clear hM hG hO hN hall e63 e64 e65 e66 e62 e67 e68 e18 e17 K6n6_8 K6n7_8 K6p0 K6p1 K6p4 Kb6_10 HB6
  clear tZ
  go_upto_region 10 with fail
  refine region_plain [70, 71, 72, 73, 74, 69, 75, 76, 19, 20] (fun fZ tZ uZ => MR w.heap.size w (u7.heap.size) [(w.heap.size, LN (a)), (w.heap.size + 1, LN (b)), (w.heap.size + 1 + 1, LN (m)), (b4_8, LN (a ^ (e / 2).toNat % m)), (b6_10, LN (a ^ (e / 2 + f / 2).toNat % m)), (b7_7, LN ((a ^ (e / 2).toNat % m) * (a ^ (f / 2).toNat % m) % m))] [] [(fZ 8, fZ 9, tZ 19, L0s, LN (b ^ (e / 2).toNat % m))] uZ ∧ Gs fZ tZ [(0, 70, NV (b)), (1, 71, .int .u64 (e / 2)), (2, 72, NV ((e / 2))), (3, 73, NV (m)), (4, 74, .tuple #[NV (b ^ (e / 2).toNat % m), .int .i64 0]), (5, 69, .tuple #[NV (b ^ (e / 2).toNat % m), .int .i64 0]), (6, 75, NV (b ^ (e / 2).toNat % m)), (7, 76, .int .i64 0), (10, 20, .int .i64 0)] ∧ Os fZ [(9, 8)] ∧ Ns fZ tZ []) (by kernel_rfl) ?_ ?_ ?_
  · exact ⟨{ bel := HB7, lo := HB7.size, sz := Nat.le_refl _, ks := ⟨⟨l7p0, K7p0⟩, ⟨l7p1, K7p1⟩, ⟨l7p4, K7p4⟩, ⟨l7n6_8, K7n6_8⟩, ⟨l7n8_10, K7n8_10⟩, ⟨lb7_7, Kb7_7⟩, trivial⟩, ex := trivial, nw := ⟨fun e => (by cases e), trivial⟩, nd := ⟨fun e => (by cases e), trivial⟩ }, Gs.none _ _, Os.none _, trivial⟩
  · rintro fZ tZ uZ iZ oZ aZ hF ⟨hM, hG, hO, hN⟩ ho hfi hdep
    have hS : [70, 71, 72, 73, 74, 69, 75, 76, 19, 20].Nodup := by decide
    have hV := hF.evs (N := 107) (by decide) rfl (by decide)
    have il : iZ < 11 := (Array.getElem?_eq_some_iff.1 ho).1
    have ix : iZ = 0 ∨ iZ = 1 ∨ iZ = 2 ∨ iZ = 3 ∨ iZ = 4 ∨ iZ = 5 ∨ iZ = 6 ∨ iZ = 7 ∨ iZ = 8 ∨ iZ = 9 ∨ iZ = 10 := by omega
    rcases ix with rfl | rfl | rfl | rfl | rfl | rfl | rfl | rfl | rfl | rfl | rfl
    · cases ho
      exact t_load (show aZ.eval (.tmp 6) = .pointer (some ⟨w.heap.size + 1, 0, none⟩) from (hF.out 6 (by decide)).trans rfl) hM.ks.2.1.2 Try.underlying25 info_api_Nat hF hS rfl rfl rfl rfl rfl (by decide) ⟨hM, Gs.stepA hG rfl rfl, hO.keep rfl, Ns.step hN rfl⟩
    · cases ho
      exact t_move (show aZ.eval (.tmp 2) = .int .u64 (e / 2) from (hF.out 2 (by decide)).trans rfl) hF hS rfl rfl rfl rfl (by decide) ⟨hM, Gs.stepA hG rfl rfl, hO.keep rfl, Ns.step hN rfl⟩
    · cases ho
      refine op_plain rfl rfl (fun K hK => ?_)
      have e71 := hG.2.1 (hdep ⟨1, .data⟩ (by simp) rfl)
      refine wp_build rfl (vps := [(0, .int .u64 (e / 2))]) (by show [(0, aZ.eval (.tmp 71))] = _; rw [((hV 71 (by decide)).trans e71)]) (bd1 (e / 2) uZ (by omega) (by omega)) ?_
      exact tell hK hF hS (by decide) ⟨hM, Gs.stepA hG rfl rfl, hO.keep rfl, Ns.step hN rfl⟩
    · cases ho
      exact t_load (show aZ.eval (.tmp 9) = .pointer (some ⟨w.heap.size + 1 + 1, 0, none⟩) from (hF.out 9 (by decide)).trans rfl) hM.ks.2.2.1.2 Try.underlying25 info_api_Nat hF hS rfl rfl rfl rfl rfl (by decide) ⟨hM, Gs.stepA hG rfl rfl, hO.keep rfl, Ns.step hN rfl⟩
    · cases ho
      have e70 := hG.1 (hdep ⟨0, .data⟩ (by simp) rfl)
      have e72 := hG.2.2.1 (hdep ⟨2, .data⟩ (by simp) rfl)
      have e73 := hG.2.2.2.1 (hdep ⟨3, .data⟩ (by simp) rfl)
      exact t_call (vs := [NV (b), NV ((e / 2)), NV (m)]) (by show [aZ.eval (.tmp 70), aZ.eval (.tmp 72), aZ.eval (.tmp 73)] = _; rw [((hV 70 (by decide)).trans e70), ((hV 72 (by decide)).trans e72), ((hV 73 (by decide)).trans e73)]) ent_mod_Exp (mExp b (e / 2) m uZ hb (In_k (by omega) (by omega)) hm h) hF hS rfl rfl rfl rfl (by decide) (fun _ hB => ⟨hM.call hB, Gs.stepA hG rfl rfl, hO.keep rfl, Ns.step hN rfl⟩)
    · cases ho
      have e74 := hG.2.2.2.2.1 (hdep ⟨4, .data⟩ (by simp) rfl)
      exact t_move ((hV 74 (by decide)).trans e74) hF hS rfl rfl rfl rfl (by decide) ⟨hM, Gs.stepA hG rfl rfl, hO.keep rfl, Ns.step hN rfl⟩
    · cases ho
      have e69 := hG.2.2.2.2.2.1 (hdep ⟨5, .data⟩ (by simp) rfl)
      exact t_extract ((hV 69 (by decide)).trans e69) hF hS rfl rfl rfl rfl rfl (by decide) ⟨hM, Gs.stepA hG rfl rfl, hO.keep rfl, Ns.step hN rfl⟩
    · cases ho
      have e69 := hG.2.2.2.2.2.1 (hdep ⟨5, .data⟩ (by simp) rfl)
      exact t_extract ((hV 69 (by decide)).trans e69) hF hS rfl rfl rfl rfl rfl (by decide) ⟨hM, Gs.stepA hG rfl rfl, hO.keep rfl, Ns.step hN rfl⟩
    · cases ho
      refine op_plain rfl rfl (fun K hK => ?_)
      refine wp_alloc rfl (al_api_Nat uZ) ?_
      have q1 : fZ 9 = false := Os.not (hO.1) hfi
      exact tell hK hF hS (by decide) ⟨MR.newF 0 hM rfl hfi q1, Gs.other rfl hG, hO.keep rfl, Ns.step hN rfl⟩
    · cases ho
      refine op_plain rfl rfl (fun K hK => ?_)
      have y8 : fZ 8 = true := hdep ⟨8, .data⟩ (by simp) rfl
      obtain ⟨bb, eb, b1, b2, b3⟩ := hM.nw.1 y8
      have eb : tZ 19 = .pointer (some ⟨bb, 0, none⟩) := eb
      have e75 := hG.2.2.2.2.2.2.1 (hdep ⟨6, .data⟩ (by simp) rfl)
      refine wp_store_mid 25 _ _ rfl bb 0 (LN (b ^ (e / 2).toNat % m) : List Value).toArray ((hV 19 (by decide)).trans eb) ((hV 75 (by decide)).trans e75) (by have h2 := b3; simp only [hfi] at h2; exact h2.there) info_api_Nat (all_one rfl) ?_
      exact tell0 hK hF ⟨MR.putF 0 hM rfl y8 eb b1 rfl, Gs.idle rfl hG, ⟨fun _ => hdep ⟨8, .data⟩ (by simp) rfl, trivial⟩, Ns.idle hN⟩
    · cases ho
      have e76 := hG.2.2.2.2.2.2.2.1 (hdep ⟨7, .data⟩ (by simp) rfl)
      exact t_assign ((hV 76 (by decide)).trans e76) hF hS rfl rfl rfl rfl (by decide) ⟨hM, Gs.stepA hG rfl rfl, hO.keep rfl, Ns.step hN rfl⟩
  rintro fZ tZ u8 ⟨hM, hG, hO, hN⟩ hall
  have e70 : tZ 70 = _ := hG.1 (hall 0 (by decide))
  have e71 : tZ 71 = _ := hG.2.1 (hall 1 (by decide))
  have e72 : tZ 72 = _ := hG.2.2.1 (hall 2 (by decide))
  have e73 : tZ 73 = _ := hG.2.2.2.1 (hall 3 (by decide))
  have e74 : tZ 74 = _ := hG.2.2.2.2.1 (hall 4 (by decide))
  have e69 : tZ 69 = _ := hG.2.2.2.2.2.1 (hall 5 (by decide))
  have e75 : tZ 75 = _ := hG.2.2.2.2.2.2.1 (hall 6 (by decide))
  have e76 : tZ 76 = _ := hG.2.2.2.2.2.2.2.1 (hall 7 (by decide))
  have e20 : tZ 20 = _ := hG.2.2.2.2.2.2.2.2.1 (hall 10 (by decide))
  obtain ⟨b8_8, ee19, pb8_8, lb8_8, kb8_8⟩ := hM.nw.1 (hall 8 (by decide))
  have e19 : tZ 19 = .pointer (some ⟨b8_8, 0, none⟩) := ee19
  clear ee19
  have Kb8_8 : CV u8 b8_8 (LN (b ^ (e / 2).toNat % m)) := by
    have h1 : CV u8 b8_8 (bif fZ 9 then LN (b ^ (e / 2).toNat % m) else L0s) := kb8_8
    rw [hall 9 (by decide)] at h1; exact h1
  clear kb8_8
  have HB8 : Below w.heap.size w u8 := hM.bel
  have sz8 : u7.heap.size ≤ u8.heap.size := hM.sz
  have K8p0 : CV u8 (w.heap.size) (LN (a)) := hM.ks.1.2
  have l8p0 : w.heap.size < u8.heap.size := Nat.lt_of_lt_of_le hM.ks.1.1 hM.sz
  have K8p1 : CV u8 (w.heap.size + 1) (LN (b)) := hM.ks.2.1.2
  have l8p1 : w.heap.size + 1 < u8.heap.size := Nat.lt_of_lt_of_le hM.ks.2.1.1 hM.sz
  have K8p4 : CV u8 (w.heap.size + 1 + 1) (LN (m)) := hM.ks.2.2.1.2
  have l8p4 : w.heap.size + 1 + 1 < u8.heap.size := Nat.lt_of_lt_of_le hM.ks.2.2.1.1 hM.sz
  have K8n6_8 : CV u8 (b4_8) (LN (a ^ (e / 2).toNat % m)) := hM.ks.2.2.2.1.2
  have l8n6_8 : b4_8 < u8.heap.size := Nat.lt_of_lt_of_le hM.ks.2.2.2.1.1 hM.sz
  have K8n8_10 : CV u8 (b6_10) (LN (a ^ (e / 2 + f / 2).toNat % m)) := hM.ks.2.2.2.2.1.2
  have l8n8_10 : b6_10 < u8.heap.size := Nat.lt_of_lt_of_le hM.ks.2.2.2.2.1.1 hM.sz
  have K8n9_7 : CV u8 (b7_7) (LN ((a ^ (e / 2).toNat % m) * (a ^ (f / 2).toNat % m) % m)) := hM.ks.2.2.2.2.2.1.2
  have l8n9_7 : b7_7 < u8.heap.size := Nat.lt_of_lt_of_le hM.ks.2.2.2.2.2.1.1 hM.sz
  simp only [ovr, List.set_cons_zero, List.set_cons_succ, e70, e71, e72, e73, e74, e69, e75, e76, e20, e19]
  clear hM hG hO hN hall e70 e71 e72 e73 e74 e69 e75 e76 e20 e19 K7n6_8 K7n8_10 K7p0 K7p1 K7p4 Kb7_7 HB7
  clear tZ
  go_upto_region 11 with fail
  refine region_plain [78, 79, 80, 81, 77, 82, 83, 21, 22] (fun fZ tZ uZ => MR w.heap.size w (u8.heap.size) [(w.heap.size, LN (a)), (w.heap.size + 1, LN (b)), (w.heap.size + 1 + 1, LN (m)), (b4_8, LN (a ^ (e / 2).toNat % m)), (b6_10, LN (a ^ (e / 2 + f / 2).toNat % m)), (b7_7, LN ((a ^ (e / 2).toNat % m) * (a ^ (f / 2).toNat % m) % m)), (b8_8, LN (b ^ (e / 2).toNat % m))] [] [(fZ 7, fZ 8, tZ 21, L0s, LN ((a) * (b) % m))] uZ ∧ Gs fZ tZ [(0, 78, NV (a)), (1, 79, NV (b)), (2, 80, NV (m)), (3, 81, .tuple #[NV ((a) * (b) % m), .int .i64 0]), (4, 77, .tuple #[NV ((a) * (b) % m), .int .i64 0]), (5, 82, NV ((a) * (b) % m)), (6, 83, .int .i64 0), (9, 22, .int .i64 0)] ∧ Os fZ [(8, 7)] ∧ Ns fZ tZ []) (by kernel_rfl) ?_ ?_ ?_
  · exact ⟨{ bel := HB8, lo := HB8.size, sz := Nat.le_refl _, ks := ⟨⟨l8p0, K8p0⟩, ⟨l8p1, K8p1⟩, ⟨l8p4, K8p4⟩, ⟨l8n6_8, K8n6_8⟩, ⟨l8n8_10, K8n8_10⟩, ⟨l8n9_7, K8n9_7⟩, ⟨lb8_8, Kb8_8⟩, trivial⟩, ex := trivial, nw := ⟨fun e => (by cases e), trivial⟩, nd := ⟨fun e => (by cases e), trivial⟩ }, Gs.none _ _, Os.none _, trivial⟩
  · rintro fZ tZ uZ iZ oZ aZ hF ⟨hM, hG, hO, hN⟩ ho hfi hdep
    have hS : [78, 79, 80, 81, 77, 82, 83, 21, 22].Nodup := by decide
    have hV := hF.evs (N := 107) (by decide) rfl (by decide)
    have il : iZ < 10 := (Array.getElem?_eq_some_iff.1 ho).1
    have ix : iZ = 0 ∨ iZ = 1 ∨ iZ = 2 ∨ iZ = 3 ∨ iZ = 4 ∨ iZ = 5 ∨ iZ = 6 ∨ iZ = 7 ∨ iZ = 8 ∨ iZ = 9 := by omega
    rcases ix with rfl | rfl | rfl | rfl | rfl | rfl | rfl | rfl | rfl | rfl
    · cases ho
      exact t_load (show aZ.eval (.tmp 5) = .pointer (some ⟨w.heap.size, 0, none⟩) from (hF.out 5 (by decide)).trans rfl) hM.ks.1.2 Try.underlying25 info_api_Nat hF hS rfl rfl rfl rfl rfl (by decide) ⟨hM, Gs.stepA hG rfl rfl, hO.keep rfl, Ns.step hN rfl⟩
    · cases ho
      exact t_load (show aZ.eval (.tmp 6) = .pointer (some ⟨w.heap.size + 1, 0, none⟩) from (hF.out 6 (by decide)).trans rfl) hM.ks.2.1.2 Try.underlying25 info_api_Nat hF hS rfl rfl rfl rfl rfl (by decide) ⟨hM, Gs.stepA hG rfl rfl, hO.keep rfl, Ns.step hN rfl⟩
    · cases ho
      exact t_load (show aZ.eval (.tmp 9) = .pointer (some ⟨w.heap.size + 1 + 1, 0, none⟩) from (hF.out 9 (by decide)).trans rfl) hM.ks.2.2.1.2 Try.underlying25 info_api_Nat hF hS rfl rfl rfl rfl rfl (by decide) ⟨hM, Gs.stepA hG rfl rfl, hO.keep rfl, Ns.step hN rfl⟩
    · cases ho
      have e78 := hG.1 (hdep ⟨0, .data⟩ (by simp) rfl)
      have e79 := hG.2.1 (hdep ⟨1, .data⟩ (by simp) rfl)
      have e80 := hG.2.2.1 (hdep ⟨2, .data⟩ (by simp) rfl)
      exact t_call (vs := [NV (a), NV (b), NV (m)]) (by show [aZ.eval (.tmp 78), aZ.eval (.tmp 79), aZ.eval (.tmp 80)] = _; rw [((hV 78 (by decide)).trans e78), ((hV 79 (by decide)).trans e79), ((hV 80 (by decide)).trans e80)]) ent_mod_Mul (mMul (a) (b) m uZ ha hb hm h) hF hS rfl rfl rfl rfl (by decide) (fun _ hB => ⟨hM.call hB, Gs.stepA hG rfl rfl, hO.keep rfl, Ns.step hN rfl⟩)
    · cases ho
      have e81 := hG.2.2.2.1 (hdep ⟨3, .data⟩ (by simp) rfl)
      exact t_move ((hV 81 (by decide)).trans e81) hF hS rfl rfl rfl rfl (by decide) ⟨hM, Gs.stepA hG rfl rfl, hO.keep rfl, Ns.step hN rfl⟩
    · cases ho
      have e77 := hG.2.2.2.2.1 (hdep ⟨4, .data⟩ (by simp) rfl)
      exact t_extract ((hV 77 (by decide)).trans e77) hF hS rfl rfl rfl rfl rfl (by decide) ⟨hM, Gs.stepA hG rfl rfl, hO.keep rfl, Ns.step hN rfl⟩
    · cases ho
      have e77 := hG.2.2.2.2.1 (hdep ⟨4, .data⟩ (by simp) rfl)
      exact t_extract ((hV 77 (by decide)).trans e77) hF hS rfl rfl rfl rfl rfl (by decide) ⟨hM, Gs.stepA hG rfl rfl, hO.keep rfl, Ns.step hN rfl⟩
    · cases ho
      refine op_plain rfl rfl (fun K hK => ?_)
      refine wp_alloc rfl (al_api_Nat uZ) ?_
      have q1 : fZ 8 = false := Os.not (hO.1) hfi
      exact tell hK hF hS (by decide) ⟨MR.newF 0 hM rfl hfi q1, Gs.other rfl hG, hO.keep rfl, Ns.step hN rfl⟩
    · cases ho
      refine op_plain rfl rfl (fun K hK => ?_)
      have y7 : fZ 7 = true := hdep ⟨7, .data⟩ (by simp) rfl
      obtain ⟨bb, eb, b1, b2, b3⟩ := hM.nw.1 y7
      have eb : tZ 21 = .pointer (some ⟨bb, 0, none⟩) := eb
      have e82 := hG.2.2.2.2.2.1 (hdep ⟨5, .data⟩ (by simp) rfl)
      refine wp_store_mid 25 _ _ rfl bb 0 (LN ((a) * (b) % m) : List Value).toArray ((hV 21 (by decide)).trans eb) ((hV 82 (by decide)).trans e82) (by have h2 := b3; simp only [hfi] at h2; exact h2.there) info_api_Nat (all_one rfl) ?_
      exact tell0 hK hF ⟨MR.putF 0 hM rfl y7 eb b1 rfl, Gs.idle rfl hG, ⟨fun _ => hdep ⟨7, .data⟩ (by simp) rfl, trivial⟩, Ns.idle hN⟩
    · cases ho
      have e83 := hG.2.2.2.2.2.2.1 (hdep ⟨6, .data⟩ (by simp) rfl)
      exact t_assign ((hV 83 (by decide)).trans e83) hF hS rfl rfl rfl rfl (by decide) ⟨hM, Gs.stepA hG rfl rfl, hO.keep rfl, Ns.step hN rfl⟩
  rintro fZ tZ u9 ⟨hM, hG, hO, hN⟩ hall
  have e78 : tZ 78 = _ := hG.1 (hall 0 (by decide))
  have e79 : tZ 79 = _ := hG.2.1 (hall 1 (by decide))
  have e80 : tZ 80 = _ := hG.2.2.1 (hall 2 (by decide))
  have e81 : tZ 81 = _ := hG.2.2.2.1 (hall 3 (by decide))
  have e77 : tZ 77 = _ := hG.2.2.2.2.1 (hall 4 (by decide))
  have e82 : tZ 82 = _ := hG.2.2.2.2.2.1 (hall 5 (by decide))
  have e83 : tZ 83 = _ := hG.2.2.2.2.2.2.1 (hall 6 (by decide))
  have e22 : tZ 22 = _ := hG.2.2.2.2.2.2.2.1 (hall 9 (by decide))
  obtain ⟨b9_7, ee21, pb9_7, lb9_7, kb9_7⟩ := hM.nw.1 (hall 7 (by decide))
  have e21 : tZ 21 = .pointer (some ⟨b9_7, 0, none⟩) := ee21
  clear ee21
  have Kb9_7 : CV u9 b9_7 (LN ((a) * (b) % m)) := by
    have h1 : CV u9 b9_7 (bif fZ 8 then LN ((a) * (b) % m) else L0s) := kb9_7
    rw [hall 8 (by decide)] at h1; exact h1
  clear kb9_7
  have HB9 : Below w.heap.size w u9 := hM.bel
  have sz9 : u8.heap.size ≤ u9.heap.size := hM.sz
  have K9p4 : CV u9 (w.heap.size + 1 + 1) (LN (m)) := hM.ks.2.2.1.2
  have l9p4 : w.heap.size + 1 + 1 < u9.heap.size := Nat.lt_of_lt_of_le hM.ks.2.2.1.1 hM.sz
  have K9n6_8 : CV u9 (b4_8) (LN (a ^ (e / 2).toNat % m)) := hM.ks.2.2.2.1.2
  have l9n6_8 : b4_8 < u9.heap.size := Nat.lt_of_lt_of_le hM.ks.2.2.2.1.1 hM.sz
  have K9n8_10 : CV u9 (b6_10) (LN (a ^ (e / 2 + f / 2).toNat % m)) := hM.ks.2.2.2.2.1.2
  have l9n8_10 : b6_10 < u9.heap.size := Nat.lt_of_lt_of_le hM.ks.2.2.2.2.1.1 hM.sz
  have K9n9_7 : CV u9 (b7_7) (LN ((a ^ (e / 2).toNat % m) * (a ^ (f / 2).toNat % m) % m)) := hM.ks.2.2.2.2.2.1.2
  have l9n9_7 : b7_7 < u9.heap.size := Nat.lt_of_lt_of_le hM.ks.2.2.2.2.2.1.1 hM.sz
  have K9n10_8 : CV u9 (b8_8) (LN (b ^ (e / 2).toNat % m)) := hM.ks.2.2.2.2.2.2.1.2
  have l9n10_8 : b8_8 < u9.heap.size := Nat.lt_of_lt_of_le hM.ks.2.2.2.2.2.2.1.1 hM.sz
  simp only [ovr, List.set_cons_zero, List.set_cons_succ, e78, e79, e80, e81, e77, e82, e83, e22, e21]
  clear hM hG hO hN hall e78 e79 e80 e81 e77 e82 e83 e22 e21 K8n6_8 K8n8_10 K8n9_7 K8p0 K8p1 K8p4 Kb8_8 HB8
  clear tZ
  go_upto_region 12 with fail
  refine region_plain [85, 86, 87, 88, 89, 84, 90, 91, 23, 24] (fun fZ tZ uZ => MR w.heap.size w (u9.heap.size) [(w.heap.size + 1 + 1, LN (m)), (b4_8, LN (a ^ (e / 2).toNat % m)), (b6_10, LN (a ^ (e / 2 + f / 2).toNat % m)), (b7_7, LN ((a ^ (e / 2).toNat % m) * (a ^ (f / 2).toNat % m) % m)), (b8_8, LN (b ^ (e / 2).toNat % m)), (b9_7, LN ((a) * (b) % m))] [] [(fZ 8, fZ 9, tZ 23, L0s, LN (((a) * (b) % m) ^ (e / 2).toNat % m))] uZ ∧ Gs fZ tZ [(0, 85, NV ((a) * (b) % m)), (1, 86, .int .u64 (e / 2)), (2, 87, NV ((e / 2))), (3, 88, NV (m)), (4, 89, .tuple #[NV (((a) * (b) % m) ^ (e / 2).toNat % m), .int .i64 0]), (5, 84, .tuple #[NV (((a) * (b) % m) ^ (e / 2).toNat % m), .int .i64 0]), (6, 90, NV (((a) * (b) % m) ^ (e / 2).toNat % m)), (7, 91, .int .i64 0), (10, 24, .int .i64 0)] ∧ Os fZ [(9, 8)] ∧ Ns fZ tZ []) (by kernel_rfl) ?_ ?_ ?_
  · exact ⟨{ bel := HB9, lo := HB9.size, sz := Nat.le_refl _, ks := ⟨⟨l9p4, K9p4⟩, ⟨l9n6_8, K9n6_8⟩, ⟨l9n8_10, K9n8_10⟩, ⟨l9n9_7, K9n9_7⟩, ⟨l9n10_8, K9n10_8⟩, ⟨lb9_7, Kb9_7⟩, trivial⟩, ex := trivial, nw := ⟨fun e => (by cases e), trivial⟩, nd := ⟨fun e => (by cases e), trivial⟩ }, Gs.none _ _, Os.none _, trivial⟩
  · rintro fZ tZ uZ iZ oZ aZ hF ⟨hM, hG, hO, hN⟩ ho hfi hdep
    have hS : [85, 86, 87, 88, 89, 84, 90, 91, 23, 24].Nodup := by decide
    have hV := hF.evs (N := 107) (by decide) rfl (by decide)
    have il : iZ < 11 := (Array.getElem?_eq_some_iff.1 ho).1
    have ix : iZ = 0 ∨ iZ = 1 ∨ iZ = 2 ∨ iZ = 3 ∨ iZ = 4 ∨ iZ = 5 ∨ iZ = 6 ∨ iZ = 7 ∨ iZ = 8 ∨ iZ = 9 ∨ iZ = 10 := by omega
    rcases ix with rfl | rfl | rfl | rfl | rfl | rfl | rfl | rfl | rfl | rfl | rfl
    · cases ho
      exact t_load (show aZ.eval (.tmp 21) = .pointer (some ⟨b9_7, 0, none⟩) from (hF.out 21 (by decide)).trans rfl) hM.ks.2.2.2.2.2.1.2 Try.underlying25 info_api_Nat hF hS rfl rfl rfl rfl rfl (by decide) ⟨hM, Gs.stepA hG rfl rfl, hO.keep rfl, Ns.step hN rfl⟩
    · cases ho
      exact t_move (show aZ.eval (.tmp 2) = .int .u64 (e / 2) from (hF.out 2 (by decide)).trans rfl) hF hS rfl rfl rfl rfl (by decide) ⟨hM, Gs.stepA hG rfl rfl, hO.keep rfl, Ns.step hN rfl⟩
    · cases ho
      refine op_plain rfl rfl (fun K hK => ?_)
      have e86 := hG.2.1 (hdep ⟨1, .data⟩ (by simp) rfl)
      refine wp_build rfl (vps := [(0, .int .u64 (e / 2))]) (by show [(0, aZ.eval (.tmp 86))] = _; rw [((hV 86 (by decide)).trans e86)]) (bd1 (e / 2) uZ (by omega) (by omega)) ?_
      exact tell hK hF hS (by decide) ⟨hM, Gs.stepA hG rfl rfl, hO.keep rfl, Ns.step hN rfl⟩
    · cases ho
      exact t_load (show aZ.eval (.tmp 9) = .pointer (some ⟨w.heap.size + 1 + 1, 0, none⟩) from (hF.out 9 (by decide)).trans rfl) hM.ks.1.2 Try.underlying25 info_api_Nat hF hS rfl rfl rfl rfl rfl (by decide) ⟨hM, Gs.stepA hG rfl rfl, hO.keep rfl, Ns.step hN rfl⟩
    · cases ho
      have e85 := hG.1 (hdep ⟨0, .data⟩ (by simp) rfl)
      have e87 := hG.2.2.1 (hdep ⟨2, .data⟩ (by simp) rfl)
      have e88 := hG.2.2.2.1 (hdep ⟨3, .data⟩ (by simp) rfl)
      exact t_call (vs := [NV ((a) * (b) % m), NV ((e / 2)), NV (m)]) (by show [aZ.eval (.tmp 85), aZ.eval (.tmp 87), aZ.eval (.tmp 88)] = _; rw [((hV 85 (by decide)).trans e85), ((hV 87 (by decide)).trans e87), ((hV 88 (by decide)).trans e88)]) ent_mod_Exp (mExp ((a) * (b) % m) (e / 2) m uZ (In_mod hm h) (In_k (by omega) (by omega)) hm h) hF hS rfl rfl rfl rfl (by decide) (fun _ hB => ⟨hM.call hB, Gs.stepA hG rfl rfl, hO.keep rfl, Ns.step hN rfl⟩)
    · cases ho
      have e89 := hG.2.2.2.2.1 (hdep ⟨4, .data⟩ (by simp) rfl)
      exact t_move ((hV 89 (by decide)).trans e89) hF hS rfl rfl rfl rfl (by decide) ⟨hM, Gs.stepA hG rfl rfl, hO.keep rfl, Ns.step hN rfl⟩
    · cases ho
      have e84 := hG.2.2.2.2.2.1 (hdep ⟨5, .data⟩ (by simp) rfl)
      exact t_extract ((hV 84 (by decide)).trans e84) hF hS rfl rfl rfl rfl rfl (by decide) ⟨hM, Gs.stepA hG rfl rfl, hO.keep rfl, Ns.step hN rfl⟩
    · cases ho
      have e84 := hG.2.2.2.2.2.1 (hdep ⟨5, .data⟩ (by simp) rfl)
      exact t_extract ((hV 84 (by decide)).trans e84) hF hS rfl rfl rfl rfl rfl (by decide) ⟨hM, Gs.stepA hG rfl rfl, hO.keep rfl, Ns.step hN rfl⟩
    · cases ho
      refine op_plain rfl rfl (fun K hK => ?_)
      refine wp_alloc rfl (al_api_Nat uZ) ?_
      have q1 : fZ 9 = false := Os.not (hO.1) hfi
      exact tell hK hF hS (by decide) ⟨MR.newF 0 hM rfl hfi q1, Gs.other rfl hG, hO.keep rfl, Ns.step hN rfl⟩
    · cases ho
      refine op_plain rfl rfl (fun K hK => ?_)
      have y8 : fZ 8 = true := hdep ⟨8, .data⟩ (by simp) rfl
      obtain ⟨bb, eb, b1, b2, b3⟩ := hM.nw.1 y8
      have eb : tZ 23 = .pointer (some ⟨bb, 0, none⟩) := eb
      have e90 := hG.2.2.2.2.2.2.1 (hdep ⟨6, .data⟩ (by simp) rfl)
      refine wp_store_mid 25 _ _ rfl bb 0 (LN (((a) * (b) % m) ^ (e / 2).toNat % m) : List Value).toArray ((hV 23 (by decide)).trans eb) ((hV 90 (by decide)).trans e90) (by have h2 := b3; simp only [hfi] at h2; exact h2.there) info_api_Nat (all_one rfl) ?_
      exact tell0 hK hF ⟨MR.putF 0 hM rfl y8 eb b1 rfl, Gs.idle rfl hG, ⟨fun _ => hdep ⟨8, .data⟩ (by simp) rfl, trivial⟩, Ns.idle hN⟩
    · cases ho
      have e91 := hG.2.2.2.2.2.2.2.1 (hdep ⟨7, .data⟩ (by simp) rfl)
      exact t_assign ((hV 91 (by decide)).trans e91) hF hS rfl rfl rfl rfl (by decide) ⟨hM, Gs.stepA hG rfl rfl, hO.keep rfl, Ns.step hN rfl⟩
  rintro fZ tZ u10 ⟨hM, hG, hO, hN⟩ hall
  have e85 : tZ 85 = _ := hG.1 (hall 0 (by decide))
  have e86 : tZ 86 = _ := hG.2.1 (hall 1 (by decide))
  have e87 : tZ 87 = _ := hG.2.2.1 (hall 2 (by decide))
  have e88 : tZ 88 = _ := hG.2.2.2.1 (hall 3 (by decide))
  have e89 : tZ 89 = _ := hG.2.2.2.2.1 (hall 4 (by decide))
  have e84 : tZ 84 = _ := hG.2.2.2.2.2.1 (hall 5 (by decide))
  have e90 : tZ 90 = _ := hG.2.2.2.2.2.2.1 (hall 6 (by decide))
  have e91 : tZ 91 = _ := hG.2.2.2.2.2.2.2.1 (hall 7 (by decide))
  have e24 : tZ 24 = _ := hG.2.2.2.2.2.2.2.2.1 (hall 10 (by decide))
  obtain ⟨b10_8, ee23, pb10_8, lb10_8, kb10_8⟩ := hM.nw.1 (hall 8 (by decide))
  have e23 : tZ 23 = .pointer (some ⟨b10_8, 0, none⟩) := ee23
  clear ee23
  have Kb10_8 : CV u10 b10_8 (LN (((a) * (b) % m) ^ (e / 2).toNat % m)) := by
    have h1 : CV u10 b10_8 (bif fZ 9 then LN (((a) * (b) % m) ^ (e / 2).toNat % m) else L0s) := kb10_8
    rw [hall 9 (by decide)] at h1; exact h1
  clear kb10_8
  have HB10 : Below w.heap.size w u10 := hM.bel
  have sz10 : u9.heap.size ≤ u10.heap.size := hM.sz
  have K10p4 : CV u10 (w.heap.size + 1 + 1) (LN (m)) := hM.ks.1.2
  have l10p4 : w.heap.size + 1 + 1 < u10.heap.size := Nat.lt_of_lt_of_le hM.ks.1.1 hM.sz
  have K10n6_8 : CV u10 (b4_8) (LN (a ^ (e / 2).toNat % m)) := hM.ks.2.1.2
  have l10n6_8 : b4_8 < u10.heap.size := Nat.lt_of_lt_of_le hM.ks.2.1.1 hM.sz
  have K10n8_10 : CV u10 (b6_10) (LN (a ^ (e / 2 + f / 2).toNat % m)) := hM.ks.2.2.1.2
  have l10n8_10 : b6_10 < u10.heap.size := Nat.lt_of_lt_of_le hM.ks.2.2.1.1 hM.sz
  have K10n9_7 : CV u10 (b7_7) (LN ((a ^ (e / 2).toNat % m) * (a ^ (f / 2).toNat % m) % m)) := hM.ks.2.2.2.1.2
  have l10n9_7 : b7_7 < u10.heap.size := Nat.lt_of_lt_of_le hM.ks.2.2.2.1.1 hM.sz
  have K10n10_8 : CV u10 (b8_8) (LN (b ^ (e / 2).toNat % m)) := hM.ks.2.2.2.2.1.2
  have l10n10_8 : b8_8 < u10.heap.size := Nat.lt_of_lt_of_le hM.ks.2.2.2.2.1.1 hM.sz
  simp only [ovr, List.set_cons_zero, List.set_cons_succ, e85, e86, e87, e88, e89, e84, e90, e91, e24, e23]
  clear hM hG hO hN hall e85 e86 e87 e88 e89 e84 e90 e91 e24 e23 K9n10_8 K9n6_8 K9n8_10 K9n9_7 K9p4 Kb9_7 HB9
  clear tZ
  go_upto_region 13 with fail
  refine region_plain [93, 94, 95, 96, 92, 97, 98, 25, 26] (fun fZ tZ uZ => MR w.heap.size w (u10.heap.size) [(w.heap.size + 1 + 1, LN (m)), (b4_8, LN (a ^ (e / 2).toNat % m)), (b6_10, LN (a ^ (e / 2 + f / 2).toNat % m)), (b7_7, LN ((a ^ (e / 2).toNat % m) * (a ^ (f / 2).toNat % m) % m)), (b8_8, LN (b ^ (e / 2).toNat % m)), (b10_8, LN (((a) * (b) % m) ^ (e / 2).toNat % m))] [] [(fZ 7, fZ 8, tZ 25, L0s, LN ((a ^ (e / 2).toNat % m) * (b ^ (e / 2).toNat % m) % m))] uZ ∧ Gs fZ tZ [(0, 93, NV (a ^ (e / 2).toNat % m)), (1, 94, NV (b ^ (e / 2).toNat % m)), (2, 95, NV (m)), (3, 96, .tuple #[NV ((a ^ (e / 2).toNat % m) * (b ^ (e / 2).toNat % m) % m), .int .i64 0]), (4, 92, .tuple #[NV ((a ^ (e / 2).toNat % m) * (b ^ (e / 2).toNat % m) % m), .int .i64 0]), (5, 97, NV ((a ^ (e / 2).toNat % m) * (b ^ (e / 2).toNat % m) % m)), (6, 98, .int .i64 0), (9, 26, .int .i64 0)] ∧ Os fZ [(8, 7)] ∧ Ns fZ tZ []) (by kernel_rfl) ?_ ?_ ?_
  · exact ⟨{ bel := HB10, lo := HB10.size, sz := Nat.le_refl _, ks := ⟨⟨l10p4, K10p4⟩, ⟨l10n6_8, K10n6_8⟩, ⟨l10n8_10, K10n8_10⟩, ⟨l10n9_7, K10n9_7⟩, ⟨l10n10_8, K10n10_8⟩, ⟨lb10_8, Kb10_8⟩, trivial⟩, ex := trivial, nw := ⟨fun e => (by cases e), trivial⟩, nd := ⟨fun e => (by cases e), trivial⟩ }, Gs.none _ _, Os.none _, trivial⟩
  · rintro fZ tZ uZ iZ oZ aZ hF ⟨hM, hG, hO, hN⟩ ho hfi hdep
    have hS : [93, 94, 95, 96, 92, 97, 98, 25, 26].Nodup := by decide
    have hV := hF.evs (N := 107) (by decide) rfl (by decide)
    have il : iZ < 10 := (Array.getElem?_eq_some_iff.1 ho).1
    have ix : iZ = 0 ∨ iZ = 1 ∨ iZ = 2 ∨ iZ = 3 ∨ iZ = 4 ∨ iZ = 5 ∨ iZ = 6 ∨ iZ = 7 ∨ iZ = 8 ∨ iZ = 9 := by omega
    rcases ix with rfl | rfl | rfl | rfl | rfl | rfl | rfl | rfl | rfl | rfl
    · cases ho
      exact t_load (show aZ.eval (.tmp 11) = .pointer (some ⟨b4_8, 0, none⟩) from (hF.out 11 (by decide)).trans rfl) hM.ks.2.1.2 Try.underlying25 info_api_Nat hF hS rfl rfl rfl rfl rfl (by decide) ⟨hM, Gs.stepA hG rfl rfl, hO.keep rfl, Ns.step hN rfl⟩
    · cases ho
      exact t_load (show aZ.eval (.tmp 19) = .pointer (some ⟨b8_8, 0, none⟩) from (hF.out 19 (by decide)).trans rfl) hM.ks.2.2.2.2.1.2 Try.underlying25 info_api_Nat hF hS rfl rfl rfl rfl rfl (by decide) ⟨hM, Gs.stepA hG rfl rfl, hO.keep rfl, Ns.step hN rfl⟩
    · cases ho
      exact t_load (show aZ.eval (.tmp 9) = .pointer (some ⟨w.heap.size + 1 + 1, 0, none⟩) from (hF.out 9 (by decide)).trans rfl) hM.ks.1.2 Try.underlying25 info_api_Nat hF hS rfl rfl rfl rfl rfl (by decide) ⟨hM, Gs.stepA hG rfl rfl, hO.keep rfl, Ns.step hN rfl⟩
    · cases ho
      have e93 := hG.1 (hdep ⟨0, .data⟩ (by simp) rfl)
      have e94 := hG.2.1 (hdep ⟨1, .data⟩ (by simp) rfl)
      have e95 := hG.2.2.1 (hdep ⟨2, .data⟩ (by simp) rfl)
      exact t_call (vs := [NV (a ^ (e / 2).toNat % m), NV (b ^ (e / 2).toNat % m), NV (m)]) (by show [aZ.eval (.tmp 93), aZ.eval (.tmp 94), aZ.eval (.tmp 95)] = _; rw [((hV 93 (by decide)).trans e93), ((hV 94 (by decide)).trans e94), ((hV 95 (by decide)).trans e95)]) ent_mod_Mul (mMul (a ^ (e / 2).toNat % m) (b ^ (e / 2).toNat % m) m uZ (In_mod hm h) (In_mod hm h) hm h) hF hS rfl rfl rfl rfl (by decide) (fun _ hB => ⟨hM.call hB, Gs.stepA hG rfl rfl, hO.keep rfl, Ns.step hN rfl⟩)
    · cases ho
      have e96 := hG.2.2.2.1 (hdep ⟨3, .data⟩ (by simp) rfl)
      exact t_move ((hV 96 (by decide)).trans e96) hF hS rfl rfl rfl rfl (by decide) ⟨hM, Gs.stepA hG rfl rfl, hO.keep rfl, Ns.step hN rfl⟩
    · cases ho
      have e92 := hG.2.2.2.2.1 (hdep ⟨4, .data⟩ (by simp) rfl)
      exact t_extract ((hV 92 (by decide)).trans e92) hF hS rfl rfl rfl rfl rfl (by decide) ⟨hM, Gs.stepA hG rfl rfl, hO.keep rfl, Ns.step hN rfl⟩
    · cases ho
      have e92 := hG.2.2.2.2.1 (hdep ⟨4, .data⟩ (by simp) rfl)
      exact t_extract ((hV 92 (by decide)).trans e92) hF hS rfl rfl rfl rfl rfl (by decide) ⟨hM, Gs.stepA hG rfl rfl, hO.keep rfl, Ns.step hN rfl⟩
    · cases ho
      refine op_plain rfl rfl (fun K hK => ?_)
      refine wp_alloc rfl (al_api_Nat uZ) ?_
      have q1 : fZ 8 = false := Os.not (hO.1) hfi
      exact tell hK hF hS (by decide) ⟨MR.newF 0 hM rfl hfi q1, Gs.other rfl hG, hO.keep rfl, Ns.step hN rfl⟩
    · cases ho
      refine op_plain rfl rfl (fun K hK => ?_)
      have y7 : fZ 7 = true := hdep ⟨7, .data⟩ (by simp) rfl
      obtain ⟨bb, eb, b1, b2, b3⟩ := hM.nw.1 y7
      have eb : tZ 25 = .pointer (some ⟨bb, 0, none⟩) := eb
      have e97 := hG.2.2.2.2.2.1 (hdep ⟨5, .data⟩ (by simp) rfl)
      refine wp_store_mid 25 _ _ rfl bb 0 (LN ((a ^ (e / 2).toNat % m) * (b ^ (e / 2).toNat % m) % m) : List Value).toArray ((hV 25 (by decide)).trans eb) ((hV 97 (by decide)).trans e97) (by have h2 := b3; simp only [hfi] at h2; exact h2.there) info_api_Nat (all_one rfl) ?_
      exact tell0 hK hF ⟨MR.putF 0 hM rfl y7 eb b1 rfl, Gs.idle rfl hG, ⟨fun _ => hdep ⟨7, .data⟩ (by simp) rfl, trivial⟩, Ns.idle hN⟩
    · cases ho
      have e98 := hG.2.2.2.2.2.2.1 (hdep ⟨6, .data⟩ (by simp) rfl)
      exact t_assign ((hV 98 (by decide)).trans e98) hF hS rfl rfl rfl rfl (by decide) ⟨hM, Gs.stepA hG rfl rfl, hO.keep rfl, Ns.step hN rfl⟩
  rintro fZ tZ u11 ⟨hM, hG, hO, hN⟩ hall
  have e93 : tZ 93 = _ := hG.1 (hall 0 (by decide))
  have e94 : tZ 94 = _ := hG.2.1 (hall 1 (by decide))
  have e95 : tZ 95 = _ := hG.2.2.1 (hall 2 (by decide))
  have e96 : tZ 96 = _ := hG.2.2.2.1 (hall 3 (by decide))
  have e92 : tZ 92 = _ := hG.2.2.2.2.1 (hall 4 (by decide))
  have e97 : tZ 97 = _ := hG.2.2.2.2.2.1 (hall 5 (by decide))
  have e98 : tZ 98 = _ := hG.2.2.2.2.2.2.1 (hall 6 (by decide))
  have e26 : tZ 26 = _ := hG.2.2.2.2.2.2.2.1 (hall 9 (by decide))
  obtain ⟨b11_7, ee25, pb11_7, lb11_7, kb11_7⟩ := hM.nw.1 (hall 7 (by decide))
  have e25 : tZ 25 = .pointer (some ⟨b11_7, 0, none⟩) := ee25
  clear ee25
  have Kb11_7 : CV u11 b11_7 (LN ((a ^ (e / 2).toNat % m) * (b ^ (e / 2).toNat % m) % m)) := by
    have h1 : CV u11 b11_7 (bif fZ 8 then LN ((a ^ (e / 2).toNat % m) * (b ^ (e / 2).toNat % m) % m) else L0s) := kb11_7
    rw [hall 8 (by decide)] at h1; exact h1
  clear kb11_7
  have HB11 : Below w.heap.size w u11 := hM.bel
  have sz11 : u10.heap.size ≤ u11.heap.size := hM.sz
  have K11n8_10 : CV u11 (b6_10) (LN (a ^ (e / 2 + f / 2).toNat % m)) := hM.ks.2.2.1.2
  have l11n8_10 : b6_10 < u11.heap.size := Nat.lt_of_lt_of_le hM.ks.2.2.1.1 hM.sz
  have K11n9_7 : CV u11 (b7_7) (LN ((a ^ (e / 2).toNat % m) * (a ^ (f / 2).toNat % m) % m)) := hM.ks.2.2.2.1.2
  have l11n9_7 : b7_7 < u11.heap.size := Nat.lt_of_lt_of_le hM.ks.2.2.2.1.1 hM.sz
  have K11n12_8 : CV u11 (b10_8) (LN (((a) * (b) % m) ^ (e / 2).toNat % m)) := hM.ks.2.2.2.2.2.1.2
  have l11n12_8 : b10_8 < u11.heap.size := Nat.lt_of_lt_of_le hM.ks.2.2.2.2.2.1.1 hM.sz
  simp only [ovr, List.set_cons_zero, List.set_cons_succ, e93, e94, e95, e96, e92, e97, e98, e26, e25]
  clear hM hG hO hN hall e93 e94 e95 e96 e92 e97 e98 e26 e25 K10n10_8 K10n6_8 K10n8_10 K10n9_7 K10p4 Kb10_8 HB10
  clear tZ
  go_upto_region 14 with fail
  refine region_plain [99, 100, 101, 102, 103, 104, 105, 106, 10] (fun fZ tZ uZ => MR w.heap.size w (u11.heap.size) [(b6_10, LN (a ^ (e / 2 + f / 2).toNat % m)), (b7_7, LN ((a ^ (e / 2).toNat % m) * (a ^ (f / 2).toNat % m) % m)), (b10_8, LN (((a) * (b) % m) ^ (e / 2).toNat % m)), (b11_7, LN ((a ^ (e / 2).toNat % m) * (b ^ (e / 2).toNat % m) % m))] [] [] uZ ∧ Gs fZ tZ [(0, 99, NV ((a ^ (e / 2).toNat % m) * (a ^ (f / 2).toNat % m) % m)), (1, 100, NV (a ^ (e / 2 + f / 2).toNat % m)), (2, 101, .bool true), (3, 102, .bool true), (4, 103, NV ((a ^ (e / 2).toNat % m) * (b ^ (e / 2).toNat % m) % m)), (5, 104, NV (((a) * (b) % m) ^ (e / 2).toNat % m)), (6, 105, .bool true), (7, 106, .bool true), (8, 10, .bool true)] ∧ Os fZ [] ∧ Ns fZ tZ []) (by kernel_rfl) ?_ ?_ ?_
  · exact ⟨{ bel := HB11, lo := HB11.size, sz := Nat.le_refl _, ks := ⟨⟨l11n8_10, K11n8_10⟩, ⟨l11n9_7, K11n9_7⟩, ⟨l11n12_8, K11n12_8⟩, ⟨lb11_7, Kb11_7⟩, trivial⟩, ex := trivial, nw := trivial, nd := trivial }, Gs.none _ _, Os.none _, trivial⟩
  · rintro fZ tZ uZ iZ oZ aZ hF ⟨hM, hG, hO, hN⟩ ho hfi hdep
    have hS : [99, 100, 101, 102, 103, 104, 105, 106, 10].Nodup := by decide
    have hV := hF.evs (N := 107) (by decide) rfl (by decide)
    have il : iZ < 9 := (Array.getElem?_eq_some_iff.1 ho).1
    have ix : iZ = 0 ∨ iZ = 1 ∨ iZ = 2 ∨ iZ = 3 ∨ iZ = 4 ∨ iZ = 5 ∨ iZ = 6 ∨ iZ = 7 ∨ iZ = 8 := by omega
    rcases ix with rfl | rfl | rfl | rfl | rfl | rfl | rfl | rfl | rfl
    · cases ho
      exact t_load (show aZ.eval (.tmp 17) = .pointer (some ⟨b7_7, 0, none⟩) from (hF.out 17 (by decide)).trans rfl) hM.ks.2.1.2 Try.underlying25 info_api_Nat hF hS rfl rfl rfl rfl rfl (by decide) ⟨hM, Gs.stepA hG rfl rfl, trivial, Ns.step hN rfl⟩
    · cases ho
      exact t_load (show aZ.eval (.tmp 15) = .pointer (some ⟨b6_10, 0, none⟩) from (hF.out 15 (by decide)).trans rfl) hM.ks.1.2 Try.underlying25 info_api_Nat hF hS rfl rfl rfl rfl rfl (by decide) ⟨hM, Gs.stepA hG rfl rfl, trivial, Ns.step hN rfl⟩
    · cases ho
      refine op_plain rfl rfl (fun K hK => ?_)
      have e99 := hG.1 (hdep ⟨0, .data⟩ (by simp) rfl)
      have e100 := hG.2.1 (hdep ⟨1, .data⟩ (by simp) rfl)
      refine wp_bin rfl ((hV 99 (by decide)).trans e99) ((hV 100 (by decide)).trans e100) (eql_n _ _ (In_mod hm h) (In_mod hm h) true (decide_eq_true H1.out) uZ) ?_
      exact tell hK hF hS (by decide) ⟨hM, Gs.stepA hG rfl rfl, trivial, Ns.step hN rfl⟩
    · cases ho
      have e101 := hG.2.2.1 (hdep ⟨2, .data⟩ (by simp) rfl)
      exact t_move ((hV 101 (by decide)).trans e101) hF hS rfl rfl rfl rfl (by decide) ⟨hM, Gs.stepA hG rfl rfl, trivial, Ns.step hN rfl⟩
    · cases ho
      refine wpOp_step rfl (fun K hK => ?_)
      have yg : fZ 3 = true := hdep ⟨3, .guard⟩ (by simp) rfl
      have eg : tZ 102 = .bool true := hG.2.2.2.1 yg
      rw [if_pos (wanted_of rfl rfl (show aZ.tmps[102]? = some (.bool true) by rw [hF.tmps (N := 107) (by decide) rfl 102 (by decide) (by decide), eg]))]
      refine wp_load_mid 25 _ rfl _ 0 (show aZ.eval (.tmp 25) = .pointer (some ⟨b11_7, 0, none⟩) from (hF.out 25 (by decide)).trans rfl) _ _ (CV.range hM.ks.2.2.2.1.2) Try.underlying25 rfl info_api_Nat ?_
      exact tell hK hF hS (by decide) ⟨hM, Gs.stepA hG rfl rfl, trivial, Ns.step hN rfl⟩
    · cases ho
      refine wpOp_step rfl (fun K hK => ?_)
      have yg : fZ 3 = true := hdep ⟨3, .guard⟩ (by simp) rfl
      have eg : tZ 102 = .bool true := hG.2.2.2.1 yg
      rw [if_pos (wanted_of rfl rfl (show aZ.tmps[102]? = some (.bool true) by rw [hF.tmps (N := 107) (by decide) rfl 102 (by decide) (by decide), eg]))]
      refine wp_load_mid 25 _ rfl _ 0 (show aZ.eval (.tmp 23) = .pointer (some ⟨b10_8, 0, none⟩) from (hF.out 23 (by decide)).trans rfl) _ _ (CV.range hM.ks.2.2.1.2) Try.underlying25 rfl info_api_Nat ?_
      exact tell hK hF hS (by decide) ⟨hM, Gs.stepA hG rfl rfl, trivial, Ns.step hN rfl⟩
    · cases ho
      refine wpOp_step rfl (fun K hK => ?_)
      have yg : fZ 3 = true := hdep ⟨3, .guard⟩ (by simp) rfl
      have eg : tZ 102 = .bool true := hG.2.2.2.1 yg
      rw [if_pos (wanted_of rfl rfl (show aZ.tmps[102]? = some (.bool true) by rw [hF.tmps (N := 107) (by decide) rfl 102 (by decide) (by decide), eg]))]
      have e103 := hG.2.2.2.2.1 (hdep ⟨4, .data⟩ (by simp) rfl)
      have e104 := hG.2.2.2.2.2.1 (hdep ⟨5, .data⟩ (by simp) rfl)
      refine wp_bin rfl ((hV 103 (by decide)).trans e103) ((hV 104 (by decide)).trans e104) (eql_n _ _ (In_mod hm h) (In_mod hm h) true (decide_eq_true H2.out) uZ) ?_
      exact tell hK hF hS (by decide) ⟨hM, Gs.stepA hG rfl rfl, trivial, Ns.step hN rfl⟩
    · cases ho
      refine op_plain rfl rfl (fun K hK => ?_)
      have e102 := hG.2.2.2.1 (hdep ⟨3, .data⟩ (by simp) rfl)
      have e105 := hG.2.2.2.2.2.2.1 (hdep ⟨6, .data⟩ (by simp) rfl)
      refine wp_pick rfl ((hV 102 (by decide)).trans e102) (b := true) ((if_pos rfl).trans ((hV 105 (by decide)).trans e105)) ?_
      exact tell hK hF hS (by decide) ⟨hM, Gs.stepA hG rfl rfl, trivial, Ns.step hN rfl⟩
    · cases ho
      have e106 := hG.2.2.2.2.2.2.2.1 (hdep ⟨7, .data⟩ (by simp) rfl)
      exact t_assign ((hV 106 (by decide)).trans e106) hF hS rfl rfl rfl rfl (by decide) ⟨hM, Gs.stepA hG rfl rfl, trivial, Ns.step hN rfl⟩
  rintro fZ tZ u12 ⟨hM, hG, hO, hN⟩ hall
  have e99 : tZ 99 = _ := hG.1 (hall 0 (by decide))
  have e100 : tZ 100 = _ := hG.2.1 (hall 1 (by decide))
  have e101 : tZ 101 = _ := hG.2.2.1 (hall 2 (by decide))
  have e102 : tZ 102 = _ := hG.2.2.2.1 (hall 3 (by decide))
  have e103 : tZ 103 = _ := hG.2.2.2.2.1 (hall 4 (by decide))
  have e104 : tZ 104 = _ := hG.2.2.2.2.2.1 (hall 5 (by decide))
  have e105 : tZ 105 = _ := hG.2.2.2.2.2.2.1 (hall 6 (by decide))
  have e106 : tZ 106 = _ := hG.2.2.2.2.2.2.2.1 (hall 7 (by decide))
  have e10 : tZ 10 = _ := hG.2.2.2.2.2.2.2.2.1 (hall 8 (by decide))
  have HB12 : Below w.heap.size w u12 := hM.bel
  have sz12 : u11.heap.size ≤ u12.heap.size := hM.sz
  simp only [ovr, List.set_cons_zero, List.set_cons_succ, e99, e100, e101, e102, e103, e104, e105, e106, e10]
  clear hM hG hO hN hall e99 e100 e101 e102 e103 e104 e105 e106 e10 K11n12_8 K11n8_10 K11n9_7 Kb11_7 HB11
  clear tZ
  go_wp2
  refine bodyPost_ret (v := .bool true) (by simp [results, Try.results10, go_sem, ]) rfl ⟨rfl, HB12⟩
theorem modExponents_any (a b e f m : Int) (w : World) (ha : In a) (hb : In b) (he : W64 e) (hf : W64 f) (hm : In m) : Calls Try.prog 10 #[NV a, NV b, .int .u64 e, .int .u64 f, NV m] w fun en w' => en = .returned (.bool true) ∧ Below w.heap.size w w' := by
  by_cases h : m = 0
  · exact modExponents_0 a b e f m w ha hb he hf hm h
  · exact modExponents_1 a b e f m w ha hb he hf hm h
end Go.Proofs.Ytnmkbihjbnbkkaa
