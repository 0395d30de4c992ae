/- The reference's Exp. -/
import Derived.Test.YtnmkbihjbnbkkaaMA3r
import Derived.Test.YtnmkbihjbnbkkaaNN
import Derived.Test.YtnmkbihjbnbkkaaB45
import Derived.Test.YtnmkbihjbnbkkaaRS
import Derived.Test.YtnmkbihjbnbkkaaMO5
namespace Go.Proofs.Ytnmkbihjbnbkkaa
open Go.RowKit
set_option linter.unusedVariables false
set_option linter.unusedSimpArgs false
theorem nrLen (e : Int) (w : World) : Calls Try.prog 61 #[NV e] w fun en w' => en = .returned (.int .i64 (lenI e)) ∧ Below w.heap.size w w' :=
  rLength_any _ _ _ _ w (W_D0 e) (W_D1 e) (W_D2 e) (W_D3 e)
theorem nrBit (e i : Int) (w : World) (h0 : 0 ≤ i) (h1 : i < 256) : Calls Try.prog 62 #[NV e, .int .i64 i] w fun en w' => en = .returned (.bool (bitI e i)) ∧ Below w.heap.size w w' := by
  rw [← bitv_I h0 h1]; exact rBit_any _ _ _ _ i w (W_D0 e) (W_D1 e) (W_D2 e) (W_D3 e)
theorem bdw1 (w : World) : (Instr.build 37 [(0, .int .u64 1)].toArray).run Try.prog w = .ok (WV 1) w := by
  have e : WV 1 = A8 1 0 0 0 0 0 0 0 := WV_of 1 1 0 0 0 0 0 0 0 ⟨by omega, by omega⟩ W_0 W_0 W_0 W_0 W_0 W_0 W_0 (by simp [V])
  have k : (Instr.build 37 [(0, .int .u64 1)].toArray).run Try.prog w = .ok (A8 1 0 0 0 0 0 0 0) w := by kernel_rfl
  rw [e]; exact k
theorem geq_i (p q : Operand) (x y : Int) (b : Bool) (w : World) (h : decide (y ≤ x) = b) : (do eqGuard .geq 3 p q (.int .i64 x) (.int .i64 y); binOp .geq 3 (.int .i64 x) (.int .i64 y) : Sem Value).run Try.prog w = .ok (.bool b) w := by
  subst h; go_simp
set_option maxRecDepth 100000 in
set_option maxHeartbeats 2000000 in
theorem xExpP (P : Nat → Int) (a e m : Int) (w : World) (ha : In a) (he : In e) (hm : In m) (h : m ≠ 0) (hP0 : P 0 = 1 % m)
    (hQ : Hid (∀ i j u, Calls Try.prog 25 #[NV (P i), NV (P j), NV m] u fun en u' => en = .returned (.tuple #[NV (P (i + j)), .int .i64 0]) ∧ Below u.heap.size u u'))
    (hU : Hid (∀ i u, Calls Try.prog 25 #[NV (P i), NV a, NV m] u fun en u' => en = .returned (.tuple #[NV (P (i + 1)), .int .i64 0]) ∧ Below u.heap.size u u')) :
    Calls Try.prog 30 #[NV a, NV e, NV m] w fun en w' => en = .returned (.tuple #[NV (P e.toNat), .int .i64 0]) ∧ Below w.heap.size w w' := by
  have hb := lenI_bd e
  obtain ⟨L, hLe⟩ : ∃ L : Nat, lenI e = (L : Int) := ⟨(lenI e).toNat, by omega⟩
  have hL : Hid (∀ u, Calls Try.prog 61 #[NV e] u fun en u' => en = .returned (.int .i64 (L : Int)) ∧ Below u.heap.size u u') := fun u => by rw [← hLe]; exact nrLen e u
  have hlt := lenI_lt he
  rw [hLe] at hlt hb
  have h0 : Hid (P (e / 2 ^ L).toNat = 1 % m) := by
    show P (e / 2 ^ L).toNat = 1 % m
    rw [Int.ediv_eq_zero_of_lt he.1 (by simpa using hlt), ← hP0]; rfl
  have hL256 : L ≤ 256 := by omega
  clear hLe hlt hb hP0
  go_enter Try.func30, Try.ntmps30
  go_upto_region 1 with fail
  have HB0 : Below w.heap.size w ((((w.alloc (.cells (LN a : List Value).toArray 25)).alloc (.cells (LN e : List Value).toArray 25)).alloc (.cells (LN m : List Value).toArray 25)).alloc (.cells (L0s : List Value).toArray 25)) := (balloc (balloc (balloc (balloc (bself w) _) _) _) _)
  have K0p0 : CV ((((w.alloc (.cells (LN a : List Value).toArray 25)).alloc (.cells (LN e : List Value).toArray 25)).alloc (.cells (LN m : List Value).toArray 25)).alloc (.cells (L0s : List Value).toArray 25)) (w.heap.size) (LN a) := ((((CV.new w (LN a) 25).alloc (by simp <;> omega) _).alloc (by simp <;> omega) _).alloc (by simp <;> omega) _)
  have l0p0 : w.heap.size < ((((w.alloc (.cells (LN a : List Value).toArray 25)).alloc (.cells (LN e : List Value).toArray 25)).alloc (.cells (LN m : List Value).toArray 25)).alloc (.cells (L0s : List Value).toArray 25)).heap.size := by simp <;> omega
  have K0p1 : CV ((((w.alloc (.cells (LN a : List Value).toArray 25)).alloc (.cells (LN e : List Value).toArray 25)).alloc (.cells (LN m : List Value).toArray 25)).alloc (.cells (L0s : List Value).toArray 25)) (w.heap.size + 1) (LN e) := (((CV.newAt (w.alloc (.cells (LN a : List Value).toArray 25)) (LN e) 25 _ (by simp)).alloc (by simp <;> omega) _).alloc (by simp <;> omega) _)
  have l0p1 : w.heap.size + 1 < ((((w.alloc (.cells (LN a : List Value).toArray 25)).alloc (.cells (LN e : List Value).toArray 25)).alloc (.cells (LN m : List Value).toArray 25)).alloc (.cells (L0s : List Value).toArray 25)).heap.size := by simp <;> omega
  have K0p2 : CV ((((w.alloc (.cells (LN a : List Value).toArray 25)).alloc (.cells (LN e : List Value).toArray 25)).alloc (.cells (LN m : List Value).toArray 25)).alloc (.cells (L0s : List Value).toArray 25)) (w.heap.size + 1 + 1) (LN m) := ((CV.newAt ((w.alloc (.cells (LN a : List Value).toArray 25)).alloc (.cells (LN e : List Value).toArray 25)) (LN m) 25 _ (by simp)).alloc (by simp <;> omega) _)
  have l0p2 : w.heap.size + 1 + 1 < ((((w.alloc (.cells (LN a : List Value).toArray 25)).alloc (.cells (LN e : List Value).toArray 25)).alloc (.cells (LN m : List Value).toArray 25)).alloc (.cells (L0s : List Value).toArray 25)).heap.size := by simp <;> omega
  have K0r6 : CV ((((w.alloc (.cells (LN a : List Value).toArray 25)).alloc (.cells (LN e : List Value).toArray 25)).alloc (.cells (LN m : List Value).toArray 25)).alloc (.cells (L0s : List Value).toArray 25)) (w.heap.size + 1 + 1 + 1) (L0s) := (CV.newAt (((w.alloc (.cells (LN a : List Value).toArray 25)).alloc (.cells (LN e : List Value).toArray 25)).alloc (.cells (LN m : List Value).toArray 25)) (L0s) 25 _ (by simp))
  have l0r6 : w.heap.size + 1 + 1 + 1 < ((((w.alloc (.cells (LN a : List Value).toArray 25)).alloc (.cells (LN e : List Value).toArray 25)).alloc (.cells (LN m : List Value).toArray 25)).alloc (.cells (L0s : List Value).toArray 25)).heap.size := by simp <;> omega
  generalize ((((w.alloc (.cells (LN a : List Value).toArray 25)).alloc (.cells (LN e : List Value).toArray 25)).alloc (.cells (LN m : List Value).toArray 25)).alloc (.cells (L0s : List Value).toArray 25)) = v0 at *
  refine region_plain [12, 13, 14, 11, 15, 16, 8, 9] (fun fZ tZ uZ => MR w.heap.size w (v0.heap.size) [(w.heap.size, LN a), (w.heap.size + 1, LN e), (w.heap.size + 1 + 1, LN m), (w.heap.size + 1 + 1 + 1, L0s)] [] [(fZ 6, fZ 7, tZ 8, L0s, LN (1 % m))] uZ ∧ Gs fZ tZ [(0, 12, WV 1), (1, 13, NV m), (2, 14, .tuple #[NV (1 % m), .int .i64 0]), (3, 11, .tuple #[NV (1 % m), .int .i64 0]), (4, 15, NV (1 % m)), (5, 16, .int .i64 0), (8, 9, .int .i64 0)] ∧ Os fZ [(7, 6)] ∧ Ns fZ tZ []) (by kernel_rfl) ?_ ?_ ?_
  · exact ⟨{ bel := HB0, lo := HB0.size, sz := Nat.le_refl _, ks := ⟨⟨l0p0, K0p0⟩, ⟨l0p1, K0p1⟩, ⟨l0p2, K0p2⟩, ⟨l0r6, K0r6⟩, trivial⟩, ex := trivial, nw := ⟨fun e => (by cases e), trivial⟩, nd := ⟨fun e => (by cases e), trivial⟩ }, Gs.none _ _, Os.none _, trivial⟩
  · rintro fZ tZ uZ iZ oZ aZ hF ⟨hM, hG, hO, hN⟩ ho hfi hdep
    have hS : [12, 13, 14, 11, 15, 16, 8, 9].Nodup := by decide
    have hV := hF.evs (N := 46) (by decide) rfl (by decide)
    have il : iZ < 9 := (Array.getElem?_eq_some_iff.1 ho).1
    have ix : iZ = 0 ∨ iZ = 1 ∨ iZ = 2 ∨ iZ = 3 ∨ iZ = 4 ∨ iZ = 5 ∨ iZ = 6 ∨ iZ = 7 ∨ iZ = 8 := by omega
    rcases ix with rfl | rfl | rfl | rfl | rfl | rfl | rfl | rfl | rfl
    · cases ho; refine op_plain rfl rfl (fun K hK => ?_)
      refine wp_build rfl (vps := [(0, (Go.Value.int Go.IntKind.u64 1))]) (by show [(0, (Go.Value.int Go.IntKind.u64 1))] = _; rfl) (bdw1 uZ) ?_
      exact tell hK hF hS (by decide) ⟨hM, Gs.stepA hG rfl rfl, hO.keep rfl, Ns.step hN rfl⟩
    · cases ho; exact t_load (show aZ.eval (.tmp 5) = .pointer (some ⟨w.heap.size + 1 + 1, 0, none⟩) from (hF.out 5 (by decide)).trans rfl) hM.ks.2.2.1.2 Try.underlying25 info_api_Nat hF hS rfl rfl rfl rfl rfl (by decide) ⟨hM, Gs.stepA hG rfl rfl, hO.keep rfl, Ns.step hN rfl⟩
    · cases ho; have e12 := hG.1 (hdep ⟨0, .data⟩ (by simp) rfl)
      have e13 := hG.2.1 (hdep ⟨1, .data⟩ (by simp) rfl)
      exact t_call (vs := [WV 1, NV m]) (by show [aZ.eval (.tmp 12), aZ.eval (.tmp 13)] = _; rw [((hV 12 (by decide)).trans e12), ((hV 13 (by decide)).trans e13)]) ent_seneschalref02_Reduce (xReduce 1 m uZ In_1.wide hm h) hF hS rfl rfl rfl rfl (by decide) (fun _ hB => ⟨hM.call hB, Gs.stepA hG rfl rfl, hO.keep rfl, Ns.step hN rfl⟩)
    · cases ho; have e14 := hG.2.2.1 (hdep ⟨2, .data⟩ (by simp) rfl)
      exact t_move ((hV 14 (by decide)).trans e14) hF hS rfl rfl rfl rfl (by decide) ⟨hM, Gs.stepA hG rfl rfl, hO.keep rfl, Ns.step hN rfl⟩
    · cases ho; have e11 := hG.2.2.2.1 (hdep ⟨3, .data⟩ (by simp) rfl)
      exact t_extract ((hV 11 (by decide)).trans e11) hF hS rfl rfl rfl rfl rfl (by decide) ⟨hM, Gs.stepA hG rfl rfl, hO.keep rfl, Ns.step hN rfl⟩
    · cases ho; have e11 := hG.2.2.2.1 (hdep ⟨3, .data⟩ (by simp) rfl)
      exact t_extract ((hV 11 (by decide)).trans e11) hF hS rfl rfl rfl rfl rfl (by decide) ⟨hM, Gs.stepA hG rfl rfl, hO.keep rfl, Ns.step hN rfl⟩
    · cases ho; have q1 : fZ 7 = false := Os.not (hO.1) hfi
      exact t_alloc (al_api_Nat uZ) hF hS rfl rfl rfl rfl (by decide) ⟨MR.newF 0 hM rfl hfi q1, Gs.other rfl hG, hO.keep rfl, Ns.step hN rfl⟩
    · cases ho; have e15 := hG.2.2.2.2.1 (hdep ⟨4, .data⟩ (by simp) rfl)
      exact t_storeN 0 hM rfl (hdep ⟨6, .data⟩ (by simp) rfl) hfi (hV 8 (by decide)) ((hV 15 (by decide)).trans e15) rfl info_api_Nat rfl hF rfl rfl rfl rfl (fun _ h => ⟨h, Gs.idle rfl hG, ⟨fun _ => hdep ⟨6, .data⟩ (by simp) rfl, trivial⟩, Ns.idle hN⟩)
    · cases ho; have e16 := hG.2.2.2.2.2.1 (hdep ⟨5, .data⟩ (by simp) rfl)
      exact t_assign ((hV 16 (by decide)).trans e16) hF hS rfl rfl rfl rfl (by decide) ⟨hM, Gs.stepA hG rfl rfl, hO.keep rfl, Ns.step hN rfl⟩
  rintro fZ tZ u1 ⟨hM, hG, hO, hN⟩ hall
  obtain ⟨e12, e13, e14, e11, e15, e16, e9, -⟩ := Gs.all 9 hall hG rfl
  obtain ⟨b1_6, ee8, pb1_6, lb1_6, kb1_6⟩ := hM.nw.1 (hall 6 (by decide))
  have e8 : tZ 8 = .pointer (some ⟨b1_6, 0, none⟩) := ee8
  clear ee8
  have Kb1_6 : CV u1 b1_6 (LN (1 % m)) := by
    have h1 : CV u1 b1_6 (bif fZ 7 then LN (1 % m) else L0s) := kb1_6
    rw [hall 7 (by decide)] at h1; exact h1
  clear kb1_6
  have HB1 : Below w.heap.size w u1 := hM.bel
  have sz1 : v0.heap.size ≤ u1.heap.size := hM.sz
  obtain ⟨⟨l1p0, K1p0⟩, ⟨l1p1, K1p1⟩, ⟨l1p2, K1p2⟩, ⟨l1r6, K1r6⟩, -⟩ := hM.ks.up hM.sz
  dsimp only at l1p0 K1p0 l1p1 K1p1 l1p2 K1p2 l1r6 K1r6
  simp only [ovr, List.set_cons_zero, List.set_cons_succ, e12, e13, e14, e11, e15, e16, e9, e8]
  clear hM hG hO hN hall e12 e13 e14 e11 e15 e16 e9 e8 K0p0 K0p1 K0p2 K0r6 HB0
  clear tZ
  go_upto_region 4 with fail
  refine region_plain [21, 22, 23, 10] (fun fZ tZ uZ => MR w.heap.size w (u1.heap.size) [(w.heap.size, LN a), (w.heap.size + 1, LN e), (w.heap.size + 1 + 1, LN m), (w.heap.size + 1 + 1 + 1, L0s), (b1_6, LN (1 % m))] [] [] uZ ∧ Gs fZ tZ [(0, 21, NV e), (1, 22, .int .i64 (L : Int)), (2, 23, .int .i64 ((L : Int) - 1)), (3, 10, .int .i64 ((L : Int) - 1))] ∧ Os fZ [] ∧ Ns fZ tZ []) (by kernel_rfl) ?_ ?_ ?_
  · exact ⟨{ bel := HB1, lo := HB1.size, sz := Nat.le_refl _, ks := ⟨⟨l1p0, K1p0⟩, ⟨l1p1, K1p1⟩, ⟨l1p2, K1p2⟩, ⟨l1r6, K1r6⟩, ⟨lb1_6, Kb1_6⟩, trivial⟩, ex := trivial, nw := trivial, nd := trivial }, Gs.none _ _, Os.none _, trivial⟩
  · rintro fZ tZ uZ iZ oZ aZ hF ⟨hM, hG, hO, hN⟩ ho hfi hdep
    have hS : [21, 22, 23, 10].Nodup := by decide
    have hV := hF.evs (N := 46) (by decide) rfl (by decide)
    have il : iZ < 4 := (Array.getElem?_eq_some_iff.1 ho).1
    have ix : iZ = 0 ∨ iZ = 1 ∨ iZ = 2 ∨ iZ = 3 := by omega
    rcases ix with rfl | rfl | rfl | rfl
    · cases ho; exact t_load (show aZ.eval (.tmp 4) = .pointer (some ⟨w.heap.size + 1, 0, none⟩) from (hF.out 4 (by decide)).trans rfl) hM.ks.2.1.2 Try.underlying25 info_api_Nat hF hS rfl rfl rfl rfl rfl (by decide) ⟨hM, Gs.stepA hG rfl rfl, trivial, Ns.step hN rfl⟩
    · cases ho; have e21 := hG.1 (hdep ⟨0, .data⟩ (by simp) rfl)
      exact t_call (vs := [NV e]) (by show [aZ.eval (.tmp 21)] = _; rw [((hV 21 (by decide)).trans e21)]) ent_seneschalref01_Length (hL.out uZ) hF hS rfl rfl rfl rfl (by decide) (fun _ hB => ⟨hM.call hB, Gs.stepA hG rfl rfl, trivial, Ns.step hN rfl⟩)
    · cases ho; refine op_plain rfl rfl (fun K hK => ?_)
      have e22 := hG.2.1 (hdep ⟨1, .data⟩ (by simp) rfl)
      refine wp_bin rfl ((hV 22 (by decide)).trans e22) rfl (sub_i _ _ (L : Int) 1 ((L : Int) - 1) uZ rfl (by omega) (by omega)) ?_
      exact tell hK hF hS (by decide) ⟨hM, Gs.stepA hG rfl rfl, trivial, Ns.step hN rfl⟩
    · cases ho; have e23 := hG.2.2.1 (hdep ⟨2, .data⟩ (by simp) rfl)
      exact t_assign ((hV 23 (by decide)).trans e23) hF hS rfl rfl rfl rfl (by decide) ⟨hM, Gs.stepA hG rfl rfl, trivial, Ns.step hN rfl⟩
  rintro fZ tZ u2 ⟨hM, hG, hO, hN⟩ hall
  obtain ⟨e21, e22, e23, e10, -⟩ := Gs.all 4 hall hG rfl
  have HB2 : Below w.heap.size w u2 := hM.bel
  have sz2 : u1.heap.size ≤ u2.heap.size := hM.sz
  obtain ⟨⟨l2p0, K2p0⟩, ⟨l2p1, K2p1⟩, ⟨l2p2, K2p2⟩, ⟨l2r6, K2r6⟩, ⟨l2n1_6, K2n1_6⟩, -⟩ := hM.ks.up hM.sz
  dsimp only at l2p0 K2p0 l2p1 K2p1 l2p2 K2p2 l2r6 K2r6 l2n1_6 K2n1_6
  simp only [ovr, List.set_cons_zero, List.set_cons_succ, e21, e22, e23, e10]
  clear hM hG hO hN hall e21 e22 e23 e10 K1p0 K1p1 K1p2 K1r6 Kb1_6 HB1
  clear tZ
  go_wp2_with fail
  go_loopw [10] (fun s10 wr => ∃ (j : Nat), j ≤ L ∧ s10 = .int .i64 ((j : Int) - 1) ∧ Below w.heap.size w wr ∧ CV wr (w.heap.size) (LN a) ∧ CV wr (w.heap.size + 1) (LN e) ∧ CV wr (w.heap.size + 1 + 1) (LN m) ∧ CV wr (w.heap.size + 1 + 1 + 1) L0s ∧ CV wr b1_6 (LN (P (e / 2 ^ j).toNat)) ∧ b1_6 < wr.heap.size) (fun s10 _ => (intOf s10 + 1).toNat)
  case atStart => exact ⟨L, by omega, rfl, HB2, K2p0, K2p1, K2p2, K2r6, by rw [h0.out]; exact K2n1_6, l2n1_6⟩
  case round =>
    obtain ⟨j, hj, rfl, HBr, Ka, Ke, Km, Kr, Kp, lp⟩ := hrel
    clear HB2 K2p0 K2p1 K2p2 K2r6 K2n1_6
    by_cases hj0 : j = 0
    · have hb : decide (0 ≤ (j : Int) - 1) = false := by simp; omega
      have hend : (e / 2 ^ j).toNat = e.toNat := by rw [hj0]; simp
      have Kp : CV wr b1_6 (LN (P e.toNat)) := by rw [← hend]; exact Kp
      clear hend
      go_upto_region 5 with fail
      refine region_plain [24, 25] (fun fZ tZ uZ => MR w.heap.size w (wr.heap.size) [(w.heap.size, LN a), (w.heap.size + 1, LN e), (w.heap.size + 1 + 1, LN m), (w.heap.size + 1 + 1 + 1, L0s), (b1_6, LN (P e.toNat))] [] [] uZ ∧ Gs fZ tZ [(0, 24, .int .i64 ((j : Int) - 1)), (1, 25, .bool false)] ∧ Os fZ [] ∧ Ns fZ tZ []) (by kernel_rfl) ?_ ?_ ?_
      · exact ⟨{ bel := HBr, lo := HBr.size, sz := Nat.le_refl _, ks := ⟨⟨(by omega), Ka⟩, ⟨(by omega), Ke⟩, ⟨(by omega), Km⟩, ⟨(by omega), Kr⟩, ⟨lp, Kp⟩, trivial⟩, ex := trivial, nw := trivial, nd := trivial }, Gs.none _ _, Os.none _, trivial⟩
      · rintro fZ tZ uZ iZ oZ aZ hF ⟨hM, hG, hO, hN⟩ ho hfi hdep
        have hS : [24, 25].Nodup := by decide
        have hV := hF.evs (N := 46) (by decide) rfl (by decide)
        have il : iZ < 2 := (Array.getElem?_eq_some_iff.1 ho).1
        have ix : iZ = 0 ∨ iZ = 1 := by omega
        rcases ix with rfl | rfl
        · cases ho; exact t_move (show aZ.eval (.tmp 10) = .int .i64 ((j : Int) - 1) from (hF.out 10 (by decide)).trans rfl) hF hS rfl rfl rfl rfl (by decide) ⟨hM, Gs.stepA hG rfl rfl, trivial, Ns.step hN rfl⟩
        · cases ho; refine op_plain rfl rfl (fun K hK => ?_)
          have e24 := hG.1 (hdep ⟨0, .data⟩ (by simp) rfl)
          refine wp_bin rfl ((hV 24 (by decide)).trans e24) rfl (geq_i _ _ ((j : Int) - 1) 0 _ uZ hb) ?_
          exact tell hK hF hS (by decide) ⟨hM, Gs.stepA hG rfl rfl, trivial, Ns.step hN rfl⟩
      rintro fZ tZ u3 ⟨hM, hG, hO, hN⟩ hall
      obtain ⟨e24, e25, -⟩ := Gs.all 2 hall hG rfl
      have HB3 : Below w.heap.size w u3 := hM.bel
      have sz3 : wr.heap.size ≤ u3.heap.size := hM.sz
      obtain ⟨-, -, -, ⟨l3r6, K3r6⟩, ⟨l3n1_6, K3n1_6⟩, -⟩ := hM.ks.up hM.sz
      dsimp only at l3r6 K3r6 l3n1_6 K3n1_6
      simp only [ovr, List.set_cons_zero, List.set_cons_succ, e24, e25]
      clear hM hG hO hN hall e24 e25 Ka Ke Km Kp Kr
      clear tZ
      go_upto_region 10 with fail
      refine region_plain [45, 7] (fun fZ tZ uZ => MR w.heap.size w (u3.heap.size) [(b1_6, LN (P e.toNat))] [(w.heap.size + 1 + 1 + 1, fZ 1, L0s, LN (P e.toNat))] [] uZ ∧ Gs fZ tZ [(0, 45, NV (P e.toNat)), (2, 7, (Go.Value.int Go.IntKind.i64 0))] ∧ Os fZ [] ∧ Ns fZ tZ []) (by kernel_rfl) ?_ ?_ ?_
      · exact ⟨{ bel := HB3, lo := HB3.size, sz := Nat.le_refl _, ks := ⟨⟨l3n1_6, K3n1_6⟩, trivial⟩, ex := ⟨⟨(by omega), l3r6, rfl, K3r6⟩, trivial⟩, nw := trivial, nd := trivial }, Gs.none _ _, Os.none _, trivial⟩
      · rintro fZ tZ uZ iZ oZ aZ hF ⟨hM, hG, hO, hN⟩ ho hfi hdep
        have hS : [45, 7].Nodup := by decide
        have hV := hF.evs (N := 46) (by decide) rfl (by decide)
        have il : iZ < 3 := (Array.getElem?_eq_some_iff.1 ho).1
        have ix : iZ = 0 ∨ iZ = 1 ∨ iZ = 2 := by omega
        rcases ix with rfl | rfl | rfl
        · cases ho; exact t_load (show aZ.eval (.tmp 8) = .pointer (some ⟨b1_6, 0, none⟩) from (hF.out 8 (by decide)).trans rfl) hM.ks.1.2 Try.underlying25 info_api_Nat hF hS rfl rfl rfl rfl rfl (by decide) ⟨hM, Gs.stepA hG rfl rfl, trivial, Ns.step hN rfl⟩
        · cases ho; refine op_plain rfl rfl (fun K hK => ?_)
          have kk : CV uZ (w.heap.size + 1 + 1 + 1) (bif fZ 1 then LN (P e.toNat) else L0s) := hM.ex.1.2.2.2
          rw [hfi] at kk
          have kk : CV uZ (w.heap.size + 1 + 1 + 1) (L0s) := kk
          have e45 := hG.1 (hdep ⟨0, .data⟩ (by simp) rfl)
          refine wp_store_mid 25 _ _ rfl (w.heap.size + 1 + 1 + 1) 0 (LN (P e.toNat) : List Value).toArray (show aZ.eval (.tmp 6) = .pointer (some ⟨w.heap.size + 1 + 1 + 1, 0, none⟩) from (hF.out 6 (by decide)).trans rfl) ((hV 45 (by decide)).trans e45) kk.there info_api_Nat (all_one rfl) ?_
          exact tell0 hK hF ⟨MR.putXF 0 hM rfl ⟨by omega, trivial⟩ trivial, Gs.idle rfl hG, trivial, Ns.idle hN⟩
        · cases ho; exact t_assign rfl hF hS rfl rfl rfl rfl (by decide) ⟨hM, Gs.stepA hG rfl rfl, trivial, Ns.step hN rfl⟩
      rintro fZ tZ u4 ⟨hM, hG, hO, hN⟩ hall
      obtain ⟨e45, e7, -⟩ := Gs.all 3 hall hG rfl
      have HB4 : Below w.heap.size w u4 := hM.bel
      have sz4 : u3.heap.size ≤ u4.heap.size := hM.sz
      have K4r6 : CV u4 (w.heap.size + 1 + 1 + 1) (LN (P e.toNat)) := by
        have h1 : CV u4 (w.heap.size + 1 + 1 + 1) (bif fZ 1 then LN (P e.toNat) else L0s) := hM.ex.1.2.2.2
        rw [hall 1 (by decide)] at h1; exact h1
      have l4r6 : w.heap.size + 1 + 1 + 1 < u4.heap.size := Nat.lt_of_lt_of_le hM.ex.1.2.1 hM.sz
      simp only [ovr, List.set_cons_zero, List.set_cons_succ, e45, e7]
      clear hM hG hO hN hall e45 e7 K3n1_6 K3r6 HB3
      clear tZ
      have c6_0 := (K4r6 0 _ rfl).1
      have c6_1 := (K4r6 1 _ rfl).1
      have c6_2 := (K4r6 2 _ rfl).1
      have c6_3 := (K4r6 3 _ rfl).1
      go_wp2
      refine bodyPost_ret (v := .tuple #[NV (P e.toNat), .int .i64 0]) (by simp [results, Try.results30, go_sem, c6_0, c6_1, c6_2, c6_3]) rfl ⟨rfl, HB4⟩
    · obtain ⟨k, rfl⟩ : ∃ k, j = k + 1 := ⟨j - 1, by omega⟩
      have hb : decide (0 ≤ ((k + 1 : Nat) : Int) - 1) = true := by simp
      obtain ⟨n, hn⟩ : ∃ n : Nat, (e / 2 ^ (k + 1)).toNat = n := ⟨_, rfl⟩
      have hts := top_step e he.1 k
      have hnn : 0 ≤ e / 2 ^ (k + 1) := Int.ediv_nonneg he.1 (Int.le_of_lt (Int.pow_pos (by decide)))
      have Kp : CV wr b1_6 (LN (P n)) := by rw [← hn]; exact Kp
      have hnx : Hid ((e / 2 ^ k).toNat = n + n + (if bitI e k then 1 else 0)) := by
        show (e / 2 ^ k).toNat = _
        rw [hts]
        split <;> omega
      clear hts hn hnn hj0
      go_upto_region 5 with fail
      refine region_plain [24, 25] (fun fZ tZ uZ => MR w.heap.size w (wr.heap.size) [(w.heap.size, LN a), (w.heap.size + 1, LN e), (w.heap.size + 1 + 1, LN m), (w.heap.size + 1 + 1 + 1, L0s), (b1_6, LN (P n))] [] [] uZ ∧ Gs fZ tZ [(0, 24, .int .i64 (((k + 1 : Nat) : Int) - 1)), (1, 25, .bool true)] ∧ Os fZ [] ∧ Ns fZ tZ []) (by kernel_rfl) ?_ ?_ ?_
      · exact ⟨{ bel := HBr, lo := HBr.size, sz := Nat.le_refl _, ks := ⟨⟨(by omega), Ka⟩, ⟨(by omega), Ke⟩, ⟨(by omega), Km⟩, ⟨(by omega), Kr⟩, ⟨lp, Kp⟩, trivial⟩, ex := trivial, nw := trivial, nd := trivial }, Gs.none _ _, Os.none _, trivial⟩
      · rintro fZ tZ uZ iZ oZ aZ hF ⟨hM, hG, hO, hN⟩ ho hfi hdep
        have hS : [24, 25].Nodup := by decide
        have hV := hF.evs (N := 46) (by decide) rfl (by decide)
        have il : iZ < 2 := (Array.getElem?_eq_some_iff.1 ho).1
        have ix : iZ = 0 ∨ iZ = 1 := by omega
        rcases ix with rfl | rfl
        · cases ho; exact t_move (show aZ.eval (.tmp 10) = .int .i64 (((k + 1 : Nat) : Int) - 1) from (hF.out 10 (by decide)).trans rfl) hF hS rfl rfl rfl rfl (by decide) ⟨hM, Gs.stepA hG rfl rfl, trivial, Ns.step hN rfl⟩
        · cases ho; refine op_plain rfl rfl (fun K hK => ?_)
          have e24 := hG.1 (hdep ⟨0, .data⟩ (by simp) rfl)
          refine wp_bin rfl ((hV 24 (by decide)).trans e24) rfl (geq_i _ _ (((k + 1 : Nat) : Int) - 1) 0 _ uZ hb) ?_
          exact tell hK hF hS (by decide) ⟨hM, Gs.stepA hG rfl rfl, trivial, Ns.step hN rfl⟩
      rintro fZ tZ u3 ⟨hM, hG, hO, hN⟩ hall
      obtain ⟨e24, e25, -⟩ := Gs.all 2 hall hG rfl
      have HB3 : Below w.heap.size w u3 := hM.bel
      have sz3 : wr.heap.size ≤ u3.heap.size := hM.sz
      obtain ⟨⟨l3p0, K3p0⟩, ⟨l3p1, K3p1⟩, ⟨l3p2, K3p2⟩, ⟨l3r6, K3r6⟩, ⟨l3n1_6, K3n1_6⟩, -⟩ := hM.ks.up hM.sz
      dsimp only at l3p0 K3p0 l3p1 K3p1 l3p2 K3p2 l3r6 K3r6 l3n1_6 K3n1_6
      simp only [ovr, List.set_cons_zero, List.set_cons_succ, e24, e25]
      clear hM hG hO hN hall e24 e25 Ka Ke Km Kp Kr
      clear tZ
      go_upto_region 7 with fail
      refine region_plain [29, 30, 31, 32, 28, 33, 34] (fun fZ tZ uZ => MR w.heap.size w (u3.heap.size) [(w.heap.size, LN a), (w.heap.size + 1, LN e), (w.heap.size + 1 + 1, LN m), (w.heap.size + 1 + 1 + 1, L0s)] [(b1_6, fZ 7, LN (P n), LN (P (n + n)))] [] uZ ∧ Gs fZ tZ [(0, 29, NV (P n)), (1, 30, NV (P n)), (2, 31, NV m), (3, 32, .tuple #[NV (P (n + n)), .int .i64 0]), (4, 28, .tuple #[NV (P (n + n)), .int .i64 0]), (5, 33, NV (P (n + n))), (6, 34, .int .i64 0)] ∧ Os fZ [(7, 0), (7, 1)] ∧ Ns fZ tZ []) (by kernel_rfl) ?_ ?_ ?_
      · exact ⟨{ bel := HB3, lo := HB3.size, sz := Nat.le_refl _, ks := ⟨⟨l3p0, K3p0⟩, ⟨l3p1, K3p1⟩, ⟨l3p2, K3p2⟩, ⟨l3r6, K3r6⟩, trivial⟩, ex := ⟨⟨(by omega), l3n1_6, rfl, K3n1_6⟩, trivial⟩, nw := trivial, nd := trivial }, Gs.none _ _, Os.none _, trivial⟩
      · rintro fZ tZ uZ iZ oZ aZ hF ⟨hM, hG, hO, hN⟩ ho hfi hdep
        have hS : [29, 30, 31, 32, 28, 33, 34].Nodup := by decide
        have hV := hF.evs (N := 46) (by decide) rfl (by decide)
        have il : iZ < 8 := (Array.getElem?_eq_some_iff.1 ho).1
        have ix : iZ = 0 ∨ iZ = 1 ∨ iZ = 2 ∨ iZ = 3 ∨ iZ = 4 ∨ iZ = 5 ∨ iZ = 6 ∨ iZ = 7 := by omega
        rcases ix with rfl | rfl | rfl | rfl | rfl | rfl | rfl | rfl
        · cases ho; refine op_plain rfl rfl (fun K hK => ?_)
          have ys : fZ 7 = false := Os.not (hO.1) hfi
          have kk : CV uZ (b1_6) (bif fZ 7 then LN (P (n + n)) else LN (P n)) := hM.ex.1.2.2.2
          rw [ys] at kk
          have kk : CV uZ (b1_6) (LN (P n)) := kk
          refine wp_load_mid 25 _ rfl (b1_6) 0 (show aZ.eval (.tmp 8) = .pointer (some ⟨b1_6, 0, none⟩) from (hF.out 8 (by decide)).trans rfl) (LN (P n)) _ kk.range Try.underlying25 rfl info_api_Nat ?_
          exact tell hK hF hS (by decide) ⟨hM, Gs.stepA hG rfl rfl, hO.keep rfl, Ns.step hN rfl⟩
        · cases ho; refine op_plain rfl rfl (fun K hK => ?_)
          have ys : fZ 7 = false := Os.not (hO.2.1) hfi
          have kk : CV uZ (b1_6) (bif fZ 7 then LN (P (n + n)) else LN (P n)) := hM.ex.1.2.2.2
          rw [ys] at kk
          have kk : CV uZ (b1_6) (LN (P n)) := kk
          refine wp_load_mid 25 _ rfl (b1_6) 0 (show aZ.eval (.tmp 8) = .pointer (some ⟨b1_6, 0, none⟩) from (hF.out 8 (by decide)).trans rfl) (LN (P n)) _ kk.range Try.underlying25 rfl info_api_Nat ?_
          exact tell hK hF hS (by decide) ⟨hM, Gs.stepA hG rfl rfl, hO.keep rfl, Ns.step hN rfl⟩
        · cases ho; exact t_load (show aZ.eval (.tmp 5) = .pointer (some ⟨w.heap.size + 1 + 1, 0, none⟩) from (hF.out 5 (by decide)).trans rfl) hM.ks.2.2.1.2 Try.underlying25 info_api_Nat hF hS rfl rfl rfl rfl rfl (by decide) ⟨hM, Gs.stepA hG rfl rfl, hO.keep rfl, Ns.step hN rfl⟩
        · cases ho; have e29 := hG.1 (hdep ⟨0, .data⟩ (by simp) rfl)
          have e30 := hG.2.1 (hdep ⟨1, .data⟩ (by simp) rfl)
          have e31 := hG.2.2.1 (hdep ⟨2, .data⟩ (by simp) rfl)
          exact t_call (vs := [NV (P n), NV (P n), NV m]) (by show [aZ.eval (.tmp 29), aZ.eval (.tmp 30), aZ.eval (.tmp 31)] = _; rw [((hV 29 (by decide)).trans e29), ((hV 30 (by decide)).trans e30), ((hV 31 (by decide)).trans e31)]) ent_seneschalref02_Mul (hQ.out n n uZ) hF hS rfl rfl rfl rfl (by decide) (fun _ hB => ⟨hM.call hB, Gs.stepA hG rfl rfl, hO.keep rfl, Ns.step hN rfl⟩)
        · cases ho; have e32 := hG.2.2.2.1 (hdep ⟨3, .data⟩ (by simp) rfl)
          exact t_move ((hV 32 (by decide)).trans e32) hF hS rfl rfl rfl rfl (by decide) ⟨hM, Gs.stepA hG rfl rfl, hO.keep rfl, Ns.step hN rfl⟩
        · cases ho; have e28 := hG.2.2.2.2.1 (hdep ⟨4, .data⟩ (by simp) rfl)
          exact t_extract ((hV 28 (by decide)).trans e28) hF hS rfl rfl rfl rfl rfl (by decide) ⟨hM, Gs.stepA hG rfl rfl, hO.keep rfl, Ns.step hN rfl⟩
        · cases ho; have e28 := hG.2.2.2.2.1 (hdep ⟨4, .data⟩ (by simp) rfl)
          exact t_extract ((hV 28 (by decide)).trans e28) hF hS rfl rfl rfl rfl rfl (by decide) ⟨hM, Gs.stepA hG rfl rfl, hO.keep rfl, Ns.step hN rfl⟩
        · cases ho; refine op_plain rfl rfl (fun K hK => ?_)
          have kk : CV uZ (b1_6) (bif fZ 7 then LN (P (n + n)) else LN (P n)) := hM.ex.1.2.2.2
          rw [hfi] at kk
          have kk : CV uZ (b1_6) (LN (P n)) := kk
          have e33 := hG.2.2.2.2.2.1 (hdep ⟨5, .data⟩ (by simp) rfl)
          refine wp_store_mid 25 _ _ rfl (b1_6) 0 (LN (P (n + n)) : List Value).toArray (show aZ.eval (.tmp 8) = .pointer (some ⟨b1_6, 0, none⟩) from (hF.out 8 (by decide)).trans rfl) ((hV 33 (by decide)).trans e33) kk.there info_api_Nat (all_one rfl) ?_
          exact tell0 hK hF ⟨MR.putXF 0 hM rfl ⟨by omega, by omega, by omega, by omega, trivial⟩ trivial, Gs.idle rfl hG, ⟨fun _ => hdep ⟨0, .phase⟩ (by simp) rfl, fun _ => hdep ⟨1, .phase⟩ (by simp) rfl, trivial⟩, Ns.idle hN⟩
      rintro fZ tZ u4 ⟨hM, hG, hO, hN⟩ hall
      obtain ⟨e29, e30, e31, e32, e28, e33, e34, -⟩ := Gs.all 8 hall hG rfl
      have HB4 : Below w.heap.size w u4 := hM.bel
      have sz4 : u3.heap.size ≤ u4.heap.size := hM.sz
      obtain ⟨⟨l4p0, K4p0⟩, ⟨l4p1, K4p1⟩, ⟨l4p2, K4p2⟩, ⟨l4r6, K4r6⟩, -⟩ := hM.ks.up hM.sz
      dsimp only at l4p0 K4p0 l4p1 K4p1 l4p2 K4p2 l4r6 K4r6
      have K4n1_6 : CV u4 (b1_6) (LN (P (n + n))) := by
        have h1 : CV u4 (b1_6) (bif fZ 7 then LN (P (n + n)) else LN (P n)) := hM.ex.1.2.2.2
        rw [hall 7 (by decide)] at h1; exact h1
      have l4n1_6 : b1_6 < u4.heap.size := Nat.lt_of_lt_of_le hM.ex.1.2.1 hM.sz
      simp only [ovr, List.set_cons_zero, List.set_cons_succ, e29, e30, e31, e32, e28, e33, e34]
      clear hM hG hO hN hall e29 e30 e31 e32 e28 e33 e34 K3n1_6 K3p0 K3p1 K3p2 K3r6 HB3
      clear tZ
      cases hbit : bitI e k
      · have Hb : Hid (bitI e k = false) := hbit
        clear hbit
        go_upto_region 8 with fail
        refine region_plain [35, 36, 37] (fun fZ tZ uZ => MR w.heap.size w (u4.heap.size) [(w.heap.size, LN a), (w.heap.size + 1, LN e), (w.heap.size + 1 + 1, LN m), (w.heap.size + 1 + 1 + 1, L0s), (b1_6, LN (P (n + n)))] [] [] uZ ∧ Gs fZ tZ [(0, 35, NV e), (1, 36, .int .i64 (((k + 1 : Nat) : Int) - 1)), (2, 37, .bool false)] ∧ Os fZ [] ∧ Ns fZ tZ []) (by kernel_rfl) ?_ ?_ ?_
        · exact ⟨{ bel := HB4, lo := HB4.size, sz := Nat.le_refl _, ks := ⟨⟨l4p0, K4p0⟩, ⟨l4p1, K4p1⟩, ⟨l4p2, K4p2⟩, ⟨l4r6, K4r6⟩, ⟨l4n1_6, K4n1_6⟩, trivial⟩, ex := trivial, nw := trivial, nd := trivial }, Gs.none _ _, Os.none _, trivial⟩
        · rintro fZ tZ uZ iZ oZ aZ hF ⟨hM, hG, hO, hN⟩ ho hfi hdep
          have hS : [35, 36, 37].Nodup := by decide
          have hV := hF.evs (N := 46) (by decide) rfl (by decide)
          have il : iZ < 3 := (Array.getElem?_eq_some_iff.1 ho).1
          have ix : iZ = 0 ∨ iZ = 1 ∨ iZ = 2 := by omega
          rcases ix with rfl | rfl | rfl
          · cases ho; exact t_load (show aZ.eval (.tmp 4) = .pointer (some ⟨w.heap.size + 1, 0, none⟩) from (hF.out 4 (by decide)).trans rfl) hM.ks.2.1.2 Try.underlying25 info_api_Nat hF hS rfl rfl rfl rfl rfl (by decide) ⟨hM, Gs.stepA hG rfl rfl, trivial, Ns.step hN rfl⟩
          · cases ho; exact t_move (show aZ.eval (.tmp 10) = .int .i64 (((k + 1 : Nat) : Int) - 1) from (hF.out 10 (by decide)).trans rfl) hF hS rfl rfl rfl rfl (by decide) ⟨hM, Gs.stepA hG rfl rfl, trivial, Ns.step hN rfl⟩
          · cases ho; have e35 := hG.1 (hdep ⟨0, .data⟩ (by simp) rfl)
            have e36 := hG.2.1 (hdep ⟨1, .data⟩ (by simp) rfl)
            exact t_call (vs := [NV e, .int .i64 (((k + 1 : Nat) : Int) - 1)]) (by show [aZ.eval (.tmp 35), aZ.eval (.tmp 36)] = _; rw [((hV 35 (by decide)).trans e35), ((hV 36 (by decide)).trans e36)]) ent_seneschalref01_Bit (by have h1 := nrBit e k uZ (by omega) (by omega); rw [Hb.out, show (k : Int) = ((k + 1 : Nat) : Int) - 1 by omega] at h1; exact h1) hF hS rfl rfl rfl rfl (by decide) (fun _ hB => ⟨hM.call hB, Gs.stepA hG rfl rfl, trivial, Ns.step hN rfl⟩)
        rintro fZ tZ u5 ⟨hM, hG, hO, hN⟩ hall
        obtain ⟨e35, e36, e37, -⟩ := Gs.all 3 hall hG rfl
        have HB5 : Below w.heap.size w u5 := hM.bel
        have sz5 : u4.heap.size ≤ u5.heap.size := hM.sz
        obtain ⟨⟨l5p0, K5p0⟩, ⟨l5p1, K5p1⟩, ⟨l5p2, K5p2⟩, ⟨l5r6, K5r6⟩, ⟨l5n1_6, K5n1_6⟩, -⟩ := hM.ks.up hM.sz
        dsimp only at l5p0 K5p0 l5p1 K5p1 l5p2 K5p2 l5r6 K5r6 l5n1_6 K5n1_6
        simp only [ovr, List.set_cons_zero, List.set_cons_succ, e35, e36, e37]
        clear hM hG hO hN hall e35 e36 e37 K4n1_6 K4p0 K4p1 K4p2 K4r6 HB4
        clear tZ
        go_upto_region 6 with fail
        refine region_plain [26, 27, 10] (fun fZ tZ uZ => MR w.heap.size w (u5.heap.size) [(w.heap.size, LN a), (w.heap.size + 1, LN e), (w.heap.size + 1 + 1, LN m), (w.heap.size + 1 + 1 + 1, L0s), (b1_6, LN (P (n + n)))] [] [] uZ ∧ Gs fZ tZ [(0, 26, .int .i64 (((k + 1 : Nat) : Int) - 1)), (1, 27, .int .i64 ((k : Int) - 1)), (2, 10, .int .i64 ((k : Int) - 1))] ∧ Os fZ [(2, 0)] ∧ Ns fZ tZ [(2, 10, .int .i64 (((k + 1 : Nat) : Int) - 1))]) (by kernel_rfl) ?_ ?_ ?_
        · exact ⟨{ bel := HB5, lo := HB5.size, sz := Nat.le_refl _, ks := ⟨⟨l5p0, K5p0⟩, ⟨l5p1, K5p1⟩, ⟨l5p2, K5p2⟩, ⟨l5r6, K5r6⟩, ⟨l5n1_6, K5n1_6⟩, trivial⟩, ex := trivial, nw := trivial, nd := trivial }, Gs.none _ _, Os.none _, ⟨fun _ => rfl, trivial⟩⟩
        · rintro fZ tZ uZ iZ oZ aZ hF ⟨hM, hG, hO, hN⟩ ho hfi hdep
          have hS : [26, 27, 10].Nodup := by decide
          have hV := hF.evs (N := 46) (by decide) rfl (by decide)
          have il : iZ < 3 := (Array.getElem?_eq_some_iff.1 ho).1
          have ix : iZ = 0 ∨ iZ = 1 ∨ iZ = 2 := by omega
          rcases ix with rfl | rfl | rfl
          · cases ho; have yi10 : fZ 2 = false := Os.not (hO.1) hfi
            have ei10 : tZ 10 = .int .i64 (((k + 1 : Nat) : Int) - 1) := hN.1 yi10
            exact t_move ((hV 10 (by decide)).trans ei10) hF hS rfl rfl rfl rfl (by decide) ⟨hM, Gs.stepA hG rfl rfl, hO.keep rfl, Ns.step hN rfl⟩
          · cases ho; refine op_plain rfl rfl (fun K hK => ?_)
            have e26 := hG.1 (hdep ⟨0, .data⟩ (by simp) rfl)
            refine wp_bin rfl ((hV 26 (by decide)).trans e26) rfl (sub_i _ _ (((k + 1 : Nat) : Int) - 1) 1 ((k : Int) - 1) uZ (by omega) (by omega) (by omega)) ?_
            exact tell hK hF hS (by decide) ⟨hM, Gs.stepA hG rfl rfl, hO.keep rfl, Ns.step hN rfl⟩
          · cases ho; have e27 := hG.2.1 (hdep ⟨1, .data⟩ (by simp) rfl)
            exact t_assign ((hV 27 (by decide)).trans e27) hF hS rfl rfl rfl rfl (by decide) ⟨hM, Gs.stepA hG rfl rfl, ⟨fun _ => hdep ⟨0, .phase⟩ (by simp) rfl, trivial⟩, Ns.step hN rfl⟩
        rintro fZ tZ u6 ⟨hM, hG, hO, hN⟩ hall
        obtain ⟨e26, e27, e10, -⟩ := Gs.all 3 hall hG rfl
        have HB6 : Below w.heap.size w u6 := hM.bel
        have sz6 : u5.heap.size ≤ u6.heap.size := hM.sz
        obtain ⟨⟨l6p0, K6p0⟩, ⟨l6p1, K6p1⟩, ⟨l6p2, K6p2⟩, ⟨l6r6, K6r6⟩, ⟨l6n1_6, K6n1_6⟩, -⟩ := hM.ks.up hM.sz
        dsimp only at l6p0 K6p0 l6p1 K6p1 l6p2 K6p2 l6r6 K6r6 l6n1_6 K6n1_6
        simp only [ovr, List.set_cons_zero, List.set_cons_succ, e26, e27, e10]
        clear hM hG hO hN hall e26 e27 e10 K5n1_6 K5p0 K5p1 K5p2 K5r6 HB5
        clear tZ
        go_wp2
        refine ⟨⟨k, by omega, rfl, HB6, K6p0, K6p1, K6p2, K6r6, by rw [hnx.out]; simp only [Hb.out]; exact K6n1_6, l6n1_6⟩, ?_⟩
        simp [intOf] <;> omega
      · have Hb : Hid (bitI e k = true) := hbit
        clear hbit
        go_upto_region 8 with fail
        refine region_plain [35, 36, 37] (fun fZ tZ uZ => MR w.heap.size w (u4.heap.size) [(w.heap.size, LN a), (w.heap.size + 1, LN e), (w.heap.size + 1 + 1, LN m), (w.heap.size + 1 + 1 + 1, L0s), (b1_6, LN (P (n + n)))] [] [] uZ ∧ Gs fZ tZ [(0, 35, NV e), (1, 36, .int .i64 (((k + 1 : Nat) : Int) - 1)), (2, 37, .bool true)] ∧ Os fZ [] ∧ Ns fZ tZ []) (by kernel_rfl) ?_ ?_ ?_
        · exact ⟨{ bel := HB4, lo := HB4.size, sz := Nat.le_refl _, ks := ⟨⟨l4p0, K4p0⟩, ⟨l4p1, K4p1⟩, ⟨l4p2, K4p2⟩, ⟨l4r6, K4r6⟩, ⟨l4n1_6, K4n1_6⟩, trivial⟩, ex := trivial, nw := trivial, nd := trivial }, Gs.none _ _, Os.none _, trivial⟩
        · rintro fZ tZ uZ iZ oZ aZ hF ⟨hM, hG, hO, hN⟩ ho hfi hdep
          have hS : [35, 36, 37].Nodup := by decide
          have hV := hF.evs (N := 46) (by decide) rfl (by decide)
          have il : iZ < 3 := (Array.getElem?_eq_some_iff.1 ho).1
          have ix : iZ = 0 ∨ iZ = 1 ∨ iZ = 2 := by omega
          rcases ix with rfl | rfl | rfl
          · cases ho; exact t_load (show aZ.eval (.tmp 4) = .pointer (some ⟨w.heap.size + 1, 0, none⟩) from (hF.out 4 (by decide)).trans rfl) hM.ks.2.1.2 Try.underlying25 info_api_Nat hF hS rfl rfl rfl rfl rfl (by decide) ⟨hM, Gs.stepA hG rfl rfl, trivial, Ns.step hN rfl⟩
          · cases ho; exact t_move (show aZ.eval (.tmp 10) = .int .i64 (((k + 1 : Nat) : Int) - 1) from (hF.out 10 (by decide)).trans rfl) hF hS rfl rfl rfl rfl (by decide) ⟨hM, Gs.stepA hG rfl rfl, trivial, Ns.step hN rfl⟩
          · cases ho; have e35 := hG.1 (hdep ⟨0, .data⟩ (by simp) rfl)
            have e36 := hG.2.1 (hdep ⟨1, .data⟩ (by simp) rfl)
            exact t_call (vs := [NV e, .int .i64 (((k + 1 : Nat) : Int) - 1)]) (by show [aZ.eval (.tmp 35), aZ.eval (.tmp 36)] = _; rw [((hV 35 (by decide)).trans e35), ((hV 36 (by decide)).trans e36)]) ent_seneschalref01_Bit (by have h1 := nrBit e k uZ (by omega) (by omega); rw [Hb.out, show (k : Int) = ((k + 1 : Nat) : Int) - 1 by omega] at h1; exact h1) hF hS rfl rfl rfl rfl (by decide) (fun _ hB => ⟨hM.call hB, Gs.stepA hG rfl rfl, trivial, Ns.step hN rfl⟩)
        rintro fZ tZ u5 ⟨hM, hG, hO, hN⟩ hall
        obtain ⟨e35, e36, e37, -⟩ := Gs.all 3 hall hG rfl
        have HB5 : Below w.heap.size w u5 := hM.bel
        have sz5 : u4.heap.size ≤ u5.heap.size := hM.sz
        obtain ⟨⟨l5p0, K5p0⟩, ⟨l5p1, K5p1⟩, ⟨l5p2, K5p2⟩, ⟨l5r6, K5r6⟩, ⟨l5n1_6, K5n1_6⟩, -⟩ := hM.ks.up hM.sz
        dsimp only at l5p0 K5p0 l5p1 K5p1 l5p2 K5p2 l5r6 K5r6 l5n1_6 K5n1_6
        simp only [ovr, List.set_cons_zero, List.set_cons_succ, e35, e36, e37]
        clear hM hG hO hN hall e35 e36 e37 K4n1_6 K4p0 K4p1 K4p2 K4r6 HB4
        clear tZ
        go_upto_region 9 with fail
        refine region_plain [39, 40, 41, 42, 38, 43, 44] (fun fZ tZ uZ => MR w.heap.size w (u5.heap.size) [(w.heap.size, LN a), (w.heap.size + 1, LN e), (w.heap.size + 1 + 1, LN m), (w.heap.size + 1 + 1 + 1, L0s)] [(b1_6, fZ 7, LN (P (n + n)), LN (P (n + n + 1)))] [] uZ ∧ Gs fZ tZ [(0, 39, NV (P (n + n))), (1, 40, NV a), (2, 41, NV m), (3, 42, .tuple #[NV (P (n + n + 1)), .int .i64 0]), (4, 38, .tuple #[NV (P (n + n + 1)), .int .i64 0]), (5, 43, NV (P (n + n + 1))), (6, 44, .int .i64 0)] ∧ Os fZ [(7, 0)] ∧ Ns fZ tZ []) (by kernel_rfl) ?_ ?_ ?_
        · exact ⟨{ bel := HB5, lo := HB5.size, sz := Nat.le_refl _, ks := ⟨⟨l5p0, K5p0⟩, ⟨l5p1, K5p1⟩, ⟨l5p2, K5p2⟩, ⟨l5r6, K5r6⟩, trivial⟩, ex := ⟨⟨(by omega), l5n1_6, rfl, K5n1_6⟩, trivial⟩, nw := trivial, nd := trivial }, Gs.none _ _, Os.none _, trivial⟩
        · rintro fZ tZ uZ iZ oZ aZ hF ⟨hM, hG, hO, hN⟩ ho hfi hdep
          have hS : [39, 40, 41, 42, 38, 43, 44].Nodup := by decide
          have hV := hF.evs (N := 46) (by decide) rfl (by decide)
          have il : iZ < 8 := (Array.getElem?_eq_some_iff.1 ho).1
          have ix : iZ = 0 ∨ iZ = 1 ∨ iZ = 2 ∨ iZ = 3 ∨ iZ = 4 ∨ iZ = 5 ∨ iZ = 6 ∨ iZ = 7 := by omega
          rcases ix with rfl | rfl | rfl | rfl | rfl | rfl | rfl | rfl
          · cases ho; refine op_plain rfl rfl (fun K hK => ?_)
            have ys : fZ 7 = false := Os.not (hO.1) hfi
            have kk : CV uZ (b1_6) (bif fZ 7 then LN (P (n + n + 1)) else LN (P (n + n))) := hM.ex.1.2.2.2
            rw [ys] at kk
            have kk : CV uZ (b1_6) (LN (P (n + n))) := kk
            refine wp_load_mid 25 _ rfl (b1_6) 0 (show aZ.eval (.tmp 8) = .pointer (some ⟨b1_6, 0, none⟩) from (hF.out 8 (by decide)).trans rfl) (LN (P (n + n))) _ kk.range Try.underlying25 rfl info_api_Nat ?_
            exact tell hK hF hS (by decide) ⟨hM, Gs.stepA hG rfl rfl, hO.keep rfl, Ns.step hN rfl⟩
          · cases ho; exact t_load (show aZ.eval (.tmp 3) = .pointer (some ⟨w.heap.size, 0, none⟩) from (hF.out 3 (by decide)).trans rfl) hM.ks.1.2 Try.underlying25 info_api_Nat hF hS rfl rfl rfl rfl rfl (by decide) ⟨hM, Gs.stepA hG rfl rfl, hO.keep rfl, Ns.step hN rfl⟩
          · cases ho; exact t_load (show aZ.eval (.tmp 5) = .pointer (some ⟨w.heap.size + 1 + 1, 0, none⟩) from (hF.out 5 (by decide)).trans rfl) hM.ks.2.2.1.2 Try.underlying25 info_api_Nat hF hS rfl rfl rfl rfl rfl (by decide) ⟨hM, Gs.stepA hG rfl rfl, hO.keep rfl, Ns.step hN rfl⟩
          · cases ho; have e39 := hG.1 (hdep ⟨0, .data⟩ (by simp) rfl)
            have e40 := hG.2.1 (hdep ⟨1, .data⟩ (by simp) rfl)
            have e41 := hG.2.2.1 (hdep ⟨2, .data⟩ (by simp) rfl)
            exact t_call (vs := [NV (P (n + n)), NV a, NV m]) (by show [aZ.eval (.tmp 39), aZ.eval (.tmp 40), aZ.eval (.tmp 41)] = _; rw [((hV 39 (by decide)).trans e39), ((hV 40 (by decide)).trans e40), ((hV 41 (by decide)).trans e41)]) ent_seneschalref02_Mul (hU.out (n + n) uZ) hF hS rfl rfl rfl rfl (by decide) (fun _ hB => ⟨hM.call hB, Gs.stepA hG rfl rfl, hO.keep rfl, Ns.step hN rfl⟩)
          · cases ho; have e42 := hG.2.2.2.1 (hdep ⟨3, .data⟩ (by simp) rfl)
            exact t_move ((hV 42 (by decide)).trans e42) hF hS rfl rfl rfl rfl (by decide) ⟨hM, Gs.stepA hG rfl rfl, hO.keep rfl, Ns.step hN rfl⟩
          · cases ho; have e38 := hG.2.2.2.2.1 (hdep ⟨4, .data⟩ (by simp) rfl)
            exact t_extract ((hV 38 (by decide)).trans e38) hF hS rfl rfl rfl rfl rfl (by decide) ⟨hM, Gs.stepA hG rfl rfl, hO.keep rfl, Ns.step hN rfl⟩
          · cases ho; have e38 := hG.2.2.2.2.1 (hdep ⟨4, .data⟩ (by simp) rfl)
            exact t_extract ((hV 38 (by decide)).trans e38) hF hS rfl rfl rfl rfl rfl (by decide) ⟨hM, Gs.stepA hG rfl rfl, hO.keep rfl, Ns.step hN rfl⟩
          · cases ho; refine op_plain rfl rfl (fun K hK => ?_)
            have kk : CV uZ (b1_6) (bif fZ 7 then LN (P (n + n + 1)) else LN (P (n + n))) := hM.ex.1.2.2.2
            rw [hfi] at kk
            have kk : CV uZ (b1_6) (LN (P (n + n))) := kk
            have e43 := hG.2.2.2.2.2.1 (hdep ⟨5, .data⟩ (by simp) rfl)
            refine wp_store_mid 25 _ _ rfl (b1_6) 0 (LN (P (n + n + 1)) : List Value).toArray (show aZ.eval (.tmp 8) = .pointer (some ⟨b1_6, 0, none⟩) from (hF.out 8 (by decide)).trans rfl) ((hV 43 (by decide)).trans e43) kk.there info_api_Nat (all_one rfl) ?_
            exact tell0 hK hF ⟨MR.putXF 0 hM rfl ⟨by omega, by omega, by omega, by omega, trivial⟩ trivial, Gs.idle rfl hG, ⟨fun _ => hdep ⟨0, .phase⟩ (by simp) rfl, trivial⟩, Ns.idle hN⟩
        rintro fZ tZ u6 ⟨hM, hG, hO, hN⟩ hall
        obtain ⟨e39, e40, e41, e42, e38, e43, e44, -⟩ := Gs.all 8 hall hG rfl
        have HB6 : Below w.heap.size w u6 := hM.bel
        have sz6 : u5.heap.size ≤ u6.heap.size := hM.sz
        obtain ⟨⟨l6p0, K6p0⟩, ⟨l6p1, K6p1⟩, ⟨l6p2, K6p2⟩, ⟨l6r6, K6r6⟩, -⟩ := hM.ks.up hM.sz
        dsimp only at l6p0 K6p0 l6p1 K6p1 l6p2 K6p2 l6r6 K6r6
        have K6n1_6 : CV u6 (b1_6) (LN (P (n + n + 1))) := by
          have h1 : CV u6 (b1_6) (bif fZ 7 then LN (P (n + n + 1)) else LN (P (n + n))) := hM.ex.1.2.2.2
          rw [hall 7 (by decide)] at h1; exact h1
        have l6n1_6 : b1_6 < u6.heap.size := Nat.lt_of_lt_of_le hM.ex.1.2.1 hM.sz
        simp only [ovr, List.set_cons_zero, List.set_cons_succ, e39, e40, e41, e42, e38, e43, e44]
        clear hM hG hO hN hall e39 e40 e41 e42 e38 e43 e44 K5n1_6 K5p0 K5p1 K5p2 K5r6 HB5
        clear tZ
        go_upto_region 6 with fail
        refine region_plain [26, 27, 10] (fun fZ tZ uZ => MR w.heap.size w (u6.heap.size) [(w.heap.size, LN a), (w.heap.size + 1, LN e), (w.heap.size + 1 + 1, LN m), (w.heap.size + 1 + 1 + 1, L0s), (b1_6, LN (P (n + n + 1)))] [] [] uZ ∧ Gs fZ tZ [(0, 26, .int .i64 (((k + 1 : Nat) : Int) - 1)), (1, 27, .int .i64 ((k : Int) - 1)), (2, 10, .int .i64 ((k : Int) - 1))] ∧ Os fZ [(2, 0)] ∧ Ns fZ tZ [(2, 10, .int .i64 (((k + 1 : Nat) : Int) - 1))]) (by kernel_rfl) ?_ ?_ ?_
        · exact ⟨{ bel := HB6, lo := HB6.size, sz := Nat.le_refl _, ks := ⟨⟨l6p0, K6p0⟩, ⟨l6p1, K6p1⟩, ⟨l6p2, K6p2⟩, ⟨l6r6, K6r6⟩, ⟨l6n1_6, K6n1_6⟩, trivial⟩, ex := trivial, nw := trivial, nd := trivial }, Gs.none _ _, Os.none _, ⟨fun _ => rfl, trivial⟩⟩
        · rintro fZ tZ uZ iZ oZ aZ hF ⟨hM, hG, hO, hN⟩ ho hfi hdep
          have hS : [26, 27, 10].Nodup := by decide
          have hV := hF.evs (N := 46) (by decide) rfl (by decide)
          have il : iZ < 3 := (Array.getElem?_eq_some_iff.1 ho).1
          have ix : iZ = 0 ∨ iZ = 1 ∨ iZ = 2 := by omega
          rcases ix with rfl | rfl | rfl
          · cases ho; have yi10 : fZ 2 = false := Os.not (hO.1) hfi
            have ei10 : tZ 10 = .int .i64 (((k + 1 : Nat) : Int) - 1) := hN.1 yi10
            exact t_move ((hV 10 (by decide)).trans ei10) hF hS rfl rfl rfl rfl (by decide) ⟨hM, Gs.stepA hG rfl rfl, hO.keep rfl, Ns.step hN rfl⟩
          · cases ho; refine op_plain rfl rfl (fun K hK => ?_)
            have e26 := hG.1 (hdep ⟨0, .data⟩ (by simp) rfl)
            refine wp_bin rfl ((hV 26 (by decide)).trans e26) rfl (sub_i _ _ (((k + 1 : Nat) : Int) - 1) 1 ((k : Int) - 1) uZ (by omega) (by omega) (by omega)) ?_
            exact tell hK hF hS (by decide) ⟨hM, Gs.stepA hG rfl rfl, hO.keep rfl, Ns.step hN rfl⟩
          · cases ho; have e27 := hG.2.1 (hdep ⟨1, .data⟩ (by simp) rfl)
            exact t_assign ((hV 27 (by decide)).trans e27) hF hS rfl rfl rfl rfl (by decide) ⟨hM, Gs.stepA hG rfl rfl, ⟨fun _ => hdep ⟨0, .phase⟩ (by simp) rfl, trivial⟩, Ns.step hN rfl⟩
        rintro fZ tZ u7 ⟨hM, hG, hO, hN⟩ hall
        obtain ⟨e26, e27, e10, -⟩ := Gs.all 3 hall hG rfl
        have HB7 : Below w.heap.size w u7 := hM.bel
        have sz7 : u6.heap.size ≤ u7.heap.size := hM.sz
        obtain ⟨⟨l7p0, K7p0⟩, ⟨l7p1, K7p1⟩, ⟨l7p2, K7p2⟩, ⟨l7r6, K7r6⟩, ⟨l7n1_6, K7n1_6⟩, -⟩ := hM.ks.up hM.sz
        dsimp only at l7p0 K7p0 l7p1 K7p1 l7p2 K7p2 l7r6 K7r6 l7n1_6 K7n1_6
        simp only [ovr, List.set_cons_zero, List.set_cons_succ, e26, e27, e10]
        clear hM hG hO hN hall e26 e27 e10 K6n1_6 K6p0 K6p1 K6p2 K6r6 HB6
        clear tZ
        go_wp2
        refine ⟨⟨k, by omega, rfl, HB7, K7p0, K7p1, K7p2, K7r6, by rw [hnx.out]; simp only [Hb.out]; exact K7n1_6, l7n1_6⟩, ?_⟩
        simp [intOf] <;> omega
theorem xExp (a e m : Int) (w : World) (ha : In a) (he : In e) (hm : In m) (h : m ≠ 0) :
    Calls Try.prog 30 #[NV a, NV e, NV m] w fun en w' => en = .returned (.tuple #[NV (a ^ e.toNat % m), .int .i64 0]) ∧ Below w.heap.size w w' := by
  refine xExpP (fun k => a ^ k % m) a e m w ha he hm h (by simp only [Int.pow_zero]) (fun i j u => ?_) (fun i u => ?_)
  · have k := xMul (a ^ i % m) (a ^ j % m) m u (In_mod hm h) (In_mod hm h) hm h
    rw [← Int.mul_emod, ← Int.pow_add] at k
    exact k
  · have k := xMul (a ^ i % m) a m u (In_mod hm h) ha hm h
    rw [Int.mul_emod, Int.emod_emod, ← Int.mul_emod, ← Int.pow_succ] at k
    exact k
set_option maxRecDepth 100000 in
set_option maxHeartbeats 2000000 in
theorem xExp0 (a e : Int) (w : World) :
    Calls Try.prog 30 #[NV a, NV e, A4 0 0 0 0] w fun en w' => en = .returned (.tuple #[A4 0 0 0 0, .int .i64 20]) ∧ Below w.heap.size w w' := by
  go_enter Try.func30, Try.ntmps30
  go_upto_region 1 with fail
  have HB0 : Below w.heap.size w ((((w.alloc (.cells (LN a : List Value).toArray 25)).alloc (.cells (LN e : List Value).toArray 25)).alloc (.cells ([.int .u64 (0), .int .u64 (0), .int .u64 (0), .int .u64 (0)] : List Value).toArray 25)).alloc (.cells (L0s : List Value).toArray 25)) := (balloc (balloc (balloc (balloc (bself w) _) _) _) _)
  have K0p0 : CV ((((w.alloc (.cells (LN a : List Value).toArray 25)).alloc (.cells (LN e : List Value).toArray 25)).alloc (.cells ([.int .u64 (0), .int .u64 (0), .int .u64 (0), .int .u64 (0)] : List Value).toArray 25)).alloc (.cells (L0s : List Value).toArray 25)) (w.heap.size) (LN a) := ((((CV.new w (LN a) 25).alloc (by simp <;> omega) _).alloc (by simp <;> omega) _).alloc (by simp <;> omega) _)
  have l0p0 : w.heap.size < ((((w.alloc (.cells (LN a : List Value).toArray 25)).alloc (.cells (LN e : List Value).toArray 25)).alloc (.cells ([.int .u64 (0), .int .u64 (0), .int .u64 (0), .int .u64 (0)] : List Value).toArray 25)).alloc (.cells (L0s : List Value).toArray 25)).heap.size := by simp <;> omega
  have K0p1 : CV ((((w.alloc (.cells (LN a : List Value).toArray 25)).alloc (.cells (LN e : List Value).toArray 25)).alloc (.cells ([.int .u64 (0), .int .u64 (0), .int .u64 (0), .int .u64 (0)] : List Value).toArray 25)).alloc (.cells (L0s : List Value).toArray 25)) (w.heap.size + 1) (LN e) := (((CV.newAt (w.alloc (.cells (LN a : List Value).toArray 25)) (LN e) 25 _ (by simp)).alloc (by simp <;> omega) _).alloc (by simp <;> omega) _)
  have l0p1 : w.heap.size + 1 < ((((w.alloc (.cells (LN a : List Value).toArray 25)).alloc (.cells (LN e : List Value).toArray 25)).alloc (.cells ([.int .u64 (0), .int .u64 (0), .int .u64 (0), .int .u64 (0)] : List Value).toArray 25)).alloc (.cells (L0s : List Value).toArray 25)).heap.size := by simp <;> omega
  have K0p2 : CV ((((w.alloc (.cells (LN a : List Value).toArray 25)).alloc (.cells (LN e : List Value).toArray 25)).alloc (.cells ([.int .u64 (0), .int .u64 (0), .int .u64 (0), .int .u64 (0)] : List Value).toArray 25)).alloc (.cells (L0s : List Value).toArray 25)) (w.heap.size + 1 + 1) ([.int .u64 (0), .int .u64 (0), .int .u64 (0), .int .u64 (0)]) := ((CV.newAt ((w.alloc (.cells (LN a : List Value).toArray 25)).alloc (.cells (LN e : List Value).toArray 25)) ([.int .u64 (0), .int .u64 (0), .int .u64 (0), .int .u64 (0)]) 25 _ (by simp)).alloc (by simp <;> omega) _)
  have l0p2 : w.heap.size + 1 + 1 < ((((w.alloc (.cells (LN a : List Value).toArray 25)).alloc (.cells (LN e : List Value).toArray 25)).alloc (.cells ([.int .u64 (0), .int .u64 (0), .int .u64 (0), .int .u64 (0)] : List Value).toArray 25)).alloc (.cells (L0s : List Value).toArray 25)).heap.size := by simp <;> omega
  have K0r6 : CV ((((w.alloc (.cells (LN a : List Value).toArray 25)).alloc (.cells (LN e : List Value).toArray 25)).alloc (.cells ([.int .u64 (0), .int .u64 (0), .int .u64 (0), .int .u64 (0)] : List Value).toArray 25)).alloc (.cells (L0s : List Value).toArray 25)) (w.heap.size + 1 + 1 + 1) (L0s) := (CV.newAt (((w.alloc (.cells (LN a : List Value).toArray 25)).alloc (.cells (LN e : List Value).toArray 25)).alloc (.cells ([.int .u64 (0), .int .u64 (0), .int .u64 (0), .int .u64 (0)] : List Value).toArray 25)) (L0s) 25 _ (by simp))
  have l0r6 : w.heap.size + 1 + 1 + 1 < ((((w.alloc (.cells (LN a : List Value).toArray 25)).alloc (.cells (LN e : List Value).toArray 25)).alloc (.cells ([.int .u64 (0), .int .u64 (0), .int .u64 (0), .int .u64 (0)] : List Value).toArray 25)).alloc (.cells (L0s : List Value).toArray 25)).heap.size := by simp <;> omega
  generalize ((((w.alloc (.cells (LN a : List Value).toArray 25)).alloc (.cells (LN e : List Value).toArray 25)).alloc (.cells ([.int .u64 (0), .int .u64 (0), .int .u64 (0), .int .u64 (0)] : List Value).toArray 25)).alloc (.cells (L0s : List Value).toArray 25)) = v0 at *
  refine region_plain [12, 13, 14, 11, 15, 16, 8, 9] (fun fZ tZ uZ => MR w.heap.size w (v0.heap.size) [(w.heap.size, LN a), (w.heap.size + 1, LN e), (w.heap.size + 1 + 1, [.int .u64 (0), .int .u64 (0), .int .u64 (0), .int .u64 (0)]), (w.heap.size + 1 + 1 + 1, L0s)] [] [(fZ 6, fZ 7, tZ 8, L0s, [.int .u64 (0), .int .u64 (0), .int .u64 (0), .int .u64 (0)])] uZ ∧ Gs fZ tZ [(0, 12, WV 1), (1, 13, .agg #[.int .u64 (0), .int .u64 (0), .int .u64 (0), .int .u64 (0)]), (2, 14, .tuple #[A4 (0) (0) (0) (0), .int .i64 20]), (3, 11, .tuple #[A4 (0) (0) (0) (0), .int .i64 20]), (4, 15, A4 (0) (0) (0) (0)), (5, 16, .int .i64 20), (8, 9, .int .i64 20)] ∧ Os fZ [(7, 6)] ∧ Ns fZ tZ []) (by kernel_rfl) ?_ ?_ ?_
  · exact ⟨{ bel := HB0, lo := HB0.size, sz := Nat.le_refl _, ks := ⟨⟨l0p0, K0p0⟩, ⟨l0p1, K0p1⟩, ⟨l0p2, K0p2⟩, ⟨l0r6, K0r6⟩, trivial⟩, ex := trivial, nw := ⟨fun e => (by cases e), trivial⟩, nd := ⟨fun e => (by cases e), trivial⟩ }, Gs.none _ _, Os.none _, trivial⟩
  · rintro fZ tZ uZ iZ oZ aZ hF ⟨hM, hG, hO, hN⟩ ho hfi hdep
    have hS : [12, 13, 14, 11, 15, 16, 8, 9].Nodup := by decide
    have hV := hF.evs (N := 46) (by decide) rfl (by decide)
    have il : iZ < 9 := (Array.getElem?_eq_some_iff.1 ho).1
    have ix : iZ = 0 ∨ iZ = 1 ∨ iZ = 2 ∨ iZ = 3 ∨ iZ = 4 ∨ iZ = 5 ∨ iZ = 6 ∨ iZ = 7 ∨ iZ = 8 := by omega
    rcases ix with rfl | rfl | rfl | rfl | rfl | rfl | rfl | rfl | rfl
    · cases ho; refine op_plain rfl rfl (fun K hK => ?_)
      refine wp_build rfl (vps := [(0, (Go.Value.int Go.IntKind.u64 1))]) (by show [(0, (Go.Value.int Go.IntKind.u64 1))] = _; rfl) (bdw1 uZ) ?_
      exact tell hK hF hS (by decide) ⟨hM, Gs.stepA hG rfl rfl, hO.keep rfl, Ns.step hN rfl⟩
    · cases ho; exact t_load (show aZ.eval (.tmp 5) = .pointer (some ⟨w.heap.size + 1 + 1, 0, none⟩) from (hF.out 5 (by decide)).trans rfl) hM.ks.2.2.1.2 Try.underlying25 info_api_Nat hF hS rfl rfl rfl rfl rfl (by decide) ⟨hM, Gs.stepA hG rfl rfl, hO.keep rfl, Ns.step hN rfl⟩
    · cases ho; have e12 := hG.1 (hdep ⟨0, .data⟩ (by simp) rfl)
      have e13 := hG.2.1 (hdep ⟨1, .data⟩ (by simp) rfl)
      exact t_call (vs := [WV 1, .agg #[.int .u64 (0), .int .u64 (0), .int .u64 (0), .int .u64 (0)]]) (by show [aZ.eval (.tmp 12), aZ.eval (.tmp 13)] = _; rw [((hV 12 (by decide)).trans e12), ((hV 13 (by decide)).trans e13)]) ent_seneschalref02_Reduce (xReduce0 1 uZ) hF hS rfl rfl rfl rfl (by decide) (fun _ hB => ⟨hM.call hB, Gs.stepA hG rfl rfl, hO.keep rfl, Ns.step hN rfl⟩)
    · cases ho; have e14 := hG.2.2.1 (hdep ⟨2, .data⟩ (by simp) rfl)
      exact t_move ((hV 14 (by decide)).trans e14) hF hS rfl rfl rfl rfl (by decide) ⟨hM, Gs.stepA hG rfl rfl, hO.keep rfl, Ns.step hN rfl⟩
    · cases ho; have e11 := hG.2.2.2.1 (hdep ⟨3, .data⟩ (by simp) rfl)
      exact t_extract ((hV 11 (by decide)).trans e11) hF hS rfl rfl rfl rfl rfl (by decide) ⟨hM, Gs.stepA hG rfl rfl, hO.keep rfl, Ns.step hN rfl⟩
    · cases ho; have e11 := hG.2.2.2.1 (hdep ⟨3, .data⟩ (by simp) rfl)
      exact t_extract ((hV 11 (by decide)).trans e11) hF hS rfl rfl rfl rfl rfl (by decide) ⟨hM, Gs.stepA hG rfl rfl, hO.keep rfl, Ns.step hN rfl⟩
    · cases ho; have q1 : fZ 7 = false := Os.not (hO.1) hfi
      exact t_alloc (al_api_Nat uZ) hF hS rfl rfl rfl rfl (by decide) ⟨MR.newF 0 hM rfl hfi q1, Gs.other rfl hG, hO.keep rfl, Ns.step hN rfl⟩
    · cases ho; have e15 := hG.2.2.2.2.1 (hdep ⟨4, .data⟩ (by simp) rfl)
      exact t_storeN 0 hM rfl (hdep ⟨6, .data⟩ (by simp) rfl) hfi (hV 8 (by decide)) ((hV 15 (by decide)).trans e15) rfl info_api_Nat rfl hF rfl rfl rfl rfl (fun _ h => ⟨h, Gs.idle rfl hG, ⟨fun _ => hdep ⟨6, .data⟩ (by simp) rfl, trivial⟩, Ns.idle hN⟩)
    · cases ho; have e16 := hG.2.2.2.2.2.1 (hdep ⟨5, .data⟩ (by simp) rfl)
      exact t_assign ((hV 16 (by decide)).trans e16) hF hS rfl rfl rfl rfl (by decide) ⟨hM, Gs.stepA hG rfl rfl, hO.keep rfl, Ns.step hN rfl⟩
  rintro fZ tZ u1 ⟨hM, hG, hO, hN⟩ hall
  obtain ⟨e12, e13, e14, e11, e15, e16, e9, -⟩ := Gs.all 9 hall hG rfl
  obtain ⟨b1_6, ee8, pb1_6, lb1_6, kb1_6⟩ := hM.nw.1 (hall 6 (by decide))
  have e8 : tZ 8 = .pointer (some ⟨b1_6, 0, none⟩) := ee8
  clear ee8
  have Kb1_6 : CV u1 b1_6 ([.int .u64 (0), .int .u64 (0), .int .u64 (0), .int .u64 (0)]) := by
    have h1 : CV u1 b1_6 (bif fZ 7 then [.int .u64 (0), .int .u64 (0), .int .u64 (0), .int .u64 (0)] else L0s) := kb1_6
    rw [hall 7 (by decide)] at h1; exact h1
  clear kb1_6
  have HB1 : Below w.heap.size w u1 := hM.bel
  have sz1 : v0.heap.size ≤ u1.heap.size := hM.sz
  obtain ⟨-, -, -, ⟨l1r6, K1r6⟩, -⟩ := hM.ks.up hM.sz
  dsimp only at l1r6 K1r6
  simp only [ovr, List.set_cons_zero, List.set_cons_succ, e12, e13, e14, e11, e15, e16, e9, e8]
  clear hM hG hO hN hall e12 e13 e14 e11 e15 e16 e9 e8 K0p0 K0p1 K0p2 K0r6 HB0
  clear tZ
  go_upto_region 3 with fail
  refine region_plain [19, 20, 7] (fun fZ tZ uZ => MR w.heap.size w (u1.heap.size) [] [(w.heap.size + 1 + 1 + 1, fZ 2, L0s, [.int .u64 (0), .int .u64 (0), .int .u64 (0), .int .u64 (0)])] [] uZ ∧ Gs fZ tZ [(0, 19, A4 (0) (0) (0) (0)), (1, 20, .int .i64 20), (3, 7, .int .i64 20)] ∧ Os fZ [] ∧ Ns fZ tZ []) (by kernel_rfl) ?_ ?_ ?_
  · exact ⟨{ bel := HB1, lo := HB1.size, sz := Nat.le_refl _, ks := trivial, ex := ⟨⟨(by omega), l1r6, rfl, K1r6⟩, trivial⟩, nw := trivial, nd := trivial }, Gs.none _ _, Os.none _, trivial⟩
  · rintro fZ tZ uZ iZ oZ aZ hF ⟨hM, hG, hO, hN⟩ ho hfi hdep
    have hS : [19, 20, 7].Nodup := by decide
    have hV := hF.evs (N := 46) (by decide) rfl (by decide)
    have il : iZ < 4 := (Array.getElem?_eq_some_iff.1 ho).1
    have ix : iZ = 0 ∨ iZ = 1 ∨ iZ = 2 ∨ iZ = 3 := by omega
    rcases ix with rfl | rfl | rfl | rfl
    · cases ho; refine op_plain rfl rfl (fun K hK => ?_)
      refine wp_val (v := A4 (0) (0) (0) (0)) (w' := uZ) (by kernel_rfl) ?_
      exact tell hK hF hS (by decide) ⟨hM, Gs.stepA hG rfl rfl, trivial, Ns.step hN rfl⟩
    · cases ho; exact t_move (show aZ.eval (.tmp 9) = .int .i64 20 from (hF.out 9 (by decide)).trans rfl) hF hS rfl rfl rfl rfl (by decide) ⟨hM, Gs.stepA hG rfl rfl, trivial, Ns.step hN rfl⟩
    · cases ho; refine op_plain rfl rfl (fun K hK => ?_)
      have kk : CV uZ (w.heap.size + 1 + 1 + 1) (bif fZ 2 then [.int .u64 (0), .int .u64 (0), .int .u64 (0), .int .u64 (0)] else L0s) := hM.ex.1.2.2.2
      rw [hfi] at kk
      have kk : CV uZ (w.heap.size + 1 + 1 + 1) (L0s) := kk
      have e19 := hG.1 (hdep ⟨0, .data⟩ (by simp) rfl)
      refine wp_store_mid 25 _ _ rfl (w.heap.size + 1 + 1 + 1) 0 ([.int .u64 (0), .int .u64 (0), .int .u64 (0), .int .u64 (0)] : List Value).toArray (show aZ.eval (.tmp 6) = .pointer (some ⟨w.heap.size + 1 + 1 + 1, 0, none⟩) from (hF.out 6 (by decide)).trans rfl) ((hV 19 (by decide)).trans e19) kk.there info_api_Nat (all_one rfl) ?_
      exact tell0 hK hF ⟨MR.putXF 0 hM rfl trivial trivial, Gs.idle rfl hG, trivial, Ns.idle hN⟩
    · cases ho; have e20 := hG.2.1 (hdep ⟨1, .data⟩ (by simp) rfl)
      exact t_assign ((hV 20 (by decide)).trans e20) hF hS rfl rfl rfl rfl (by decide) ⟨hM, Gs.stepA hG rfl rfl, trivial, Ns.step hN rfl⟩
  rintro fZ tZ u2 ⟨hM, hG, hO, hN⟩ hall
  obtain ⟨e19, e20, e7, -⟩ := Gs.all 4 hall hG rfl
  have HB2 : Below w.heap.size w u2 := hM.bel
  have sz2 : u1.heap.size ≤ u2.heap.size := hM.sz
  have K2r6 : CV u2 (w.heap.size + 1 + 1 + 1) ([.int .u64 (0), .int .u64 (0), .int .u64 (0), .int .u64 (0)]) := by
    have h1 : CV u2 (w.heap.size + 1 + 1 + 1) (bif fZ 2 then [.int .u64 (0), .int .u64 (0), .int .u64 (0), .int .u64 (0)] else L0s) := hM.ex.1.2.2.2
    rw [hall 2 (by decide)] at h1; exact h1
  have l2r6 : w.heap.size + 1 + 1 + 1 < u2.heap.size := Nat.lt_of_lt_of_le hM.ex.1.2.1 hM.sz
  simp only [ovr, List.set_cons_zero, List.set_cons_succ, e19, e20, e7]
  clear hM hG hO hN hall e19 e20 e7 K1r6 HB1
  clear tZ
  have c6_0 := (K2r6 0 _ rfl).1
  have c6_1 := (K2r6 1 _ rfl).1
  have c6_2 := (K2r6 2 _ rfl).1
  have c6_3 := (K2r6 3 _ rfl).1
  go_wp2
  refine bodyPost_ret (v := .tuple #[A4 0 0 0 0, .int .i64 20]) (by simp [results, Try.results30, go_sem, c6_0, c6_1, c6_2, c6_3]) rfl ⟨rfl, HB2⟩
end Go.Proofs.Ytnmkbihjbnbkkaa
