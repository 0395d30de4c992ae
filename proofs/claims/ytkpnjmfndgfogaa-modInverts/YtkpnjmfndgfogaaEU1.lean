/- Numbers modulo one: euclid. -/
import Derived.Test.YtkpnjmfndgfogaaEE
namespace Go.Proofs.Ytkpnjmfndgfogaa
open Go.RowKit
set_option linter.unusedVariables false
set_option linter.unusedSimpArgs false
theorem LN_0 : LN 0 = [.int .u64 0, .int .u64 0, .int .u64 0, .int .u64 0] := by simp [LN, D0, D1, D2, D3]
theorem In_le {m x : Int} (hm : In m) (h0 : 0 ≤ x) (h1 : x ≤ m) : In x := ⟨h0, by have := hm.2; omega⟩
theorem mlowI (n : Int) (w : World) (h : In n) : Calls Try.prog 84 #[WV n] w fun e w' => e = .returned (NV n) ∧ Below w.heap.size w w' := by
  have := mlow n w
  rw [In_lo h] at this; exact this
set_option maxRecDepth 100000 in
set_option maxHeartbeats 4000000 in
theorem meuclid (m a : Int) (w : World) (hm : In m) (ha : In a) (h0 : 0 ≤ a) (h1 : a < m) :
    Calls Try.prog 58 #[NV m, NV a] w fun e w' => e = .returned (.tuple #[NV (eu m a).1, NV (eu m a).2.1, .bool (eu m a).2.2]) ∧ Below w.heap.size w w' := by
  go_enter Try.func58, Try.ntmps58
  go_upto_region 1 with fail
  generalize hC : ((((w.alloc (.cells (LN m : List Value).toArray 25)).alloc (.cells (LN a : List Value).toArray 25)).alloc (.cells (L0s : List Value).toArray 25)).alloc (.cells (L0s : List Value).toArray 25)) = v0 at *
  have HB0 : Below w.heap.size w v0 := by rw [← hC]; exact (balloc (balloc (balloc (balloc (bself w) _) _) _) _)
  have K0p0 : CV v0 (w.heap.size) (LN m) := by rw [← hC]; exact ((((CV.new w (LN m) 25).alloc (by simp <;> omega) _).alloc (by simp <;> omega) _).alloc (by simp <;> omega) _)
  have l0p0 : w.heap.size < v0.heap.size := by rw [← hC]; simp <;> omega
  have K0p1 : CV v0 (w.heap.size + 1) (LN a) := by rw [← hC]; exact (((CV.newAt (w.alloc (.cells (LN m : List Value).toArray 25)) (LN a) 25 _ (by simp)).alloc (by simp <;> omega) _).alloc (by simp <;> omega) _)
  have l0p1 : w.heap.size + 1 < v0.heap.size := by rw [← hC]; simp <;> omega
  have K0r4 : CV v0 (w.heap.size + 1 + 1) (L0s) := by rw [← hC]; exact ((CV.newAt ((w.alloc (.cells (LN m : List Value).toArray 25)).alloc (.cells (LN a : List Value).toArray 25)) (L0s) 25 _ (by simp)).alloc (by simp <;> omega) _)
  have l0r4 : w.heap.size + 1 + 1 < v0.heap.size := by rw [← hC]; simp <;> omega
  have K0r5 : CV v0 (w.heap.size + 1 + 1 + 1) (L0s) := by rw [← hC]; exact (CV.newAt (((w.alloc (.cells (LN m : List Value).toArray 25)).alloc (.cells (LN a : List Value).toArray 25)).alloc (.cells (L0s : List Value).toArray 25)) (L0s) 25 _ (by simp))
  have l0r5 : w.heap.size + 1 + 1 + 1 < v0.heap.size := by rw [← hC]; simp <;> omega
  clear hC
  refine region_drawn [13, 14, 7] (fun fZ tZ uZ => MR w.heap.size w (v0.heap.size) [(w.heap.size, LN m), (w.heap.size + 1, LN a), (w.heap.size + 1 + 1 + 1, L0s)] [(w.heap.size + 1 + 1, fZ 3, L0s, LN m)] [(fZ 2, fZ 4, tZ 7, L0s, LN a)] uZ ∧ Gs fZ tZ [(0, 13, NV m), (1, 14, NV a)] ∧ Os fZ [(4, 2)] ∧ Ns fZ tZ []) (by kernel_rfl) (by kernel_rfl) ?_ ?_ ?_
  · exact ⟨{ bel := HB0.drew, lo := HB0.size, sz := Nat.le_refl _, ks := ⟨⟨l0p0, K0p0⟩, ⟨l0p1, K0p1⟩, ⟨l0r5, K0r5⟩, trivial⟩, ex := ⟨⟨(by omega), l0r4, rfl, K0r4⟩, trivial⟩, nw := ⟨fun e => (by cases e), trivial⟩, nd := ⟨fun e => (by cases e), trivial⟩ }, Gs.none _ _, Os.none _, trivial⟩
  · rintro fZ tZ uZ iZ oZ aZ hF ⟨hM, hG, hO, hN⟩ ho hfi hdep
    obtain ⟨hS, hV⟩ := hF.two 44 (by decide) rfl (by decide)
    rcases cZ5 ho with rfl | rfl | rfl | rfl | rfl <;> cases ho
    · exact t_load (show aZ.eval (.tmp 2) = .pointer (some ⟨w.heap.size, 0, none⟩) from (hF.out 2 (by decide)).trans rfl) hM.ks.1.2 Try.underlying25 info_api_Nat hF hS rfl rfl rfl rfl rfl (by decide) (Jm hM hG hO hN)
    · exact t_load (show aZ.eval (.tmp 3) = .pointer (some ⟨w.heap.size + 1, 0, none⟩) from (hF.out 3 (by decide)).trans rfl) hM.ks.2.1.2 Try.underlying25 info_api_Nat hF hS rfl rfl rfl rfl rfl (by decide) (Jm hM hG hO hN)
    · have q1 : fZ 4 = false := Os.not (hO.1) hfi
      exact t_alloc (al_api_Nat uZ) hF hS rfl rfl rfl rfl (by decide) ⟨MR.newF 0 hM rfl hfi q1, Gs.other rfl hG, hO.keep rfl, Ns.step hN rfl⟩
    · refine op_plain rfl rfl (fun K hK => ?_)
      have kk : CV uZ (w.heap.size + 1 + 1) (bif fZ 3 then LN m else L0s) := hM.ex.1.2.2.2
      rw [hfi] at kk
      have kk : CV uZ (w.heap.size + 1 + 1) (L0s) := kk
      refine wp_store_mid 25 _ _ rfl (w.heap.size + 1 + 1) 0 (LN m : List Value).toArray (show aZ.eval (.tmp 4) = .pointer (some ⟨w.heap.size + 1 + 1, 0, none⟩) from (hF.out 4 (by decide)).trans rfl) (ve 13 hV (hG.1 (dd 0 hdep))) kk.there info_api_Nat (all_one rfl) ?_
      exact tell0 hK hF ⟨MR.putXF 0 hM rfl ⟨by omega, by omega, by omega, trivial⟩ trivial, Gs.idle rfl hG, hO.keep rfl, Ns.idle hN⟩
    · exact t_storeN 0 hM rfl (dd 2 hdep) hfi (hV 7 (by decide)) (ve 14 hV (hG.2.1 (dd 1 hdep))) rfl info_api_Nat rfl hF rfl rfl rfl rfl (fun _ h => ⟨h, Gs.idle rfl hG, ⟨fun _ => (dd 2 hdep :), trivial⟩, Ns.idle hN⟩)
  rintro fZ tZ u1 ⟨hM, hG, hO, hN⟩ hall
  obtain ⟨e13, e14, -⟩ := Gs.all 5 hall hG rfl
  obtain ⟨b1_2, ee7, pb1_2, lb1_2, kb1_2⟩ := hM.nw.1 (hall 2 (by decide))
  have e7 : tZ 7 = .pointer (some ⟨b1_2, 0, none⟩) := ee7
  clear ee7
  have Kb1_2 : CV u1 b1_2 (LN a) := by
    have h1 : CV u1 b1_2 (bif fZ 4 then LN a else L0s) := kb1_2
    rw [hall 4 (by decide)] at h1; exact h1
  clear kb1_2
  have HB1 : Below w.heap.size w u1 := hM.bel
  have sz1 : v0.heap.size ≤ u1.heap.size := hM.sz
  obtain ⟨⟨l1p0, K1p0⟩, ⟨l1p1, K1p1⟩, ⟨l1r5, K1r5⟩, -⟩ := hM.ks.up hM.sz
  dsimp only at l1p0 K1p0 l1p1 K1p1 l1r5 K1r5
  have K1r4 : CV u1 (w.heap.size + 1 + 1) (LN m) := by
    have h1 : CV u1 (w.heap.size + 1 + 1) (bif fZ 3 then LN m else L0s) := hM.ex.1.2.2.2
    rw [hall 3 (by decide)] at h1; exact h1
  have l1r4 : w.heap.size + 1 + 1 < u1.heap.size := Nat.lt_of_lt_of_le hM.ex.1.2.1 hM.sz
  simp only [ovr, List.set_cons_zero, List.set_cons_succ, e13, e14, e7]
  clear hM hG hO hN hall e13 e14 e7 K0p0 K0p1 K0r4 K0r5 HB0
  clear tZ
  go_upto_region 2 with fail
  refine region_plain [15, 16, 8] (fun fZ tZ uZ => MR w.heap.size w (u1.heap.size) [(w.heap.size, LN m), (w.heap.size + 1, LN a), (w.heap.size + 1 + 1, LN m), (b1_2, LN a)] [(w.heap.size + 1 + 1 + 1, fZ 3, L0s, [.int .u64 (0), .int .u64 (0), .int .u64 (0), .int .u64 (0)])] [(fZ 2, fZ 4, tZ 8, L0s, LN 1)] uZ ∧ Gs fZ tZ [(0, 15, A4 (0) (0) (0) (0)), (1, 16, NV 1)] ∧ Os fZ [(4, 2)] ∧ Ns fZ tZ []) (by kernel_rfl) ?_ ?_ ?_
  · exact ⟨{ bel := HB1, lo := HB1.size, sz := Nat.le_refl _, ks := ⟨⟨l1p0, K1p0⟩, ⟨l1p1, K1p1⟩, ⟨l1r4, K1r4⟩, ⟨lb1_2, Kb1_2⟩, trivial⟩, ex := ⟨⟨(by omega), l1r5, rfl, K1r5⟩, trivial⟩, nw := ⟨fun e => (by cases e), trivial⟩, nd := ⟨fun e => (by cases e), trivial⟩ }, Gs.none _ _, Os.none _, trivial⟩
  · rintro fZ tZ uZ iZ oZ aZ hF ⟨hM, hG, hO, hN⟩ ho hfi hdep
    obtain ⟨hS, hV⟩ := hF.two 44 (by decide) rfl (by decide)
    rcases cZ5 ho with rfl | rfl | rfl | rfl | rfl <;> cases ho
    · refine op_plain rfl rfl (fun K hK => ?_)
      refine wp_val (v := A4 (0) (0) (0) (0)) (w' := uZ) (by kernel_rfl) ?_
      exact tell hK hF hS (by decide) (Jm hM hG hO hN)
    · exact t_call (vs := [(Go.Value.int Go.IntKind.u64 1)]) (by show [(Go.Value.int Go.IntKind.u64 1)] = _; rfl) ent_limb_Of (nOf 1 uZ (by omega) (by omega)) hF hS rfl rfl rfl rfl (by decide) (fun _ hB => (Jm (hM.call hB) hG hO hN))
    · have q1 : fZ 4 = false := Os.not (hO.1) hfi
      exact t_alloc (al_api_Nat uZ) hF hS rfl rfl rfl rfl (by decide) ⟨MR.newF 0 hM rfl hfi q1, Gs.other rfl hG, hO.keep rfl, Ns.step hN rfl⟩
    · refine op_plain rfl rfl (fun K hK => ?_)
      have kk : CV uZ (w.heap.size + 1 + 1 + 1) (bif fZ 3 then [.int .u64 (0), .int .u64 (0), .int .u64 (0), .int .u64 (0)] else L0s) := hM.ex.1.2.2.2
      rw [hfi] at kk
      have kk : CV uZ (w.heap.size + 1 + 1 + 1) (L0s) := kk
      refine wp_store_mid 25 _ _ rfl (w.heap.size + 1 + 1 + 1) 0 ([.int .u64 (0), .int .u64 (0), .int .u64 (0), .int .u64 (0)] : List Value).toArray (show aZ.eval (.tmp 5) = .pointer (some ⟨w.heap.size + 1 + 1 + 1, 0, none⟩) from (hF.out 5 (by decide)).trans rfl) (ve 15 hV (hG.1 (dd 0 hdep))) kk.there info_api_Nat (all_one rfl) ?_
      exact tell0 hK hF ⟨MR.putXF 0 hM rfl ⟨by omega, by omega, by omega, by omega, trivial⟩ trivial, Gs.idle rfl hG, hO.keep rfl, Ns.idle hN⟩
    · exact t_storeN 0 hM rfl (dd 2 hdep) hfi (hV 8 (by decide)) (ve 16 hV (hG.2.1 (dd 1 hdep))) rfl info_api_Nat rfl hF rfl rfl rfl rfl (fun _ h => ⟨h, Gs.idle rfl hG, ⟨fun _ => (dd 2 hdep :), trivial⟩, Ns.idle hN⟩)
  rintro fZ tZ u2 ⟨hM, hG, hO, hN⟩ hall
  obtain ⟨e15, e16, -⟩ := Gs.all 5 hall hG rfl
  obtain ⟨b2_2, ee8, pb2_2, lb2_2, kb2_2⟩ := hM.nw.1 (hall 2 (by decide))
  have e8 : tZ 8 = .pointer (some ⟨b2_2, 0, none⟩) := ee8
  clear ee8
  have Kb2_2 : CV u2 b2_2 (LN 1) := by
    have h1 : CV u2 b2_2 (bif fZ 4 then LN 1 else L0s) := kb2_2
    rw [hall 4 (by decide)] at h1; exact h1
  clear kb2_2
  have HB2 : Below w.heap.size w u2 := hM.bel
  have sz2 : u1.heap.size ≤ u2.heap.size := hM.sz
  obtain ⟨⟨l2p0, K2p0⟩, ⟨l2p1, K2p1⟩, ⟨l2r4, K2r4⟩, ⟨l2n1_2, K2n1_2⟩, -⟩ := hM.ks.up hM.sz
  dsimp only at l2p0 K2p0 l2p1 K2p1 l2r4 K2r4 l2n1_2 K2n1_2
  have K2r5 : CV u2 (w.heap.size + 1 + 1 + 1) ([.int .u64 (0), .int .u64 (0), .int .u64 (0), .int .u64 (0)]) := by
    have h1 : CV u2 (w.heap.size + 1 + 1 + 1) (bif fZ 3 then [.int .u64 (0), .int .u64 (0), .int .u64 (0), .int .u64 (0)] else L0s) := hM.ex.1.2.2.2
    rw [hall 3 (by decide)] at h1; exact h1
  have l2r5 : w.heap.size + 1 + 1 + 1 < u2.heap.size := Nat.lt_of_lt_of_le hM.ex.1.2.1 hM.sz
  simp only [ovr, List.set_cons_zero, List.set_cons_succ, e15, e16, e8]
  clear hM hG hO hN hall e15 e16 e8 K1p0 K1p1 K1r4 K1r5 Kb1_2 HB1
  clear tZ
  go_wp2_with fail
  go_loopw [6] (fun s6 wr => ∃ (k : Nat) (d r f n : Int) (b : Bool), s6 = .bool b ∧ r.toNat ≤ k ∧ EI m a d r f n b ∧ d ≤ m ∧ f ≤ m ∧ Hid (euF k d r f n b = eu m a) ∧ Below w.heap.size w wr ∧ CV wr (w.heap.size + 1 + 1) (LN d) ∧ CV wr (w.heap.size + 1 + 1 + 1) (LN f) ∧ CV wr (b1_2) (LN r) ∧ CV wr (b2_2) (LN n) ∧ b1_2 < wr.heap.size ∧ b2_2 < wr.heap.size) (fun _ wr => natAt wr (b1_2))
  case atStart => exact ⟨a.toNat, m, a, 0, 1, true, rfl, Nat.le_refl _, EI.start h0 h1, by omega, by have := hm.1; omega, rfl, HB2, K2r4, by rw [LN_0]; exact K2r5, K2n1_2, Kb2_2, l2n1_2, lb2_2⟩
  case round =>
    obtain ⟨k, d, r, f, n, b, rfl, hk, hE, hdm, hfm, hg, HBr, Kd, Kf, Kr, Kn, lr, ln⟩ := hrel
    have id : In d := In_le hm (by have := hE.r0; have := hE.rd; omega) hdm
    have ir : In r := In_le hm hE.r0 (by have := hE.rd; omega)
    have if' : In f := In_le hm hE.f0 hfm
    have inn : In n := In_le hm hE.n0 hE.nm
    clear HB2 K2r4 K2r5 K2n1_2 Kb2_2 K2p0 K2p1
    by_cases h2 : r = 0
    · have hz : decide (r = 0) = !false := by simp [h2]
      have hgx : eu m a = (d, f, b) := by rw [← hg.out, h2, euF_end]
      have Hg : Hid _ := hgx
      clear hgx hg h2
      go_upto_region 4 with fail
      refine region_plain [17, 18, 19] (fun fZ tZ uZ => MR w.heap.size w (wr.heap.size) [(w.heap.size + 1 + 1, LN d), (w.heap.size + 1 + 1 + 1, LN f), (b1_2, LN r), (b2_2, LN n)] [] [] uZ ∧ Gs fZ tZ [(0, 17, NV r), (1, 18, A4 (0) (0) (0) (0)), (2, 19, .bool false)] ∧ Os fZ [] ∧ Ns fZ tZ []) (by kernel_rfl) ?_ ?_ ?_
      · exact ⟨{ bel := HBr, lo := HBr.size, sz := Nat.le_refl _, ks := ⟨⟨(by omega), Kd⟩, ⟨(by omega), Kf⟩, ⟨lr, Kr⟩, ⟨ln, Kn⟩, trivial⟩, ex := trivial, nw := trivial, nd := trivial }, Gs.none _ _, Os.none _, trivial⟩
      · rintro fZ tZ uZ iZ oZ aZ hF ⟨hM, hG, hO, hN⟩ ho hfi hdep
        obtain ⟨hS, hV⟩ := hF.two 44 (by decide) rfl (by decide)
        rcases cZ3 ho with rfl | rfl | rfl <;> cases ho
        · exact t_load (show aZ.eval (.tmp 7) = .pointer (some ⟨b1_2, 0, none⟩) from (hF.out 7 (by decide)).trans rfl) hM.ks.2.2.1.2 Try.underlying25 info_api_Nat hF hS rfl rfl rfl rfl rfl (by decide) (Jt hM hG hN)
        · refine op_plain rfl rfl (fun K hK => ?_)
          refine wp_val (v := A4 (0) (0) (0) (0)) (w' := uZ) (by kernel_rfl) ?_
          exact tell hK hF hS (by decide) (Jt hM hG hN)
        · refine op_plain rfl rfl (fun K hK => ?_)
          refine wp_bin rfl (ve 17 hV (hG.1 (dd 0 hdep))) (ve 18 hV (hG.2.1 (dd 1 hdep))) (neq_0 _ _ ir _ hz uZ) ?_
          exact tell hK hF hS (by decide) (Jt hM hG hN)
      rintro fZ tZ u3 ⟨hM, hG, hO, hN⟩ hall
      obtain ⟨e17, e18, e19, -⟩ := Gs.all 3 hall hG rfl
      have HB3 : Below w.heap.size w u3 := hM.bel
      have sz3 : wr.heap.size ≤ u3.heap.size := hM.sz
      obtain ⟨⟨l3r4, K3r4⟩, ⟨l3r5, K3r5⟩, -, -, -⟩ := hM.ks.up hM.sz
      dsimp only at l3r4 K3r4 l3r5 K3r5
      simp only [ovr, List.set_cons_zero, List.set_cons_succ, e17, e18, e19]
      clear hM hG hO hN hall e17 e18 e19 Kd Kf Kn Kr
      clear tZ
      go_upto_region 10 with fail
      refine region_drawn [41, 42, 43, 6] (fun fZ tZ uZ => MR w.heap.size w (u3.heap.size) [] [(w.heap.size + 1 + 1, fZ 3, LN d, LN d), (w.heap.size + 1 + 1 + 1, fZ 4, LN f, LN f)] [] uZ ∧ Gs fZ tZ [(0, 41, NV d), (1, 42, NV f), (2, 43, .bool b), (5, 6, .bool b)] ∧ Os fZ [(3, 0), (4, 1), (5, 2)] ∧ Ns fZ tZ [(5, 6, .bool b)]) (by kernel_rfl) (by kernel_rfl) ?_ ?_ ?_
      · exact ⟨{ bel := HB3.drew, lo := HB3.size, sz := Nat.le_refl _, ks := trivial, ex := ⟨⟨(by omega), l3r4, rfl, K3r4⟩, ⟨(by omega), l3r5, rfl, K3r5⟩, trivial⟩, nw := trivial, nd := trivial }, Gs.none _ _, Os.none _, ⟨fun _ => rfl, trivial⟩⟩
      · rintro fZ tZ uZ iZ oZ aZ hF ⟨hM, hG, hO, hN⟩ ho hfi hdep
        obtain ⟨hS, hV⟩ := hF.two 44 (by decide) rfl (by decide)
        rcases cZ6 ho with rfl | rfl | rfl | rfl | rfl | rfl <;> cases ho
        · refine op_plain rfl rfl (fun K hK => ?_)
          have ys : fZ 3 = false := Os.not (hO.1) hfi
          have kk : CV uZ (w.heap.size + 1 + 1) (bif fZ 3 then LN d else LN d) := hM.ex.1.2.2.2
          rw [ys] at kk
          have kk : CV uZ (w.heap.size + 1 + 1) (LN d) := kk
          refine wp_load_mid 25 _ rfl (w.heap.size + 1 + 1) 0 (show aZ.eval (.tmp 4) = .pointer (some ⟨w.heap.size + 1 + 1, 0, none⟩) from (hF.out 4 (by decide)).trans rfl) (LN d) _ kk.range Try.underlying25 rfl info_api_Nat ?_
          exact tell hK hF hS (by decide) (Jm hM hG hO hN)
        · refine op_plain rfl rfl (fun K hK => ?_)
          have ys : fZ 4 = false := Os.not (hO.2.1) hfi
          have kk : CV uZ (w.heap.size + 1 + 1 + 1) (bif fZ 4 then LN f else LN f) := hM.ex.2.1.2.2.2
          rw [ys] at kk
          have kk : CV uZ (w.heap.size + 1 + 1 + 1) (LN f) := kk
          refine wp_load_mid 25 _ rfl (w.heap.size + 1 + 1 + 1) 0 (show aZ.eval (.tmp 5) = .pointer (some ⟨w.heap.size + 1 + 1 + 1, 0, none⟩) from (hF.out 5 (by decide)).trans rfl) (LN f) _ kk.range Try.underlying25 rfl info_api_Nat ?_
          exact tell hK hF hS (by decide) (Jm hM hG hO hN)
        · have yi6 : fZ 5 = false := Os.not (hO.2.2.1) hfi
          have ei6 : tZ 6 = .bool b := hN.1 yi6
          exact t_move ((hV 6 (by decide)).trans ei6) hF hS rfl rfl rfl rfl (by decide) (Jm hM hG hO hN)
        · refine op_plain rfl rfl (fun K hK => ?_)
          have kk : CV uZ (w.heap.size + 1 + 1) (bif fZ 3 then LN d else LN d) := hM.ex.1.2.2.2
          rw [hfi] at kk
          have kk : CV uZ (w.heap.size + 1 + 1) (LN d) := kk
          refine wp_store_mid 25 _ _ rfl (w.heap.size + 1 + 1) 0 (LN d : List Value).toArray (show aZ.eval (.tmp 4) = .pointer (some ⟨w.heap.size + 1 + 1, 0, none⟩) from (hF.out 4 (by decide)).trans rfl) (ve 41 hV (hG.1 (dd 0 hdep))) kk.there info_api_Nat (all_one rfl) ?_
          exact tell0 hK hF ⟨MR.putXF 0 hM rfl trivial ⟨by omega, trivial⟩, Gs.idle rfl hG, ⟨fun _ => (dd 0 hdep :), hO.2.1, hO.2.2.1, trivial⟩, Ns.idle hN⟩
        · refine op_plain rfl rfl (fun K hK => ?_)
          have kk : CV uZ (w.heap.size + 1 + 1 + 1) (bif fZ 4 then LN f else LN f) := hM.ex.2.1.2.2.2
          rw [hfi] at kk
          have kk : CV uZ (w.heap.size + 1 + 1 + 1) (LN f) := kk
          refine wp_store_mid 25 _ _ rfl (w.heap.size + 1 + 1 + 1) 0 (LN f : List Value).toArray (show aZ.eval (.tmp 5) = .pointer (some ⟨w.heap.size + 1 + 1 + 1, 0, none⟩) from (hF.out 5 (by decide)).trans rfl) (ve 42 hV (hG.2.1 (dd 1 hdep))) kk.there info_api_Nat (all_one rfl) ?_
          exact tell0 hK hF ⟨MR.putXF 1 hM rfl trivial ⟨by omega, trivial⟩, Gs.idle rfl hG, ⟨hO.1, fun _ => (dd 1 hdep :), hO.2.2.1, trivial⟩, Ns.idle hN⟩
        · exact t_assign (ve 43 hV (hG.2.2.1 (dd 2 hdep))) hF hS rfl rfl rfl rfl (by decide) ⟨hM, Gs.stepA hG rfl rfl, ⟨hO.1, hO.2.1, fun _ => (dd 2 hdep :), trivial⟩, Ns.step hN rfl⟩
      rintro fZ tZ u4 ⟨hM, hG, hO, hN⟩ hall
      obtain ⟨e41, e42, e43, e6, -⟩ := Gs.all 6 hall hG rfl
      have HB4 : Below w.heap.size w u4 := hM.bel
      have sz4 : u3.heap.size ≤ u4.heap.size := hM.sz
      have K4r4 : CV u4 (w.heap.size + 1 + 1) (LN d) := by
        have h1 : CV u4 (w.heap.size + 1 + 1) (bif fZ 3 then LN d else LN d) := hM.ex.1.2.2.2
        rw [hall 3 (by decide)] at h1; exact h1
      have l4r4 : w.heap.size + 1 + 1 < u4.heap.size := Nat.lt_of_lt_of_le hM.ex.1.2.1 hM.sz
      have K4r5 : CV u4 (w.heap.size + 1 + 1 + 1) (LN f) := by
        have h1 : CV u4 (w.heap.size + 1 + 1 + 1) (bif fZ 4 then LN f else LN f) := hM.ex.2.1.2.2.2
        rw [hall 4 (by decide)] at h1; exact h1
      have l4r5 : w.heap.size + 1 + 1 + 1 < u4.heap.size := Nat.lt_of_lt_of_le hM.ex.2.1.2.1 hM.sz
      simp only [ovr, List.set_cons_zero, List.set_cons_succ, e41, e42, e43, e6]
      clear hM hG hO hN hall e41 e42 e43 e6 K3r4 K3r5 HB3
      clear tZ
      have c4_0 := (K4r4 0 _ rfl).1
      have c4_1 := (K4r4 1 _ rfl).1
      have c4_2 := (K4r4 2 _ rfl).1
      have c4_3 := (K4r4 3 _ rfl).1
      have c5_0 := (K4r5 0 _ rfl).1
      have c5_1 := (K4r5 1 _ rfl).1
      have c5_2 := (K4r5 2 _ rfl).1
      have c5_3 := (K4r5 3 _ rfl).1
      go_wp2
      refine bodyPost_ret (v := .tuple #[NV d, NV f, .bool b]) (by simp [results, Try.results58, go_sem, c4_0, c4_1, c4_2, c4_3, c5_0, c5_1, c5_2, c5_3]) rfl ⟨by rw [Hg.out], HB4⟩
    · have hz : decide (r = 0) = !true := by simp [h2]
      have hs := hE.step h2
      obtain ⟨k', rfl⟩ : ∃ k', k = k' + 1 := ⟨k - 1, by have := hE.r0; omega⟩
      have hgx : Hid (euF k' r (d % r) n (f + d / r * n) (!b) = eu m a) := by rw [← euF_step k' d r f n b h2]; exact hg
      have i1 : In (d % r) := In_mod ir h2
      have q0 : 0 ≤ d / r * n := Int.mul_nonneg (Int.ediv_nonneg id.1 ir.1) inn.1
      have i3 : In (f + d / r * n) := In_le hm hs.n0 hs.nm
      have i2 : In (d / r * n) := In_le hm q0 (by have := hs.nm; have := if'.1; omega)
      have i4 : In (d / r) := In_div id ir h2
      have i5 : f + d / r * n < 115792089237316195423570985008687907853269984665640564039457584007913129639936 := i3.2
      have n0 : Hid _ := natAt_of Kr ir
      clear hg
      go_upto_region 4 with fail
      refine region_plain [17, 18, 19] (fun fZ tZ uZ => MR w.heap.size w (wr.heap.size) [(w.heap.size + 1 + 1, LN d), (w.heap.size + 1 + 1 + 1, LN f), (b1_2, LN r), (b2_2, LN n)] [] [] uZ ∧ Gs fZ tZ [(0, 17, NV r), (1, 18, A4 (0) (0) (0) (0)), (2, 19, .bool true)] ∧ Os fZ [] ∧ Ns fZ tZ []) (by kernel_rfl) ?_ ?_ ?_
      · exact ⟨{ bel := HBr, lo := HBr.size, sz := Nat.le_refl _, ks := ⟨⟨(by omega), Kd⟩, ⟨(by omega), Kf⟩, ⟨lr, Kr⟩, ⟨ln, Kn⟩, trivial⟩, ex := trivial, nw := trivial, nd := trivial }, Gs.none _ _, Os.none _, trivial⟩
      · rintro fZ tZ uZ iZ oZ aZ hF ⟨hM, hG, hO, hN⟩ ho hfi hdep
        obtain ⟨hS, hV⟩ := hF.two 44 (by decide) rfl (by decide)
        rcases cZ3 ho with rfl | rfl | rfl <;> cases ho
        · exact t_load (show aZ.eval (.tmp 7) = .pointer (some ⟨b1_2, 0, none⟩) from (hF.out 7 (by decide)).trans rfl) hM.ks.2.2.1.2 Try.underlying25 info_api_Nat hF hS rfl rfl rfl rfl rfl (by decide) (Jt hM hG hN)
        · refine op_plain rfl rfl (fun K hK => ?_)
          refine wp_val (v := A4 (0) (0) (0) (0)) (w' := uZ) (by kernel_rfl) ?_
          exact tell hK hF hS (by decide) (Jt hM hG hN)
        · refine op_plain rfl rfl (fun K hK => ?_)
          refine wp_bin rfl (ve 17 hV (hG.1 (dd 0 hdep))) (ve 18 hV (hG.2.1 (dd 1 hdep))) (neq_0 _ _ ir _ hz uZ) ?_
          exact tell hK hF hS (by decide) (Jt hM hG hN)
      rintro fZ tZ u3 ⟨hM, hG, hO, hN⟩ hall
      obtain ⟨e17, e18, e19, -⟩ := Gs.all 3 hall hG rfl
      have HB3 : Below w.heap.size w u3 := hM.bel
      have sz3 : wr.heap.size ≤ u3.heap.size := hM.sz
      obtain ⟨⟨l3r4, K3r4⟩, ⟨l3r5, K3r5⟩, ⟨l3n1_2, K3n1_2⟩, ⟨l3n2_2, K3n2_2⟩, -⟩ := hM.ks.up hM.sz
      dsimp only at l3r4 K3r4 l3r5 K3r5 l3n1_2 K3n1_2 l3n2_2 K3n2_2
      simp only [ovr, List.set_cons_zero, List.set_cons_succ, e17, e18, e19]
      clear hM hG hO hN hall e17 e18 e19 Kd Kf Kn Kr
      clear tZ
      go_upto_region 5 with fail
      refine region_plain [21, 22, 23, 20, 24, 25, 9, 10] (fun fZ tZ uZ => MR w.heap.size w (u3.heap.size) [(w.heap.size + 1 + 1, LN d), (w.heap.size + 1 + 1 + 1, LN f), (b1_2, LN r), (b2_2, LN n)] [] [(fZ 6, fZ 8, tZ 9, L0s, LN (d / r)), (fZ 7, fZ 9, tZ 10, L0s, LN (d % r))] uZ ∧ Gs fZ tZ [(0, 21, NV d), (1, 22, NV r), (2, 23, .tuple #[NV (d / r), NV (d % r)]), (3, 20, .tuple #[NV (d / r), NV (d % r)]), (4, 24, NV (d / r)), (5, 25, NV (d % r))] ∧ Os fZ [(8, 6), (9, 7)] ∧ Ns fZ tZ []) (by kernel_rfl) ?_ ?_ ?_
      · exact ⟨{ bel := HB3, lo := HB3.size, sz := Nat.le_refl _, ks := ⟨⟨l3r4, K3r4⟩, ⟨l3r5, K3r5⟩, ⟨l3n1_2, K3n1_2⟩, ⟨l3n2_2, K3n2_2⟩, trivial⟩, ex := trivial, nw := ⟨fun e => (by cases e), fun e => (by cases e), trivial⟩, nd := ⟨fun e => (by cases e), fun e => (by cases e), trivial⟩ }, Gs.none _ _, Os.none _, trivial⟩
      · rintro fZ tZ uZ iZ oZ aZ hF ⟨hM, hG, hO, hN⟩ ho hfi hdep
        obtain ⟨hS, hV⟩ := hF.two 44 (by decide) rfl (by decide)
        rcases cZ10 ho with rfl | rfl | rfl | rfl | rfl | rfl | rfl | rfl | rfl | rfl <;> cases ho
        · exact t_load (show aZ.eval (.tmp 4) = .pointer (some ⟨w.heap.size + 1 + 1, 0, none⟩) from (hF.out 4 (by decide)).trans rfl) hM.ks.1.2 Try.underlying25 info_api_Nat hF hS rfl rfl rfl rfl rfl (by decide) (Jm hM hG hO hN)
        · exact t_load (show aZ.eval (.tmp 7) = .pointer (some ⟨b1_2, 0, none⟩) from (hF.out 7 (by decide)).trans rfl) hM.ks.2.2.1.2 Try.underlying25 info_api_Nat hF hS rfl rfl rfl rfl rfl (by decide) (Jm hM hG hO hN)
        · exact t_call (vs := [NV d, NV r]) (by show [aZ.eval (.tmp 21), aZ.eval (.tmp 22)] = _; rw [(ve 21 hV (hG.1 (dd 0 hdep))), (ve 22 hV (hG.2.1 (dd 1 hdep)))]) ent_mod_divide (mdivide d r uZ id ir h2) hF hS rfl rfl rfl rfl (by decide) (fun _ hB => (Jm (hM.call hB) hG hO hN))
        · exact t_move (ve 23 hV (hG.2.2.1 (dd 2 hdep))) hF hS rfl rfl rfl rfl (by decide) (Jm hM hG hO hN)
        · exact t_extract (ve 20 hV (hG.2.2.2.1 (dd 3 hdep))) hF hS rfl rfl rfl rfl rfl (by decide) (Jm hM hG hO hN)
        · exact t_extract (ve 20 hV (hG.2.2.2.1 (dd 3 hdep))) hF hS rfl rfl rfl rfl rfl (by decide) (Jm hM hG hO hN)
        · have q1 : fZ 8 = false := Os.not (hO.1) hfi
          exact t_alloc (al_api_Nat uZ) hF hS rfl rfl rfl rfl (by decide) ⟨MR.newF 0 hM rfl hfi q1, Gs.other rfl hG, hO.keep rfl, Ns.step hN rfl⟩
        · have q1 : fZ 9 = false := Os.not (hO.2.1) hfi
          exact t_alloc (al_api_Nat uZ) hF hS rfl rfl rfl rfl (by decide) ⟨MR.newF 1 hM rfl hfi q1, Gs.other rfl hG, hO.keep rfl, Ns.step hN rfl⟩
        · exact t_storeN 0 hM rfl (dd 6 hdep) hfi (hV 9 (by decide)) (ve 24 hV (hG.2.2.2.2.1 (dd 4 hdep))) rfl info_api_Nat rfl hF rfl rfl rfl rfl (fun _ h => ⟨h, Gs.idle rfl hG, ⟨fun _ => (dd 6 hdep :), hO.2.1, trivial⟩, Ns.idle hN⟩)
        · exact t_storeN 1 hM rfl (dd 7 hdep) hfi (hV 10 (by decide)) (ve 25 hV (hG.2.2.2.2.2.1 (dd 5 hdep))) rfl info_api_Nat rfl hF rfl rfl rfl rfl (fun _ h => ⟨h, Gs.idle rfl hG, ⟨hO.1, fun _ => (dd 7 hdep :), trivial⟩, Ns.idle hN⟩)
      rintro fZ tZ u4 ⟨hM, hG, hO, hN⟩ hall
      obtain ⟨e21, e22, e23, e20, e24, e25, -⟩ := Gs.all 10 hall hG rfl
      obtain ⟨b4_6, ee9, pb4_6, lb4_6, kb4_6⟩ := hM.nw.1 (hall 6 (by decide))
      have e9 : tZ 9 = .pointer (some ⟨b4_6, 0, none⟩) := ee9
      clear ee9
      have Kb4_6 : CV u4 b4_6 (LN (d / r)) := by
        have h1 : CV u4 b4_6 (bif fZ 8 then LN (d / r) else L0s) := kb4_6
        rw [hall 8 (by decide)] at h1; exact h1
      clear kb4_6
      obtain ⟨b4_7, ee10, pb4_7, lb4_7, kb4_7⟩ := hM.nw.2.1 (hall 7 (by decide))
      have e10 : tZ 10 = .pointer (some ⟨b4_7, 0, none⟩) := ee10
      clear ee10
      have Kb4_7 : CV u4 b4_7 (LN (d % r)) := by
        have h1 : CV u4 b4_7 (bif fZ 9 then LN (d % r) else L0s) := kb4_7
        rw [hall 9 (by decide)] at h1; exact h1
      clear kb4_7
      have nb4_6_b4_7 : b4_6 ≠ b4_7 := fun e => (hM.nd.1 (hall 6 (by decide))).1 (hall 7 (by decide)) (by show tZ 10 = tZ 9; rw [e10, e9, e])
      have HB4 : Below w.heap.size w u4 := hM.bel
      have sz4 : u3.heap.size ≤ u4.heap.size := hM.sz
      obtain ⟨⟨l4r4, K4r4⟩, ⟨l4r5, K4r5⟩, ⟨l4n1_2, K4n1_2⟩, ⟨l4n2_2, K4n2_2⟩, -⟩ := hM.ks.up hM.sz
      dsimp only at l4r4 K4r4 l4r5 K4r5 l4n1_2 K4n1_2 l4n2_2 K4n2_2
      simp only [ovr, List.set_cons_zero, List.set_cons_succ, e21, e22, e23, e20, e24, e25, e9, e10]
      clear hM hG hO hN hall e21 e22 e23 e20 e24 e25 e9 e10 K3n1_2 K3n2_2 K3r4 K3r5 HB3
      clear tZ
      go_upto_region 6 with fail
      refine region_drawn [26, 27] (fun fZ tZ uZ => MR w.heap.size w (u4.heap.size) [(w.heap.size + 1 + 1 + 1, LN f), (b2_2, LN n), (b4_6, LN (d / r)), (b4_7, LN (d % r))] [(w.heap.size + 1 + 1, fZ 2, LN d, LN r), (b1_2, fZ 3, LN r, LN (d % r))] [] uZ ∧ Gs fZ tZ [(0, 26, NV r), (1, 27, NV (d % r))] ∧ Os fZ [(3, 0)] ∧ Ns fZ tZ []) (by kernel_rfl) (by kernel_rfl) ?_ ?_ ?_
      · exact ⟨{ bel := HB4.drew, lo := HB4.size, sz := Nat.le_refl _, ks := ⟨⟨l4r5, K4r5⟩, ⟨l4n2_2, K4n2_2⟩, ⟨lb4_6, Kb4_6⟩, ⟨lb4_7, Kb4_7⟩, trivial⟩, ex := ⟨⟨(by omega), l4r4, rfl, K4r4⟩, ⟨(by omega), l4n1_2, rfl, K4n1_2⟩, trivial⟩, nw := trivial, nd := trivial }, Gs.none _ _, Os.none _, trivial⟩
      · rintro fZ tZ uZ iZ oZ aZ hF ⟨hM, hG, hO, hN⟩ ho hfi hdep
        obtain ⟨hS, hV⟩ := hF.two 44 (by decide) rfl (by decide)
        rcases cZ4 ho with rfl | rfl | rfl | rfl <;> cases ho
        · refine op_plain rfl rfl (fun K hK => ?_)
          have ys : fZ 3 = false := Os.not (hO.1) hfi
          have kk : CV uZ (b1_2) (bif fZ 3 then LN (d % r) else LN r) := hM.ex.2.1.2.2.2
          rw [ys] at kk
          have kk : CV uZ (b1_2) (LN r) := kk
          refine wp_load_mid 25 _ rfl (b1_2) 0 (show aZ.eval (.tmp 7) = .pointer (some ⟨b1_2, 0, none⟩) from (hF.out 7 (by decide)).trans rfl) (LN r) _ kk.range Try.underlying25 rfl info_api_Nat ?_
          exact tell hK hF hS (by decide) (Jm hM hG hO hN)
        · exact t_load (show aZ.eval (.tmp 10) = .pointer (some ⟨b4_7, 0, none⟩) from (hF.out 10 (by decide)).trans rfl) hM.ks.2.2.2.1.2 Try.underlying25 info_api_Nat hF hS rfl rfl rfl rfl rfl (by decide) (Jm hM hG hO hN)
        · refine op_plain rfl rfl (fun K hK => ?_)
          have kk : CV uZ (w.heap.size + 1 + 1) (bif fZ 2 then LN r else LN d) := hM.ex.1.2.2.2
          rw [hfi] at kk
          have kk : CV uZ (w.heap.size + 1 + 1) (LN d) := kk
          refine wp_store_mid 25 _ _ rfl (w.heap.size + 1 + 1) 0 (LN r : List Value).toArray (show aZ.eval (.tmp 4) = .pointer (some ⟨w.heap.size + 1 + 1, 0, none⟩) from (hF.out 4 (by decide)).trans rfl) (ve 26 hV (hG.1 (dd 0 hdep))) kk.there info_api_Nat (all_one rfl) ?_
          exact tell0 hK hF ⟨MR.putXF 0 hM rfl ⟨by omega, by omega, by omega, by omega, trivial⟩ ⟨by omega, trivial⟩, Gs.idle rfl hG, hO.keep rfl, Ns.idle hN⟩
        · refine op_plain rfl rfl (fun K hK => ?_)
          have kk : CV uZ (b1_2) (bif fZ 3 then LN (d % r) else LN r) := hM.ex.2.1.2.2.2
          rw [hfi] at kk
          have kk : CV uZ (b1_2) (LN r) := kk
          refine wp_store_mid 25 _ _ rfl (b1_2) 0 (LN (d % r) : List Value).toArray (show aZ.eval (.tmp 7) = .pointer (some ⟨b1_2, 0, none⟩) from (hF.out 7 (by decide)).trans rfl) (ve 27 hV (hG.2.1 (dd 1 hdep))) kk.there info_api_Nat (all_one rfl) ?_
          exact tell0 hK hF ⟨MR.putXF 1 hM rfl ⟨by omega, by omega, by omega, by omega, trivial⟩ ⟨by omega, trivial⟩, Gs.idle rfl hG, ⟨fun _ => hdep ⟨0, .phase⟩ (by simp) rfl, trivial⟩, Ns.idle hN⟩
      rintro fZ tZ u5 ⟨hM, hG, hO, hN⟩ hall
      obtain ⟨e26, e27, -⟩ := Gs.all 4 hall hG rfl
      have HB5 : Below w.heap.size w u5 := hM.bel
      have sz5 : u4.heap.size ≤ u5.heap.size := hM.sz
      obtain ⟨⟨l5r5, K5r5⟩, ⟨l5n2_2, K5n2_2⟩, ⟨l5n5_6, K5n5_6⟩, -, -⟩ := hM.ks.up hM.sz
      dsimp only at l5r5 K5r5 l5n2_2 K5n2_2 l5n5_6 K5n5_6
      have K5r4 : CV u5 (w.heap.size + 1 + 1) (LN r) := by
        have h1 : CV u5 (w.heap.size + 1 + 1) (bif fZ 2 then LN r else LN d) := hM.ex.1.2.2.2
        rw [hall 2 (by decide)] at h1; exact h1
      have l5r4 : w.heap.size + 1 + 1 < u5.heap.size := Nat.lt_of_lt_of_le hM.ex.1.2.1 hM.sz
      have K5n1_2 : CV u5 (b1_2) (LN (d % r)) := by
        have h1 : CV u5 (b1_2) (bif fZ 3 then LN (d % r) else LN r) := hM.ex.2.1.2.2.2
        rw [hall 3 (by decide)] at h1; exact h1
      have l5n1_2 : b1_2 < u5.heap.size := Nat.lt_of_lt_of_le hM.ex.2.1.2.1 hM.sz
      simp only [ovr, List.set_cons_zero, List.set_cons_succ, e26, e27]
      clear hM hG hO hN hall e26 e27 K4n1_2 K4n2_2 K4r4 K4r5 Kb4_6 Kb4_7 HB4
      clear tZ
      go_upto_region 7 with fail
      refine region_drawn [29, 30, 31, 32, 33, 34, 28, 35, 36, 11, 12] (fun fZ tZ uZ => MR w.heap.size w (u5.heap.size) [(w.heap.size + 1 + 1, LN r), (w.heap.size + 1 + 1 + 1, LN f), (b1_2, LN (d % r)), (b2_2, LN n), (b4_6, LN (d / r))] [] [(fZ 9, fZ 10, tZ 11, L0s, LN (f + d / r * n))] uZ ∧ Gs fZ tZ [(0, 29, NV f), (1, 30, NV (d / r)), (2, 31, NV n), (3, 32, WV (d / r * n)), (4, 33, NV (d / r * n)), (5, 34, .tuple #[NV (f + d / r * n), .bool false]), (6, 28, .tuple #[NV (f + d / r * n), .bool false]), (7, 35, NV (f + d / r * n)), (8, 36, .bool false), (11, 12, .bool false)] ∧ Os fZ [(10, 9)] ∧ Ns fZ tZ []) (by kernel_rfl) (by kernel_rfl) ?_ ?_ ?_
      · exact ⟨{ bel := HB5.drew, lo := HB5.size, sz := Nat.le_refl _, ks := ⟨⟨l5r4, K5r4⟩, ⟨l5r5, K5r5⟩, ⟨l5n1_2, K5n1_2⟩, ⟨l5n2_2, K5n2_2⟩, ⟨l5n5_6, K5n5_6⟩, trivial⟩, ex := trivial, nw := ⟨fun e => (by cases e), trivial⟩, nd := ⟨fun e => (by cases e), trivial⟩ }, Gs.none _ _, Os.none _, trivial⟩
      · rintro fZ tZ uZ iZ oZ aZ hF ⟨hM, hG, hO, hN⟩ ho hfi hdep
        obtain ⟨hS, hV⟩ := hF.two 44 (by decide) rfl (by decide)
        rcases cZ12 ho with rfl | rfl | rfl | rfl | rfl | rfl | rfl | rfl | rfl | rfl | rfl | rfl <;> cases ho
        · exact t_load (show aZ.eval (.tmp 5) = .pointer (some ⟨w.heap.size + 1 + 1 + 1, 0, none⟩) from (hF.out 5 (by decide)).trans rfl) hM.ks.2.1.2 Try.underlying25 info_api_Nat hF hS rfl rfl rfl rfl rfl (by decide) (Jm hM hG hO hN)
        · exact t_load (show aZ.eval (.tmp 9) = .pointer (some ⟨b4_6, 0, none⟩) from (hF.out 9 (by decide)).trans rfl) hM.ks.2.2.2.2.1.2 Try.underlying25 info_api_Nat hF hS rfl rfl rfl rfl rfl (by decide) (Jm hM hG hO hN)
        · exact t_load (show aZ.eval (.tmp 8) = .pointer (some ⟨b2_2, 0, none⟩) from (hF.out 8 (by decide)).trans rfl) hM.ks.2.2.2.1.2 Try.underlying25 info_api_Nat hF hS rfl rfl rfl rfl rfl (by decide) (Jm hM hG hO hN)
        · exact t_call (vs := [NV (d / r), NV n]) (by show [aZ.eval (.tmp 30), aZ.eval (.tmp 31)] = _; rw [(ve 30 hV (hG.2.1 (dd 1 hdep))), (ve 31 hV (hG.2.2.1 (dd 2 hdep)))]) ent_limb_Mul (nMul (d / r) n uZ i4 inn) hF hS rfl rfl rfl rfl (by decide) (fun _ hB => (Jm (hM.call hB) hG hO hN))
        · exact t_call (vs := [WV (d / r * n)]) (by show [aZ.eval (.tmp 32)] = _; rw [(ve 32 hV (hG.2.2.2.1 (dd 3 hdep)))]) ent_mod_low (mlowI (d / r * n) uZ i2) hF hS rfl rfl rfl rfl (by decide) (fun _ hB => (Jm (hM.call hB) hG hO hN))
        · exact t_call (vs := [NV f, NV (d / r * n)]) (by show [aZ.eval (.tmp 29), aZ.eval (.tmp 33)] = _; rw [(ve 29 hV (hG.1 (dd 0 hdep))), (ve 33 hV (hG.2.2.2.2.1 (dd 4 hdep)))]) ent_limb_Add (nAdd_lt f (d / r * n) uZ if' i2 i5) hF hS rfl rfl rfl rfl (by decide) (fun _ hB => (Jm (hM.call hB) hG hO hN))
        · exact t_move (ve 34 hV (hG.2.2.2.2.2.1 (dd 5 hdep))) hF hS rfl rfl rfl rfl (by decide) (Jm hM hG hO hN)
        · exact t_extract (ve 28 hV (hG.2.2.2.2.2.2.1 (dd 6 hdep))) hF hS rfl rfl rfl rfl rfl (by decide) (Jm hM hG hO hN)
        · exact t_extract (ve 28 hV (hG.2.2.2.2.2.2.1 (dd 6 hdep))) hF hS rfl rfl rfl rfl rfl (by decide) (Jm hM hG hO hN)
        · have q1 : fZ 10 = false := Os.not (hO.1) hfi
          exact t_alloc (al_api_Nat uZ) hF hS rfl rfl rfl rfl (by decide) ⟨MR.newF 0 hM rfl hfi q1, Gs.other rfl hG, hO.keep rfl, Ns.step hN rfl⟩
        · exact t_storeN 0 hM rfl (dd 9 hdep) hfi (hV 11 (by decide)) (ve 35 hV (hG.2.2.2.2.2.2.2.1 (dd 7 hdep))) rfl info_api_Nat rfl hF rfl rfl rfl rfl (fun _ h => ⟨h, Gs.idle rfl hG, ⟨fun _ => (dd 9 hdep :), trivial⟩, Ns.idle hN⟩)
        · exact t_assign (ve 36 hV (hG.2.2.2.2.2.2.2.2.1 (dd 8 hdep))) hF hS rfl rfl rfl rfl (by decide) (Jm hM hG hO hN)
      rintro fZ tZ u6 ⟨hM, hG, hO, hN⟩ hall
      obtain ⟨e29, e30, e31, e32, e33, e34, e28, e35, e36, e12, -⟩ := Gs.all 12 hall hG rfl
      obtain ⟨b6_9, ee11, pb6_9, lb6_9, kb6_9⟩ := hM.nw.1 (hall 9 (by decide))
      have e11 : tZ 11 = .pointer (some ⟨b6_9, 0, none⟩) := ee11
      clear ee11
      have Kb6_9 : CV u6 b6_9 (LN (f + d / r * n)) := by
        have h1 : CV u6 b6_9 (bif fZ 10 then LN (f + d / r * n) else L0s) := kb6_9
        rw [hall 10 (by decide)] at h1; exact h1
      clear kb6_9
      have HB6 : Below w.heap.size w u6 := hM.bel
      have sz6 : u5.heap.size ≤ u6.heap.size := hM.sz
      obtain ⟨⟨l6r4, K6r4⟩, ⟨l6r5, K6r5⟩, ⟨l6n1_2, K6n1_2⟩, ⟨l6n2_2, K6n2_2⟩, -, -⟩ := hM.ks.up hM.sz
      dsimp only at l6r4 K6r4 l6r5 K6r5 l6n1_2 K6n1_2 l6n2_2 K6n2_2
      simp only [ovr, List.set_cons_zero, List.set_cons_succ, e29, e30, e31, e32, e33, e34, e28, e35, e36, e12, e11]
      clear hM hG hO hN hall e29 e30 e31 e32 e33 e34 e28 e35 e36 e12 e11 K5n1_2 K5n2_2 K5n5_6 K5r4 K5r5 HB5
      clear tZ
      go_upto_region 8 with fail
      refine region_drawn [37, 38] (fun fZ tZ uZ => MR w.heap.size w (u6.heap.size) [(w.heap.size + 1 + 1, LN r), (b1_2, LN (d % r)), (b6_9, LN (f + d / r * n))] [(w.heap.size + 1 + 1 + 1, fZ 2, LN f, LN n), (b2_2, fZ 3, LN n, LN (f + d / r * n))] [] uZ ∧ Gs fZ tZ [(0, 37, NV n), (1, 38, NV (f + d / r * n))] ∧ Os fZ [(3, 0)] ∧ Ns fZ tZ []) (by kernel_rfl) (by kernel_rfl) ?_ ?_ ?_
      · exact ⟨{ bel := HB6.drew, lo := HB6.size, sz := Nat.le_refl _, ks := ⟨⟨l6r4, K6r4⟩, ⟨l6n1_2, K6n1_2⟩, ⟨lb6_9, Kb6_9⟩, trivial⟩, ex := ⟨⟨(by omega), l6r5, rfl, K6r5⟩, ⟨(by omega), l6n2_2, rfl, K6n2_2⟩, trivial⟩, nw := trivial, nd := trivial }, Gs.none _ _, Os.none _, trivial⟩
      · rintro fZ tZ uZ iZ oZ aZ hF ⟨hM, hG, hO, hN⟩ ho hfi hdep
        obtain ⟨hS, hV⟩ := hF.two 44 (by decide) rfl (by decide)
        rcases cZ4 ho with rfl | rfl | rfl | rfl <;> cases ho
        · refine op_plain rfl rfl (fun K hK => ?_)
          have ys : fZ 3 = false := Os.not (hO.1) hfi
          have kk : CV uZ (b2_2) (bif fZ 3 then LN (f + d / r * n) else LN n) := hM.ex.2.1.2.2.2
          rw [ys] at kk
          have kk : CV uZ (b2_2) (LN n) := kk
          refine wp_load_mid 25 _ rfl (b2_2) 0 (show aZ.eval (.tmp 8) = .pointer (some ⟨b2_2, 0, none⟩) from (hF.out 8 (by decide)).trans rfl) (LN n) _ kk.range Try.underlying25 rfl info_api_Nat ?_
          exact tell hK hF hS (by decide) (Jm hM hG hO hN)
        · exact t_load (show aZ.eval (.tmp 11) = .pointer (some ⟨b6_9, 0, none⟩) from (hF.out 11 (by decide)).trans rfl) hM.ks.2.2.1.2 Try.underlying25 info_api_Nat hF hS rfl rfl rfl rfl rfl (by decide) (Jm hM hG hO hN)
        · refine op_plain rfl rfl (fun K hK => ?_)
          have kk : CV uZ (w.heap.size + 1 + 1 + 1) (bif fZ 2 then LN n else LN f) := hM.ex.1.2.2.2
          rw [hfi] at kk
          have kk : CV uZ (w.heap.size + 1 + 1 + 1) (LN f) := kk
          refine wp_store_mid 25 _ _ rfl (w.heap.size + 1 + 1 + 1) 0 (LN n : List Value).toArray (show aZ.eval (.tmp 5) = .pointer (some ⟨w.heap.size + 1 + 1 + 1, 0, none⟩) from (hF.out 5 (by decide)).trans rfl) (ve 37 hV (hG.1 (dd 0 hdep))) kk.there info_api_Nat (all_one rfl) ?_
          exact tell0 hK hF ⟨MR.putXF 0 hM rfl ⟨by omega, by omega, by omega, trivial⟩ ⟨by omega, trivial⟩, Gs.idle rfl hG, hO.keep rfl, Ns.idle hN⟩
        · refine op_plain rfl rfl (fun K hK => ?_)
          have kk : CV uZ (b2_2) (bif fZ 3 then LN (f + d / r * n) else LN n) := hM.ex.2.1.2.2.2
          rw [hfi] at kk
          have kk : CV uZ (b2_2) (LN n) := kk
          refine wp_store_mid 25 _ _ rfl (b2_2) 0 (LN (f + d / r * n) : List Value).toArray (show aZ.eval (.tmp 8) = .pointer (some ⟨b2_2, 0, none⟩) from (hF.out 8 (by decide)).trans rfl) (ve 38 hV (hG.2.1 (dd 1 hdep))) kk.there info_api_Nat (all_one rfl) ?_
          exact tell0 hK hF ⟨MR.putXF 1 hM rfl ⟨by omega, by omega, by omega, trivial⟩ ⟨by omega, trivial⟩, Gs.idle rfl hG, ⟨fun _ => hdep ⟨0, .phase⟩ (by simp) rfl, trivial⟩, Ns.idle hN⟩
      rintro fZ tZ u7 ⟨hM, hG, hO, hN⟩ hall
      obtain ⟨e37, e38, -⟩ := Gs.all 4 hall hG rfl
      have HB7 : Below w.heap.size w u7 := hM.bel
      have sz7 : u6.heap.size ≤ u7.heap.size := hM.sz
      obtain ⟨⟨l7r4, K7r4⟩, ⟨l7n1_2, K7n1_2⟩, -, -⟩ := hM.ks.up hM.sz
      dsimp only at l7r4 K7r4 l7n1_2 K7n1_2
      have K7r5 : CV u7 (w.heap.size + 1 + 1 + 1) (LN n) := by
        have h1 : CV u7 (w.heap.size + 1 + 1 + 1) (bif fZ 2 then LN n else LN f) := hM.ex.1.2.2.2
        rw [hall 2 (by decide)] at h1; exact h1
      have l7r5 : w.heap.size + 1 + 1 + 1 < u7.heap.size := Nat.lt_of_lt_of_le hM.ex.1.2.1 hM.sz
      have K7n2_2 : CV u7 (b2_2) (LN (f + d / r * n)) := by
        have h1 : CV u7 (b2_2) (bif fZ 3 then LN (f + d / r * n) else LN n) := hM.ex.2.1.2.2.2
        rw [hall 3 (by decide)] at h1; exact h1
      have l7n2_2 : b2_2 < u7.heap.size := Nat.lt_of_lt_of_le hM.ex.2.1.2.1 hM.sz
      simp only [ovr, List.set_cons_zero, List.set_cons_succ, e37, e38]
      clear hM hG hO hN hall e37 e38 K6n1_2 K6n2_2 K6r4 K6r5 Kb6_9 HB6
      clear tZ
      go_upto_region 9 with fail
      refine region_plain [39, 40, 6] (fun fZ tZ uZ => MR w.heap.size w (u7.heap.size) [(w.heap.size + 1 + 1, LN r), (w.heap.size + 1 + 1 + 1, LN n), (b1_2, LN (d % r)), (b2_2, LN (f + d / r * n))] [] [] uZ ∧ Gs fZ tZ [(0, 39, .bool b), (1, 40, .bool (!b)), (2, 6, .bool (!b))] ∧ Os fZ [(2, 0)] ∧ Ns fZ tZ [(2, 6, .bool b)]) (by kernel_rfl) ?_ ?_ ?_
      · exact ⟨{ bel := HB7, lo := HB7.size, sz := Nat.le_refl _, ks := ⟨⟨l7r4, K7r4⟩, ⟨l7r5, K7r5⟩, ⟨l7n1_2, K7n1_2⟩, ⟨l7n2_2, K7n2_2⟩, trivial⟩, ex := trivial, nw := trivial, nd := trivial }, Gs.none _ _, Os.none _, ⟨fun _ => rfl, trivial⟩⟩
      · rintro fZ tZ uZ iZ oZ aZ hF ⟨hM, hG, hO, hN⟩ ho hfi hdep
        obtain ⟨hS, hV⟩ := hF.two 44 (by decide) rfl (by decide)
        rcases cZ3 ho with rfl | rfl | rfl <;> cases ho
        · have yi6 : fZ 2 = false := Os.not (hO.1) hfi
          have ei6 : tZ 6 = .bool b := hN.1 yi6
          exact t_move ((hV 6 (by decide)).trans ei6) hF hS rfl rfl rfl rfl (by decide) (Jm hM hG hO hN)
        · refine op_plain rfl rfl (fun K hK => ?_)
          refine wp_un rfl (ve 39 hV (hG.1 (dd 0 hdep))) (rfl) ?_
          exact tell hK hF hS (by decide) (Jm hM hG hO hN)
        · exact t_assign (ve 40 hV (hG.2.1 (dd 1 hdep))) hF hS rfl rfl rfl rfl (by decide) ⟨hM, Gs.stepA hG rfl rfl, ⟨fun _ => hdep ⟨0, .phase⟩ (by simp) rfl, trivial⟩, Ns.step hN rfl⟩
      rintro fZ tZ u8 ⟨hM, hG, hO, hN⟩ hall
      obtain ⟨e39, e40, e6, -⟩ := Gs.all 3 hall hG rfl
      have HB8 : Below w.heap.size w u8 := hM.bel
      have sz8 : u7.heap.size ≤ u8.heap.size := hM.sz
      obtain ⟨⟨l8r4, K8r4⟩, ⟨l8r5, K8r5⟩, ⟨l8n1_2, K8n1_2⟩, ⟨l8n2_2, K8n2_2⟩, -⟩ := hM.ks.up hM.sz
      dsimp only at l8r4 K8r4 l8r5 K8r5 l8n1_2 K8n1_2 l8n2_2 K8n2_2
      simp only [ovr, List.set_cons_zero, List.set_cons_succ, e39, e40, e6]
      clear hM hG hO hN hall e39 e40 e6 K7n1_2 K7n2_2 K7r4 K7r5 HB7
      clear tZ
      go_wp2
      refine ⟨⟨k', r, d % r, n, f + d / r * n, !b, rfl, by have := hs.rd; have := hs.r0; omega, hs, by have := hE.rd; omega, hE.nm, hgx, HB8, K8r4, K8r5, K8n1_2, K8n2_2, l8n1_2, l8n2_2⟩, ?_⟩
      rw [natAt_of K8n1_2 i1, n0.out]
      have := hs.rd; have := hs.r0; omega
end Go.Proofs.Ytkpnjmfndgfogaa
