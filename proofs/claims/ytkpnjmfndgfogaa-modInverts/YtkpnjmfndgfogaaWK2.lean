/- The chapter's examples: works. -/
import Derived.Test.YtkpnjmfndgfogaaMO7
import Derived.Test.YtkpnjmfndgfogaaRS
namespace Go.Proofs.Ytkpnjmfndgfogaa
open Go.RowKit
set_option linter.unusedVariables false
set_option linter.unusedSimpArgs false
set_option maxRecDepth 100000 in
set_option maxHeartbeats 2000000 in
theorem bNat_any (n : Int) (w : World) (h0 : 0 ≤ n) (h1 : n < 9223372036854775808) : Calls Try.prog 42 #[.int .i64 n] w fun e w' => e = .returned (NV n) ∧ Below w.heap.size w w' := by
  rw [NV_small h0 (by omega)]
  have hw : IntKind.u64.wrap n = n := by simp [IntKind.wrap, IntKind.signed, IntKind.bits]; omega
  go_enter Try.func42, Try.ntmps42
  go_wp2
  go_returns
  exact ⟨by simp, by go_grown⟩
theorem In_k {n : Int} (h0 : 0 ≤ n) (h1 : n < 18446744073709551616) : In n := ⟨h0, by omega⟩
theorem exp_ex (u : World) : Calls Try.prog 64 #[NV 2, NV 10, NV 1000] u fun en u' => en = .returned (.tuple #[NV 24, .int .i64 0]) ∧ Below u.heap.size u u' := by
  have k := mExp 2 10 1000 u (In_k (by decide) (by decide)) (In_k (by decide) (by decide)) (In_k (by decide) (by decide)) (by decide)
  rw [show (2 : Int) ^ (10 : Int).toNat % 1000 = 24 by decide] at k
  exact k
theorem inv_ex (u : World) : Calls Try.prog 21 #[NV 3, NV 10] u fun en u' => en = .returned (.tuple #[NV 7, .int .i64 0]) ∧ Below u.heap.size u u' :=
  mInverse 3 10 7 u (In_k (by decide) (by decide)) (In_k (by decide) (by decide)) (by decide) (by decide) ⟨by decide, by decide, by decide⟩
theorem inv_no (u : World) : Calls Try.prog 21 #[NV 2, NV 10] u fun en u' => en = .returned (.tuple #[A4 0 0 0 0, .int .i64 20]) ∧ Below u.heap.size u u' :=
  mInverse_no 2 10 u (In_k (by decide) (by decide)) (In_k (by decide) (by decide)) (by decide) (by decide)
theorem gcd_ex (u : World) : Calls Try.prog 23 #[NV 12, NV 18] u fun en u' => en = .returned (NV 6) ∧ Below u.heap.size u u' := by
  have k := mGcd 12 18 u (In_k (by decide) (by decide)) (In_k (by decide) (by decide))
  rw [show gI 12 18 = 6 by decide] at k
  exact k
set_option maxRecDepth 100000 in
set_option maxHeartbeats 2000000 in
theorem works2 (w : World) : Calls Try.prog 25 #[] w fun e w' => e = .returned (.bool true) ∧ Below w.heap.size w w' := by
  go_enter Try.func25, Try.ntmps25
  have HB0 : Below w.heap.size w w := Below.refl _ _
  go_upto_region 1 with fail
  refine region_plain [8, 9, 10, 11, 7, 12, 13, 1, 2] (fun fZ tZ uZ => MR w.heap.size w (w.heap.size) [] [] [(fZ 7, fZ 8, tZ 1, L0s, LN 24)] uZ ∧ Gs fZ tZ [(0, 8, NV 2), (1, 9, NV 10), (2, 10, NV 1000), (3, 11, .tuple #[NV 24, .int .i64 0]), (4, 7, .tuple #[NV 24, .int .i64 0]), (5, 12, NV 24), (6, 13, .int .i64 0), (9, 2, .int .i64 0)] ∧ Os fZ [(8, 7)] ∧ Ns fZ tZ []) (by kernel_rfl) ?_ ?_ ?_
  · exact ⟨{ bel := HB0, lo := HB0.size, sz := Nat.le_refl _, ks := trivial, ex := trivial, nw := ⟨fun e => (by cases e), trivial⟩, nd := ⟨fun e => (by cases e), trivial⟩ }, Gs.none _ _, Os.none _, trivial⟩
  · rintro fZ tZ uZ iZ oZ aZ hF ⟨hM, hG, hO, hN⟩ ho hfi hdep
    obtain ⟨hS, hV⟩ := hF.two 53 (by decide) rfl (by decide)
    rcases cZ10 ho with rfl | rfl | rfl | rfl | rfl | rfl | rfl | rfl | rfl | rfl <;> cases ho
    · exact t_call (vs := [(Go.Value.int Go.IntKind.i64 2)]) (by show [(Go.Value.int Go.IntKind.i64 2)] = _; rfl) ent_seneschalbase_Nat (bNat_any 2 uZ (by omega) (by omega)) hF hS rfl rfl rfl rfl (by decide) (fun _ hB => (Jm (hM.call hB) hG hO hN))
    · exact t_call (vs := [(Go.Value.int Go.IntKind.i64 10)]) (by show [(Go.Value.int Go.IntKind.i64 10)] = _; rfl) ent_seneschalbase_Nat (bNat_any 10 uZ (by omega) (by omega)) hF hS rfl rfl rfl rfl (by decide) (fun _ hB => (Jm (hM.call hB) hG hO hN))
    · exact t_call (vs := [(Go.Value.int Go.IntKind.i64 1000)]) (by show [(Go.Value.int Go.IntKind.i64 1000)] = _; rfl) ent_seneschalbase_Nat (bNat_any 1000 uZ (by omega) (by omega)) hF hS rfl rfl rfl rfl (by decide) (fun _ hB => (Jm (hM.call hB) hG hO hN))
    · exact t_call (vs := [NV 2, NV 10, NV 1000]) (by show [aZ.eval (.tmp 8), aZ.eval (.tmp 9), aZ.eval (.tmp 10)] = _; rw [(ve 8 hV (hG.1 (dd 0 hdep))), (ve 9 hV (hG.2.1 (dd 1 hdep))), (ve 10 hV (hG.2.2.1 (dd 2 hdep)))]) ent_mod_Exp (exp_ex uZ) hF hS rfl rfl rfl rfl (by decide) (fun _ hB => (Jm (hM.call hB) hG hO hN))
    · exact t_move (ve 11 hV (hG.2.2.2.1 (dd 3 hdep))) hF hS rfl rfl rfl rfl (by decide) (Jm hM hG hO hN)
    · exact t_extract (ve 7 hV (hG.2.2.2.2.1 (dd 4 hdep))) hF hS rfl rfl rfl rfl rfl (by decide) (Jm hM hG hO hN)
    · exact t_extract (ve 7 hV (hG.2.2.2.2.1 (dd 4 hdep))) hF hS rfl rfl rfl rfl rfl (by decide) (Jm hM hG hO hN)
    · have q1 : fZ 8 = false := Os.not (hO.1) hfi
      exact t_alloc (al_api_Nat uZ) hF hS rfl rfl rfl rfl (by decide) ⟨MR.newF 0 hM rfl hfi q1, Gs.other rfl hG, hO.keep rfl, Ns.step hN rfl⟩
    · exact t_storeN 0 hM rfl (dd 7 hdep) hfi (hV 1 (by decide)) (ve 12 hV (hG.2.2.2.2.2.1 (dd 5 hdep))) rfl info_api_Nat rfl hF rfl rfl rfl rfl (fun _ h => ⟨h, Gs.idle rfl hG, ⟨fun _ => (dd 7 hdep :), trivial⟩, Ns.idle hN⟩)
    · exact t_assign (ve 13 hV (hG.2.2.2.2.2.2.1 (dd 6 hdep))) hF hS rfl rfl rfl rfl (by decide) (Jm hM hG hO hN)
  rintro fZ tZ u1 ⟨hM, hG, hO, hN⟩ hall
  obtain ⟨e8, e9, e10, e11, e7, e12, e13, e2, -⟩ := Gs.all 10 hall hG rfl
  obtain ⟨b1_7, ee1, pb1_7, lb1_7, kb1_7⟩ := hM.nw.1 (hall 7 (by decide))
  have e1 : tZ 1 = .pointer (some ⟨b1_7, 0, none⟩) := ee1
  clear ee1
  have Kb1_7 : CV u1 b1_7 (LN 24) := by
    have h1 : CV u1 b1_7 (bif fZ 8 then LN 24 else L0s) := kb1_7
    rw [hall 8 (by decide)] at h1; exact h1
  clear kb1_7
  have HB1 : Below w.heap.size w u1 := hM.bel
  have sz1 : w.heap.size ≤ u1.heap.size := hM.sz
  simp only [ovr, List.set_cons_zero, List.set_cons_succ, e8, e9, e10, e11, e7, e12, e13, e2, e1]
  clear hM hG hO hN hall e8 e9 e10 e11 e7 e12 e13 e2 e1 HB0
  clear tZ
  go_upto_region 2 with fail
  refine region_plain [15, 16, 17, 14, 18, 19, 3, 4] (fun fZ tZ uZ => MR w.heap.size w (u1.heap.size) [(b1_7, LN 24)] [] [(fZ 6, fZ 7, tZ 3, L0s, LN 7)] uZ ∧ Gs fZ tZ [(0, 15, NV 3), (1, 16, NV 10), (2, 17, .tuple #[NV 7, .int .i64 0]), (3, 14, .tuple #[NV 7, .int .i64 0]), (4, 18, NV 7), (5, 19, .int .i64 0), (8, 4, .int .i64 0)] ∧ Os fZ [(7, 6)] ∧ Ns fZ tZ []) (by kernel_rfl) ?_ ?_ ?_
  · exact ⟨{ bel := HB1, lo := HB1.size, sz := Nat.le_refl _, ks := ⟨⟨lb1_7, Kb1_7⟩, trivial⟩, ex := trivial, nw := ⟨fun e => (by cases e), trivial⟩, nd := ⟨fun e => (by cases e), trivial⟩ }, Gs.none _ _, Os.none _, trivial⟩
  · rintro fZ tZ uZ iZ oZ aZ hF ⟨hM, hG, hO, hN⟩ ho hfi hdep
    obtain ⟨hS, hV⟩ := hF.two 53 (by decide) rfl (by decide)
    rcases cZ9 ho with rfl | rfl | rfl | rfl | rfl | rfl | rfl | rfl | rfl <;> cases ho
    · exact t_call (vs := [(Go.Value.int Go.IntKind.i64 3)]) (by show [(Go.Value.int Go.IntKind.i64 3)] = _; rfl) ent_seneschalbase_Nat (bNat_any 3 uZ (by omega) (by omega)) hF hS rfl rfl rfl rfl (by decide) (fun _ hB => (Jm (hM.call hB) hG hO hN))
    · exact t_call (vs := [(Go.Value.int Go.IntKind.i64 10)]) (by show [(Go.Value.int Go.IntKind.i64 10)] = _; rfl) ent_seneschalbase_Nat (bNat_any 10 uZ (by omega) (by omega)) hF hS rfl rfl rfl rfl (by decide) (fun _ hB => (Jm (hM.call hB) hG hO hN))
    · exact t_call (vs := [NV 3, NV 10]) (by show [aZ.eval (.tmp 15), aZ.eval (.tmp 16)] = _; rw [(ve 15 hV (hG.1 (dd 0 hdep))), (ve 16 hV (hG.2.1 (dd 1 hdep)))]) ent_mod_Inverse (inv_ex uZ) hF hS rfl rfl rfl rfl (by decide) (fun _ hB => (Jm (hM.call hB) hG hO hN))
    · exact t_move (ve 17 hV (hG.2.2.1 (dd 2 hdep))) hF hS rfl rfl rfl rfl (by decide) (Jm hM hG hO hN)
    · exact t_extract (ve 14 hV (hG.2.2.2.1 (dd 3 hdep))) hF hS rfl rfl rfl rfl rfl (by decide) (Jm hM hG hO hN)
    · exact t_extract (ve 14 hV (hG.2.2.2.1 (dd 3 hdep))) hF hS rfl rfl rfl rfl rfl (by decide) (Jm hM hG hO hN)
    · have q1 : fZ 7 = false := Os.not (hO.1) hfi
      exact t_alloc (al_api_Nat uZ) hF hS rfl rfl rfl rfl (by decide) ⟨MR.newF 0 hM rfl hfi q1, Gs.other rfl hG, hO.keep rfl, Ns.step hN rfl⟩
    · exact t_storeN 0 hM rfl (dd 6 hdep) hfi (hV 3 (by decide)) (ve 18 hV (hG.2.2.2.2.1 (dd 4 hdep))) rfl info_api_Nat rfl hF rfl rfl rfl rfl (fun _ h => ⟨h, Gs.idle rfl hG, ⟨fun _ => (dd 6 hdep :), trivial⟩, Ns.idle hN⟩)
    · exact t_assign (ve 19 hV (hG.2.2.2.2.2.1 (dd 5 hdep))) hF hS rfl rfl rfl rfl (by decide) (Jm hM hG hO hN)
  rintro fZ tZ u2 ⟨hM, hG, hO, hN⟩ hall
  obtain ⟨e15, e16, e17, e14, e18, e19, e4, -⟩ := Gs.all 9 hall hG rfl
  obtain ⟨b2_6, ee3, pb2_6, lb2_6, kb2_6⟩ := hM.nw.1 (hall 6 (by decide))
  have e3 : tZ 3 = .pointer (some ⟨b2_6, 0, none⟩) := ee3
  clear ee3
  have Kb2_6 : CV u2 b2_6 (LN 7) := by
    have h1 : CV u2 b2_6 (bif fZ 7 then LN 7 else L0s) := kb2_6
    rw [hall 7 (by decide)] at h1; exact h1
  clear kb2_6
  have HB2 : Below w.heap.size w u2 := hM.bel
  have sz2 : u1.heap.size ≤ u2.heap.size := hM.sz
  obtain ⟨⟨l2n1_7, K2n1_7⟩, -⟩ := hM.ks.up hM.sz
  dsimp only at l2n1_7 K2n1_7
  simp only [ovr, List.set_cons_zero, List.set_cons_succ, e15, e16, e17, e14, e18, e19, e4, e3]
  clear hM hG hO hN hall e15 e16 e17 e14 e18 e19 e4 e3 Kb1_7 HB1
  clear tZ
  go_upto_region 3 with fail
  refine region_plain [21, 22, 23, 20, 24, 25, 5, 6] (fun fZ tZ uZ => MR w.heap.size w (u2.heap.size) [(b1_7, LN 24), (b2_6, LN 7)] [] [(fZ 6, fZ 7, tZ 5, L0s, [.int .u64 (0), .int .u64 (0), .int .u64 (0), .int .u64 (0)])] uZ ∧ Gs fZ tZ [(0, 21, NV 2), (1, 22, NV 10), (2, 23, .tuple #[A4 (0) (0) (0) (0), .int .i64 20]), (3, 20, .tuple #[A4 (0) (0) (0) (0), .int .i64 20]), (4, 24, A4 (0) (0) (0) (0)), (5, 25, .int .i64 20), (8, 6, .int .i64 20)] ∧ Os fZ [(7, 6)] ∧ Ns fZ tZ []) (by kernel_rfl) ?_ ?_ ?_
  · exact ⟨{ bel := HB2, lo := HB2.size, sz := Nat.le_refl _, ks := ⟨⟨l2n1_7, K2n1_7⟩, ⟨lb2_6, Kb2_6⟩, trivial⟩, ex := trivial, nw := ⟨fun e => (by cases e), trivial⟩, nd := ⟨fun e => (by cases e), trivial⟩ }, Gs.none _ _, Os.none _, trivial⟩
  · rintro fZ tZ uZ iZ oZ aZ hF ⟨hM, hG, hO, hN⟩ ho hfi hdep
    obtain ⟨hS, hV⟩ := hF.two 53 (by decide) rfl (by decide)
    rcases cZ9 ho with rfl | rfl | rfl | rfl | rfl | rfl | rfl | rfl | rfl <;> cases ho
    · exact t_call (vs := [(Go.Value.int Go.IntKind.i64 2)]) (by show [(Go.Value.int Go.IntKind.i64 2)] = _; rfl) ent_seneschalbase_Nat (bNat_any 2 uZ (by omega) (by omega)) hF hS rfl rfl rfl rfl (by decide) (fun _ hB => (Jm (hM.call hB) hG hO hN))
    · exact t_call (vs := [(Go.Value.int Go.IntKind.i64 10)]) (by show [(Go.Value.int Go.IntKind.i64 10)] = _; rfl) ent_seneschalbase_Nat (bNat_any 10 uZ (by omega) (by omega)) hF hS rfl rfl rfl rfl (by decide) (fun _ hB => (Jm (hM.call hB) hG hO hN))
    · exact t_call (vs := [NV 2, NV 10]) (by show [aZ.eval (.tmp 21), aZ.eval (.tmp 22)] = _; rw [(ve 21 hV (hG.1 (dd 0 hdep))), (ve 22 hV (hG.2.1 (dd 1 hdep)))]) ent_mod_Inverse (inv_no uZ) hF hS rfl rfl rfl rfl (by decide) (fun _ hB => (Jm (hM.call hB) hG hO hN))
    · exact t_move (ve 23 hV (hG.2.2.1 (dd 2 hdep))) hF hS rfl rfl rfl rfl (by decide) (Jm hM hG hO hN)
    · exact t_extract (ve 20 hV (hG.2.2.2.1 (dd 3 hdep))) hF hS rfl rfl rfl rfl rfl (by decide) (Jm hM hG hO hN)
    · exact t_extract (ve 20 hV (hG.2.2.2.1 (dd 3 hdep))) hF hS rfl rfl rfl rfl rfl (by decide) (Jm hM hG hO hN)
    · have q1 : fZ 7 = false := Os.not (hO.1) hfi
      exact t_alloc (al_api_Nat uZ) hF hS rfl rfl rfl rfl (by decide) ⟨MR.newF 0 hM rfl hfi q1, Gs.other rfl hG, hO.keep rfl, Ns.step hN rfl⟩
    · exact t_storeN 0 hM rfl (dd 6 hdep) hfi (hV 5 (by decide)) (ve 24 hV (hG.2.2.2.2.1 (dd 4 hdep))) rfl info_api_Nat rfl hF rfl rfl rfl rfl (fun _ h => ⟨h, Gs.idle rfl hG, ⟨fun _ => (dd 6 hdep :), trivial⟩, Ns.idle hN⟩)
    · exact t_assign (ve 25 hV (hG.2.2.2.2.2.1 (dd 5 hdep))) hF hS rfl rfl rfl rfl (by decide) (Jm hM hG hO hN)
  rintro fZ tZ u3 ⟨hM, hG, hO, hN⟩ hall
  obtain ⟨e21, e22, e23, e20, e24, e25, e6, -⟩ := Gs.all 9 hall hG rfl
  obtain ⟨b3_6, ee5, pb3_6, lb3_6, kb3_6⟩ := hM.nw.1 (hall 6 (by decide))
  have e5 : tZ 5 = .pointer (some ⟨b3_6, 0, none⟩) := ee5
  clear ee5
  have Kb3_6 : CV u3 b3_6 ([.int .u64 (0), .int .u64 (0), .int .u64 (0), .int .u64 (0)]) := by
    have h1 : CV u3 b3_6 (bif fZ 7 then [.int .u64 (0), .int .u64 (0), .int .u64 (0), .int .u64 (0)] else L0s) := kb3_6
    rw [hall 7 (by decide)] at h1; exact h1
  clear kb3_6
  have HB3 : Below w.heap.size w u3 := hM.bel
  have sz3 : u2.heap.size ≤ u3.heap.size := hM.sz
  obtain ⟨⟨l3n1_7, K3n1_7⟩, ⟨l3n2_6, K3n2_6⟩, -⟩ := hM.ks.up hM.sz
  dsimp only at l3n1_7 K3n1_7 l3n2_6 K3n2_6
  simp only [ovr, List.set_cons_zero, List.set_cons_succ, e21, e22, e23, e20, e24, e25, e6, e5]
  clear hM hG hO hN hall e21 e22 e23 e20 e24 e25 e6 e5 K2n1_7 Kb2_6 HB2
  clear tZ
  go_upto_region 4 with fail
  refine region_drawn [26, 27, 28, 29, 30, 31, 32, 33, 34, 35, 36, 37, 38, 39, 40, 41, 42, 43, 44, 45, 46, 47, 48, 49, 50, 51, 52, 0] (fun fZ tZ uZ => MR w.heap.size w (u3.heap.size) [(b1_7, LN 24), (b2_6, LN 7)] [] [] uZ ∧ Gs fZ tZ [(0, 26, NV 24), (1, 27, NV 24), (2, 28, .bool true), (3, 29, .bool true), (4, 30, .int .i64 0), (5, 31, .bool true), (6, 32, .bool true), (7, 33, .bool true), (8, 34, NV 7), (9, 35, NV 7), (10, 36, .bool true), (11, 37, .bool true), (12, 38, .bool true), (13, 39, .int .i64 0), (14, 40, .bool true), (15, 41, .bool true), (16, 42, .bool true), (17, 43, .int .i64 20), (18, 44, .bool true), (19, 45, .bool true), (20, 46, .bool true), (21, 47, NV 12), (22, 48, NV 18), (23, 49, NV 6), (24, 50, NV 6), (25, 51, .bool true), (26, 52, .bool true), (27, 0, .bool true)] ∧ Os fZ [] ∧ Ns fZ tZ []) (by kernel_rfl) (by kernel_rfl) ?_ ?_ ?_
  · exact ⟨{ bel := HB3.drew, lo := HB3.size, sz := Nat.le_refl _, ks := ⟨⟨l3n1_7, K3n1_7⟩, ⟨l3n2_6, K3n2_6⟩, trivial⟩, ex := trivial, nw := trivial, nd := trivial }, Gs.none _ _, Os.none _, trivial⟩
  · rintro fZ tZ uZ iZ oZ aZ hF ⟨hM, hG, hO, hN⟩ ho hfi hdep
    obtain ⟨hS, hV⟩ := hF.two 53 (by decide) rfl (by decide)
    rcases cZ28 ho with rfl | rfl | rfl | rfl | rfl | rfl | rfl | rfl | rfl | rfl | rfl | rfl | rfl | rfl | rfl | rfl | rfl | rfl | rfl | rfl | rfl | rfl | rfl | rfl | rfl | rfl | rfl | rfl <;> cases ho
    · exact t_load (show aZ.eval (.tmp 1) = .pointer (some ⟨b1_7, 0, none⟩) from (hF.out 1 (by decide)).trans rfl) hM.ks.1.2 Try.underlying25 info_api_Nat hF hS rfl rfl rfl rfl rfl (by decide) (Jt hM hG hN)
    · exact t_call (vs := [(Go.Value.int Go.IntKind.i64 24)]) (by show [(Go.Value.int Go.IntKind.i64 24)] = _; rfl) ent_seneschalbase_Nat (bNat_any 24 uZ (by omega) (by omega)) hF hS rfl rfl rfl rfl (by decide) (fun _ hB => (Jt (hM.call hB) hG hN))
    · refine op_plain rfl rfl (fun K hK => ?_)
      refine wp_bin rfl (ve 26 hV (hG.1 (dd 0 hdep))) (ve 27 hV (hG.2.1 (dd 1 hdep))) (eql_same _ _ (24) uZ) ?_
      exact tell hK hF hS (by decide) (Jt hM hG hN)
    · exact t_move (ve 28 hV (hG.2.2.1 (dd 2 hdep))) hF hS rfl rfl rfl rfl (by decide) (Jt hM hG hN)
    · refine wpOp_step rfl (fun K hK => ?_)
      have yg : fZ 3 = true := hdep ⟨3, .guard⟩ (by simp) rfl
      have eg : tZ 29 = .bool true := hG.2.2.2.1 yg
      rw [if_pos (wanted_of rfl rfl (show aZ.tmps[29]? = some (.bool true) by rw [hF.tmps (N := 53) (by decide) rfl 29 (by decide) (by decide), eg]))]
      refine wp_move rfl (show aZ.eval (.tmp 2) = .int .i64 0 from (hF.out 2 (by decide)).trans rfl) ?_
      exact tell hK hF hS (by decide) (Jt hM hG hN)
    · refine wpOp_step rfl (fun K hK => ?_)
      have yg : fZ 3 = true := hdep ⟨3, .guard⟩ (by simp) rfl
      have eg : tZ 29 = .bool true := hG.2.2.2.1 yg
      rw [if_pos (wanted_of rfl rfl (show aZ.tmps[29]? = some (.bool true) by rw [hF.tmps (N := 53) (by decide) rfl 29 (by decide) (by decide), eg]))]
      refine wp_bin rfl (ve 30 hV (hG.2.2.2.2.1 (dd 4 hdep))) rfl (eql_i _ _ _ 0 0 _ uZ rfl) ?_
      exact tell hK hF hS (by decide) (Jt hM hG hN)
    · refine op_plain rfl rfl (fun K hK => ?_)
      refine wp_pick rfl (ve 29 hV (hG.2.2.2.1 (dd 3 hdep))) (b := true) ((if_pos rfl).trans (ve 31 hV (hG.2.2.2.2.2.1 (dd 5 hdep)))) ?_
      exact tell hK hF hS (by decide) (Jt hM hG hN)
    · exact t_move (ve 32 hV (hG.2.2.2.2.2.2.1 (dd 6 hdep))) hF hS rfl rfl rfl rfl (by decide) (Jt hM hG hN)
    · refine wpOp_step rfl (fun K hK => ?_)
      have yg : fZ 7 = true := hdep ⟨7, .guard⟩ (by simp) rfl
      have eg : tZ 33 = .bool true := hG.2.2.2.2.2.2.2.1 yg
      rw [if_pos (wanted_of rfl rfl (show aZ.tmps[33]? = some (.bool true) by rw [hF.tmps (N := 53) (by decide) rfl 33 (by decide) (by decide), eg]))]
      refine wp_load_mid 25 _ rfl _ 0 (show aZ.eval (.tmp 3) = .pointer (some ⟨b2_6, 0, none⟩) from (hF.out 3 (by decide)).trans rfl) _ _ (CV.range hM.ks.2.1.2) Try.underlying25 rfl info_api_Nat ?_
      exact tell hK hF hS (by decide) (Jt hM hG hN)
    · refine wpOp_step rfl (fun K hK => ?_)
      have yg : fZ 7 = true := hdep ⟨7, .guard⟩ (by simp) rfl
      have eg : tZ 33 = .bool true := hG.2.2.2.2.2.2.2.1 yg
      rw [if_pos (wanted_of rfl rfl (show aZ.tmps[33]? = some (.bool true) by rw [hF.tmps (N := 53) (by decide) rfl 33 (by decide) (by decide), eg]))]
      refine wp_callF rfl (vs := [(Go.Value.int Go.IntKind.i64 7)]) (by show [(Go.Value.int Go.IntKind.i64 7)] = _; rfl) ent_seneschalbase_Nat (bNat_any 7 uZ (by omega) (by omega)) (fun vZ hB => ?_)
      exact tell hK hF hS (by decide) (Jt (hM.call hB) hG hN)
    · refine wpOp_step rfl (fun K hK => ?_)
      have yg : fZ 7 = true := hdep ⟨7, .guard⟩ (by simp) rfl
      have eg : tZ 33 = .bool true := hG.2.2.2.2.2.2.2.1 yg
      rw [if_pos (wanted_of rfl rfl (show aZ.tmps[33]? = some (.bool true) by rw [hF.tmps (N := 53) (by decide) rfl 33 (by decide) (by decide), eg]))]
      refine wp_bin rfl (ve 34 hV (hG.2.2.2.2.2.2.2.2.1 (dd 8 hdep))) (ve 35 hV (hG.2.2.2.2.2.2.2.2.2.1 (dd 9 hdep))) (eql_same _ _ (7) uZ) ?_
      exact tell hK hF hS (by decide) (Jt hM hG hN)
    · refine op_plain rfl rfl (fun K hK => ?_)
      refine wp_pick rfl (ve 33 hV (hG.2.2.2.2.2.2.2.1 (dd 7 hdep))) (b := true) ((if_pos rfl).trans (ve 36 hV (hG.2.2.2.2.2.2.2.2.2.2.1 (dd 10 hdep)))) ?_
      exact tell hK hF hS (by decide) (Jt hM hG hN)
    · exact t_move (ve 37 hV (hG.2.2.2.2.2.2.2.2.2.2.2.1 (dd 11 hdep))) hF hS rfl rfl rfl rfl (by decide) (Jt hM hG hN)
    · refine wpOp_step rfl (fun K hK => ?_)
      have yg : fZ 12 = true := hdep ⟨12, .guard⟩ (by simp) rfl
      have eg : tZ 38 = .bool true := hG.2.2.2.2.2.2.2.2.2.2.2.2.1 yg
      rw [if_pos (wanted_of rfl rfl (show aZ.tmps[38]? = some (.bool true) by rw [hF.tmps (N := 53) (by decide) rfl 38 (by decide) (by decide), eg]))]
      refine wp_move rfl (show aZ.eval (.tmp 4) = .int .i64 0 from (hF.out 4 (by decide)).trans rfl) ?_
      exact tell hK hF hS (by decide) (Jt hM hG hN)
    · refine wpOp_step rfl (fun K hK => ?_)
      have yg : fZ 12 = true := hdep ⟨12, .guard⟩ (by simp) rfl
      have eg : tZ 38 = .bool true := hG.2.2.2.2.2.2.2.2.2.2.2.2.1 yg
      rw [if_pos (wanted_of rfl rfl (show aZ.tmps[38]? = some (.bool true) by rw [hF.tmps (N := 53) (by decide) rfl 38 (by decide) (by decide), eg]))]
      refine wp_bin rfl (ve 39 hV (hG.2.2.2.2.2.2.2.2.2.2.2.2.2.1 (dd 13 hdep))) rfl (eql_i _ _ _ 0 0 _ uZ rfl) ?_
      exact tell hK hF hS (by decide) (Jt hM hG hN)
    · refine op_plain rfl rfl (fun K hK => ?_)
      refine wp_pick rfl (ve 38 hV (hG.2.2.2.2.2.2.2.2.2.2.2.2.1 (dd 12 hdep))) (b := true) ((if_pos rfl).trans (ve 40 hV (hG.2.2.2.2.2.2.2.2.2.2.2.2.2.2.1 (dd 14 hdep)))) ?_
      exact tell hK hF hS (by decide) (Jt hM hG hN)
    · exact t_move (ve 41 hV (hG.2.2.2.2.2.2.2.2.2.2.2.2.2.2.2.1 (dd 15 hdep))) hF hS rfl rfl rfl rfl (by decide) (Jt hM hG hN)
    · refine wpOp_step rfl (fun K hK => ?_)
      have yg : fZ 16 = true := hdep ⟨16, .guard⟩ (by simp) rfl
      have eg : tZ 42 = .bool true := hG.2.2.2.2.2.2.2.2.2.2.2.2.2.2.2.2.1 yg
      rw [if_pos (wanted_of rfl rfl (show aZ.tmps[42]? = some (.bool true) by rw [hF.tmps (N := 53) (by decide) rfl 42 (by decide) (by decide), eg]))]
      refine wp_move rfl (show aZ.eval (.tmp 6) = .int .i64 20 from (hF.out 6 (by decide)).trans rfl) ?_
      exact tell hK hF hS (by decide) (Jt hM hG hN)
    · refine wpOp_step rfl (fun K hK => ?_)
      have yg : fZ 16 = true := hdep ⟨16, .guard⟩ (by simp) rfl
      have eg : tZ 42 = .bool true := hG.2.2.2.2.2.2.2.2.2.2.2.2.2.2.2.2.1 yg
      rw [if_pos (wanted_of rfl rfl (show aZ.tmps[42]? = some (.bool true) by rw [hF.tmps (N := 53) (by decide) rfl 42 (by decide) (by decide), eg]))]
      refine wp_bin rfl (ve 43 hV (hG.2.2.2.2.2.2.2.2.2.2.2.2.2.2.2.2.2.1 (dd 17 hdep))) rfl (eql_i _ _ _ 20 20 _ uZ rfl) ?_
      exact tell hK hF hS (by decide) (Jt hM hG hN)
    · refine op_plain rfl rfl (fun K hK => ?_)
      refine wp_pick rfl (ve 42 hV (hG.2.2.2.2.2.2.2.2.2.2.2.2.2.2.2.2.1 (dd 16 hdep))) (b := true) ((if_pos rfl).trans (ve 44 hV (hG.2.2.2.2.2.2.2.2.2.2.2.2.2.2.2.2.2.2.1 (dd 18 hdep)))) ?_
      exact tell hK hF hS (by decide) (Jt hM hG hN)
    · exact t_move (ve 45 hV (hG.2.2.2.2.2.2.2.2.2.2.2.2.2.2.2.2.2.2.2.1 (dd 19 hdep))) hF hS rfl rfl rfl rfl (by decide) (Jt hM hG hN)
    · refine wpOp_step rfl (fun K hK => ?_)
      have yg : fZ 20 = true := hdep ⟨20, .guard⟩ (by simp) rfl
      have eg : tZ 46 = .bool true := hG.2.2.2.2.2.2.2.2.2.2.2.2.2.2.2.2.2.2.2.2.1 yg
      rw [if_pos (wanted_of rfl rfl (show aZ.tmps[46]? = some (.bool true) by rw [hF.tmps (N := 53) (by decide) rfl 46 (by decide) (by decide), eg]))]
      refine wp_callF rfl (vs := [(Go.Value.int Go.IntKind.i64 12)]) (by show [(Go.Value.int Go.IntKind.i64 12)] = _; rfl) ent_seneschalbase_Nat (bNat_any 12 uZ (by omega) (by omega)) (fun vZ hB => ?_)
      exact tell hK hF hS (by decide) (Jt (hM.call hB) hG hN)
    · refine wpOp_step rfl (fun K hK => ?_)
      have yg : fZ 20 = true := hdep ⟨20, .guard⟩ (by simp) rfl
      have eg : tZ 46 = .bool true := hG.2.2.2.2.2.2.2.2.2.2.2.2.2.2.2.2.2.2.2.2.1 yg
      rw [if_pos (wanted_of rfl rfl (show aZ.tmps[46]? = some (.bool true) by rw [hF.tmps (N := 53) (by decide) rfl 46 (by decide) (by decide), eg]))]
      refine wp_callF rfl (vs := [(Go.Value.int Go.IntKind.i64 18)]) (by show [(Go.Value.int Go.IntKind.i64 18)] = _; rfl) ent_seneschalbase_Nat (bNat_any 18 uZ (by omega) (by omega)) (fun vZ hB => ?_)
      exact tell hK hF hS (by decide) (Jt (hM.call hB) hG hN)
    · refine wpOp_step rfl (fun K hK => ?_)
      have yg : fZ 20 = true := hdep ⟨20, .guard⟩ (by simp) rfl
      have eg : tZ 46 = .bool true := hG.2.2.2.2.2.2.2.2.2.2.2.2.2.2.2.2.2.2.2.2.1 yg
      rw [if_pos (wanted_of rfl rfl (show aZ.tmps[46]? = some (.bool true) by rw [hF.tmps (N := 53) (by decide) rfl 46 (by decide) (by decide), eg]))]
      refine wp_callF rfl (vs := [NV 12, NV 18]) (by show [aZ.eval (.tmp 47), aZ.eval (.tmp 48)] = _; rw [(ve 47 hV (hG.2.2.2.2.2.2.2.2.2.2.2.2.2.2.2.2.2.2.2.2.2.1 (dd 21 hdep))), (ve 48 hV (hG.2.2.2.2.2.2.2.2.2.2.2.2.2.2.2.2.2.2.2.2.2.2.1 (dd 22 hdep)))]) ent_mod_Gcd (gcd_ex uZ) (fun vZ hB => ?_)
      exact tell hK hF hS (by decide) (Jt (hM.call hB) hG hN)
    · refine wpOp_step rfl (fun K hK => ?_)
      have yg : fZ 20 = true := hdep ⟨20, .guard⟩ (by simp) rfl
      have eg : tZ 46 = .bool true := hG.2.2.2.2.2.2.2.2.2.2.2.2.2.2.2.2.2.2.2.2.1 yg
      rw [if_pos (wanted_of rfl rfl (show aZ.tmps[46]? = some (.bool true) by rw [hF.tmps (N := 53) (by decide) rfl 46 (by decide) (by decide), eg]))]
      refine wp_callF rfl (vs := [(Go.Value.int Go.IntKind.i64 6)]) (by show [(Go.Value.int Go.IntKind.i64 6)] = _; rfl) ent_seneschalbase_Nat (bNat_any 6 uZ (by omega) (by omega)) (fun vZ hB => ?_)
      exact tell hK hF hS (by decide) (Jt (hM.call hB) hG hN)
    · refine wpOp_step rfl (fun K hK => ?_)
      have yg : fZ 20 = true := hdep ⟨20, .guard⟩ (by simp) rfl
      have eg : tZ 46 = .bool true := hG.2.2.2.2.2.2.2.2.2.2.2.2.2.2.2.2.2.2.2.2.1 yg
      rw [if_pos (wanted_of rfl rfl (show aZ.tmps[46]? = some (.bool true) by rw [hF.tmps (N := 53) (by decide) rfl 46 (by decide) (by decide), eg]))]
      refine wp_bin rfl (ve 49 hV (hG.2.2.2.2.2.2.2.2.2.2.2.2.2.2.2.2.2.2.2.2.2.2.2.1 (dd 23 hdep))) (ve 50 hV (hG.2.2.2.2.2.2.2.2.2.2.2.2.2.2.2.2.2.2.2.2.2.2.2.2.1 (dd 24 hdep))) (eql_same _ _ (6) uZ) ?_
      exact tell hK hF hS (by decide) (Jt hM hG hN)
    · refine op_plain rfl rfl (fun K hK => ?_)
      refine wp_pick rfl (ve 46 hV (hG.2.2.2.2.2.2.2.2.2.2.2.2.2.2.2.2.2.2.2.2.1 (dd 20 hdep))) (b := true) ((if_pos rfl).trans (ve 51 hV (hG.2.2.2.2.2.2.2.2.2.2.2.2.2.2.2.2.2.2.2.2.2.2.2.2.2.1 (dd 25 hdep)))) ?_
      exact tell hK hF hS (by decide) (Jt hM hG hN)
    · exact t_assign (ve 52 hV (hG.2.2.2.2.2.2.2.2.2.2.2.2.2.2.2.2.2.2.2.2.2.2.2.2.2.2.1 (dd 26 hdep))) hF hS rfl rfl rfl rfl (by decide) (Jt hM hG hN)
  rintro fZ tZ u4 ⟨hM, hG, hO, hN⟩ hall
  obtain ⟨e26, e27, e28, e29, e30, e31, e32, e33, e34, e35, e36, e37, e38, e39, e40, e41, e42, e43, e44, e45, e46, e47, e48, e49, e50, e51, e52, e0, -⟩ := Gs.all 28 hall hG rfl
  have HB4 : Below w.heap.size w u4 := hM.bel
  have sz4 : u3.heap.size ≤ u4.heap.size := hM.sz
  simp only [ovr, List.set_cons_zero, List.set_cons_succ, e26, e27, e28, e29, e30, e31, e32, e33, e34, e35, e36, e37, e38, e39, e40, e41, e42, e43, e44, e45, e46, e47, e48, e49, e50, e51, e52, e0]
  clear hM hG hO hN hall e26 e27 e28 e29 e30 e31 e32 e33 e34 e35 e36 e37 e38 e39 e40 e41 e42 e43 e44 e45 e46 e47 e48 e49 e50 e51 e52 e0 K3n1_7 K3n2_6 HB3
  clear tZ
  go_wp2
  refine bodyPost_ret (v := .bool true) (by simp [results, Try.results25, go_sem, ]) rfl ⟨rfl, HB4⟩
end Go.Proofs.Ytkpnjmfndgfogaa
