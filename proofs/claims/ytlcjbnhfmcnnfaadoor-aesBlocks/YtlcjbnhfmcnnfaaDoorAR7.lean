/- The reference's decrypting of a block. -/
import Derived.Test.YtlcjbnhfmcnnfaaDoorAR6
namespace Go.Proofs.YtlcjbnhfmcnnfaaDoor
open Go.RowKit
set_option linter.unusedVariables false
set_option linter.unusedSimpArgs false
set_option maxRecDepth 100000 in
set_option maxHeartbeats 8000000 in
theorem cDecR_k (vk vb : Value) (tt : List Nat) (w : World) (hz176 : z176.length = 176) (htt : tt.length = 256) (hTb : Hid (∀ u, Calls Tryd.prog 12 #[] u fun e u' => ∃ v, e = .returned v ∧ PS u.heap.size 256 (U8 (tt)) u' v ∧ Below u.heap.size u u')) (hKB : Hid (∀ u y, Below w.heap.size w u → IN u u.heap.size y tt → Calls Tryd.prog 25 #[y, vk] u fun e u' => e = .returned (.tuple #[.agg (U8 (z176)).toArray, .int .i64 2]) ∧ Below u.heap.size u u')) :
    Calls Tryd.prog 18 #[vk, vb] w fun e w' => e = .returned (.tuple #[.slice none 0 0, .int .i64 2]) ∧ Below w.heap.size w w' := by
  go_enter Tryd.func18, Tryd.ntmps18
  have HB0 : Below w.heap.size w w := Below.refl _ _
  have K0_1 := Bk.nil (w.heap.size) w
  go_upto_region 1 with fail
  refine rgF K0_1 HB0 HB0.size [] [] [] [] [] [⟨0, 15, some 1, PS w.heap.size 256 (U8 (tt))⟩, ⟨1, 6, none, PS w.heap.size 256 (U8 (tt))⟩] [] (.cons (fun _ _ _ h1 h2 => h2.stab h1) <| .cons (fun _ _ _ h1 h2 => h2.stab h1) <| Stab.nil) ?_ ?_
  · refine oc (g_cE 0 (PS w.heap.size 256 (U8 (tt))) ent_seneschalref06_Table (fun u hB hs => (hTb.out u).mono fun e u2 ⟨v, e1, h1, h2⟩ => ⟨v, e1, h1.mono hs, h2⟩)) ?_
    exact oc (g_sE 0 1 (PS w.heap.size 256 (U8 (tt)))) on
  intro u1 v1_0 hv1_0 v1_1 hv1_1 HB1 sz1 K1
  simp only [fX, nK, nP, Wr.f, aK, pM] at K1
  simp only [setG, setN, setE, List.set_cons_zero, List.set_cons_succ]
  clear HB0
  obtain ⟨bT, cT, rfl, hT1, hT2, hcT, hTC⟩ := hv1_1 rfl
  have K1_2 : Bk w.heap.size u1 [(false, bT, U8 (tt))] := ⟨.c hT2 hTC <| trivial, by simp⟩
  have hltT := (K1_2.lt 0)
  go_upto_region 2 with fail
  refine rgP K1_2 HB1 HB1.size [] [(6, 7, U8 (z176), some (7, U8 (z176)))] [(0, 17, .slice (some ⟨bT, 0, none⟩) 256 cT), (1, 18, vk), (2, 19, .tuple #[.agg (U8 (z176)).toArray, .int .i64 2]), (3, 16, .tuple #[.agg (U8 (z176)).toArray, .int .i64 2]), (4, 20, .agg (U8 (z176)).toArray), (5, 21, .int .i64 2), (8, 8, .int .i64 2)] [(7, 6)] [] [] ?_ ?_
  · refine oc g_mv ?_
    refine oc g_mv ?_
    refine oc (g_cK ent_seneschalref06_keysBy (fun fZ uZ kZ sZ bZ => hKB.out uZ _ bZ (inT (kZ.cv 0) (kZ.lb sZ 0) htt hcT))) ?_
    refine oc g_mv ?_
    refine oc g_ex ?_
    refine oc g_ex ?_
    refine oc (g_al 0 al__11__16_uint8) ?_
    refine oc (g_sn 0 info__11__16_uint8 (h1 := U8_one _) (hm := by rw [U8_len, hz176]) (hl := by first | rw [U8_len, U8_len, hz176, show z176.length = 176 from hz176] | rfl)) ?_
    exact oc g_as on
  intro u2 b2_6 HB2 sz2 K2
  simp only [fX, nK, nP, Wr.f, aK, pM] at K2
  simp only [setG, setN, List.set_cons_zero, List.set_cons_succ]
  clear HB1
  go_upto_region 3 with fail
  refine rgP K2 HB2 HB2.size [] [] [(0, 22, .int .i64 2), (1, 23, .bool true), (2, 24, .bool true), (3, 25, undef), (4, 26, undef), (5, 27, undef), (6, 28, (Go.Value.bool Bool.true))] [] [] [] ?_ ?_
  · refine oc g_mv ?_
    refine oc (g_bn (fun uZ => neq_e _ _ 2 0 true uZ (by decide))) ?_
    refine oc g_mv ?_
    refine oc g_sk ?_
    refine oc g_sk ?_
    refine oc g_sk ?_
    exact oc g_pk on
  intro u3 HB3 sz3 K3
  simp only [fX, nK, nP, Wr.f, aK, pM] at K3
  simp only [setG, setN, List.set_cons_zero, List.set_cons_succ]
  clear K2 HB2
  go_upto_region 4 with fail
  refine rgP K3 HB3 HB3.size [] [] [(0, 4, (Go.Value.slice Option.none 0 0)), (1, 5, (Go.Value.int Go.IntKind.i64 2))] [] [] [] ?_ ?_
  · refine oc g_as ?_
    exact oc g_as on
  intro u4 HB4 sz4 K4
  simp only [fX, nK, nP, Wr.f, aK, pM] at K4
  simp only [setG, setN, List.set_cons_zero, List.set_cons_succ]
  clear K3 HB3
  go_wp2
  refine bodyPost_ret (v := .tuple #[.slice none 0 0, .int .i64 2]) (by simp [results, Tryd.results18, go_sem, ]) rfl ⟨rfl, HB4⟩
set_option maxRecDepth 100000 in
set_option maxHeartbeats 8000000 in
theorem cDecR_b (vk : Value) (kx tt : List Nat) (sl : Option Addr) (n cap : Nat) (w : World) (hz176 : z176.length = 176) (hkx : kx.length = 176) (hn : decide ((n : Int) ≠ 16) = true) (htt : tt.length = 256) (hTb : Hid (∀ u, Calls Tryd.prog 12 #[] u fun e u' => ∃ v, e = .returned v ∧ PS u.heap.size 256 (U8 (tt)) u' v ∧ Below u.heap.size u u')) (hKB : Hid (∀ u y, Below w.heap.size w u → IN u u.heap.size y tt → Calls Tryd.prog 25 #[y, vk] u fun e u' => e = .returned (.tuple #[.agg (U8 (kx)).toArray, .int .i64 0]) ∧ Below u.heap.size u u')) :
    Calls Tryd.prog 18 #[vk, (.slice sl n cap)] w fun e w' => e = .returned (.tuple #[.slice none 0 0, .int .i64 2]) ∧ Below w.heap.size w w' := by
  go_enter Tryd.func18, Tryd.ntmps18
  have HB0 : Below w.heap.size w w := Below.refl _ _
  have K0_1 := Bk.nil (w.heap.size) w
  go_upto_region 1 with fail
  refine rgF K0_1 HB0 HB0.size [] [] [] [] [] [⟨0, 15, some 1, PS w.heap.size 256 (U8 (tt))⟩, ⟨1, 6, none, PS w.heap.size 256 (U8 (tt))⟩] [] (.cons (fun _ _ _ h1 h2 => h2.stab h1) <| .cons (fun _ _ _ h1 h2 => h2.stab h1) <| Stab.nil) ?_ ?_
  · refine oc (g_cE 0 (PS w.heap.size 256 (U8 (tt))) ent_seneschalref06_Table (fun u hB hs => (hTb.out u).mono fun e u2 ⟨v, e1, h1, h2⟩ => ⟨v, e1, h1.mono hs, h2⟩)) ?_
    exact oc (g_sE 0 1 (PS w.heap.size 256 (U8 (tt)))) on
  intro u1 v1_0 hv1_0 v1_1 hv1_1 HB1 sz1 K1
  simp only [fX, nK, nP, Wr.f, aK, pM] at K1
  simp only [setG, setN, setE, List.set_cons_zero, List.set_cons_succ]
  clear HB0
  obtain ⟨bT, cT, rfl, hT1, hT2, hcT, hTC⟩ := hv1_1 rfl
  have K1_2 : Bk w.heap.size u1 [(false, bT, U8 (tt))] := ⟨.c hT2 hTC <| trivial, by simp⟩
  have hltT := (K1_2.lt 0)
  go_upto_region 2 with fail
  refine rgP K1_2 HB1 HB1.size [] [(6, 7, U8 (z176), some (7, U8 (kx)))] [(0, 17, .slice (some ⟨bT, 0, none⟩) 256 cT), (1, 18, vk), (2, 19, .tuple #[.agg (U8 (kx)).toArray, .int .i64 0]), (3, 16, .tuple #[.agg (U8 (kx)).toArray, .int .i64 0]), (4, 20, .agg (U8 (kx)).toArray), (5, 21, .int .i64 0), (8, 8, .int .i64 0)] [(7, 6)] [] [] ?_ ?_
  · refine oc g_mv ?_
    refine oc g_mv ?_
    refine oc (g_cK ent_seneschalref06_keysBy (fun fZ uZ kZ sZ bZ => hKB.out uZ _ bZ (inT (kZ.cv 0) (kZ.lb sZ 0) htt hcT))) ?_
    refine oc g_mv ?_
    refine oc g_ex ?_
    refine oc g_ex ?_
    refine oc (g_al 0 al__11__16_uint8) ?_
    refine oc (g_sn 0 info__11__16_uint8 (h1 := U8_one _) (hm := by rw [U8_len, hkx]) (hl := by first | rw [U8_len, U8_len, hkx, show z176.length = 176 from hz176] | rfl)) ?_
    exact oc g_as on
  intro u2 b2_6 HB2 sz2 K2
  simp only [fX, nK, nP, Wr.f, aK, pM] at K2
  simp only [setG, setN, List.set_cons_zero, List.set_cons_succ]
  clear HB1
  go_upto_region 3 with fail
  refine rgP K2 HB2 HB2.size [] [] [(0, 22, .int .i64 0), (1, 23, .bool false), (2, 24, .bool false), (3, 25, (.slice sl n cap)), (4, 26, .int .i64 (n : Int)), (5, 27, .bool true), (6, 28, .bool true)] [] [] [] ?_ ?_
  · refine oc g_mv ?_
    refine oc (g_bn (fun uZ => neq_e _ _ 0 0 false uZ (by decide))) ?_
    refine oc g_mv ?_
    refine oc g_mv ?_
    refine oc (g_ln Tryd.underlying24) ?_
    refine oc (g_bn (fun uZ => neq_i _ _ (n : Int) 16 true uZ hn)) ?_
    exact oc g_pk on
  intro u3 HB3 sz3 K3
  simp only [fX, nK, nP, Wr.f, aK, pM] at K3
  simp only [setG, setN, List.set_cons_zero, List.set_cons_succ]
  clear K2 HB2
  go_upto_region 4 with fail
  refine rgP K3 HB3 HB3.size [] [] [(0, 4, (Go.Value.slice Option.none 0 0)), (1, 5, (Go.Value.int Go.IntKind.i64 2))] [] [] [] ?_ ?_
  · refine oc g_as ?_
    exact oc g_as on
  intro u4 HB4 sz4 K4
  simp only [fX, nK, nP, Wr.f, aK, pM] at K4
  simp only [setG, setN, List.set_cons_zero, List.set_cons_succ]
  clear K3 HB3
  go_wp2
  refine bodyPost_ret (v := .tuple #[.slice none 0 0, .int .i64 2]) (by simp [results, Tryd.results18, go_sem, ]) rfl ⟨rfl, HB4⟩
set_option maxRecDepth 100000 in
set_option maxHeartbeats 8000000 in
theorem cDecR_s (vk : Value) (kx tt re : List Nat) (sl : Option Addr) (cap : Nat) (sD sR sX sM sS bF : Nat → List Nat) (tF : Nat → Nat → List Nat) (w : World) (hz176 : z176.length = 176) (hkx : kx.length = 176) (htt : tt.length = 256) (hTb : Hid (∀ u, Calls Tryd.prog 12 #[] u fun e u' => ∃ v, e = .returned v ∧ PS u.heap.size 256 (U8 (tt)) u' v ∧ Below u.heap.size u u')) (hKB : Hid (∀ u y, Below w.heap.size w u → IN u u.heap.size y tt → Calls Tryd.prog 25 #[y, vk] u fun e u' => e = .returned (.tuple #[.agg (U8 (kx)).toArray, .int .i64 0]) ∧ Below u.heap.size u u')) (hRl : Hid (∀ i, (sR i).length = 16)) (hRow : Hid (∀ i, i ≤ 10 → ∀ j v, (U8 (sR i))[j]? = some v → (U8 kx)[16 * i + j]? = some v)) (htb : Hid (∀ x, tt.getD x 0 < 256))
    (hb0 : Hid (bF 0 = z256)) (hbs : Hid (∀ x, bF (x + 1) = (bF x).set (tt.getD x 0) x)) (hbl : Hid (∀ x, (bF x).length = 256))
    (hDl : Hid (∀ j, (sD j).length = 16)) (hXl : Hid (∀ j, (sX j).length = 16)) (hMl : Hid (∀ j, (sM j).length = 16)) (hSa : Hid (∀ j, j = 0 → sS j = sX j)) (hSb : Hid (∀ j, ¬ j = 0 → sS j = sM j)) (hSbt : Hid (∀ j k, (sS j).getD k 0 < 256)) (hDs : Hid (∀ j, sD (j + 1) = tF j 16))
    (hF0 : Hid (∀ j, tF j 0 = z16)) (hFs : Hid (∀ j k, tF j (k + 1) = (tF j k).set ((k + 4 * (k % 4)) % 16) ((bF 256).getD ((sS j).getD k 0) 0))) (hFl : Hid (∀ j k, (tF j k).length = 16))
    (hXx : Hid (∀ j i, j + i = 10 → ∀ u v, IN u u.heap.size v (sD j) → Calls Tryd.prog 26 #[v, .agg (U8 (sR i)).toArray] u fun e u' => ∃ v, e = .returned v ∧ PS u.heap.size 16 (U8 (sX j)) u' v ∧ Below u.heap.size u u')) (hMx : Hid (∀ j u v, IN u u.heap.size v (sX j) → Calls Tryd.prog 27 #[v, .agg (U8 ([14, 11, 13, 9])).toArray] u fun e u' => ∃ v, e = .returned v ∧ PS u.heap.size 16 (U8 (sM j)) u' v ∧ Below u.heap.size u u')) (hXe : Hid (∀ u v, IN u u.heap.size v (sD 10) → Calls Tryd.prog 26 #[v, .agg (U8 (sR 0)).toArray] u fun e u' => ∃ v, e = .returned v ∧ PS u.heap.size 16 (U8 (re)) u' v ∧ Below u.heap.size u u'))
    (happ : Hid (∀ (base : Nat) (u : World) (vs : Value), Below w.heap.size w u → base ≤ u.heap.size → PZ base u vs → ∃ v u', (Builtin.append_ #[24, 24] 24 #[vs, (.slice sl 16 cap)]).run Tryd.prog u = .ok v u' ∧ Below u.heap.size u u' ∧ PG base 1 16 (U8 (sD 0)) u' v)) :
    Calls Tryd.prog 18 #[vk, (.slice sl 16 cap)] w fun e w' => ∃ v, e = .returned v ∧ PT 0 w.heap.size 16 (U8 (re)) w' v ∧ Below w.heap.size w w' := by
  go_enter Tryd.func18, Tryd.ntmps18
  have HB0 : Below w.heap.size w w := Below.refl _ _
  have K0_1 := Bk.nil (w.heap.size) w
  go_upto_region 1 with fail
  refine rgF K0_1 HB0 HB0.size [] [] [] [] [] [⟨0, 15, some 1, PS w.heap.size 256 (U8 (tt))⟩, ⟨1, 6, none, PS w.heap.size 256 (U8 (tt))⟩] [] (.cons (fun _ _ _ h1 h2 => h2.stab h1) <| .cons (fun _ _ _ h1 h2 => h2.stab h1) <| Stab.nil) ?_ ?_
  · refine oc (g_cE 0 (PS w.heap.size 256 (U8 (tt))) ent_seneschalref06_Table (fun u hB hs => (hTb.out u).mono fun e u2 ⟨v, e1, h1, h2⟩ => ⟨v, e1, h1.mono hs, h2⟩)) ?_
    exact oc (g_sE 0 1 (PS w.heap.size 256 (U8 (tt)))) on
  intro u1 v1_0 hv1_0 v1_1 hv1_1 HB1 sz1 K1
  simp only [fX, nK, nP, Wr.f, aK, pM] at K1
  simp only [setG, setN, setE, List.set_cons_zero, List.set_cons_succ]
  clear HB0
  obtain ⟨bT, cT, rfl, hT1, hT2, hcT, hTC⟩ := hv1_1 rfl
  have K1_2 : Bk w.heap.size u1 [(false, bT, U8 (tt))] := ⟨.c hT2 hTC <| trivial, by simp⟩
  have hltT := (K1_2.lt 0)
  go_upto_region 2 with fail
  refine rgP K1_2 HB1 HB1.size [] [(6, 7, U8 (z176), some (7, U8 (kx)))] [(0, 17, .slice (some ⟨bT, 0, none⟩) 256 cT), (1, 18, vk), (2, 19, .tuple #[.agg (U8 (kx)).toArray, .int .i64 0]), (3, 16, .tuple #[.agg (U8 (kx)).toArray, .int .i64 0]), (4, 20, .agg (U8 (kx)).toArray), (5, 21, .int .i64 0), (8, 8, .int .i64 0)] [(7, 6)] [] [] ?_ ?_
  · refine oc g_mv ?_
    refine oc g_mv ?_
    refine oc (g_cK ent_seneschalref06_keysBy (fun fZ uZ kZ sZ bZ => hKB.out uZ _ bZ (inT (kZ.cv 0) (kZ.lb sZ 0) htt hcT))) ?_
    refine oc g_mv ?_
    refine oc g_ex ?_
    refine oc g_ex ?_
    refine oc (g_al 0 al__11__16_uint8) ?_
    refine oc (g_sn 0 info__11__16_uint8 (h1 := U8_one _) (hm := by rw [U8_len, hkx]) (hl := by first | rw [U8_len, U8_len, hkx, show z176.length = 176 from hz176] | rfl)) ?_
    exact oc g_as on
  intro u2 b2_6 HB2 sz2 K2
  simp only [fX, nK, nP, Wr.f, aK, pM] at K2
  simp only [setG, setN, List.set_cons_zero, List.set_cons_succ]
  clear HB1
  go_upto_region 3 with fail
  refine rgP K2 HB2 HB2.size [] [] [(0, 22, .int .i64 0), (1, 23, .bool false), (2, 24, .bool false), (3, 25, (.slice sl 16 cap)), (4, 26, .int .i64 ((16 : Nat) : Int)), (5, 27, .bool false), (6, 28, .bool false)] [] [] [] ?_ ?_
  · refine oc g_mv ?_
    refine oc (g_bn (fun uZ => neq_e _ _ 0 0 false uZ (by decide))) ?_
    refine oc g_mv ?_
    refine oc g_mv ?_
    refine oc (g_ln Tryd.underlying24) ?_
    refine oc (g_bn (fun uZ => neq_i _ _ ((16 : Nat) : Int) 16 false uZ (by decide))) ?_
    exact oc g_pk on
  intro u3 HB3 sz3 K3
  simp only [fX, nK, nP, Wr.f, aK, pM] at K3
  simp only [setG, setN, List.set_cons_zero, List.set_cons_succ]
  clear K2 HB2
  have hne7 := K3.n
  simp at hne7
  have hX_tab := (K3.lt 0)
  have hX_n2_6 := (K3.lt 1)
  go_upto_region 5 with fail
  refine rgF K3 HB3 HB3.size [] [] [] [] [] [⟨0, 29, some 1, PF u3.heap.size 256 (U8 (z256))⟩, ⟨1, 9, none, PF u3.heap.size 256 (U8 (z256))⟩] [] (.cons (fun _ _ _ h1 h2 => h2.stab h1) <| .cons (fun _ _ _ h1 h2 => h2.stab h1) <| Stab.nil) ?_ ?_
  · refine oc (g_ms 0 (PF u3.heap.size 256 (U8 (z256))) mk256 (fun u hu => PF.new 256 _ _ u hu)) ?_
    exact oc (g_sE 0 1 (PF u3.heap.size 256 (U8 (z256)))) on
  intro u4 v4_0 hv4_0 v4_1 hv4_1 HB4 sz4 K4
  simp only [fX, nK, nP, Wr.f, aK, pM] at K4
  simp only [setG, setN, setE, List.set_cons_zero, List.set_cons_succ]
  clear K3 HB3
  obtain ⟨bK, rfl, hK1, hK2, hKC⟩ := hv4_1 rfl
  have hord : bT ≠ b2_6 ∧ b2_6 < bK ∧ bT < bK ∧ w.heap.size ≤ bT ∧ w.heap.size ≤ bK := by omega
  clear hX_tab hX_n2_6
  have K4_3 : Bk w.heap.size u4 [(false, bT, U8 (tt)), (false, b2_6, U8 (kx)), (true, bK, U8 (z256))] := ⟨.c (K4.lt 0) (K4.cv 0) <| .c (K4.lt 1) (K4.cv 1) <| .o hK2 (by omega) hKC <| trivial, by simp <;> omega⟩
  go_upto_region 6 with fail
  refine rgP K4_3 HB4 HB4.size [] [] [(0, 10, (Go.Value.int Go.IntKind.i64 0))] [] [] [] ?_ ?_
  · exact oc g_as on
  intro u5 HB5 sz5 K5
  simp only [fX, nK, nP, Wr.f, aK, pM] at K5
  simp only [setG, setN, List.set_cons_zero, List.set_cons_succ]
  clear HB4
  go_wp2_with fail
  go_loopw [10] (fun s10 wr => ∃ (x : Nat), x ≤ 256 ∧ s10 = .int .i64 (x : Int) ∧ bK < wr.heap.size ∧ Hid (CV wr bK (U8 (bF x))) ∧ bT < wr.heap.size ∧ Hid (CV wr bT (U8 tt)) ∧ b2_6 < wr.heap.size ∧ Hid (CV wr b2_6 (U8 kx)) ∧ Below w.heap.size w wr) (fun s10 _ => 256 - (intOf s10).toNat)
  case atStart => exact ⟨0, by omega, rfl, (K5.lt 2), (by rw [hb0.out]; exact (K5.cv 2)), (K5.lt 0), (K5.cv 0), (K5.lt 1), (K5.cv 1), HB5⟩
  case round =>
    clear hK1 hK2 hKC hT2 hTC hltT hT1
    obtain ⟨x, hx256, rfl, lK, KK, lT, KT, l7, K7x, HBr⟩ := hrel
    clear HB5
    by_cases hj : x < 256
    · have hd1 : decide ((x : Int) < 256) = true := by simp; omega
      have hs := hbs.out x
      have hl := hbl.out x
      obtain ⟨bs2, eb⟩ : ∃ v, bF x = v := ⟨_, rfl⟩
      rw [eb] at hs hl KK
      have gt := U8_get tt x (by omega)
      have hy := htb.out x
      obtain ⟨y, ey⟩ : ∃ v, tt.getD x 0 = v := ⟨_, rfl⟩
      rw [ey] at gt hs hy
      have gk := U8_get bs2 y (by omega)
      obtain ⟨z, ez⟩ : ∃ v, bs2.getD y 0 = v := ⟨_, rfl⟩
      rw [ez] at gk
      have hs : Hid _ := hs
      clear eb ey ez
      have hnK := K5.n
      simp at hnK
      have hoK2 := K5.lo 2
      have K5_4 : Bk w.heap.size wr [(false, bT, U8 (tt)), (false, b2_6, U8 (kx)), (true, bK, U8 (bs2))] := ⟨.c lT KT.out <| .c l7 K7x.out <| .o lK (K5.lo 2) KK.out <| trivial, by simp <;> omega⟩
      go_upto_region 7 with fail
      refine rgP K5_4 HBr HBr.size [] [] [(0, 30, .int .i64 ((x : Nat) : Int)), (1, 31, .bool true)] [] [] [] ?_ ?_
      · refine oc g_mv ?_
        exact oc (g_bn (fun uZ => lss_i _ _ (x : Int) 256 true uZ hd1)) on
      intro u6 HB6 sz6 K6
      simp only [fX, nK, nP, Wr.f, aK, pM] at K6
      simp only [setG, setN, List.set_cons_zero, List.set_cons_succ]
      go_upto_region 9 with fail
      refine rgP K6 HB6 HB6.size [.no, .no, .all 8 (U8 (bs2.set y x))] [] [(0, 34, .slice (some ⟨bK, 0, none⟩) 256 256), (1, 35, .slice (some ⟨bT, 0, none⟩) 256 cT), (2, 36, .int .i64 ((x : Nat) : Int)), (3, 37, .pointer (some ⟨bT, x, none⟩)), (4, 38, .int .u8 ((y : Nat) : Int)), (5, 39, .int .i64 ((x : Nat) : Int)), (6, 40, .int .u8 ((x : Nat) : Int)), (7, 41, .pointer (some ⟨bK, y, none⟩))] [] [] [] ?_ ?_
      · refine oc g_mv ?_
        refine oc g_mv ?_
        refine oc g_mv ?_
        refine oc (g_ix (fun uZ => ixs bT 0 256 cT x x uZ hj (Nat.zero_add _))) ?_
        refine oc (g_lw 0 (x) l8 (gt)) ?_
        refine oc g_mv ?_
        refine oc (g_op (fun ev uZ he => cvi8z uZ hj rfl (he _ _ rfl))) ?_
        refine oc (g_ix (fun uZ => ixs8 bK 256 256 y uZ hy)) ?_
        exact oc (g_sw 2 (y) s8 (gk) (U8_set _ _ _)) on
      intro u7 HB7 sz7 K7
      simp only [fX, nK, nP, Wr.f, aK, pM] at K7
      simp only [setG, setN, List.set_cons_zero, List.set_cons_succ]
      clear K6 HB6
      go_upto_region 8 with fail
      refine rgP K7 HB7 HB7.size [] [] [(0, 32, .int .i64 ((x : Nat) : Int)), (1, 33, .int .i64 ((x + 1 : Nat) : Int)), (2, 10, .int .i64 ((x + 1 : Nat) : Int))] [(2, 0)] [(2, 10)] [] ?_ ?_
      · refine oc g_mv ?_
        refine oc (g_bn (fun uZ => add_i _ _ (x : Int) 1 ((x + 1 : Nat) : Int) uZ (by omega) (by omega) (by omega))) ?_
        exact oc g_as on
      intro u8 HB8 sz8 K8
      simp only [fX, nK, nP, Wr.f, aK, pM] at K8
      simp only [setG, setN, List.set_cons_zero, List.set_cons_succ]
      clear K7 HB7
      go_wp2
      refine ⟨⟨x + 1, by omega, rfl, (K8.lt 2), (by rw [hs.out]; exact (K8.cv 2)), (K8.lt 0), (K8.cv 0), (K8.lt 1), (K8.cv 1), HB8⟩, ?_⟩
      simp [intOf] <;> omega
    · have hd1 : decide ((x : Int) < 256) = false := by simp; omega
      have hx2 : x = 256 := by omega
      subst hx2
      have hql := hbl.out 256
      have hqs := hFs.out
      obtain ⟨bk, ebk⟩ : ∃ v, bF 256 = v := ⟨_, rfl⟩
      rw [ebk] at hql hqs KK
      have hqs : Hid _ := hqs
      clear ebk
      have hnK := K5.n
      simp at hnK
      have hoK2 := K5.lo 2
      have K5_4 : Bk w.heap.size wr [(false, bT, U8 (tt)), (false, b2_6, U8 (kx)), (false, bK, U8 (bk))] := ⟨.c lT KT.out <| .c l7 K7x.out <| .c lK KK.out <| trivial, by simp <;> omega⟩
      go_upto_region 7 with fail
      refine rgP K5_4 HBr HBr.size [] [] [(0, 30, .int .i64 ((256 : Nat) : Int)), (1, 31, .bool false)] [] [] [] ?_ ?_
      · refine oc g_mv ?_
        exact oc (g_bn (fun uZ => lss_i _ _ ((256 : Nat) : Int) 256 false uZ hd1)) on
      intro u6 HB6 sz6 K6
      simp only [fX, nK, nP, Wr.f, aK, pM] at K6
      simp only [setG, setN, List.set_cons_zero, List.set_cons_succ]
      have hX_tab := (K6.lt 0)
      have hX_n2_6 := (K6.lt 1)
      have hX_bk := (K6.lt 2)
      go_upto_region 10 with fail
      refine rgF K6 HB6 HB6.size [] [] [(1, 43, (.slice sl 16 cap))] [(3, 2)] [] [⟨0, 42, some 2, PZ u6.heap.size⟩, ⟨2, 44, some 3, PG u6.heap.size 1 16 (U8 (sD 0))⟩, ⟨3, 11, none, PG u6.heap.size 1 16 (U8 (sD 0))⟩] [] (.cons (fun _ _ _ h1 h2 => h2.stab h1) <| .cons (fun _ _ _ h1 h2 => h2.stab h1) <| .cons (fun _ _ _ h1 h2 => h2.stab h1) <| Stab.nil) ?_ ?_
      · refine oc (g_bs 0 (PZ u6.heap.size) bs0b (fun u hu => PZ.new hu)) ?_
        refine oc g_mv ?_
        refine oc (g_a1 0 1 (PZ u6.heap.size) (PG u6.heap.size 1 16 (U8 (sD 0))) (fun u vs hB hs hv => happ.out u6.heap.size u vs hB hs hv)) ?_
        exact oc (g_sE 1 2 (PG u6.heap.size 1 16 (U8 (sD 0)))) on
      intro u7 v7_0 hv7_0 v7_2 hv7_2 v7_3 hv7_3 HB7 sz7 K7
      simp only [fX, nK, nP, Wr.f, aK, pM] at K7
      simp only [setG, setN, setE, List.set_cons_zero, List.set_cons_succ]
      clear K6 HB6
      obtain ⟨bA, cA, zs, rfl, ho1, ho2, hcA, hzA, hoC⟩ := hv7_3 rfl
      have hord2 : bT < bA ∧ b2_6 < bA ∧ bK < bA := by omega
      have hoC : CV u7 bA (U8 (sD 0)) := fun j v h => hoC j v (by rw [List.getElem?_append_left (List.getElem?_eq_some_iff.1 h).1]; exact h)
      clear hX_tab hX_n2_6 hX_bk ho1 hzA
      have K7_5 : Bk w.heap.size u7 [(false, bT, U8 (tt)), (false, b2_6, U8 (kx)), (false, bK, U8 (bk)), (false, bA, U8 (sD 0))] := ⟨.c (K7.lt 0) (K7.cv 0) <| .c (K7.lt 1) (K7.cv 1) <| .c (K7.lt 2) (K7.cv 2) <| .c ho2 hoC <| trivial, by simp <;> omega⟩
      go_upto_region 11 with fail
      refine rgP K7_5 HB7 HB7.size [] [] [(0, 12, (Go.Value.int Go.IntKind.i64 10))] [] [] [] ?_ ?_
      · exact oc g_as on
      intro u8 HB8 sz8 K8
      simp only [fX, nK, nP, Wr.f, aK, pM] at K8
      simp only [setG, setN, List.set_cons_zero, List.set_cons_succ]
      clear HB7
      go_wp2_with fail
      go_loopw [11, 12] (fun s11 s12 wr => ∃ (j bA cA : Nat), j ≤ 10 ∧ s12 = .int .i64 (10 - (j : Int)) ∧ s11 = .slice (some ⟨bA, 0, none⟩) 16 cA ∧ 16 ≤ cA ∧ bT < bA ∧ b2_6 < bA ∧ bK < bA ∧ bA < wr.heap.size ∧ Hid (CV wr bA (U8 (sD j))) ∧ bK < wr.heap.size ∧ Hid (CV wr bK (U8 bk)) ∧ bT < wr.heap.size ∧ Hid (CV wr bT (U8 tt)) ∧ b2_6 < wr.heap.size ∧ Hid (CV wr b2_6 (U8 kx)) ∧ Below w.heap.size w wr) (fun _ s12 _ => (intOf s12 + 1).toNat)
      case atStart => exact ⟨0, bA, cA, by omega, rfl, rfl, hcA, by omega, by omega, by omega, (K8.lt 3), (K8.cv 3), (K8.lt 2), (K8.cv 2), (K8.lt 0), (K8.cv 0), (K8.lt 1), (K8.cv 1), HB8⟩
      case round =>
        clear ho2 hcA hoC hord2 lK KK lT KT l7 K7x HBr hd1
        obtain ⟨j, bA, cA, hj10, rfl, rfl, hcA, hTA, h7A, hKA, lA, KA, lK, KK, lT, KT, l7, K7x, HBr⟩ := hrel
        clear HB8
        by_cases hj : j < 10
        · obtain ⟨i, hi⟩ : ∃ i, j + i = 10 := ⟨10 - j, by omega⟩
          have ei : 10 - (j : Int) = (i : Int) := by omega
          rw [ei]
          have hd1 : decide ((1 : Int) ≤ (i : Int)) = true := by simp; omega
          have hal := hDl.out j
          have ht0 := hF0.out j
          have hts := hqs.out j
          have htl := hFl.out j
          have hrl := hRl.out i
          have hrow := hRow.out i (by omega)
          have hxx := hXx.out j i hi
          have hxl := hXl.out j
          have hmx := hMx.out j
          have hml := hMl.out j
          have hsa := hSa.out j
          have hsb := hSb.out j
          have hss := hSbt.out j
          have hDn := hDs.out j
          obtain ⟨a, ea⟩ : ∃ x, sD j = x := ⟨_, rfl⟩
          obtain ⟨r, er⟩ : ∃ x, sR i = x := ⟨_, rfl⟩
          rw [ea] at hal KA hxx
          rw [er] at hrl hrow hxx
          have hxx : Hid _ := hxx
          have hmx : Hid _ := hmx
          have hts : Hid _ := hts
          clear ea er ei
          have hnK := K8.n
          simp at hnK
          have K8_6 : Bk w.heap.size wr [(false, bT, U8 (tt)), (false, b2_6, U8 (kx)), (false, bK, U8 (bk)), (false, bA, U8 (a))] := ⟨.c lT KT.out <| .c l7 K7x.out <| .c lK KK.out <| .c lA KA.out <| trivial, by simp <;> omega⟩
          go_upto_region 12 with fail
          refine rgP K8_6 HBr HBr.size [] [] [(0, 45, .int .i64 ((i : Nat) : Int)), (1, 46, .bool true)] [] [] [] ?_ ?_
          · refine oc g_mv ?_
            exact oc (g_bn (fun uZ => geq_z _ _ (i : Int) 1 true uZ hd1)) on
          intro u9 HB9 sz9 K9
          simp only [fX, nK, nP, Wr.f, aK, pM] at K9
          simp only [setG, setN, List.set_cons_zero, List.set_cons_succ]
          have hX_tab := (K9.lt 0)
          have hX_n2_6 := (K9.lt 1)
          have hX_bk := (K9.lt 2)
          have hX_cur := (K9.lt 3)
          go_upto_region 14 with fail
          refine rgF K9 HB9 HB9.size [] [] [(0, 49, .slice (some ⟨bA, 0, none⟩) 16 cA), (1, 50, .int .i64 ((i : Nat) : Int)), (2, 51, .pointer (some ⟨b2_6, 16 * i, none⟩)), (3, 52, .agg (U8 (r)).toArray)] [(5, 0)] [(5, 11)] [⟨4, 53, some 5, PS u9.heap.size 16 (U8 (sX j))⟩, ⟨5, 11, none, PS u9.heap.size 16 (U8 (sX j))⟩] [] (.cons (fun _ _ _ h1 h2 => h2.stab h1) <| .cons (fun _ _ _ h1 h2 => h2.stab h1) <| Stab.nil) ?_ ?_
          · refine oc g_mv ?_
            refine oc g_mv ?_
            refine oc (g_ix (fun uZ => xb11 b2_6 i uZ (by omega))) ?_
            refine oc (g_lR 1 (16 * i) (cs := U8 (r)) (hrow) Tryd.underlying32 (by rw [U8_len, hrl]; exact info__16_uint8)) ?_
            refine oc (g_cM 0 (PS u9.heap.size 16 (U8 (sX j))) ent_seneschalref06_xor (fun fZ uZ kZ sZ bZ => (hxx.out uZ _ (inT (kZ.cv 3) (kZ.lb sZ 3) hal hcA)).mono fun e u2 ⟨v, e1, h1, h2⟩ => ⟨v, e1, h1.mono sZ, h2⟩)) ?_
            exact oc (g_sE 0 1 (PS u9.heap.size 16 (U8 (sX j)))) on
          intro u10 v10_4 hv10_4 v10_5 hv10_5 HB10 sz10 K10
          simp only [fX, nK, nP, Wr.f, aK, pM] at K10
          simp only [setG, setN, setE, List.set_cons_zero, List.set_cons_succ]
          clear K9 HB9
          obtain ⟨bX, cX, rfl, hx1, hx2, hcX, hxC⟩ := hv10_5 rfl
          have hordX : bT < bX ∧ b2_6 < bX ∧ bK < bX := by omega
          clear hX_tab hX_n2_6 hX_bk hX_cur
          have Q7 := (K10.cv 1)
          have QT := (K10.cv 0)
          have QK := (K10.cv 2)
          have q7 := (K10.lt 1)
          have qT := (K10.lt 0)
          have qK := (K10.lt 2)
          have hnK := K10.n
          simp at hnK
          by_cases h0 : j = 0
          · have he1 : decide ((i : Int) < 10) = false := by simp; omega
            have K10_7 : Bk w.heap.size u10 [(false, bT, U8 (tt)), (false, b2_6, U8 (kx)), (false, bK, U8 (bk)), (false, bX, U8 (sX j))] := ⟨.c qT QT <| .c q7 Q7 <| .c qK QK <| .c hx2 hxC <| trivial, by simp <;> omega⟩
            go_upto_region 15 with fail
            refine rgP K10_7 HB10 HB10.size [] [] [(0, 54, .int .i64 ((i : Nat) : Int)), (1, 55, .bool false)] [] [] [] ?_ ?_
            · refine oc g_mv ?_
              exact oc (g_bn (fun uZ => lss_i _ _ (i : Int) 10 false uZ he1)) on
            intro u11 HB11 sz11 K11
            simp only [fX, nK, nP, Wr.f, aK, pM] at K11
            simp only [setG, setN, List.set_cons_zero, List.set_cons_succ]
            clear HB10
            have hse := hsa h0
            rw [hse] at hts hss
            obtain ⟨sv, esv⟩ : ∃ v, sX j = v := ⟨_, rfl⟩
            rw [esv] at hts hss hxl K11
            have hX_tab := (K11.lt 0)
            have hX_n2_6 := (K11.lt 1)
            have hX_bk := (K11.lt 2)
            have hX_xx := (K11.lt 3)
            go_upto_region 17 with fail
            refine rgF K11 HB11 HB11.size [] [] [] [] [] [⟨0, 59, some 1, PF u11.heap.size 16 (U8 (z16))⟩, ⟨1, 13, none, PF u11.heap.size 16 (U8 (z16))⟩] [] (.cons (fun _ _ _ h1 h2 => h2.stab h1) <| .cons (fun _ _ _ h1 h2 => h2.stab h1) <| Stab.nil) ?_ ?_
            · refine oc (g_ms 0 (PF u11.heap.size 16 (U8 (z16))) mk16 (fun u hu => PF.new 16 _ _ u hu)) ?_
              exact oc (g_sE 0 1 (PF u11.heap.size 16 (U8 (z16)))) on
            intro u12 v12_0 hv12_0 v12_1 hv12_1 HB12 sz12 K12
            simp only [fX, nK, nP, Wr.f, aK, pM] at K12
            simp only [setG, setN, setE, List.set_cons_zero, List.set_cons_succ]
            clear K11 HB11
            obtain ⟨bB, rfl, hB1, hB2, hBC⟩ := hv12_1 rfl
            have hAB : bX < bB ∧ bT < bB ∧ b2_6 < bB ∧ bK < bB := by omega
            have K12_8 : Bk w.heap.size u12 [(false, bT, U8 (tt)), (false, b2_6, U8 (kx)), (false, bK, U8 (bk)), (false, bX, U8 (sv)), (true, bB, U8 (z16))] := ⟨.c (K12.lt 0) (K12.cv 0) <| .c (K12.lt 1) (K12.cv 1) <| .c (K12.lt 2) (K12.cv 2) <| .c (K12.lt 3) (K12.cv 3) <| .o hB2 (by omega) hBC <| trivial, by simp <;> omega⟩
            go_upto_region 18 with fail
            refine rgP K12_8 HB12 HB12.size [] [] [(0, 14, (Go.Value.int Go.IntKind.i64 0))] [] [] [] ?_ ?_
            · exact oc g_as on
            intro u13 HB13 sz13 K13
            simp only [fX, nK, nP, Wr.f, aK, pM] at K13
            simp only [setG, setN, List.set_cons_zero, List.set_cons_succ]
            clear HB12
            go_wp2_with fail
            go_loopw [14] (fun s14 wr => ∃ (k : Nat), k ≤ 16 ∧ s14 = .int .i64 (k : Int) ∧ bB < wr.heap.size ∧ Hid (CV wr bB (U8 (tF j k))) ∧ bX < wr.heap.size ∧ Hid (CV wr bX (U8 sv)) ∧ bK < wr.heap.size ∧ Hid (CV wr bK (U8 bk)) ∧ bT < wr.heap.size ∧ Hid (CV wr bT (U8 tt)) ∧ b2_6 < wr.heap.size ∧ Hid (CV wr b2_6 (U8 kx)) ∧ Below w.heap.size w wr) (fun s14 _ => 16 - (intOf s14).toNat)
            case atStart => exact ⟨0, by omega, rfl, (K13.lt 4), (by rw [ht0]; exact (K13.cv 4)), (K13.lt 3), (K13.cv 3), (K13.lt 2), (K13.cv 2), (K13.lt 0), (K13.cv 0), (K13.lt 1), (K13.cv 1), HB13⟩
            case round =>
              clear hB1 hB2 hBC lA KA lK KK lT KT l7 K7x HBr hd1 hx2 hxC QT qT QK qK Q7 q7 hX_tab hX_n2_6 hX_bk hX_xx
              obtain ⟨k, hk, rfl, lB, KB, lS, KS, lK, KK, lT, KT, l7, K7x, HBr⟩ := hrel
              clear HB13
              by_cases hkk : k < 16
              · have hd1 : decide ((k : Int) < 16) = true := by simp; omega
                have hts := hts.out k
                have htl := htl k
                obtain ⟨ts, ets⟩ : ∃ x, tF j k = x := ⟨_, rfl⟩
                rw [ets] at hts htl KB
                obtain ⟨ix, eix⟩ : ∃ x, (k + 4 * (k % 4)) % 16 = x := ⟨_, rfl⟩
                have hix : ix < 16 := by omega
                rw [eix] at hts
                have ga := U8_get sv k (by omega)
                have hx := hss k
                obtain ⟨x, ex⟩ : ∃ v, sv.getD k 0 = v := ⟨_, rfl⟩
                rw [ex] at ga hts hx
                have gt := U8_get bk x (by omega)
                obtain ⟨y, ey⟩ : ∃ v, bk.getD x 0 = v := ⟨_, rfl⟩
                rw [ey] at gt hts
                have gn := U8_get ts ix (by omega)
                obtain ⟨z, ez⟩ : ∃ v, ts.getD ix 0 = v := ⟨_, rfl⟩
                rw [ez] at gn
                have hts : Hid _ := hts
                clear ets ex ey ez
                have hnK := K13.n
                simp at hnK
                have hoK4 := K13.lo 4
                have K13_9 : Bk w.heap.size wr [(false, bT, U8 (tt)), (false, b2_6, U8 (kx)), (false, bK, U8 (bk)), (false, bX, U8 (sv)), (true, bB, U8 (ts))] := ⟨.c lT KT.out <| .c l7 K7x.out <| .c lK KK.out <| .c lS KS.out <| .o lB (K13.lo 4) KB.out <| trivial, by simp <;> omega⟩
                go_upto_region 19 with fail
                refine rgP K13_9 HBr HBr.size [] [] [(0, 60, .int .i64 ((k : Nat) : Int)), (1, 61, .bool true)] [] [] [] ?_ ?_
                · refine oc g_mv ?_
                  exact oc (g_bn (fun uZ => lss_i _ _ (k : Int) 16 true uZ hd1)) on
                intro u14 HB14 sz14 K14
                simp only [fX, nK, nP, Wr.f, aK, pM] at K14
                simp only [setG, setN, List.set_cons_zero, List.set_cons_succ]
                go_upto_region 21 with fail
                refine rgP K14 HB14 HB14.size [.no, .no, .no, .no, .all 15 (U8 (ts.set ix y))] [] [(0, 64, .slice (some ⟨bB, 0, none⟩) 16 16), (1, 65, .int .i64 ((k : Nat) : Int)), (2, 66, .int .i64 ((k : Nat) : Int)), (3, 67, .int .i64 ((k % 4 : Nat) : Int)), (4, 68, .int .i64 ((4 * (k % 4) : Nat) : Int)), (5, 69, .int .i64 ((k + 4 * (k % 4) : Nat) : Int)), (6, 70, .int .i64 ((ix : Nat) : Int)), (7, 71, .slice (some ⟨bK, 0, none⟩) 256 256), (8, 72, .slice (some ⟨bX, 0, none⟩) 16 cX), (9, 73, .int .i64 ((k : Nat) : Int)), (10, 74, .pointer (some ⟨bX, k, none⟩)), (11, 75, .int .u8 ((x : Nat) : Int)), (12, 76, .pointer (some ⟨bK, x, none⟩)), (13, 77, .int .u8 ((y : Nat) : Int)), (14, 78, .pointer (some ⟨bB, ix, none⟩))] [] [] [] ?_ ?_
                · refine oc g_mv ?_
                  refine oc g_mv ?_
                  refine oc g_mv ?_
                  refine oc (g_bn (fun uZ => remi _ _ k 4 uZ (by omega) (by decide))) ?_
                  refine oc (g_bn (fun uZ => muli _ _ 4 (k % 4) (4 * (k % 4)) uZ rfl (by omega))) ?_
                  refine oc (g_bn (fun uZ => add_i _ _ (k : Int) ((4 * (k % 4) : Nat) : Int) ((k + 4 * (k % 4) : Nat) : Int) uZ (by omega) (by omega) (by omega))) ?_
                  refine oc (g_bn (fun uZ => (remi _ _ (k + 4 * (k % 4)) 16 uZ (by omega) (by decide)).trans (by rw [eix]))) ?_
                  refine oc g_mv ?_
                  refine oc g_mv ?_
                  refine oc g_mv ?_
                  refine oc (g_ix (fun uZ => ixs bX 0 16 cX k k uZ hkk (Nat.zero_add _))) ?_
                  refine oc (g_lw 3 (k) l8 (ga)) ?_
                  refine oc (g_ix (fun uZ => ixs8 bK 256 256 x uZ hx)) ?_
                  refine oc (g_lw 2 (x) l8 (gt)) ?_
                  refine oc (g_ix (fun uZ => ixs bB 0 16 16 ix ix uZ hix (Nat.zero_add _))) ?_
                  exact oc (g_sw 4 (ix) s8 (gn) (U8_set _ _ _)) on
                intro u15 HB15 sz15 K15
                simp only [fX, nK, nP, Wr.f, aK, pM] at K15
                simp only [setG, setN, List.set_cons_zero, List.set_cons_succ]
                clear K14 HB14
                go_upto_region 20 with fail
                refine rgP K15 HB15 HB15.size [] [] [(0, 62, .int .i64 ((k : Nat) : Int)), (1, 63, .int .i64 ((k + 1 : Nat) : Int)), (2, 14, .int .i64 ((k + 1 : Nat) : Int))] [(2, 0)] [(2, 14)] [] ?_ ?_
                · refine oc g_mv ?_
                  refine oc (g_bn (fun uZ => add_i _ _ (k : Int) 1 ((k + 1 : Nat) : Int) uZ (by omega) (by omega) (by omega))) ?_
                  exact oc g_as on
                intro u16 HB16 sz16 K16
                simp only [fX, nK, nP, Wr.f, aK, pM] at K16
                simp only [setG, setN, List.set_cons_zero, List.set_cons_succ]
                clear K15 HB15
                go_wp2
                refine ⟨⟨k + 1, by omega, rfl, (K16.lt 4), (by rw [hts.out]; exact (K16.cv 4)), (K16.lt 3), (K16.cv 3), (K16.lt 2), (K16.cv 2), (K16.lt 0), (K16.cv 0), (K16.lt 1), (K16.cv 1), HB16⟩, ?_⟩
                simp [intOf] <;> omega
              · have hd1 : decide ((k : Int) < 16) = false := by simp; omega
                have hk16 : k = 16 := by omega
                subst hk16
                rw [← hDn] at KB
                have hnK := K13.n
                simp at hnK
                have hoK4 := K13.lo 4
                have K13_9 : Bk w.heap.size wr [(false, bT, U8 (tt)), (false, b2_6, U8 (kx)), (false, bK, U8 (bk)), (false, bB, U8 (sD (j + 1)))] := ⟨.c lT KT.out <| .c l7 K7x.out <| .c lK KK.out <| .c lB KB.out <| trivial, by simp <;> omega⟩
                go_upto_region 19 with fail
                refine rgP K13_9 HBr HBr.size [] [] [(0, 60, .int .i64 ((16 : Nat) : Int)), (1, 61, .bool false)] [] [] [] ?_ ?_
                · refine oc g_mv ?_
                  exact oc (g_bn (fun uZ => lss_i _ _ ((16 : Nat) : Int) 16 false uZ hd1)) on
                intro u14 HB14 sz14 K14
                simp only [fX, nK, nP, Wr.f, aK, pM] at K14
                simp only [setG, setN, List.set_cons_zero, List.set_cons_succ]
                go_upto_region 22 with fail
                refine rgP K14 HB14 HB14.size [] [] [(0, 79, .slice (some ⟨bB, 0, none⟩) 16 16), (1, 11, .slice (some ⟨bB, 0, none⟩) 16 16)] [] [] [] ?_ ?_
                · refine oc g_mv ?_
                  exact oc g_as on
                intro u15 HB15 sz15 K15
                simp only [fX, nK, nP, Wr.f, aK, pM] at K15
                simp only [setG, setN, List.set_cons_zero, List.set_cons_succ]
                clear K14 HB14
                go_upto_region 13 with fail
                refine rgP K15 HB15 HB15.size [] [] [(0, 47, .int .i64 ((i : Nat) : Int)), (1, 48, .int .i64 (10 - ((j + 1 : Nat) : Int))), (2, 12, .int .i64 (10 - ((j + 1 : Nat) : Int)))] [(2, 0)] [(2, 12)] [] ?_ ?_
                · refine oc g_mv ?_
                  refine oc (g_bn (fun uZ => sub_i _ _ (i : Int) 1 (10 - ((j + 1 : Nat) : Int)) uZ (by omega) (by omega) (by omega))) ?_
                  exact oc g_as on
                intro u16 HB16 sz16 K16
                simp only [fX, nK, nP, Wr.f, aK, pM] at K16
                simp only [setG, setN, List.set_cons_zero, List.set_cons_succ]
                clear K15 HB15
                go_wp2
                refine ⟨⟨j + 1, bB, 16, by omega, rfl, rfl, Nat.le_refl _, by omega, by omega, by omega, (K16.lt 3), (K16.cv 3), (K16.lt 2), (K16.cv 2), (K16.lt 0), (K16.cv 0), (K16.lt 1), (K16.cv 1), HB16⟩, ?_⟩
                simp [intOf] <;> omega
          · have he1 : decide ((i : Int) < 10) = true := by simp; omega
            have K10_7 : Bk w.heap.size u10 [(false, bT, U8 (tt)), (false, b2_6, U8 (kx)), (false, bK, U8 (bk)), (false, bX, U8 (sX j))] := ⟨.c qT QT <| .c q7 Q7 <| .c qK QK <| .c hx2 hxC <| trivial, by simp <;> omega⟩
            go_upto_region 15 with fail
            refine rgP K10_7 HB10 HB10.size [] [] [(0, 54, .int .i64 ((i : Nat) : Int)), (1, 55, .bool true)] [] [] [] ?_ ?_
            · refine oc g_mv ?_
              exact oc (g_bn (fun uZ => lss_i _ _ (i : Int) 10 true uZ he1)) on
            intro u11 HB11 sz11 K11
            simp only [fX, nK, nP, Wr.f, aK, pM] at K11
            simp only [setG, setN, List.set_cons_zero, List.set_cons_succ]
            clear HB10
            have hX_tab := (K11.lt 0)
            have hX_n2_6 := (K11.lt 1)
            have hX_bk := (K11.lt 2)
            have hX_xx := (K11.lt 3)
            go_upto_region 16 with fail
            refine rgF K11 HB11 HB11.size [] [] [(0, 56, .slice (some ⟨bX, 0, none⟩) 16 cX), (1, 57, .agg (U8 ([14, 11, 13, 9])).toArray)] [(3, 0)] [(3, 11)] [⟨2, 58, some 3, PS u11.heap.size 16 (U8 (sM j))⟩, ⟨3, 11, none, PS u11.heap.size 16 (U8 (sM j))⟩] [] (.cons (fun _ _ _ h1 h2 => h2.stab h1) <| .cons (fun _ _ _ h1 h2 => h2.stab h1) <| Stab.nil) ?_ ?_
            · refine oc g_mv ?_
              refine oc (g_bd (fun uZ => bd4 14 11 13 9 uZ)) ?_
              refine oc (g_cM 0 (PS u11.heap.size 16 (U8 (sM j))) ent_seneschalref06_mix (fun fZ uZ kZ sZ bZ => (hmx.out uZ _ (inT (kZ.cv 3) (kZ.lb sZ 3) hxl hcX)).mono fun e u2 ⟨v, e1, h1, h2⟩ => ⟨v, e1, h1.mono sZ, h2⟩)) ?_
              exact oc (g_sE 0 1 (PS u11.heap.size 16 (U8 (sM j)))) on
            intro u12 v12_2 hv12_2 v12_3 hv12_3 HB12 sz12 K12
            simp only [fX, nK, nP, Wr.f, aK, pM] at K12
            simp only [setG, setN, setE, List.set_cons_zero, List.set_cons_succ]
            clear K11 HB11
            obtain ⟨bM, cM, rfl, hM1, hM2, hcM, hMC⟩ := hv12_3 rfl
            have hordM : bT < bM ∧ b2_6 < bM ∧ bK < bM := by omega
            clear hX_tab hX_n2_6 hX_bk hX_xx
            have hse := hsb h0
            rw [hse] at hts hss
            obtain ⟨sv, esv⟩ : ∃ v, sM j = v := ⟨_, rfl⟩
            rw [esv] at hts hss hml hMC
            have K12_8 : Bk w.heap.size u12 [(false, bT, U8 (tt)), (false, b2_6, U8 (kx)), (false, bK, U8 (bk)), (false, bX, U8 (sX j)), (false, bM, U8 (sv))] := ⟨.c (K12.lt 0) (K12.cv 0) <| .c (K12.lt 1) (K12.cv 1) <| .c (K12.lt 2) (K12.cv 2) <| .c (K12.lt 3) (K12.cv 3) <| .c hM2 hMC <| trivial, by simp <;> omega⟩
            have hX_tab := (K12_8.lt 0)
            have hX_n2_6 := (K12_8.lt 1)
            have hX_bk := (K12_8.lt 2)
            have hX_xx := (K12_8.lt 3)
            have hX_mx := (K12_8.lt 4)
            go_upto_region 17 with fail
            refine rgF K12_8 HB12 HB12.size [] [] [] [] [] [⟨0, 59, some 1, PF u12.heap.size 16 (U8 (z16))⟩, ⟨1, 13, none, PF u12.heap.size 16 (U8 (z16))⟩] [] (.cons (fun _ _ _ h1 h2 => h2.stab h1) <| .cons (fun _ _ _ h1 h2 => h2.stab h1) <| Stab.nil) ?_ ?_
            · refine oc (g_ms 0 (PF u12.heap.size 16 (U8 (z16))) mk16 (fun u hu => PF.new 16 _ _ u hu)) ?_
              exact oc (g_sE 0 1 (PF u12.heap.size 16 (U8 (z16)))) on
            intro u13 v13_0 hv13_0 v13_1 hv13_1 HB13 sz13 K13
            simp only [fX, nK, nP, Wr.f, aK, pM] at K13
            simp only [setG, setN, setE, List.set_cons_zero, List.set_cons_succ]
            clear HB12
            obtain ⟨bB, rfl, hB1, hB2, hBC⟩ := hv13_1 rfl
            have hAB : bM < bB ∧ bT < bB ∧ b2_6 < bB ∧ bK < bB := by omega
            have K13_9 : Bk w.heap.size u13 [(false, bT, U8 (tt)), (false, b2_6, U8 (kx)), (false, bK, U8 (bk)), (false, bX, U8 (sX j)), (false, bM, U8 (sv)), (true, bB, U8 (z16))] := ⟨.c (K13.lt 0) (K13.cv 0) <| .c (K13.lt 1) (K13.cv 1) <| .c (K13.lt 2) (K13.cv 2) <| .c (K13.lt 3) (K13.cv 3) <| .c (K13.lt 4) (K13.cv 4) <| .o hB2 (by omega) hBC <| trivial, by simp <;> omega⟩
            go_upto_region 18 with fail
            refine rgP K13_9 HB13 HB13.size [] [] [(0, 14, (Go.Value.int Go.IntKind.i64 0))] [] [] [] ?_ ?_
            · exact oc g_as on
            intro u14 HB14 sz14 K14
            simp only [fX, nK, nP, Wr.f, aK, pM] at K14
            simp only [setG, setN, List.set_cons_zero, List.set_cons_succ]
            clear HB13
            go_wp2_with fail
            go_loopw [14] (fun s14 wr => ∃ (k : Nat), k ≤ 16 ∧ s14 = .int .i64 (k : Int) ∧ bB < wr.heap.size ∧ Hid (CV wr bB (U8 (tF j k))) ∧ bM < wr.heap.size ∧ Hid (CV wr bM (U8 sv)) ∧ bK < wr.heap.size ∧ Hid (CV wr bK (U8 bk)) ∧ bT < wr.heap.size ∧ Hid (CV wr bT (U8 tt)) ∧ b2_6 < wr.heap.size ∧ Hid (CV wr b2_6 (U8 kx)) ∧ Below w.heap.size w wr) (fun s14 _ => 16 - (intOf s14).toNat)
            case atStart => exact ⟨0, by omega, rfl, (K14.lt 5), (by rw [ht0]; exact (K14.cv 5)), (K14.lt 4), (K14.cv 4), (K14.lt 2), (K14.cv 2), (K14.lt 0), (K14.cv 0), (K14.lt 1), (K14.cv 1), HB14⟩
            case round =>
              clear hB1 hB2 hBC lA KA lK KK lT KT l7 K7x HBr hd1 hx2 hxC QT qT QK qK Q7 q7 hM1 hM2 hMC hX_tab hX_n2_6 hX_bk hX_xx hX_mx
              obtain ⟨k, hk, rfl, lB, KB, lS, KS, lK, KK, lT, KT, l7, K7x, HBr⟩ := hrel
              clear HB14
              by_cases hkk : k < 16
              · have hd1 : decide ((k : Int) < 16) = true := by simp; omega
                have hts := hts.out k
                have htl := htl k
                obtain ⟨ts, ets⟩ : ∃ x, tF j k = x := ⟨_, rfl⟩
                rw [ets] at hts htl KB
                obtain ⟨ix, eix⟩ : ∃ x, (k + 4 * (k % 4)) % 16 = x := ⟨_, rfl⟩
                have hix : ix < 16 := by omega
                rw [eix] at hts
                have ga := U8_get sv k (by omega)
                have hx := hss k
                obtain ⟨x, ex⟩ : ∃ v, sv.getD k 0 = v := ⟨_, rfl⟩
                rw [ex] at ga hts hx
                have gt := U8_get bk x (by omega)
                obtain ⟨y, ey⟩ : ∃ v, bk.getD x 0 = v := ⟨_, rfl⟩
                rw [ey] at gt hts
                have gn := U8_get ts ix (by omega)
                obtain ⟨z, ez⟩ : ∃ v, ts.getD ix 0 = v := ⟨_, rfl⟩
                rw [ez] at gn
                have hts : Hid _ := hts
                clear ets ex ey ez
                have hnK := K14.n
                simp at hnK
                have hoK5 := K14.lo 5
                have K14_10 : Bk w.heap.size wr [(false, bT, U8 (tt)), (false, b2_6, U8 (kx)), (false, bK, U8 (bk)), (false, bM, U8 (sv)), (true, bB, U8 (ts))] := ⟨.c lT KT.out <| .c l7 K7x.out <| .c lK KK.out <| .c lS KS.out <| .o lB (K14.lo 5) KB.out <| trivial, by simp <;> omega⟩
                go_upto_region 19 with fail
                refine rgP K14_10 HBr HBr.size [] [] [(0, 60, .int .i64 ((k : Nat) : Int)), (1, 61, .bool true)] [] [] [] ?_ ?_
                · refine oc g_mv ?_
                  exact oc (g_bn (fun uZ => lss_i _ _ (k : Int) 16 true uZ hd1)) on
                intro u15 HB15 sz15 K15
                simp only [fX, nK, nP, Wr.f, aK, pM] at K15
                simp only [setG, setN, List.set_cons_zero, List.set_cons_succ]
                go_upto_region 21 with fail
                refine rgP K15 HB15 HB15.size [.no, .no, .no, .no, .all 15 (U8 (ts.set ix y))] [] [(0, 64, .slice (some ⟨bB, 0, none⟩) 16 16), (1, 65, .int .i64 ((k : Nat) : Int)), (2, 66, .int .i64 ((k : Nat) : Int)), (3, 67, .int .i64 ((k % 4 : Nat) : Int)), (4, 68, .int .i64 ((4 * (k % 4) : Nat) : Int)), (5, 69, .int .i64 ((k + 4 * (k % 4) : Nat) : Int)), (6, 70, .int .i64 ((ix : Nat) : Int)), (7, 71, .slice (some ⟨bK, 0, none⟩) 256 256), (8, 72, .slice (some ⟨bM, 0, none⟩) 16 cM), (9, 73, .int .i64 ((k : Nat) : Int)), (10, 74, .pointer (some ⟨bM, k, none⟩)), (11, 75, .int .u8 ((x : Nat) : Int)), (12, 76, .pointer (some ⟨bK, x, none⟩)), (13, 77, .int .u8 ((y : Nat) : Int)), (14, 78, .pointer (some ⟨bB, ix, none⟩))] [] [] [] ?_ ?_
                · refine oc g_mv ?_
                  refine oc g_mv ?_
                  refine oc g_mv ?_
                  refine oc (g_bn (fun uZ => remi _ _ k 4 uZ (by omega) (by decide))) ?_
                  refine oc (g_bn (fun uZ => muli _ _ 4 (k % 4) (4 * (k % 4)) uZ rfl (by omega))) ?_
                  refine oc (g_bn (fun uZ => add_i _ _ (k : Int) ((4 * (k % 4) : Nat) : Int) ((k + 4 * (k % 4) : Nat) : Int) uZ (by omega) (by omega) (by omega))) ?_
                  refine oc (g_bn (fun uZ => (remi _ _ (k + 4 * (k % 4)) 16 uZ (by omega) (by decide)).trans (by rw [eix]))) ?_
                  refine oc g_mv ?_
                  refine oc g_mv ?_
                  refine oc g_mv ?_
                  refine oc (g_ix (fun uZ => ixs bM 0 16 cM k k uZ hkk (Nat.zero_add _))) ?_
                  refine oc (g_lw 3 (k) l8 (ga)) ?_
                  refine oc (g_ix (fun uZ => ixs8 bK 256 256 x uZ hx)) ?_
                  refine oc (g_lw 2 (x) l8 (gt)) ?_
                  refine oc (g_ix (fun uZ => ixs bB 0 16 16 ix ix uZ hix (Nat.zero_add _))) ?_
                  exact oc (g_sw 4 (ix) s8 (gn) (U8_set _ _ _)) on
                intro u16 HB16 sz16 K16
                simp only [fX, nK, nP, Wr.f, aK, pM] at K16
                simp only [setG, setN, List.set_cons_zero, List.set_cons_succ]
                clear K15 HB15
                go_upto_region 20 with fail
                refine rgP K16 HB16 HB16.size [] [] [(0, 62, .int .i64 ((k : Nat) : Int)), (1, 63, .int .i64 ((k + 1 : Nat) : Int)), (2, 14, .int .i64 ((k + 1 : Nat) : Int))] [(2, 0)] [(2, 14)] [] ?_ ?_
                · refine oc g_mv ?_
                  refine oc (g_bn (fun uZ => add_i _ _ (k : Int) 1 ((k + 1 : Nat) : Int) uZ (by omega) (by omega) (by omega))) ?_
                  exact oc g_as on
                intro u17 HB17 sz17 K17
                simp only [fX, nK, nP, Wr.f, aK, pM] at K17
                simp only [setG, setN, List.set_cons_zero, List.set_cons_succ]
                clear K16 HB16
                go_wp2
                refine ⟨⟨k + 1, by omega, rfl, (K17.lt 4), (by rw [hts.out]; exact (K17.cv 4)), (K17.lt 3), (K17.cv 3), (K17.lt 2), (K17.cv 2), (K17.lt 0), (K17.cv 0), (K17.lt 1), (K17.cv 1), HB17⟩, ?_⟩
                simp [intOf] <;> omega
              · have hd1 : decide ((k : Int) < 16) = false := by simp; omega
                have hk16 : k = 16 := by omega
                subst hk16
                rw [← hDn] at KB
                have hnK := K14.n
                simp at hnK
                have hoK5 := K14.lo 5
                have K14_10 : Bk w.heap.size wr [(false, bT, U8 (tt)), (false, b2_6, U8 (kx)), (false, bK, U8 (bk)), (false, bB, U8 (sD (j + 1)))] := ⟨.c lT KT.out <| .c l7 K7x.out <| .c lK KK.out <| .c lB KB.out <| trivial, by simp <;> omega⟩
                go_upto_region 19 with fail
                refine rgP K14_10 HBr HBr.size [] [] [(0, 60, .int .i64 ((16 : Nat) : Int)), (1, 61, .bool false)] [] [] [] ?_ ?_
                · refine oc g_mv ?_
                  exact oc (g_bn (fun uZ => lss_i _ _ ((16 : Nat) : Int) 16 false uZ hd1)) on
                intro u15 HB15 sz15 K15
                simp only [fX, nK, nP, Wr.f, aK, pM] at K15
                simp only [setG, setN, List.set_cons_zero, List.set_cons_succ]
                go_upto_region 22 with fail
                refine rgP K15 HB15 HB15.size [] [] [(0, 79, .slice (some ⟨bB, 0, none⟩) 16 16), (1, 11, .slice (some ⟨bB, 0, none⟩) 16 16)] [] [] [] ?_ ?_
                · refine oc g_mv ?_
                  exact oc g_as on
                intro u16 HB16 sz16 K16
                simp only [fX, nK, nP, Wr.f, aK, pM] at K16
                simp only [setG, setN, List.set_cons_zero, List.set_cons_succ]
                clear K15 HB15
                go_upto_region 13 with fail
                refine rgP K16 HB16 HB16.size [] [] [(0, 47, .int .i64 ((i : Nat) : Int)), (1, 48, .int .i64 (10 - ((j + 1 : Nat) : Int))), (2, 12, .int .i64 (10 - ((j + 1 : Nat) : Int)))] [(2, 0)] [(2, 12)] [] ?_ ?_
                · refine oc g_mv ?_
                  refine oc (g_bn (fun uZ => sub_i _ _ (i : Int) 1 (10 - ((j + 1 : Nat) : Int)) uZ (by omega) (by omega) (by omega))) ?_
                  exact oc g_as on
                intro u17 HB17 sz17 K17
                simp only [fX, nK, nP, Wr.f, aK, pM] at K17
                simp only [setG, setN, List.set_cons_zero, List.set_cons_succ]
                clear K16 HB16
                go_wp2
                refine ⟨⟨j + 1, bB, 16, by omega, rfl, rfl, Nat.le_refl _, by omega, by omega, by omega, (K17.lt 3), (K17.cv 3), (K17.lt 2), (K17.cv 2), (K17.lt 0), (K17.cv 0), (K17.lt 1), (K17.cv 1), HB17⟩, ?_⟩
                simp [intOf] <;> omega
        · have hj10' : j = 10 := by omega
          subst hj10'
          have hd1 : decide ((1 : Int) ≤ 10 - ((10 : Nat) : Int)) = false := by decide
          have hal := hDl.out 10
          have hrl := hRl.out 0
          have hrow := hRow.out 0 (by decide)
          have hxx := hXe.out
          obtain ⟨r, er⟩ : ∃ x, sR 0 = x := ⟨_, rfl⟩
          rw [er] at hrl hrow hxx
          have hxx : Hid _ := hxx
          clear er
          have hnK := K8.n
          simp at hnK
          have K8_6 : Bk w.heap.size wr [(false, b2_6, U8 (kx)), (false, bA, U8 (sD 10))] := ⟨.c l7 K7x.out <| .c lA KA.out <| trivial, by simp <;> omega⟩
          go_upto_region 12 with fail
          refine rgP K8_6 HBr HBr.size [] [] [(0, 45, .int .i64 (10 - ((10 : Nat) : Int))), (1, 46, .bool false)] [] [] [] ?_ ?_
          · refine oc g_mv ?_
            exact oc (g_bn (fun uZ => geq_z _ _ (10 - ((10 : Nat) : Int)) 1 false uZ hd1)) on
          intro u9 HB9 sz9 K9
          simp only [fX, nK, nP, Wr.f, aK, pM] at K9
          simp only [setG, setN, List.set_cons_zero, List.set_cons_succ]
          have hszF := HB9.size
          go_upto_region 23 with fail
          refine rgF K9 HB9 HB9.size [] [] [(0, 80, .slice (some ⟨bA, 0, none⟩) 16 cA), (1, 81, .pointer (some ⟨b2_6, 0, none⟩)), (2, 82, .agg (U8 (r)).toArray), (5, 5, (Go.Value.int Go.IntKind.i64 0))] [] [] [⟨3, 83, some 4, PS u9.heap.size 16 (U8 (re))⟩, ⟨4, 4, none, PS u9.heap.size 16 (U8 (re))⟩] [] (.cons (fun _ _ _ h1 h2 => h2.stab h1) <| .cons (fun _ _ _ h1 h2 => h2.stab h1) <| Stab.nil) ?_ ?_
          · refine oc g_mv ?_
            refine oc (g_ix (fun uZ => xb11 b2_6 0 uZ (by decide))) ?_
            refine oc (g_lR 0 (0) (cs := U8 (r)) (hrow) Tryd.underlying32 (by rw [U8_len, hrl]; exact info__16_uint8)) ?_
            refine oc (g_cM 0 (PS u9.heap.size 16 (U8 (re))) ent_seneschalref06_xor (fun fZ uZ kZ sZ bZ => (hxx.out uZ _ (inT (kZ.cv 1) (kZ.lb sZ 1) hal hcA)).mono fun e u2 ⟨v, e1, h1, h2⟩ => ⟨v, e1, h1.mono sZ, h2⟩)) ?_
            refine oc (g_sE 0 1 (PS u9.heap.size 16 (U8 (re)))) ?_
            exact oc g_as on
          intro u10 v10_3 hv10_3 v10_4 hv10_4 HB10 sz10 K10
          simp only [fX, nK, nP, Wr.f, aK, pM] at K10
          simp only [setG, setN, setE, List.set_cons_zero, List.set_cons_succ]
          clear K9 HB9
          have hz := hv10_4 rfl
          go_wp2
          refine bodyPost_ret (v := .tuple #[v10_4, .int .i64 0]) (by simp [results, Tryd.results18, go_sem]) rfl ⟨_, rfl, ⟨_, rfl, hz.mono hszF⟩, HB10⟩
end Go.Proofs.YtlcjbnhfmcnnfaaDoor
