/- The reference's encrypting of a block. -/
import Derived.Test.YtlcjbnhfmcnnfaaDoorAR5
namespace Go.Proofs.YtlcjbnhfmcnnfaaDoor
open Go.RowKit
set_option linter.unusedVariables false
set_option linter.unusedSimpArgs false
theorem leq_z (p q : Operand) (x y : Int) (b : Bool) (w : World) (h : decide (x ≤ y) = b) : (do eqGuard .leq 3 p q (.int .i64 x) (.int .i64 y); binOp .leq 3 (.int .i64 x) (.int .i64 y) : Sem Value).run Tryd.prog w = .ok (.bool b) w := by
  subst h; go_simp
set_option maxRecDepth 100000 in
set_option maxHeartbeats 8000000 in
theorem cEncR_k (vk vb : Value) (tt : List Nat) (w : World) (hz176 : z176.length = 176) (htt : tt.length = 256) (hTb : Hid (∀ u, Calls Tryd.prog 12 #[] u fun e u' => ∃ v, e = .returned v ∧ PS u.heap.size 256 (U8 (tt)) u' v ∧ Below u.heap.size u u')) (hKB : Hid (∀ u y, Below w.heap.size w u → IN u u.heap.size y tt → Calls Tryd.prog 25 #[y, vk] u fun e u' => e = .returned (.tuple #[.agg (U8 (z176)).toArray, .int .i64 2]) ∧ Below u.heap.size u u')) :
    Calls Tryd.prog 16 #[vk, vb] w fun e w' => e = .returned (.tuple #[.slice none 0 0, .int .i64 2]) ∧ Below w.heap.size w w' := by
  go_enter Tryd.func16, Tryd.ntmps16
  have HB0 : Below w.heap.size w w := Below.refl _ _
  have K0_1 := Bk.nil (w.heap.size) w
  go_upto_region 1 with fail
  refine rgF K0_1 HB0 HB0.size [] [] [] [] [] [⟨0, 13, some 1, PS w.heap.size 256 (U8 (tt))⟩, ⟨1, 6, none, PS w.heap.size 256 (U8 (tt))⟩] [] (.cons (fun _ _ _ h1 h2 => h2.stab h1) <| .cons (fun _ _ _ h1 h2 => h2.stab h1) <| Stab.nil) ?_ ?_
  · refine oc (g_cE 0 (PS w.heap.size 256 (U8 (tt))) ent_seneschalref06_Table (fun u hB hs => (hTb.out u).mono fun e u2 ⟨v, e1, h1, h2⟩ => ⟨v, e1, h1.mono hs, h2⟩)) ?_
    exact oc (g_sE 0 1 (PS w.heap.size 256 (U8 (tt)))) on
  intro u1 v1_0 hv1_0 v1_1 hv1_1 HB1 sz1 K1
  simp only [fX, nK, nP, Wr.f, aK, pM] at K1
  simp only [setG, setN, setE, List.set_cons_zero, List.set_cons_succ]
  clear HB0
  obtain ⟨bT, cT, rfl, hT1, hT2, hcT, hTC⟩ := hv1_1 rfl
  have K1_2 : Bk w.heap.size u1 [(false, bT, U8 (tt))] := ⟨.c hT2 hTC <| trivial, by simp⟩
  have hltT := (K1_2.lt 0)
  go_upto_region 2 with fail
  refine rgP K1_2 HB1 HB1.size [] [(6, 7, U8 (z176), some (7, U8 (z176)))] [(0, 15, .slice (some ⟨bT, 0, none⟩) 256 cT), (1, 16, vk), (2, 17, .tuple #[.agg (U8 (z176)).toArray, .int .i64 2]), (3, 14, .tuple #[.agg (U8 (z176)).toArray, .int .i64 2]), (4, 18, .agg (U8 (z176)).toArray), (5, 19, .int .i64 2), (8, 8, .int .i64 2)] [(7, 6)] [] [] ?_ ?_
  · refine oc g_mv ?_
    refine oc g_mv ?_
    refine oc (g_cK ent_seneschalref06_keysBy (fun fZ uZ kZ sZ bZ => hKB.out uZ _ bZ (inT (kZ.cv 0) (kZ.lb sZ 0) htt hcT))) ?_
    refine oc g_mv ?_
    refine oc g_ex ?_
    refine oc g_ex ?_
    refine oc (g_al 0 al__11__16_uint8) ?_
    refine oc (g_sn 0 info__11__16_uint8 (h1 := U8_one _) (hm := by rw [U8_len, hz176]) (hl := by first | rw [U8_len, U8_len, hz176, show z176.length = 176 from hz176] | rfl)) ?_
    exact oc g_as on
  intro u2 b2_6 HB2 sz2 K2
  simp only [fX, nK, nP, Wr.f, aK, pM] at K2
  simp only [setG, setN, List.set_cons_zero, List.set_cons_succ]
  clear HB1
  go_upto_region 3 with fail
  refine rgP K2 HB2 HB2.size [] [] [(0, 20, .int .i64 2), (1, 21, .bool true), (2, 22, .bool true), (3, 23, undef), (4, 24, undef), (5, 25, undef), (6, 26, (Go.Value.bool Bool.true))] [] [] [] ?_ ?_
  · refine oc g_mv ?_
    refine oc (g_bn (fun uZ => neq_e _ _ 2 0 true uZ (by decide))) ?_
    refine oc g_mv ?_
    refine oc g_sk ?_
    refine oc g_sk ?_
    refine oc g_sk ?_
    exact oc g_pk on
  intro u3 HB3 sz3 K3
  simp only [fX, nK, nP, Wr.f, aK, pM] at K3
  simp only [setG, setN, List.set_cons_zero, List.set_cons_succ]
  clear K2 HB2
  go_upto_region 4 with fail
  refine rgP K3 HB3 HB3.size [] [] [(0, 4, (Go.Value.slice Option.none 0 0)), (1, 5, (Go.Value.int Go.IntKind.i64 2))] [] [] [] ?_ ?_
  · refine oc g_as ?_
    exact oc g_as on
  intro u4 HB4 sz4 K4
  simp only [fX, nK, nP, Wr.f, aK, pM] at K4
  simp only [setG, setN, List.set_cons_zero, List.set_cons_succ]
  clear K3 HB3
  go_wp2
  refine bodyPost_ret (v := .tuple #[.slice none 0 0, .int .i64 2]) (by simp [results, Tryd.results16, go_sem, ]) rfl ⟨rfl, HB4⟩
set_option maxRecDepth 100000 in
set_option maxHeartbeats 8000000 in
theorem cEncR_b (vk : Value) (kx tt : List Nat) (sl : Option Addr) (n cap : Nat) (w : World) (hz176 : z176.length = 176) (hkx : kx.length = 176) (hn : decide ((n : Int) ≠ 16) = true) (htt : tt.length = 256) (hTb : Hid (∀ u, Calls Tryd.prog 12 #[] u fun e u' => ∃ v, e = .returned v ∧ PS u.heap.size 256 (U8 (tt)) u' v ∧ Below u.heap.size u u')) (hKB : Hid (∀ u y, Below w.heap.size w u → IN u u.heap.size y tt → Calls Tryd.prog 25 #[y, vk] u fun e u' => e = .returned (.tuple #[.agg (U8 (kx)).toArray, .int .i64 0]) ∧ Below u.heap.size u u')) :
    Calls Tryd.prog 16 #[vk, (.slice sl n cap)] w fun e w' => e = .returned (.tuple #[.slice none 0 0, .int .i64 2]) ∧ Below w.heap.size w w' := by
  go_enter Tryd.func16, Tryd.ntmps16
  have HB0 : Below w.heap.size w w := Below.refl _ _
  have K0_1 := Bk.nil (w.heap.size) w
  go_upto_region 1 with fail
  refine rgF K0_1 HB0 HB0.size [] [] [] [] [] [⟨0, 13, some 1, PS w.heap.size 256 (U8 (tt))⟩, ⟨1, 6, none, PS w.heap.size 256 (U8 (tt))⟩] [] (.cons (fun _ _ _ h1 h2 => h2.stab h1) <| .cons (fun _ _ _ h1 h2 => h2.stab h1) <| Stab.nil) ?_ ?_
  · refine oc (g_cE 0 (PS w.heap.size 256 (U8 (tt))) ent_seneschalref06_Table (fun u hB hs => (hTb.out u).mono fun e u2 ⟨v, e1, h1, h2⟩ => ⟨v, e1, h1.mono hs, h2⟩)) ?_
    exact oc (g_sE 0 1 (PS w.heap.size 256 (U8 (tt)))) on
  intro u1 v1_0 hv1_0 v1_1 hv1_1 HB1 sz1 K1
  simp only [fX, nK, nP, Wr.f, aK, pM] at K1
  simp only [setG, setN, setE, List.set_cons_zero, List.set_cons_succ]
  clear HB0
  obtain ⟨bT, cT, rfl, hT1, hT2, hcT, hTC⟩ := hv1_1 rfl
  have K1_2 : Bk w.heap.size u1 [(false, bT, U8 (tt))] := ⟨.c hT2 hTC <| trivial, by simp⟩
  have hltT := (K1_2.lt 0)
  go_upto_region 2 with fail
  refine rgP K1_2 HB1 HB1.size [] [(6, 7, U8 (z176), some (7, U8 (kx)))] [(0, 15, .slice (some ⟨bT, 0, none⟩) 256 cT), (1, 16, vk), (2, 17, .tuple #[.agg (U8 (kx)).toArray, .int .i64 0]), (3, 14, .tuple #[.agg (U8 (kx)).toArray, .int .i64 0]), (4, 18, .agg (U8 (kx)).toArray), (5, 19, .int .i64 0), (8, 8, .int .i64 0)] [(7, 6)] [] [] ?_ ?_
  · refine oc g_mv ?_
    refine oc g_mv ?_
    refine oc (g_cK ent_seneschalref06_keysBy (fun fZ uZ kZ sZ bZ => hKB.out uZ _ bZ (inT (kZ.cv 0) (kZ.lb sZ 0) htt hcT))) ?_
    refine oc g_mv ?_
    refine oc g_ex ?_
    refine oc g_ex ?_
    refine oc (g_al 0 al__11__16_uint8) ?_
    refine oc (g_sn 0 info__11__16_uint8 (h1 := U8_one _) (hm := by rw [U8_len, hkx]) (hl := by first | rw [U8_len, U8_len, hkx, show z176.length = 176 from hz176] | rfl)) ?_
    exact oc g_as on
  intro u2 b2_6 HB2 sz2 K2
  simp only [fX, nK, nP, Wr.f, aK, pM] at K2
  simp only [setG, setN, List.set_cons_zero, List.set_cons_succ]
  clear HB1
  go_upto_region 3 with fail
  refine rgP K2 HB2 HB2.size [] [] [(0, 20, .int .i64 0), (1, 21, .bool false), (2, 22, .bool false), (3, 23, (.slice sl n cap)), (4, 24, .int .i64 (n : Int)), (5, 25, .bool true), (6, 26, .bool true)] [] [] [] ?_ ?_
  · refine oc g_mv ?_
    refine oc (g_bn (fun uZ => neq_e _ _ 0 0 false uZ (by decide))) ?_
    refine oc g_mv ?_
    refine oc g_mv ?_
    refine oc (g_ln Tryd.underlying24) ?_
    refine oc (g_bn (fun uZ => neq_i _ _ (n : Int) 16 true uZ hn)) ?_
    exact oc g_pk on
  intro u3 HB3 sz3 K3
  simp only [fX, nK, nP, Wr.f, aK, pM] at K3
  simp only [setG, setN, List.set_cons_zero, List.set_cons_succ]
  clear K2 HB2
  go_upto_region 4 with fail
  refine rgP K3 HB3 HB3.size [] [] [(0, 4, (Go.Value.slice Option.none 0 0)), (1, 5, (Go.Value.int Go.IntKind.i64 2))] [] [] [] ?_ ?_
  · refine oc g_as ?_
    exact oc g_as on
  intro u4 HB4 sz4 K4
  simp only [fX, nK, nP, Wr.f, aK, pM] at K4
  simp only [setG, setN, List.set_cons_zero, List.set_cons_succ]
  clear K3 HB3
  go_wp2
  refine bodyPost_ret (v := .tuple #[.slice none 0 0, .int .i64 2]) (by simp [results, Tryd.results16, go_sem, ]) rfl ⟨rfl, HB4⟩
set_option maxRecDepth 100000 in
set_option maxHeartbeats 8000000 in
theorem cEncR_s (vk : Value) (kx tt : List Nat) (sl : Option Addr) (cap : Nat) (sE sR sM : Nat → List Nat) (tF : Nat → Nat → List Nat) (w : World) (hz176 : z176.length = 176) (hkx : kx.length = 176) (htt : tt.length = 256) (hTb : Hid (∀ u, Calls Tryd.prog 12 #[] u fun e u' => ∃ v, e = .returned v ∧ PS u.heap.size 256 (U8 (tt)) u' v ∧ Below u.heap.size u u')) (hKB : Hid (∀ u y, Below w.heap.size w u → IN u u.heap.size y tt → Calls Tryd.prog 25 #[y, vk] u fun e u' => e = .returned (.tuple #[.agg (U8 (kx)).toArray, .int .i64 0]) ∧ Below u.heap.size u u')) (hRl : Hid (∀ i, (sR i).length = 16)) (hRow : Hid (∀ i, i ≤ 10 → ∀ j v, (U8 (sR i))[j]? = some v → (U8 kx)[16 * i + j]? = some v))
    (hX0 : Hid (∀ u, Below w.heap.size w u → Calls Tryd.prog 26 #[(.slice sl 16 cap), .agg (U8 (sR 0)).toArray] u fun e u' => ∃ v, e = .returned v ∧ PS u.heap.size 16 (U8 (sE 0)) u' v ∧ Below u.heap.size u u')) (hEl : Hid (∀ j, (sE j).length = 16)) (hEb : Hid (∀ j k, (sE j).getD k 0 < 256)) (hMl : Hid (∀ j, (sM j).length = 16))
    (hF0 : Hid (∀ j, tF j 0 = z16)) (hFs : Hid (∀ j k, tF j (k + 1) = (tF j k).set k (tt.getD ((sE j).getD ((k + 4 * (k % 4)) % 16) 0) 0))) (hFl : Hid (∀ j k, (tF j k).length = 16))
    (hMx : Hid (∀ j, j < 9 → ∀ u v, IN u u.heap.size v (tF j 16) → Calls Tryd.prog 27 #[v, .agg (U8 ([2, 3, 1, 1])).toArray] u fun e u' => ∃ v, e = .returned v ∧ PS u.heap.size 16 (U8 (sM j)) u' v ∧ Below u.heap.size u u')) (hXa : Hid (∀ j, j < 9 → ∀ u v, IN u u.heap.size v (sM j) → Calls Tryd.prog 26 #[v, .agg (U8 (sR (j + 1))).toArray] u fun e u' => ∃ v, e = .returned v ∧ PS u.heap.size 16 (U8 (sE (j + 1))) u' v ∧ Below u.heap.size u u')) (hXb : Hid (∀ j, j = 9 → ∀ u v, IN u u.heap.size v (tF j 16) → Calls Tryd.prog 26 #[v, .agg (U8 (sR (j + 1))).toArray] u fun e u' => ∃ v, e = .returned v ∧ PS u.heap.size 16 (U8 (sE (j + 1))) u' v ∧ Below u.heap.size u u')) :
    Calls Tryd.prog 16 #[vk, (.slice sl 16 cap)] w fun e w' => ∃ v, e = .returned v ∧ PT 0 w.heap.size 16 (U8 (sE 10)) w' v ∧ Below w.heap.size w w' := by
  go_enter Tryd.func16, Tryd.ntmps16
  have HB0 : Below w.heap.size w w := Below.refl _ _
  have K0_1 := Bk.nil (w.heap.size) w
  go_upto_region 1 with fail
  refine rgF K0_1 HB0 HB0.size [] [] [] [] [] [⟨0, 13, some 1, PS w.heap.size 256 (U8 (tt))⟩, ⟨1, 6, none, PS w.heap.size 256 (U8 (tt))⟩] [] (.cons (fun _ _ _ h1 h2 => h2.stab h1) <| .cons (fun _ _ _ h1 h2 => h2.stab h1) <| Stab.nil) ?_ ?_
  · refine oc (g_cE 0 (PS w.heap.size 256 (U8 (tt))) ent_seneschalref06_Table (fun u hB hs => (hTb.out u).mono fun e u2 ⟨v, e1, h1, h2⟩ => ⟨v, e1, h1.mono hs, h2⟩)) ?_
    exact oc (g_sE 0 1 (PS w.heap.size 256 (U8 (tt)))) on
  intro u1 v1_0 hv1_0 v1_1 hv1_1 HB1 sz1 K1
  simp only [fX, nK, nP, Wr.f, aK, pM] at K1
  simp only [setG, setN, setE, List.set_cons_zero, List.set_cons_succ]
  clear HB0
  obtain ⟨bT, cT, rfl, hT1, hT2, hcT, hTC⟩ := hv1_1 rfl
  have K1_2 : Bk w.heap.size u1 [(false, bT, U8 (tt))] := ⟨.c hT2 hTC <| trivial, by simp⟩
  have hltT := (K1_2.lt 0)
  go_upto_region 2 with fail
  refine rgP K1_2 HB1 HB1.size [] [(6, 7, U8 (z176), some (7, U8 (kx)))] [(0, 15, .slice (some ⟨bT, 0, none⟩) 256 cT), (1, 16, vk), (2, 17, .tuple #[.agg (U8 (kx)).toArray, .int .i64 0]), (3, 14, .tuple #[.agg (U8 (kx)).toArray, .int .i64 0]), (4, 18, .agg (U8 (kx)).toArray), (5, 19, .int .i64 0), (8, 8, .int .i64 0)] [(7, 6)] [] [] ?_ ?_
  · refine oc g_mv ?_
    refine oc g_mv ?_
    refine oc (g_cK ent_seneschalref06_keysBy (fun fZ uZ kZ sZ bZ => hKB.out uZ _ bZ (inT (kZ.cv 0) (kZ.lb sZ 0) htt hcT))) ?_
    refine oc g_mv ?_
    refine oc g_ex ?_
    refine oc g_ex ?_
    refine oc (g_al 0 al__11__16_uint8) ?_
    refine oc (g_sn 0 info__11__16_uint8 (h1 := U8_one _) (hm := by rw [U8_len, hkx]) (hl := by first | rw [U8_len, U8_len, hkx, show z176.length = 176 from hz176] | rfl)) ?_
    exact oc g_as on
  intro u2 b2_6 HB2 sz2 K2
  simp only [fX, nK, nP, Wr.f, aK, pM] at K2
  simp only [setG, setN, List.set_cons_zero, List.set_cons_succ]
  clear HB1
  go_upto_region 3 with fail
  refine rgP K2 HB2 HB2.size [] [] [(0, 20, .int .i64 0), (1, 21, .bool false), (2, 22, .bool false), (3, 23, (.slice sl 16 cap)), (4, 24, .int .i64 ((16 : Nat) : Int)), (5, 25, .bool false), (6, 26, .bool false)] [] [] [] ?_ ?_
  · refine oc g_mv ?_
    refine oc (g_bn (fun uZ => neq_e _ _ 0 0 false uZ (by decide))) ?_
    refine oc g_mv ?_
    refine oc g_mv ?_
    refine oc (g_ln Tryd.underlying24) ?_
    refine oc (g_bn (fun uZ => neq_i _ _ ((16 : Nat) : Int) 16 false uZ (by decide))) ?_
    exact oc g_pk on
  intro u3 HB3 sz3 K3
  simp only [fX, nK, nP, Wr.f, aK, pM] at K3
  simp only [setG, setN, List.set_cons_zero, List.set_cons_succ]
  clear K2 HB2
  have hne7 := K3.n
  simp at hne7
  have hr0 := hRl.out 0
  have hx0 := hX0.out
  have hrow0 := hRow.out 0 (by decide)
  obtain ⟨r0, er0⟩ : ∃ r, sR 0 = r := ⟨_, rfl⟩
  rw [er0] at hr0 hx0 hrow0
  have hx0 : Hid _ := hx0
  clear er0
  have hX_tab := (K3.lt 0)
  have hX_n2_6 := (K3.lt 1)
  go_upto_region 5 with fail
  refine rgF K3 HB3 HB3.size [] [] [(0, 27, (.slice sl 16 cap)), (1, 28, .pointer (some ⟨b2_6, 0, none⟩)), (2, 29, .agg (U8 (r0)).toArray)] [] [] [⟨3, 30, some 4, PS u3.heap.size 16 (U8 (sE 0))⟩, ⟨4, 9, none, PS u3.heap.size 16 (U8 (sE 0))⟩] [] (.cons (fun _ _ _ h1 h2 => h2.stab h1) <| .cons (fun _ _ _ h1 h2 => h2.stab h1) <| Stab.nil) ?_ ?_
  · refine oc g_mv ?_
    refine oc (g_ix (fun uZ => xb11 b2_6 0 uZ (by decide))) ?_
    refine oc (g_lR 1 (0) (cs := U8 (r0)) (hrow0) Tryd.underlying32 (by rw [U8_len, hr0]; exact info__16_uint8)) ?_
    refine oc (g_cE 0 (PS u3.heap.size 16 (U8 (sE 0))) ent_seneschalref06_xor (fun u hB hs => (hx0.out u hB).mono fun e u2 ⟨v, e1, h1, h2⟩ => ⟨v, e1, h1.mono hs, h2⟩)) ?_
    exact oc (g_sE 0 1 (PS u3.heap.size 16 (U8 (sE 0)))) on
  intro u4 v4_3 hv4_3 v4_4 hv4_4 HB4 sz4 K4
  simp only [fX, nK, nP, Wr.f, aK, pM] at K4
  simp only [setG, setN, setE, List.set_cons_zero, List.set_cons_succ]
  clear K3 HB3
  obtain ⟨bA, cA, rfl, hA1, hA2, hcA, hAC⟩ := hv4_4 rfl
  have hord : bT ≠ b2_6 ∧ b2_6 < bA ∧ bT < bA ∧ w.heap.size ≤ bT := by omega
  have K4_3 : Bk w.heap.size u4 [(false, bT, U8 (tt)), (false, b2_6, U8 (kx)), (false, bA, U8 (sE 0))] := ⟨.c (K4.lt 0) (K4.cv 0) <| .c (K4.lt 1) (K4.cv 1) <| .c hA2 hAC <| trivial, by simp <;> omega⟩
  go_upto_region 6 with fail
  refine rgP K4_3 HB4 HB4.size [] [] [(0, 10, (Go.Value.int Go.IntKind.i64 1))] [] [] [] ?_ ?_
  · exact oc g_as on
  intro u5 HB5 sz5 K5
  simp only [fX, nK, nP, Wr.f, aK, pM] at K5
  simp only [setG, setN, List.set_cons_zero, List.set_cons_succ]
  clear HB4
  go_wp2_with fail
  go_loopw [9, 10] (fun s9 s10 wr => ∃ (j bA cA : Nat), j ≤ 10 ∧ s10 = .int .i64 ((j + 1 : Nat) : Int) ∧ s9 = .slice (some ⟨bA, 0, none⟩) 16 cA ∧ 16 ≤ cA ∧ bT < bA ∧ b2_6 < bA ∧ bA < wr.heap.size ∧ Hid (CV wr bA (U8 (sE j))) ∧ bT < wr.heap.size ∧ Hid (CV wr bT (U8 tt)) ∧ b2_6 < wr.heap.size ∧ Hid (CV wr b2_6 (U8 kx)) ∧ Below w.heap.size w wr) (fun _ s10 _ => 11 - (intOf s10).toNat)
  case atStart => exact ⟨0, bA, cA, by omega, rfl, rfl, hcA, by omega, by omega, (K5.lt 2), (K5.cv 2), (K5.lt 0), (K5.cv 0), (K5.lt 1), (K5.cv 1), HB5⟩
  case round =>
    have hord1 : bT ≠ b2_6 ∧ w.heap.size ≤ bT := by omega
    clear hA1 hA2 hcA hAC hord hT2 hTC
    obtain ⟨j, bA, cA, hj10, rfl, rfl, hcA, hTA, h7A, lA, KA, lT, KT, l7, K7x, HBr⟩ := hrel
    clear HB5
    by_cases hj : j < 10
    · have hd1 : decide (((j + 1 : Nat) : Int) ≤ 10) = true := by simp; omega
      have hal := hEl.out j
      have hab := hEb.out j
      have ht0 := hF0.out j
      have hts := hFs.out j
      have htl := hFl.out j
      have hrl := hRl.out (j + 1)
      have hrow := hRow.out (j + 1) (by omega)
      have hmx := hMx.out j
      have hxa := hXa.out j
      have hxb := hXb.out j
      obtain ⟨a, ea⟩ : ∃ x, sE j = x := ⟨_, rfl⟩
      obtain ⟨r, er⟩ : ∃ x, sR (j + 1) = x := ⟨_, rfl⟩
      rw [ea] at hal hab hts KA
      rw [er] at hrl hrow hxa hxb
      have hmx : Hid _ := hmx
      have hxa : Hid _ := hxa
      have hxb : Hid _ := hxb
      clear ea er
      have hnK := K5.n
      simp at hnK
      have K5_4 : Bk w.heap.size wr [(false, bT, U8 (tt)), (false, b2_6, U8 (kx)), (false, bA, U8 (a))] := ⟨.c lT KT.out <| .c l7 K7x.out <| .c lA KA.out <| trivial, by simp <;> omega⟩
      go_upto_region 7 with fail
      refine rgP K5_4 HBr HBr.size [] [] [(0, 31, .int .i64 ((j + 1 : Nat) : Int)), (1, 32, .bool true)] [] [] [] ?_ ?_
      · refine oc g_mv ?_
        exact oc (g_bn (fun uZ => leq_z _ _ ((j + 1 : Nat) : Int) 10 true uZ hd1)) on
      intro u6 HB6 sz6 K6
      simp only [fX, nK, nP, Wr.f, aK, pM] at K6
      simp only [setG, setN, List.set_cons_zero, List.set_cons_succ]
      have hX_tab := (K6.lt 0)
      have hX_n2_6 := (K6.lt 1)
      have hX_cur := (K6.lt 2)
      go_upto_region 9 with fail
      refine rgF K6 HB6 HB6.size [] [] [] [] [] [⟨0, 35, some 1, PF u6.heap.size 16 (U8 (z16))⟩, ⟨1, 11, none, PF u6.heap.size 16 (U8 (z16))⟩] [] (.cons (fun _ _ _ h1 h2 => h2.stab h1) <| .cons (fun _ _ _ h1 h2 => h2.stab h1) <| Stab.nil) ?_ ?_
      · refine oc (g_ms 0 (PF u6.heap.size 16 (U8 (z16))) mk16 (fun u hu => PF.new 16 _ _ u hu)) ?_
        exact oc (g_sE 0 1 (PF u6.heap.size 16 (U8 (z16)))) on
      intro u7 v7_0 hv7_0 v7_1 hv7_1 HB7 sz7 K7
      simp only [fX, nK, nP, Wr.f, aK, pM] at K7
      simp only [setG, setN, setE, List.set_cons_zero, List.set_cons_succ]
      clear K6 HB6
      obtain ⟨bB, rfl, hB1, hB2, hBC⟩ := hv7_1 rfl
      have hAB : bA < bB ∧ bT < bB ∧ b2_6 < bB := by omega
      have K7_5 : Bk w.heap.size u7 [(false, bT, U8 (tt)), (false, b2_6, U8 (kx)), (false, bA, U8 (a)), (true, bB, U8 (z16))] := ⟨.c (K7.lt 0) (K7.cv 0) <| .c (K7.lt 1) (K7.cv 1) <| .c (K7.lt 2) (K7.cv 2) <| .o hB2 (by omega) hBC <| trivial, by simp <;> omega⟩
      go_upto_region 10 with fail
      refine rgP K7_5 HB7 HB7.size [] [] [(0, 12, (Go.Value.int Go.IntKind.i64 0))] [] [] [] ?_ ?_
      · exact oc g_as on
      intro u8 HB8 sz8 K8
      simp only [fX, nK, nP, Wr.f, aK, pM] at K8
      simp only [setG, setN, List.set_cons_zero, List.set_cons_succ]
      clear HB7
      go_wp2_with fail
      go_loopw [12] (fun s12 wr => ∃ (k : Nat), k ≤ 16 ∧ s12 = .int .i64 (k : Int) ∧ bB < wr.heap.size ∧ Hid (CV wr bB (U8 (tF j k))) ∧ bA < wr.heap.size ∧ Hid (CV wr bA (U8 a)) ∧ bT < wr.heap.size ∧ Hid (CV wr bT (U8 tt)) ∧ b2_6 < wr.heap.size ∧ Hid (CV wr b2_6 (U8 kx)) ∧ Below w.heap.size w wr) (fun s12 _ => 16 - (intOf s12).toNat)
      case atStart => exact ⟨0, by omega, rfl, (K8.lt 3), (by rw [ht0]; exact (K8.cv 3)), (K8.lt 2), (K8.cv 2), (K8.lt 0), (K8.cv 0), (K8.lt 1), (K8.cv 1), HB8⟩
      case round =>
        clear hB1 hB2 hBC lA KA lT KT l7 K7x HBr hd1
        obtain ⟨k, hk, rfl, lB, KB, lA, KA, lT, KT, l7, K7x, HBr⟩ := hrel
        clear HB8
        by_cases hkk : k < 16
        · have hd1 : decide ((k : Int) < 16) = true := by simp; omega
          have hts := hts k
          have htl := htl k
          obtain ⟨ts, ets⟩ : ∃ x, tF j k = x := ⟨_, rfl⟩
          rw [ets] at hts htl KB
          have hix : (k + 4 * (k % 4)) % 16 < 16 := Nat.mod_lt _ (by decide)
          have ga := U8_get a ((k + 4 * (k % 4)) % 16) (by omega)
          have hx := hab ((k + 4 * (k % 4)) % 16)
          obtain ⟨x, ex⟩ : ∃ v, a.getD ((k + 4 * (k % 4)) % 16) 0 = v := ⟨_, rfl⟩
          rw [ex] at ga hts hx
          have gt := U8_get tt x (by omega)
          obtain ⟨y, ey⟩ : ∃ v, tt.getD x 0 = v := ⟨_, rfl⟩
          rw [ey] at gt hts
          have gn := U8_get ts k (by omega)
          obtain ⟨z, ez⟩ : ∃ v, ts.getD k 0 = v := ⟨_, rfl⟩
          rw [ez] at gn
          have hts : Hid _ := hts
          clear ets ex ey ez
          have hnK := K8.n
          simp at hnK
          have hoK3 := K8.lo 3
          have K8_6 : Bk w.heap.size wr [(false, bT, U8 (tt)), (false, b2_6, U8 (kx)), (false, bA, U8 (a)), (true, bB, U8 (ts))] := ⟨.c lT KT.out <| .c l7 K7x.out <| .c lA KA.out <| .o lB (K8.lo 3) KB.out <| trivial, by simp <;> omega⟩
          go_upto_region 11 with fail
          refine rgP K8_6 HBr HBr.size [] [] [(0, 36, .int .i64 ((k : Nat) : Int)), (1, 37, .bool true)] [] [] [] ?_ ?_
          · refine oc g_mv ?_
            exact oc (g_bn (fun uZ => lss_i _ _ (k : Int) 16 true uZ hd1)) on
          intro u9 HB9 sz9 K9
          simp only [fX, nK, nP, Wr.f, aK, pM] at K9
          simp only [setG, setN, List.set_cons_zero, List.set_cons_succ]
          go_upto_region 13 with fail
          refine rgP K9 HB9 HB9.size [.no, .no, .no, .all 15 (U8 (ts.set k y))] [] [(0, 40, .slice (some ⟨bB, 0, none⟩) 16 16), (1, 41, .int .i64 ((k : Nat) : Int)), (2, 42, .slice (some ⟨bT, 0, none⟩) 256 cT), (3, 43, .slice (some ⟨bA, 0, none⟩) 16 cA), (4, 44, .int .i64 ((k : Nat) : Int)), (5, 45, .int .i64 ((k : Nat) : Int)), (6, 46, .int .i64 ((k % 4 : Nat) : Int)), (7, 47, .int .i64 ((4 * (k % 4) : Nat) : Int)), (8, 48, .int .i64 ((k + 4 * (k % 4) : Nat) : Int)), (9, 49, .int .i64 (((k + 4 * (k % 4)) % 16 : Nat) : Int)), (10, 50, .pointer (some ⟨bA, (k + 4 * (k % 4)) % 16, none⟩)), (11, 51, .int .u8 ((x : Nat) : Int)), (12, 52, .pointer (some ⟨bT, x, none⟩)), (13, 53, .int .u8 ((y : Nat) : Int)), (14, 54, .pointer (some ⟨bB, k, none⟩))] [] [] [] ?_ ?_
          · refine oc g_mv ?_
            refine oc g_mv ?_
            refine oc g_mv ?_
            refine oc g_mv ?_
            refine oc g_mv ?_
            refine oc g_mv ?_
            refine oc (g_bn (fun uZ => remi _ _ k 4 uZ (by omega) (by decide))) ?_
            refine oc (g_bn (fun uZ => muli _ _ 4 (k % 4) (4 * (k % 4)) uZ rfl (by omega))) ?_
            refine oc (g_bn (fun uZ => add_i _ _ (k : Int) ((4 * (k % 4) : Nat) : Int) ((k + 4 * (k % 4) : Nat) : Int) uZ (by omega) (by omega) (by omega))) ?_
            refine oc (g_bn (fun uZ => remi _ _ (k + 4 * (k % 4)) 16 uZ (by omega) (by decide))) ?_
            refine oc (g_ix (fun uZ => ixs bA 0 16 cA ((k + 4 * (k % 4)) % 16) ((k + 4 * (k % 4)) % 16) uZ hix (Nat.zero_add _))) ?_
            refine oc (g_lw 2 ((k + 4 * (k % 4)) % 16) l8 (ga)) ?_
            refine oc (g_ix (fun uZ => ixs8 bT 256 cT x uZ hx)) ?_
            refine oc (g_lw 0 (x) l8 (gt)) ?_
            refine oc (g_ix (fun uZ => ixs bB 0 16 16 k k uZ hkk (Nat.zero_add _))) ?_
            exact oc (g_sw 3 (k) s8 (gn) (U8_set _ _ _)) on
          intro u10 HB10 sz10 K10
          simp only [fX, nK, nP, Wr.f, aK, pM] at K10
          simp only [setG, setN, List.set_cons_zero, List.set_cons_succ]
          clear K9 HB9
          go_upto_region 12 with fail
          refine rgP K10 HB10 HB10.size [] [] [(0, 38, .int .i64 ((k : Nat) : Int)), (1, 39, .int .i64 ((k + 1 : Nat) : Int)), (2, 12, .int .i64 ((k + 1 : Nat) : Int))] [(2, 0)] [(2, 12)] [] ?_ ?_
          · refine oc g_mv ?_
            refine oc (g_bn (fun uZ => add_i _ _ (k : Int) 1 ((k + 1 : Nat) : Int) uZ (by omega) (by omega) (by omega))) ?_
            exact oc g_as on
          intro u11 HB11 sz11 K11
          simp only [fX, nK, nP, Wr.f, aK, pM] at K11
          simp only [setG, setN, List.set_cons_zero, List.set_cons_succ]
          clear K10 HB10
          go_wp2
          refine ⟨⟨k + 1, by omega, rfl, (K11.lt 3), (by rw [hts.out]; exact (K11.cv 3)), (K11.lt 2), (K11.cv 2), (K11.lt 0), (K11.cv 0), (K11.lt 1), (K11.cv 1), HB11⟩, ?_⟩
          simp [intOf] <;> omega
        · have hd1 : decide ((k : Int) < 16) = false := by simp; omega
          have hk16 : k = 16 := by omega
          subst hk16
          have htl := htl 16
          obtain ⟨ss, ess⟩ : ∃ x, tF j 16 = x := ⟨_, rfl⟩
          rw [ess] at hmx hxb KB htl
          by_cases h9 : j < 9
          · have he1 : decide (((j + 1 : Nat) : Int) < 10) = true := by simp; omega
            have hnK := K8.n
            simp at hnK
            have hoK3 := K8.lo 3
            have K8_6 : Bk w.heap.size wr [(false, bT, U8 (tt)), (false, b2_6, U8 (kx)), (false, bB, U8 (ss))] := ⟨.c lT KT.out <| .c l7 K7x.out <| .c lB KB.out <| trivial, by simp <;> omega⟩
            go_upto_region 11 with fail
            refine rgP K8_6 HBr HBr.size [] [] [(0, 36, .int .i64 ((16 : Nat) : Int)), (1, 37, .bool false)] [] [] [] ?_ ?_
            · refine oc g_mv ?_
              exact oc (g_bn (fun uZ => lss_i _ _ ((16 : Nat) : Int) 16 false uZ hd1)) on
            intro u9 HB9 sz9 K9
            simp only [fX, nK, nP, Wr.f, aK, pM] at K9
            simp only [setG, setN, List.set_cons_zero, List.set_cons_succ]
            go_upto_region 14 with fail
            refine rgP K9 HB9 HB9.size [] [] [(0, 55, .int .i64 ((j + 1 : Nat) : Int)), (1, 56, .bool true)] [] [] [] ?_ ?_
            · refine oc g_mv ?_
              exact oc (g_bn (fun uZ => lss_i _ _ ((j + 1 : Nat) : Int) 10 true uZ he1)) on
            intro u10 HB10 sz10 K10
            simp only [fX, nK, nP, Wr.f, aK, pM] at K10
            simp only [setG, setN, List.set_cons_zero, List.set_cons_succ]
            clear K9 HB9
            have hX_tab := (K10.lt 0)
            have hX_n2_6 := (K10.lt 1)
            have hX_nb := (K10.lt 2)
            go_upto_region 15 with fail
            refine rgF K10 HB10 HB10.size [] [] [(0, 57, .slice (some ⟨bB, 0, none⟩) 16 16), (1, 58, .agg (U8 ([2, 3, 1, 1])).toArray)] [(3, 0)] [(3, 11)] [⟨2, 59, some 3, PS u10.heap.size 16 (U8 (sM j))⟩, ⟨3, 11, none, PS u10.heap.size 16 (U8 (sM j))⟩] [] (.cons (fun _ _ _ h1 h2 => h2.stab h1) <| .cons (fun _ _ _ h1 h2 => h2.stab h1) <| Stab.nil) ?_ ?_
            · refine oc g_mv ?_
              refine oc (g_bd (fun uZ => bd4 2 3 1 1 uZ)) ?_
              refine oc (g_cM 0 (PS u10.heap.size 16 (U8 (sM j))) ent_seneschalref06_mix (fun fZ uZ kZ sZ bZ => (hmx.out h9 uZ _ (inT (kZ.cv 2) (kZ.lb sZ 2) htl (Nat.le_refl _))).mono fun e u2 ⟨v, e1, h1, h2⟩ => ⟨v, e1, h1.mono sZ, h2⟩)) ?_
              exact oc (g_sE 0 1 (PS u10.heap.size 16 (U8 (sM j)))) on
            intro u11 v11_2 hv11_2 v11_3 hv11_3 HB11 sz11 K11
            simp only [fX, nK, nP, Wr.f, aK, pM] at K11
            simp only [setG, setN, setE, List.set_cons_zero, List.set_cons_succ]
            clear K10 HB10
            obtain ⟨bM, cM, rfl, hM1, hM2, hcM, hMC⟩ := hv11_3 rfl
            have hml := hMl.out j
            have K11_7 : Bk w.heap.size u11 [(false, bT, U8 (tt)), (false, b2_6, U8 (kx)), (false, bB, U8 (ss)), (false, bM, U8 (sM j))] := ⟨.c (K11.lt 0) (K11.cv 0) <| .c (K11.lt 1) (K11.cv 1) <| .c (K11.lt 2) (K11.cv 2) <| .c hM2 hMC <| trivial, by simp <;> omega⟩
            have hX_tab := (K11_7.lt 0)
            have hX_n2_6 := (K11_7.lt 1)
            have hX_nb := (K11_7.lt 2)
            have hX_mx := (K11_7.lt 3)
            go_upto_region 16 with fail
            refine rgF K11_7 HB11 HB11.size [] [] [(0, 60, .slice (some ⟨bM, 0, none⟩) 16 cM), (1, 61, .int .i64 ((j + 1 : Nat) : Int)), (2, 62, .pointer (some ⟨b2_6, 16 * (j + 1), none⟩)), (3, 63, .agg (U8 (r)).toArray)] [] [] [⟨4, 64, some 5, PS u11.heap.size 16 (U8 (sE (j + 1)))⟩, ⟨5, 9, none, PS u11.heap.size 16 (U8 (sE (j + 1)))⟩] [] (.cons (fun _ _ _ h1 h2 => h2.stab h1) <| .cons (fun _ _ _ h1 h2 => h2.stab h1) <| Stab.nil) ?_ ?_
            · refine oc g_mv ?_
              refine oc g_mv ?_
              refine oc (g_ix (fun uZ => xb11 b2_6 (j + 1) uZ (by omega))) ?_
              refine oc (g_lR 1 (16 * (j + 1)) (cs := U8 (r)) (hrow) Tryd.underlying32 (by rw [U8_len, hrl]; exact info__16_uint8)) ?_
              refine oc (g_cM 0 (PS u11.heap.size 16 (U8 (sE (j + 1)))) ent_seneschalref06_xor (fun fZ uZ kZ sZ bZ => (hxa.out (by omega) uZ _ (inT (kZ.cv 3) (kZ.lb sZ 3) hml hcM)).mono fun e u2 ⟨v, e1, h1, h2⟩ => ⟨v, e1, h1.mono sZ, h2⟩)) ?_
              exact oc (g_sE 0 1 (PS u11.heap.size 16 (U8 (sE (j + 1))))) on
            intro u12 v12_4 hv12_4 v12_5 hv12_5 HB12 sz12 K12
            simp only [fX, nK, nP, Wr.f, aK, pM] at K12
            simp only [setG, setN, setE, List.set_cons_zero, List.set_cons_succ]
            clear HB11
            obtain ⟨bN, cN, rfl, hN1, hN2, hcN, hNC⟩ := hv12_5 rfl
            have K12_8 : Bk w.heap.size u12 [(false, bT, U8 (tt)), (false, b2_6, U8 (kx)), (false, bB, U8 (ss)), (false, bM, U8 (sM j)), (false, bN, U8 (sE (j + 1)))] := ⟨.c (K12.lt 0) (K12.cv 0) <| .c (K12.lt 1) (K12.cv 1) <| .c (K12.lt 2) (K12.cv 2) <| .c (K12.lt 3) (K12.cv 3) <| .c hN2 hNC <| trivial, by simp <;> omega⟩
            go_upto_region 8 with fail
            refine rgP K12_8 HB12 HB12.size [] [] [(0, 33, .int .i64 ((j + 1 : Nat) : Int)), (1, 34, .int .i64 ((j + 1 + 1 : Nat) : Int)), (2, 10, .int .i64 ((j + 1 + 1 : Nat) : Int))] [(2, 0)] [(2, 10)] [] ?_ ?_
            · refine oc g_mv ?_
              refine oc (g_bn (fun uZ => add_i _ _ ((j + 1 : Nat) : Int) 1 ((j + 1 + 1 : Nat) : Int) uZ (by omega) (by omega) (by omega))) ?_
              exact oc g_as on
            intro u13 HB13 sz13 K13
            simp only [fX, nK, nP, Wr.f, aK, pM] at K13
            simp only [setG, setN, List.set_cons_zero, List.set_cons_succ]
            clear HB12
            go_wp2
            refine ⟨⟨j + 1, bN, cN, by omega, rfl, rfl, hcN, by omega, by omega, (K13.lt 4), (K13.cv 4), (K13.lt 0), (K13.cv 0), (K13.lt 1), (K13.cv 1), HB13⟩, ?_⟩
            simp [intOf] <;> omega
          · have he1 : decide (((j + 1 : Nat) : Int) < 10) = false := by simp; omega
            have hnK := K8.n
            simp at hnK
            have hoK3 := K8.lo 3
            have K8_6 : Bk w.heap.size wr [(false, bT, U8 (tt)), (false, b2_6, U8 (kx)), (false, bB, U8 (ss))] := ⟨.c lT KT.out <| .c l7 K7x.out <| .c lB KB.out <| trivial, by simp <;> omega⟩
            go_upto_region 11 with fail
            refine rgP K8_6 HBr HBr.size [] [] [(0, 36, .int .i64 ((16 : Nat) : Int)), (1, 37, .bool false)] [] [] [] ?_ ?_
            · refine oc g_mv ?_
              exact oc (g_bn (fun uZ => lss_i _ _ ((16 : Nat) : Int) 16 false uZ hd1)) on
            intro u9 HB9 sz9 K9
            simp only [fX, nK, nP, Wr.f, aK, pM] at K9
            simp only [setG, setN, List.set_cons_zero, List.set_cons_succ]
            go_upto_region 14 with fail
            refine rgP K9 HB9 HB9.size [] [] [(0, 55, .int .i64 ((j + 1 : Nat) : Int)), (1, 56, .bool false)] [] [] [] ?_ ?_
            · refine oc g_mv ?_
              exact oc (g_bn (fun uZ => lss_i _ _ ((j + 1 : Nat) : Int) 10 false uZ he1)) on
            intro u10 HB10 sz10 K10
            simp only [fX, nK, nP, Wr.f, aK, pM] at K10
            simp only [setG, setN, List.set_cons_zero, List.set_cons_succ]
            clear K9 HB9
            have hX_tab := (K10.lt 0)
            have hX_n2_6 := (K10.lt 1)
            have hX_nb := (K10.lt 2)
            go_upto_region 16 with fail
            refine rgF K10 HB10 HB10.size [] [] [(0, 60, .slice (some ⟨bB, 0, none⟩) 16 16), (1, 61, .int .i64 ((j + 1 : Nat) : Int)), (2, 62, .pointer (some ⟨b2_6, 16 * (j + 1), none⟩)), (3, 63, .agg (U8 (r)).toArray)] [] [] [⟨4, 64, some 5, PS u10.heap.size 16 (U8 (sE (j + 1)))⟩, ⟨5, 9, none, PS u10.heap.size 16 (U8 (sE (j + 1)))⟩] [] (.cons (fun _ _ _ h1 h2 => h2.stab h1) <| .cons (fun _ _ _ h1 h2 => h2.stab h1) <| Stab.nil) ?_ ?_
            · refine oc g_mv ?_
              refine oc g_mv ?_
              refine oc (g_ix (fun uZ => xb11 b2_6 (j + 1) uZ (by omega))) ?_
              refine oc (g_lR 1 (16 * (j + 1)) (cs := U8 (r)) (hrow) Tryd.underlying32 (by rw [U8_len, hrl]; exact info__16_uint8)) ?_
              refine oc (g_cM 0 (PS u10.heap.size 16 (U8 (sE (j + 1)))) ent_seneschalref06_xor (fun fZ uZ kZ sZ bZ => (hxb.out (by omega) uZ _ (inT (kZ.cv 2) (kZ.lb sZ 2) htl (Nat.le_refl _))).mono fun e u2 ⟨v, e1, h1, h2⟩ => ⟨v, e1, h1.mono sZ, h2⟩)) ?_
              exact oc (g_sE 0 1 (PS u10.heap.size 16 (U8 (sE (j + 1))))) on
            intro u11 v11_4 hv11_4 v11_5 hv11_5 HB11 sz11 K11
            simp only [fX, nK, nP, Wr.f, aK, pM] at K11
            simp only [setG, setN, setE, List.set_cons_zero, List.set_cons_succ]
            clear K10 HB10
            obtain ⟨bN, cN, rfl, hN1, hN2, hcN, hNC⟩ := hv11_5 rfl
            have K11_7 : Bk w.heap.size u11 [(false, bT, U8 (tt)), (false, b2_6, U8 (kx)), (false, bB, U8 (ss)), (false, bN, U8 (sE (j + 1)))] := ⟨.c (K11.lt 0) (K11.cv 0) <| .c (K11.lt 1) (K11.cv 1) <| .c (K11.lt 2) (K11.cv 2) <| .c hN2 hNC <| trivial, by simp <;> omega⟩
            go_upto_region 8 with fail
            refine rgP K11_7 HB11 HB11.size [] [] [(0, 33, .int .i64 ((j + 1 : Nat) : Int)), (1, 34, .int .i64 ((j + 1 + 1 : Nat) : Int)), (2, 10, .int .i64 ((j + 1 + 1 : Nat) : Int))] [(2, 0)] [(2, 10)] [] ?_ ?_
            · refine oc g_mv ?_
              refine oc (g_bn (fun uZ => add_i _ _ ((j + 1 : Nat) : Int) 1 ((j + 1 + 1 : Nat) : Int) uZ (by omega) (by omega) (by omega))) ?_
              exact oc g_as on
            intro u12 HB12 sz12 K12
            simp only [fX, nK, nP, Wr.f, aK, pM] at K12
            simp only [setG, setN, List.set_cons_zero, List.set_cons_succ]
            clear HB11
            go_wp2
            refine ⟨⟨j + 1, bN, cN, by omega, rfl, rfl, hcN, by omega, by omega, (K12.lt 3), (K12.cv 3), (K12.lt 0), (K12.cv 0), (K12.lt 1), (K12.cv 1), HB12⟩, ?_⟩
            simp [intOf] <;> omega
    · have hd1 : decide (((j + 1 : Nat) : Int) ≤ 10) = false := by simp; omega
      have hj10' : j = 10 := by omega
      subst hj10'
      have hnK := K5.n
      simp at hnK
      have K5_4 : Bk w.heap.size wr [(false, bA, U8 (sE 10))] := ⟨.c lA KA.out <| trivial, by simp⟩
      go_upto_region 7 with fail
      refine rgP K5_4 HBr HBr.size [] [] [(0, 31, .int .i64 ((10 + 1 : Nat) : Int)), (1, 32, .bool false)] [] [] [] ?_ ?_
      · refine oc g_mv ?_
        exact oc (g_bn (fun uZ => leq_z _ _ ((10 + 1 : Nat) : Int) 10 false uZ hd1)) on
      intro u6 HB6 sz6 K6
      simp only [fX, nK, nP, Wr.f, aK, pM] at K6
      simp only [setG, setN, List.set_cons_zero, List.set_cons_succ]
      go_upto_region 17 with fail
      refine rgP K6 HB6 HB6.size [] [] [(0, 65, .slice (some ⟨bA, 0, none⟩) 16 cA), (1, 4, .slice (some ⟨bA, 0, none⟩) 16 cA), (2, 5, (Go.Value.int Go.IntKind.i64 0))] [] [] [] ?_ ?_
      · refine oc g_mv ?_
        refine oc g_as ?_
        exact oc g_as on
      intro u7 HB7 sz7 K7
      simp only [fX, nK, nP, Wr.f, aK, pM] at K7
      simp only [setG, setN, List.set_cons_zero, List.set_cons_succ]
      clear K6 HB6
      go_wp2
      refine bodyPost_ret (v := .tuple #[.slice (some ⟨bA, 0, none⟩) 16 cA, .int .i64 0]) (by simp [results, Tryd.results16, go_sem]) rfl ⟨_, rfl, ⟨_, rfl, bA, cA, rfl, by omega, (K7.lt 0), hcA, (K7.cv 0)⟩, HB7⟩
end Go.Proofs.YtlcjbnhfmcnnfaaDoor
