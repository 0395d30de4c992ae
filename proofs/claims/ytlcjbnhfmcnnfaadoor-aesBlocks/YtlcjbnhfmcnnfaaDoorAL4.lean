/- The law AesBlocks: its walk. -/
import Derived.Test.YtlcjbnhfmcnnfaaDoorAR8
namespace Go.Proofs.YtlcjbnhfmcnnfaaDoor
open Go.RowKit
set_option linter.unusedVariables false
set_option linter.unusedSimpArgs false
theorem ent_seneschalbase_BytesZ (vs : Array Value) (w : World) : (callFunc 14 vs).run Tryd.prog w = .ok (.enter 14 vs) w := by kernel_rfl
set_option maxRecDepth 100000 in
set_option maxHeartbeats 8000000 in
theorem aesBlocks_core (n1 cap1 m1 n2 cap2 m2 : Nat) (sl1 sl2 : Option Addr) (ks bs xe xd kx : List Nat) (ee ek : Int) (w : World) (hmin1 : min (n1 : Int) 40 = (m1 : Int)) (hm1 : m1 ≤ n1) (hc1 : n1 ≤ cap1) (hs1 : sl1 = none → cap1 = 0) (hmin2 : min (n2 : Int) 40 = (m2 : Int)) (hm2 : m2 ≤ n2) (hc2 : n2 ≤ cap2) (hs2 : sl2 = none → cap2 = 0)
    (hIn1 : IN w w.heap.size (.slice sl1 m1 cap1) ks) (hIn2 : IN w w.heap.size (.slice sl2 m2 cap2) bs) (hkl : ks.length ≤ 1000000) (hbl : bs.length ≤ 1000000) (hz176 : z176.length = 176) (hkx : kx.length = 176)
    (hE : Hid (∀ u v v2, Below w.heap.size w u → IN u u.heap.size v ks → IN u u.heap.size v2 bs → Calls Tryd.prog 15 #[v, v2] u fun e u' => ∃ v, e = .returned v ∧ PI ee xe u' v ∧ Below u.heap.size u u')) (hER : Hid (∀ u v v2, Below w.heap.size w u → IN u u.heap.size v ks → IN u u.heap.size v2 bs → Calls Tryd.prog 16 #[v, v2] u fun e u' => ∃ v, e = .returned v ∧ PI ee xe u' v ∧ Below u.heap.size u u')) (hD : Hid (∀ u v v2, Below w.heap.size w u → IN u u.heap.size v ks → IN u u.heap.size v2 bs → Calls Tryd.prog 17 #[v, v2] u fun e u' => ∃ v, e = .returned v ∧ PI ee xd u' v ∧ Below u.heap.size u u')) (hDR : Hid (∀ u v v2, Below w.heap.size w u → IN u u.heap.size v ks → IN u u.heap.size v2 bs → Calls Tryd.prog 18 #[v, v2] u fun e u' => ∃ v, e = .returned v ∧ PI ee xd u' v ∧ Below u.heap.size u u')) (hK : Hid (∀ u v, Below w.heap.size w u → IN u u.heap.size v ks → Calls Tryd.prog 19 #[v] u fun e u' => e = .returned (.tuple #[.agg (U8 kx).toArray, .int .i64 ek]) ∧ Below u.heap.size u u')) (hKR : Hid (∀ u v, Below w.heap.size w u → IN u u.heap.size v ks → Calls Tryd.prog 20 #[v] u fun e u' => e = .returned (.tuple #[.agg (U8 kx).toArray, .int .i64 ek]) ∧ Below u.heap.size u u'))
    (hSe : Hid (∀ u v v2, IN u u.heap.size v xe → IN u u.heap.size v2 xe → Calls Tryd.prog 21 #[v, v2] u fun e u' => e = .returned (.bool true) ∧ Below u.heap.size u u')) (hSd : Hid (∀ u v v2, IN u u.heap.size v xd → IN u u.heap.size v2 xd → Calls Tryd.prog 21 #[v, v2] u fun e u' => e = .returned (.bool true) ∧ Below u.heap.size u u')) (hSk : Hid (∀ u v v2, IN u u.heap.size v ks → IN u u.heap.size v2 ks → Calls Tryd.prog 21 #[v, v2] u fun e u' => e = .returned (.bool true) ∧ Below u.heap.size u u')) (hSb : Hid (∀ u v v2, IN u u.heap.size v bs → IN u u.heap.size v2 bs → Calls Tryd.prog 21 #[v, v2] u fun e u' => e = .returned (.bool true) ∧ Below u.heap.size u u')) (hW : Hid (∀ u, Below w.heap.size w u → Calls Tryd.prog 13 #[] u fun e u' => e = .returned (.bool true) ∧ Below u.heap.size u u'))
    (hqk : Hid (∀ (p q : Operand) (w : World), (do eqGuard .eql 33 p q (.agg (U8 kx).toArray) (.agg (U8 kx).toArray); binOp .eql 33 (.agg (U8 kx).toArray) (.agg (U8 kx).toArray) : Sem Value).run Tryd.prog w = .ok (.bool true) w)) :
    Calls Tryd.prog 4 #[(.slice sl1 n1 cap1), (.slice sl2 n2 cap2)] w fun e w' => e = .returned (.bool true) ∧ Below w.heap.size w w' := by
  go_enter Tryd.func4, Tryd.ntmps4
  have HB0 : Below w.heap.size w w := Below.refl _ _
  have hBw : Below w.heap.size w w := Below.refl _ _
  have K0_1 := Bk.nil (w.heap.size) w
  go_upto_region 1 with fail
  refine rgD K0_1 HB0 HB0.size [] [] [(0, 19, (.slice sl1 n1 cap1)), (1, 20, (.slice sl1 n1 cap1)), (2, 21, .int .i64 (n1 : Int)), (3, 22, .int .i64 (m1 : Int)), (4, 23, (.slice sl1 m1 cap1)), (5, 24, (.slice sl2 n2 cap2)), (6, 25, (.slice sl2 n2 cap2)), (7, 26, .int .i64 (n2 : Int)), (8, 27, .int .i64 (m2 : Int)), (9, 28, (.slice sl2 m2 cap2)), (10, 0, (.slice sl1 m1 cap1)), (11, 1, (.slice sl2 m2 cap2))] [(10, 0), (10, 1), (11, 5), (11, 6)] [(10, 0), (11, 1)] [] ?_ ?_
  · refine oc g_mv ?_
    refine oc g_mv ?_
    refine oc (g_ln Tryd.underlying24) ?_
    refine oc (g_mn hmin1) ?_
    refine oc (g_sl (fun uZ => slHB sl1 n1 cap1 m1 hm1 hc1 hs1 uZ)) ?_
    refine oc g_mv ?_
    refine oc g_mv ?_
    refine oc (g_ln Tryd.underlying24) ?_
    refine oc (g_mn hmin2) ?_
    refine oc (g_sl (fun uZ => slHB sl2 n2 cap2 m2 hm2 hc2 hs2 uZ)) ?_
    refine oc g_as ?_
    exact oc g_as on
  intro u1 HB1 sz1 K1
  simp only [fX, nK, nP, Wr.f, aK, pM] at K1
  simp only [setG, setN, List.set_cons_zero, List.set_cons_succ]
  clear HB0
  have hT1 : Below w.heap.size w u1 := bstep hBw HB1
  have iK_1 : IN u1 u1.heap.size (.slice sl1 m1 cap1) ks := (hIn1.below HB1).mono HB1.size
  have iB_1 : IN u1 u1.heap.size (.slice sl2 m2 cap2) bs := (hIn2.below HB1).mono HB1.size
  have HBz1 : Below u1.heap.size u1 u1 := Below.refl _ _
  have K1_2 := Bk.nil (u1.heap.size) u1
  go_upto_region 2 with fail
  refine rgF K1_2 HBz1 HBz1.size [] [] [(0, 29, (.slice sl1 m1 cap1)), (2, 31, (.slice sl2 m2 cap2))] [(4, 1), (5, 3)] [] [⟨1, 30, some 4, PG u1.heap.size 1 ks.length (U8 (ks))⟩, ⟨3, 32, some 5, PG u1.heap.size 1 bs.length (U8 (bs))⟩, ⟨4, 5, none, PG u1.heap.size 1 ks.length (U8 (ks))⟩, ⟨5, 6, none, PG u1.heap.size 1 bs.length (U8 (bs))⟩] [] (.cons (fun _ _ _ h1 h2 => h2.stab h1) <| .cons (fun _ _ _ h1 h2 => h2.stab h1) <| .cons (fun _ _ _ h1 h2 => h2.stab h1) <| .cons (fun _ _ _ h1 h2 => h2.stab h1) <| Stab.nil) ?_ ?_
  · refine oc g_mv ?_
    refine oc (g_cE 0 (PG u1.heap.size 1 ks.length (U8 (ks))) ent_seneschalbase_BytesZ (fun u hB hs => (cBytes ks _ u hkl ((iK_1.below hB).mono hB.size)).mono fun e u2 ⟨v, e1, h1, h2⟩ => ⟨v, e1, h1.mono hB.size, h2⟩)) ?_
    refine oc g_mv ?_
    refine oc (g_cE 1 (PG u1.heap.size 1 bs.length (U8 (bs))) ent_seneschalbase_BytesZ (fun u hB hs => (cBytes bs _ u hbl ((iB_1.below hB).mono hB.size)).mono fun e u2 ⟨v, e1, h1, h2⟩ => ⟨v, e1, h1.mono hB.size, h2⟩)) ?_
    refine oc (g_sE 0 2 (PG u1.heap.size 1 ks.length (U8 (ks)))) ?_
    exact oc (g_sE 1 3 (PG u1.heap.size 1 bs.length (U8 (bs)))) on
  intro u2 v2_1 hv2_1 v2_3 hv2_3 v2_4 hv2_4 v2_5 hv2_5 HB2 sz2 K2
  simp only [fX, nK, nP, Wr.f, aK, pM] at K2
  simp only [setG, setN, setE, List.set_cons_zero, List.set_cons_succ]
  have hT2 : Below w.heap.size w u2 := bstep hT1 HB2
  have iK_2 : IN u2 u2.heap.size (.slice sl1 m1 cap1) ks := (iK_1.below HB2).mono HB2.size
  have iB_2 : IN u2 u2.heap.size (.slice sl2 m2 cap2) bs := (iB_1.below HB2).mono HB2.size
  have iX_2 : IN u2 u2.heap.size v2_4 ks := PG_in (hv2_4 rfl)
  have iY_2 : IN u2 u2.heap.size v2_5 bs := PG_in (hv2_5 rfl)
  have HBz2 : Below u2.heap.size u2 u2 := Below.refl _ _
  have K2_3 := Bk.nil (u2.heap.size) u2
  go_upto_region 3 with fail
  refine rgF K2_3 HBz2 HBz2.size [] [] [(0, 34, v2_4), (1, 35, v2_5), (5, 38, .int .i64 ee), (7, 8, .int .i64 ee)] [] [] [⟨2, 36, none, PI ee xe⟩, ⟨3, 33, none, PI ee xe⟩, ⟨4, 37, some 6, PI1 xe⟩, ⟨6, 7, none, PI1 xe⟩] [] (.cons (fun _ _ _ h1 h2 => h2.stab h1) <| .cons (fun _ _ _ h1 h2 => h2.stab h1) <| .cons (fun _ _ _ h1 h2 => h2.stab h1) <| .cons (fun _ _ _ h1 h2 => h2.stab h1) <| Stab.nil) ?_ ?_
  · refine oc g_mv ?_
    refine oc g_mv ?_
    refine oc (g_cE 0 (PI ee xe) ent_aes_Encrypt (fun u hB hs => hE.out u _ _ (bstep hT2 hB) ((iX_2.below hB).mono hB.size) ((iY_2.below hB).mono hB.size))) ?_
    refine oc (g_mE 0 1 (PI ee xe)) ?_
    refine oc (g_xE 1 2 (PI ee xe) (PI1 xe) PI.fst) ?_
    refine oc (g_xV 1 (PI ee xe) PI.snd) ?_
    refine oc (g_sE 2 3 (PI1 xe)) ?_
    exact oc g_as on
  intro u3 v3_2 hv3_2 v3_3 hv3_3 v3_4 hv3_4 v3_6 hv3_6 HB3 sz3 K3
  simp only [fX, nK, nP, Wr.f, aK, pM] at K3
  simp only [setG, setN, setE, List.set_cons_zero, List.set_cons_succ]
  have hT3 : Below w.heap.size w u3 := bstep hT2 HB3
  have iK_3 : IN u3 u3.heap.size (.slice sl1 m1 cap1) ks := (iK_2.below HB3).mono HB3.size
  have iB_3 : IN u3 u3.heap.size (.slice sl2 m2 cap2) bs := (iB_2.below HB3).mono HB3.size
  have iX_3 : IN u3 u3.heap.size v2_4 ks := (iX_2.below HB3).mono HB3.size
  have iY_3 : IN u3 u3.heap.size v2_5 bs := (iY_2.below HB3).mono HB3.size
  have jA_3 : IN u3 u3.heap.size v3_6 xe := hv3_6 rfl
  have HBz3 : Below u3.heap.size u3 u3 := Below.refl _ _
  have K3_4 := Bk.nil (u3.heap.size) u3
  go_upto_region 4 with fail
  refine rgF K3_4 HBz3 HBz3.size [] [] [(0, 40, (.slice sl1 m1 cap1)), (1, 41, (.slice sl2 m2 cap2)), (5, 44, .int .i64 ee), (7, 10, .int .i64 ee)] [] [] [⟨2, 42, none, PI ee xe⟩, ⟨3, 39, none, PI ee xe⟩, ⟨4, 43, some 6, PI1 xe⟩, ⟨6, 9, none, PI1 xe⟩] [] (.cons (fun _ _ _ h1 h2 => h2.stab h1) <| .cons (fun _ _ _ h1 h2 => h2.stab h1) <| .cons (fun _ _ _ h1 h2 => h2.stab h1) <| .cons (fun _ _ _ h1 h2 => h2.stab h1) <| Stab.nil) ?_ ?_
  · refine oc g_mv ?_
    refine oc g_mv ?_
    refine oc (g_cE 0 (PI ee xe) ent_seneschalref06_Encrypt (fun u hB hs => hER.out u _ _ (bstep hT3 hB) ((iK_3.below hB).mono hB.size) ((iB_3.below hB).mono hB.size))) ?_
    refine oc (g_mE 0 1 (PI ee xe)) ?_
    refine oc (g_xE 1 2 (PI ee xe) (PI1 xe) PI.fst) ?_
    refine oc (g_xV 1 (PI ee xe) PI.snd) ?_
    refine oc (g_sE 2 3 (PI1 xe)) ?_
    exact oc g_as on
  intro u4 v4_2 hv4_2 v4_3 hv4_3 v4_4 hv4_4 v4_6 hv4_6 HB4 sz4 K4
  simp only [fX, nK, nP, Wr.f, aK, pM] at K4
  simp only [setG, setN, setE, List.set_cons_zero, List.set_cons_succ]
  have hT4 : Below w.heap.size w u4 := bstep hT3 HB4
  have iK_4 : IN u4 u4.heap.size (.slice sl1 m1 cap1) ks := (iK_3.below HB4).mono HB4.size
  have iB_4 : IN u4 u4.heap.size (.slice sl2 m2 cap2) bs := (iB_3.below HB4).mono HB4.size
  have iX_4 : IN u4 u4.heap.size v2_4 ks := (iX_3.below HB4).mono HB4.size
  have iY_4 : IN u4 u4.heap.size v2_5 bs := (iY_3.below HB4).mono HB4.size
  have jA_4 : IN u4 u4.heap.size v3_6 xe := (jA_3.below HB4).mono HB4.size
  have jB_4 : IN u4 u4.heap.size v4_6 xe := hv4_6 rfl
  have HBz4 : Below u4.heap.size u4 u4 := Below.refl _ _
  have K4_5 := Bk.nil (u4.heap.size) u4
  go_upto_region 5 with fail
  refine rgF K4_5 HBz4 HBz4.size [] [] [(0, 46, v2_4), (1, 47, v2_5), (5, 50, .int .i64 ee), (7, 12, .int .i64 ee)] [] [] [⟨2, 48, none, PI ee xd⟩, ⟨3, 45, none, PI ee xd⟩, ⟨4, 49, some 6, PI1 xd⟩, ⟨6, 11, none, PI1 xd⟩] [] (.cons (fun _ _ _ h1 h2 => h2.stab h1) <| .cons (fun _ _ _ h1 h2 => h2.stab h1) <| .cons (fun _ _ _ h1 h2 => h2.stab h1) <| .cons (fun _ _ _ h1 h2 => h2.stab h1) <| Stab.nil) ?_ ?_
  · refine oc g_mv ?_
    refine oc g_mv ?_
    refine oc (g_cE 0 (PI ee xd) ent_aes_Decrypt (fun u hB hs => hD.out u _ _ (bstep hT4 hB) ((iX_4.below hB).mono hB.size) ((iY_4.below hB).mono hB.size))) ?_
    refine oc (g_mE 0 1 (PI ee xd)) ?_
    refine oc (g_xE 1 2 (PI ee xd) (PI1 xd) PI.fst) ?_
    refine oc (g_xV 1 (PI ee xd) PI.snd) ?_
    refine oc (g_sE 2 3 (PI1 xd)) ?_
    exact oc g_as on
  intro u5 v5_2 hv5_2 v5_3 hv5_3 v5_4 hv5_4 v5_6 hv5_6 HB5 sz5 K5
  simp only [fX, nK, nP, Wr.f, aK, pM] at K5
  simp only [setG, setN, setE, List.set_cons_zero, List.set_cons_succ]
  have hT5 : Below w.heap.size w u5 := bstep hT4 HB5
  have iK_5 : IN u5 u5.heap.size (.slice sl1 m1 cap1) ks := (iK_4.below HB5).mono HB5.size
  have iB_5 : IN u5 u5.heap.size (.slice sl2 m2 cap2) bs := (iB_4.below HB5).mono HB5.size
  have iX_5 : IN u5 u5.heap.size v2_4 ks := (iX_4.below HB5).mono HB5.size
  have iY_5 : IN u5 u5.heap.size v2_5 bs := (iY_4.below HB5).mono HB5.size
  have jA_5 : IN u5 u5.heap.size v3_6 xe := (jA_4.below HB5).mono HB5.size
  have jB_5 : IN u5 u5.heap.size v4_6 xe := (jB_4.below HB5).mono HB5.size
  have jC_5 : IN u5 u5.heap.size v5_6 xd := hv5_6 rfl
  have HBz5 : Below u5.heap.size u5 u5 := Below.refl _ _
  have K5_6 := Bk.nil (u5.heap.size) u5
  go_upto_region 6 with fail
  refine rgF K5_6 HBz5 HBz5.size [] [] [(0, 52, (.slice sl1 m1 cap1)), (1, 53, (.slice sl2 m2 cap2)), (5, 56, .int .i64 ee), (7, 14, .int .i64 ee)] [] [] [⟨2, 54, none, PI ee xd⟩, ⟨3, 51, none, PI ee xd⟩, ⟨4, 55, some 6, PI1 xd⟩, ⟨6, 13, none, PI1 xd⟩] [] (.cons (fun _ _ _ h1 h2 => h2.stab h1) <| .cons (fun _ _ _ h1 h2 => h2.stab h1) <| .cons (fun _ _ _ h1 h2 => h2.stab h1) <| .cons (fun _ _ _ h1 h2 => h2.stab h1) <| Stab.nil) ?_ ?_
  · refine oc g_mv ?_
    refine oc g_mv ?_
    refine oc (g_cE 0 (PI ee xd) ent_seneschalref06_Decrypt (fun u hB hs => hDR.out u _ _ (bstep hT5 hB) ((iK_5.below hB).mono hB.size) ((iB_5.below hB).mono hB.size))) ?_
    refine oc (g_mE 0 1 (PI ee xd)) ?_
    refine oc (g_xE 1 2 (PI ee xd) (PI1 xd) PI.fst) ?_
    refine oc (g_xV 1 (PI ee xd) PI.snd) ?_
    refine oc (g_sE 2 3 (PI1 xd)) ?_
    exact oc g_as on
  intro u6 v6_2 hv6_2 v6_3 hv6_3 v6_4 hv6_4 v6_6 hv6_6 HB6 sz6 K6
  simp only [fX, nK, nP, Wr.f, aK, pM] at K6
  simp only [setG, setN, setE, List.set_cons_zero, List.set_cons_succ]
  have hT6 : Below w.heap.size w u6 := bstep hT5 HB6
  have iK_6 : IN u6 u6.heap.size (.slice sl1 m1 cap1) ks := (iK_5.below HB6).mono HB6.size
  have iB_6 : IN u6 u6.heap.size (.slice sl2 m2 cap2) bs := (iB_5.below HB6).mono HB6.size
  have iX_6 : IN u6 u6.heap.size v2_4 ks := (iX_5.below HB6).mono HB6.size
  have iY_6 : IN u6 u6.heap.size v2_5 bs := (iY_5.below HB6).mono HB6.size
  have jA_6 : IN u6 u6.heap.size v3_6 xe := (jA_5.below HB6).mono HB6.size
  have jB_6 : IN u6 u6.heap.size v4_6 xe := (jB_5.below HB6).mono HB6.size
  have jC_6 : IN u6 u6.heap.size v5_6 xd := (jC_5.below HB6).mono HB6.size
  have jD_6 : IN u6 u6.heap.size v6_6 xd := hv6_6 rfl
  have HBz6 : Below u6.heap.size u6 u6 := Below.refl _ _
  have K6_7 := Bk.nil (u6.heap.size) u6
  go_upto_region 7 with fail
  refine rgP K6_7 HBz6 HBz6.size [] [(5, 15, U8 (z176), some (6, U8 (kx)))] [(0, 58, v2_4), (1, 59, .tuple #[.agg (U8 (kx)).toArray, .int .i64 ek]), (2, 57, .tuple #[.agg (U8 (kx)).toArray, .int .i64 ek]), (3, 60, .agg (U8 (kx)).toArray), (4, 61, .int .i64 ek), (7, 16, .int .i64 ek)] [(6, 5)] [] [] ?_ ?_
  · refine oc g_mv ?_
    refine oc (g_cb ent_aes_Keys (fun uZ bZ => hK.out uZ _ (bstep hT6 bZ) ((iX_6.below bZ).mono bZ.size))) ?_
    refine oc g_mv ?_
    refine oc g_ex ?_
    refine oc g_ex ?_
    refine oc (g_al 0 al__11__16_uint8) ?_
    refine oc (g_sn 0 info__11__16_uint8 (h1 := U8_one _) (hm := by rw [U8_len, hkx]) (hl := by first | rw [U8_len, U8_len, hkx, show z176.length = 176 from hz176] | rfl)) ?_
    exact oc g_as on
  intro u7 b7_5 HB7 sz7 K7
  simp only [fX, nK, nP, Wr.f, aK, pM] at K7
  simp only [setG, setN, List.set_cons_zero, List.set_cons_succ]
  go_upto_region 8 with fail
  refine rgP K7 HB7 HB7.size [] [(5, 17, U8 (z176), some (6, U8 (kx)))] [(0, 63, (.slice sl1 m1 cap1)), (1, 64, .tuple #[.agg (U8 (kx)).toArray, .int .i64 ek]), (2, 62, .tuple #[.agg (U8 (kx)).toArray, .int .i64 ek]), (3, 65, .agg (U8 (kx)).toArray), (4, 66, .int .i64 ek), (7, 18, .int .i64 ek)] [(6, 5)] [] [] ?_ ?_
  · refine oc g_mv ?_
    refine oc (g_cb ent_seneschalref06_Keys (fun uZ bZ => hKR.out uZ _ (bstep hT6 bZ) ((iK_6.below bZ).mono bZ.size))) ?_
    refine oc g_mv ?_
    refine oc g_ex ?_
    refine oc g_ex ?_
    refine oc (g_al 0 al__11__16_uint8) ?_
    refine oc (g_sn 0 info__11__16_uint8 (h1 := U8_one _) (hm := by rw [U8_len, hkx]) (hl := by first | rw [U8_len, U8_len, hkx, show z176.length = 176 from hz176] | rfl)) ?_
    exact oc g_as on
  intro u8 b8_5 HB8 sz8 K8
  simp only [fX, nK, nP, Wr.f, aK, pM] at K8
  simp only [setG, setN, List.set_cons_zero, List.set_cons_succ]
  clear K7 HB7
  go_upto_region 9 with fail
  refine rgP K8 HB8 HB8.size [] [] [(0, 67, v3_6), (1, 68, v4_6), (2, 69, .bool true), (3, 70, .bool true), (4, 71, .int .i64 ee), (5, 72, .int .i64 ee), (6, 73, .bool true), (7, 74, .bool true), (8, 75, .bool true), (9, 76, v5_6), (10, 77, v6_6), (11, 78, .bool true), (12, 79, .bool true), (13, 80, .bool true), (14, 81, .int .i64 ee), (15, 82, .int .i64 ee), (16, 83, .bool true), (17, 84, .bool true), (18, 85, .bool true), (19, 86, .agg (U8 (kx)).toArray), (20, 87, .agg (U8 (kx)).toArray), (21, 88, .bool true), (22, 89, .bool true), (23, 90, .bool true), (24, 91, .int .i64 ek), (25, 92, .int .i64 ek), (26, 93, .bool true), (27, 94, .bool true), (28, 95, .bool true), (29, 96, v2_4), (30, 97, (.slice sl1 m1 cap1)), (31, 98, .bool true), (32, 99, .bool true), (33, 100, .bool true), (34, 101, v2_5), (35, 102, (.slice sl2 m2 cap2)), (36, 103, .bool true), (37, 104, .bool true), (38, 105, .bool true), (39, 106, .bool true), (40, 107, .bool true), (41, 4, .bool true)] [] [] [] ?_ ?_
  · refine oc g_mv ?_
    refine oc g_mv ?_
    refine oc (g_cb ent_seneschalbase_SameBytes (fun uZ bZ => hSe.out uZ _ _ ((jA_6.below bZ).mono bZ.size) ((jB_6.below bZ).mono bZ.size))) ?_
    refine oc g_mv ?_
    refine oc g_mv ?_
    refine oc g_mv ?_
    refine oc (g_bn (fun uZ => eqe _ _ ee ee true uZ (by simp))) ?_
    refine oc g_pk ?_
    refine oc g_mv ?_
    refine oc g_mv ?_
    refine oc g_mv ?_
    refine oc (g_cb ent_seneschalbase_SameBytes (fun uZ bZ => hSd.out uZ _ _ ((jC_6.below bZ).mono bZ.size) ((jD_6.below bZ).mono bZ.size))) ?_
    refine oc g_pk ?_
    refine oc g_mv ?_
    refine oc g_mv ?_
    refine oc g_mv ?_
    refine oc (g_bn (fun uZ => eqe _ _ ee ee true uZ (by simp))) ?_
    refine oc g_pk ?_
    refine oc g_mv ?_
    refine oc (g_lR 0 0 (cs := U8 (kx)) (fun j v h => by rw [Nat.zero_add]; exact h) Tryd.underlying33 (by rw [U8_len, hkx]; exact info__11__16_uint8)) ?_
    refine oc (g_lR 1 0 (cs := U8 (kx)) (fun j v h => by rw [Nat.zero_add]; exact h) Tryd.underlying33 (by rw [U8_len, hkx]; exact info__11__16_uint8)) ?_
    refine oc (g_bn (fun uZ => hqk.out _ _ uZ)) ?_
    refine oc g_pk ?_
    refine oc g_mv ?_
    refine oc g_mv ?_
    refine oc g_mv ?_
    refine oc (g_bn (fun uZ => eqe _ _ ek ek true uZ (by simp))) ?_
    refine oc g_pk ?_
    refine oc g_mv ?_
    refine oc g_mv ?_
    refine oc g_mv ?_
    refine oc (g_cb ent_seneschalbase_SameBytes (fun uZ bZ => hSk.out uZ _ _ ((iX_6.below bZ).mono bZ.size) ((iK_6.below bZ).mono bZ.size))) ?_
    refine oc g_pk ?_
    refine oc g_mv ?_
    refine oc g_mv ?_
    refine oc g_mv ?_
    refine oc (g_cb ent_seneschalbase_SameBytes (fun uZ bZ => hSb.out uZ _ _ ((iY_6.below bZ).mono bZ.size) ((iB_6.below bZ).mono bZ.size))) ?_
    refine oc g_pk ?_
    refine oc g_mv ?_
    refine oc (g_cb ent_seneschallaw06_works (fun uZ bZ => hW.out uZ (bstep hT6 bZ))) ?_
    refine oc g_pk ?_
    exact oc g_as on
  intro u9 HB9 sz9 K9
  simp only [fX, nK, nP, Wr.f, aK, pM] at K9
  simp only [setG, setN, List.set_cons_zero, List.set_cons_succ]
  clear K8 HB8
  go_wp2
  refine bodyPost_ret (v := .bool true) (by simp [results, Tryd.results4, go_sem]) rfl ⟨rfl, bstep hT6 HB9⟩
theorem in_40 {sl : Option Addr} {cap gb go : Nat} {xs : List Nat} {W : World} (k1 : xs.length ≤ cap) (k3 : xs.length = 0 ∨ sl = some ⟨gb, go, none⟩) (k4 : gb < W.heap.size) (k5 : SB W gb go xs) : IN W W.heap.size (.slice sl (xs.take 40).length cap) (xs.take 40) := by
  have hl : (xs.take 40).length ≤ xs.length := by rw [List.length_take]; omega
  refine ⟨sl, cap, gb, go, rfl, by omega, k3.imp (fun h => by omega) id, k4, fun j hj => ?_⟩
  have hj3 : j < 40 := by rw [List.length_take] at hj; omega
  rw [k5 j (by omega)]
  simp [List.getElem?_take_of_lt hj3]
theorem sameX {xs : List Nat} (hx : ∀ x ∈ xs, x < 256) : Hid (∀ u v v2, IN u u.heap.size v xs → IN u u.heap.size v2 xs → Calls Tryd.prog 21 #[v, v2] u fun e u' => e = .returned (.bool true) ∧ Below u.heap.size u u') := fun u v v2 h1 h2 => by
  have h := cSameB xs xs v v2 u h1 h2 hx hx
  rw [decide_eq_true rfl] at h
  exact h
theorem ansB_lt {ks bs xs : List Nat} (h : ks.length = 16 → bs.length = 16 → ∀ x ∈ xs, x < 256) : ∀ x ∈ ansB ks bs xs, x < 256 := by
  unfold ansB
  by_cases e : ks.length = 16 ∧ bs.length = 16
  · rw [if_pos e]; exact h e.1 e.2
  · rw [if_neg e]; intro x hx; cases hx
theorem aesBlocks_any (sl1 : Option Addr) (cap1 gb1 go1 : Nat) (xs1 : List Nat) (sl2 : Option Addr) (cap2 gb2 go2 : Nat) (xs2 : List Nat) (w : World) (hV : GS6 w) (k11 : xs1.length ≤ cap1) (k21 : sl1 = none → cap1 = 0) (k31 : xs1.length = 0 ∨ sl1 = some ⟨gb1, go1, none⟩) (k41 : gb1 < w.heap.size) (k51 : SB w gb1 go1 xs1) (k61 : ∀ x ∈ xs1, x < 256) (k12 : xs2.length ≤ cap2) (k22 : sl2 = none → cap2 = 0) (k32 : xs2.length = 0 ∨ sl2 = some ⟨gb2, go2, none⟩) (k42 : gb2 < w.heap.size) (k52 : SB w gb2 go2 xs2) (k62 : ∀ x ∈ xs2, x < 256) :
    Calls Tryd.prog 4 #[.slice sl1 xs1.length cap1, .slice sl2 xs2.length cap2] w fun e w' => e = .returned (.bool true) ∧ Below w.heap.size w w' := by
  have h1 := in_40 k11 k31 k41 k51
  have h2 := in_40 k12 k32 k42 k52
  have l1 : (xs1.take 40).length = min 40 xs1.length := List.length_take
  have l2 : (xs2.take 40).length = min 40 xs2.length := List.length_take
  have hx : ∀ x ∈ xs1.take 40, x < 256 := fun x h => k61 x (List.mem_of_mem_take h)
  have hy : ∀ x ∈ xs2.take 40, x < 256 := fun x h => k62 x (List.mem_of_mem_take h)
  obtain ⟨ks, eks⟩ : ∃ v, xs1.take 40 = v := ⟨_, rfl⟩
  obtain ⟨bs, ebs⟩ : ∃ v, xs2.take 40 = v := ⟨_, rfl⟩
  rw [eks] at h1 hx l1
  rw [ebs] at h2 hy l2
  have he : ∀ x ∈ ansB ks bs (encB (rky ks) bs), x < 256 := ansB_lt fun a b => (encB_B (rky_B (BY_of a hx)) (BY_of b hy)).mem
  have hd : ∀ x ∈ ansB ks bs (decB (rky ks) bs), x < 256 := ansB_lt fun a b => (decB_B (rky_B (BY_of a hx)) (BY_of b hy)).mem
  have K : ∃ (kx : List Nat) (ek : Int), keyV ks = .tuple #[.agg (U8 kx).toArray, .int .i64 ek] ∧ BY 176 kx := by
    unfold keyV
    by_cases h : ks.length = 16
    · exact ⟨kyX ks 10, 0, if_pos h, kyX_B (BY_of h hx) 10⟩
    · exact ⟨z176, 2, if_neg h, BY_rep 176⟩
  obtain ⟨kx, ek, ekv, hkx⟩ := K
  refine aesBlocks_core xs1.length cap1 ks.length xs2.length cap2 bs.length sl1 sl2 ks bs (ansB ks bs (encB (rky ks) bs)) (ansB ks bs (decB (rky ks) bs)) kx (ansE ks bs []) ek w (by omega) (by omega) k11 k21 (by omega) (by omega) k12 k22 h1 h2 (by omega) (by omega) List.length_replicate hkx.len
    (fun u v v2 hB a b => aEnc ks bs v v2 u (hV.up hB) a b hx hy) (fun u v v2 hB a b => aEncR ks bs v v2 u a b hx hy (by omega)) (fun u v v2 hB a b => aDec ks bs v v2 u (hV.up hB) a b hx hy) (fun u v v2 hB a b => aDecR ks bs v v2 u a b hx hy (by omega)) (fun u v hB a => ?_) (fun u v hB a => ?_) (sameX he) (sameX hd) (sameX hx) (sameX hy) (fun u hB => works6 u (hV.up hB)) (fun p q w => eql_A176 kx hkx p q w)
  · rw [← ekv]; exact cKeys ks v u (hV.up hB) a hx
  · rw [← ekv]; exact cKeysR ks v u a hx (by omega)
end Go.Proofs.YtlcjbnhfmcnnfaaDoor
