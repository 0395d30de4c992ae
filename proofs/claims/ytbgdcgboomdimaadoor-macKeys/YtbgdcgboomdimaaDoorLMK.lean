/- The law MacKeys: its walk. -/
import Derived.Test.YtbgdcgboomdimaaDoorMK0
namespace Go.Proofs.YtbgdcgboomdimaaDoor
open Go.RowKit
set_option linter.unusedVariables false
set_option linter.unusedSimpArgs false
set_option maxRecDepth 100000 in
set_option maxHeartbeats 4000000 in
theorem macKeys_core (n1 cap1 m1 n2 cap2 m2 kn z : Nat) (sl1 sl2 : Option Addr) (x : Int) (ks ds es : List Nat) (w : World) (hkn : min ((m1 : Nat) : Int) 64 = ((kn : Nat) : Int)) (hkm : kn ≤ m1) (hk64 : kn ≤ 64) (hz64 : kn + z ≤ 64) (hc1 : m1 ≤ cap1) (hsn1 : sl1 = none → cap1 = 0) (hks : ks.length = kn) (hdB : BB 32 ds) (heB : BB 32 es) (hW : Hid (∀ (u : World), Below w.heap.size w u → Calls Tryd.prog 31 #[] u fun e u' => e = .returned (.bool true) ∧ Below u.heap.size u u')) (hSh1 : Hid (∀ (u : World), Calls Tryd.prog 26 #[(.slice sl1 n1 cap1)] u fun e u' => e = .returned (.slice sl1 m1 cap1) ∧ Below u.heap.size u u')) (hSh2 : Hid (∀ (u : World), Calls Tryd.prog 26 #[(.slice sl2 n2 cap2)] u fun e u' => e = .returned (.slice sl2 m2 cap2) ∧ Below u.heap.size u u')) (hA : Hid (∀ (u : World), Calls Tryd.prog 24 #[.int .i64 x, .int .i64 ((65 - kn : Nat) : Int)] u fun e u' => e = .returned (.int .i64 ((z : Nat) : Int)) ∧ Below u.heap.size u u'))
    (hBy : Hid (∀ (u : World), Below w.heap.size w u → Calls Tryd.prog 13 #[(.slice sl1 kn cap1)] u fun e u' => ∃ v, e = .returned v ∧ PG u.heap.size 1 kn (U8 ks) u' v ∧ Below u.heap.size u u'))
    (hS1 : Hid (∀ (u : World), Below w.heap.size w u → Calls Tryd.prog 27 #[(.slice sl1 kn cap1), (.slice sl2 m2 cap2)] u fun e u' => e = .returned (.agg (U8 (ds)).toArray) ∧ Below u.heap.size u u')) (hS2 : Hid (∀ (u : World) (bm cm : Nat) (zs : List Value), Below w.heap.size w u → CV u bm ((U8 (ks) ++ U8 (List.replicate z 0)) ++ zs) → bm < u.heap.size → kn + z ≤ cm → Calls Tryd.prog 27 #[.slice (some ⟨bm, 0, none⟩) (kn + z) cm, (.slice sl2 m2 cap2)] u fun e u' => e = .returned (.agg (U8 (ds)).toArray) ∧ Below u.heap.size u u'))
    (hP1 : Hid (∀ (u : World) (y : Value), Below w.heap.size w u → PS w.heap.size 1 [(.slice sl2 m2 cap2)] u y → Calls Tryd.prog 32 #[(.slice sl1 kn cap1), y] u fun e u' => e = .returned (.agg (U8 (es)).toArray) ∧ Below u.heap.size u u')) (hP2 : Hid (∀ (u : World) (y : Value) (bm cm : Nat) (zs : List Value), Below w.heap.size w u → PS w.heap.size 1 [(.slice sl2 m2 cap2)] u y → CV u bm ((U8 (ks) ++ U8 (List.replicate z 0)) ++ zs) → bm < u.heap.size → kn + z ≤ cm → Calls Tryd.prog 32 #[.slice (some ⟨bm, 0, none⟩) (kn + z) cm, y] u fun e u' => e = .returned (.agg (U8 (es)).toArray) ∧ Below u.heap.size u u')) :
    Calls Tryd.prog 10 #[(.slice sl1 n1 cap1), .int .i64 x, (.slice sl2 n2 cap2)] w fun e w' => e = .returned (.bool true) ∧ Below w.heap.size w w' := by
  go_enter Tryd.func10, Tryd.ntmps10
  have HB0 : Below w.heap.size w w := Below.refl _ _
  have K0_1 := Bk.nil (w.heap.size) w
  go_upto_region 1 with fail
  refine rgP K0_1 HB0 HB0.size [] [] [(0, 9, .bool true), (1, 10, .bool false)] [] [] [] ?_ ?_
  · refine oc (g_cb ent_seneschallaw05_works (fun uZ bZ => hW.out uZ bZ)) ?_
    exact oc (g_un (fun uZ => not_t uZ)) on
  intro u1 HB1 sz1 K1
  simp only [fX, nK, nP, Wr.f, aK, pM] at K1
  simp only [setG, setN, List.set_cons_zero, List.set_cons_succ]
  clear HB0
  go_upto_region 3 with fail
  refine rgP K1 HB1 HB1.size [] [] [(0, 11, (.slice sl1 n1 cap1)), (1, 12, (.slice sl1 m1 cap1)), (2, 13, (.slice sl2 n2 cap2)), (3, 14, (.slice sl2 m2 cap2)), (4, 0, (.slice sl1 m1 cap1)), (5, 2, (.slice sl2 m2 cap2))] [(4, 0), (5, 2)] [(4, 0), (5, 2)] [] ?_ ?_
  · refine oc g_mv ?_
    refine oc (g_cl ent_seneschallaw05_short (fun uZ => hSh1.out uZ)) ?_
    refine oc g_mv ?_
    refine oc (g_cl ent_seneschallaw05_short (fun uZ => hSh2.out uZ)) ?_
    refine oc g_as ?_
    exact oc g_as on
  intro u2 HB2 sz2 K2
  simp only [fX, nK, nP, Wr.f, aK, pM] at K2
  simp only [setG, setN, List.set_cons_zero, List.set_cons_succ]
  clear K1 HB1
  go_upto_region 4 with fail
  refine rgP K2 HB2 HB2.size [] [] [(0, 15, (.slice sl1 m1 cap1)), (1, 16, (.slice sl1 m1 cap1)), (2, 17, .int .i64 ((m1 : Nat) : Int)), (3, 18, .int .i64 ((kn : Nat) : Int)), (4, 19, (.slice sl1 kn cap1)), (5, 7, (.slice sl1 kn cap1))] [] [] [] ?_ ?_
  · refine oc g_mv ?_
    refine oc g_mv ?_
    refine oc (g_ln Tryd.underlying22) ?_
    refine oc (g_mn hkn) ?_
    refine oc (g_sl (fun uZ => slHB sl1 m1 cap1 kn hkm hc1 hsn1 uZ)) ?_
    exact oc g_as on
  intro u3 HB3 sz3 K3
  simp only [fX, nK, nP, Wr.f, aK, pM] at K3
  simp only [setG, setN, List.set_cons_zero, List.set_cons_succ]
  clear K2 HB2
  have hlo5 := HB3.size
  go_upto_region 5 with fail
  refine rgF K3 HB3 HB3.size [] [] [(0, 20, (.slice sl1 kn cap1)), (2, 22, .int .i64 x), (3, 23, (.slice sl1 kn cap1)), (4, 24, .int .i64 ((kn : Nat) : Int)), (5, 25, .int .i64 ((65 - kn : Nat) : Int)), (6, 26, .int .i64 ((z : Nat) : Int))] [(8, 7)] [] [⟨1, 21, some 7, PG u3.heap.size 1 kn (U8 (ks))⟩, ⟨7, 27, some 8, PG u3.heap.size 1 (kn + z) (U8 (ks) ++ U8 (List.replicate z 0))⟩, ⟨8, 8, none, PG u3.heap.size 1 (kn + z) (U8 (ks) ++ U8 (List.replicate z 0))⟩] [] (.cons (fun _ _ _ h1 h2 => h2.stab h1) <| .cons (fun _ _ _ h1 h2 => h2.stab h1) <| .cons (fun _ _ _ h1 h2 => h2.stab h1) <| Stab.nil) ?_ ?_
  · refine oc g_mv ?_
    refine oc (g_cE 0 (PG u3.heap.size 1 kn (U8 (ks))) ent_seneschalbase_Bytes (fun u hB hs => (hBy.out u hB).mono fun e u2 ⟨v, e1, h1, h2⟩ => ⟨v, e1, h1.mono hs, h2⟩)) ?_
    refine oc g_mv ?_
    refine oc g_mv ?_
    refine oc (g_ln Tryd.underlying22) ?_
    refine oc (g_bn (fun uZ => sub_i _ _ 65 (kn : Int) ((65 - kn : Nat) : Int) uZ (by omega) (by omega) (by omega))) ?_
    refine oc (g_cl ent_seneschalbase_Among (fun uZ => hA.out uZ)) ?_
    refine oc (g_aZ 0 1 (PG u3.heap.size 1 kn (U8 (ks))) (PG u3.heap.size 1 (kn + z) (U8 (ks) ++ U8 (List.replicate z 0))) (fun f u vs kZ bZ hs hv => run_appZ u (by rw [U8_len, hks]) hv hs (by omega))) ?_
    exact oc (g_sE 1 2 (PG u3.heap.size 1 (kn + z) (U8 (ks) ++ U8 (List.replicate z 0)))) on
  intro u4 v4_1 hv4_1 v4_7 hv4_7 v4_8 hv4_8 HB4 sz4 K4
  simp only [fX, nK, nP, Wr.f, aK, pM] at K4
  simp only [setG, setN, setE, List.set_cons_zero, List.set_cons_succ]
  clear HB3
  obtain ⟨bm, cm, zs, rfl, ho1, ho2, hcm, hzm, hoC⟩ := hv4_8 rfl
  have K4xmo := Bk.moreT K3 K4 (by omega) ho1 ho2 hoC (by intro x hx; first | (simp at hx; done) | (simp at hx ⊢; omega))
  simp only [aK] at K4xmo
  clear K4
  go_upto_region 6 with fail
  refine rgF K4xmo HB4 HB4.size [] [] [(0, 28, (.slice sl1 kn cap1)), (1, 29, (.slice sl2 m2 cap2)), (2, 30, .agg (U8 (ds)).toArray), (3, 31, .slice (some ⟨bm, 0, none⟩) (kn + z) cm), (4, 32, (.slice sl2 m2 cap2)), (5, 33, .agg (U8 (ds)).toArray), (6, 34, .bool true), (7, 35, .bool true), (8, 36, (.slice sl1 kn cap1)), (9, 37, (.slice sl2 m2 cap2)), (11, 39, .agg (U8 (es)).toArray), (12, 40, .slice (some ⟨bm, 0, none⟩) (kn + z) cm), (13, 41, (.slice sl2 m2 cap2)), (15, 43, .agg (U8 (es)).toArray), (16, 44, .bool true), (17, 45, .bool true), (18, 6, .bool true)] [] [] [⟨10, 38, some 11, PS w.heap.size 1 [(.slice sl2 m2 cap2)]⟩, ⟨14, 42, some 15, PS w.heap.size 1 [(.slice sl2 m2 cap2)]⟩] [] (.cons (fun _ _ _ h1 h2 => h2.stab h1) <| .cons (fun _ _ _ h1 h2 => h2.stab h1) <| Stab.nil) ?_ ?_
  · refine oc g_mv ?_
    refine oc g_mv ?_
    refine oc (g_cb ent_mac_Sum (fun uZ bZ => hS1.out uZ bZ)) ?_
    refine oc g_mv ?_
    refine oc g_mv ?_
    refine oc (g_cK ent_mac_Sum (fun fZ uZ kZ sZ bZ => hS2.out uZ bm cm zs bZ (kZ.cv 0) (kZ.lb sZ 0) hcm)) ?_
    refine oc (g_bn (fun uZ => eql_A8 ds hdB _ _ uZ)) ?_
    refine oc g_mv ?_
    refine oc g_mv ?_
    refine oc g_mv ?_
    refine oc (g_bR 0 (PS w.heap.size 1 [(.slice sl2 m2 cap2)]) [0] [(.slice sl2 m2 cap2)] [(.slice sl2 m2 cap2)] (bsSl _ _ _) (fun u hu => PS.new 1 _ _ u (Nat.le_trans HB4.size hu))) ?_
    refine oc (g_c2 0 (PS w.heap.size 1 [(.slice sl2 m2 cap2)]) ent_mac_Parts (fun uZ y bZ hy => hP1.out uZ y bZ hy)) ?_
    refine oc g_mv ?_
    refine oc g_mv ?_
    refine oc (g_bR 1 (PS w.heap.size 1 [(.slice sl2 m2 cap2)]) [0] [(.slice sl2 m2 cap2)] [(.slice sl2 m2 cap2)] (bsSl _ _ _) (fun u hu => PS.new 1 _ _ u (Nat.le_trans HB4.size hu))) ?_
    refine oc (g_cL 1 (PS w.heap.size 1 [(.slice sl2 m2 cap2)]) ent_mac_Parts (fun fZ uZ y kZ sZ bZ hy => hP2.out uZ y bm cm zs bZ hy (kZ.cv 0) (kZ.lb sZ 0) hcm)) ?_
    refine oc (g_bn (fun uZ => eql_A8 es heB _ _ uZ)) ?_
    refine oc g_pk ?_
    exact oc g_as on
  intro u5 v5_10 hv5_10 v5_14 hv5_14 HB5 sz5 K5
  simp only [fX, nK, nP, Wr.f, aK, pM] at K5
  simp only [setG, setN, setE, List.set_cons_zero, List.set_cons_succ]
  clear HB4
  go_wp2
  refine bodyPost_ret (v := .bool true) (by simp [results, Tryd.results10, go_sem, ]) rfl ⟨rfl, HB5⟩
end Go.Proofs.YtbgdcgboomdimaaDoor
