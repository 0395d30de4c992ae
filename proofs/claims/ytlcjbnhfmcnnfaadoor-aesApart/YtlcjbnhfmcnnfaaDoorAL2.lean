/- The laws AesBack and AesApart: their walks. -/
import Derived.Test.YtlcjbnhfmcnnfaaDoorAL1
import Derived.Test.YtlcjbnhfmcnnfaaDoorAQ
namespace Go.Proofs.YtlcjbnhfmcnnfaaDoor
open Go.RowKit
set_option linter.unusedVariables false
set_option linter.unusedSimpArgs false
set_option maxRecDepth 100000 in
set_option maxHeartbeats 4000000 in
theorem aesBack_core (ks bs xs ys : List Nat) (w : World) (hkl : ks.length = 16) (hbl : bs.length = 16) (hxl : xs.length = 16) (hyl : ys.length = 16) (hW : Hid (∀ u, Below w.heap.size w u → Calls Tryd.prog 13 #[] u fun e u' => e = .returned (.bool true) ∧ Below u.heap.size u u')) (hE : Hid (∀ u v v2, Below w.heap.size w u → IN u u.heap.size v ks → IN u u.heap.size v2 bs → Calls Tryd.prog 15 #[v, v2] u fun e u' => ∃ v, e = .returned v ∧ PT 0 u.heap.size 16 (U8 (xs)) u' v ∧ Below u.heap.size u u')) (hD : Hid (∀ u v v2, Below w.heap.size w u → IN u u.heap.size v ks → IN u u.heap.size v2 xs → Calls Tryd.prog 17 #[v, v2] u fun e u' => ∃ v, e = .returned v ∧ PT 0 u.heap.size 16 (U8 (bs)) u' v ∧ Below u.heap.size u u')) (hD2 : Hid (∀ u v v2, Below w.heap.size w u → IN u u.heap.size v ks → IN u u.heap.size v2 bs → Calls Tryd.prog 17 #[v, v2] u fun e u' => ∃ v, e = .returned v ∧ PT 0 u.heap.size 16 (U8 (ys)) u' v ∧ Below u.heap.size u u')) (hE2 : Hid (∀ u v v2, Below w.heap.size w u → IN u u.heap.size v ks → IN u u.heap.size v2 ys → Calls Tryd.prog 15 #[v, v2] u fun e u' => ∃ v, e = .returned v ∧ PT 0 u.heap.size 16 (U8 (bs)) u' v ∧ Below u.heap.size u u')) (hS : Hid (∀ u v v2, IN u u.heap.size v bs → IN u u.heap.size v2 bs → Calls Tryd.prog 21 #[v, v2] u fun e u' => e = .returned (.bool true) ∧ Below u.heap.size u u')) :
    Calls Tryd.prog 5 #[.agg (U8 (ks)).toArray, .agg (U8 (bs)).toArray] w fun e w' => e = .returned (.bool true) ∧ Below w.heap.size w w' := by
  go_enter Tryd.func5, Tryd.ntmps5
  go_upto_region 1 with fail
  generalize hC : ((w.alloc (.cells (U8 (ks) : List Value).toArray 32)).alloc (.cells (U8 (bs) : List Value).toArray 32)) = v0 at *
  have HB0 : Below w.heap.size w v0 := by rw [← hC]; exact balloc (balloc (bself w) _) _
  have K0 : Bk w.heap.size v0 [(true, w.heap.size, U8 (ks)), (true, w.heap.size + 1, U8 (bs))] := by rw [← hC]; exact (Bk.nil _ w).ad.ad
  clear hC
  have hlp0 := hkl
  have hlp1 := hbl
  have hlxa := hxl
  have hlxc := hyl
  have hlxb := hbl
  have hlxd := hbl
  refine rgP K0 HB0 HB0.size [] [] [(0, 13, .bool true), (1, 14, .bool false)] [] [] [] ?_ ?_
  · refine oc (g_cb ent_seneschallaw06_works (fun uZ bZ => hW.out uZ bZ)) ?_
    exact oc (g_un (fun uZ => not_t uZ)) on
  intro u1 HB1 sz1 K1
  simp only [fX, nK, nP, Wr.f, aK, pM] at K1
  simp only [setG, setN, List.set_cons_zero, List.set_cons_succ]
  clear K0 HB0
  have hlo3 := HB1.size
  go_upto_region 3 with fail
  refine rgE K1 HB1 HB1.size [] [] [(0, 16, .slice (some ⟨w.heap.size, 0, none⟩) 16 16), (1, 17, .slice (some ⟨w.heap.size + 1, 0, none⟩) 16 16), (5, 20, .int .i64 0), (7, 6, .int .i64 0)] [] [] [⟨2, 18, none, PT 0 u1.heap.size 16 (U8 (xs))⟩, ⟨3, 15, none, PT 0 u1.heap.size 16 (U8 (xs))⟩, ⟨4, 19, some 6, PS u1.heap.size 16 (U8 (xs))⟩, ⟨6, 5, none, PS u1.heap.size 16 (U8 (xs))⟩] [] (.cons (fun _ _ _ h1 h2 => h2.stab h1) <| .cons (fun _ _ _ h1 h2 => h2.stab h1) <| .cons (fun _ _ _ h1 h2 => h2.stab h1) <| .cons (fun _ _ _ h1 h2 => h2.stab h1) <| Stab.nil) ?_ ?_
  · refine oc (g_sl (fun uZ => slW16 (w.heap.size) uZ)) ?_
    refine oc (g_sl (fun uZ => slW16 (w.heap.size + 1) uZ)) ?_
    refine oc (g_cM 0 (PT 0 u1.heap.size 16 (U8 (xs))) ent_aes_Encrypt (fun fZ uZ kZ sZ bZ => (hE.out uZ _ _ bZ (inT (kZ.cv 0) (kZ.lb sZ 0) hlp0 (Nat.le_refl _)) (inT (kZ.cv 1) (kZ.lb sZ 1) hlp1 (Nat.le_refl _))).mono fun e u2 ⟨v, e1, h1, h2⟩ => ⟨v, e1, h1.mono sZ, h2⟩)) ?_
    refine oc (g_mE 0 1 (PT 0 u1.heap.size 16 (U8 (xs)))) ?_
    refine oc (g_xE 1 2 (PT 0 u1.heap.size 16 (U8 (xs))) (PS u1.heap.size 16 (U8 (xs))) PT.fst) ?_
    refine oc (g_xV 1 (PT 0 u1.heap.size 16 (U8 (xs))) PT.snd) ?_
    refine oc (g_sE 2 3 (PS u1.heap.size 16 (U8 (xs)))) ?_
    exact oc g_as on
  intro u2 v2_2 hv2_2 v2_3 hv2_3 v2_4 hv2_4 v2_6 hv2_6 HB2 sz2 K2
  simp only [fX, nK, nP, Wr.f, aK, pM] at K2
  simp only [setG, setN, setE, List.set_cons_zero, List.set_cons_succ]
  clear HB1
  obtain ⟨bxa, cxa, rfl, ho1xa, ho2xa, hcxa, hoCxa⟩ := hv2_6 rfl
  have K2xxa := Bk.moreT K1 K2 (by omega) ho1xa ho2xa hoCxa (by intro x hx; first | (simp at hx; done) | (simp at hx ⊢; omega))
  simp only [aK] at K2xxa
  clear K2
  have hlo4 := HB2.size
  go_upto_region 4 with fail
  refine rgF K2xxa HB2 HB2.size [] [] [(0, 22, .slice (some ⟨w.heap.size, 0, none⟩) 16 16), (1, 23, .slice (some ⟨bxa, 0, none⟩) 16 cxa), (5, 26, .int .i64 0), (7, 8, .int .i64 0)] [] [] [⟨2, 24, none, PT 0 u2.heap.size 16 (U8 (bs))⟩, ⟨3, 21, none, PT 0 u2.heap.size 16 (U8 (bs))⟩, ⟨4, 25, some 6, PS u2.heap.size 16 (U8 (bs))⟩, ⟨6, 7, none, PS u2.heap.size 16 (U8 (bs))⟩] [] (.cons (fun _ _ _ h1 h2 => h2.stab h1) <| .cons (fun _ _ _ h1 h2 => h2.stab h1) <| .cons (fun _ _ _ h1 h2 => h2.stab h1) <| .cons (fun _ _ _ h1 h2 => h2.stab h1) <| Stab.nil) ?_ ?_
  · refine oc (g_sl (fun uZ => slW16 (w.heap.size) uZ)) ?_
    refine oc g_mv ?_
    refine oc (g_cM 0 (PT 0 u2.heap.size 16 (U8 (bs))) ent_aes_Decrypt (fun fZ uZ kZ sZ bZ => (hD.out uZ _ _ bZ (inT (kZ.cv 0) (kZ.lb sZ 0) hlp0 (Nat.le_refl _)) (inT (kZ.cv 2) (kZ.lb sZ 2) hlxa (hcxa))).mono fun e u2 ⟨v, e1, h1, h2⟩ => ⟨v, e1, h1.mono sZ, h2⟩)) ?_
    refine oc (g_mE 0 1 (PT 0 u2.heap.size 16 (U8 (bs)))) ?_
    refine oc (g_xE 1 2 (PT 0 u2.heap.size 16 (U8 (bs))) (PS u2.heap.size 16 (U8 (bs))) PT.fst) ?_
    refine oc (g_xV 1 (PT 0 u2.heap.size 16 (U8 (bs))) PT.snd) ?_
    refine oc (g_sE 2 3 (PS u2.heap.size 16 (U8 (bs)))) ?_
    exact oc g_as on
  intro u3 v3_2 hv3_2 v3_3 hv3_3 v3_4 hv3_4 v3_6 hv3_6 HB3 sz3 K3
  simp only [fX, nK, nP, Wr.f, aK, pM] at K3
  simp only [setG, setN, setE, List.set_cons_zero, List.set_cons_succ]
  clear HB2
  obtain ⟨bxb, cxb, rfl, ho1xb, ho2xb, hcxb, hoCxb⟩ := hv3_6 rfl
  have K3xxb := Bk.moreT K2xxa K3 (by omega) ho1xb ho2xb hoCxb (by intro x hx; first | (simp at hx; done) | (simp at hx ⊢; omega))
  simp only [aK] at K3xxb
  clear K3
  have hlo5 := HB3.size
  go_upto_region 5 with fail
  refine rgE K3xxb HB3 HB3.size [] [] [(0, 28, .slice (some ⟨w.heap.size, 0, none⟩) 16 16), (1, 29, .slice (some ⟨w.heap.size + 1, 0, none⟩) 16 16), (5, 32, .int .i64 0), (7, 10, .int .i64 0)] [] [] [⟨2, 30, none, PT 0 u3.heap.size 16 (U8 (ys))⟩, ⟨3, 27, none, PT 0 u3.heap.size 16 (U8 (ys))⟩, ⟨4, 31, some 6, PS u3.heap.size 16 (U8 (ys))⟩, ⟨6, 9, none, PS u3.heap.size 16 (U8 (ys))⟩] [true, true, false] (.cons (fun _ _ _ h1 h2 => h2.stab h1) <| .cons (fun _ _ _ h1 h2 => h2.stab h1) <| .cons (fun _ _ _ h1 h2 => h2.stab h1) <| .cons (fun _ _ _ h1 h2 => h2.stab h1) <| Stab.nil) ?_ ?_
  · refine oc (g_sl (fun uZ => slW16 (w.heap.size) uZ)) ?_
    refine oc (g_sl (fun uZ => slW16 (w.heap.size + 1) uZ)) ?_
    refine oc (g_cM 0 (PT 0 u3.heap.size 16 (U8 (ys))) ent_aes_Decrypt (fun fZ uZ kZ sZ bZ => (hD2.out uZ _ _ bZ (inT (kZ.cv 0) (kZ.lb sZ 0) hlp0 (Nat.le_refl _)) (inT (kZ.cv 1) (kZ.lb sZ 1) hlp1 (Nat.le_refl _))).mono fun e u2 ⟨v, e1, h1, h2⟩ => ⟨v, e1, h1.mono sZ, h2⟩)) ?_
    refine oc (g_mE 0 1 (PT 0 u3.heap.size 16 (U8 (ys)))) ?_
    refine oc (g_xE 1 2 (PT 0 u3.heap.size 16 (U8 (ys))) (PS u3.heap.size 16 (U8 (ys))) PT.fst) ?_
    refine oc (g_xV 1 (PT 0 u3.heap.size 16 (U8 (ys))) PT.snd) ?_
    refine oc (g_sE 2 3 (PS u3.heap.size 16 (U8 (ys)))) ?_
    exact oc g_as on
  intro u4 v4_2 hv4_2 v4_3 hv4_3 v4_4 hv4_4 v4_6 hv4_6 HB4 sz4 K4
  simp only [fX, nK, nP, Wr.f, aK, pM] at K4
  simp only [setG, setN, setE, List.set_cons_zero, List.set_cons_succ]
  clear HB3
  obtain ⟨bxc, cxc, rfl, ho1xc, ho2xc, hcxc, hoCxc⟩ := hv4_6 rfl
  have K4xxc := Bk.moreT K3xxb K4 (by omega) ho1xc ho2xc hoCxc (by intro x hx; first | (simp at hx; done) | (simp at hx ⊢; omega))
  simp only [aK] at K4xxc
  clear K4
  have hlo6 := HB4.size
  go_upto_region 6 with fail
  refine rgF K4xxc HB4 HB4.size [] [] [(0, 34, .slice (some ⟨w.heap.size, 0, none⟩) 16 16), (1, 35, .slice (some ⟨bxc, 0, none⟩) 16 cxc), (5, 38, .int .i64 0), (7, 12, .int .i64 0)] [] [] [⟨2, 36, none, PT 0 u4.heap.size 16 (U8 (bs))⟩, ⟨3, 33, none, PT 0 u4.heap.size 16 (U8 (bs))⟩, ⟨4, 37, some 6, PS u4.heap.size 16 (U8 (bs))⟩, ⟨6, 11, none, PS u4.heap.size 16 (U8 (bs))⟩] [] (.cons (fun _ _ _ h1 h2 => h2.stab h1) <| .cons (fun _ _ _ h1 h2 => h2.stab h1) <| .cons (fun _ _ _ h1 h2 => h2.stab h1) <| .cons (fun _ _ _ h1 h2 => h2.stab h1) <| Stab.nil) ?_ ?_
  · refine oc (g_sl (fun uZ => slW16 (w.heap.size) uZ)) ?_
    refine oc g_mv ?_
    refine oc (g_cM 0 (PT 0 u4.heap.size 16 (U8 (bs))) ent_aes_Encrypt (fun fZ uZ kZ sZ bZ => (hE2.out uZ _ _ bZ (inT (kZ.cv 0) (kZ.lb sZ 0) hlp0 (Nat.le_refl _)) (inT (kZ.cv 3) (kZ.lb sZ 3) hlxc (hcxc))).mono fun e u2 ⟨v, e1, h1, h2⟩ => ⟨v, e1, h1.mono sZ, h2⟩)) ?_
    refine oc (g_mE 0 1 (PT 0 u4.heap.size 16 (U8 (bs)))) ?_
    refine oc (g_xE 1 2 (PT 0 u4.heap.size 16 (U8 (bs))) (PS u4.heap.size 16 (U8 (bs))) PT.fst) ?_
    refine oc (g_xV 1 (PT 0 u4.heap.size 16 (U8 (bs))) PT.snd) ?_
    refine oc (g_sE 2 3 (PS u4.heap.size 16 (U8 (bs)))) ?_
    exact oc g_as on
  intro u5 v5_2 hv5_2 v5_3 hv5_3 v5_4 hv5_4 v5_6 hv5_6 HB5 sz5 K5
  simp only [fX, nK, nP, Wr.f, aK, pM] at K5
  simp only [setG, setN, setE, List.set_cons_zero, List.set_cons_succ]
  clear HB4
  obtain ⟨bxd, cxd, rfl, ho1xd, ho2xd, hcxd, hoCxd⟩ := hv5_6 rfl
  have K5xxd := Bk.moreT K4xxc K5 (by omega) ho1xd ho2xd hoCxd (by intro x hx; first | (simp at hx; done) | (simp at hx ⊢; omega))
  simp only [aK] at K5xxd
  clear K5
  go_upto_region 7 with fail
  refine rgP K5xxd HB5 HB5.size [] [] [(0, 39, .int .i64 0), (1, 40, .bool true), (2, 41, .bool true), (3, 42, .int .i64 0), (4, 43, .bool true), (5, 44, .bool true), (6, 45, .bool true), (7, 46, .int .i64 0), (8, 47, .bool true), (9, 48, .bool true), (10, 49, .bool true), (11, 50, .int .i64 0), (12, 51, .bool true), (13, 52, .bool true), (14, 53, .bool true), (15, 54, .slice (some ⟨bxb, 0, none⟩) 16 cxb), (16, 55, .slice (some ⟨w.heap.size + 1, 0, none⟩) 16 16), (17, 56, .bool true), (18, 57, .bool true), (19, 58, .bool true), (20, 59, .slice (some ⟨bxd, 0, none⟩) 16 cxd), (21, 60, .slice (some ⟨w.heap.size + 1, 0, none⟩) 16 16), (22, 61, .bool true), (23, 62, .bool true), (24, 4, .bool true)] [] [] [true, true, false, false] ?_ ?_
  · refine oc g_mv ?_
    refine oc (g_bn (fun uZ => eqe _ _ 0 0 true uZ (by decide))) ?_
    refine oc g_mv ?_
    refine oc g_mv ?_
    refine oc (g_bn (fun uZ => eqe _ _ 0 0 true uZ (by decide))) ?_
    refine oc g_pk ?_
    refine oc g_mv ?_
    refine oc g_mv ?_
    refine oc (g_bn (fun uZ => eqe _ _ 0 0 true uZ (by decide))) ?_
    refine oc g_pk ?_
    refine oc g_mv ?_
    refine oc g_mv ?_
    refine oc (g_bn (fun uZ => eqe _ _ 0 0 true uZ (by decide))) ?_
    refine oc g_pk ?_
    refine oc g_mv ?_
    refine oc g_mv ?_
    refine oc (g_sl (fun uZ => slW16 (w.heap.size + 1) uZ)) ?_
    refine oc (g_cK ent_seneschalbase_SameBytes (fun fZ uZ kZ sZ bZ => hS.out uZ _ _ (inT (kZ.cv 2) (kZ.lb sZ 2) hbl hcxb) (inT (kZ.cv 1) (kZ.lb sZ 1) hbl (Nat.le_refl _)))) ?_
    refine oc g_pk ?_
    refine oc g_mv ?_
    refine oc g_mv ?_
    refine oc (g_sl (fun uZ => slW16 (w.heap.size + 1) uZ)) ?_
    refine oc (g_cK ent_seneschalbase_SameBytes (fun fZ uZ kZ sZ bZ => hS.out uZ _ _ (inT (kZ.cv 4) (kZ.lb sZ 4) hbl hcxd) (inT (kZ.cv 1) (kZ.lb sZ 1) hbl (Nat.le_refl _)))) ?_
    refine oc g_pk ?_
    exact oc g_as on
  intro u6 HB6 sz6 K6
  simp only [fX, nK, nP, Wr.f, aK, pM] at K6
  simp only [setG, setN, List.set_cons_zero, List.set_cons_succ]
  clear HB5
  go_wp2
  refine bodyPost_ret (v := .bool true) (by simp [results, Tryd.results5, go_sem, ]) rfl ⟨rfl, HB6⟩
theorem BY.mem {n : Nat} {l : List Nat} (h : BY n l) : ∀ x ∈ l, x < 256 := fun x hx => by
  obtain ⟨j, hj, rfl⟩ := List.getElem_of_mem hx
  have := h.lt j
  rwa [List.getD_eq_getElem?_getD, List.getElem?_eq_getElem hj] at this
theorem encC {w : World} (hV : GS6 w) {ks bs : List Nat} (hk : BY 16 ks) (hb : BY 16 bs) : Hid (∀ u v v2, Below w.heap.size w u → IN u u.heap.size v ks → IN u u.heap.size v2 bs → Calls Tryd.prog 15 #[v, v2] u fun e u' => ∃ v, e = .returned v ∧ PT 0 u.heap.size 16 (U8 (encB (rky ks) bs)) u' v ∧ Below u.heap.size u u') :=
  fun u v v2 hB h1 h2 => cEncrypt ks bs v v2 u (hV.up hB) h1 h2 hk hb hk.mem hb.mem
theorem decC {w : World} (hV : GS6 w) {ks bs : List Nat} (hk : BY 16 ks) (hb : BY 16 bs) : Hid (∀ u v v2, Below w.heap.size w u → IN u u.heap.size v ks → IN u u.heap.size v2 bs → Calls Tryd.prog 17 #[v, v2] u fun e u' => ∃ v, e = .returned v ∧ PT 0 u.heap.size 16 (U8 (decB (rky ks) bs)) u' v ∧ Below u.heap.size u u') :=
  fun u v v2 hB h1 h2 => cDecrypt ks bs v v2 u (hV.up hB) h1 h2 hk hb hk.mem hb.mem
theorem samC {a b : List Nat} (ha : BY 16 a) (hb : BY 16 b) : Hid (∀ u v v2, IN u u.heap.size v a → IN u u.heap.size v2 b → Calls Tryd.prog 21 #[v, v2] u fun e u' => e = .returned (.bool (decide (a = b))) ∧ Below u.heap.size u u') :=
  fun u v v2 h1 h2 => cSameB a b v v2 u h1 h2 ha.mem hb.mem
theorem aesBack_any (ks bs : List Nat) (w : World) (hV : GS6 w) (hk : BY 16 ks) (hb : BY 16 bs) :
    Calls Tryd.prog 5 #[.agg (U8 (ks)).toArray, .agg (U8 (bs)).toArray] w fun e w' => e = .returned (.bool true) ∧ Below w.heap.size w w' := by
  have R := rky_B hk
  have he := encB_B R hb
  have hd := decB_B R hb
  have hD := decC hV hk he
  rw [dec_enc R hb] at hD
  have hE2 := encC hV hk hd
  rw [enc_dec R hb] at hE2
  have hS := samC hb hb
  rw [decide_eq_true rfl] at hS
  exact aesBack_core ks bs _ _ w hk.len hb.len he.len hd.len (fun u hB => works6 u (hV.up hB)) (encC hV hk hb) hD (decC hV hk hb) hE2 hS
set_option maxRecDepth 100000 in
set_option maxHeartbeats 4000000 in
theorem aesApart_core (ks aa bs xs ys : List Nat) (x y sx sy : Nat) (r s : Bool) (w : World) (hkl : ks.length = 16) (hal : aa.length = 16) (hbl : bs.length = 16) (hxl : xs.length = 16) (hyl : ys.length = 16) (hW : Hid (∀ u, Below w.heap.size w u → Calls Tryd.prog 13 #[] u fun e u' => e = .returned (.bool true) ∧ Below u.heap.size u u')) (hE : Hid (∀ u v v2, Below w.heap.size w u → IN u u.heap.size v ks → IN u u.heap.size v2 aa → Calls Tryd.prog 15 #[v, v2] u fun e u' => ∃ v, e = .returned v ∧ PT 0 u.heap.size 16 (U8 (xs)) u' v ∧ Below u.heap.size u u')) (hE2 : Hid (∀ u v v2, Below w.heap.size w u → IN u u.heap.size v ks → IN u u.heap.size v2 bs → Calls Tryd.prog 15 #[v, v2] u fun e u' => ∃ v, e = .returned v ∧ PT 0 u.heap.size 16 (U8 (ys)) u' v ∧ Below u.heap.size u u')) (hS : Hid (∀ u v v2, IN u u.heap.size v xs → IN u u.heap.size v2 ys → Calls Tryd.prog 21 #[v, v2] u fun e u' => e = .returned (.bool r) ∧ Below u.heap.size u u'))
    (hq : Hid (∀ (p q : Operand) (w : World), (do eqGuard .eql 32 p q (.agg (U8 aa).toArray) (.agg (U8 bs).toArray); binOp .eql 32 (.agg (U8 aa).toArray) (.agg (U8 bs).toArray) : Sem Value).run Tryd.prog w = .ok (.bool r) w))
    (hS1 : Hid (∀ u, Below w.heap.size w u → Calls Tryd.prog 8 #[.int .u8 (x : Nat)] u fun e w' => e = .returned (.int .u8 (sx : Nat)) ∧ Below u.heap.size u w')) (hS2 : Hid (∀ u, Below w.heap.size w u → Calls Tryd.prog 8 #[.int .u8 (y : Nat)] u fun e w' => e = .returned (.int .u8 (sy : Nat)) ∧ Below u.heap.size u w')) (z1 : decide (((sx : Nat) : Int) = ((sy : Nat) : Int)) = s) (z2 : decide (((x : Nat) : Int) = ((y : Nat) : Int)) = s) :
    Calls Tryd.prog 6 #[.agg (U8 (ks)).toArray, .agg (U8 (aa)).toArray, .agg (U8 (bs)).toArray, .int .u8 (x : Int), .int .u8 (y : Int)] w fun e w' => e = .returned (.bool true) ∧ Below w.heap.size w w' := by
  go_enter Tryd.func6, Tryd.ntmps6
  go_upto_region 1 with fail
  generalize hC : (((w.alloc (.cells (U8 (ks) : List Value).toArray 32)).alloc (.cells (U8 (aa) : List Value).toArray 32)).alloc (.cells (U8 (bs) : List Value).toArray 32)) = v0 at *
  have HB0 : Below w.heap.size w v0 := by rw [← hC]; exact balloc (balloc (balloc (bself w) _) _) _
  have K0 : Bk w.heap.size v0 [(true, w.heap.size, U8 (ks)), (true, w.heap.size + 1, U8 (aa)), (true, w.heap.size + 1 + 1, U8 (bs))] := by rw [← hC]; exact (Bk.nil _ w).ad.ad.ad
  clear hC
  have hlp0 := hkl
  have hlp1 := hal
  have hlp2 := hbl
  refine rgP K0 HB0 HB0.size [] [] [(0, 15, .bool true), (1, 16, .bool false)] [] [] [] ?_ ?_
  · refine oc (g_cb ent_seneschallaw06_works (fun uZ bZ => hW.out uZ bZ)) ?_
    exact oc (g_un (fun uZ => not_t uZ)) on
  intro u1 HB1 sz1 K1
  simp only [fX, nK, nP, Wr.f, aK, pM] at K1
  simp only [setG, setN, List.set_cons_zero, List.set_cons_succ]
  clear K0 HB0
  have hlo3 := HB1.size
  go_upto_region 3 with fail
  refine rgE K1 HB1 HB1.size [] [] [(0, 18, .slice (some ⟨w.heap.size, 0, none⟩) 16 16), (1, 19, .slice (some ⟨w.heap.size + 1, 0, none⟩) 16 16), (5, 22, .int .i64 0), (7, 12, .int .i64 0)] [] [] [⟨2, 20, none, PT 0 u1.heap.size 16 (U8 (xs))⟩, ⟨3, 17, none, PT 0 u1.heap.size 16 (U8 (xs))⟩, ⟨4, 21, some 6, PS u1.heap.size 16 (U8 (xs))⟩, ⟨6, 11, none, PS u1.heap.size 16 (U8 (xs))⟩] [] (.cons (fun _ _ _ h1 h2 => h2.stab h1) <| .cons (fun _ _ _ h1 h2 => h2.stab h1) <| .cons (fun _ _ _ h1 h2 => h2.stab h1) <| .cons (fun _ _ _ h1 h2 => h2.stab h1) <| Stab.nil) ?_ ?_
  · refine oc (g_sl (fun uZ => slW16 (w.heap.size) uZ)) ?_
    refine oc (g_sl (fun uZ => slW16 (w.heap.size + 1) uZ)) ?_
    refine oc (g_cM 0 (PT 0 u1.heap.size 16 (U8 (xs))) ent_aes_Encrypt (fun fZ uZ kZ sZ bZ => (hE.out uZ _ _ bZ (inT (kZ.cv 0) (kZ.lb sZ 0) hlp0 (Nat.le_refl _)) (inT (kZ.cv 1) (kZ.lb sZ 1) hlp1 (Nat.le_refl _))).mono fun e u2 ⟨v, e1, h1, h2⟩ => ⟨v, e1, h1.mono sZ, h2⟩)) ?_
    refine oc (g_mE 0 1 (PT 0 u1.heap.size 16 (U8 (xs)))) ?_
    refine oc (g_xE 1 2 (PT 0 u1.heap.size 16 (U8 (xs))) (PS u1.heap.size 16 (U8 (xs))) PT.fst) ?_
    refine oc (g_xV 1 (PT 0 u1.heap.size 16 (U8 (xs))) PT.snd) ?_
    refine oc (g_sE 2 3 (PS u1.heap.size 16 (U8 (xs)))) ?_
    exact oc g_as on
  intro u2 v2_2 hv2_2 v2_3 hv2_3 v2_4 hv2_4 v2_6 hv2_6 HB2 sz2 K2
  simp only [fX, nK, nP, Wr.f, aK, pM] at K2
  simp only [setG, setN, setE, List.set_cons_zero, List.set_cons_succ]
  clear HB1
  obtain ⟨bxa, cxa, rfl, ho1xa, ho2xa, hcxa, hoCxa⟩ := hv2_6 rfl
  have K2xxa := Bk.moreT K1 K2 (by omega) ho1xa ho2xa hoCxa (by intro x hx; first | (simp at hx; done) | (simp at hx ⊢; omega))
  simp only [aK] at K2xxa
  clear K2
  have hlo4 := HB2.size
  go_upto_region 4 with fail
  refine rgE K2xxa HB2 HB2.size [] [] [(0, 24, .slice (some ⟨w.heap.size, 0, none⟩) 16 16), (1, 25, .slice (some ⟨w.heap.size + 1 + 1, 0, none⟩) 16 16), (5, 28, .int .i64 0), (7, 14, .int .i64 0)] [] [] [⟨2, 26, none, PT 0 u2.heap.size 16 (U8 (ys))⟩, ⟨3, 23, none, PT 0 u2.heap.size 16 (U8 (ys))⟩, ⟨4, 27, some 6, PS u2.heap.size 16 (U8 (ys))⟩, ⟨6, 13, none, PS u2.heap.size 16 (U8 (ys))⟩] [] (.cons (fun _ _ _ h1 h2 => h2.stab h1) <| .cons (fun _ _ _ h1 h2 => h2.stab h1) <| .cons (fun _ _ _ h1 h2 => h2.stab h1) <| .cons (fun _ _ _ h1 h2 => h2.stab h1) <| Stab.nil) ?_ ?_
  · refine oc (g_sl (fun uZ => slW16 (w.heap.size) uZ)) ?_
    refine oc (g_sl (fun uZ => slW16 (w.heap.size + 1 + 1) uZ)) ?_
    refine oc (g_cM 0 (PT 0 u2.heap.size 16 (U8 (ys))) ent_aes_Encrypt (fun fZ uZ kZ sZ bZ => (hE2.out uZ _ _ bZ (inT (kZ.cv 0) (kZ.lb sZ 0) hlp0 (Nat.le_refl _)) (inT (kZ.cv 2) (kZ.lb sZ 2) hlp2 (Nat.le_refl _))).mono fun e u2 ⟨v, e1, h1, h2⟩ => ⟨v, e1, h1.mono sZ, h2⟩)) ?_
    refine oc (g_mE 0 1 (PT 0 u2.heap.size 16 (U8 (ys)))) ?_
    refine oc (g_xE 1 2 (PT 0 u2.heap.size 16 (U8 (ys))) (PS u2.heap.size 16 (U8 (ys))) PT.fst) ?_
    refine oc (g_xV 1 (PT 0 u2.heap.size 16 (U8 (ys))) PT.snd) ?_
    refine oc (g_sE 2 3 (PS u2.heap.size 16 (U8 (ys)))) ?_
    exact oc g_as on
  intro u3 v3_2 hv3_2 v3_3 hv3_3 v3_4 hv3_4 v3_6 hv3_6 HB3 sz3 K3
  simp only [fX, nK, nP, Wr.f, aK, pM] at K3
  simp only [setG, setN, setE, List.set_cons_zero, List.set_cons_succ]
  clear HB2
  obtain ⟨bxb, cxb, rfl, ho1xb, ho2xb, hcxb, hoCxb⟩ := hv3_6 rfl
  have K3xxb := Bk.moreT K2xxa K3 (by omega) ho1xb ho2xb hoCxb (by intro x hx; first | (simp at hx; done) | (simp at hx ⊢; omega))
  simp only [aK] at K3xxb
  clear K3
  go_upto_region 5 with fail
  refine rgD K3xxb HB3 HB3.size [] [] [(0, 29, .int .i64 0), (1, 30, .bool true), (2, 31, .bool true), (3, 32, .int .i64 0), (4, 33, .bool true), (5, 34, .bool true), (6, 35, .bool true), (7, 36, .slice (some ⟨bxa, 0, none⟩) 16 cxa), (8, 37, .slice (some ⟨bxb, 0, none⟩) 16 cxb), (9, 38, .bool r), (10, 39, .agg (U8 (aa)).toArray), (11, 40, .agg (U8 (bs)).toArray), (12, 41, .bool r), (13, 42, .bool true), (14, 43, .bool true), (15, 44, .bool true), (16, 45, .int .u8 ((x : Nat) : Int)), (17, 46, .int .u8 ((sx : Nat) : Int)), (18, 47, .int .u8 ((y : Nat) : Int)), (19, 48, .int .u8 ((sy : Nat) : Int)), (20, 49, .bool s), (21, 50, .int .u8 ((x : Nat) : Int)), (22, 51, .int .u8 ((y : Nat) : Int)), (23, 52, .bool s), (24, 53, .bool true), (25, 54, .bool true), (26, 10, .bool true)] [] [] [true, true, true, false] ?_ ?_
  · refine oc g_mv ?_
    refine oc (g_bn (fun uZ => eqe _ _ 0 0 true uZ (by decide))) ?_
    refine oc g_mv ?_
    refine oc g_mv ?_
    refine oc (g_bn (fun uZ => eqe _ _ 0 0 true uZ (by decide))) ?_
    refine oc g_pk ?_
    refine oc g_mv ?_
    refine oc g_mv ?_
    refine oc g_mv ?_
    refine oc (g_cK ent_seneschalbase_SameBytes (fun fZ uZ kZ sZ bZ => hS.out uZ _ _ (inT (kZ.cv 3) (kZ.lb sZ 3) hxl hcxa) (inT (kZ.cv 4) (kZ.lb sZ 4) hyl hcxb))) ?_
    refine oc (g_lR 1 0 (cs := U8 (aa)) (fun j v h => by rw [Nat.zero_add]; exact h) Tryd.underlying32 (by rw [U8_len, hal]; exact info__16_uint8)) ?_
    refine oc (g_lR 2 0 (cs := U8 (bs)) (fun j v h => by rw [Nat.zero_add]; exact h) Tryd.underlying32 (by rw [U8_len, hbl]; exact info__16_uint8)) ?_
    refine oc (g_bn (fun uZ => hq.out _ _ uZ)) ?_
    refine oc (g_bn (fun uZ => eqb _ _ r r true uZ (by simp))) ?_
    refine oc g_pk ?_
    refine oc g_mv ?_
    refine oc g_mv ?_
    refine oc (g_cb ent_aes_Substitute (fun uZ bZ => hS1.out uZ bZ)) ?_
    refine oc g_mv ?_
    refine oc (g_cb ent_aes_Substitute (fun uZ bZ => hS2.out uZ bZ)) ?_
    refine oc (g_bn (fun uZ => eql8 _ _ ((sx : Nat) : Int) ((sy : Nat) : Int) s uZ z1)) ?_
    refine oc g_mv ?_
    refine oc g_mv ?_
    refine oc (g_bn (fun uZ => eql8 _ _ ((x : Nat) : Int) ((y : Nat) : Int) s uZ z2)) ?_
    refine oc (g_bn (fun uZ => eqb _ _ s s true uZ (by simp))) ?_
    refine oc g_pk ?_
    exact oc g_as on
  intro u4 HB4 sz4 K4
  simp only [fX, nK, nP, Wr.f, aK, pM] at K4
  simp only [setG, setN, List.set_cons_zero, List.set_cons_succ]
  clear HB3
  go_wp2
  refine bodyPost_ret (v := .bool true) (by simp [results, Tryd.results6, go_sem, ]) rfl ⟨rfl, HB4⟩
theorem aesApart_any (ks aa bs : List Nat) (x y : Nat) (w : World) (hV : GS6 w) (hk : BY 16 ks) (ha : BY 16 aa) (hb : BY 16 bs) (hx : x < 256) (hy : y < 256) :
    Calls Tryd.prog 6 #[.agg (U8 (ks)).toArray, .agg (U8 (aa)).toArray, .agg (U8 (bs)).toArray, .int .u8 (x : Int), .int .u8 (y : Int)] w fun e w' => e = .returned (.bool true) ∧ Below w.heap.size w w' := by
  have R := rky_B hk
  have h1 := encB_B R ha
  have h2 := encB_B R hb
  have hS := samC h1 h2
  have hd : decide (encB (rky ks) aa = encB (rky ks) bs) = decide (aa = bs) := decide_eq_decide.2 (enc_inj R ha hb)
  rw [hd] at hS
  have hz : decide (((sbT.getD x 0 : Nat) : Int) = ((sbT.getD y 0 : Nat) : Int)) = decide (((x : Nat) : Int) = ((y : Nat) : Int)) := decide_eq_decide.2 ⟨fun h => by
    have e : x = y := sb_inj hx hy (by exact_mod_cast h)
    rw [e], fun h => by
    have e : x = y := by exact_mod_cast h
    rw [e]⟩
  exact aesApart_core ks aa bs _ _ x y _ _ _ _ w hk.len ha.len hb.len h1.len h2.len (fun u hB => works6 u (hV.up hB)) (encC hV hk ha) (encC hV hk hb) hS (fun p q w => eql_A16 aa bs ha hb p q w) (fun u hB => cSubst x u hx (hV.up hB)) (fun u hB => cSubst y u hy (hV.up hB)) hz rfl
end Go.Proofs.YtlcjbnhfmcnnfaaDoor
