/- What is extracted; the law MacSums. -/
import Derived.Test.YtbgdcgboomdimaaDoorRN1
namespace Go.Proofs.YtbgdcgboomdimaaDoor
open Go.RowKit
set_option linter.unusedVariables false
set_option linter.unusedSimpArgs false
set_option maxRecDepth 100000 in
set_option maxHeartbeats 8000000 in
theorem cExtractR_z (n cap : Nat) (sl : Option Addr) (y : Value) (ds : List Nat) (w : World) (hds : ds.length = 32) (hn : n = 0) (hS : Hid (∀ (u : World) (bz : Nat), Below w.heap.size w u → CV u bz (U8 (List.replicate 32 0)) → bz < u.heap.size → Calls Tryd.prog 28 #[.slice (some ⟨bz, 0, none⟩) 32 32, y] u fun e u' => e = .returned (.agg (U8 (ds)).toArray) ∧ Below u.heap.size u u')) :
    Calls Tryd.prog 30 #[.slice sl n cap, y] w fun e w' => e = .returned (.agg (U8 (ds)).toArray) ∧ Below w.heap.size w w' := by
  go_enter Tryd.func30, Tryd.ntmps30
  go_upto_region 1 with fail
  generalize hC : (w.alloc (.cells (Z32b : List Value).toArray 24)) = v0 at *
  have HB0 : Below w.heap.size w v0 := by rw [← hC]; exact balloc (bself w) _
  have K0 : Bk w.heap.size v0 [(true, w.heap.size, U8 (z32))] := by rw [← hC]; exact (Bk.nil _ w).ad
  clear hC
  refine rgP K0 HB0 HB0.size [] [] [(0, 5, (.slice sl n cap)), (1, 6, .int .i64 ((n : Nat) : Int)), (2, 7, .bool true)] [] [] [] ?_ ?_
  · refine oc g_mv ?_
    refine oc (g_ln Tryd.underlying22) ?_
    exact oc (g_bn (fun uZ => eql_it _ _ ((n : Nat) : Int) 0 true uZ (by simp; omega))) on
  intro u1 HB1 sz1 K1
  simp only [fX, nK, nP, Wr.f, aK, pM] at K1
  simp only [setG, setN, List.set_cons_zero, List.set_cons_succ]
  clear K0 HB0
  have hlt4 := (K1.lt 0)
  have hlo4 := HB1.size
  go_upto_region 2 with fail
  refine rgF K1 HB1 HB1.size [] [] [] [] [] [⟨0, 8, some 1, PF u1.heap.size 32 (U8 (List.replicate 32 0))⟩, ⟨1, 0, none, PF u1.heap.size 32 (U8 (List.replicate 32 0))⟩] [] (.cons (fun _ _ _ h1 h2 => h2.stab h1) <| .cons (fun _ _ _ h1 h2 => h2.stab h1) <| Stab.nil) ?_ ?_
  · refine oc (g_ms 0 (PF u1.heap.size 32 (U8 (List.replicate 32 0))) (mkB .i64 32 (by decide)) (fun u hu => PF.new 32 _ _ u hu)) ?_
    exact oc (g_sE 0 1 (PF u1.heap.size 32 (U8 (List.replicate 32 0)))) on
  intro u2 v2_0 hv2_0 v2_1 hv2_1 HB2 sz2 K2
  simp only [fX, nK, nP, Wr.f, aK, pM] at K2
  simp only [setG, setN, setE, List.set_cons_zero, List.set_cons_succ]
  clear K1 HB1
  obtain ⟨bz, rfl, ho1, ho2, hoC⟩ := hv2_1 rfl
  have K2_1 : Bk w.heap.size u2 [(true, w.heap.size, U8 (z32)), (false, bz, U8 (List.replicate 32 0))] := ⟨.o (K2.lt 0) (by omega) (K2.cv 0) <| .c ho2 hoC <| trivial, by simp; omega⟩
  go_upto_region 3 with fail
  refine rgP K2_1 HB2 HB2.size [.all 3 (U8 (ds))] [] [(0, 9, .slice (some ⟨bz, 0, none⟩) 32 32), (1, 10, y), (2, 11, .agg (U8 (ds)).toArray)] [] [] [] ?_ ?_
  · refine oc g_mv ?_
    refine oc g_mv ?_
    refine oc (g_cK ent_seneschalref05_Sum (fun fZ uZ kZ sZ bZ => hS.out uZ bz bZ (kZ.cv 1) (kZ.lb sZ 1))) ?_
    exact oc (g_st 0 info__32_uint8 (h1 := U8_one _) (hm := by rw [U8_len, hds]) (hl := by first | rw [U8_len, U8_len, hds, show z32.length = 32 from rfl] | rfl)) on
  intro u3 HB3 sz3 K3
  simp only [fX, nK, nP, Wr.f, aK, pM] at K3
  simp only [setG, setN, List.set_cons_zero, List.set_cons_succ]
  clear HB2
  go_wp2
  refine bodyPost_ret (res_cell Tryd.results30 rfl (K3.cv 0) Tryd.underlying24 rfl (by rw [U8_len, hds]; exact info__32_uint8)) rfl ⟨rfl, HB3⟩
set_option maxRecDepth 100000 in
set_option maxHeartbeats 8000000 in
theorem cExtractR_c (n cap : Nat) (sl : Option Addr) (y : Value) (ds : List Nat) (w : World) (hds : ds.length = 32) (hn : 0 < n) (hS : Hid (∀ (u : World), Below w.heap.size w u → Calls Tryd.prog 28 #[(.slice sl n cap), y] u fun e u' => e = .returned (.agg (U8 (ds)).toArray) ∧ Below u.heap.size u u')) :
    Calls Tryd.prog 30 #[.slice sl n cap, y] w fun e w' => e = .returned (.agg (U8 (ds)).toArray) ∧ Below w.heap.size w w' := by
  go_enter Tryd.func30, Tryd.ntmps30
  go_upto_region 1 with fail
  generalize hC : (w.alloc (.cells (Z32b : List Value).toArray 24)) = v0 at *
  have HB0 : Below w.heap.size w v0 := by rw [← hC]; exact balloc (bself w) _
  have K0 : Bk w.heap.size v0 [(true, w.heap.size, U8 (z32))] := by rw [← hC]; exact (Bk.nil _ w).ad
  clear hC
  refine rgP K0 HB0 HB0.size [] [] [(0, 5, (.slice sl n cap)), (1, 6, .int .i64 ((n : Nat) : Int)), (2, 7, .bool false)] [] [] [] ?_ ?_
  · refine oc g_mv ?_
    refine oc (g_ln Tryd.underlying22) ?_
    exact oc (g_bn (fun uZ => eql_it _ _ ((n : Nat) : Int) 0 false uZ (by simp; omega))) on
  intro u1 HB1 sz1 K1
  simp only [fX, nK, nP, Wr.f, aK, pM] at K1
  simp only [setG, setN, List.set_cons_zero, List.set_cons_succ]
  clear K0 HB0
  go_upto_region 3 with fail
  refine rgP K1 HB1 HB1.size [.all 3 (U8 (ds))] [] [(0, 9, (.slice sl n cap)), (1, 10, y), (2, 11, .agg (U8 (ds)).toArray)] [] [] [] ?_ ?_
  · refine oc g_mv ?_
    refine oc g_mv ?_
    refine oc (g_cb ent_seneschalref05_Sum (fun uZ bZ => hS.out uZ bZ)) ?_
    exact oc (g_st 0 info__32_uint8 (h1 := U8_one _) (hm := by rw [U8_len, hds]) (hl := by first | rw [U8_len, U8_len, hds, show z32.length = 32 from rfl] | rfl)) on
  intro u2 HB2 sz2 K2
  simp only [fX, nK, nP, Wr.f, aK, pM] at K2
  simp only [setG, setN, List.set_cons_zero, List.set_cons_succ]
  clear K1 HB1
  go_wp2
  refine bodyPost_ret (res_cell Tryd.results30 rfl (K2.cv 0) Tryd.underlying24 rfl (by rw [U8_len, hds]; exact info__32_uint8)) rfl ⟨rfl, HB2⟩
theorem cExtractR (ks xs : List Nat) (v y : Value) (w : World) (hin : IN w w.heap.size v ks) (hin2 : IN w w.heap.size y xs) (hk : ∀ x ∈ ks, x < 256) (hx : ∀ x ∈ xs, x < 256) (hkl : ks.length ≤ 1000) (hl : xs.length ≤ 90000) :
    Calls Tryd.prog 30 #[v, y] w fun e w' => e = .returned (.agg (U8 (mac ks xs)).toArray) ∧ Below w.heap.size w w' := by
  have hin0 := hin
  obtain ⟨sl, cap, gb, go, rfl, h1, h2, h3, h4⟩ := hin
  by_cases h0 : ks.length = 0
  · have hks : ks = [] := List.length_eq_zero_iff.1 h0
    have e : mac (List.replicate 32 0) xs = mac ks xs := by
      rw [hks]
      have := whl_zeros [] 32 (by decide)
      rw [List.nil_append] at this
      unfold mac; rw [this]
    refine cExtractR_z ks.length cap sl y (mac ks xs) w (mac_B _ _).len h0 (fun u bz hB hc hb => ?_)
    rw [← e]
    exact cMacR (List.replicate 32 0) xs _ y u (CV_in (by simp) hc hb) ((hin2.below hB).mono hB.size) (fun x hx => by rw [List.eq_of_mem_replicate hx]; decide) hx (by simp) hl
  · exact cExtractR_c ks.length cap sl y (mac ks xs) w (mac_B _ _).len (by omega) (fun u hB => cMacR ks xs _ y u ((hin0.below hB).mono hB.size) ((hin2.below hB).mono hB.size) hk hx hkl hl)
set_option maxRecDepth 100000 in
set_option maxHeartbeats 8000000 in
theorem cExtract_core (v y : Value) (ds : List Nat) (w : World) (hds : ds.length = 32) (hS : Hid (∀ (u : World), Below w.heap.size w u → Calls Tryd.prog 27 #[v, y] u fun e u' => e = .returned (.agg (U8 (ds)).toArray) ∧ Below u.heap.size u u')) :
    Calls Tryd.prog 29 #[v, y] w fun e w' => e = .returned (.agg (U8 (ds)).toArray) ∧ Below w.heap.size w w' := by
  go_enter Tryd.func29, Tryd.ntmps29
  go_upto_region 1 with fail
  generalize hC : (w.alloc (.cells (Z32b : List Value).toArray 24)) = v0 at *
  have HB0 : Below w.heap.size w v0 := by rw [← hC]; exact balloc (bself w) _
  have K0 : Bk w.heap.size v0 [(true, w.heap.size, U8 (z32))] := by rw [← hC]; exact (Bk.nil _ w).ad
  clear hC
  refine rgP K0 HB0 HB0.size [.all 3 (U8 (ds))] [] [(0, 5, v), (1, 6, y), (2, 7, .agg (U8 (ds)).toArray)] [] [] [] ?_ ?_
  · refine oc g_mv ?_
    refine oc g_mv ?_
    refine oc (g_cb ent_mac_Sum (fun uZ bZ => hS.out uZ bZ)) ?_
    exact oc (g_st 0 info__32_uint8 (h1 := U8_one _) (hm := by rw [U8_len, hds]) (hl := by first | rw [U8_len, U8_len, hds, show z32.length = 32 from rfl] | rfl)) on
  intro u1 HB1 sz1 K1
  simp only [fX, nK, nP, Wr.f, aK, pM] at K1
  simp only [setG, setN, List.set_cons_zero, List.set_cons_succ]
  clear K0 HB0
  go_wp2
  refine bodyPost_ret (res_cell Tryd.results29 rfl (K1.cv 0) Tryd.underlying24 rfl (by rw [U8_len, hds]; exact info__32_uint8)) rfl ⟨rfl, HB1⟩
theorem cExtract (ks xs : List Nat) (v v2 : Value) (w : World) (hV : GV w) (hin : IN w w.heap.size v ks) (hsn : ∀ n c, v = .slice none n c → c = 0) (hin2 : IN w w.heap.size v2 xs) (hk : ∀ x ∈ ks, x < 256) (hx : ∀ x ∈ xs, x < 256) (hkl : ks.length ≤ 1000) (hl : xs.length ≤ 1000) :
    Calls Tryd.prog 29 #[v, v2] w fun e w' => e = .returned (.agg (U8 (mac ks xs)).toArray) ∧ Below w.heap.size w w' :=
  cExtract_core v v2 (mac ks xs) w (mac_B _ _).len (fun u hB => cMac ks xs v v2 u (hV.below hB hV.sz) ((hin.below hB).mono hB.size) hsn ((hin2.below hB).mono hB.size) hk hx hkl hl)
set_option maxRecDepth 100000 in
set_option maxHeartbeats 8000000 in
theorem macSums_core (n1 cap1 m1 n2 cap2 m2 : Nat) (sl1 sl2 : Option Addr) (xs ys ds : List Nat) (w : World) (hdB : BB 32 ds) (hSh1 : Hid (∀ (u : World), Calls Tryd.prog 26 #[(.slice sl1 n1 cap1)] u fun e u' => e = .returned (.slice sl1 m1 cap1) ∧ Below u.heap.size u u')) (hSh2 : Hid (∀ (u : World), Calls Tryd.prog 26 #[(.slice sl2 n2 cap2)] u fun e u' => e = .returned (.slice sl2 m2 cap2) ∧ Below u.heap.size u u')) (hBy1 : Hid (∀ (u : World), Below w.heap.size w u → Calls Tryd.prog 13 #[(.slice sl1 m1 cap1)] u fun e u' => ∃ v, e = .returned v ∧ PG u.heap.size 1 m1 (U8 (xs)) u' v ∧ Below u.heap.size u u')) (hBy2 : Hid (∀ (u : World), Below w.heap.size w u → Calls Tryd.prog 13 #[(.slice sl2 m2 cap2)] u fun e u' => ∃ v, e = .returned v ∧ PG u.heap.size 1 m2 (U8 (ys)) u' v ∧ Below u.heap.size u u')) (hS1 : Hid (∀ (u : World) (b1 c1 : Nat) (z1 : List Value) (b2 c2 : Nat) (z2 : List Value), Below w.heap.size w u → CV u b1 (U8 (xs) ++ z1) → b1 < u.heap.size → m1 ≤ c1 → CV u b2 (U8 (ys) ++ z2) → b2 < u.heap.size → m2 ≤ c2 → Calls Tryd.prog 27 #[.slice (some ⟨b1, 0, none⟩) m1 c1, .slice (some ⟨b2, 0, none⟩) m2 c2] u fun e u' => e = .returned (.agg (U8 (ds)).toArray) ∧ Below u.heap.size u u')) (hS2 : Hid (∀ (u : World), Below w.heap.size w u → Calls Tryd.prog 28 #[(.slice sl1 m1 cap1), (.slice sl2 m2 cap2)] u fun e u' => e = .returned (.agg (U8 (ds)).toArray) ∧ Below u.heap.size u u')) (hE1 : Hid (∀ (u : World) (b1 c1 : Nat) (z1 : List Value) (b2 c2 : Nat) (z2 : List Value), Below w.heap.size w u → CV u b1 (U8 (xs) ++ z1) → b1 < u.heap.size → m1 ≤ c1 → CV u b2 (U8 (ys) ++ z2) → b2 < u.heap.size → m2 ≤ c2 → Calls Tryd.prog 29 #[.slice (some ⟨b1, 0, none⟩) m1 c1, .slice (some ⟨b2, 0, none⟩) m2 c2] u fun e u' => e = .returned (.agg (U8 (ds)).toArray) ∧ Below u.heap.size u u')) (hE2 : Hid (∀ (u : World), Below w.heap.size w u → Calls Tryd.prog 30 #[(.slice sl1 m1 cap1), (.slice sl2 m2 cap2)] u fun e u' => e = .returned (.agg (U8 (ds)).toArray) ∧ Below u.heap.size u u')) (hB1 : Hid (∀ (u : World) (b1 c1 : Nat) (z1 : List Value), Below w.heap.size w u → CV u b1 (U8 (xs) ++ z1) → b1 < u.heap.size → m1 ≤ c1 → Calls Tryd.prog 16 #[.slice (some ⟨b1, 0, none⟩) m1 c1, (.slice sl1 m1 cap1)] u fun e u' => e = .returned (.bool true) ∧ Below u.heap.size u u')) (hB2 : Hid (∀ (u : World) (b2 c2 : Nat) (z2 : List Value), Below w.heap.size w u → CV u b2 (U8 (ys) ++ z2) → b2 < u.heap.size → m2 ≤ c2 → Calls Tryd.prog 16 #[.slice (some ⟨b2, 0, none⟩) m2 c2, (.slice sl2 m2 cap2)] u fun e u' => e = .returned (.bool true) ∧ Below u.heap.size u u')) (hW : Hid (∀ (u : World), Below w.heap.size w u → Calls Tryd.prog 31 #[] u fun e u' => e = .returned (.bool true) ∧ Below u.heap.size u u')) :
    Calls Tryd.prog 6 #[(.slice sl1 n1 cap1), (.slice sl2 n2 cap2)] w fun e w' => e = .returned (.bool true) ∧ Below w.heap.size w w' := by
  go_enter Tryd.func6, Tryd.ntmps6
  have HB0 : Below w.heap.size w w := Below.refl _ _
  have K0_1 := Bk.nil (w.heap.size) w
  go_upto_region 1 with fail
  refine rgP K0_1 HB0 HB0.size [] [] [(0, 7, (.slice sl1 n1 cap1)), (1, 8, (.slice sl1 m1 cap1)), (2, 9, (.slice sl2 n2 cap2)), (3, 10, (.slice sl2 m2 cap2)), (4, 0, (.slice sl1 m1 cap1)), (5, 1, (.slice sl2 m2 cap2))] [(4, 0), (5, 2)] [(4, 0), (5, 1)] [] ?_ ?_
  · refine oc g_mv ?_
    refine oc (g_cl ent_seneschallaw05_short (fun uZ => hSh1.out uZ)) ?_
    refine oc g_mv ?_
    refine oc (g_cl ent_seneschallaw05_short (fun uZ => hSh2.out uZ)) ?_
    refine oc g_as ?_
    exact oc g_as on
  intro u1 HB1 sz1 K1
  simp only [fX, nK, nP, Wr.f, aK, pM] at K1
  simp only [setG, setN, List.set_cons_zero, List.set_cons_succ]
  clear HB0
  go_upto_region 3 with (first | (go_at_call 13; refine (hBy1.out _ HB1).mono ?_; rintro e ua ⟨v1, rfl, h1, hX1⟩) | (go_at_call 13; refine (hBy2.out _ (bstep HB1 hX1)).mono ?_; rintro e ub ⟨v2, rfl, h2, hX2⟩))
  obtain ⟨b1, c1, z1, rfl, a1, a2, a3, a4, a5⟩ := h1
  obtain ⟨b2, c2, z2, rfl, d1, d2, d3, d4, d5⟩ := h2
  have HBx := bstep (bstep HB1 hX1) hX2
  have a5 := a5.below hX2 a2
  have hl1 := Nat.lt_of_lt_of_le a2 hX2.size
  have hne : b1 ≠ b2 := by omega
  clear HB1 hX1 hX2 K1
  have K1_2 : Bk w.heap.size ub [(false, b1, U8 (xs) ++ z1), (false, b2, U8 (ys) ++ z2)] := ⟨.c hl1 a5 <| .c d2 d5 <| trivial, by simp; omega⟩
  refine rgP K1_2 HBx HBx.size [] [] [(0, 15, .slice (some ⟨b1, 0, none⟩) m1 c1), (1, 16, .slice (some ⟨b2, 0, none⟩) m2 c2), (2, 17, .agg (U8 (ds)).toArray), (3, 18, (.slice sl1 m1 cap1)), (4, 19, (.slice sl2 m2 cap2)), (5, 20, .agg (U8 (ds)).toArray), (6, 21, .bool true), (7, 22, .bool true), (8, 23, .slice (some ⟨b1, 0, none⟩) m1 c1), (9, 24, .slice (some ⟨b2, 0, none⟩) m2 c2), (10, 25, .agg (U8 (ds)).toArray), (11, 26, (.slice sl1 m1 cap1)), (12, 27, (.slice sl2 m2 cap2)), (13, 28, .agg (U8 (ds)).toArray), (14, 29, .bool true), (15, 30, .bool true), (16, 31, .bool true), (17, 32, .slice (some ⟨b1, 0, none⟩) m1 c1), (18, 33, (.slice sl1 m1 cap1)), (19, 34, .bool true), (20, 35, .bool true), (21, 36, .bool true), (22, 37, .slice (some ⟨b2, 0, none⟩) m2 c2), (23, 38, (.slice sl2 m2 cap2)), (24, 39, .bool true), (25, 40, .bool true), (26, 41, .bool true), (27, 42, .bool true), (28, 43, .bool true), (29, 4, .bool true)] [] [] [] ?_ ?_
  · refine oc g_mv ?_
    refine oc g_mv ?_
    refine oc (g_cK ent_mac_Sum (fun fZ uZ kZ sZ bZ => hS1.out uZ b1 c1 z1 b2 c2 z2 bZ (kZ.cv 0) (kZ.lb sZ 0) a3 (kZ.cv 1) (kZ.lb sZ 1) d3)) ?_
    refine oc g_mv ?_
    refine oc g_mv ?_
    refine oc (g_cb ent_seneschalref05_Sum (fun uZ bZ => hS2.out uZ bZ)) ?_
    refine oc (g_bn (fun uZ => eql_A8 ds hdB _ _ uZ)) ?_
    refine oc g_mv ?_
    refine oc g_mv ?_
    refine oc g_mv ?_
    refine oc (g_cK ent_mac_Extract (fun fZ uZ kZ sZ bZ => hE1.out uZ b1 c1 z1 b2 c2 z2 bZ (kZ.cv 0) (kZ.lb sZ 0) a3 (kZ.cv 1) (kZ.lb sZ 1) d3)) ?_
    refine oc g_mv ?_
    refine oc g_mv ?_
    refine oc (g_cb ent_seneschalref05_Extract (fun uZ bZ => hE2.out uZ bZ)) ?_
    refine oc (g_bn (fun uZ => eql_A8 ds hdB _ _ uZ)) ?_
    refine oc g_pk ?_
    refine oc g_mv ?_
    refine oc g_mv ?_
    refine oc g_mv ?_
    refine oc (g_cK ent_seneschalbase_SameBytes (fun fZ uZ kZ sZ bZ => hB1.out uZ b1 c1 z1 bZ (kZ.cv 0) (kZ.lb sZ 0) a3)) ?_
    refine oc g_pk ?_
    refine oc g_mv ?_
    refine oc g_mv ?_
    refine oc g_mv ?_
    refine oc (g_cK ent_seneschalbase_SameBytes (fun fZ uZ kZ sZ bZ => hB2.out uZ b2 c2 z2 bZ (kZ.cv 1) (kZ.lb sZ 1) d3)) ?_
    refine oc g_pk ?_
    refine oc g_mv ?_
    refine oc (g_cb ent_seneschallaw05_works (fun uZ bZ => hW.out uZ bZ)) ?_
    refine oc g_pk ?_
    exact oc g_as on
  intro u2 HB2 sz2 K2
  simp only [fX, nK, nP, Wr.f, aK, pM] at K2
  simp only [setG, setN, List.set_cons_zero, List.set_cons_succ]
  go_wp2
  refine bodyPost_ret (v := .bool true) (by simp [results, Tryd.results6, go_sem, ]) rfl ⟨rfl, HB2⟩
end Go.Proofs.YtbgdcgboomdimaaDoor
