/- The reference's xor and mixing of blocks. -/
import Derived.Test.YtlcjbnhfmcnnfaaDoorAR2
namespace Go.Proofs.YtlcjbnhfmcnnfaaDoor
open Go.RowKit
set_option linter.unusedVariables false
set_option linter.unusedSimpArgs false
set_option maxRecDepth 100000 in
set_option maxHeartbeats 4000000 in
theorem cXorR_core (xs ks : List Nat) (gb go cap : Nat) (sA : Nat → List Nat) (w : World) (hgb : gb < w.heap.size) (hsb : Hid (∀ k, k < 16 → w.cell? ⟨gb, go + k, none⟩ = some (.int .u8 ((xs.getD k 0 : Nat) : Int)))) (hab : ∀ k, xs.getD k 0 < 256) (hkl : ks.length = 16) (hkb : ∀ k, ks.getD k 0 < 256) (hA0 : Hid (sA 0 = z16)) (hAs : Hid (∀ k, sA (k + 1) = (sA k).set k (xs.getD k 0 ^^^ ks.getD k 0))) (hAl : Hid (∀ k, (sA k).length = 16)) :
    Calls Tryd.prog 26 #[(.slice (some ⟨gb, go, none⟩) 16 cap), .agg (U8 (ks)).toArray] w fun e w' => ∃ v, e = .returned v ∧ PS w.heap.size 16 (U8 (sA 16)) w' v ∧ Below w.heap.size w w' := by
  go_enter Tryd.func26, Tryd.ntmps26
  go_upto_region 1 with fail
  generalize hC : (w.alloc (.cells (U8 (ks) : List Value).toArray 32)) = v0 at *
  have HB0 : Below w.heap.size w v0 := by rw [← hC]; exact balloc (bself w) _
  have K0 : Bk w.heap.size v0 [(true, w.heap.size, U8 (ks))] := by rw [← hC]; exact (Bk.nil _ w).ad
  clear hC
  have hlo3 := HB0.size
  have hltp := K0.lt 0
  refine rgF K0 HB0 HB0.size [] [] [] [] [] [⟨0, 7, some 1, PF v0.heap.size 16 (U8 (z16))⟩, ⟨1, 5, none, PF v0.heap.size 16 (U8 (z16))⟩] [] (.cons (fun _ _ _ h1 h2 => h2.stab h1) <| .cons (fun _ _ _ h1 h2 => h2.stab h1) <| Stab.nil) ?_ ?_
  · refine oc (g_ms 0 (PF v0.heap.size 16 (U8 (z16))) mk16 (fun u hu => PF.new 16 _ _ u hu)) ?_
    exact oc (g_sE 0 1 (PF v0.heap.size 16 (U8 (z16)))) on
  intro u1 v1_0 hv1_0 v1_1 hv1_1 HB1 sz1 K1
  simp only [fX, nK, nP, Wr.f, aK, pM] at K1
  simp only [setG, setN, setE, List.set_cons_zero, List.set_cons_succ]
  clear HB0
  obtain ⟨bt, rfl, hot1, hot2, hotC⟩ := hv1_1 rfl
  have K1_1 : Bk w.heap.size u1 [(false, w.heap.size, U8 (ks)), (true, bt, U8 (z16))] := ⟨.c (K1.lt 0) (K1.cv 0) <| .o hot2 (by omega) hotC <| trivial, by simp <;> omega⟩
  go_upto_region 2 with fail
  refine rgP K1_1 HB1 HB1.size [] [] [(0, 6, (Go.Value.int Go.IntKind.i64 0))] [] [] [] ?_ ?_
  · exact oc g_as on
  intro u2 HB2 sz2 K2
  simp only [fX, nK, nP, Wr.f, aK, pM] at K2
  simp only [setG, setN, List.set_cons_zero, List.set_cons_succ]
  clear HB1
  go_wp2_with fail
  go_loopw [6] (fun s6 wr => ∃ (k : Nat), k ≤ 16 ∧ s6 = .int .i64 (k : Int) ∧ Hid (CV wr (w.heap.size) (U8 ks)) ∧ bt < wr.heap.size ∧ Hid (CV wr bt (U8 (sA k))) ∧ Below w.heap.size w wr) (fun s6 _ => 16 - (intOf s6).toNat)
  case atStart => exact ⟨0, by omega, rfl, (K2.cv 0), (K2.lt 1), (by rw [hA0.out]; exact (K2.cv 1)), HB2⟩
  case round =>
    have hne := K2.n
    simp at hne
    clear hot2 hotC
    obtain ⟨k, hk, rfl, Kk, lt, Kt, HBr⟩ := hrel
    clear HB2
    by_cases hj : k < 16
    · have hd1 : decide ((k : Int) < 16) = true := by simp; omega
      have hA := hAs.out k
      have htl := hAl.out k
      obtain ⟨ts, ets⟩ : ∃ v, sA k = v := ⟨_, rfl⟩
      rw [ets] at hA htl Kt
      have gt := U8_get ts k (by omega)
      obtain ⟨z, ez⟩ : ∃ v, ts.getD k 0 = v := ⟨_, rfl⟩
      rw [ez] at gt
      have gk := U8_get ks k (by omega)
      have hx := hkb k
      have hsrc := hsb.out k hj
      have hv := hab k
      obtain ⟨x, ex⟩ : ∃ v, ks.getD k 0 = v := ⟨_, rfl⟩
      obtain ⟨v, ev⟩ : ∃ v, xs.getD k 0 = v := ⟨_, rfl⟩
      rw [ex] at gk hA hx
      rw [ev] at hsrc hA hv
      have hA : Hid _ := hA
      clear ets ez ex ev
      have hnK := K2.n
      simp at hnK
      have hoK1 := K2.lo 1
      have K2_2 : Bk w.heap.size wr [(false, w.heap.size, U8 (ks)), (true, bt, U8 (ts))] := ⟨.c (by omega) Kk.out <| .o lt (K2.lo 1) Kt.out <| trivial, by simp <;> omega⟩
      go_upto_region 3 with fail
      refine rgP K2_2 HBr HBr.size [] [] [(0, 8, .int .i64 ((k : Nat) : Int)), (1, 9, .bool true)] [] [] [] ?_ ?_
      · refine oc g_mv ?_
        exact oc (g_bn (fun uZ => lss_i _ _ (k : Int) 16 true uZ hd1)) on
      intro u3 HB3 sz3 K3
      simp only [fX, nK, nP, Wr.f, aK, pM] at K3
      simp only [setG, setN, List.set_cons_zero, List.set_cons_succ]
      go_upto_region 5 with fail
      refine rgD K3 HB3 HB3.size [.no, .all 11 (U8 (ts.set k (v ^^^ x)))] [] [(0, 12, .slice (some ⟨bt, 0, none⟩) 16 16), (1, 13, .int .i64 ((k : Nat) : Int)), (2, 14, (.slice (some ⟨gb, go, none⟩) 16 cap)), (3, 15, .int .i64 ((k : Nat) : Int)), (4, 16, .pointer (some ⟨gb, go + k, none⟩)), (5, 17, .int .u8 ((v : Nat) : Int)), (6, 18, .int .i64 ((k : Nat) : Int)), (7, 19, .pointer (some ⟨w.heap.size, k, none⟩)), (8, 20, .int .u8 ((x : Nat) : Int)), (9, 21, .int .u8 ((v ^^^ x : Nat) : Int)), (10, 22, .pointer (some ⟨bt, k, none⟩))] [] [] [] ?_ ?_
      · refine oc g_mv ?_
        refine oc g_mv ?_
        refine oc g_mv ?_
        refine oc g_mv ?_
        refine oc (g_ix (fun uZ => ixB gb go 16 cap k hj uZ)) ?_
        refine oc (g_lg gb (go + k) l8 (hsrc) (hgb)) ?_
        refine oc g_mv ?_
        refine oc (g_ix (fun uZ => xb16 (w.heap.size) k uZ hj)) ?_
        refine oc (g_lw 0 (k) l8 (gk)) ?_
        refine oc (g_bn (fun uZ => xor8 _ _ v x uZ hv hx)) ?_
        refine oc (g_ix (fun uZ => ixs bt 0 16 16 k k uZ hj (Nat.zero_add _))) ?_
        exact oc (g_sw 1 (k) s8 (gt) (U8_set _ _ _)) on
      intro u4 HB4 sz4 K4
      simp only [fX, nK, nP, Wr.f, aK, pM] at K4
      simp only [setG, setN, List.set_cons_zero, List.set_cons_succ]
      clear K3 HB3
      go_upto_region 4 with fail
      refine rgP K4 HB4 HB4.size [] [] [(0, 10, .int .i64 ((k : Nat) : Int)), (1, 11, .int .i64 ((k + 1 : Nat) : Int)), (2, 6, .int .i64 ((k + 1 : Nat) : Int))] [(2, 0)] [(2, 6)] [] ?_ ?_
      · refine oc g_mv ?_
        refine oc (g_bn (fun uZ => add_i _ _ (k : Int) 1 ((k + 1 : Nat) : Int) uZ (by omega) (by omega) (by omega))) ?_
        exact oc g_as on
      intro u5 HB5 sz5 K5
      simp only [fX, nK, nP, Wr.f, aK, pM] at K5
      simp only [setG, setN, List.set_cons_zero, List.set_cons_succ]
      clear K4 HB4
      go_wp2
      refine ⟨⟨k + 1, by omega, rfl, (K5.cv 0), (K5.lt 1), (by rw [hA.out]; exact (K5.cv 1)), HB5⟩, ?_⟩
      simp [intOf] <;> omega
    · have hd1 : decide ((k : Int) < 16) = false := by simp; omega
      have hk16 : k = 16 := by omega
      subst hk16
      have hnK := K2.n
      simp at hnK
      have hoK1 := K2.lo 1
      have K2_2 : Bk w.heap.size wr [(false, w.heap.size, U8 (ks)), (true, bt, U8 (sA 16))] := ⟨.c (by omega) Kk.out <| .o lt (K2.lo 1) Kt.out <| trivial, by simp <;> omega⟩
      go_upto_region 3 with fail
      refine rgP K2_2 HBr HBr.size [] [] [(0, 8, .int .i64 ((16 : Nat) : Int)), (1, 9, .bool false)] [] [] [] ?_ ?_
      · refine oc g_mv ?_
        exact oc (g_bn (fun uZ => lss_i _ _ ((16 : Nat) : Int) 16 false uZ hd1)) on
      intro u3 HB3 sz3 K3
      simp only [fX, nK, nP, Wr.f, aK, pM] at K3
      simp only [setG, setN, List.set_cons_zero, List.set_cons_succ]
      go_upto_region 6 with fail
      refine rgP K3 HB3 HB3.size [] [] [(0, 23, .slice (some ⟨bt, 0, none⟩) 16 16), (1, 4, .slice (some ⟨bt, 0, none⟩) 16 16)] [] [] [] ?_ ?_
      · refine oc g_mv ?_
        exact oc g_as on
      intro u4 HB4 sz4 K4
      simp only [fX, nK, nP, Wr.f, aK, pM] at K4
      simp only [setG, setN, List.set_cons_zero, List.set_cons_succ]
      clear K3 HB3
      go_wp2
      refine bodyPost_ret (v := .slice (some ⟨bt, 0, none⟩) 16 16) (by simp [results, Tryd.results26, go_sem]) rfl ⟨_, rfl, ⟨bt, 16, rfl, by omega, (K4.lt 1), Nat.le_refl _, (K4.cv 1)⟩, HB4⟩
theorem cXorR (xs ks : List Nat) (v : Value) (w : World) (hin : IN w w.heap.size v xs) (hx : BY 16 xs) (hk : BY 16 ks) : Calls Tryd.prog 26 #[v, .agg (U8 (ks)).toArray] w fun e w' => ∃ v, e = .returned v ∧ PS w.heap.size 16 (U8 (xorB xs ks)) w' v ∧ Below w.heap.size w w' := by
  obtain ⟨sl, cap, gb, go, rfl, h1, h2, h3, h4⟩ := hin
  have hl := hx.len
  have h2 := h2.resolve_left (by omega)
  subst h2
  have e : flB 16 (fun i => xs.getD i 0 ^^^ ks.getD i 0) 16 = xorB xs ks := flB_all 16 _
  rw [← e, hl]
  exact cXorR_core xs ks gb go cap (flB 16 _) w h3 (fun k hk => h4 k (by omega)) hx.lt hk.len hk.lt rfl (fun _ => rfl) (flB_len 16 _)
set_option maxRecDepth 100000 in
set_option maxHeartbeats 4000000 in
theorem cMixR_core (xs cs : List Nat) (gb go cap : Nat) (sB : Nat → Nat → List Nat) (w : World) (hgb : gb < w.heap.size) (hsb : Hid (∀ k, k < 16 → w.cell? ⟨gb, go + k, none⟩ = some (.int .u8 ((xs.getD k 0 : Nat) : Int)))) (hab : ∀ k, xs.getD k 0 < 256) (hcl : cs.length = 4) (hcb : ∀ k, cs.getD k 0 < 256) (hB0 : Hid (sB 0 0 = z16)) (hBn : Hid (∀ k, sB (k + 1) 0 = sB k 4)) (hBs : Hid (∀ k j, sB k (j + 1) = (sB k j).set k ((sB k j).getD k 0 ^^^ tm (xs.getD (k / 4 * 4 + (k + j) % 4) 0) (cs.getD j 0)))) (hBl : Hid (∀ k j, (sB k j).length = 16)) (hBb : Hid (∀ k j i, (sB k j).getD i 0 < 256)) :
    Calls Tryd.prog 27 #[(.slice (some ⟨gb, go, none⟩) 16 cap), .agg (U8 (cs)).toArray] w fun e w' => ∃ v, e = .returned v ∧ PS w.heap.size 16 (U8 (sB 16 0)) w' v ∧ Below w.heap.size w w' := by
  go_enter Tryd.func27, Tryd.ntmps27
  go_upto_region 1 with fail
  generalize hC : (w.alloc (.cells (U8 (cs) : List Value).toArray 48)) = v0 at *
  have HB0 : Below w.heap.size w v0 := by rw [← hC]; exact balloc (bself w) _
  have K0 : Bk w.heap.size v0 [(true, w.heap.size, U8 (cs))] := by rw [← hC]; exact (Bk.nil _ w).ad
  clear hC
  have hlo3 := HB0.size
  have hltp := K0.lt 0
  refine rgF K0 HB0 HB0.size [] [] [] [] [] [⟨0, 8, some 1, PF v0.heap.size 16 (U8 (z16))⟩, ⟨1, 5, none, PF v0.heap.size 16 (U8 (z16))⟩] [] (.cons (fun _ _ _ h1 h2 => h2.stab h1) <| .cons (fun _ _ _ h1 h2 => h2.stab h1) <| Stab.nil) ?_ ?_
  · refine oc (g_ms 0 (PF v0.heap.size 16 (U8 (z16))) mk16 (fun u hu => PF.new 16 _ _ u hu)) ?_
    exact oc (g_sE 0 1 (PF v0.heap.size 16 (U8 (z16)))) on
  intro u1 v1_0 hv1_0 v1_1 hv1_1 HB1 sz1 K1
  simp only [fX, nK, nP, Wr.f, aK, pM] at K1
  simp only [setG, setN, setE, List.set_cons_zero, List.set_cons_succ]
  clear HB0
  obtain ⟨bt, rfl, hot1, hot2, hotC⟩ := hv1_1 rfl
  have K1_1 : Bk w.heap.size u1 [(false, w.heap.size, U8 (cs)), (true, bt, U8 (z16))] := ⟨.c (K1.lt 0) (K1.cv 0) <| .o hot2 (by omega) hotC <| trivial, by simp <;> omega⟩
  go_upto_region 2 with fail
  refine rgP K1_1 HB1 HB1.size [] [] [(0, 6, (Go.Value.int Go.IntKind.i64 0))] [] [] [] ?_ ?_
  · exact oc g_as on
  intro u2 HB2 sz2 K2
  simp only [fX, nK, nP, Wr.f, aK, pM] at K2
  simp only [setG, setN, List.set_cons_zero, List.set_cons_succ]
  clear HB1
  go_wp2_with fail
  go_loopw [6] (fun s6 wr => ∃ (k : Nat), k ≤ 16 ∧ s6 = .int .i64 (k : Int) ∧ Hid (CV wr (w.heap.size) (U8 cs)) ∧ bt < wr.heap.size ∧ Hid (CV wr bt (U8 (sB k 0))) ∧ Below w.heap.size w wr) (fun s6 _ => 16 - (intOf s6).toNat)
  case atStart => exact ⟨0, by omega, rfl, (K2.cv 0), (K2.lt 1), (by rw [hB0.out]; exact (K2.cv 1)), HB2⟩
  case round =>
    have hne := K2.n
    simp at hne
    clear hot2 hotC
    obtain ⟨k, hk, rfl, Kk, lt, Kt, HBr⟩ := hrel
    clear HB2
    by_cases hj : k < 16
    · have hd1 : decide ((k : Int) < 16) = true := by simp; omega
      have hnK := K2.n
      simp at hnK
      have hoK1 := K2.lo 1
      have K2_2 : Bk w.heap.size wr [(false, w.heap.size, U8 (cs)), (true, bt, U8 (sB k 0))] := ⟨.c (by omega) Kk.out <| .o lt (K2.lo 1) Kt.out <| trivial, by simp <;> omega⟩
      go_upto_region 3 with fail
      refine rgP K2_2 HBr HBr.size [] [] [(0, 9, .int .i64 ((k : Nat) : Int)), (1, 10, .bool true)] [] [] [] ?_ ?_
      · refine oc g_mv ?_
        exact oc (g_bn (fun uZ => lss_i _ _ (k : Int) 16 true uZ hd1)) on
      intro u3 HB3 sz3 K3
      simp only [fX, nK, nP, Wr.f, aK, pM] at K3
      simp only [setG, setN, List.set_cons_zero, List.set_cons_succ]
      go_upto_region 5 with fail
      refine rgP K3 HB3 HB3.size [] [] [(0, 7, (Go.Value.int Go.IntKind.i64 0))] [] [] [] ?_ ?_
      · exact oc g_as on
      intro u4 HB4 sz4 K4
      simp only [fX, nK, nP, Wr.f, aK, pM] at K4
      simp only [setG, setN, List.set_cons_zero, List.set_cons_succ]
      clear K3 HB3
      go_wp2_with fail
      go_loopw [7] (fun s7 wr => ∃ (j : Nat), j ≤ 4 ∧ s7 = .int .i64 (j : Int) ∧ Hid (CV wr (w.heap.size) (U8 cs)) ∧ bt < wr.heap.size ∧ Hid (CV wr bt (U8 (sB k j))) ∧ Below w.heap.size w wr) (fun s7 _ => 4 - (intOf s7).toNat)
      case atStart => exact ⟨0, by omega, rfl, (K4.cv 0), (K4.lt 1), (K4.cv 1), HB4⟩
      case round =>
        clear Kk lt Kt HBr hd1
        obtain ⟨j, hj4, rfl, Kk, lt, Kt, HBr⟩ := hrel
        clear HB4
        by_cases hjj : j < 4
        · have hd1 : decide ((j : Int) < 4) = true := by simp; omega
          have hB := hBs.out k j
          have htl := hBl.out k j
          have hvz := hBb.out k j k
          obtain ⟨ts, ets⟩ : ∃ v, sB k j = v := ⟨_, rfl⟩
          rw [ets] at hB htl Kt hvz
          have gt := U8_get ts k (by omega)
          obtain ⟨z, ez⟩ : ∃ v, ts.getD k 0 = v := ⟨_, rfl⟩
          rw [ez] at gt hB hvz
          obtain ⟨ix, eix⟩ : ∃ ix, k / 4 * 4 + (k + j) % 4 = ix := ⟨_, rfl⟩
          rw [eix] at hB
          have hix16 : ix < 16 := by omega
          have hsrc := hsb.out ix hix16
          have hx := hab ix
          have gc := U8_get cs j (by omega)
          have hc := hcb j
          obtain ⟨x, ex⟩ : ∃ v, xs.getD ix 0 = v := ⟨_, rfl⟩
          obtain ⟨c, ec⟩ : ∃ v, cs.getD j 0 = v := ⟨_, rfl⟩
          rw [ex] at hsrc hB hx
          rw [ec] at gc hB hc
          have hT := fun u => cTimesR x c u hx hc
          have hy := tm_lt (b := c) hx
          obtain ⟨y, ey⟩ : ∃ y, tm x c = y := ⟨_, rfl⟩
          rw [ey] at hB hy
          simp only [ey] at hT
          have hB : Hid _ := hB
          have hT : Hid _ := hT
          clear ets ez ex ec ey
          have hnK := K4.n
          simp at hnK
          have hoK1 := K4.lo 1
          have K4_3 : Bk w.heap.size wr [(false, w.heap.size, U8 (cs)), (true, bt, U8 (ts))] := ⟨.c (by omega) Kk.out <| .o lt (K4.lo 1) Kt.out <| trivial, by simp <;> omega⟩
          go_upto_region 6 with fail
          refine rgP K4_3 HBr HBr.size [] [] [(0, 13, .int .i64 ((j : Nat) : Int)), (1, 14, .bool true)] [] [] [] ?_ ?_
          · refine oc g_mv ?_
            exact oc (g_bn (fun uZ => lss_i _ _ (j : Int) 4 true uZ hd1)) on
          intro u5 HB5 sz5 K5
          simp only [fX, nK, nP, Wr.f, aK, pM] at K5
          simp only [setG, setN, List.set_cons_zero, List.set_cons_succ]
          go_upto_region 8 with fail
          refine rgD K5 HB5 HB5.size [.no, .all 23 (U8 (ts.set k (z ^^^ y)))] [] [(0, 17, .slice (some ⟨bt, 0, none⟩) 16 16), (1, 18, .int .i64 ((k : Nat) : Int)), (2, 19, .slice (some ⟨bt, 0, none⟩) 16 16), (3, 20, .int .i64 ((k : Nat) : Int)), (4, 21, .pointer (some ⟨bt, k, none⟩)), (5, 22, .int .u8 ((z : Nat) : Int)), (6, 23, (.slice (some ⟨gb, go, none⟩) 16 cap)), (7, 24, .int .i64 ((k : Nat) : Int)), (8, 25, .int .i64 ((k / 4 : Nat) : Int)), (9, 26, .int .i64 ((k / 4 * 4 : Nat) : Int)), (10, 27, .int .i64 ((k : Nat) : Int)), (11, 28, .int .i64 ((j : Nat) : Int)), (12, 29, .int .i64 ((k + j : Nat) : Int)), (13, 30, .int .i64 (((k + j) % 4 : Nat) : Int)), (14, 31, .int .i64 ((ix : Nat) : Int)), (15, 32, .pointer (some ⟨gb, go + ix, none⟩)), (16, 33, .int .u8 ((x : Nat) : Int)), (17, 34, .int .i64 ((j : Nat) : Int)), (18, 35, .pointer (some ⟨w.heap.size, j, none⟩)), (19, 36, .int .u8 ((c : Nat) : Int)), (20, 37, .int .u8 ((y : Nat) : Int)), (21, 38, .int .u8 ((z ^^^ y : Nat) : Int)), (22, 39, .pointer (some ⟨bt, k, none⟩))] [(23, 5)] [] [] ?_ ?_
          · refine oc g_mv ?_
            refine oc g_mv ?_
            refine oc g_mv ?_
            refine oc g_mv ?_
            refine oc (g_ix (fun uZ => ixs bt 0 16 16 k k uZ hj (Nat.zero_add _))) ?_
            refine oc (g_lw 1 (k) l8 (gt)) ?_
            refine oc g_mv ?_
            refine oc g_mv ?_
            refine oc (g_bn (fun uZ => quo_n _ _ k 4 uZ (by omega) (by decide))) ?_
            refine oc (g_bn (fun uZ => muli _ _ (k / 4) 4 (k / 4 * 4) uZ rfl (by omega))) ?_
            refine oc g_mv ?_
            refine oc g_mv ?_
            refine oc (g_bn (fun uZ => add_i _ _ (k : Int) (j : Int) ((k + j : Nat) : Int) uZ (by omega) (by omega) (by omega))) ?_
            refine oc (g_bn (fun uZ => remi _ _ (k + j) 4 uZ (by omega) (by decide))) ?_
            refine oc (g_bn (fun uZ => add_i _ _ ((k / 4 * 4 : Nat) : Int) (((k + j) % 4 : Nat) : Int) (ix : Int) uZ (by omega) (by omega) (by omega))) ?_
            refine oc (g_ix (fun uZ => ixB gb go 16 cap ix hix16 uZ)) ?_
            refine oc (g_lg gb (go + ix) l8 (hsrc) (hgb)) ?_
            refine oc g_mv ?_
            refine oc (g_ix (fun uZ => xb4 (w.heap.size) j uZ hjj)) ?_
            refine oc (g_lw 0 (j) l8 (gc)) ?_
            refine oc (g_cl ent_seneschalref06_Times (fun uZ => hT.out uZ)) ?_
            refine oc (g_bn (fun uZ => xor8 _ _ z y uZ hvz hy)) ?_
            refine oc (g_ix (fun uZ => ixs bt 0 16 16 k k uZ hj (Nat.zero_add _))) ?_
            exact oc (g_sw 1 (k) s8 (gt) (U8_set _ _ _)) on
          intro u6 HB6 sz6 K6
          simp only [fX, nK, nP, Wr.f, aK, pM] at K6
          simp only [setG, setN, List.set_cons_zero, List.set_cons_succ]
          clear K5 HB5
          go_upto_region 7 with fail
          refine rgP K6 HB6 HB6.size [] [] [(0, 15, .int .i64 ((j : Nat) : Int)), (1, 16, .int .i64 ((j + 1 : Nat) : Int)), (2, 7, .int .i64 ((j + 1 : Nat) : Int))] [(2, 0)] [(2, 7)] [] ?_ ?_
          · refine oc g_mv ?_
            refine oc (g_bn (fun uZ => add_i _ _ (j : Int) 1 ((j + 1 : Nat) : Int) uZ (by omega) (by omega) (by omega))) ?_
            exact oc g_as on
          intro u7 HB7 sz7 K7
          simp only [fX, nK, nP, Wr.f, aK, pM] at K7
          simp only [setG, setN, List.set_cons_zero, List.set_cons_succ]
          clear K6 HB6
          go_wp2
          refine ⟨⟨j + 1, by omega, rfl, (K7.cv 0), (K7.lt 1), (by rw [hB.out]; exact (K7.cv 1)), HB7⟩, ?_⟩
          simp [intOf] <;> omega
        · have hd1 : decide ((j : Int) < 4) = false := by simp; omega
          have hj4 : j = 4 := by omega
          subst hj4
          have hnK := K4.n
          simp at hnK
          have hoK1 := K4.lo 1
          have K4_3 : Bk w.heap.size wr [(false, w.heap.size, U8 (cs)), (true, bt, U8 (sB k 4))] := ⟨.c (by omega) Kk.out <| .o lt (K4.lo 1) Kt.out <| trivial, by simp <;> omega⟩
          go_upto_region 6 with fail
          refine rgP K4_3 HBr HBr.size [] [] [(0, 13, .int .i64 ((4 : Nat) : Int)), (1, 14, .bool false)] [] [] [] ?_ ?_
          · refine oc g_mv ?_
            exact oc (g_bn (fun uZ => lss_i _ _ ((4 : Nat) : Int) 4 false uZ hd1)) on
          intro u5 HB5 sz5 K5
          simp only [fX, nK, nP, Wr.f, aK, pM] at K5
          simp only [setG, setN, List.set_cons_zero, List.set_cons_succ]
          go_upto_region 4 with fail
          refine rgP K5 HB5 HB5.size [] [] [(0, 11, .int .i64 ((k : Nat) : Int)), (1, 12, .int .i64 ((k + 1 : Nat) : Int)), (2, 6, .int .i64 ((k + 1 : Nat) : Int))] [(2, 0)] [(2, 6)] [] ?_ ?_
          · refine oc g_mv ?_
            refine oc (g_bn (fun uZ => add_i _ _ (k : Int) 1 ((k + 1 : Nat) : Int) uZ (by omega) (by omega) (by omega))) ?_
            exact oc g_as on
          intro u6 HB6 sz6 K6
          simp only [fX, nK, nP, Wr.f, aK, pM] at K6
          simp only [setG, setN, List.set_cons_zero, List.set_cons_succ]
          clear K5 HB5
          go_wp2
          refine ⟨⟨k + 1, by omega, rfl, (K6.cv 0), (K6.lt 1), (by rw [hBn.out]; exact (K6.cv 1)), HB6⟩, ?_⟩
          simp [intOf] <;> omega
    · have hd1 : decide ((k : Int) < 16) = false := by simp; omega
      have hk16 : k = 16 := by omega
      subst hk16
      have hnK := K2.n
      simp at hnK
      have hoK1 := K2.lo 1
      have K2_2 : Bk w.heap.size wr [(false, w.heap.size, U8 (cs)), (true, bt, U8 (sB 16 0))] := ⟨.c (by omega) Kk.out <| .o lt (K2.lo 1) Kt.out <| trivial, by simp <;> omega⟩
      go_upto_region 3 with fail
      refine rgP K2_2 HBr HBr.size [] [] [(0, 9, .int .i64 ((16 : Nat) : Int)), (1, 10, .bool false)] [] [] [] ?_ ?_
      · refine oc g_mv ?_
        exact oc (g_bn (fun uZ => lss_i _ _ ((16 : Nat) : Int) 16 false uZ hd1)) on
      intro u3 HB3 sz3 K3
      simp only [fX, nK, nP, Wr.f, aK, pM] at K3
      simp only [setG, setN, List.set_cons_zero, List.set_cons_succ]
      go_upto_region 9 with fail
      refine rgP K3 HB3 HB3.size [] [] [(0, 40, .slice (some ⟨bt, 0, none⟩) 16 16), (1, 4, .slice (some ⟨bt, 0, none⟩) 16 16)] [] [] [] ?_ ?_
      · refine oc g_mv ?_
        exact oc g_as on
      intro u4 HB4 sz4 K4
      simp only [fX, nK, nP, Wr.f, aK, pM] at K4
      simp only [setG, setN, List.set_cons_zero, List.set_cons_succ]
      clear K3 HB3
      go_wp2
      refine bodyPost_ret (v := .slice (some ⟨bt, 0, none⟩) 16 16) (by simp [results, Tryd.results27, go_sem]) rfl ⟨_, rfl, ⟨bt, 16, rfl, by omega, (K4.lt 1), Nat.le_refl _, (K4.cv 1)⟩, HB4⟩
theorem cMixR (xs cs : List Nat) (v : Value) (w : World) (hin : IN w w.heap.size v xs) (hx : BY 16 xs) (hc : BY 4 cs) : Calls Tryd.prog 27 #[v, .agg (U8 (cs)).toArray] w fun e w' => ∃ v, e = .returned v ∧ PS w.heap.size 16 (U8 (mixB (cs.getD 0 0) (cs.getD 1 0) (cs.getD 2 0) (cs.getD 3 0) xs)) w' v ∧ Below w.heap.size w w' := by
  obtain ⟨sl, cap, gb, go, rfl, h1, h2, h3, h4⟩ := hin
  have hl := hx.len
  have h2 := h2.resolve_left (by omega)
  subst h2
  have e := mxL_all (fun i => cs.getD i 0) xs
  rw [← e, ← mxS_0, hl]
  exact cMixR_core xs cs gb go cap (mxS cs xs) w h3 (fun k hk => h4 k (by omega)) hx.lt hc.len hc.lt rfl (mxS_n cs xs) (mxS_s cs xs) (fun k j => (mxS_B cs hx k j).len) (fun k j => (mxS_B cs hx k j).lt)
end Go.Proofs.YtlcjbnhfmcnnfaaDoor
