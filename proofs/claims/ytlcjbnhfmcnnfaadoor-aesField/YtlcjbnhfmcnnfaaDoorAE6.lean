/- AES: the key of the next round. -/
import Derived.Test.YtlcjbnhfmcnnfaaDoorAE5
namespace Go.Proofs.YtlcjbnhfmcnnfaaDoor
open Go.RowKit
set_option linter.unusedVariables false
set_option linter.unusedSimpArgs false
def nkC (ks c0 : List Nat) : Nat → List Nat
  | 0 => c0
  | k + 1 => (nkC ks c0 k).set (k % 4) ((nkC ks c0 k).getD (k % 4) 0 ^^^ ks.getD k 0)
theorem nkC_B {ks c0 : List Nat} (hk : BY 16 ks) (hc : BY 4 c0) : ∀ k, BY 4 (nkC ks c0 k)
  | 0 => hc
  | k + 1 => (nkC_B hk hc k).set _ _ (xr8 ((nkC_B hk hc k).lt _) (hk.lt _))
def nk0 (ks : List Nat) (p : Nat) : List Nat := [sbT.getD (ks.getD 13 0) 0 ^^^ p, sbT.getD (ks.getD 14 0) 0, sbT.getD (ks.getD 15 0) 0, sbT.getD (ks.getD 12 0) 0]
theorem nk0_B {ks : List Nat} {p : Nat} (hk : BY 16 ks) (hp : p < 256) : BY 4 (nk0 ks p) :=
  BY_4 (xr8 (sb_lt _ (hk.lt _)) hp) (sb_lt _ (hk.lt _)) (sb_lt _ (hk.lt _)) (sb_lt _ (hk.lt _))
theorem nk0_get (ks : List Nat) (p : Nat) : ∀ m, m < 4 → (nk0 ks p).getD m 0 = sbT.getD (ks.getD (12 + (m + 1) % 4) 0) 0 ^^^ (if m = 0 then p else 0) := by
  intro m hm
  rcases (by omega : m = 0 ∨ m = 1 ∨ m = 2 ∨ m = 3) with rfl | rfl | rfl | rfl
  · show _ ^^^ p = _; rw [if_pos rfl]
  · show sbT.getD (ks.getD 14 0) 0 = _; rw [if_neg (by decide), Nat.xor_zero]
  · show sbT.getD (ks.getD 15 0) 0 = _; rw [if_neg (by decide), Nat.xor_zero]
  · show sbT.getD (ks.getD 12 0) 0 = _; rw [if_neg (by decide), Nat.xor_zero]
/-- The next key. -/
def nkB (ks : List Nat) (p : Nat) : List Nat := (List.range 16).map fun k => (nkC ks (nk0 ks p) k).getD (k % 4) 0 ^^^ ks.getD k 0
theorem nkC_is {ks c0 R : List Nat} (hc : c0.length = 4) (h0 : ∀ m, m < 4 → R.getD m 0 = ks.getD m 0 ^^^ c0.getD m 0) (h1 : ∀ j, 4 ≤ j → j < 16 → R.getD j 0 = ks.getD j 0 ^^^ R.getD (j - 4) 0) :
    ∀ i, i ≤ 16 → (nkC ks c0 i).length = 4 ∧ ∀ m, m < 4 → (nkC ks c0 i).getD m 0 = if i ≤ m then c0.getD m 0 else R.getD (m + 4 * ((i - 1 - m) / 4)) 0
  | 0, _ => ⟨hc, fun m hm => by rw [if_pos (by omega)]; rfl⟩
  | i + 1, h => by
    obtain ⟨hl, ih⟩ := nkC_is hc h0 h1 i (by omega)
    refine ⟨by rw [nkC, List.length_set]; exact hl, fun m hm => ?_⟩
    rw [nkC, gset, hl]
    by_cases e : i % 4 = m
    · rw [if_pos ⟨e, by omega⟩, if_neg (by omega), ih _ (by omega)]
      by_cases h4 : i < 4
      · have e2 : i % 4 = i := by omega
        rw [e2, if_pos (by omega), Nat.xor_comm, ← h0 i h4]
        congr 1; omega
      · rw [if_neg (by omega), Nat.xor_comm, show i % 4 + 4 * ((i - 1 - i % 4) / 4) = i - 4 by omega, ← h1 i (by omega) (by omega)]
        congr 1; omega
    · rw [if_neg (fun x => e x.1), ih m hm]
      by_cases h2 : i ≤ m
      · rw [if_pos h2, if_pos (by omega)]
      · rw [if_neg h2, if_neg (by omega)]
        congr 1; omega
theorem nkB_is {key : List Nat} (hk : BY 16 key) {r : Nat} (hr : r < 10) : nkB (rky key r) (rcn r) = rky key (r + 1) := by
  have hB := rky_B hk r
  have h0 : ∀ m, m < 4 → (rky key (r + 1)).getD m 0 = (rky key r).getD m 0 ^^^ (nk0 (rky key r) (rcn r)).getD m 0 := fun m hm => by
    rw [rky_first hk hr hm, nk0_get _ _ m hm]
  have h1 := fun j (h4 : 4 ≤ j) (h : j < 16) => rky_next hk hr h4 h
  refine ext_n (by simp [nkB]) (rky_B hk _).len fun i hi => ?_
  rw [nkB, rm_get 16 _ hi, (nkC_is (nk0_B hB (rcn_lt r)).len h0 h1 i (by omega)).2 _ (by omega), Nat.xor_comm]
  by_cases h4 : i < 4
  · rw [if_pos (by omega), show i % 4 = i by omega, ← h0 i h4]
  · rw [if_neg (by omega), show i % 4 + 4 * ((i - 1 - i % 4) / 4) = i - 4 by omega, ← h1 i (by omega) hi]
theorem sl12 (b : Nat) (w : World) : (Instr.sliceAt 32 (.pointer (some ⟨b, 0, none⟩)) (some (.int .i64 12)) none none).run Tryd.prog w = .ok (.slice (some ⟨b, 12, none⟩) 4 4) w := by
  go_simp
theorem ixs (b o n c k m : Nat) (w : World) (h : k < n) (hm : o + k = m) : (Instr.indexAt 24 (.slice (some ⟨b, o, none⟩) n c) (.int .i64 k)).run Tryd.prog w = .ok (.pointer (some ⟨b, m, none⟩)) w := by
  have h2 : (k : Int) < n := by omega
  subst hm
  go_simp
theorem bd4 (a b c d : Nat) (w : World) : (Instr.build 48 [(0, .int .u8 (a : Int)), (1, .int .u8 (b : Int)), (2, .int .u8 (c : Int)), (3, .int .u8 (d : Int))].toArray).run Tryd.prog w = .ok (.agg (U8 ([a, b, c, d])).toArray) w := by kernel_rfl
set_option maxRecDepth 100000 in
set_option maxHeartbeats 4000000 in
theorem cNext_core (ks : List Nat) (p x0 x1 x2 x3 y0 y1 y2 y3 : Nat) (sK sC : Nat → List Nat) (w : World) (hp : p < 256) (hkl : ks.length = 16) (hkb : ∀ j, ks.getD j 0 < 256) (hy1 : y1 < 256)
    (g12 : (U8 ks)[12]? = some (.int .u8 (x0 : Int))) (g13 : (U8 ks)[13]? = some (.int .u8 (x1 : Int))) (g14 : (U8 ks)[14]? = some (.int .u8 (x2 : Int))) (g15 : (U8 ks)[15]? = some (.int .u8 (x3 : Int)))
    (h12 : Hid (∀ u, Below w.heap.size w u → Calls Tryd.prog 8 #[.int .u8 (x0 : Nat)] u fun e w' => e = .returned (.int .u8 (y0 : Nat)) ∧ Below u.heap.size u w')) (h13 : Hid (∀ u, Below w.heap.size w u → Calls Tryd.prog 8 #[.int .u8 (x1 : Nat)] u fun e w' => e = .returned (.int .u8 (y1 : Nat)) ∧ Below u.heap.size u w')) (h14 : Hid (∀ u, Below w.heap.size w u → Calls Tryd.prog 8 #[.int .u8 (x2 : Nat)] u fun e w' => e = .returned (.int .u8 (y2 : Nat)) ∧ Below u.heap.size u w')) (h15 : Hid (∀ u, Below w.heap.size w u → Calls Tryd.prog 8 #[.int .u8 (x3 : Nat)] u fun e w' => e = .returned (.int .u8 (y3 : Nat)) ∧ Below u.heap.size u w'))
    (hK0 : Hid (sK 0 = ks)) (hC0 : Hid (sC 0 = [y1 ^^^ p, y2, y3, y0])) (hCs : Hid (∀ k, sC (k + 1) = (sC k).set (k % 4) ((sC k).getD (k % 4) 0 ^^^ ks.getD k 0))) (hKs : Hid (∀ k, sK (k + 1) = (sK k).set k ((sC k).getD (k % 4) 0 ^^^ ks.getD k 0))) (hCW : Hid (∀ k, BY 4 (sC k))) (hKW : Hid (∀ k, BY 16 (sK k))) (hKg : Hid (∀ k, k < 16 → (sK k).getD k 0 = ks.getD k 0)) :
    Calls Tryd.prog 30 #[.agg (U8 (ks)).toArray, .int .u8 (p : Int)] w fun e w' => e = .returned (.agg (U8 (sK 16)).toArray) ∧ Below w.heap.size w w' := by
  go_enter Tryd.func30, Tryd.ntmps30
  go_upto_region 1 with fail
  generalize hC : ((w.alloc (.cells (U8 (ks) : List Value).toArray 32)).alloc (.cells (Z16b : List Value).toArray 32)) = v0 at *
  have HB0 : Below w.heap.size w v0 := by rw [← hC]; exact balloc (balloc (bself w) _) _
  have K0 : Bk w.heap.size v0 [(true, w.heap.size, U8 (ks)), (true, w.heap.size + 1, U8 (z16))] := by rw [← hC]; exact (Bk.nil _ w).ad.ad
  clear hC
  refine rgP K0 HB0 HB0.size [] [] [(0, 8, .slice (some ⟨w.heap.size, 12, none⟩) 4 4), (1, 5, .slice (some ⟨w.heap.size, 12, none⟩) 4 4)] [] [] [] ?_ ?_
  · refine oc (g_sl (fun uZ => sl12 (w.heap.size) uZ)) ?_
    exact oc g_as on
  intro u1 HB1 sz1 K1
  simp only [fX, nK, nP, Wr.f, aK, pM] at K1
  simp only [setG, setN, List.set_cons_zero, List.set_cons_succ]
  clear K0 HB0
  go_upto_region 2 with fail
  refine rgD K1 HB1 HB1.size [] [(19, 6, U8 (z4), some (20, U8 ([y1 ^^^ p, y2, y3, y0])))] [(0, 9, .slice (some ⟨w.heap.size, 12, none⟩) 4 4), (1, 10, .pointer (some ⟨w.heap.size, 13, none⟩)), (2, 11, .int .u8 ((x1 : Nat) : Int)), (3, 12, .int .u8 ((y1 : Nat) : Int)), (4, 13, .int .u8 ((p : Nat) : Int)), (5, 14, .int .u8 ((y1 ^^^ p : Nat) : Int)), (6, 15, .slice (some ⟨w.heap.size, 12, none⟩) 4 4), (7, 16, .pointer (some ⟨w.heap.size, 14, none⟩)), (8, 17, .int .u8 ((x2 : Nat) : Int)), (9, 18, .int .u8 ((y2 : Nat) : Int)), (10, 19, .slice (some ⟨w.heap.size, 12, none⟩) 4 4), (11, 20, .pointer (some ⟨w.heap.size, 15, none⟩)), (12, 21, .int .u8 ((x3 : Nat) : Int)), (13, 22, .int .u8 ((y3 : Nat) : Int)), (14, 23, .slice (some ⟨w.heap.size, 12, none⟩) 4 4), (15, 24, .pointer (some ⟨w.heap.size, 12, none⟩)), (16, 25, .int .u8 ((x0 : Nat) : Int)), (17, 26, .int .u8 ((y0 : Nat) : Int)), (18, 27, .agg (U8 ([y1 ^^^ p, y2, y3, y0])).toArray)] [(20, 19)] [] [] ?_ ?_
  · refine oc g_mv ?_
    refine oc (g_ix (fun uZ => ixs (w.heap.size) 12 4 4 1 13 uZ (by decide) rfl)) ?_
    refine oc (g_lw 0 (13) l8 (g13)) ?_
    refine oc (g_cb ent_aes_Substitute (fun uZ bZ => h13.out uZ bZ)) ?_
    refine oc g_mv ?_
    refine oc (g_bn (fun uZ => xor8 _ _ y1 p uZ hy1 hp)) ?_
    refine oc g_mv ?_
    refine oc (g_ix (fun uZ => ixs (w.heap.size) 12 4 4 2 14 uZ (by decide) rfl)) ?_
    refine oc (g_lw 0 (14) l8 (g14)) ?_
    refine oc (g_cb ent_aes_Substitute (fun uZ bZ => h14.out uZ bZ)) ?_
    refine oc g_mv ?_
    refine oc (g_ix (fun uZ => ixs (w.heap.size) 12 4 4 3 15 uZ (by decide) rfl)) ?_
    refine oc (g_lw 0 (15) l8 (g15)) ?_
    refine oc (g_cb ent_aes_Substitute (fun uZ bZ => h15.out uZ bZ)) ?_
    refine oc g_mv ?_
    refine oc (g_ix (fun uZ => ixs (w.heap.size) 12 4 4 0 12 uZ (by decide) rfl)) ?_
    refine oc (g_lw 0 (12) l8 (g12)) ?_
    refine oc (g_cb ent_aes_Substitute (fun uZ bZ => h12.out uZ bZ)) ?_
    refine oc (g_bd (fun uZ => bd4 (y1 ^^^ p) y2 y3 y0 uZ)) ?_
    refine oc (g_al 0 al__4_uint8) ?_
    exact oc (g_sn 0 info__4_uint8 (h1 := U8_one _) (hm := by rw [U8_len, show [y1 ^^^ p, y2, y3, y0].length = 4 from rfl]) (hl := by first | rw [U8_len, U8_len, show [y1 ^^^ p, y2, y3, y0].length = 4 from rfl, show z4.length = 4 from rfl] | rfl)) on
  intro u2 b2_19 HB2 sz2 K2
  simp only [fX, nK, nP, Wr.f, aK, pM] at K2
  simp only [setG, setN, List.set_cons_zero, List.set_cons_succ]
  clear K1 HB1
  go_upto_region 3 with fail
  refine rgP K2 HB2 HB2.size [] [] [(0, 28, (Go.Value.int Go.IntKind.i64 0))] [] [] [] ?_ ?_
  · exact oc g_mv on
  intro u3 HB3 sz3 K3
  simp only [fX, nK, nP, Wr.f, aK, pM] at K3
  simp only [setG, setN, List.set_cons_zero, List.set_cons_succ]
  clear K2 HB2
  go_wp2_with fail
  go_loopw [28] (fun s28 wr => ∃ (k : Nat), k ≤ 16 ∧ s28 = .int .i64 (k : Int) ∧ Below w.heap.size w wr ∧ Hid (CV wr (w.heap.size) (U8 (sK k))) ∧ Hid (CV wr b2_19 (U8 (sC k))) ∧ Hid (CV wr (w.heap.size + 1) (U8 (z16))) ∧ b2_19 < wr.heap.size ∧ w.heap.size + 1 < wr.heap.size) (fun s28 _ => 16 - (intOf s28).toNat)
  case atStart => exact ⟨0, by omega, rfl, HB3, (by rw [hK0.out]; exact (K3.cv 0)), (by rw [hC0.out]; exact (K3.cv 2)), (K3.cv 1), (K3.lt 2), (K3.lt 1)⟩
  case round =>
    obtain ⟨k, hk, rfl, HBr, Kb, Kc, Kr, lw, lr⟩ := hrel
    have hlo := K3.lo 2
    clear HB3
    by_cases hj : k < 16
    · have hl1 : decide ((k : Int) < 16) = true := by simp; omega
      have hW := hKW.out k
      have hV2 := hCW.out k
      have hA := hKs.out k
      have hC := hCs.out k
      have hG := hKg.out k hj
      obtain ⟨ws, ews⟩ : ∃ ws, sK k = ws := ⟨_, rfl⟩
      obtain ⟨cs, ecs⟩ : ∃ cs, sC k = cs := ⟨_, rfl⟩
      rw [ews] at hW hA Kb hG
      rw [ecs] at hV2 hA hC Kc
      have hlen := hW.len
      have hlc := hV2.len
      have hgk := U8_get ws k (by omega)
      rw [hG] at hgk
      have hx := hkb k
      obtain ⟨x, ex⟩ : ∃ x, ks.getD k 0 = x := ⟨_, rfl⟩
      rw [ex] at hgk hA hC hx
      have hgc := U8_get cs (k % 4) (by omega)
      have hc := hV2.lt (k % 4)
      obtain ⟨c, ec⟩ : ∃ c, cs.getD (k % 4) 0 = c := ⟨_, rfl⟩
      rw [ec] at hgc hA hC hc
      have hgc2 := U8_get (cs.set (k % 4) (c ^^^ x)) (k % 4) (by rw [List.length_set]; omega)
      rw [gset, if_pos ⟨rfl, by omega⟩] at hgc2
      have hA : Hid _ := hA
      have hC : Hid _ := hC
      clear ews ecs ex ec hG
      have hnK := K3.n
      simp at hnK
      have hoK2 := K3.lo 2
      have K3_1 : Bk w.heap.size wr [(true, w.heap.size, U8 (ws)), (true, b2_19, U8 (cs)), (false, w.heap.size + 1, U8 (z16))] := ⟨.o (by omega) (K3.lo 0) Kb.out <| .o lw (K3.lo 2) Kc.out <| .c lr Kr.out <| trivial, by simp <;> omega⟩
      go_upto_region 4 with fail
      refine rgP K3_1 HBr HBr.size [] [] [(0, 29, .bool true)] [] [] [] ?_ ?_
      · exact oc (g_bn (fun uZ => lss_i _ _ (k : Int) 16 _ uZ hl1)) on
      intro u4 HB4 sz4 K4
      simp only [fX, nK, nP, Wr.f, aK, pM] at K4
      simp only [setG, setN, List.set_cons_zero, List.set_cons_succ]
      go_upto_region 5 with fail
      refine rgP K4 HB4 HB4.size [] [] [(0, 30, .int .i64 (k : Int)), (1, 7, .int .i64 (k : Int))] [] [] [] ?_ ?_
      · refine oc g_mv ?_
        exact oc g_as on
      intro u5 HB5 sz5 K5
      simp only [fX, nK, nP, Wr.f, aK, pM] at K5
      simp only [setG, setN, List.set_cons_zero, List.set_cons_succ]
      clear K4 HB4
      go_upto_region 6 with fail
      refine rgD K5 HB5 HB5.size [.no, .all 9 (U8 (cs.set (k % 4) (c ^^^ x)))] [] [(0, 31, .int .i64 (k : Int)), (1, 32, .int .i64 ((k % 4 : Nat) : Int)), (2, 33, .pointer (some ⟨b2_19, k % 4, none⟩)), (3, 34, .int .u8 ((c : Nat) : Int)), (4, 35, .int .i64 (k : Int)), (5, 36, .pointer (some ⟨w.heap.size, k, none⟩)), (6, 37, .int .u8 ((x : Nat) : Int)), (7, 38, .int .u8 ((c ^^^ x : Nat) : Int)), (8, 39, .pointer (some ⟨b2_19, k % 4, none⟩))] [(9, 3)] [] [] ?_ ?_
      · refine oc g_mv ?_
        refine oc (g_bn (fun uZ => remi _ _ k 4 uZ (by omega) (by decide))) ?_
        refine oc (g_ix (fun uZ => xb4 b2_19 (k % 4) uZ (by omega))) ?_
        refine oc (g_lw 1 (k % 4) l8 (hgc)) ?_
        refine oc g_mv ?_
        refine oc (g_ix (fun uZ => xb16 (w.heap.size) k uZ hj)) ?_
        refine oc (g_lw 0 (k) l8 (hgk)) ?_
        refine oc (g_bn (fun uZ => xor8 _ _ c x uZ hc hx)) ?_
        refine oc (g_ix (fun uZ => xb4 b2_19 (k % 4) uZ (by omega))) ?_
        exact oc (g_sw 1 (k % 4) s8 (hgc) (U8_set _ _ _)) on
      intro u6 HB6 sz6 K6
      simp only [fX, nK, nP, Wr.f, aK, pM] at K6
      simp only [setG, setN, List.set_cons_zero, List.set_cons_succ]
      clear K5 HB5
      go_upto_region 7 with fail
      refine rgP K6 HB6 HB6.size [.all 6 (U8 (ws.set k (c ^^^ x)))] [] [(0, 40, .int .i64 (k : Int)), (1, 41, .int .i64 (k : Int)), (2, 42, .int .i64 ((k % 4 : Nat) : Int)), (3, 43, .pointer (some ⟨b2_19, k % 4, none⟩)), (4, 44, .int .u8 ((c ^^^ x : Nat) : Int)), (5, 45, .pointer (some ⟨w.heap.size, k, none⟩))] [] [] [] ?_ ?_
      · refine oc g_mv ?_
        refine oc g_mv ?_
        refine oc (g_bn (fun uZ => remi _ _ k 4 uZ (by omega) (by decide))) ?_
        refine oc (g_ix (fun uZ => xb4 b2_19 (k % 4) uZ (by omega))) ?_
        refine oc (g_lw 1 (k % 4) l8 (hgc2)) ?_
        refine oc (g_ix (fun uZ => xb16 (w.heap.size) k uZ hj)) ?_
        exact oc (g_sw 0 (k) s8 (hgk) (U8_set _ _ _)) on
      intro u7 HB7 sz7 K7
      simp only [fX, nK, nP, Wr.f, aK, pM] at K7
      simp only [setG, setN, List.set_cons_zero, List.set_cons_succ]
      clear K6 HB6
      go_upto_region 8 with fail
      refine rgP K7 HB7 HB7.size [] [] [(0, 46, .int .i64 ((k + 1 : Nat) : Int)), (1, 28, .int .i64 ((k + 1 : Nat) : Int))] [(1, 0)] [(1, 28)] [] ?_ ?_
      · refine oc (g_bn (fun uZ => add_i _ _ (k : Int) 1 ((k + 1 : Nat) : Int) uZ (by omega) (by omega) (by omega))) ?_
        exact oc g_mv on
      intro u8 HB8 sz8 K8
      simp only [fX, nK, nP, Wr.f, aK, pM] at K8
      simp only [setG, setN, List.set_cons_zero, List.set_cons_succ]
      clear K7 HB7
      go_wp2
      refine ⟨⟨k + 1, by omega, rfl, HB8, (by rw [hA.out]; exact (K8.cv 0)), (by rw [hC.out]; exact (K8.cv 1)), (K8.cv 2), (K8.lt 1), (K8.lt 2)⟩, ?_⟩
      simp [intOf] <;> omega
    · have hl1 : decide ((k : Int) < 16) = false := by simp; omega
      have hk16 : k = 16 := by omega
      subst hk16
      have hWs : (sK 16).length = 16 := (hKW.out 16).len
      have hnK := K3.n
      simp at hnK
      have hoK2 := K3.lo 2
      have K3_1 : Bk w.heap.size wr [(false, w.heap.size, U8 (sK 16)), (false, b2_19, U8 (sC 16)), (true, w.heap.size + 1, U8 (z16))] := ⟨.c (by omega) Kb.out <| .c lw Kc.out <| .o lr (K3.lo 1) Kr.out <| trivial, by simp <;> omega⟩
      go_upto_region 4 with fail
      refine rgP K3_1 HBr HBr.size [] [] [(0, 29, .bool false)] [] [] [true, false] ?_ ?_
      · exact oc (g_bn (fun uZ => lss_i _ _ ((16 : Nat) : Int) 16 _ uZ hl1)) on
      intro u4 HB4 sz4 K4
      simp only [fX, nK, nP, Wr.f, aK, pM] at K4
      simp only [setG, setN, List.set_cons_zero, List.set_cons_succ]
      go_upto_region 9 with fail
      refine rgP K4 HB4 HB4.size [.no, .all 1 (U8 (sK 16))] [] [(0, 47, .agg (U8 (sK 16)).toArray)] [] [] [false] ?_ ?_
      · refine oc (g_lR 0 0 (cs := U8 (sK 16)) (fun j v h => by rw [Nat.zero_add]; exact h) Tryd.underlying32 (by rw [U8_len, hWs]; exact info__16_uint8)) ?_
        exact oc (g_st 1 info__16_uint8 (h1 := U8_one _) (hm := by rw [U8_len, hWs]) (hl := by first | rw [U8_len, U8_len, hWs, show z16.length = 16 from rfl] | rfl)) on
      intro u5 HB5 sz5 K5
      simp only [fX, nK, nP, Wr.f, aK, pM] at K5
      simp only [setG, setN, List.set_cons_zero, List.set_cons_succ]
      clear K4 HB4
      go_wp2
      refine bodyPost_ret (res_cell Tryd.results30 rfl (K5.cv 0) Tryd.underlying32 rfl (by rw [U8_len, hWs]; exact info__16_uint8)) rfl ⟨rfl, HB5⟩
theorem cNext (ks : List Nat) (p : Nat) (w : World) (hV : GS6 w) (hk : BY 16 ks) (hp : p < 256) : Calls Tryd.prog 30 #[.agg (U8 (ks)).toArray, .int .u8 (p : Int)] w fun e w' => e = .returned (.agg (U8 (nkB ks p)).toArray) ∧ Below w.heap.size w w' := by
  have e : upB ks (fun k => (nkC ks (nk0 ks p) k).getD (k % 4) 0 ^^^ ks.getD k 0) 16 = nkB ks p := upB_16 hk.len _
  rw [← e]
  have S := fun x (hx : x < 256) u (hB : Below w.heap.size w u) => cSubst x u hx (hV.up hB)
  exact cNext_core ks p (ks.getD 12 0) (ks.getD 13 0) (ks.getD 14 0) (ks.getD 15 0) _ _ _ _ (upB ks _) (nkC ks (nk0 ks p)) w hp hk.len hk.lt (sb_lt _ (hk.lt _)) (hk.get (by decide)) (hk.get (by decide)) (hk.get (by decide)) (hk.get (by decide))
    (S _ (hk.lt _)) (S _ (hk.lt _)) (S _ (hk.lt _)) (S _ (hk.lt _)) rfl rfl (fun _ => rfl) (fun _ => rfl) (nkC_B hk (nk0_B hk hp)) (upB_B hk fun k => xr8 ((nkC_B hk (nk0_B hk hp) k).lt _) (hk.lt _)) (fun k h => by rw [upB_get _ _ _ (by rw [hk.len]; omega), if_neg (by omega)])
end Go.Proofs.YtlcjbnhfmcnnfaaDoor
