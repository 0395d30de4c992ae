/- The law ShaWhole: its walk. -/

import Derived.Test.YtgfggkinmhhdnaaDoorLS3
namespace Go.Proofs.YtgfggkinmhhdnaaDoor
open Go.RowKit
set_option linter.unusedVariables false
set_option linter.unusedSimpArgs false
set_option maxRecDepth 100000 in
set_option maxHeartbeats 8000000 in
theorem shaWhole_core (n cap m N nb : Nat) (sl : Option Addr) (ys ps ds : List Nat) (S : Nat → List Nat) (Fl : Nat → Nat → List Nat) (w : World) (hV : GV w) (hm : m ≤ 300) (hN : ps.length = N) (hnb : 64 * nb = N) (h64 : N % 64 = 0) (h9 : m + 9 ≤ N) (h72 : N ≤ m + 72) (hyl : ys.length = m) (hpt : Hid (ps.take m = ys)) (hS0 : Hid (S 0 = fst8)) (hSW : Hid (∀ k, WW 8 (S k))) (hSs : Hid (∀ k, k < nb → S (k + 1) = blk (S k) (Fl k 64))) (hF0 : Hid (∀ k, Fl k 0 = z64)) (hFs : Hid (∀ k j, Fl k (j + 1) = (Fl k j).set j (ps.getD (64 * k + j) 0))) (hFB : Hid (∀ k j, BB 64 (Fl k j))) (hds : ds.length = 32) (hdt : Hid (∀ i, i < 32 → ds.getD i 0 = ((S nb).getD (i / 4) 0 >>> (8 * (3 - i % 4))) % 256))
    (hin : Hid (∀ u, Below w.heap.size w u → m = 0 ∨ ∃ b off, sl = some ⟨b, off, none⟩ ∧ SB u b off ys))
    (hW : Hid (∀ (u : World), Below w.heap.size w u → Calls Tryd.prog 17 #[] u fun e u' => e = .returned (.bool true) ∧ Below u.heap.size u u')) (hSh : Hid (∀ (u : World), Calls Tryd.prog 8 #[(.slice sl n cap)] u fun e u' => e = .returned (.slice sl m cap) ∧ Below u.heap.size u u'))
    (hPd : Hid (∀ (u : World), Below w.heap.size w u → Calls Tryd.prog 13 #[(.slice sl m cap)] u fun e u' => ∃ v, e = .returned v ∧ PF u.heap.size N (U8 (ps)) u' v ∧ Below u.heap.size u u'))
    (hSu : Hid (∀ (u : World), Below w.heap.size w u → Calls Tryd.prog 10 #[(.slice sl m cap)] u fun e u' => e = .returned (.agg (U8 (ds)).toArray) ∧ Below u.heap.size u u')) :
    Calls Tryd.prog 5 #[(.slice sl n cap)] w fun e w' => e = .returned (.bool true) ∧ Below w.heap.size w w' := by
  go_enter Tryd.func5, Tryd.ntmps5
  have HB0 : Below w.heap.size w w := Below.refl _ _
  have K0_1 := Bk.nil (w.heap.size) w
  go_upto_region 1 with fail
  refine rgP K0_1 HB0 HB0.size [] [] [(0, 10, .bool true), (1, 11, .bool false)] [] [] [] ?_ ?_
  · refine oc (g_cb ent_seneschallaw04_works (fun uZ bZ => hW.out uZ bZ)) ?_
    exact oc (g_un (fun uZ => not_t uZ)) on
  intro u1 HB1 sz1 K1
  simp only [fX, nK, nP, Wr.f, aK, pM] at K1
  simp only [setG, setN, List.set_cons_zero, List.set_cons_succ]
  clear HB0
  go_upto_region 3 with fail
  refine rgP K1 HB1 HB1.size [] [] [(0, 12, (.slice sl n cap)), (1, 13, (.slice sl m cap)), (2, 0, (.slice sl m cap))] [(2, 0)] [(2, 0)] [] ?_ ?_
  · refine oc g_mv ?_
    refine oc (g_cl ent_seneschallaw04_short (fun uZ => hSh.out uZ)) ?_
    exact oc g_as on
  intro u2 HB2 sz2 K2
  simp only [fX, nK, nP, Wr.f, aK, pM] at K2
  simp only [setG, setN, List.set_cons_zero, List.set_cons_succ]
  clear K1 HB1
  go_upto_region 4 with fail
  refine rgF K2 HB2 HB2.size [] [] [(0, 14, (.slice sl m cap))] [] [] [⟨1, 15, some 2, PF u2.heap.size N (U8 (ps))⟩, ⟨2, 3, none, PF u2.heap.size N (U8 (ps))⟩] [] (.cons (fun _ _ _ h1 h2 => h2.stab h1) <| .cons (fun _ _ _ h1 h2 => h2.stab h1) <| Stab.nil) ?_ ?_
  · refine oc g_mv ?_
    refine oc (g_cE 0 (PF u2.heap.size N (U8 (ps))) ent_sha_Pad (fun u hB hs => (hPd.out u hB).mono fun e u2 ⟨v, e1, h1, h2⟩ => ⟨v, e1, h1.mono hs, h2⟩)) ?_
    exact oc (g_sE 0 1 (PF u2.heap.size N (U8 (ps)))) on
  intro u3 v3_1 hv3_1 v3_2 hv3_2 HB3 sz3 K3
  simp only [fX, nK, nP, Wr.f, aK, pM] at K3
  simp only [setG, setN, setE, List.set_cons_zero, List.set_cons_succ]
  clear HB2
  obtain ⟨bP, rfl, ho1, ho2, hoC⟩ := hv3_2 rfl
  have K3xpa := Bk.moreT K2 K3 (by omega) ho1 ho2 hoC (by intro x hx; first | (simp at hx; done) | (simp at hx ⊢; omega))
  simp only [aK] at K3xpa
  clear K3
  have hbP : w.heap.size ≤ bP := by omega
  have hl9 : decide (((N : Nat) : Int) < ((m + 9 : Nat) : Int)) = false := by simp; omega
  have hl72 : decide (((m + 72 : Nat) : Int) < ((N : Nat) : Int)) = false := by simp; omega
  go_upto_region 5 with fail
  refine rgD K3xpa HB3 HB3.size [] [] [(0, 16, .slice (some ⟨bP, 0, none⟩) N N), (1, 17, .int .i64 ((N : Nat) : Int)), (2, 18, .int .i64 0), (3, 19, .bool false), (4, 20, .bool false), (5, 21, .slice (some ⟨bP, 0, none⟩) N N), (6, 22, .int .i64 ((N : Nat) : Int)), (7, 23, (.slice sl m cap)), (8, 24, .int .i64 ((m : Nat) : Int)), (9, 25, .int .i64 ((m + 9 : Nat) : Int)), (10, 26, .bool false), (11, 27, .bool false), (12, 28, .bool false), (13, 29, .slice (some ⟨bP, 0, none⟩) N N), (14, 30, .int .i64 ((N : Nat) : Int)), (15, 31, (.slice sl m cap)), (16, 32, .int .i64 ((m : Nat) : Int)), (17, 33, .int .i64 ((m + 72 : Nat) : Int)), (18, 34, .bool false), (19, 35, .bool false), (20, 36, .bool false), (21, 37, .slice (some ⟨bP, 0, none⟩) N N), (22, 38, (.slice sl m cap)), (23, 39, .int .i64 ((m : Nat) : Int)), (24, 40, .slice (some ⟨bP, 0, none⟩) m N), (25, 41, .string (strB (ys))), (26, 42, (.slice sl m cap)), (27, 43, .string (strB (ys))), (28, 44, .bool false), (29, 45, .bool false)] [] [] [] ?_ ?_
  · refine oc g_mv ?_
    refine oc (g_ln Tryd.underlying22) ?_
    refine oc (g_bn (fun uZ => (rem_n _ _ N 64 uZ (by omega) (by decide)).trans (by rw [h64]))) ?_
    refine oc (g_bn (fun uZ => neq_same _ _ _ _ 0 uZ)) ?_
    refine oc g_mv ?_
    refine oc g_mv ?_
    refine oc (g_ln Tryd.underlying22) ?_
    refine oc g_mv ?_
    refine oc (g_ln Tryd.underlying22) ?_
    refine oc (g_bn (fun uZ => add_i _ _ ((m : Nat) : Int) 9 ((m + 9 : Nat) : Int) uZ (by omega) (by omega) (by omega))) ?_
    refine oc (g_bn (fun uZ => lss_i _ _ ((N : Nat) : Int) ((m + 9 : Nat) : Int) _ uZ hl9)) ?_
    refine oc g_pk ?_
    refine oc g_mv ?_
    refine oc g_mv ?_
    refine oc (g_ln Tryd.underlying22) ?_
    refine oc g_mv ?_
    refine oc (g_ln Tryd.underlying22) ?_
    refine oc (g_bn (fun uZ => add_i _ _ ((m : Nat) : Int) 72 ((m + 72 : Nat) : Int) uZ (by omega) (by omega) (by omega))) ?_
    refine oc (g_bn (fun uZ => gtr_i _ _ ((N : Nat) : Int) ((m + 72 : Nat) : Int) _ uZ hl72)) ?_
    refine oc g_pk ?_
    refine oc g_mv ?_
    refine oc g_mv ?_
    refine oc g_mv ?_
    refine oc (g_ln Tryd.underlying22) ?_
    refine oc (g_sl (fun uZ => slHB (some ⟨bP, 0, none⟩) N N m (by omega) (Nat.le_refl _) (fun h => by cases h) uZ)) ?_
    refine oc (g_ko (fun fZ ev uZ kZ bZ he => cvS ys uZ hyl (.inr ⟨bP, 0, rfl, by rw [← hpt.out]; exact (CV.sb (kZ.cv 0)).take m⟩) rfl (he _ _ rfl))) ?_
    refine oc g_mv ?_
    refine oc (g_ko (fun fZ ev uZ kZ bZ he => cvS ys uZ hyl (hin.out uZ bZ) rfl (he _ _ rfl))) ?_
    refine oc (g_bn (fun uZ => neq_str _ _ _ _ uZ)) ?_
    exact oc g_pk on
  intro u4 HB4 sz4 K4
  simp only [fX, nK, nP, Wr.f, aK, pM] at K4
  simp only [setG, setN, List.set_cons_zero, List.set_cons_succ]
  clear HB3
  go_upto_region 7 with fail
  refine rgP K4 HB4 HB4.size [] [(1, 4, U32 (z8), some (2, U32 (fst8)))] [(0, 46, .agg (U32 (fst8)).toArray)] [(2, 1)] [] [] ?_ ?_
  · refine oc (g_cl ent_seneschalref04_First (fun uZ => cFirst uZ)) ?_
    refine oc (g_al 0 al__8_uint32) ?_
    exact oc (g_sn 0 info__8_uint32 (h1 := U32_one _) (hm := by rw [U32_len, show fst8.length = 8 from rfl]) (hl := by first | rw [U32_len, U32_len, show fst8.length = 8 from rfl, show z8.length = 8 from rfl] | rfl)) on
  intro u5 b5_1 HB5 sz5 K5
  simp only [fX, nK, nP, Wr.f, aK, pM] at K5
  simp only [setG, setN, List.set_cons_zero, List.set_cons_succ]
  clear K4 HB4
  go_upto_region 8 with fail
  refine rgP K5 HB5 HB5.size [] [] [(0, 5, (Go.Value.int Go.IntKind.i64 0))] [] [] [] ?_ ?_
  · exact oc g_as on
  intro u6 HB6 sz6 K6
  simp only [fX, nK, nP, Wr.f, aK, pM] at K6
  simp only [setG, setN, List.set_cons_zero, List.set_cons_succ]
  clear K5 HB5
  go_wp2_with fail
  go_loopw [5] (fun s5 wr => ∃ (k : Nat), k ≤ nb ∧ s5 = .int .i64 ((64 * k : Nat) : Int) ∧ Below w.heap.size w wr ∧ Hid (CV wr bP (U8 (ps))) ∧ bP < wr.heap.size ∧ Hid (CV wr b5_1 (U32 (S k))) ∧ b5_1 < wr.heap.size) (fun s5 _ => N - (intOf s5).toNat)
  case atStart => exact ⟨0, by omega, rfl, HB6, (K6.cv 0), (K6.lt 0), (by rw [hS0.out]; exact (K6.cv 1)), (K6.lt 1)⟩
  case round =>
    obtain ⟨k, hk, rfl, HBr, Kp, lp, Ks, ls⟩ := hrel
    have hlo4 := K6.lo 1
    have hnd := K6.n
    simp at hnd
    clear HB6
    by_cases hj : k < nb
    · have hl1 : decide (((64 * k : Nat) : Int) < ((N : Nat) : Int)) = true := by simp; omega
      have hk64 : 64 * k + 64 ≤ N := by omega
      have hSk := hSW.out k
      have hs8 := hSk.len
      have hSn := hSs.out k hj
      have hF0 := hF0.out k
      have hFs := hFs.out k
      have hFB := hFB.out k
      obtain ⟨sk, esk⟩ : ∃ x, S k = x := ⟨_, rfl⟩
      obtain ⟨fk, efk⟩ : ∃ x, Fl k = x := ⟨_, rfl⟩
      rw [esk] at hSk hs8 hSn Ks
      rw [efk] at hSn hF0 hFs hFB
      have hSn : Hid _ := hSn
      have hF0 : Hid _ := hF0
      have hFs : Hid _ := hFs
      have hFB : Hid _ := hFB
      clear esk efk
      have hnK := K6.n
      simp at hnK
      have hoK0 := K6.lo 0
      have hoK1 := K6.lo 1
      have K6_2 : Bk w.heap.size wr [(false, bP, U8 (ps)), (true, b5_1, U32 (sk))] := ⟨.c lp Kp.out <| .o ls (K6.lo 1) Ks.out <| trivial, by simp; omega⟩
      go_upto_region 9 with fail
      refine rgP K6_2 HBr HBr.size [] [] [(0, 47, .int .i64 ((64 * k : Nat) : Int)), (1, 48, .slice (some ⟨bP, 0, none⟩) N N), (2, 49, .int .i64 ((N : Nat) : Int)), (3, 50, .bool true)] [] [] [] ?_ ?_
      · refine oc g_mv ?_
        refine oc g_mv ?_
        refine oc (g_ln Tryd.underlying22) ?_
        exact oc (g_bn (fun uZ => lss_i _ _ ((64 * k : Nat) : Int) ((N : Nat) : Int) _ uZ hl1)) on
      intro u7 HB7 sz7 K7
      simp only [fX, nK, nP, Wr.f, aK, pM] at K7
      simp only [setG, setN, List.set_cons_zero, List.set_cons_succ]
      go_upto_region 11 with fail
      refine rgP K7 HB7 HB7.size [] [(1, 6, U8 (z64), some (2, U8 (z64)))] [(0, 53, .agg (U8 (z64)).toArray)] [(2, 1)] [] [] ?_ ?_
      · refine oc (g_bd (fun uZ => bdZ uZ)) ?_
        refine oc (g_al 0 al__64_uint8) ?_
        exact oc (g_sn 0 info__64_uint8 (h1 := U8_one _) (hm := by rw [U8_len, show z64.length = 64 from rfl]) (hl := by first | rw [U8_len, U8_len, show z64.length = 64 from rfl, show z64.length = 64 from rfl] | rfl)) on
      intro u8 b8_1 HB8 sz8 K8
      simp only [fX, nK, nP, Wr.f, aK, pM] at K8
      simp only [setG, setN, List.set_cons_zero, List.set_cons_succ]
      clear K7 HB7
      go_upto_region 12 with fail
      refine rgP K8 HB8 HB8.size [] [] [(0, 7, (Go.Value.int Go.IntKind.i64 0))] [] [] [] ?_ ?_
      · exact oc g_as on
      intro u9 HB9 sz9 K9
      simp only [fX, nK, nP, Wr.f, aK, pM] at K9
      simp only [setG, setN, List.set_cons_zero, List.set_cons_succ]
      clear K8 HB8
      go_wp2_with fail
      go_loopw [7] (fun s7 wq => ∃ (j : Nat), j ≤ 64 ∧ s7 = .int .i64 (j : Int) ∧ Below w.heap.size w wq ∧ Hid (CV wq bP (U8 (ps))) ∧ bP < wq.heap.size ∧ Hid (CV wq b5_1 (U32 (sk))) ∧ b5_1 < wq.heap.size ∧ Hid (CV wq b8_1 (U8 (fk j))) ∧ b8_1 < wq.heap.size) (fun s7 _ => 64 - (intOf s7).toNat)
      case atStart => exact ⟨0, by omega, rfl, HB9, (K9.cv 0), (K9.lt 0), (K9.cv 1), (K9.lt 1), (by rw [hF0.out]; exact (K9.cv 2)), (K9.lt 2)⟩
      case round =>
        obtain ⟨j, hj64, rfl, HBq, Kpq, lpq, Ksq, lsq, Kfq, lfq⟩ := hrel
        have hlo6 := K9.lo 2
        have hnd6 := K9.n
        simp at hnd6
        clear HB9
        by_cases hq : j < 64
        · have hl2 : decide ((j : Int) < 64) = true := by simp; omega
          have hFj := hFs.out j
          have hlen := (hFB.out j).len
          obtain ⟨fl, efl⟩ : ∃ x, fk j = x := ⟨_, rfl⟩
          rw [efl] at hFj hlen Kfq
          have gj := U8_get fl j (by omega)
          have gy : (U8 (ps))[0 + (64 * k + j)]? = some (.int .u8 ((ps.getD (64 * k + j) 0 : Nat) : Int)) := by rw [Nat.zero_add]; exact U8_get ps _ (by omega)
          obtain ⟨y, ey⟩ : ∃ y, ps.getD (64 * k + j) 0 = y := ⟨_, rfl⟩
          rw [ey] at gy hFj
          have hFj : Hid _ := hFj
          clear efl ey
          have hnK := K9.n
          simp at hnK
          have hoK1 := K9.lo 1
          have hoK2 := K9.lo 2
          have K9_3 : Bk w.heap.size wr [(false, bP, U8 (ps)), (false, b5_1, U32 (sk)), (true, b8_1, U8 (fl))] := ⟨.c lpq Kpq.out <| .c lsq Ksq.out <| .o lfq (K9.lo 2) Kfq.out <| trivial, by simp; omega⟩
          go_upto_region 13 with fail
          refine rgP K9_3 HBq HBq.size [] [] [(0, 54, .int .i64 ((j : Nat) : Int)), (1, 55, .bool true)] [] [] [] ?_ ?_
          · refine oc g_mv ?_
            exact oc (g_bn (fun uZ => lss_i _ _ ((j : Nat) : Int) 64 _ uZ hl2)) on
          intro u10 HB10 sz10 K10
          simp only [fX, nK, nP, Wr.f, aK, pM] at K10
          simp only [setG, setN, List.set_cons_zero, List.set_cons_succ]
          go_upto_region 15 with fail
          refine rgP K10 HB10 HB10.size [.no, .no, .all 8 (U8 (fl.set j y))] [] [(0, 58, .int .i64 ((j : Nat) : Int)), (1, 59, .slice (some ⟨bP, 0, none⟩) N N), (2, 60, .int .i64 ((64 * k : Nat) : Int)), (3, 61, .int .i64 ((j : Nat) : Int)), (4, 62, .int .i64 ((64 * k + j : Nat) : Int)), (5, 63, .pointer (some ⟨bP, 0 + (64 * k + j), none⟩)), (6, 64, .int .u8 ((y : Nat) : Int)), (7, 65, .pointer (some ⟨b8_1, j, none⟩))] [] [] [] ?_ ?_
          · refine oc g_mv ?_
            refine oc g_mv ?_
            refine oc g_mv ?_
            refine oc g_mv ?_
            refine oc (g_bn (fun uZ => add_i _ _ ((64 * k : Nat) : Int) ((j : Nat) : Int) ((64 * k + j : Nat) : Int) uZ (by omega) (by omega) (by omega))) ?_
            refine oc (g_ix (fun uZ => ixB bP 0 N N (64 * k + j) (by omega) uZ)) ?_
            refine oc (g_lw 0 (0 + (64 * k + j)) l8 (gy)) ?_
            refine oc (g_ix (fun uZ => x64b b8_1 j uZ hq)) ?_
            exact oc (g_sw 2 (j) s8 (gj) (U8_set _ _ _)) on
          intro u11 HB11 sz11 K11
          simp only [fX, nK, nP, Wr.f, aK, pM] at K11
          simp only [setG, setN, List.set_cons_zero, List.set_cons_succ]
          clear K10 HB10
          go_upto_region 14 with fail
          refine rgP K11 HB11 HB11.size [] [] [(0, 56, .int .i64 ((j : Nat) : Int)), (1, 57, .int .i64 ((j + 1 : Nat) : Int)), (2, 7, .int .i64 ((j + 1 : Nat) : Int))] [(2, 0)] [(2, 7)] [] ?_ ?_
          · refine oc g_mv ?_
            refine oc (g_bn (fun uZ => add_i _ _ ((j : Nat) : Int) 1 ((j + 1 : Nat) : Int) uZ (by omega) (by omega) (by omega))) ?_
            exact oc g_as on
          intro u12 HB12 sz12 K12
          simp only [fX, nK, nP, Wr.f, aK, pM] at K12
          simp only [setG, setN, List.set_cons_zero, List.set_cons_succ]
          clear K11 HB11
          go_wp2
          refine ⟨⟨j + 1, by omega, rfl, HB12, (K12.cv 0), (K12.lt 0), (K12.cv 1), (K12.lt 1), (by rw [hFj.out]; exact (K12.cv 2)), (K12.lt 2)⟩, ?_⟩
          simp [intOf] <;> omega
        · have hl2 : decide ((j : Int) < 64) = false := by simp; omega
          have hj6 : j = 64 := by omega
          subst hj6
          have hfB := hFB.out 64
          obtain ⟨fl, efl⟩ : ∃ x, fk 64 = x := ⟨_, rfl⟩
          have hSn2 := hSn.out
          rw [efl] at hfB Kfq hSn2
          have hf64 := hfB.len
          obtain ⟨s2, es2⟩ : ∃ s2, blk sk fl = s2 := ⟨_, rfl⟩
          have hs28 : s2.length = 8 := by rw [← es2]; exact (blk_W hSk fl).len
          have hblk : Hid (∀ u, GV u → Calls Tryd.prog 18 #[.agg (U32 (sk)).toArray, .agg (U8 (fl)).toArray] u fun e u' => e = .returned (.agg (U32 (s2)).toArray) ∧ Below u.heap.size u u') := fun u hu => by rw [← es2]; exact cBlock sk fl u hSk hf64 hfB.lt hu
          rw [es2] at hSn2
          have hSn2 : Hid _ := hSn2
          clear efl es2 hSn
          have hnK := K9.n
          simp at hnK
          have hoK1 := K9.lo 1
          have hoK2 := K9.lo 2
          have K9_3 : Bk w.heap.size wr [(false, bP, U8 (ps)), (true, b5_1, U32 (sk)), (false, b8_1, U8 (fl))] := ⟨.c lpq Kpq.out <| .o lsq (K9.lo 1) Ksq.out <| .c lfq Kfq.out <| trivial, by simp; omega⟩
          go_upto_region 13 with fail
          refine rgP K9_3 HBq HBq.size [] [] [(0, 54, .int .i64 ((64 : Nat) : Int)), (1, 55, .bool false)] [] [] [] ?_ ?_
          · refine oc g_mv ?_
            exact oc (g_bn (fun uZ => lss_i _ _ ((64 : Nat) : Int) 64 _ uZ hl2)) on
          intro u10 HB10 sz10 K10
          simp only [fX, nK, nP, Wr.f, aK, pM] at K10
          simp only [setG, setN, List.set_cons_zero, List.set_cons_succ]
          go_upto_region 16 with fail
          refine rgP K10 HB10 HB10.size [.no, .all 3 (U32 (s2))] [] [(0, 66, .agg (U32 (sk)).toArray), (1, 67, .agg (U8 (fl)).toArray), (2, 68, .agg (U32 (s2)).toArray)] [(3, 0)] [] [true, true, false] ?_ ?_
          · refine oc (g_lR 1 0 (cs := U32 (sk)) (fun j v h => by rw [Nat.zero_add]; exact h) Tryd.underlying32 (by rw [U32_len, hs8]; exact info__8_uint32)) ?_
            refine oc (g_lR 2 0 (cs := U8 (fl)) (fun j v h => by rw [Nat.zero_add]; exact h) Tryd.underlying33 (by rw [U8_len, hf64]; exact info__64_uint8)) ?_
            refine oc (g_cb ent_sha_Block (fun uZ bZ => hblk.out uZ (hV.below bZ hV.sz))) ?_
            exact oc (g_st 1 info__8_uint32 (h1 := U32_one _) (hm := by rw [U32_len, hs28]) (hl := by first | rw [U32_len, U32_len, hs28, hs8] | rfl)) on
          intro u11 HB11 sz11 K11
          simp only [fX, nK, nP, Wr.f, aK, pM] at K11
          simp only [setG, setN, List.set_cons_zero, List.set_cons_succ]
          clear K10 HB10
          go_upto_region 10 with fail
          refine rgP K11 HB11 HB11.size [] [] [(0, 51, .int .i64 ((64 * k : Nat) : Int)), (1, 52, .int .i64 ((64 * (k + 1) : Nat) : Int)), (2, 5, .int .i64 ((64 * (k + 1) : Nat) : Int))] [(2, 0)] [(2, 5)] [] ?_ ?_
          · refine oc g_mv ?_
            refine oc (g_bn (fun uZ => add_i _ _ ((64 * k : Nat) : Int) 64 ((64 * (k + 1) : Nat) : Int) uZ (by omega) (by omega) (by omega))) ?_
            exact oc g_as on
          intro u12 HB12 sz12 K12
          simp only [fX, nK, nP, Wr.f, aK, pM] at K12
          simp only [setG, setN, List.set_cons_zero, List.set_cons_succ]
          clear K11 HB11
          go_wp2
          refine ⟨⟨k + 1, by omega, rfl, HB12, (K12.cv 0), (K12.lt 0), (by rw [hSn2.out]; exact (K12.cv 1)), (K12.lt 1)⟩, ?_⟩
          simp [intOf] <;> omega
    · have hl1 : decide (((64 * k : Nat) : Int) < ((N : Nat) : Int)) = false := by simp; omega
      have hkn : k = nb := by omega
      subst hkn
      have hs8 := (hSW.out k).len
      have hdt := hdt.out
      obtain ⟨sk, esk⟩ : ∃ x, S k = x := ⟨_, rfl⟩
      rw [esk] at hs8 Ks hdt
      have hdt : Hid _ := hdt
      clear esk
      have hnK := K6.n
      simp at hnK
      have hoK0 := K6.lo 0
      have hoK1 := K6.lo 1
      have K6_2 : Bk w.heap.size wr [(false, b5_1, U32 (sk))] := ⟨.c ls Ks.out <| trivial, by simp⟩
      go_upto_region 9 with fail
      refine rgP K6_2 HBr HBr.size [] [] [(0, 47, .int .i64 ((64 * k : Nat) : Int)), (1, 48, .slice (some ⟨bP, 0, none⟩) N N), (2, 49, .int .i64 ((N : Nat) : Int)), (3, 50, .bool false)] [] [] [] ?_ ?_
      · refine oc g_mv ?_
        refine oc g_mv ?_
        refine oc (g_ln Tryd.underlying22) ?_
        exact oc (g_bn (fun uZ => lss_i _ _ ((64 * k : Nat) : Int) ((N : Nat) : Int) _ uZ hl1)) on
      intro u7 HB7 sz7 K7
      simp only [fX, nK, nP, Wr.f, aK, pM] at K7
      simp only [setG, setN, List.set_cons_zero, List.set_cons_succ]
      go_upto_region 17 with fail
      refine rgP K7 HB7 HB7.size [] [(2, 8, U8 (z32), some (3, U8 (ds)))] [(0, 69, (.slice sl m cap)), (1, 70, .agg (U8 (ds)).toArray)] [(3, 2)] [] [] ?_ ?_
      · refine oc g_mv ?_
        refine oc (g_cb ent_sha_Sum (fun uZ bZ => hSu.out uZ bZ)) ?_
        refine oc (g_al 0 al__32_uint8) ?_
        exact oc (g_sn 0 info__32_uint8 (h1 := U8_one _) (hm := by rw [U8_len, hds]) (hl := by first | rw [U8_len, U8_len, hds, show z32.length = 32 from rfl] | rfl)) on
      intro u8 b8_2 HB8 sz8 K8
      simp only [fX, nK, nP, Wr.f, aK, pM] at K8
      simp only [setG, setN, List.set_cons_zero, List.set_cons_succ]
      clear K7 HB7
      go_upto_region 18 with fail
      refine rgP K8 HB8 HB8.size [] [] [(0, 9, (Go.Value.int Go.IntKind.i64 0))] [] [] [] ?_ ?_
      · exact oc g_as on
      intro u9 HB9 sz9 K9
      simp only [fX, nK, nP, Wr.f, aK, pM] at K9
      simp only [setG, setN, List.set_cons_zero, List.set_cons_succ]
      clear K8 HB8
      go_wp2_with fail
      go_loopw [9] (fun s9 wq => ∃ (i : Nat), i ≤ 32 ∧ s9 = .int .i64 (i : Int) ∧ Below w.heap.size w wq ∧ Hid (CV wq b5_1 (U32 (sk))) ∧ b5_1 < wq.heap.size ∧ Hid (CV wq b8_2 (U8 (ds))) ∧ b8_2 < wq.heap.size) (fun s9 _ => 32 - (intOf s9).toNat)
      case atStart => exact ⟨0, by omega, rfl, HB9, (K9.cv 0), (K9.lt 0), (K9.cv 1), (K9.lt 1)⟩
      case round =>
        obtain ⟨i, hi, rfl, HBq, Ksq, lsq, Kdq, ldq⟩ := hrel
        have hlo8 := K9.lo 1
        have hnd8 := K9.n
        simp at hnd8
        clear HB9
        by_cases hq : i < 32
        · have hl2 : decide ((i : Int) < 32) = true := by simp; omega
          have gy := U8_get ds i (by omega)
          rw [hdt.out i hq] at gy
          have gx := U32_get sk (i / 4) (by omega)
          obtain ⟨x, ex⟩ : ∃ x, sk.getD (i / 4) 0 = x := ⟨_, rfl⟩
          rw [ex] at gx gy
          have hm4 : i % 4 ≤ 3 := by omega
          have hz2 : (8 : Int) * ((i % 4 : Nat) : Int) = ((8 * (i % 4) : Nat) : Int) := by omega
          have hz : (24 : Int) - ((8 * (i % 4) : Nat) : Int) = ((8 * (3 - i % 4) : Nat) : Int) := by omega
          clear ex
          have hnK := K9.n
          simp at hnK
          have hoK1 := K9.lo 1
          have K9_3 : Bk w.heap.size wr [(false, b5_1, U32 (sk)), (false, b8_2, U8 (ds))] := ⟨.c lsq Ksq.out <| .c ldq Kdq.out <| trivial, by simp; omega⟩
          go_upto_region 19 with fail
          refine rgP K9_3 HBq HBq.size [] [] [(0, 71, .int .i64 ((i : Nat) : Int)), (1, 72, .bool true)] [] [] [] ?_ ?_
          · refine oc g_mv ?_
            exact oc (g_bn (fun uZ => lss_i _ _ ((i : Nat) : Int) 32 _ uZ hl2)) on
          intro u10 HB10 sz10 K10
          simp only [fX, nK, nP, Wr.f, aK, pM] at K10
          simp only [setG, setN, List.set_cons_zero, List.set_cons_succ]
          go_upto_region 21 with fail
          refine rgD K10 HB10 HB10.size [] [] [(0, 75, .int .i64 ((i : Nat) : Int)), (1, 76, .pointer (some ⟨b8_2, i, none⟩)), (2, 77, .int .u8 (((x >>> (8 * (3 - i % 4))) % 256 : Nat) : Int)), (3, 78, .int .i64 ((i : Nat) : Int)), (4, 79, .int .i64 ((i / 4 : Nat) : Int)), (5, 80, .pointer (some ⟨b5_1, i / 4, none⟩)), (6, 81, .int .u32 ((x : Nat) : Int)), (7, 82, .int .i64 ((i : Nat) : Int)), (8, 83, .int .i64 ((i % 4 : Nat) : Int)), (9, 84, .int .i64 ((8 * (i % 4) : Nat) : Int)), (10, 85, .int .i64 ((8 * (3 - i % 4) : Nat) : Int)), (11, 86, .int .u32 ((x >>> (8 * (3 - i % 4)) : Nat) : Int)), (12, 87, .int .u8 (((x >>> (8 * (3 - i % 4))) % 256 : Nat) : Int)), (13, 88, .bool false)] [] [] [] ?_ ?_
          · refine oc g_mv ?_
            refine oc (g_ix (fun uZ => x32 b8_2 i uZ hq)) ?_
            refine oc (g_lw 1 (i) l8 (gy)) ?_
            refine oc g_mv ?_
            refine oc (g_bn (fun uZ => quo_n _ _ i 4 uZ (by omega) (by decide))) ?_
            refine oc (g_ix (fun uZ => x8 b5_1 (i / 4) uZ (by omega))) ?_
            refine oc (g_lw 0 (i / 4) l32 (gx)) ?_
            refine oc g_mv ?_
            refine oc (g_bn (fun uZ => rem_n _ _ i 4 uZ (by omega) (by decide))) ?_
            refine oc (g_bn (fun uZ => mul_i _ _ 8 ((i % 4 : Nat) : Int) ((8 * (i % 4) : Nat) : Int) uZ hz2 (by omega) (by omega))) ?_
            refine oc (g_bn (fun uZ => sub_i _ _ 24 ((8 * (i % 4) : Nat) : Int) ((8 * (3 - i % 4) : Nat) : Int) uZ hz (by omega) (by omega))) ?_
            refine oc (g_bn (fun uZ => shr32i _ _ x (8 * (3 - i % 4)) uZ (by omega))) ?_
            refine oc (g_op (fun ev uZ he => cv328 uZ rfl (he _ _ rfl))) ?_
            exact oc (g_bn (fun uZ => neq_same _ _ _ _ _ uZ)) on
          intro u11 HB11 sz11 K11
          simp only [fX, nK, nP, Wr.f, aK, pM] at K11
          simp only [setG, setN, List.set_cons_zero, List.set_cons_succ]
          clear K10 HB10
          go_upto_region 20 with fail
          refine rgP K11 HB11 HB11.size [] [] [(0, 73, .int .i64 ((i : Nat) : Int)), (1, 74, .int .i64 ((i + 1 : Nat) : Int)), (2, 9, .int .i64 ((i + 1 : Nat) : Int))] [(2, 0)] [(2, 9)] [] ?_ ?_
          · refine oc g_mv ?_
            refine oc (g_bn (fun uZ => add_i _ _ ((i : Nat) : Int) 1 ((i + 1 : Nat) : Int) uZ (by omega) (by omega) (by omega))) ?_
            exact oc g_as on
          intro u12 HB12 sz12 K12
          simp only [fX, nK, nP, Wr.f, aK, pM] at K12
          simp only [setG, setN, List.set_cons_zero, List.set_cons_succ]
          clear K11 HB11
          go_wp2
          refine ⟨⟨i + 1, by omega, rfl, HB12, (K12.cv 0), (K12.lt 0), (K12.cv 1), (K12.lt 1)⟩, ?_⟩
          simp [intOf] <;> omega
        · have hl2 : decide ((i : Int) < 32) = false := by simp; omega
          have hi32 : i = 32 := by omega
          subst hi32
          have hnK := K9.n
          simp at hnK
          have hoK1 := K9.lo 1
          have K9_3 := Bk.nil (w.heap.size) wr
          go_upto_region 19 with fail
          refine rgP K9_3 HBq HBq.size [] [] [(0, 71, .int .i64 ((32 : Nat) : Int)), (1, 72, .bool false)] [] [] [] ?_ ?_
          · refine oc g_mv ?_
            exact oc (g_bn (fun uZ => lss_i _ _ ((32 : Nat) : Int) 32 _ uZ hl2)) on
          intro u10 HB10 sz10 K10
          simp only [fX, nK, nP, Wr.f, aK, pM] at K10
          simp only [setG, setN, List.set_cons_zero, List.set_cons_succ]
          go_upto_region 23 with fail
          refine rgP K10 HB10 HB10.size [] [] [(0, 2, (Go.Value.bool Bool.true))] [] [] [] ?_ ?_
          · exact oc g_as on
          intro u11 HB11 sz11 K11
          simp only [fX, nK, nP, Wr.f, aK, pM] at K11
          simp only [setG, setN, List.set_cons_zero, List.set_cons_succ]
          clear K10 HB10
          go_wp2
          refine bodyPost_ret (v := .bool true) (by simp [results, Tryd.results5, go_sem, ]) rfl ⟨rfl, HB11⟩
end Go.Proofs.YtgfggkinmhhdnaaDoor
