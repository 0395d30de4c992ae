/- SHA-256: the digest of parts. -/

import Derived.Test.YtbgdcgboomdimaaDoorSN
namespace Go.Proofs.YtbgdcgboomdimaaDoor
open Go.RowKit
set_option linter.unusedVariables false
set_option linter.unusedSimpArgs false
theorem GVf {w : World} (h : GV w) : ∀ j v, (U32 fst8)[j]? = some v → w.cell? ⟨1, j, none⟩ = some v := fun j v hj => by
  have hl : j < 8 := by have := (List.getElem?_eq_some_iff.1 hj).1; rwa [U32_len] at this
  rw [U32_get fst8 j hl] at hj
  cases hj
  exact h.f j hl
set_option maxRecDepth 100000 in
set_option maxHeartbeats 4000000 in
theorem cParts_core (n gl go gcap m c' : Nat) (sl : Nat → Option Addr) (ln cp c : Nat → Nat) (s b : Nat → List Nat) (s' b' ds es : List Nat) (w : World) (hgl : gl < w.heap.size) (hn : n ≤ 1000000) (hV : GV w) (hld : Hid (∀ i, i < n → w.cell? ⟨gl, go + i, none⟩ = some (.slice (sl i) (ln i) (cp i)))) (h0s : Hid (s 0 = fst8)) (h0b : Hid (b 0 = z64)) (h0c : Hid (c 0 = 0)) (hs8 : (s n).length = 8) (hb64 : (b n).length = 64) (hs8' : s'.length = 8) (hds : ds.length = 32)
    (hTk : Hid (∀ i, i < n → ∀ (u : World) (b0 : Nat), Below w.heap.size w u → w.heap.size ≤ b0 → b0 < u.heap.size → CV u b0 (RB (s i) (b i) (c i)) → Calls Tryd.prog 51 #[.pointer (some ⟨b0, 0, none⟩), .slice (sl i) (ln i) (cp i)] u fun e u' => e = .returned (.tuple #[]) ∧ Below b0 u u' ∧ CV u' b0 (RB (s (i + 1)) (b (i + 1)) (c (i + 1)))))
    (hEn : Hid (∀ u, Calls Tryd.prog 41 #[.int .u64 ((c n : Nat) : Int)] u fun e u' => ∃ v, e = .returned v ∧ PF u.heap.size m (U8 (es)) u' v ∧ Below u.heap.size u u'))
    (hTe : Hid (∀ (u : World) (y : Value) (b0 : Nat), Below w.heap.size w u → w.heap.size ≤ b0 → b0 < u.heap.size → PF (b0 + 1) m (U8 (es)) u y → CV u b0 (RB (s n) (b n) (c n)) → Calls Tryd.prog 51 #[.pointer (some ⟨b0, 0, none⟩), y] u fun e u' => e = .returned (.tuple #[]) ∧ Below b0 u u' ∧ CV u' b0 (RB (s') (b') (c'))))
    (hTo : Hid (∀ u, Calls Tryd.prog 52 #[.agg (U32 (s')).toArray] u fun e u' => e = .returned (.agg (U8 (ds)).toArray) ∧ Below u.heap.size u u')) :
    Calls Tryd.prog 25 #[(.slice (some ⟨gl, go, none⟩) n gcap)] w fun e w' => e = .returned (.agg (U8 (ds)).toArray) ∧ Below w.heap.size w w' := by
  go_enter Tryd.func25, Tryd.ntmps25
  go_upto_region 1 with fail
  generalize hC : (w.alloc (.cells (Z32b : List Value).toArray 24)) = v0 at *
  have HB0 : Below w.heap.size w v0 := by rw [← hC]; exact balloc (bself w) _
  have K0 : Bk w.heap.size v0 [(true, w.heap.size, U8 (z32))] := by rw [← hC]; exact (Bk.nil _ w).ad
  clear hC
  refine rgP K0 HB0 HB0.size [] [(2, 3, RB (z8) (z64) (0), some (3, RB (fst8) (z64) (0)))] [(0, 6, .agg (U32 (fst8)).toArray), (1, 7, .agg (RB (fst8) (z64) (0)).toArray)] [(3, 2)] [] [] ?_ ?_
  · refine oc (g_lgR 1 0 (cs := U32 fst8) (fun j v hj => by rw [Nat.zero_add]; exact GVf hV j v hj) (by exact hV.sz) Tryd.underlying32 info__8_uint32) ?_
    refine oc (g_bd (fun uZ => bd_running uZ)) ?_
    refine oc (g_al 0 al_sha_running) ?_
    exact oc (g_sn 0 info_sha_running) on
  intro u1 b1_2 HB1 sz1 K1
  simp only [fX, nK, nP, Wr.f, aK, pM] at K1
  simp only [setG, setN, List.set_cons_zero, List.set_cons_succ]
  clear K0 HB0
  go_upto_region 2 with fail
  refine rgP K1 HB1 HB1.size [] [] [(0, 8, (.slice (some ⟨gl, go, none⟩) n gcap)), (1, 9, .int .i64 (n : Int)), (2, 10, (Go.Value.int Go.IntKind.i64 0))] [] [] [] ?_ ?_
  · refine oc g_mv ?_
    refine oc (g_ln Tryd.underlying37) ?_
    exact oc g_mv on
  intro u2 HB2 sz2 K2
  simp only [fX, nK, nP, Wr.f, aK, pM] at K2
  simp only [setG, setN, List.set_cons_zero, List.set_cons_succ]
  clear K1 HB1
  go_wp2_with fail
  go_loopw [10] (fun s10 wr => ∃ (i : Nat), i ≤ n ∧ s10 = .int .i64 (i : Int) ∧ Below w.heap.size w wr ∧ Hid (CV wr (w.heap.size) (U8 (z32))) ∧ w.heap.size < wr.heap.size ∧ Hid (CV wr b1_2 (RB (s i) (b i) (c i))) ∧ b1_2 < wr.heap.size) (fun s10 _ => n - (intOf s10).toNat)
  case atStart => exact ⟨0, by omega, rfl, HB2, (K2.cv 0), (K2.lt 0), (by rw [h0s.out, h0b.out, h0c.out]; exact (K2.cv 1)), (K2.lt 1)⟩
  case round =>
    obtain ⟨i, hi, rfl, HBr, Kz, lz, Kr, lr⟩ := hrel
    have hlo := K2.lo 1
    have hnd := K2.n
    simp at hnd
    clear HB2
    by_cases hj : i < n
    · have hl1 : decide ((i : Int) < n) = true := by simp; omega
      have hk := hTk.out i hj
      have hi1 := hld.out i hj
      obtain ⟨si, esi⟩ : ∃ x, s i = x := ⟨_, rfl⟩
      obtain ⟨bi, ebi⟩ : ∃ x, b i = x := ⟨_, rfl⟩
      obtain ⟨ci, eci⟩ : ∃ x, c i = x := ⟨_, rfl⟩
      obtain ⟨sj, esj⟩ : ∃ x, s (i + 1) = x := ⟨_, rfl⟩
      obtain ⟨bj, ebj⟩ : ∃ x, b (i + 1) = x := ⟨_, rfl⟩
      obtain ⟨cj, ecj⟩ : ∃ x, c (i + 1) = x := ⟨_, rfl⟩
      rw [esi, ebi, eci] at Kr hk
      rw [esj, ebj, ecj] at hk
      have hk : Hid _ := hk
      have hi1 : Hid _ := hi1
      have esj : Hid _ := esj
      have ebj : Hid _ := ebj
      have ecj : Hid _ := ecj
      clear esi ebi eci
      have hnK := K2.n
      simp at hnK
      have hoK1 := K2.lo 1
      have K2_1 : Bk w.heap.size wr [(false, w.heap.size, U8 (z32)), (true, b1_2, RB (si) (bi) (ci))] := ⟨.c lz Kz.out <| .o lr (K2.lo 1) Kr.out <| trivial, by simp; omega⟩
      go_upto_region 3 with fail
      refine rgP K2_1 HBr HBr.size [] [] [(0, 11, .bool true)] [] [] [] ?_ ?_
      · exact oc (g_bn (fun uZ => lss_i _ _ (i : Int) (n : Int) _ uZ hl1)) on
      intro u3 HB3 sz3 K3
      simp only [fX, nK, nP, Wr.f, aK, pM] at K3
      simp only [setG, setN, List.set_cons_zero, List.set_cons_succ]
      go_upto_region 4 with fail
      refine rgP K3 HB3 HB3.size [] [] [(0, 12, .pointer (some ⟨gl, go + i, none⟩)), (1, 13, (.slice (sl i) (ln i) (cp i))), (2, 5, (.slice (sl i) (ln i) (cp i)))] [] [] [] ?_ ?_
      · refine oc (g_ix (fun uZ => ixSl gl go n gcap i uZ hj)) ?_
        refine oc (g_lg gl (go + i) lSl (hi1.out) (hgl)) ?_
        exact oc g_as on
      intro u4 HB4 sz4 K4
      simp only [fX, nK, nP, Wr.f, aK, pM] at K4
      simp only [setG, setN, List.set_cons_zero, List.set_cons_succ]
      clear K3 HB3
      go_upto_region 5 with fail
      refine rgP K4 HB4 HB4.size [.no, .all 1 (RB (sj) (bj) (cj))] [] [(0, 14, (.slice (sl i) (ln i) (cp i))), (1, 15, .tuple #[])] [] [] [] ?_ ?_
      · refine oc g_mv ?_
        exact oc (g_cxb 1 ent___sha_running__take (fun f u kZ sZ bZ cv => hk.out u b1_2 bZ (by omega) (kZ.lb sZ 1) cv) ⟨(by simp <;> omega), trivial⟩) on
      intro u5 HB5 sz5 K5
      simp only [fX, nK, nP, Wr.f, aK, pM] at K5
      simp only [setG, setN, List.set_cons_zero, List.set_cons_succ]
      clear K4 HB4
      go_upto_region 6 with fail
      refine rgP K5 HB5 HB5.size [] [] [(0, 16, .int .i64 ((i + 1 : Nat) : Int)), (1, 10, .int .i64 ((i + 1 : Nat) : Int))] [(1, 0)] [(1, 10)] [] ?_ ?_
      · refine oc (g_bn (fun uZ => add_i _ _ (i : Int) 1 ((i + 1 : Nat) : Int) uZ (by omega) (by omega) (by omega))) ?_
        exact oc g_mv on
      intro u6 HB6 sz6 K6
      simp only [fX, nK, nP, Wr.f, aK, pM] at K6
      simp only [setG, setN, List.set_cons_zero, List.set_cons_succ]
      clear K5 HB5
      go_wp2
      refine ⟨⟨i + 1, by omega, rfl, HB6, (K6.cv 0), (K6.lt 0), (by rw [esj.out, ebj.out, ecj.out]; exact (K6.cv 1)), (K6.lt 1)⟩, ?_⟩
      simp [intOf] <;> omega
    · have hl1 : decide ((i : Int) < n) = false := by simp; omega
      have hin : i = n := by omega
      subst hin
      obtain ⟨si, esi⟩ : ∃ x, s i = x := ⟨_, rfl⟩
      obtain ⟨bi, ebi⟩ : ∃ x, b i = x := ⟨_, rfl⟩
      obtain ⟨ci, eci⟩ : ∃ x, c i = x := ⟨_, rfl⟩
      have hTe := hTe.out
      have hEn := hEn.out
      rw [esi] at Kr hs8 hTe
      rw [ebi] at Kr hb64 hTe
      rw [eci] at Kr hTe hEn
      have hTe : Hid _ := hTe
      have hEn : Hid _ := hEn
      clear esi ebi eci
      have hnK := K2.n
      simp at hnK
      have hoK1 := K2.lo 1
      have K2_1 : Bk w.heap.size wr [(true, w.heap.size, U8 (z32)), (true, b1_2, RB (si) (bi) (ci))] := ⟨.o lz (K2.lo 0) Kz.out <| .o lr (K2.lo 1) Kr.out <| trivial, by simp; omega⟩
      go_upto_region 3 with fail
      refine rgP K2_1 HBr HBr.size [] [] [(0, 11, .bool false)] [] [] [] ?_ ?_
      · exact oc (g_bn (fun uZ => lss_i _ _ (i : Int) (i : Int) _ uZ hl1)) on
      intro u3 HB3 sz3 K3
      simp only [fX, nK, nP, Wr.f, aK, pM] at K3
      simp only [setG, setN, List.set_cons_zero, List.set_cons_succ]
      have hb3 := (K3.lt 1)
      go_upto_region 7 with fail
      refine rgF K3 HB3 HB3.size [.no, .all 3 (RB (s') (b') (c'))] [] [(0, 17, .pointer (some ⟨b1_2, 72, none⟩)), (1, 18, .int .u64 ((ci : Nat) : Int)), (3, 20, .tuple #[])] [(3, 1), (2, 1)] [] [⟨2, 19, some 3, PF u3.heap.size m (U8 (es))⟩] [] (.cons (fun _ _ _ h1 h2 => h2.stab h1) <| Stab.nil) ?_ ?_
      · refine oc (g_fd (fun uZ => fdR2 _ uZ)) ?_
        refine oc (g_lw 1 (72) l64 (RB_c hs8 hb64)) ?_
        refine oc (g_cE 0 (PF u3.heap.size m (U8 (es))) ent_sha_ending (fun u hB hs => (hEn.out u).mono fun e u2 ⟨v, e1, h1, h2⟩ => ⟨v, e1, h1.mono hs, h2⟩)) ?_
        exact oc (g_cy 1 (PF u3.heap.size m (U8 (es))) ent___sha_running__take (fun f u y kZ sZ bZ hy cv => hTe.out u y b1_2 bZ (by omega) (kZ.lb sZ 1) (hy.mono hb3) cv) ⟨(by simp <;> omega), trivial⟩) on
      intro u4 v4_2 hv4_2 HB4 sz4 K4
      simp only [fX, nK, nP, Wr.f, aK, pM] at K4
      simp only [setG, setN, setE, List.set_cons_zero, List.set_cons_succ]
      clear K3 HB3
      go_upto_region 8 with fail
      refine rgP K4 HB4 HB4.size [.all 3 (U8 (ds))] [] [(0, 21, .pointer (some ⟨b1_2, 0, none⟩)), (1, 22, .agg (U32 (s')).toArray), (2, 23, .agg (U8 (ds)).toArray)] [] [] [true, false] ?_ ?_
      · refine oc (g_fd (fun uZ => fdR0 _ uZ)) ?_
        refine oc (g_lR 1 (0) (cs := U32 (s')) RB_ss Tryd.underlying32 (by rw [U32_len, hs8']; exact info__8_uint32)) ?_
        refine oc (g_cl ent_sha_told (fun uZ => hTo.out uZ)) ?_
        exact oc (g_st 0 info__32_uint8 (h1 := U8_one _) (hm := by rw [U8_len, hds]) (hl := by rw [U8_len, U8_len, hds, show z32.length = 32 from rfl])) on
      intro u5 HB5 sz5 K5
      simp only [fX, nK, nP, Wr.f, aK, pM] at K5
      simp only [setG, setN, List.set_cons_zero, List.set_cons_succ]
      clear K4 HB4
      go_wp2
      refine bodyPost_ret (res_cell Tryd.results25 rfl (K5.cv 0) Tryd.underlying24 rfl (by rw [U8_len, hds]; exact info__32_uint8)) rfl ⟨rfl, HB5⟩
end Go.Proofs.YtbgdcgboomdimaaDoor
