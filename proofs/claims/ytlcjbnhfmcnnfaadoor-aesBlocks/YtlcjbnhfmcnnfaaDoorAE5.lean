/- AES: columns mixed. -/
import Derived.Test.YtlcjbnhfmcnnfaaDoorAE4
namespace Go.Proofs.YtlcjbnhfmcnnfaaDoor
open Go.RowKit
set_option linter.unusedVariables false
set_option linter.unusedSimpArgs false
set_option maxRecDepth 100000 in
set_option maxHeartbeats 4000000 in
theorem cMixed_core (ls cs : List Nat) (sB : Nat → Nat → List Nat) (w : World) (hll : ls.length = 16) (hlb : ∀ j, ls.getD j 0 < 256) (hcl : cs.length = 4) (hcb : ∀ j, cs.getD j 0 < 256) (hB0 : Hid (sB 0 0 = z16)) (hBn : Hid (∀ k, sB (k + 1) 0 = sB k 4)) (hBs : Hid (∀ k j, sB k (j + 1) = (sB k j).set k ((sB k j).getD k 0 ^^^ tm (ls.getD (k / 4 * 4 + (k + j) % 4) 0) (cs.getD j 0)))) (hBW : Hid (∀ k j, BY 16 (sB k j))) :
    Calls Tryd.prog 33 #[.agg (U8 (ls)).toArray, .agg (U8 (cs)).toArray] w fun e w' => e = .returned (.agg (U8 (sB 16 0)).toArray) ∧ Below w.heap.size w w' := by
  go_enter Tryd.func33, Tryd.ntmps33
  go_upto_region 1 with fail
  generalize hC : (((w.alloc (.cells (U8 (ls) : List Value).toArray 32)).alloc (.cells (U8 (cs) : List Value).toArray 48)).alloc (.cells (Z16b : List Value).toArray 32)) = v0 at *
  have HB0 : Below w.heap.size w v0 := by rw [← hC]; exact balloc (balloc (balloc (bself w) _) _) _
  have K0 : Bk w.heap.size v0 [(true, w.heap.size, U8 (ls)), (true, w.heap.size + 1, U8 (cs)), (true, w.heap.size + 1 + 1, U8 (z16))] := by rw [← hC]; exact (Bk.nil _ w).ad.ad.ad
  clear hC
  refine rgP K0 HB0 HB0.size [] [(0, 5, U8 (z16), none)] [] [] [] [] ?_ ?_
  · exact oc (g_al 0 al__16_uint8) on
  intro u1 b1_0 HB1 sz1 K1
  simp only [fX, nK, nP, Wr.f, aK, pM] at K1
  simp only [setG, setN, List.set_cons_zero, List.set_cons_succ]
  clear K0 HB0
  go_upto_region 2 with fail
  refine rgP K1 HB1 HB1.size [] [] [(0, 10, (Go.Value.int Go.IntKind.i64 0))] [] [] [] ?_ ?_
  · exact oc g_mv on
  intro u2 HB2 sz2 K2
  simp only [fX, nK, nP, Wr.f, aK, pM] at K2
  simp only [setG, setN, List.set_cons_zero, List.set_cons_succ]
  clear K1 HB1
  go_wp2_with fail
  go_loopw [10] (fun s10 wr => ∃ (k : Nat), k ≤ 16 ∧ s10 = .int .i64 (k : Int) ∧ Below w.heap.size w wr ∧ Hid (CV wr (w.heap.size) (U8 (ls))) ∧ Hid (CV wr (w.heap.size + 1) (U8 (cs))) ∧ Hid (CV wr (w.heap.size + 1 + 1) (U8 (z16))) ∧ Hid (CV wr b1_0 (U8 (sB k 0))) ∧ b1_0 < wr.heap.size ∧ w.heap.size + 1 + 1 < wr.heap.size) (fun s10 _ => 16 - (intOf s10).toNat)
  case atStart => exact ⟨0, by omega, rfl, HB2, (K2.cv 0), (K2.cv 1), (K2.cv 2), (by rw [hB0.out]; exact (K2.cv 3)), (K2.lt 3), (K2.lt 2)⟩
  case round =>
    obtain ⟨k, hk, rfl, HBr, Kb, Kc, Kr, Kw, lw, lr⟩ := hrel
    have hlo := K2.lo 3
    clear HB2
    by_cases hj : k < 16
    · have hl1 : decide ((k : Int) < 16) = true := by simp; omega
      have hnK := K2.n
      simp at hnK
      have hoK3 := K2.lo 3
      have K2_1 : Bk w.heap.size wr [(false, w.heap.size, U8 (ls)), (false, w.heap.size + 1, U8 (cs)), (false, w.heap.size + 1 + 1, U8 (z16)), (true, b1_0, U8 (sB k 0))] := ⟨.c (by omega) Kb.out <| .c (by omega) Kc.out <| .c lr Kr.out <| .o lw (K2.lo 3) Kw.out <| trivial, by simp <;> omega⟩
      go_upto_region 3 with fail
      refine rgP K2_1 HBr HBr.size [] [] [(0, 11, .bool true)] [] [] [] ?_ ?_
      · exact oc (g_bn (fun uZ => lss_i _ _ (k : Int) 16 _ uZ hl1)) on
      intro u3 HB3 sz3 K3
      simp only [fX, nK, nP, Wr.f, aK, pM] at K3
      simp only [setG, setN, List.set_cons_zero, List.set_cons_succ]
      go_upto_region 4 with fail
      refine rgP K3 HB3 HB3.size [] [] [(0, 12, .int .i64 (k : Int)), (1, 6, .int .i64 (k : Int))] [] [] [] ?_ ?_
      · refine oc g_mv ?_
        exact oc g_as on
      intro u4 HB4 sz4 K4
      simp only [fX, nK, nP, Wr.f, aK, pM] at K4
      simp only [setG, setN, List.set_cons_zero, List.set_cons_succ]
      clear K3 HB3
      go_upto_region 5 with fail
      refine rgP K4 HB4 HB4.size [] [] [(0, 13, .int .i64 (k : Int)), (1, 14, .int .i64 (k : Int)), (2, 15, .int .i64 ((k % 4 : Nat) : Int)), (3, 16, .int .i64 ((k / 4 * 4 : Nat) : Int)), (4, 7, .int .i64 ((k / 4 * 4 : Nat) : Int))] [] [] [] ?_ ?_
      · refine oc g_mv ?_
        refine oc g_mv ?_
        refine oc (g_bn (fun uZ => remi _ _ k 4 uZ (by omega) (by decide))) ?_
        refine oc (g_bn (fun uZ => sub_i _ _ (k : Int) ((k % 4 : Nat) : Int) ((k / 4 * 4 : Nat) : Int) uZ (by omega) (by omega) (by omega))) ?_
        exact oc g_as on
      intro u5 HB5 sz5 K5
      simp only [fX, nK, nP, Wr.f, aK, pM] at K5
      simp only [setG, setN, List.set_cons_zero, List.set_cons_succ]
      clear K4 HB4
      go_upto_region 6 with fail
      refine rgP K5 HB5 HB5.size [] [] [(0, 17, .agg (U8 (cs)).toArray), (1, 18, (Go.Value.int Go.IntKind.i64 0))] [] [] [] ?_ ?_
      · refine oc (g_lR 1 0 (cs := U8 (cs)) (fun j v h => by rw [Nat.zero_add]; exact h) Tryd.underlying48 (by rw [U8_len, hcl]; exact info__4_uint8)) ?_
        exact oc g_mv on
      intro u6 HB6 sz6 K6
      simp only [fX, nK, nP, Wr.f, aK, pM] at K6
      simp only [setG, setN, List.set_cons_zero, List.set_cons_succ]
      clear K5 HB5
      go_wp2_with fail
      go_loopw [18] (fun s18 wq => ∃ (j : Nat), j ≤ 4 ∧ s18 = .int .i64 (j : Int) ∧ Below w.heap.size w wq ∧ Hid (CV wq (w.heap.size) (U8 (ls))) ∧ Hid (CV wq (w.heap.size + 1) (U8 (cs))) ∧ Hid (CV wq (w.heap.size + 1 + 1) (U8 (z16))) ∧ Hid (CV wq b1_0 (U8 (sB k j))) ∧ b1_0 < wq.heap.size ∧ w.heap.size + 1 + 1 < wq.heap.size) (fun s18 _ => 4 - (intOf s18).toNat)
      case atStart => exact ⟨0, by omega, rfl, HB6, (K6.cv 0), (K6.cv 1), (K6.cv 2), (K6.cv 3), (K6.lt 3), (K6.lt 2)⟩
      case round =>
        obtain ⟨j, hj4, rfl, HBq, Qb, Qc, Qr, Qw, qw, qr⟩ := hrel
        clear hl1 HB6
        by_cases hjj : j < 4
        · have hl1 : decide ((j : Int) < 4) = true := by simp; omega
          have hW := hBW.out k j
          have hB := hBs.out k j
          obtain ⟨ws, ews⟩ : ∃ ws, sB k j = ws := ⟨_, rfl⟩
          rw [ews] at hW hB Qw
          have hlen := hW.len
          have hg := U8_get ws k (by omega)
          have hv := hW.lt k
          obtain ⟨v, ev0⟩ : ∃ v, ws.getD k 0 = v := ⟨_, rfl⟩
          rw [ev0] at hg hB hv
          obtain ⟨ix, eix⟩ : ∃ ix, k / 4 * 4 + (k + j) % 4 = ix := ⟨_, rfl⟩
          rw [eix] at hB
          have hix16 : ix < 16 := by omega
          have hg2 := U8_get ls ix (by omega)
          have hx := hlb ix
          obtain ⟨x, ex⟩ : ∃ x, ls.getD ix 0 = x := ⟨_, rfl⟩
          rw [ex] at hB hg2 hx
          have hc := hcb j
          have hix := fun (o : Oper) (ev : Operand → Value) (x z : Operand) u => @ix4v o ev 48 x z cs j u rfl
          obtain ⟨c, ec⟩ : ∃ c, cs.getD j 0 = c := ⟨_, rfl⟩
          rw [ec] at hB hc hix
          have hT := fun u => cTimes x c u hx hc
          have hy := tm_lt (b := c) hx
          obtain ⟨y, ey⟩ : ∃ y, tm x c = y := ⟨_, rfl⟩
          rw [ey] at hB hy
          simp only [ey] at hT
          have hB : Hid _ := hB
          have hT : Hid _ := hT
          have hix : Hid _ := hix
          clear ews ev0 ex ec ey
          have hnK := K6.n
          simp at hnK
          have hoK3 := K6.lo 3
          have K6_2 : Bk w.heap.size wr [(false, w.heap.size, U8 (ls)), (false, w.heap.size + 1, U8 (cs)), (false, w.heap.size + 1 + 1, U8 (z16)), (true, b1_0, U8 (ws))] := ⟨.c (by omega) Qb.out <| .c (by omega) Qc.out <| .c qr Qr.out <| .o qw (K6.lo 3) Qw.out <| trivial, by simp <;> omega⟩
          go_upto_region 7 with fail
          refine rgP K6_2 HBq HBq.size [] [] [(0, 19, .bool true)] [] [] [] ?_ ?_
          · exact oc (g_bn (fun uZ => lss_i _ _ (j : Int) 4 _ uZ hl1)) on
          intro u7 HB7 sz7 K7
          simp only [fX, nK, nP, Wr.f, aK, pM] at K7
          simp only [setG, setN, List.set_cons_zero, List.set_cons_succ]
          go_upto_region 8 with fail
          refine rgP K7 HB7 HB7.size [] [] [(0, 20, .int .i64 (j : Int)), (1, 21, .int .u8 ((c : Nat) : Int)), (2, 8, .int .i64 (j : Int)), (3, 9, .int .u8 ((c : Nat) : Int))] [] [] [] ?_ ?_
          · refine oc g_mv ?_
            refine oc (g_op (fun ev uZ he => hix.out _ ev _ _ uZ rfl (he _ _ rfl) (he _ _ rfl) hcl hjj)) ?_
            refine oc g_as ?_
            exact oc g_as on
          intro u8 HB8 sz8 K8
          simp only [fX, nK, nP, Wr.f, aK, pM] at K8
          simp only [setG, setN, List.set_cons_zero, List.set_cons_succ]
          clear K7 HB7
          go_upto_region 9 with fail
          refine rgD K8 HB8 HB8.size [.no, .no, .no, .all 15 (U8 (ws.set k (v ^^^ y)))] [] [(0, 22, .int .i64 (k : Int)), (1, 23, .pointer (some ⟨b1_0, k, none⟩)), (2, 24, .int .u8 ((v : Nat) : Int)), (3, 25, .int .i64 ((k / 4 * 4 : Nat) : Int)), (4, 26, .int .i64 (k : Int)), (5, 27, .int .i64 (j : Int)), (6, 28, .int .i64 ((k + j : Nat) : Int)), (7, 29, .int .i64 (((k + j) % 4 : Nat) : Int)), (8, 30, .int .i64 ((ix : Nat) : Int)), (9, 31, .pointer (some ⟨w.heap.size, ix, none⟩)), (10, 32, .int .u8 ((x : Nat) : Int)), (11, 33, .int .u8 ((c : Nat) : Int)), (12, 34, .int .u8 ((y : Nat) : Int)), (13, 35, .int .u8 ((v ^^^ y : Nat) : Int)), (14, 36, .pointer (some ⟨b1_0, k, none⟩))] [(15, 2)] [] [] ?_ ?_
          · refine oc g_mv ?_
            refine oc (g_ix (fun uZ => xb16 b1_0 k uZ hj)) ?_
            refine oc (g_lw 3 (k) l8 (hg)) ?_
            refine oc g_mv ?_
            refine oc g_mv ?_
            refine oc g_mv ?_
            refine oc (g_bn (fun uZ => add_i _ _ (k : Int) (j : Int) ((k + j : Nat) : Int) uZ (by omega) (by omega) (by omega))) ?_
            refine oc (g_bn (fun uZ => remi _ _ (k + j) 4 uZ (by omega) (by decide))) ?_
            refine oc (g_bn (fun uZ => add_i _ _ ((k / 4 * 4 : Nat) : Int) (((k + j) % 4 : Nat) : Int) (ix : Int) uZ (by omega) (by omega) (by omega))) ?_
            refine oc (g_ix (fun uZ => xb16 (w.heap.size) ix uZ hix16)) ?_
            refine oc (g_lw 0 (ix) l8 (hg2)) ?_
            refine oc g_mv ?_
            refine oc (g_cl ent_aes_Times (fun uZ => hT.out uZ)) ?_
            refine oc (g_bn (fun uZ => xor8 _ _ v y uZ hv hy)) ?_
            refine oc (g_ix (fun uZ => xb16 b1_0 k uZ hj)) ?_
            exact oc (g_sw 3 (k) s8 (hg) (U8_set _ _ _)) on
          intro u9 HB9 sz9 K9
          simp only [fX, nK, nP, Wr.f, aK, pM] at K9
          simp only [setG, setN, List.set_cons_zero, List.set_cons_succ]
          clear K8 HB8
          go_upto_region 10 with fail
          refine rgP K9 HB9 HB9.size [] [] [(0, 37, .int .i64 ((j + 1 : Nat) : Int)), (1, 18, .int .i64 ((j + 1 : Nat) : Int))] [(1, 0)] [(1, 18)] [] ?_ ?_
          · refine oc (g_bn (fun uZ => add_i _ _ (j : Int) 1 ((j + 1 : Nat) : Int) uZ (by omega) (by omega) (by omega))) ?_
            exact oc g_mv on
          intro u10 HB10 sz10 K10
          simp only [fX, nK, nP, Wr.f, aK, pM] at K10
          simp only [setG, setN, List.set_cons_zero, List.set_cons_succ]
          clear K9 HB9
          go_wp2
          refine ⟨⟨j + 1, by omega, rfl, HB10, (K10.cv 0), (K10.cv 1), (K10.cv 2), (by rw [hB.out]; exact (K10.cv 3)), (K10.lt 3), (K10.lt 2)⟩, ?_⟩
          simp [intOf] <;> omega
        · have hl1 : decide ((j : Int) < 4) = false := by simp; omega
          have hj4 : j = 4 := by omega
          subst hj4
          have hnK := K6.n
          simp at hnK
          have hoK3 := K6.lo 3
          have K6_2 : Bk w.heap.size wr [(false, w.heap.size, U8 (ls)), (false, w.heap.size + 1, U8 (cs)), (false, w.heap.size + 1 + 1, U8 (z16)), (false, b1_0, U8 (sB k 4))] := ⟨.c (by omega) Qb.out <| .c (by omega) Qc.out <| .c qr Qr.out <| .c qw Qw.out <| trivial, by simp <;> omega⟩
          go_upto_region 7 with fail
          refine rgP K6_2 HBq HBq.size [] [] [(0, 19, .bool false)] [] [] [] ?_ ?_
          · exact oc (g_bn (fun uZ => lss_i _ _ ((4 : Nat) : Int) 4 _ uZ hl1)) on
          intro u7 HB7 sz7 K7
          simp only [fX, nK, nP, Wr.f, aK, pM] at K7
          simp only [setG, setN, List.set_cons_zero, List.set_cons_succ]
          go_upto_region 11 with fail
          refine rgP K7 HB7 HB7.size [] [] [(0, 38, .int .i64 ((k + 1 : Nat) : Int)), (1, 10, .int .i64 ((k + 1 : Nat) : Int))] [(1, 0)] [(1, 10)] [] ?_ ?_
          · refine oc (g_bn (fun uZ => add_i _ _ (k : Int) 1 ((k + 1 : Nat) : Int) uZ (by omega) (by omega) (by omega))) ?_
            exact oc g_mv on
          intro u8 HB8 sz8 K8
          simp only [fX, nK, nP, Wr.f, aK, pM] at K8
          simp only [setG, setN, List.set_cons_zero, List.set_cons_succ]
          clear K7 HB7
          go_wp2
          refine ⟨⟨k + 1, by omega, rfl, HB8, (K8.cv 0), (K8.cv 1), (K8.cv 2), (by rw [hBn.out]; exact (K8.cv 3)), (K8.lt 3), (K8.lt 2)⟩, ?_⟩
          simp [intOf] <;> omega
    · have hl1 : decide ((k : Int) < 16) = false := by simp; omega
      have hk16 : k = 16 := by omega
      subst hk16
      have hWs : (sB 16 0).length = 16 := (hBW.out 16 0).len
      have hnK := K2.n
      simp at hnK
      have hoK3 := K2.lo 3
      have K2_1 : Bk w.heap.size wr [(false, w.heap.size, U8 (ls)), (false, w.heap.size + 1, U8 (cs)), (true, w.heap.size + 1 + 1, U8 (z16)), (false, b1_0, U8 (sB 16 0))] := ⟨.c (by omega) Kb.out <| .c (by omega) Kc.out <| .o lr (K2.lo 2) Kr.out <| .c lw Kw.out <| trivial, by simp <;> omega⟩
      go_upto_region 3 with fail
      refine rgP K2_1 HBr HBr.size [] [] [(0, 11, .bool false)] [] [] [false, false] ?_ ?_
      · exact oc (g_bn (fun uZ => lss_i _ _ ((16 : Nat) : Int) 16 _ uZ hl1)) on
      intro u3 HB3 sz3 K3
      simp only [fX, nK, nP, Wr.f, aK, pM] at K3
      simp only [setG, setN, List.set_cons_zero, List.set_cons_succ]
      go_upto_region 12 with fail
      refine rgP K3 HB3 HB3.size [.all 1 (U8 (sB 16 0))] [] [(0, 39, .agg (U8 (sB 16 0)).toArray)] [] [] [true, false] ?_ ?_
      · refine oc (g_lR 1 0 (cs := U8 (sB 16 0)) (fun j v h => by rw [Nat.zero_add]; exact h) Tryd.underlying32 (by rw [U8_len, hWs]; exact info__16_uint8)) ?_
        exact oc (g_st 0 info__16_uint8 (h1 := U8_one _) (hm := by rw [U8_len, hWs]) (hl := by first | rw [U8_len, U8_len, hWs, show z16.length = 16 from rfl] | rfl)) on
      intro u4 HB4 sz4 K4
      simp only [fX, nK, nP, Wr.f, aK, pM] at K4
      simp only [setG, setN, List.set_cons_zero, List.set_cons_succ]
      clear K3 HB3
      go_wp2
      refine bodyPost_ret (res_cell Tryd.results33 rfl (K4.cv 0) Tryd.underlying32 rfl (by rw [U8_len, hWs]; exact info__16_uint8)) rfl ⟨rfl, HB4⟩
theorem inM_B {n : Nat} {l : List Nat} {i : Nat} {t : Nat → Nat} (h : BY n l) (ht : ∀ k, t k < 256) : ∀ k, BY n (inM l i t k)
  | 0 => h
  | k + 1 => (inM_B h ht k).set _ _ (xr8 ((inM_B h ht k).lt _) (ht k))
theorem mxL_B {c : Nat → Nat} {a : List Nat} (ha : BY 16 a) : ∀ i, BY 16 (mxL c a i)
  | 0 => BY_rep 16
  | i + 1 => inM_B (mxL_B ha i) (fun k => tm_lt (ha.lt _)) 4
/-- What the inner loop fills. -/
def mxS (cs a : List Nat) (k : Nat) : Nat → List Nat := inM (mxL (fun i => cs.getD i 0) a k) k (fun j => tm (a.getD (k / 4 * 4 + (k + j) % 4) 0) (cs.getD j 0))
theorem mxS_0 (cs a : List Nat) (k : Nat) : mxS cs a k 0 = mxL (fun i => cs.getD i 0) a k := rfl
theorem mxS_n (cs a : List Nat) (k : Nat) : mxS cs a (k + 1) 0 = mxS cs a k 4 := rfl
theorem mxS_s (cs a : List Nat) (k j : Nat) : mxS cs a k (j + 1) = (mxS cs a k j).set k ((mxS cs a k j).getD k 0 ^^^ tm (a.getD (k / 4 * 4 + (k + j) % 4) 0) (cs.getD j 0)) := rfl
theorem mxS_B (cs : List Nat) {a : List Nat} (ha : BY 16 a) (k j : Nat) : BY 16 (mxS cs a k j) := inM_B (mxL_B ha k) (fun k => tm_lt (ha.lt _)) j
theorem cMixed (ls cs : List Nat) (w : World) (hl : BY 16 ls) (hc : BY 4 cs) : Calls Tryd.prog 33 #[.agg (U8 (ls)).toArray, .agg (U8 (cs)).toArray] w fun e w' => e = .returned (.agg (U8 (mixB (cs.getD 0 0) (cs.getD 1 0) (cs.getD 2 0) (cs.getD 3 0) ls)).toArray) ∧ Below w.heap.size w w' := by
  have e := mxL_all (fun i => cs.getD i 0) ls
  rw [← e, ← mxS_0]
  exact cMixed_core ls cs (mxS cs ls) w hl.len hl.lt hc.len hc.lt rfl (mxS_n cs ls) (mxS_s cs ls) (mxS_B cs hl)
end Go.Proofs.YtlcjbnhfmcnnfaaDoor
