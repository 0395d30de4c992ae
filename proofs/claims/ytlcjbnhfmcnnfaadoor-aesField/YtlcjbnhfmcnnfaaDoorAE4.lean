/- AES: rows turned, columns mixed, and whose the substitutes are. -/
import Derived.Test.YtlcjbnhfmcnnfaaDoorAE3
namespace Go.Proofs.YtlcjbnhfmcnnfaaDoor
open Go.RowKit
set_option linter.unusedVariables false
set_option linter.unusedSimpArgs false
theorem flB_B {m : Nat} {f : Nat → Nat} (hf : ∀ i, f i < 256) : ∀ i, BY m (flB m f i)
  | 0 => BY_rep m
  | i + 1 => (flB_B hf i).set _ _ (hf i)
/-- Rows turned, so many times. -/
def trnB (n : Nat) (a : List Nat) : List Nat := (List.range 16).map fun k => a.getD ((k + 4 * (k % 4) * n) % 16) 0
set_option maxRecDepth 100000 in
set_option maxHeartbeats 4000000 in
theorem cTurned_core (n : Nat) (ls : List Nat) (sA : Nat → List Nat) (w : World) (hn : n ≤ 3) (hll : ls.length = 16) (hlb : ∀ j, ls.getD j 0 < 256) (hA0 : Hid (sA 0 = z16)) (hAs : Hid (∀ k, sA (k + 1) = (sA k).set k (ls.getD ((k + 4 * (k % 4) * n) % 16) 0))) (hAW : Hid (∀ k, BY 16 (sA k))) :
    Calls Tryd.prog 31 #[.agg (U8 (ls)).toArray, .int .i64 (n : Int)] w fun e w' => e = .returned (.agg (U8 (sA 16)).toArray) ∧ Below w.heap.size w w' := by
  go_enter Tryd.func31, Tryd.ntmps31
  go_upto_region 1 with fail
  generalize hC : ((w.alloc (.cells (U8 (ls) : List Value).toArray 32)).alloc (.cells (Z16b : List Value).toArray 32)) = v0 at *
  have HB0 : Below w.heap.size w v0 := by rw [← hC]; exact balloc (balloc (bself w) _) _
  have K0 : Bk w.heap.size v0 [(true, w.heap.size, U8 (ls)), (true, w.heap.size + 1, U8 (z16))] := by rw [← hC]; exact (Bk.nil _ w).ad.ad
  clear hC
  refine rgP K0 HB0 HB0.size [] [(0, 5, U8 (z16), none)] [] [] [] [] ?_ ?_
  · exact oc (g_al 0 al__16_uint8) on
  intro u1 b1_0 HB1 sz1 K1
  simp only [fX, nK, nP, Wr.f, aK, pM] at K1
  simp only [setG, setN, List.set_cons_zero, List.set_cons_succ]
  clear K0 HB0
  go_upto_region 2 with fail
  refine rgP K1 HB1 HB1.size [] [] [(0, 7, (Go.Value.int Go.IntKind.i64 0))] [] [] [] ?_ ?_
  · exact oc g_mv on
  intro u2 HB2 sz2 K2
  simp only [fX, nK, nP, Wr.f, aK, pM] at K2
  simp only [setG, setN, List.set_cons_zero, List.set_cons_succ]
  clear K1 HB1
  go_wp2_with fail
  go_loopw [7] (fun s7 wr => ∃ (k : Nat), k ≤ 16 ∧ s7 = .int .i64 (k : Int) ∧ Below w.heap.size w wr ∧ Hid (CV wr (w.heap.size) (U8 (ls))) ∧ Hid (CV wr (w.heap.size + 1) (U8 (z16))) ∧ Hid (CV wr b1_0 (U8 (sA k))) ∧ b1_0 < wr.heap.size ∧ w.heap.size + 1 < wr.heap.size) (fun s7 _ => 16 - (intOf s7).toNat)
  case atStart => exact ⟨0, by omega, rfl, HB2, (K2.cv 0), (K2.cv 1), (by rw [hA0.out]; exact (K2.cv 2)), (K2.lt 2), (K2.lt 1)⟩
  case round =>
    obtain ⟨k, hk, rfl, HBr, Kb, Kr, Kw, lw, lr⟩ := hrel
    have hlo := K2.lo 2
    clear HB2
    by_cases hj : k < 16
    · have hl1 : decide ((k : Int) < 16) = true := by simp; omega
      have hW := hAW.out k
      have hA := hAs.out k
      obtain ⟨ws, ews⟩ : ∃ ws, sA k = ws := ⟨_, rfl⟩
      rw [ews] at hW hA Kw
      have hlen := hW.len
      have hg := U8_get ws k (by omega)
      obtain ⟨v, ev0⟩ : ∃ v, ws.getD k 0 = v := ⟨_, rfl⟩
      rw [ev0] at hg
      have hm0 : 4 * (k % 4) * n ≤ 12 * 3 := Nat.mul_le_mul (by omega) hn
      obtain ⟨m, hm⟩ : ∃ m, 4 * (k % 4) * n = m := ⟨_, rfl⟩
      rw [hm] at hA hm0
      have hg2 := U8_get ls ((k + m) % 16) (by omega)
      obtain ⟨x, ex⟩ : ∃ x, ls.getD ((k + m) % 16) 0 = x := ⟨_, rfl⟩
      have hx := hlb ((k + m) % 16)
      rw [ex] at hA hg2 hx
      have hA : Hid _ := hA
      clear ews ev0 ex
      have hnK := K2.n
      simp at hnK
      have hoK2 := K2.lo 2
      have K2_1 : Bk w.heap.size wr [(false, w.heap.size, U8 (ls)), (false, w.heap.size + 1, U8 (z16)), (true, b1_0, U8 (ws))] := ⟨.c (by omega) Kb.out <| .c lr Kr.out <| .o lw (K2.lo 2) Kw.out <| trivial, by simp <;> omega⟩
      go_upto_region 3 with fail
      refine rgP K2_1 HBr HBr.size [] [] [(0, 8, .bool true)] [] [] [] ?_ ?_
      · exact oc (g_bn (fun uZ => lss_i _ _ (k : Int) 16 _ uZ hl1)) on
      intro u3 HB3 sz3 K3
      simp only [fX, nK, nP, Wr.f, aK, pM] at K3
      simp only [setG, setN, List.set_cons_zero, List.set_cons_succ]
      go_upto_region 4 with fail
      refine rgP K3 HB3 HB3.size [] [] [(0, 9, .int .i64 (k : Int)), (1, 6, .int .i64 (k : Int))] [] [] [] ?_ ?_
      · refine oc g_mv ?_
        exact oc g_as on
      intro u4 HB4 sz4 K4
      simp only [fX, nK, nP, Wr.f, aK, pM] at K4
      simp only [setG, setN, List.set_cons_zero, List.set_cons_succ]
      clear K3 HB3
      go_upto_region 5 with fail
      refine rgP K4 HB4 HB4.size [.no, .no, .all 12 (U8 (ws.set k x))] [] [(0, 10, .int .i64 (k : Int)), (1, 11, .int .i64 (k : Int)), (2, 12, .int .i64 (k : Int)), (3, 13, .int .i64 ((k % 4 : Nat) : Int)), (4, 14, .int .i64 ((4 * (k % 4) : Nat) : Int)), (5, 15, .int .i64 (n : Int)), (6, 16, .int .i64 ((m : Nat) : Int)), (7, 17, .int .i64 ((k + m : Nat) : Int)), (8, 18, .int .i64 (((k + m) % 16 : Nat) : Int)), (9, 19, .pointer (some ⟨w.heap.size, (k + m) % 16, none⟩)), (10, 20, .int .u8 ((x : Nat) : Int)), (11, 21, .pointer (some ⟨b1_0, k, none⟩))] [] [] [] ?_ ?_
      · refine oc g_mv ?_
        refine oc g_mv ?_
        refine oc g_mv ?_
        refine oc (g_bn (fun uZ => remi _ _ k 4 uZ (by omega) (by decide))) ?_
        refine oc (g_bn (fun uZ => muli _ _ 4 (k % 4) (4 * (k % 4)) uZ rfl (by omega))) ?_
        refine oc g_mv ?_
        refine oc (g_bn (fun uZ => muli _ _ (4 * (k % 4)) n m uZ hm (by omega))) ?_
        refine oc (g_bn (fun uZ => add_i _ _ (k : Int) (m : Int) ((k + m : Nat) : Int) uZ (by omega) (by omega) (by omega))) ?_
        refine oc (g_bn (fun uZ => remi _ _ (k + m) 16 uZ (by omega) (by decide))) ?_
        refine oc (g_ix (fun uZ => xb16 (w.heap.size) ((k + m) % 16) uZ (Nat.mod_lt _ (by decide)))) ?_
        refine oc (g_lw 0 ((k + m) % 16) l8 (hg2)) ?_
        refine oc (g_ix (fun uZ => xb16 b1_0 k uZ hj)) ?_
        exact oc (g_sw 2 (k) s8 (hg) (U8_set _ _ _)) on
      intro u5 HB5 sz5 K5
      simp only [fX, nK, nP, Wr.f, aK, pM] at K5
      simp only [setG, setN, List.set_cons_zero, List.set_cons_succ]
      clear K4 HB4
      go_upto_region 6 with fail
      refine rgP K5 HB5 HB5.size [] [] [(0, 22, .int .i64 ((k + 1 : Nat) : Int)), (1, 7, .int .i64 ((k + 1 : Nat) : Int))] [(1, 0)] [(1, 7)] [] ?_ ?_
      · refine oc (g_bn (fun uZ => add_i _ _ (k : Int) 1 ((k + 1 : Nat) : Int) uZ (by omega) (by omega) (by omega))) ?_
        exact oc g_mv on
      intro u6 HB6 sz6 K6
      simp only [fX, nK, nP, Wr.f, aK, pM] at K6
      simp only [setG, setN, List.set_cons_zero, List.set_cons_succ]
      clear K5 HB5
      go_wp2
      refine ⟨⟨k + 1, by omega, rfl, HB6, (K6.cv 0), (K6.cv 1), (by rw [hA.out]; exact (K6.cv 2)), (K6.lt 2), (K6.lt 1)⟩, ?_⟩
      simp [intOf] <;> omega
    · have hl1 : decide ((k : Int) < 16) = false := by simp; omega
      have hk16 : k = 16 := by omega
      subst hk16
      have hWs : (sA 16).length = 16 := (hAW.out 16).len
      have hnK := K2.n
      simp at hnK
      have hoK2 := K2.lo 2
      have K2_1 : Bk w.heap.size wr [(true, w.heap.size + 1, U8 (z16)), (false, b1_0, U8 (sA 16))] := ⟨.o lr (K2.lo 1) Kr.out <| .c lw Kw.out <| trivial, by simp <;> omega⟩
      go_upto_region 3 with fail
      refine rgP K2_1 HBr HBr.size [] [] [(0, 8, .bool false)] [] [] [] ?_ ?_
      · exact oc (g_bn (fun uZ => lss_i _ _ ((16 : Nat) : Int) 16 _ uZ hl1)) on
      intro u3 HB3 sz3 K3
      simp only [fX, nK, nP, Wr.f, aK, pM] at K3
      simp only [setG, setN, List.set_cons_zero, List.set_cons_succ]
      go_upto_region 7 with fail
      refine rgP K3 HB3 HB3.size [.all 1 (U8 (sA 16))] [] [(0, 23, .agg (U8 (sA 16)).toArray)] [] [] [true, false] ?_ ?_
      · refine oc (g_lR 1 0 (cs := U8 (sA 16)) (fun j v h => by rw [Nat.zero_add]; exact h) Tryd.underlying32 (by rw [U8_len, hWs]; exact info__16_uint8)) ?_
        exact oc (g_st 0 info__16_uint8 (h1 := U8_one _) (hm := by rw [U8_len, hWs]) (hl := by first | rw [U8_len, U8_len, hWs, show z16.length = 16 from rfl] | rfl)) on
      intro u4 HB4 sz4 K4
      simp only [fX, nK, nP, Wr.f, aK, pM] at K4
      simp only [setG, setN, List.set_cons_zero, List.set_cons_succ]
      clear K3 HB3
      go_wp2
      refine bodyPost_ret (res_cell Tryd.results31 rfl (K4.cv 0) Tryd.underlying32 rfl (by rw [U8_len, hWs]; exact info__16_uint8)) rfl ⟨rfl, HB4⟩
theorem cTurned (n : Nat) (ls : List Nat) (w : World) (hn : n ≤ 3) (hl : BY 16 ls) : Calls Tryd.prog 31 #[.agg (U8 (ls)).toArray, .int .i64 (n : Int)] w fun e w' => e = .returned (.agg (U8 (trnB n ls)).toArray) ∧ Below w.heap.size w w' := by
  have e : flB 16 (fun k => ls.getD ((k + 4 * (k % 4) * n) % 16) 0) 16 = trnB n ls := flB_all 16 _
  rw [← e]
  exact cTurned_core n ls (flB 16 fun k => ls.getD ((k + 4 * (k % 4) * n) % 16) 0) w hn hl.len hl.lt rfl (fun _ => rfl) (flB_B fun i => hl.lt _)
end Go.Proofs.YtlcjbnhfmcnnfaaDoor
