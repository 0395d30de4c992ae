/- SHA-256: a state's bytes. -/

import Derived.Test.YtbgdcgboomdimaaDoorSH3
namespace Go.Proofs.YtbgdcgboomdimaaDoor
open Go.RowKit
set_option linter.unusedVariables false
set_option linter.unusedSimpArgs false
theorem rem_n (p q : Operand) (x y : Nat) (w : World) (h1 : x < 1000000) (h2 : 0 < y) : (do eqGuard .rem 3 p q (.int .i64 x) (.int .i64 y); binOp .rem 3 (.int .i64 x) (.int .i64 y) : Sem Value).run Tryd.prog w = .ok (.int .i64 ((x % y : Nat) : Int)) w := by
  have e0 : ((x : Int)).tmod y = ((x % y : Nat) : Int) := by rw [Int.tmod_eq_emod_of_nonneg (Int.natCast_nonneg _)]; simp
  have hle : x % y ≤ x := Nat.mod_le _ _
  obtain ⟨z, hz⟩ : ∃ z, x % y = z := ⟨_, rfl⟩
  rw [hz] at e0 hle ⊢
  have e : IntKind.i64.wrap (z : Int) = (z : Int) := by rw [IntKind.wrap_i64]; omega
  have hy : (y : Int) ≠ 0 := by omega
  have hy2 : ¬ y = 0 := by omega
  go_simp
theorem mul_i (p q : Operand) (x y z : Int) (w : World) (h : x * y = z) (h0 : -9223372036854775808 ≤ z) (h1 : z < 9223372036854775808) : (do eqGuard .mul 3 p q (.int .i64 x) (.int .i64 y); binOp .mul 3 (.int .i64 x) (.int .i64 y) : Sem Value).run Tryd.prog w = .ok (.int .i64 z) w := by
  have e : IntKind.i64.wrap z = z := by rw [IntKind.wrap_i64]; omega
  subst h; go_simp
theorem shr32i (p q : Operand) (a n : Nat) (w : World) (hn : n ≤ 32) : (do eqGuard .shr 31 p q (.int .u32 a) (.int .i64 n); binOp .shr 31 (.int .u32 a) (.int .i64 n) : Sem Value).run Tryd.prog w = .ok (.int .u32 ((a >>> n : Nat) : Int)) w := by
  have e : ((a : Int) / 2 ^ n) = (a : Int) >>> n := by rw [Int.shiftRight_eq_div_pow]; simp
  have e2 : min n 32 = n := by omega
  go_simp
  first | done | exact e
theorem cv328 {o : Oper} {ev : Operand → Value} {x : Operand} {n : Nat} (u : World) (ho : o.op = .convert 31 5 x) (hx : ev x = .int .u32 (n : Int)) : (execOp ev o).run Tryd.prog u = .ok (.value (.int .u8 ((n % 256 : Nat) : Int))) u := by
  have e1 : IntKind.u8.wrap (n : Int) = ((n % 256 : Nat) : Int) := by simp [IntKind.wrap, IntKind.signed, IntKind.bits]
  unfold execOp; rw [ho]; simp only [hx]; go_simp
/-- The bytes of a state, the first so many. -/
def tld (ss : List Nat) : Nat → List Nat
  | 0 => z32
  | i + 1 => (tld ss i).set i ((ss.getD (i / 4) 0 >>> (8 * (3 - i % 4))) % 256)
def told (ss : List Nat) : List Nat := tld ss 32
structure BB (n : Nat) (l : List Nat) : Prop where
  len : l.length = n
  lt : ∀ j, l.getD j 0 < 256
theorem BB.set {n : Nat} {l : List Nat} (h : BB n l) (i x : Nat) (hx : x < 256) : BB n (l.set i x) where
  len := by rw [List.length_set]; exact h.len
  lt := fun j => by
    rw [getD_set]; split
    · exact hx
    · exact h.lt j
theorem BB_z32 : BB 32 z32 := ⟨rfl, fun j => by
  unfold z32; simp only [List.getD_eq_getElem?_getD, List.getElem?_replicate]; split <;> decide⟩
theorem tld_B (ss : List Nat) : ∀ i, BB 32 (tld ss i)
  | 0 => BB_z32
  | i + 1 => (tld_B ss i).set _ _ (Nat.mod_lt _ (by decide))
set_option maxRecDepth 100000 in
set_option maxHeartbeats 4000000 in
theorem cTold_core (ss : List Nat) (tL : Nat → List Nat) (w : World) (hl : ss.length = 8) (hT0 : Hid (tL 0 = z32)) (hTs : Hid (∀ i, tL (i + 1) = (tL i).set i ((ss.getD (i / 4) 0 >>> (8 * (3 - i % 4))) % 256))) (hTB : Hid (∀ i, BB 32 (tL i))) :
    Calls Tryd.prog 52 #[.agg (U32 (ss)).toArray] w fun e w' => e = .returned (.agg (U8 (tL 32)).toArray) ∧ Below w.heap.size w w' := by
  go_enter Tryd.func52, Tryd.ntmps52
  go_upto_region 1 with fail
  generalize hC : ((w.alloc (.cells (U32 (ss) : List Value).toArray 32)).alloc (.cells (Z32b : List Value).toArray 24)) = v0 at *
  have HB0 : Below w.heap.size w v0 := by rw [← hC]; exact balloc (balloc (bself w) _) _
  have K0 : Bk w.heap.size v0 [(true, w.heap.size, U32 (ss)), (true, w.heap.size + 1, U8 (z32))] := by rw [← hC]; exact (Bk.nil _ w).ad.ad
  clear hC
  refine rgP K0 HB0 HB0.size [] [(0, 3, U8 (z32), none)] [] [] [] [] ?_ ?_
  · exact oc (g_al 0 al__32_uint8) on
  intro u1 b1_0 HB1 sz1 K1
  simp only [fX, nK, nP, Wr.f, aK, pM] at K1
  simp only [setG, setN, List.set_cons_zero, List.set_cons_succ]
  clear K0 HB0
  go_upto_region 2 with fail
  refine rgP K1 HB1 HB1.size [] [] [(0, 5, (Go.Value.int Go.IntKind.i64 0))] [] [] [] ?_ ?_
  · exact oc g_mv on
  intro u2 HB2 sz2 K2
  simp only [fX, nK, nP, Wr.f, aK, pM] at K2
  simp only [setG, setN, List.set_cons_zero, List.set_cons_succ]
  clear K1 HB1
  go_wp2_with fail
  go_loopw [5] (fun s5 wr => ∃ (i : Nat), i ≤ 32 ∧ s5 = .int .i64 (i : Int) ∧ Below w.heap.size w wr ∧ Hid (CV wr (w.heap.size) (U32 (ss))) ∧ Hid (CV wr (w.heap.size + 1) (U8 (z32))) ∧ w.heap.size + 1 < wr.heap.size ∧ Hid (CV wr b1_0 (U8 (tL i))) ∧ b1_0 < wr.heap.size) (fun s5 _ => 32 - (intOf s5).toNat)
  case atStart => exact ⟨0, by omega, rfl, HB2, (K2.cv 0), (K2.cv 1), (K2.lt 1), (by rw [hT0.out]; exact (K2.cv 2)), (K2.lt 2)⟩
  case round =>
    obtain ⟨i, hi, rfl, HBr, Ks, Kr, lr, Kt, lt⟩ := hrel
    have hlo := K2.lo 2
    clear HB2
    by_cases hj : i < 32
    · have hl1 : decide ((i : Int) < 32) = true := by simp; omega
      have hS := hTs.out i
      have hlen := (hTB.out i).len
      obtain ⟨ts, ets⟩ : ∃ ts, tL i = ts := ⟨_, rfl⟩
      rw [ets] at hS hlen Kt
      have gi := U8_get ts i (by omega)
      have gs := U32_get ss (i / 4) (by omega)
      obtain ⟨x, ex⟩ : ∃ x, ss.getD (i / 4) 0 = x := ⟨_, rfl⟩
      obtain ⟨y, ey⟩ : ∃ y, ts.getD i 0 = y := ⟨_, rfl⟩
      rw [ex] at gs hS
      rw [ey] at gi
      have hS : Hid _ := hS
      have hm : i % 4 ≤ 3 := by omega
      have hz : (3 : Int) - ((i % 4 : Nat) : Int) = ((3 - i % 4 : Nat) : Int) := by omega
      have hz2 : (8 : Int) * ((3 - i % 4 : Nat) : Int) = ((8 * (3 - i % 4) : Nat) : Int) := by omega
      clear ets ex ey
      have hnK := K2.n
      simp at hnK
      have hoK2 := K2.lo 2
      have K2_1 : Bk w.heap.size wr [(false, w.heap.size, U32 (ss)), (false, w.heap.size + 1, U8 (z32)), (true, b1_0, U8 (ts))] := ⟨.c (by omega) Ks.out <| .c lr Kr.out <| .o lt (K2.lo 2) Kt.out <| trivial, by simp; omega⟩
      go_upto_region 3 with fail
      refine rgP K2_1 HBr HBr.size [] [] [(0, 6, .bool true)] [] [] [] ?_ ?_
      · exact oc (g_bn (fun uZ => lss_i _ _ (i : Int) 32 _ uZ hl1)) on
      intro u3 HB3 sz3 K3
      simp only [fX, nK, nP, Wr.f, aK, pM] at K3
      simp only [setG, setN, List.set_cons_zero, List.set_cons_succ]
      go_upto_region 4 with fail
      refine rgP K3 HB3 HB3.size [] [] [(0, 7, .int .i64 (i : Int)), (1, 4, .int .i64 (i : Int))] [] [] [] ?_ ?_
      · refine oc g_mv ?_
        exact oc g_as on
      intro u4 HB4 sz4 K4
      simp only [fX, nK, nP, Wr.f, aK, pM] at K4
      simp only [setG, setN, List.set_cons_zero, List.set_cons_succ]
      clear K3 HB3
      go_upto_region 5 with fail
      refine rgP K4 HB4 HB4.size [.no, .no, .all 12 (U8 (ts.set i ((x >>> (8 * (3 - i % 4))) % 256)))] [] [(0, 8, .int .i64 (i : Int)), (1, 9, .int .i64 (i : Int)), (2, 10, .int .i64 ((i / 4 : Nat) : Int)), (3, 11, .pointer (some ⟨w.heap.size, i / 4, none⟩)), (4, 12, .int .u32 ((x : Nat) : Int)), (5, 13, .int .i64 (i : Int)), (6, 14, .int .i64 ((i % 4 : Nat) : Int)), (7, 15, .int .i64 ((3 - i % 4 : Nat) : Int)), (8, 16, .int .i64 ((8 * (3 - i % 4) : Nat) : Int)), (9, 17, .int .u32 ((x >>> (8 * (3 - i % 4)) : Nat) : Int)), (10, 18, .int .u8 (((x >>> (8 * (3 - i % 4))) % 256 : Nat) : Int)), (11, 19, .pointer (some ⟨b1_0, i, none⟩))] [] [] [] ?_ ?_
      · refine oc g_mv ?_
        refine oc g_mv ?_
        refine oc (g_bn (fun uZ => quo_n _ _ i 4 uZ (by omega) (by decide))) ?_
        refine oc (g_ix (fun uZ => x8 _ (i / 4) uZ (by omega))) ?_
        refine oc (g_lw 0 (i / 4) l32 (gs)) ?_
        refine oc g_mv ?_
        refine oc (g_bn (fun uZ => rem_n _ _ i 4 uZ (by omega) (by decide))) ?_
        refine oc (g_bn (fun uZ => sub_i _ _ 3 ((i % 4 : Nat) : Int) ((3 - i % 4 : Nat) : Int) uZ hz (by omega) (by omega))) ?_
        refine oc (g_bn (fun uZ => mul_i _ _ 8 ((3 - i % 4 : Nat) : Int) ((8 * (3 - i % 4) : Nat) : Int) uZ hz2 (by omega) (by omega))) ?_
        refine oc (g_bn (fun uZ => shr32i _ _ x (8 * (3 - i % 4)) uZ (by omega))) ?_
        refine oc (g_op (fun ev uZ he => cv328 uZ rfl (he _ _ rfl))) ?_
        refine oc (g_ix (fun uZ => x32 b1_0 i uZ hj)) ?_
        exact oc (g_sw 2 (i) s8 (gi) (U8_set _ _ _)) on
      intro u5 HB5 sz5 K5
      simp only [fX, nK, nP, Wr.f, aK, pM] at K5
      simp only [setG, setN, List.set_cons_zero, List.set_cons_succ]
      clear K4 HB4
      go_upto_region 6 with fail
      refine rgP K5 HB5 HB5.size [] [] [(0, 20, .int .i64 ((i + 1 : Nat) : Int)), (1, 5, .int .i64 ((i + 1 : Nat) : Int))] [(1, 0)] [(1, 5)] [] ?_ ?_
      · refine oc (g_bn (fun uZ => add_i _ _ (i : Int) 1 ((i + 1 : Nat) : Int) uZ (by omega) (by omega) (by omega))) ?_
        exact oc g_mv on
      intro u6 HB6 sz6 K6
      simp only [fX, nK, nP, Wr.f, aK, pM] at K6
      simp only [setG, setN, List.set_cons_zero, List.set_cons_succ]
      clear K5 HB5
      go_wp2
      refine ⟨⟨i + 1, by omega, rfl, HB6, (K6.cv 0), (K6.cv 1), (K6.lt 1), (by rw [hS.out]; exact (K6.cv 2)), (K6.lt 2)⟩, ?_⟩
      simp [intOf] <;> omega
    · have hl1 : decide ((i : Int) < 32) = false := by simp; omega
      have hi32 : i = 32 := by omega
      subst hi32
      have hlen := (hTB.out 32).len
      have hnK := K2.n
      simp at hnK
      have hoK2 := K2.lo 2
      have K2_1 : Bk w.heap.size wr [(true, w.heap.size + 1, U8 (z32)), (false, b1_0, U8 (tL 32))] := ⟨.o lr (K2.lo 1) Kr.out <| .c lt Kt.out <| trivial, by simp; omega⟩
      go_upto_region 3 with fail
      refine rgP K2_1 HBr HBr.size [] [] [(0, 6, .bool false)] [] [] [] ?_ ?_
      · exact oc (g_bn (fun uZ => lss_i _ _ ((32 : Nat) : Int) 32 _ uZ hl1)) on
      intro u3 HB3 sz3 K3
      simp only [fX, nK, nP, Wr.f, aK, pM] at K3
      simp only [setG, setN, List.set_cons_zero, List.set_cons_succ]
      go_upto_region 7 with fail
      refine rgP K3 HB3 HB3.size [.all 1 (U8 (tL 32))] [] [(0, 21, .agg (U8 (tL 32)).toArray)] [] [] [true, false] ?_ ?_
      · refine oc (g_lR 1 0 (cs := U8 (tL 32)) (fun j v h => by rw [Nat.zero_add]; exact h) Tryd.underlying24 (by rw [U8_len, hlen]; exact info__32_uint8)) ?_
        exact oc (g_st 0 info__32_uint8 (h1 := U8_one _) (hm := by rw [U8_len, hlen]) (hl := by rw [U8_len, U8_len, hlen, show z32.length = 32 from rfl])) on
      intro u4 HB4 sz4 K4
      simp only [fX, nK, nP, Wr.f, aK, pM] at K4
      simp only [setG, setN, List.set_cons_zero, List.set_cons_succ]
      clear K3 HB3
      go_wp2
      refine bodyPost_ret (res_cell Tryd.results52 rfl (K4.cv 0) Tryd.underlying24 rfl (by rw [U8_len, hlen]; exact info__32_uint8)) rfl ⟨rfl, HB4⟩
theorem cTold (ss : List Nat) (w : World) (hl : ss.length = 8) : Calls Tryd.prog 52 #[.agg (U32 (ss)).toArray] w fun e w' => e = .returned (.agg (U8 (told ss)).toArray) ∧ Below w.heap.size w w' :=
  cTold_core ss (tld ss) w hl rfl (fun _ => rfl) (tld_B ss)
end Go.Proofs.YtbgdcgboomdimaaDoor
