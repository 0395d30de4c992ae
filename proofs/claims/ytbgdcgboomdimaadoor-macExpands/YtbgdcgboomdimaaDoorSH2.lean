/- SHA-256: a word for each step. -/

import Derived.Test.YtbgdcgboomdimaaDoorSP
namespace Go.Proofs.YtbgdcgboomdimaaDoor
open Go.RowKit
set_option linter.unusedVariables false
set_option linter.unusedSimpArgs false
def z64 : List Nat := List.replicate 64 0
def z8 : List Nat := List.replicate 8 0
def z32 : List Nat := List.replicate 32 0
abbrev Z64w : List Value := [.int .u32 0, .int .u32 0, .int .u32 0, .int .u32 0, .int .u32 0, .int .u32 0, .int .u32 0, .int .u32 0, .int .u32 0, .int .u32 0, .int .u32 0, .int .u32 0, .int .u32 0, .int .u32 0, .int .u32 0, .int .u32 0, .int .u32 0, .int .u32 0, .int .u32 0, .int .u32 0, .int .u32 0, .int .u32 0, .int .u32 0, .int .u32 0, .int .u32 0, .int .u32 0, .int .u32 0, .int .u32 0, .int .u32 0, .int .u32 0, .int .u32 0, .int .u32 0, .int .u32 0, .int .u32 0, .int .u32 0, .int .u32 0, .int .u32 0, .int .u32 0, .int .u32 0, .int .u32 0, .int .u32 0, .int .u32 0, .int .u32 0, .int .u32 0, .int .u32 0, .int .u32 0, .int .u32 0, .int .u32 0, .int .u32 0, .int .u32 0, .int .u32 0, .int .u32 0, .int .u32 0, .int .u32 0, .int .u32 0, .int .u32 0, .int .u32 0, .int .u32 0, .int .u32 0, .int .u32 0, .int .u32 0, .int .u32 0, .int .u32 0, .int .u32 0]
abbrev Z8w : List Value := [.int .u32 0, .int .u32 0, .int .u32 0, .int .u32 0, .int .u32 0, .int .u32 0, .int .u32 0, .int .u32 0]
abbrev Z32b : List Value := [.int .u8 0, .int .u8 0, .int .u8 0, .int .u8 0, .int .u8 0, .int .u8 0, .int .u8 0, .int .u8 0, .int .u8 0, .int .u8 0, .int .u8 0, .int .u8 0, .int .u8 0, .int .u8 0, .int .u8 0, .int .u8 0, .int .u8 0, .int .u8 0, .int .u8 0, .int .u8 0, .int .u8 0, .int .u8 0, .int .u8 0, .int .u8 0, .int .u8 0, .int .u8 0, .int .u8 0, .int .u8 0, .int .u8 0, .int .u8 0, .int .u8 0, .int .u8 0]
theorem al__64_uint32 (w : World) : (Instr.alloc 56 true (.tuple #[])).run Tryd.prog w = .ok (.pointer (some ⟨w.heap.size, 0, none⟩)) (w.alloc (.cells (U32 z64).toArray 56)) := by kernel_rfl
theorem info__64_uint32 : (Tryd.prog.info? 56).map (·.size) = some 64 := by kernel_rfl
theorem al__8_uint32 (w : World) : (Instr.alloc 32 true (.tuple #[])).run Tryd.prog w = .ok (.pointer (some ⟨w.heap.size, 0, none⟩)) (w.alloc (.cells (U32 z8).toArray 32)) := by kernel_rfl
theorem info__8_uint32 : (Tryd.prog.info? 32).map (·.size) = some 8 := by kernel_rfl
theorem al__32_uint8 (w : World) : (Instr.alloc 24 true (.tuple #[])).run Tryd.prog w = .ok (.pointer (some ⟨w.heap.size, 0, none⟩)) (w.alloc (.cells (U8 z32).toArray 24)) := by kernel_rfl
theorem info__32_uint8 : (Tryd.prog.info? 24).map (·.size) = some 32 := by kernel_rfl
theorem info__64_uint8 : (Tryd.prog.info? 33).map (·.size) = some 64 := by kernel_rfl
theorem lss_i (p q : Operand) (x y : Int) (b : Bool) (w : World) (h : decide (x < y) = b) : (do eqGuard .lss 3 p q (.int .i64 x) (.int .i64 y); binOp .lss 3 (.int .i64 x) (.int .i64 y) : Sem Value).run Tryd.prog w = .ok (.bool b) w := by
  subst h; go_simp
theorem add_i (p q : Operand) (x y z : Int) (w : World) (h : x + y = z) (h1 : -9223372036854775808 ≤ z) (h2 : z < 9223372036854775808) : (do eqGuard .add 3 p q (.int .i64 x) (.int .i64 y); binOp .add 3 (.int .i64 x) (.int .i64 y) : Sem Value).run Tryd.prog w = .ok (.int .i64 z) w := by
  have e : IntKind.i64.wrap z = z := by rw [IntKind.wrap_i64]; omega
  subst h; go_simp
theorem sub_i (p q : Operand) (x y z : Int) (w : World) (h : x - y = z) (h1 : -9223372036854775808 ≤ z) (h2 : z < 9223372036854775808) : (do eqGuard .sub 3 p q (.int .i64 x) (.int .i64 y); binOp .sub 3 (.int .i64 x) (.int .i64 y) : Sem Value).run Tryd.prog w = .ok (.int .i64 z) w := by
  have e : IntKind.i64.wrap z = z := by rw [IntKind.wrap_i64]; omega
  subst h; go_simp
theorem quo_n (p q : Operand) (x y : Nat) (w : World) (h1 : x < 1000000) (h2 : 0 < y) : (do eqGuard .quo 3 p q (.int .i64 x) (.int .i64 y); binOp .quo 3 (.int .i64 x) (.int .i64 y) : Sem Value).run Tryd.prog w = .ok (.int .i64 ((x / y : Nat) : Int)) w := by
  have e0 : ((x : Int)).tdiv y = ((x / y : Nat) : Int) := by rw [Int.tdiv_eq_ediv_of_nonneg (Int.natCast_nonneg _)]; simp
  have hle : x / y ≤ x := Nat.div_le_self _ _
  obtain ⟨z, hz⟩ : ∃ z, x / y = z := ⟨_, rfl⟩
  rw [hz] at e0 hle ⊢
  have e : IntKind.i64.wrap (z : Int) = (z : Int) := by rw [IntKind.wrap_i64]; omega
  have hy : (y : Int) ≠ 0 := by omega
  have hy2 : ¬ y = 0 := by omega
  go_simp
theorem cv8 {o : Oper} {ev : Operand → Value} {x : Operand} {n : Nat} (u : World) (h1 : n < 256) (ho : o.op = .convert 5 31 x) (hx : ev x = .int .u8 (n : Int)) : (execOp ev o).run Tryd.prog u = .ok (.value (.int .u32 (n : Int))) u := by
  have e1 : IntKind.u32.wrap (n : Int) = (n : Int) := wraps_u32 _ (by omega) (by omega)
  unfold execOp; rw [ho]; simp only [hx]; go_simp
/-- The words of the block. -/
def spA (bs : List Nat) : Nat → List Nat
  | 0 => z64
  | k + 1 => (spA bs k).set (k / 4) (((spA bs k).getD (k / 4) 0 <<< 8) % 4294967296 ||| bs.getD k 0)
def spS (l : List Nat) (t : Nat) : Nat := (((ls1 (l.getD (t - 2) 0) + l.getD (t - 7) 0) % 4294967296 + ls0 (l.getD (t - 15) 0)) % 4294967296 + l.getD (t - 16) 0) % 4294967296
/-- And what comes of them. -/
def spB (ws : List Nat) : Nat → List Nat
  | 0 => ws
  | k + 1 => (spB ws k).set (k + 16) (spS (spB ws k) (k + 16))
def spread (bs : List Nat) : List Nat := spB (spA bs 64) 48
structure WW (n : Nat) (l : List Nat) : Prop where
  len : l.length = n
  lt : ∀ j, l.getD j 0 < M32
theorem getD_set (l : List Nat) (i j x : Nat) : (l.set i x).getD j 0 = if i = j ∧ j < l.length then x else l.getD j 0 := by
  by_cases h : i = j
  · subst h
    by_cases h2 : i < l.length
    · rw [if_pos ⟨rfl, h2⟩]; simp [h2]
    · rw [if_neg (fun h => h2 h.2)]; simp [List.getElem?_eq_none (show l.length ≤ i by omega), List.getElem?_set, h2]
  · rw [if_neg (fun h' => h h'.1)]; simp [List.getElem?_set, h]
theorem WW.set {n : Nat} {l : List Nat} (h : WW n l) (i x : Nat) (hx : x < M32) : WW n (l.set i x) where
  len := by rw [List.length_set]; exact h.len
  lt := fun j => by
    rw [getD_set]; split
    · exact hx
    · exact h.lt j
theorem WW_z64 : WW 64 z64 := ⟨rfl, fun j => by
  unfold z64; simp only [List.getD_eq_getElem?_getD, List.getElem?_replicate]; split <;> decide⟩
theorem spA_W (bs : List Nat) (hb : ∀ j, bs.getD j 0 < 256) : ∀ k, WW 64 (spA bs k)
  | 0 => WW_z64
  | k + 1 => (spA_W bs hb k).set _ _ (or_lt (Nat.mod_lt _ (by decide)) (Nat.lt_of_lt_of_le (hb k) (by decide)))
theorem spS_lt (l : List Nat) (t : Nat) : spS l t < M32 := Nat.mod_lt _ (by decide)
theorem spB_W {ws : List Nat} (h : WW 64 ws) : ∀ k, WW 64 (spB ws k)
  | 0 => h
  | k + 1 => (spB_W h k).set _ _ (spS_lt _ _)
set_option maxRecDepth 100000 in
set_option maxHeartbeats 4000000 in
theorem cSpread_core (bs : List Nat) (sA sB : Nat → List Nat) (w : World) (hl : bs.length = 64) (hb : ∀ j, bs.getD j 0 < 256) (hA0 : Hid (sA 0 = z64)) (hAs : Hid (∀ k, sA (k + 1) = (sA k).set (k / 4) (((sA k).getD (k / 4) 0 <<< 8) % 4294967296 ||| bs.getD k 0))) (hAW : Hid (∀ k, WW 64 (sA k))) (hB0 : Hid (sB 0 = sA 64)) (hBs : Hid (∀ t, sB (t + 1) = (sB t).set (t + 16) (spS (sB t) (t + 16)))) (hBW : Hid (∀ t, WW 64 (sB t))) :
    Calls Tryd.prog 42 #[.agg (U8 (bs)).toArray] w fun e w' => e = .returned (.agg (U32 (sB 48)).toArray) ∧ Below w.heap.size w w' := by
  go_enter Tryd.func42, Tryd.ntmps42
  go_upto_region 1 with fail
  generalize hC : ((w.alloc (.cells (U8 (bs) : List Value).toArray 33)).alloc (.cells (Z64w : List Value).toArray 56)) = v0 at *
  have HB0 : Below w.heap.size w v0 := by rw [← hC]; exact balloc (balloc (bself w) _) _
  have K0 : Bk w.heap.size v0 [(true, w.heap.size, U8 (bs)), (true, w.heap.size + 1, U32 (z64))] := by rw [← hC]; exact (Bk.nil _ w).ad.ad
  clear hC
  skip
  refine rgP K0 HB0 HB0.size [] [(0, 3, U32 (z64), none)] [] [] [] [] ?_ ?_
  · exact oc (g_al 0 al__64_uint32) on
  intro u1 b1_0 HB1 sz1 K1
  simp only [fX, nK, nP, Wr.f, aK, pM] at K1
  simp only [setG, setN, List.set_cons_zero, List.set_cons_succ]
  clear K0 HB0
  go_upto_region 2 with fail
  refine rgP K1 HB1 HB1.size [] [] [(0, 7, .agg (U8 (bs)).toArray), (1, 8, (Go.Value.int Go.IntKind.i64 0))] [] [] [false] ?_ ?_
  · refine oc (g_lR 0 0 (cs := U8 (bs)) (fun j v h => by rw [Nat.zero_add]; exact h) Tryd.underlying33 (by rw [U8_len, hl]; exact info__64_uint8)) ?_
    exact oc g_mv on
  intro u2 HB2 sz2 K2
  simp only [fX, nK, nP, Wr.f, aK, pM] at K2
  simp only [setG, setN, List.set_cons_zero, List.set_cons_succ]
  clear K1 HB1
  go_wp2_with fail
  go_loopw [8] (fun s8 wr => ∃ (k : Nat), k ≤ 64 ∧ s8 = .int .i64 (k : Int) ∧ Below w.heap.size w wr ∧ Hid (CV wr (w.heap.size + 1) (U32 (z64))) ∧ Hid (CV wr b1_0 (U32 (sA k))) ∧ b1_0 < wr.heap.size ∧ w.heap.size + 1 < wr.heap.size) (fun s8 _ => 64 - (intOf s8).toNat)
  case atStart => exact ⟨0, by omega, rfl, HB2, (K2.cv 0), (by rw [hA0.out]; exact (K2.cv 1)), (K2.lt 1), (K2.lt 0)⟩
  case round =>
    obtain ⟨k, hk, rfl, HBr, Kr, Kw, lw, lr⟩ := hrel
    have hlo := K2.lo 1
    clear HB2
    by_cases hj : k < 64
    · have hl1 : decide ((k : Int) < 64) = true := by simp; omega
      have hW := hAW.out k
      have hA := hAs.out k
      obtain ⟨ws, ews⟩ : ∃ ws, sA k = ws := ⟨_, rfl⟩
      rw [ews] at hW hA Kw
      obtain ⟨y, ey⟩ : ∃ y, bs.getD k 0 = y := ⟨_, rfl⟩
      have hy := hb k
      have hix := fun (o : Oper) (ev : Operand → Value) (x z : Operand) u => @ix8v o ev 33 x z bs k u rfl
      rw [ey] at hy hA
      rw [ey] at hix
      obtain ⟨v, ev0⟩ : ∃ v, ws.getD (k / 4) 0 = v := ⟨_, rfl⟩
      have hv := hW.lt (k / 4)
      have hg := U32_get ws (k / 4) (by have := hW.len; omega)
      rw [ev0] at hv hg hA
      have hix : Hid _ := hix
      have hA : Hid _ := hA
      have hW : Hid _ := hW
      have hb : Hid _ := hb
      clear ews ey ev0
      have hnK := K2.n
      simp at hnK
      have hoK1 := K2.lo 1
      have K2_1 : Bk w.heap.size wr [(false, w.heap.size + 1, U32 (z64)), (true, b1_0, U32 (ws))] := ⟨.c lr Kr.out <| .o lw (K2.lo 1) Kw.out <| trivial, by simp; omega⟩
      go_upto_region 3 with fail
      refine rgP K2_1 HBr HBr.size [] [] [(0, 9, .bool true)] [] [] [] ?_ ?_
      · exact oc (g_bn (fun uZ => lss_i _ _ (k : Int) 64 _ uZ hl1)) on
      intro u3 HB3 sz3 K3
      simp only [fX, nK, nP, Wr.f, aK, pM] at K3
      simp only [setG, setN, List.set_cons_zero, List.set_cons_succ]
      go_upto_region 4 with fail
      refine rgP K3 HB3 HB3.size [] [] [(0, 10, .int .i64 (k : Int)), (1, 11, .int .u8 (y : Int)), (2, 4, .int .i64 (k : Int)), (3, 5, .int .u8 (y : Int))] [] [] [] ?_ ?_
      · refine oc g_mv ?_
        refine oc (g_op (fun ev uZ he => hix.out _ ev _ _ uZ rfl (he _ _ rfl) (he _ _ rfl) hl hj)) ?_
        refine oc g_as ?_
        exact oc g_as on
      intro u4 HB4 sz4 K4
      simp only [fX, nK, nP, Wr.f, aK, pM] at K4
      simp only [setG, setN, List.set_cons_zero, List.set_cons_succ]
      clear K3 HB3
      go_upto_region 5 with fail
      refine rgP K4 HB4 HB4.size [.no, .all 11 (U32 (ws.set (k / 4) ((v <<< 8) % 4294967296 ||| y)))] [] [(0, 12, .int .i64 (k : Int)), (1, 13, .int .i64 ((k / 4 : Nat) : Int)), (2, 14, .int .i64 (k : Int)), (3, 15, .int .i64 ((k / 4 : Nat) : Int)), (4, 16, .pointer (some ⟨b1_0, k / 4, none⟩)), (5, 17, .int .u32 ((v : Nat) : Int)), (6, 18, .int .u32 (((v <<< 8) % 4294967296 : Nat) : Int)), (7, 19, .int .u8 (y : Int)), (8, 20, .int .u32 ((y : Nat) : Int)), (9, 21, .int .u32 (((v <<< 8) % 4294967296 ||| y : Nat) : Int)), (10, 22, .pointer (some ⟨b1_0, k / 4, none⟩))] [(11, 5)] [] [] ?_ ?_
      · refine oc g_mv ?_
        refine oc (g_bn (fun uZ => quo_n _ _ k 4 uZ (by omega) (by decide))) ?_
        refine oc g_mv ?_
        refine oc (g_bn (fun uZ => quo_n _ _ k 4 uZ (by omega) (by decide))) ?_
        refine oc (g_ix (fun uZ => x64 b1_0 (k / 4) uZ (by omega))) ?_
        refine oc (g_lw 1 (k / 4) l32 (hg)) ?_
        refine oc (g_bn (fun uZ => shl32 _ _ v 8 uZ (by decide))) ?_
        refine oc g_mv ?_
        refine oc (g_op (fun ev uZ he => cv8 uZ hy rfl (he _ _ rfl))) ?_
        refine oc (g_bn (fun uZ => or32 _ _ ((v <<< 8) % 4294967296) y uZ (Nat.mod_lt _ (by decide)) (Nat.lt_of_lt_of_le hy (by decide)))) ?_
        refine oc (g_ix (fun uZ => x64 b1_0 (k / 4) uZ (by omega))) ?_
        exact oc (g_sw 1 (k / 4) s32 (hg) (U32_set _ _ _)) on
      intro u5 HB5 sz5 K5
      simp only [fX, nK, nP, Wr.f, aK, pM] at K5
      simp only [setG, setN, List.set_cons_zero, List.set_cons_succ]
      clear K4 HB4
      go_upto_region 6 with fail
      refine rgP K5 HB5 HB5.size [] [] [(0, 23, .int .i64 ((k + 1 : Nat) : Int)), (1, 8, .int .i64 ((k + 1 : Nat) : Int))] [(1, 0)] [(1, 8)] [] ?_ ?_
      · refine oc (g_bn (fun uZ => add_i _ _ (k : Int) 1 ((k + 1 : Nat) : Int) uZ (by omega) (by omega) (by omega))) ?_
        exact oc g_mv on
      intro u6 HB6 sz6 K6
      simp only [fX, nK, nP, Wr.f, aK, pM] at K6
      simp only [setG, setN, List.set_cons_zero, List.set_cons_succ]
      clear K5 HB5
      go_wp2
      refine ⟨⟨k + 1, by omega, rfl, HB6, (K6.cv 0), (by rw [hA.out]; exact (K6.cv 1)), (K6.lt 1), (K6.lt 0)⟩, ?_⟩
      simp [intOf] <;> omega
    · have hl1 : decide ((k : Int) < 64) = false := by simp; omega
      have hk64 : k = 64 := by omega
      subst hk64
      rw [← hB0.out] at Kw
      have hnK := K2.n
      simp at hnK
      have hoK1 := K2.lo 1
      have K2_1 : Bk w.heap.size wr [(true, w.heap.size + 1, U32 (z64)), (true, b1_0, U32 (sB 0))] := ⟨.o lr (K2.lo 0) Kr.out <| .o lw (K2.lo 1) Kw.out <| trivial, by simp; omega⟩
      go_upto_region 3 with fail
      refine rgP K2_1 HBr HBr.size [] [] [(0, 9, .bool false)] [] [] [] ?_ ?_
      · exact oc (g_bn (fun uZ => lss_i _ _ ((64 : Nat) : Int) 64 _ uZ hl1)) on
      intro u3 HB3 sz3 K3
      simp only [fX, nK, nP, Wr.f, aK, pM] at K3
      simp only [setG, setN, List.set_cons_zero, List.set_cons_succ]
      go_upto_region 7 with fail
      refine rgP K3 HB3 HB3.size [] [] [(0, 6, (Go.Value.int Go.IntKind.i64 16))] [] [] [] ?_ ?_
      · exact oc g_as on
      intro u4 HB4 sz4 K4
      simp only [fX, nK, nP, Wr.f, aK, pM] at K4
      simp only [setG, setN, List.set_cons_zero, List.set_cons_succ]
      clear K3 HB3
      go_wp2_with fail
      go_loopw [6] (fun s6 wq => ∃ (t : Nat), t ≤ 48 ∧ s6 = .int .i64 ((t + 16 : Nat) : Int) ∧ Below w.heap.size w wq ∧ Hid (CV wq (w.heap.size + 1) (U32 (z64))) ∧ Hid (CV wq b1_0 (U32 (sB t))) ∧ b1_0 < wq.heap.size ∧ w.heap.size + 1 < wq.heap.size) (fun s6 _ => 64 - (intOf s6).toNat)
      case atStart => exact ⟨0, by omega, rfl, HB4, (K4.cv 0), (K4.cv 1), (K4.lt 1), (K4.lt 0)⟩
      case round =>
        obtain ⟨t, ht, rfl, HBq, Kq, Kv, lv, lq⟩ := hrel
        clear HB4
        by_cases hj2 : t < 48
        · have hl2 : decide (((t + 16 : Nat) : Int) < 64) = true := by simp; omega
          have hW := hBW.out t
          have hA := hBs.out t
          obtain ⟨ws, ews⟩ : ∃ ws, sB t = ws := ⟨_, rfl⟩
          rw [ews] at hW hA Kv
          have hlen := hW.len
          obtain ⟨a, ea⟩ : ∃ a, ws.getD (t + 14) 0 = a := ⟨_, rfl⟩
          obtain ⟨b, eb⟩ : ∃ b, ws.getD (t + 9) 0 = b := ⟨_, rfl⟩
          obtain ⟨c, ec⟩ : ∃ c, ws.getD (t + 1) 0 = c := ⟨_, rfl⟩
          obtain ⟨d, ed⟩ : ∃ d, ws.getD t 0 = d := ⟨_, rfl⟩
          have ha := hW.lt (t + 14)
          have hc := hW.lt (t + 1)
          have ga := U32_get ws (t + 14) (by omega)
          have gb := U32_get ws (t + 9) (by omega)
          have gc := U32_get ws (t + 1) (by omega)
          have gd := U32_get ws t (by omega)
          have gt := U32_get ws (t + 16) (by omega)
          have hE : spS ws (t + 16) = (((ls1 a + b) % 4294967296 + ls0 c) % 4294967296 + d) % 4294967296 := by
            unfold spS
            rw [show t + 16 - 2 = t + 14 by omega, show t + 16 - 7 = t + 9 by omega, show t + 16 - 15 = t + 1 by omega, show t + 16 - 16 = t by omega, ea, eb, ec, ed]
          rw [hE] at hA
          rw [ea] at ha ga
          rw [eb] at gb
          rw [ec] at hc gc
          rw [ed] at gd
          obtain ⟨o, eo⟩ : ∃ o, ws.getD (t + 16) 0 = o := ⟨_, rfl⟩
          rw [eo] at gt
          have hA : Hid _ := hA
          clear ews ea eb ec ed eo hE hW
          have z1 : ((t + 16 : Nat) : Int) - 2 = ((t + 14 : Nat) : Int) := by omega
          have z2 : ((t + 16 : Nat) : Int) - 7 = ((t + 9 : Nat) : Int) := by omega
          have z3 : ((t + 16 : Nat) : Int) - 15 = ((t + 1 : Nat) : Int) := by omega
          have z4 : ((t + 16 : Nat) : Int) - 16 = (t : Int) := by omega
          have hnK := K4.n
          simp at hnK
          have hoK1 := K4.lo 1
          have K4_2 : Bk w.heap.size wr [(false, w.heap.size + 1, U32 (z64)), (true, b1_0, U32 (ws))] := ⟨.c lq Kq.out <| .o lv (K4.lo 1) Kv.out <| trivial, by simp; omega⟩
          go_upto_region 8 with fail
          refine rgP K4_2 HBq HBq.size [] [] [(0, 24, .int .i64 ((t + 16 : Nat) : Int)), (1, 25, .bool true)] [] [] [] ?_ ?_
          · refine oc g_mv ?_
            exact oc (g_bn (fun uZ => lss_i _ _ ((t + 16 : Nat) : Int) 64 _ uZ hl2)) on
          intro u5 HB5 sz5 K5
          simp only [fX, nK, nP, Wr.f, aK, pM] at K5
          simp only [setG, setN, List.set_cons_zero, List.set_cons_succ]
          go_upto_region 10 with fail
          refine rgD K5 HB5 HB5.size [.no, .all 23 (U32 (ws.set (t + 16) ((((ls1 a + b) % 4294967296 + ls0 c) % 4294967296 + d) % 4294967296)))] [] [(0, 28, .int .i64 ((t + 16 : Nat) : Int)), (1, 29, .int .i64 ((t + 16 : Nat) : Int)), (2, 30, .int .i64 ((t + 14 : Nat) : Int)), (3, 31, .pointer (some ⟨b1_0, t + 14, none⟩)), (4, 32, .int .u32 ((a : Nat) : Int)), (5, 33, .int .u32 ((ls1 a : Nat) : Int)), (6, 34, .int .i64 ((t + 16 : Nat) : Int)), (7, 35, .int .i64 ((t + 9 : Nat) : Int)), (8, 36, .pointer (some ⟨b1_0, t + 9, none⟩)), (9, 37, .int .u32 ((b : Nat) : Int)), (10, 38, .int .u32 (((ls1 a + b) % 4294967296 : Nat) : Int)), (11, 39, .int .i64 ((t + 16 : Nat) : Int)), (12, 40, .int .i64 ((t + 1 : Nat) : Int)), (13, 41, .pointer (some ⟨b1_0, t + 1, none⟩)), (14, 42, .int .u32 ((c : Nat) : Int)), (15, 43, .int .u32 ((ls0 c : Nat) : Int)), (16, 44, .int .u32 ((((ls1 a + b) % 4294967296 + ls0 c) % 4294967296 : Nat) : Int)), (17, 45, .int .i64 ((t + 16 : Nat) : Int)), (18, 46, .int .i64 ((t : Nat) : Int)), (19, 47, .pointer (some ⟨b1_0, t, none⟩)), (20, 48, .int .u32 ((d : Nat) : Int)), (21, 49, .int .u32 (((((ls1 a + b) % 4294967296 + ls0 c) % 4294967296 + d) % 4294967296 : Nat) : Int)), (22, 50, .pointer (some ⟨b1_0, t + 16, none⟩))] [(23, 4), (23, 9), (23, 14), (23, 20)] [] [] ?_ ?_
          · refine oc g_mv ?_
            refine oc g_mv ?_
            refine oc (g_bn (fun uZ => sub_i _ _ ((t + 16 : Nat) : Int) 2 ((t + 14 : Nat) : Int) uZ z1 (by omega) (by omega))) ?_
            refine oc (g_ix (fun uZ => x64 b1_0 (t + 14) uZ (by omega))) ?_
            refine oc (g_lw 1 (t + 14) l32 (ga)) ?_
            refine oc (g_cl ent_sha_small1 (fun uZ => cSmall1 a uZ ha)) ?_
            refine oc g_mv ?_
            refine oc (g_bn (fun uZ => sub_i _ _ ((t + 16 : Nat) : Int) 7 ((t + 9 : Nat) : Int) uZ z2 (by omega) (by omega))) ?_
            refine oc (g_ix (fun uZ => x64 b1_0 (t + 9) uZ (by omega))) ?_
            refine oc (g_lw 1 (t + 9) l32 (gb)) ?_
            refine oc (g_bn (fun uZ => add32 _ _ (ls1 a) b uZ)) ?_
            refine oc g_mv ?_
            refine oc (g_bn (fun uZ => sub_i _ _ ((t + 16 : Nat) : Int) 15 ((t + 1 : Nat) : Int) uZ z3 (by omega) (by omega))) ?_
            refine oc (g_ix (fun uZ => x64 b1_0 (t + 1) uZ (by omega))) ?_
            refine oc (g_lw 1 (t + 1) l32 (gc)) ?_
            refine oc (g_cl ent_sha_small0 (fun uZ => cSmall0 c uZ hc)) ?_
            refine oc (g_bn (fun uZ => add32 _ _ ((ls1 a + b) % 4294967296) (ls0 c) uZ)) ?_
            refine oc g_mv ?_
            refine oc (g_bn (fun uZ => sub_i _ _ ((t + 16 : Nat) : Int) 16 ((t : Nat) : Int) uZ z4 (by omega) (by omega))) ?_
            refine oc (g_ix (fun uZ => x64 b1_0 (t) uZ (by omega))) ?_
            refine oc (g_lw 1 (t) l32 (gd)) ?_
            refine oc (g_bn (fun uZ => add32 _ _ (((ls1 a + b) % 4294967296 + ls0 c) % 4294967296) d uZ)) ?_
            refine oc (g_ix (fun uZ => x64 b1_0 (t + 16) uZ (by omega))) ?_
            exact oc (g_sw 1 (t + 16) s32 (gt) (U32_set _ _ _)) on
          intro u6 HB6 sz6 K6
          simp only [fX, nK, nP, Wr.f, aK, pM] at K6
          simp only [setG, setN, List.set_cons_zero, List.set_cons_succ]
          clear K5 HB5
          go_upto_region 9 with fail
          refine rgP K6 HB6 HB6.size [] [] [(0, 26, .int .i64 ((t + 16 : Nat) : Int)), (1, 27, .int .i64 ((t + 1 + 16 : Nat) : Int)), (2, 6, .int .i64 ((t + 1 + 16 : Nat) : Int))] [(2, 0)] [(2, 6)] [] ?_ ?_
          · refine oc g_mv ?_
            refine oc (g_bn (fun uZ => add_i _ _ ((t + 16 : Nat) : Int) 1 ((t + 1 + 16 : Nat) : Int) uZ (by omega) (by omega) (by omega))) ?_
            exact oc g_as on
          intro u7 HB7 sz7 K7
          simp only [fX, nK, nP, Wr.f, aK, pM] at K7
          simp only [setG, setN, List.set_cons_zero, List.set_cons_succ]
          clear K6 HB6
          go_wp2
          refine ⟨⟨t + 1, by omega, rfl, HB7, (K7.cv 0), (by rw [hA.out]; exact (K7.cv 1)), (K7.lt 1), (K7.lt 0)⟩, ?_⟩
          simp [intOf] <;> omega
        · have hl2 : decide (((t + 16 : Nat) : Int) < 64) = false := by simp; omega
          have ht48 : t = 48 := by omega
          subst ht48
          have hWs : (sB 48).length = 64 := (hBW.out 48).len
          have hnK := K4.n
          simp at hnK
          have hoK1 := K4.lo 1
          have K4_2 : Bk w.heap.size wr [(true, w.heap.size + 1, U32 (z64)), (false, b1_0, U32 (sB 48))] := ⟨.o lq (K4.lo 0) Kq.out <| .c lv Kv.out <| trivial, by simp; omega⟩
          go_upto_region 8 with fail
          refine rgP K4_2 HBq HBq.size [] [] [(0, 24, .int .i64 ((48 + 16 : Nat) : Int)), (1, 25, .bool false)] [] [] [] ?_ ?_
          · refine oc g_mv ?_
            exact oc (g_bn (fun uZ => lss_i _ _ ((48 + 16 : Nat) : Int) 64 _ uZ hl2)) on
          intro u5 HB5 sz5 K5
          simp only [fX, nK, nP, Wr.f, aK, pM] at K5
          simp only [setG, setN, List.set_cons_zero, List.set_cons_succ]
          go_upto_region 11 with fail
          refine rgP K5 HB5 HB5.size [.all 1 (U32 (sB 48))] [] [(0, 51, .agg (U32 (sB 48)).toArray)] [] [] [true, false] ?_ ?_
          · refine oc (g_lR 1 0 (cs := U32 (sB 48)) (fun j v h => by rw [Nat.zero_add]; exact h) Tryd.underlying56 (by rw [U32_len, hWs]; exact info__64_uint32)) ?_
            exact oc (g_st 0 info__64_uint32 (h1 := U32_one _) (hm := by rw [U32_len, hWs]) (hl := by rw [U32_len, U32_len, hWs, show z64.length = 64 from rfl])) on
          intro u6 HB6 sz6 K6
          simp only [fX, nK, nP, Wr.f, aK, pM] at K6
          simp only [setG, setN, List.set_cons_zero, List.set_cons_succ]
          clear K5 HB5
          go_wp2
          refine bodyPost_ret (res_cell Tryd.results42 rfl (K6.cv 0) Tryd.underlying56 rfl (by rw [U32_len, hWs]; exact info__64_uint32)) rfl ⟨rfl, HB6⟩
theorem cSpread (bs : List Nat) (w : World) (hl : bs.length = 64) (hb : ∀ j, bs.getD j 0 < 256) : Calls Tryd.prog 42 #[.agg (U8 (bs)).toArray] w fun e w' => e = .returned (.agg (U32 (spread bs)).toArray) ∧ Below w.heap.size w w' :=
  cSpread_core bs (spA bs) (spB (spA bs 64)) w hl hb rfl (fun _ => rfl) (spA_W bs hb) rfl (fun _ => rfl) (spB_W (spA_W bs hb 64))
end Go.Proofs.YtbgdcgboomdimaaDoor
