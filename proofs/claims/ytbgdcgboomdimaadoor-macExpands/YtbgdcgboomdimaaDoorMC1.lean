/- HMAC: masks, and bytes that are the same. -/
import Derived.Test.YtbgdcgboomdimaaDoorMC0
import Derived.Test.YtbgdcgboomdimaaDoorLS3
namespace Go.Proofs.YtbgdcgboomdimaaDoor
open Go.RowKit
set_option linter.unusedVariables false
set_option linter.unusedSimpArgs false
theorem sl64 (b : Nat) (w : World) : (Instr.sliceAt 33 (.pointer (some ⟨b, 0, none⟩)) none none none).run Tryd.prog w = .ok (.slice (some ⟨b, 0, none⟩) 64 64) w := by
  simp [Instr.sliceAt, Instr.slice, go_sem, Tryd.underlying33]
theorem sl32 (b : Nat) (w : World) : (Instr.sliceAt 24 (.pointer (some ⟨b, 0, none⟩)) none none none).run Tryd.prog w = .ok (.slice (some ⟨b, 0, none⟩) 32 32) w := by
  simp [Instr.sliceAt, Instr.slice, go_sem, Tryd.underlying24]
theorem ent_mac_masked (vs : Array Value) (w : World) : (callFunc 61 vs).run Tryd.prog w = .ok (.enter 61 vs) w := by kernel_rfl
theorem ent_mac_Same (vs : Array Value) (w : World) : (callFunc 39 vs).run Tryd.prog w = .ok (.enter 39 vs) w := by kernel_rfl
theorem eql_it (p q : Operand) (x y : Int) (b : Bool) (w : World) (h : decide (x = y) = b) : (do eqGuard .eql 3 p q (.int .i64 x) (.int .i64 y); binOp .eql 3 (.int .i64 x) (.int .i64 y) : Sem Value).run Tryd.prog w = .ok (.bool b) w := by
  subst h; go_simp
  first | done | (by_cases e : x = y <;> simp [e])
set_option maxRecDepth 100000 in
set_option maxHeartbeats 4000000 in
theorem cMasked_core (ks : List Nat) (x : Nat) (mL : Nat → List Nat) (w : World) (hx : x < 256) (h0 : Hid (mL 0 = ks)) (hs : Hid (∀ i, mL (i + 1) = (mL i).set i ((mL i).getD i 0 ^^^ x))) (hB : Hid (∀ i, BB 64 (mL i))) :
    Calls Tryd.prog 61 #[.agg (U8 (ks)).toArray, .int .u8 ((x : Nat) : Int)] w fun e w' => ∃ v, e = .returned v ∧ PF w.heap.size 64 (U8 (mL 64)) w' v ∧ Below w.heap.size w w' := by
  go_enter Tryd.func61, Tryd.ntmps61
  go_upto_region 1 with fail
  generalize hC : (w.alloc (.cells (U8 (ks) : List Value).toArray 33)) = v0 at *
  have HB0 : Below w.heap.size w v0 := by rw [← hC]; exact balloc (bself w) _
  have K0 : Bk w.heap.size v0 [(true, w.heap.size, U8 (ks))] := by rw [← hC]; exact (Bk.nil _ w).ad
  clear hC
  refine rgP K0 HB0 HB0.size [] [] [(0, 6, (Go.Value.int Go.IntKind.i64 0))] [] [] [] ?_ ?_
  · exact oc g_mv on
  intro u1 HB1 sz1 K1
  simp only [fX, nK, nP, Wr.f, aK, pM] at K1
  simp only [setG, setN, List.set_cons_zero, List.set_cons_succ]
  clear K0 HB0
  go_wp2_with fail
  go_loopw [6] (fun s6 wr => ∃ (i : Nat), i ≤ 64 ∧ s6 = .int .i64 (i : Int) ∧ Below w.heap.size w wr ∧ Hid (CV wr w.heap.size (U8 (mL i))) ∧ w.heap.size < wr.heap.size) (fun s6 _ => 64 - (intOf s6).toNat)
  case atStart => exact ⟨0, by omega, rfl, HB1, (by rw [h0.out]; exact (K1.cv 0)), (K1.lt 0)⟩
  case round =>
    obtain ⟨i, hi, rfl, HBr, Kt, lt⟩ := hrel
    clear HB1
    by_cases hj : i < 64
    · have hl1 : decide ((i : Int) < 64) = true := by simp; omega
      have hS := hs.out i
      have hB64 := hB.out i
      have hlen := hB64.len
      have hlt := hB64.lt i
      obtain ⟨ts, ets⟩ : ∃ ts, mL i = ts := ⟨_, rfl⟩
      rw [ets] at hS hlen hlt Kt
      have gi := U8_get ts i (by omega)
      obtain ⟨y, ey⟩ : ∃ y, ts.getD i 0 = y := ⟨_, rfl⟩
      rw [ey] at gi hS hlt
      have hS : Hid _ := hS
      clear ets ey hB64
      have K1_1 : Bk w.heap.size wr [(true, w.heap.size, U8 (ts))] := ⟨.o lt (K1.lo 0) Kt.out <| trivial, by simp⟩
      go_upto_region 2 with fail
      refine rgP K1_1 HBr HBr.size [] [] [(0, 7, .bool true)] [] [] [] ?_ ?_
      · exact oc (g_bn (fun uZ => lss_i _ _ (i : Int) 64 _ uZ hl1)) on
      intro u2 HB2 sz2 K2
      simp only [fX, nK, nP, Wr.f, aK, pM] at K2
      simp only [setG, setN, List.set_cons_zero, List.set_cons_succ]
      go_upto_region 3 with fail
      refine rgP K2 HB2 HB2.size [] [] [(0, 8, .int .i64 (i : Int)), (1, 5, .int .i64 (i : Int))] [] [] [] ?_ ?_
      · refine oc g_mv ?_
        exact oc g_as on
      intro u3 HB3 sz3 K3
      simp only [fX, nK, nP, Wr.f, aK, pM] at K3
      simp only [setG, setN, List.set_cons_zero, List.set_cons_succ]
      clear K2 HB2
      go_upto_region 4 with fail
      refine rgP K3 HB3 HB3.size [.all 6 (U8 (ts.set i (y ^^^ x)))] [] [(0, 9, .int .i64 (i : Int)), (1, 10, .pointer (some ⟨w.heap.size, i, none⟩)), (2, 11, .int .u8 ((y : Nat) : Int)), (3, 12, .int .u8 ((x : Nat) : Int)), (4, 13, .int .u8 ((y ^^^ x : Nat) : Int)), (5, 14, .pointer (some ⟨w.heap.size, i, none⟩))] [(6, 2)] [] [] ?_ ?_
      · refine oc g_mv ?_
        refine oc (g_ix (fun uZ => x64b w.heap.size i uZ hj)) ?_
        refine oc (g_lw 0 (i) l8 (gi)) ?_
        refine oc g_mv ?_
        refine oc (g_bn (fun uZ => xor8 _ _ y x uZ hlt hx)) ?_
        refine oc (g_ix (fun uZ => x64b w.heap.size i uZ hj)) ?_
        exact oc (g_sw 0 (i) s8 (gi) (U8_set _ _ _)) on
      intro u4 HB4 sz4 K4
      simp only [fX, nK, nP, Wr.f, aK, pM] at K4
      simp only [setG, setN, List.set_cons_zero, List.set_cons_succ]
      clear K3 HB3
      go_upto_region 5 with fail
      refine rgP K4 HB4 HB4.size [] [] [(0, 15, .int .i64 ((i + 1 : Nat) : Int)), (1, 6, .int .i64 ((i + 1 : Nat) : Int))] [(1, 0)] [(1, 6)] [] ?_ ?_
      · refine oc (g_bn (fun uZ => add_i _ _ (i : Int) 1 ((i + 1 : Nat) : Int) uZ (by omega) (by omega) (by omega))) ?_
        exact oc g_mv on
      intro u5 HB5 sz5 K5
      simp only [fX, nK, nP, Wr.f, aK, pM] at K5
      simp only [setG, setN, List.set_cons_zero, List.set_cons_succ]
      clear K4 HB4
      go_wp2
      refine ⟨⟨i + 1, by omega, rfl, HB5, (by rw [hS.out]; exact (K5.cv 0)), (K5.lt 0)⟩, ?_⟩
      simp [intOf] <;> omega
    · have hl1 : decide ((i : Int) < 64) = false := by simp; omega
      have hin : i = 64 := by omega
      subst hin
      have K1_1 : Bk w.heap.size wr [(false, w.heap.size, U8 (mL 64))] := ⟨.c lt Kt.out <| trivial, by simp⟩
      go_upto_region 2 with fail
      refine rgP K1_1 HBr HBr.size [] [] [(0, 7, .bool false)] [] [] [] ?_ ?_
      · exact oc (g_bn (fun uZ => lss_i _ _ ((64 : Nat) : Int) 64 _ uZ hl1)) on
      intro u2 HB2 sz2 K2
      simp only [fX, nK, nP, Wr.f, aK, pM] at K2
      simp only [setG, setN, List.set_cons_zero, List.set_cons_succ]
      go_upto_region 6 with fail
      refine rgP K2 HB2 HB2.size [] [] [(0, 16, .slice (some ⟨w.heap.size, 0, none⟩) 64 64), (1, 4, .slice (some ⟨w.heap.size, 0, none⟩) 64 64)] [] [] [] ?_ ?_
      · refine oc (g_sl (fun uZ => sl64 w.heap.size uZ)) ?_
        exact oc g_as on
      intro u3 HB3 sz3 K3
      simp only [fX, nK, nP, Wr.f, aK, pM] at K3
      simp only [setG, setN, List.set_cons_zero, List.set_cons_succ]
      clear K2 HB2
      go_wp2
      refine bodyPost_ret (v := .slice (some ⟨w.heap.size, 0, none⟩) 64 64) (by simp [results, Tryd.results61, go_sem]) rfl ⟨_, rfl, ⟨w.heap.size, rfl, Nat.le_refl _, (K3.lt 0), (K3.cv 0)⟩, HB3⟩
theorem cMasked (ks : List Nat) (x : Nat) (w : World) (hk : BB 64 ks) (hx : x < 256) :
    Calls Tryd.prog 61 #[.agg (U8 (ks)).toArray, .int .u8 ((x : Nat) : Int)] w fun e w' => ∃ v, e = .returned v ∧ PF w.heap.size 64 (U8 (msk x ks)) w' v ∧ Below w.heap.size w w' := by
  have h := cMasked_core ks x (mkL x ks) w hx rfl (fun _ => rfl) (mkL_B hk hx)
  have e := mkL_all x ks
  rw [hk.len] at e
  rwa [e] at h
set_option maxRecDepth 100000 in
set_option maxHeartbeats 4000000 in
theorem cSame_core (n cap n2 cap2 m gb go gb2 go2 : Nat) (sl sl2 : Option Addr) (xs ys : List Nat) (df : Nat → Nat) (r : Bool) (w : World) (hn : n ≤ 100000) (hn2 : n2 ≤ 100000) (hm : min n n2 = m) (hmi : min (n : Int) (n2 : Int) = ((m : Nat) : Int)) (k3 : n = 0 ∨ sl = some ⟨gb, go, none⟩) (k3b : n2 = 0 ∨ sl2 = some ⟨gb2, go2, none⟩) (k4 : gb < w.heap.size) (k4b : gb2 < w.heap.size) (k5 : Hid (∀ j, j < n → w.cell? ⟨gb, go + j, none⟩ = some (.int .u8 ((xs.getD j 0 : Nat) : Int)))) (k5b : Hid (∀ j, j < n2 → w.cell? ⟨gb2, go2 + j, none⟩ = some (.int .u8 ((ys.getD j 0 : Nat) : Int)))) (hyl : Hid (∀ j, xs.getD j 0 < 256)) (hyl2 : Hid (∀ j, ys.getD j 0 < 256)) (h0 : Hid (df 0 = n ^^^ n2)) (hs : Hid (∀ i, i < m → df (i + 1) = df i ||| (xs.getD i 0 ^^^ ys.getD i 0))) (hdl : Hid (∀ i, df i < 4294967296)) (hr : decide (((df m : Nat) : Int) = 0) = r) :
    Calls Tryd.prog 39 #[(.slice sl n cap), (.slice sl2 n2 cap2)] w fun e w' => e = .returned (.bool r) ∧ Below w.heap.size w w' := by
  go_enter Tryd.func39, Tryd.ntmps39
  have HB0 : Below w.heap.size w w := Below.refl _ _
  have K0_1 := Bk.nil (w.heap.size) w
  go_upto_region 1 with fail
  refine rgP K0_1 HB0 HB0.size [] [] [(0, 7, (.slice sl n cap)), (1, 8, .int .i64 ((n : Nat) : Int)), (2, 9, (.slice sl2 n2 cap2)), (3, 10, .int .i64 ((n2 : Nat) : Int)), (4, 11, .int .i64 ((n ^^^ n2 : Nat) : Int)), (5, 5, .int .i64 ((n ^^^ n2 : Nat) : Int))] [] [] [] ?_ ?_
  · refine oc g_mv ?_
    refine oc (g_ln Tryd.underlying22) ?_
    refine oc g_mv ?_
    refine oc (g_ln Tryd.underlying22) ?_
    refine oc (g_bn (fun uZ => xori _ _ n n2 uZ (by omega) (by omega))) ?_
    exact oc g_as on
  intro u1 HB1 sz1 K1
  simp only [fX, nK, nP, Wr.f, aK, pM] at K1
  simp only [setG, setN, List.set_cons_zero, List.set_cons_succ]
  clear HB0
  go_upto_region 2 with fail
  refine rgP K1 HB1 HB1.size [] [] [(0, 12, (.slice sl n cap)), (1, 13, .int .i64 ((n : Nat) : Int)), (2, 14, (.slice sl2 n2 cap2)), (3, 15, .int .i64 ((n2 : Nat) : Int)), (4, 16, .int .i64 ((m : Nat) : Int)), (5, 17, (Go.Value.int Go.IntKind.i64 0))] [] [] [] ?_ ?_
  · refine oc g_mv ?_
    refine oc (g_ln Tryd.underlying22) ?_
    refine oc g_mv ?_
    refine oc (g_ln Tryd.underlying22) ?_
    refine oc (g_mn hmi) ?_
    exact oc g_mv on
  intro u2 HB2 sz2 K2
  simp only [fX, nK, nP, Wr.f, aK, pM] at K2
  simp only [setG, setN, List.set_cons_zero, List.set_cons_succ]
  clear K1 HB1
  go_wp2_with fail
  go_loopw [17, 5] (fun s17 s5 wr => ∃ (i : Nat), i ≤ m ∧ s17 = .int .i64 (i : Int) ∧ s5 = .int .i64 ((df i : Nat) : Int) ∧ Below w.heap.size w wr) (fun s17 _ _ => m - (intOf s17).toNat)
  case atStart => exact ⟨0, by omega, rfl, by rw [h0.out], HB2⟩
  case round =>
    obtain ⟨i, hi, rfl, rfl, HBr⟩ := hrel
    clear HB2
    by_cases hj : i < m
    · have hl1 : decide ((i : Int) < m) = true := by simp; omega
      obtain rfl := k3.resolve_left (by omega)
      obtain rfl := k3b.resolve_left (by omega)
      have hS := hs.out i hj
      have hd := hdl.out i
      have c1 := k5.out i (by omega)
      have c2 := k5b.out i (by omega)
      have y1 := hyl.out i
      have y2 := hyl2.out i
      obtain ⟨q, eq⟩ : ∃ q, df i = q := ⟨_, rfl⟩
      obtain ⟨y, ey⟩ : ∃ y, xs.getD i 0 = y := ⟨_, rfl⟩
      obtain ⟨y', ey'⟩ : ∃ y, ys.getD i 0 = y := ⟨_, rfl⟩
      rw [eq] at hd hS
      rw [ey] at c1 y1 hS
      rw [ey'] at c2 y2 hS
      have hxy := xor_lt8 y1 y2
      obtain ⟨z, ez⟩ : ∃ z, y ^^^ y' = z := ⟨_, rfl⟩
      rw [ez] at hS hxy
      try rw [eq]
      have hS : Hid _ := hS
      clear eq ey ey'
      have K2_2 := Bk.nil (w.heap.size) wr
      go_upto_region 3 with fail
      refine rgP K2_2 HBr HBr.size [] [] [(0, 18, .bool true)] [] [] [] ?_ ?_
      · exact oc (g_bn (fun uZ => lss_i _ _ (i : Int) (m : Int) _ uZ hl1)) on
      intro u3 HB3 sz3 K3
      simp only [fX, nK, nP, Wr.f, aK, pM] at K3
      simp only [setG, setN, List.set_cons_zero, List.set_cons_succ]
      go_upto_region 4 with fail
      refine rgP K3 HB3 HB3.size [] [] [(0, 19, .int .i64 (i : Int)), (1, 6, .int .i64 (i : Int))] [] [] [] ?_ ?_
      · refine oc g_mv ?_
        exact oc g_as on
      intro u4 HB4 sz4 K4
      simp only [fX, nK, nP, Wr.f, aK, pM] at K4
      simp only [setG, setN, List.set_cons_zero, List.set_cons_succ]
      clear K3 HB3
      go_upto_region 5 with fail
      refine rgD K4 HB4 HB4.size [] [] [(0, 20, .int .i64 ((q : Nat) : Int)), (1, 21, (.slice (some ⟨gb, go, none⟩) n cap)), (2, 22, .int .i64 (i : Int)), (3, 23, .pointer (some ⟨gb, go + i, none⟩)), (4, 24, .int .u8 ((y : Nat) : Int)), (5, 25, (.slice (some ⟨gb2, go2, none⟩) n2 cap2)), (6, 26, .int .i64 (i : Int)), (7, 27, .pointer (some ⟨gb2, go2 + i, none⟩)), (8, 28, .int .u8 ((y' : Nat) : Int)), (9, 29, .int .u8 ((z : Nat) : Int)), (10, 30, .int .i64 ((z : Nat) : Int)), (11, 31, .int .i64 ((q ||| z : Nat) : Int)), (12, 5, .int .i64 ((q ||| z : Nat) : Int))] [(12, 0)] [(12, 5)] [] ?_ ?_
      · refine oc g_mv ?_
        refine oc g_mv ?_
        refine oc g_mv ?_
        refine oc (g_ix (fun uZ => ixB gb go n cap i (by omega) uZ)) ?_
        refine oc (g_lg gb (go + i) l8 (c1) (k4)) ?_
        refine oc g_mv ?_
        refine oc g_mv ?_
        refine oc (g_ix (fun uZ => ixB gb2 go2 n2 cap2 i (by omega) uZ)) ?_
        refine oc (g_lg gb2 (go2 + i) l8 (c2) (k4b)) ?_
        refine oc (g_bn (fun uZ => (xor8 _ _ y y' uZ y1 y2).trans (by rw [ez]))) ?_
        refine oc (g_op (fun ev uZ he => cv8i uZ hxy rfl (he _ _ rfl))) ?_
        refine oc (g_bn (fun uZ => ori _ _ q z uZ hd (by omega))) ?_
        exact oc g_as on
      intro u5 HB5 sz5 K5
      simp only [fX, nK, nP, Wr.f, aK, pM] at K5
      simp only [setG, setN, List.set_cons_zero, List.set_cons_succ]
      clear K4 HB4
      go_upto_region 6 with fail
      refine rgP K5 HB5 HB5.size [] [] [(0, 32, .int .i64 ((i + 1 : Nat) : Int)), (1, 17, .int .i64 ((i + 1 : Nat) : Int))] [(1, 0)] [(1, 17)] [] ?_ ?_
      · refine oc (g_bn (fun uZ => add_i _ _ (i : Int) 1 ((i + 1 : Nat) : Int) uZ (by omega) (by omega) (by omega))) ?_
        exact oc g_mv on
      intro u6 HB6 sz6 K6
      simp only [fX, nK, nP, Wr.f, aK, pM] at K6
      simp only [setG, setN, List.set_cons_zero, List.set_cons_succ]
      clear K5 HB5
      go_wp2
      refine ⟨⟨i + 1, by omega, rfl, by rw [hS.out], HB6⟩, ?_⟩
      simp [intOf] <;> omega
    · have hl1 : decide ((i : Int) < m) = false := by simp; omega
      have hin : i = m := by omega
      subst hin
      have K2_2 := Bk.nil (w.heap.size) wr
      go_upto_region 3 with fail
      refine rgP K2_2 HBr HBr.size [] [] [(0, 18, .bool false)] [] [] [] ?_ ?_
      · exact oc (g_bn (fun uZ => lss_i _ _ (i : Int) (i : Int) _ uZ hl1)) on
      intro u3 HB3 sz3 K3
      simp only [fX, nK, nP, Wr.f, aK, pM] at K3
      simp only [setG, setN, List.set_cons_zero, List.set_cons_succ]
      go_upto_region 7 with fail
      refine rgP K3 HB3 HB3.size [] [] [(0, 33, .int .i64 ((df i : Nat) : Int)), (1, 34, .bool r), (2, 4, .bool r)] [] [] [] ?_ ?_
      · refine oc g_mv ?_
        refine oc (g_bn (fun uZ => eql_it _ _ ((df i : Nat) : Int) 0 r uZ hr)) ?_
        exact oc g_as on
      intro u4 HB4 sz4 K4
      simp only [fX, nK, nP, Wr.f, aK, pM] at K4
      simp only [setG, setN, List.set_cons_zero, List.set_cons_succ]
      clear K3 HB3
      go_wp2
      refine bodyPost_ret (v := .bool r) (by simp [results, Tryd.results39, go_sem, ]) rfl ⟨rfl, HB4⟩
theorem cSame (xs ys : List Nat) (v v2 : Value) (w : World) (h : IN w w.heap.size v xs) (h' : IN w w.heap.size v2 ys) (hx : ∀ x ∈ xs, x < 256) (hy : ∀ x ∈ ys, x < 256) (hl : xs.length ≤ 100000) (hl2 : ys.length ≤ 100000) :
    Calls Tryd.prog 39 #[v, v2] w fun e w' => e = .returned (.bool (decide (xs = ys))) ∧ Below w.heap.size w w' := by
  obtain ⟨sl, cap, gb, go, rfl, a1, a2, a3, a4⟩ := h
  obtain ⟨sl2, cap2, gb2, go2, rfl, b1, b2, b3, b4⟩ := h'
  refine cSame_core xs.length cap ys.length cap2 (min xs.length ys.length) gb go gb2 go2 sl sl2 xs ys (dif xs ys) _ w hl hl2 rfl (by omega) a2 b2 a3 b3 a4 b4 (by_getD hx) (by_getD hy) rfl (fun _ _ => rfl) (dif_lt hx hy (by omega) (by omega)) ?_
  rw [decide_eq_decide, ← dif_same xs ys]
  exact Int.natCast_eq_zero
end Go.Proofs.YtbgdcgboomdimaaDoor
