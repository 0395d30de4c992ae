/- SHA-256: the chapter's examples, and what the laws draw. -/

import Derived.Test.YtbgdcgboomdimaaDoorSH9
import Derived.Lib.SlBytesConst
namespace Go.Proofs.YtbgdcgboomdimaaDoor
open Go.RowKit
set_option linter.unusedVariables false
set_option linter.unusedSimpArgs false
set_option maxRecDepth 100000 in
set_option maxHeartbeats 4000000 in
theorem among_any (x n : Int) (h1 : 1 ≤ n) (h2 : n ≤ 1000) (hx : -9223372036854775808 ≤ x ∧ x < 9223372036854775808) : ∃ k : Nat, (k : Int) < n ∧ ∀ w, Calls Tryd.prog 24 #[.int .i64 x, .int .i64 n] w fun e w' => e = .returned (.int .i64 (k : Int)) ∧ Below w.heap.size w w' := by
  have e1 : IntKind.u64.wrap n = n := by rw [IntKind.wrap_u64]; omega
  obtain ⟨y, ey⟩ : ∃ y, IntKind.u64.wrap x = y := ⟨_, rfl⟩
  have y0 : 0 ≤ y := by rw [← ey, IntKind.wrap_u64]; omega
  have e2 : y.tmod n = y % n := Int.tmod_eq_emod_of_nonneg y0
  have m0 := Int.emod_nonneg y (show n ≠ 0 by omega)
  have m1 := Int.emod_lt_of_pos y (show 0 < n by omega)
  have e3 : IntKind.i64.wrap (y % n) = y % n := by simp [IntKind.wrap, IntKind.signed, IntKind.bits]; omega
  have e4 : IntKind.u64.wrap (y % n) = y % n := by rw [IntKind.wrap_u64]; omega
  refine ⟨(y % n).toNat, by omega, fun w => ?_⟩
  rw [show ((y % n).toNat : Int) = y % n by omega]
  generalize y % n = z at *
  have hn1 : ¬ n < 1 := by omega
  have hn0 : n ≠ 0 := by omega
  go_enter Tryd.func24, Tryd.ntmps24
  go_wp2
  go_ret
  exact ⟨rfl, Below.refl _ _⟩
theorem ent_seneschalbase_Among (vs : Array Value) (w : World) : (callFunc 24 vs).run Tryd.prog w = .ok (.enter 24 vs) w := by kernel_rfl
theorem ent_seneschallaw04_works (vs : Array Value) (w : World) : (callFunc 21 vs).run Tryd.prog w = .ok (.enter 21 vs) w := by kernel_rfl
theorem ent_seneschallaw04_short (vs : Array Value) (w : World) : (callFunc 12 vs).run Tryd.prog w = .ok (.enter 12 vs) w := by kernel_rfl
theorem not_t (w : World) : (Op.unary .not (.bool true)).run Tryd.prog w = .ok (.bool false) w := by go_simp
theorem dig_abc : (dig [97, 98, 99]).take 4 = [186, 120, 22, 191] := by decide +kernel
theorem pfx_nil : pfx [] 16 = 58288 := by decide +kernel
theorem eql_8 (p q : Operand) (T : TypeId) (x y : Int) (b : Bool) (w : World) (h : (x == y) = b) : (do eqGuard .eql T p q (.int .u8 x) (.int .u8 y); binOp .eql T (.int .u8 x) (.int .u8 y) : Sem Value).run Tryd.prog w = .ok (.bool b) w := by
  subst h; go_simp
theorem slHB (sl : Option Addr) (n cap k : Nat) (h : k ≤ n) (hc : n ≤ cap) (hn : sl = none → cap = 0) (w : World) : (Instr.sliceAt 22 (.slice sl n cap) none (some (.int .i64 k)) none).run Tryd.prog w = .ok (.slice sl k cap) w := by
  cases sl with
  | none =>
    have e0 := hn rfl
    have e1 : n = 0 := by omega
    have e2 : k = 0 := by omega
    subst e0 e1 e2
    show (Instr.sliceAt 22 (.slice none 0 0) none (some (.int .i64 0)) none).run Tryd.prog w = _
    kernel_rfl
  | some a =>
    have h3 : k ≤ cap := by omega
    simp [Instr.sliceAt, Instr.slice, go_sem, Tryd.underlying22, h3]
theorem PS_in {lo : Nat} {xs : List Nat} {u : World} {y : Value} (h : PS lo xs.length (U8 xs) u y) : IN u u.heap.size y xs := by
  obtain ⟨b, cap, rfl, _, h2, h3, h4⟩ := h
  exact ⟨_, _, b, 0, rfl, h3, .inr rfl, h2, CV.sb h4⟩
theorem IN_nil (u : World) (h : 0 < u.heap.size) : IN u u.heap.size (.slice none 0 0) [] := ⟨none, 0, 0, 0, rfl, Nat.le_refl _, .inl rfl, h, fun j hj => by simp at hj⟩
theorem PS_mk (w : World) : PS w.heap.size 3 (U8 [97, 98, 99]) (w.alloc (.cells #[.int .u8 97, .int .u8 98, .int .u8 99] 5 (3, 4))) (.slice (some ⟨w.heap.size, 0, none⟩) 3 3) := by
  refine ⟨w.heap.size, 3, rfl, Nat.le_refl _, by simp, Nat.le_refl _, fun j v hj => ?_⟩
  have hb : (w.alloc (.cells #[.int .u8 97, .int .u8 98, .int .u8 99] 5 (3, 4))).heap[w.heap.size]? = some (.cells #[.int .u8 97, .int .u8 98, .int .u8 99] 5 (3, 4)) := by
    show (w.heap.push _)[w.heap.size]? = _
    simp
  have hj3 : j < 3 := (List.getElem?_eq_some_iff.1 hj).1
  constructor
  · unfold World.cell?
    rw [hb]
    rcases (by omega : j = 0 ∨ j = 1 ∨ j = 2) with rfl | rfl | rfl <;> (cases hj; rfl)
  · unfold World.frozen?
    rw [hb]
    rcases (by omega : j = 0 ∨ j = 1 ∨ j = 2) with rfl | rfl | rfl <;> rfl
theorem sc32 (ds : List Nat) (hd : ds.length = 32) (u : World) : (storeCells ⟨u.heap.size, 0, none⟩ (U8 ds)).run Tryd.prog (u.alloc (.cells #[.int .u8 0, .int .u8 0, .int .u8 0, .int .u8 0, .int .u8 0, .int .u8 0, .int .u8 0, .int .u8 0, .int .u8 0, .int .u8 0, .int .u8 0, .int .u8 0, .int .u8 0, .int .u8 0, .int .u8 0, .int .u8 0, .int .u8 0, .int .u8 0, .int .u8 0, .int .u8 0, .int .u8 0, .int .u8 0, .int .u8 0, .int .u8 0, .int .u8 0, .int .u8 0, .int .u8 0, .int .u8 0, .int .u8 0, .int .u8 0, .int .u8 0, .int .u8 0] 24)) = .ok () ((u.alloc (.cells #[.int .u8 0, .int .u8 0, .int .u8 0, .int .u8 0, .int .u8 0, .int .u8 0, .int .u8 0, .int .u8 0, .int .u8 0, .int .u8 0, .int .u8 0, .int .u8 0, .int .u8 0, .int .u8 0, .int .u8 0, .int .u8 0, .int .u8 0, .int .u8 0, .int .u8 0, .int .u8 0, .int .u8 0, .int .u8 0, .int .u8 0, .int .u8 0, .int .u8 0, .int .u8 0, .int .u8 0, .int .u8 0, .int .u8 0, .int .u8 0, .int .u8 0, .int .u8 0] 24)).setCells u.heap.size 0 (U8 ds)) := by
  have hc : CV (u.alloc (.cells #[.int .u8 0, .int .u8 0, .int .u8 0, .int .u8 0, .int .u8 0, .int .u8 0, .int .u8 0, .int .u8 0, .int .u8 0, .int .u8 0, .int .u8 0, .int .u8 0, .int .u8 0, .int .u8 0, .int .u8 0, .int .u8 0, .int .u8 0, .int .u8 0, .int .u8 0, .int .u8 0, .int .u8 0, .int .u8 0, .int .u8 0, .int .u8 0, .int .u8 0, .int .u8 0, .int .u8 0, .int .u8 0, .int .u8 0, .int .u8 0, .int .u8 0, .int .u8 0] 24)) u.heap.size (U8 z32) := CV.new u (U8 z32) 24
  have hl : (U8 z32).length = 32 := by rw [U8_len]; rfl
  have hl2 : (U8 ds).length = 32 := by rw [U8_len]; exact hd
  have h := run_storeCells_cells (P := Tryd.prog) u.heap.size 0 (U8 ds) 0 (u.alloc (.cells #[.int .u8 0, .int .u8 0, .int .u8 0, .int .u8 0, .int .u8 0, .int .u8 0, .int .u8 0, .int .u8 0, .int .u8 0, .int .u8 0, .int .u8 0, .int .u8 0, .int .u8 0, .int .u8 0, .int .u8 0, .int .u8 0, .int .u8 0, .int .u8 0, .int .u8 0, .int .u8 0, .int .u8 0, .int .u8 0, .int .u8 0, .int .u8 0, .int .u8 0, .int .u8 0, .int .u8 0, .int .u8 0, .int .u8 0, .int .u8 0, .int .u8 0, .int .u8 0] 24)) (fun j hj => by
    rw [Nat.zero_add, (hc j _ (List.getElem?_eq_getElem (by omega))).1]; rfl) (fun j hj => by
    rw [Nat.zero_add]; exact (hc j _ (List.getElem?_eq_getElem (by omega))).2) U8_mem
  exact h
theorem bk32 (ds : List Nat) (hd : ds.length = 32) (m : Nat) (u : World) (hm : m ≤ u.heap.size) : Bk m ((u.alloc (.cells #[.int .u8 0, .int .u8 0, .int .u8 0, .int .u8 0, .int .u8 0, .int .u8 0, .int .u8 0, .int .u8 0, .int .u8 0, .int .u8 0, .int .u8 0, .int .u8 0, .int .u8 0, .int .u8 0, .int .u8 0, .int .u8 0, .int .u8 0, .int .u8 0, .int .u8 0, .int .u8 0, .int .u8 0, .int .u8 0, .int .u8 0, .int .u8 0, .int .u8 0, .int .u8 0, .int .u8 0, .int .u8 0, .int .u8 0, .int .u8 0, .int .u8 0, .int .u8 0] 24)).setCells u.heap.size 0 (U8 ds)) [(true, u.heap.size, U8 (ds))] := by
  have hc : CV (u.alloc (.cells #[.int .u8 0, .int .u8 0, .int .u8 0, .int .u8 0, .int .u8 0, .int .u8 0, .int .u8 0, .int .u8 0, .int .u8 0, .int .u8 0, .int .u8 0, .int .u8 0, .int .u8 0, .int .u8 0, .int .u8 0, .int .u8 0, .int .u8 0, .int .u8 0, .int .u8 0, .int .u8 0, .int .u8 0, .int .u8 0, .int .u8 0, .int .u8 0, .int .u8 0, .int .u8 0, .int .u8 0, .int .u8 0, .int .u8 0, .int .u8 0, .int .u8 0, .int .u8 0] 24)) u.heap.size (U8 z32) := CV.new u (U8 z32) 24
  refine ⟨⟨⟨by rw [size_setCells]; simp, fun _ => hm, hc.put ?_⟩, trivial⟩, by simp⟩
  rw [U8_len, U8_len, hd]; rfl
set_option maxRecDepth 100000 in
set_option maxHeartbeats 4000000 in
theorem works4_core (ds : List Nat) (w : World) (hds : ds.length = 32) (d0 : (U8 (ds))[0]? = some (.int .u8 ((186 : Nat) : Int))) (d1 : (U8 (ds))[1]? = some (.int .u8 ((120 : Nat) : Int))) (d2 : (U8 (ds))[2]? = some (.int .u8 ((22 : Nat) : Int))) (d3 : (U8 (ds))[3]? = some (.int .u8 ((191 : Nat) : Int)))
    (hSu : Hid (∀ (u : World) (y : Value), Below w.heap.size w u → PS w.heap.size 3 (U8 [97, 98, 99]) u y → Calls Tryd.prog 14 #[y] u fun e u' => e = .returned (.agg (U8 (ds)).toArray) ∧ Below u.heap.size u u'))
    (hPr : Hid (∀ (u : World), Below w.heap.size w u → Calls Tryd.prog 19 #[.slice none 0 0, .int .i64 16] u fun e u' => e = .returned (.int .u64 ((58288 : Nat) : Int)) ∧ Below u.heap.size u u')) :
    Calls Tryd.prog 21 #[] w fun e w' => e = .returned (.bool true) ∧ Below w.heap.size w w' := by
  have kc := fun (w : World) (C : Array Value) (n c : Nat) => Lib.run_convert_bytes_const (P := Tryd.prog) w 22 5 C n c Tryd.underlying22 Tryd.underlying5
  have hst := sc32 ds hds
  have hU : (U8 ds).length = 32 := by rw [U8_len]; exact hds
  go_enter Tryd.func21, Tryd.ntmps21
  go_upto_region 2 with (go_at_call 14; refine (hSu.out _ _ (balloc (bself w) _) (PS_mk w)).mono ?_; rintro e u1 ⟨rfl, hB1⟩)
  have hBA : Below w.heap.size w u1 := bstep (balloc (bself w) _) hB1
  have K0 := bk32 ds hds w.heap.size u1 hBA.size
  have HB0 : Below w.heap.size w ((u1.alloc (.cells #[.int .u8 0, .int .u8 0, .int .u8 0, .int .u8 0, .int .u8 0, .int .u8 0, .int .u8 0, .int .u8 0, .int .u8 0, .int .u8 0, .int .u8 0, .int .u8 0, .int .u8 0, .int .u8 0, .int .u8 0, .int .u8 0, .int .u8 0, .int .u8 0, .int .u8 0, .int .u8 0, .int .u8 0, .int .u8 0, .int .u8 0, .int .u8 0, .int .u8 0, .int .u8 0, .int .u8 0, .int .u8 0, .int .u8 0, .int .u8 0, .int .u8 0, .int .u8 0] 24)).setCells u1.heap.size 0 (U8 ds)) := below_setCells hBA.size (U8 ds) 0 _ (balloc hBA _)
  generalize hC : ((u1.alloc (.cells #[.int .u8 0, .int .u8 0, .int .u8 0, .int .u8 0, .int .u8 0, .int .u8 0, .int .u8 0, .int .u8 0, .int .u8 0, .int .u8 0, .int .u8 0, .int .u8 0, .int .u8 0, .int .u8 0, .int .u8 0, .int .u8 0, .int .u8 0, .int .u8 0, .int .u8 0, .int .u8 0, .int .u8 0, .int .u8 0, .int .u8 0, .int .u8 0, .int .u8 0, .int .u8 0, .int .u8 0, .int .u8 0, .int .u8 0, .int .u8 0, .int .u8 0, .int .u8 0] 24)).setCells u1.heap.size 0 (U8 ds)) = v0 at *
  clear hst hU kc hB1
  have K0_1 : Bk w.heap.size v0 [(false, u1.heap.size, U8 (ds))] := ⟨.c (K0.lt 0) (K0.cv 0) <| trivial, by simp⟩
  go_upto_region 2 with fail
  refine rgP K0_1 HB0 HB0.size [] [] [(0, 5, .pointer (some ⟨u1.heap.size, 0, none⟩)), (1, 6, .int .u8 ((186 : Nat) : Int)), (2, 7, .bool true), (3, 8, .bool true), (4, 9, .pointer (some ⟨u1.heap.size, 1, none⟩)), (5, 10, .int .u8 ((120 : Nat) : Int)), (6, 11, .bool true), (7, 12, .bool true), (8, 13, .bool true), (9, 14, .pointer (some ⟨u1.heap.size, 2, none⟩)), (10, 15, .int .u8 ((22 : Nat) : Int)), (11, 16, .bool true), (12, 17, .bool true), (13, 18, .bool true), (14, 19, .pointer (some ⟨u1.heap.size, 3, none⟩)), (15, 20, .int .u8 ((191 : Nat) : Int)), (16, 21, .bool true), (17, 22, .bool true), (18, 23, .bool true), (19, 24, .int .u64 ((58288 : Nat) : Int)), (20, 25, .bool true), (21, 26, .bool true), (22, 0, .bool true)] [] [] [false] ?_ ?_
  · refine oc (g_ix (fun uZ => x32 u1.heap.size 0 uZ (by decide))) ?_
    refine oc (g_lw 0 (0) l8 (d0)) ?_
    refine oc (g_bn (fun uZ => eql_8 _ _ _ 186 186 true uZ rfl)) ?_
    refine oc g_mv ?_
    refine oc (g_ix (fun uZ => x32 u1.heap.size 1 uZ (by decide))) ?_
    refine oc (g_lw 0 (1) l8 (d1)) ?_
    refine oc (g_bn (fun uZ => eql_8 _ _ _ 120 120 true uZ rfl)) ?_
    refine oc g_pk ?_
    refine oc g_mv ?_
    refine oc (g_ix (fun uZ => x32 u1.heap.size 2 uZ (by decide))) ?_
    refine oc (g_lw 0 (2) l8 (d2)) ?_
    refine oc (g_bn (fun uZ => eql_8 _ _ _ 22 22 true uZ rfl)) ?_
    refine oc g_pk ?_
    refine oc g_mv ?_
    refine oc (g_ix (fun uZ => x32 u1.heap.size 3 uZ (by decide))) ?_
    refine oc (g_lw 0 (3) l8 (d3)) ?_
    refine oc (g_bn (fun uZ => eql_8 _ _ _ 191 191 true uZ rfl)) ?_
    refine oc g_pk ?_
    refine oc g_mv ?_
    refine oc (g_cb ent_sha_Prefix (fun uZ bZ => hPr.out uZ bZ)) ?_
    refine oc (g_bn (fun uZ => eql_u _ _ _ 58288 58288 true uZ rfl)) ?_
    refine oc g_pk ?_
    exact oc g_as on
  intro u1 HB1 sz1 K1
  simp only [fX, nK, nP, Wr.f, aK, pM] at K1
  simp only [setG, setN, List.set_cons_zero, List.set_cons_succ]
  clear HB0
  go_wp2
  refine bodyPost_ret (v := .bool true) (by simp [results, Tryd.results21, go_sem, ]) rfl ⟨rfl, HB1⟩
theorem works4 (w : World) (hV : GV w) : Calls Tryd.prog 21 #[] w fun e w' => e = .returned (.bool true) ∧ Below w.heap.size w w' := by
  have hl := (dig_B [97, 98, 99]).len
  have h4 : ∀ j, j < 4 → (U8 (dig [97, 98, 99]))[j]? = some (.int .u8 ((([186, 120, 22, 191] : List Nat).getD j 0 : Nat) : Int)) := fun j hj => by
    rw [U8_get _ _ (by omega), ← dig_abc, List.getD_eq_getElem?_getD, List.getD_eq_getElem?_getD, List.getElem?_take_of_lt hj]
  refine works4_core (dig [97, 98, 99]) w hl (h4 0 (by decide)) (h4 1 (by decide)) (h4 2 (by decide)) (h4 3 (by decide)) (fun u y hB hy => ?_) (fun u hB => ?_)
  · exact cSum [97, 98, 99] y u (hV.below hB hV.sz) (PS_in hy) (by decide) (by decide)
  · have h := cPrefix [] 16 (.slice none 0 0) u (by decide) (by decide) (hV.below hB hV.sz) (IN_nil u (by have := (hV.below hB hV.sz).sz; omega)) (by simp) (by simp)
    rw [pfx_nil] at h
    exact h
set_option maxRecDepth 100000 in
set_option maxHeartbeats 4000000 in
theorem cShort (sl : Option Addr) (n cap m : Nat) (w : World) (hmin : min (n : Int) 300 = (m : Int)) (hc : n ≤ cap) (hsn : sl = none → cap = 0) :
    Calls Tryd.prog 12 #[.slice sl n cap] w fun e w' => e = .returned (.slice sl m cap) ∧ Below w.heap.size w w' := by
  have hm : m ≤ n := by omega
  go_enter Tryd.func12, Tryd.ntmps12
  have HB0 : Below w.heap.size w w := Below.refl _ _
  have K0_1 := Bk.nil (w.heap.size) w
  go_upto_region 1 with fail
  refine rgP K0_1 HB0 HB0.size [] [] [(0, 3, (.slice sl n cap)), (1, 4, (.slice sl n cap)), (2, 5, .int .i64 (n : Int)), (3, 6, .int .i64 (m : Int)), (4, 7, (.slice sl m cap)), (5, 2, (.slice sl m cap))] [] [] [] ?_ ?_
  · refine oc g_mv ?_
    refine oc g_mv ?_
    refine oc (g_ln Tryd.underlying22) ?_
    refine oc (g_mn hmin) ?_
    refine oc (g_sl (fun uZ => slHB sl n cap m hm hc hsn uZ)) ?_
    exact oc g_as on
  intro u1 HB1 sz1 K1
  simp only [fX, nK, nP, Wr.f, aK, pM] at K1
  simp only [setG, setN, List.set_cons_zero, List.set_cons_succ]
  clear HB0
  go_wp2
  refine bodyPost_ret (v := .slice sl m cap) (by simp [results, Tryd.results12, go_sem, ]) rfl ⟨rfl, HB1⟩
end Go.Proofs.YtbgdcgboomdimaaDoor
