/- SHA-256: the digest, and its beginning. -/

import Derived.Test.YtbgdcgboomdimaaDoorSO
namespace Go.Proofs.YtbgdcgboomdimaaDoor
open Go.RowKit
set_option linter.unusedVariables false
set_option linter.unusedSimpArgs false
abbrev M64 : Nat := 18446744073709551616
theorem wraps_u64 (n : Int) (h0 : 0 ≤ n) (h1 : n < 2 ^ 64) : IntKind.u64.wrap n = n := by simp [IntKind.wrap, IntKind.signed, IntKind.bits]; omega
theorem bit_or64 (a b : Nat) (ha : a < M64) (hb : b < M64) : bits .or .u64 a b = ((a ||| b : Nat) : Int) := (bits_nat .u64 64 (by decide) wraps_u64 a b ha hb).2
theorem or64 (p q : Operand) (a b : Nat) (w : World) (ha : a < M64) (hb : b < M64) : (do eqGuard .or 27 p q (.int .u64 a) (.int .u64 b); binOp .or 27 (.int .u64 a) (.int .u64 b) : Sem Value).run Tryd.prog w = .ok (.int .u64 ((a ||| b : Nat) : Int)) w := by
  rw [← bit_or64 a b ha hb]; go_simp
theorem shl64 (p q : Operand) (a n : Nat) (w : World) (hn : n ≤ 64) : (do eqGuard .shl 27 p q (.int .u64 a) (.int .u64 n); binOp .shl 27 (.int .u64 a) (.int .u64 n) : Sem Value).run Tryd.prog w = .ok (.int .u64 (((a <<< n) % 18446744073709551616 : Nat) : Int)) w := by
  have e : IntKind.u64.wrap ((a : Int) * 2 ^ n) = (a : Int) <<< n % 18446744073709551616 := by
    rw [Int.shiftLeft_eq]; simp [IntKind.wrap, IntKind.signed, IntKind.bits]
  have e2 : min n 64 = n := by omega
  go_simp
  first | done | exact e
theorem cv864 {o : Oper} {ev : Operand → Value} {x : Operand} {n : Nat} (u : World) (h1 : n < 256) (ho : o.op = .convert 5 27 x) (hx : ev x = .int .u8 (n : Int)) : (execOp ev o).run Tryd.prog u = .ok (.value (.int .u64 (n : Int))) u := by
  have e1 : IntKind.u64.wrap (n : Int) = (n : Int) := wraps_u64 _ (by omega) (by omega)
  unfold execOp; rw [ho]; simp only [hx]; go_simp
theorem slP8 (b : Nat) (w : World) : (Instr.sliceAt 24 (.pointer (some ⟨b, 0, none⟩)) none (some (.int .i64 8)) none).run Tryd.prog w = .ok (.slice (some ⟨b, 0, none⟩) 8 32) w := by
  simp [Instr.sliceAt, Instr.slice, go_sem, Tryd.underlying24]
section
variable {R : Rg} {P : Program} {ops : Array Oper} {Q : Exit → Act → World → Prop} {f : Nat → Bool} {t : Nat → Value} {u : World} {a : Act} {i : Nat} {o : Oper}
/-- The greater of two. -/
theorem g_mx {x y : Operand} {tys : Array TypeId} {m n r : Int} (hr : max m n = r) (hop : o.op = .call { callee := .builtin .max, args := [x, y].toArray, argTypes := tys } := by rfl) (hx : evR R i o x = some (.int .i64 m) := by rfl) (hy : evR R i o y = some (.int .i64 n) := by rfl) (hv : some (.int .i64 r) = pickV i R.G := by rfl) (hc : R.chk ops i o = true := by rfl) : OG R P ops Q i o :=
  g_pure hv hc fun f t u a X K hK => by
    have h1 := X.ev hx
    have h2 := X.ev hy
    refine wp_val (v := .int .i64 r) (w' := u) ?_ hK
    unfold execOp
    simp only [hop, resolve, invoke, builtin, Sem.run_bind, Sem.run_pure, Result.andThen_ok, List.map_toArray, List.map_cons, List.map_nil, h1, h2]
    subst hr
    simp [go_sem]
end
/-- The first bytes as a number. -/
def pre8 (ds : List Nat) : Nat → Nat
  | 0 => 0
  | i + 1 => (pre8 ds i <<< 8) % 18446744073709551616 ||| ds.getD i 0
theorem pre8_lt {ds : List Nat} (h : ∀ j, ds.getD j 0 < 256) : ∀ i, pre8 ds i < M64
  | 0 => by show 0 < M64; decide
  | i + 1 => Nat.or_lt_two_pow (n := 64) (Nat.mod_lt _ (by decide)) (by have := h i; omega)
set_option maxRecDepth 100000 in
set_option maxHeartbeats 4000000 in
theorem cSum_core (n cap : Nat) (sl : Option Addr) (ds : List Nat) (w : World) (hds : ds.length = 32) (hPa : Hid (∀ (u : World) (y : Value), Below w.heap.size w u → PS w.heap.size 1 [(.slice sl n cap)] u y → Calls Tryd.prog 25 #[y] u fun e u' => e = .returned (.agg (U8 (ds)).toArray) ∧ Below u.heap.size u u')) :
    Calls Tryd.prog 14 #[(.slice sl n cap)] w fun e w' => e = .returned (.agg (U8 (ds)).toArray) ∧ Below w.heap.size w w' := by
  go_enter Tryd.func14, Tryd.ntmps14
  go_upto_region 1 with fail
  generalize hC : (w.alloc (.cells (Z32b : List Value).toArray 24)) = v0 at *
  have HB0 : Below w.heap.size w v0 := by rw [← hC]; exact balloc (bself w) _
  have K0 : Bk w.heap.size v0 [(true, w.heap.size, U8 (z32))] := by rw [← hC]; exact (Bk.nil _ w).ad
  clear hC
  refine rgF K0 HB0 HB0.size [.all 3 (U8 (ds))] [] [(0, 3, (.slice sl n cap)), (2, 5, .agg (U8 (ds)).toArray)] [] [] [⟨1, 4, some 2, PS w.heap.size 1 [(.slice sl n cap)]⟩] [] (.cons (fun _ _ _ h1 h2 => h2.stab h1) <| Stab.nil) ?_ ?_
  · refine oc g_mv ?_
    refine oc (g_bR 0 (PS w.heap.size 1 [(.slice sl n cap)]) [0] [(.slice sl n cap)] [(.slice sl n cap)] (bsSl _ _ _) (fun u hu => PS.new 1 _ _ u (Nat.le_trans HB0.size hu))) ?_
    refine oc (g_c1 0 (PS w.heap.size 1 [(.slice sl n cap)]) ent_sha_Parts (fun uZ y bZ hy => hPa.out uZ y bZ hy)) ?_
    exact oc (g_st 0 info__32_uint8 (h1 := U8_one _) (hm := by rw [U8_len, hds]) (hl := by rw [U8_len, U8_len, hds, show z32.length = 32 from rfl])) on
  intro u1 v1_1 hv1_1 HB1 sz1 K1
  simp only [fX, nK, nP, Wr.f, aK, pM] at K1
  simp only [setG, setN, setE, List.set_cons_zero, List.set_cons_succ]
  clear K0 HB0
  go_wp2
  refine bodyPost_ret (res_cell Tryd.results14 rfl (K1.cv 0) Tryd.underlying24 rfl (by rw [U8_len, hds]; exact info__32_uint8)) rfl ⟨rfl, HB1⟩
theorem cSum (xs : List Nat) (v : Value) (w : World) (hV : GV w) (hin : IN w w.heap.size v xs) (hx : ∀ x ∈ xs, x < 256) (hl : xs.length ≤ 1000) :
    Calls Tryd.prog 14 #[v] w fun e w' => e = .returned (.agg (U8 (dig xs)).toArray) ∧ Below w.heap.size w w' := by
  obtain ⟨sl, cap, gb, go, rfl, h1, h2, h3, h4⟩ := hin
  refine cSum_core xs.length cap sl (dig xs) w (dig_B xs).len fun u y hB hy => ?_
  obtain ⟨b, c, rfl, _, hb, _, hcv⟩ := hy
  have h := cParts [xs] b 0 c u hb (hV.below hB hV.sz) (fun i p hp => by
    cases i with
    | succ i => simp at hp
    | zero =>
      simp at hp
      subst hp
      exact ⟨_, (hcv 0 _ rfl).1, sl, cap, gb, go, rfl, h1, h2, Nat.lt_of_lt_of_le h3 hB.size, h4.below hB h3⟩) (by simp) (by simpa using hx) (by simpa using hl) (by simp; omega)
  simpa using h
set_option maxRecDepth 100000 in
set_option maxHeartbeats 4000000 in
theorem cPrefix_core (n cap : Nat) (sl : Option Addr) (k : Int) (ds : List Nat) (pr : Nat → Nat) (w : World) (hk0 : -9223372036854775808 ≤ k) (hk9 : k ≤ 9223372036854775807) (hds : ds.length = 32) (hdb : Hid (∀ j, ds.getD j 0 < 256)) (hp0 : pr 0 = 0) (hps : Hid (∀ i, pr (i + 1) = (pr i <<< 8) % 18446744073709551616 ||| ds.getD i 0)) (hpl : Hid (∀ i, pr i < M64))
    (hSu : Hid (∀ (u : World), Below w.heap.size w u → Calls Tryd.prog 14 #[(.slice sl n cap)] u fun e u' => e = .returned (.agg (U8 (ds)).toArray) ∧ Below u.heap.size u u')) :
    Calls Tryd.prog 19 #[(.slice sl n cap), .int .i64 k] w fun e w' => e = .returned (.int .u64 ((pr 8 >>> (64 - (min (max k 0) 64).toNat) : Nat) : Int)) ∧ Below w.heap.size w w' := by
  go_enter Tryd.func19, Tryd.ntmps19
  have HB0 : Below w.heap.size w w := Below.refl _ _
  have K0_1 := Bk.nil (w.heap.size) w
  go_upto_region 1 with fail
  refine rgP K0_1 HB0 HB0.size [] [(2, 5, U8 (z32), some (3, U8 (ds)))] [(0, 9, (.slice sl n cap)), (1, 10, .agg (U8 (ds)).toArray)] [(3, 2)] [] [] ?_ ?_
  · refine oc g_mv ?_
    refine oc (g_cb ent_sha_Sum (fun uZ bZ => hSu.out uZ bZ)) ?_
    refine oc (g_al 0 al__32_uint8) ?_
    exact oc (g_sn 0 info__32_uint8 (h1 := U8_one _) (hm := by rw [U8_len, hds]) (hl := by rw [U8_len, U8_len, hds, show z32.length = 32 from rfl])) on
  intro u1 b1_2 HB1 sz1 K1
  simp only [fX, nK, nP, Wr.f, aK, pM] at K1
  simp only [setG, setN, List.set_cons_zero, List.set_cons_succ]
  clear HB0
  go_upto_region 2 with fail
  refine rgP K1 HB1 HB1.size [] [] [(0, 6, (Go.Value.int Go.IntKind.u64 0))] [] [] [] ?_ ?_
  · exact oc g_as on
  intro u2 HB2 sz2 K2
  simp only [fX, nK, nP, Wr.f, aK, pM] at K2
  simp only [setG, setN, List.set_cons_zero, List.set_cons_succ]
  clear K1 HB1
  go_upto_region 3 with fail
  refine rgP K2 HB2 HB2.size [] [] [(0, 11, .slice (some ⟨b1_2, 0, none⟩) 8 32), (1, 12, .int .i64 8), (2, 13, (Go.Value.int Go.IntKind.i64 0))] [] [] [] ?_ ?_
  · refine oc (g_sl (fun uZ => slP8 b1_2 uZ)) ?_
    refine oc (g_ln Tryd.underlying22) ?_
    exact oc g_mv on
  intro u3 HB3 sz3 K3
  simp only [fX, nK, nP, Wr.f, aK, pM] at K3
  simp only [setG, setN, List.set_cons_zero, List.set_cons_succ]
  clear K2 HB2
  go_wp2_with fail
  go_loopw [13, 6] (fun s13 s6 wr => ∃ (i : Nat), i ≤ 8 ∧ s13 = .int .i64 (i : Int) ∧ s6 = .int .u64 ((pr i : Nat) : Int) ∧ Below w.heap.size w wr ∧ Hid (CV wr b1_2 (U8 (ds))) ∧ b1_2 < wr.heap.size) (fun s13 _ _ => 8 - (intOf s13).toNat)
  case atStart => exact ⟨0, by omega, rfl, by rw [hp0]; rfl, HB3, (K3.cv 0), (K3.lt 0)⟩
  case round =>
    obtain ⟨i, hi, rfl, rfl, HBr, Kd, ld⟩ := hrel
    have hlo := K3.lo 0
    clear HB3
    by_cases hj : i < 8
    · have hl1 : decide ((i : Int) < 8) = true := by simp; omega
      have hS := hps.out i
      have hpl := hpl.out i
      have gi : (U8 (ds))[0 + i]? = some (.int .u8 ((ds.getD i 0 : Nat) : Int)) := by rw [Nat.zero_add]; exact U8_get ds i (by omega)
      have hx := hdb.out i
      obtain ⟨x, ex⟩ : ∃ x, ds.getD i 0 = x := ⟨_, rfl⟩
      obtain ⟨q, eq⟩ : ∃ q, pr i = q := ⟨_, rfl⟩
      rw [ex] at gi hx hS
      rw [eq] at hpl hS
      try rw [eq]
      obtain ⟨q2, eq2⟩ : ∃ q2, (q <<< 8) % 18446744073709551616 = q2 := ⟨_, rfl⟩
      have hq2 : q2 < M64 := by rw [← eq2]; exact Nat.mod_lt _ (by decide)
      rw [eq2] at hS
      obtain ⟨q3, eq3⟩ : ∃ q3, q2 ||| x = q3 := ⟨_, rfl⟩
      rw [eq3] at hS
      have hS : Hid _ := hS
      clear ex eq
      have K3_2 : Bk w.heap.size wr [(false, b1_2, U8 (ds))] := ⟨.c ld Kd.out <| trivial, by simp⟩
      go_upto_region 4 with fail
      refine rgP K3_2 HBr HBr.size [] [] [(0, 14, .bool true)] [] [] [] ?_ ?_
      · exact oc (g_bn (fun uZ => lss_i _ _ (i : Int) 8 _ uZ hl1)) on
      intro u4 HB4 sz4 K4
      simp only [fX, nK, nP, Wr.f, aK, pM] at K4
      simp only [setG, setN, List.set_cons_zero, List.set_cons_succ]
      go_upto_region 5 with fail
      refine rgP K4 HB4 HB4.size [] [] [(0, 15, .pointer (some ⟨b1_2, 0 + i, none⟩)), (1, 16, .int .u8 ((x : Nat) : Int)), (2, 8, .int .u8 ((x : Nat) : Int))] [] [] [] ?_ ?_
      · refine oc (g_ix (fun uZ => ixB b1_2 0 8 32 i hj uZ)) ?_
        refine oc (g_lw 0 (0 + i) l8 (gi)) ?_
        exact oc g_as on
      intro u5 HB5 sz5 K5
      simp only [fX, nK, nP, Wr.f, aK, pM] at K5
      simp only [setG, setN, List.set_cons_zero, List.set_cons_succ]
      clear K4 HB4
      go_upto_region 6 with fail
      refine rgP K5 HB5 HB5.size [] [] [(0, 17, .int .u64 ((q : Nat) : Int)), (1, 18, .int .u64 ((q2 : Nat) : Int)), (2, 19, .int .u8 ((x : Nat) : Int)), (3, 20, .int .u64 ((x : Nat) : Int)), (4, 21, .int .u64 ((q3 : Nat) : Int)), (5, 6, .int .u64 ((q3 : Nat) : Int))] [(5, 0)] [(5, 6)] [] ?_ ?_
      · refine oc g_mv ?_
        refine oc (g_bn (fun uZ => (shl64 _ _ q 8 uZ (by decide)).trans (by rw [eq2]))) ?_
        refine oc g_mv ?_
        refine oc (g_op (fun ev uZ he => cv864 uZ hx rfl (he _ _ rfl))) ?_
        refine oc (g_bn (fun uZ => (or64 _ _ q2 x uZ hq2 (Nat.lt_trans hx (by decide))).trans (by rw [eq3]))) ?_
        exact oc g_as on
      intro u6 HB6 sz6 K6
      simp only [fX, nK, nP, Wr.f, aK, pM] at K6
      simp only [setG, setN, List.set_cons_zero, List.set_cons_succ]
      clear K5 HB5
      go_upto_region 7 with fail
      refine rgP K6 HB6 HB6.size [] [] [(0, 22, .int .i64 ((i + 1 : Nat) : Int)), (1, 13, .int .i64 ((i + 1 : Nat) : Int))] [(1, 0)] [(1, 13)] [] ?_ ?_
      · refine oc (g_bn (fun uZ => add_i _ _ (i : Int) 1 ((i + 1 : Nat) : Int) uZ (by omega) (by omega) (by omega))) ?_
        exact oc g_mv on
      intro u7 HB7 sz7 K7
      simp only [fX, nK, nP, Wr.f, aK, pM] at K7
      simp only [setG, setN, List.set_cons_zero, List.set_cons_succ]
      clear K6 HB6
      go_wp2
      refine ⟨⟨i + 1, by omega, rfl, by rw [hS.out], HB7, (K7.cv 0), (K7.lt 0)⟩, ?_⟩
      simp [intOf] <;> omega
    · have hl1 : decide ((i : Int) < 8) = false := by simp; omega
      have hi8 : i = 8 := by omega
      subst hi8
      obtain ⟨q, eq⟩ : ∃ q, pr 8 = q := ⟨_, rfl⟩
      try rw [eq]
      obtain ⟨k1, ek1⟩ : ∃ k1, max k 0 = k1 := ⟨_, rfl⟩
      obtain ⟨k2, ek2⟩ : ∃ k2 : Nat, min k1 64 = (k2 : Int) := ⟨(min k1 64).toNat, by omega⟩
      have hk2 : k2 ≤ 64 := by omega
      have hk3 : (64 : Int) - (k2 : Int) = ((64 - k2 : Nat) : Int) := by omega
      have K3_2 : Bk w.heap.size wr [(false, b1_2, U8 (ds))] := ⟨.c ld Kd.out <| trivial, by simp⟩
      go_upto_region 4 with fail
      refine rgP K3_2 HBr HBr.size [] [] [(0, 14, .bool false)] [] [] [false] ?_ ?_
      · exact oc (g_bn (fun uZ => lss_i _ _ ((8 : Nat) : Int) 8 _ uZ hl1)) on
      intro u4 HB4 sz4 K4
      simp only [fX, nK, nP, Wr.f, aK, pM] at K4
      simp only [setG, setN, List.set_cons_zero, List.set_cons_succ]
      go_upto_region 8 with fail
      refine rgP K4 HB4 HB4.size [] [] [(0, 23, .int .u64 ((q : Nat) : Int)), (1, 24, .int .i64 k), (2, 25, .int .i64 k1), (3, 26, .int .i64 (k2 : Int)), (4, 27, .int .i64 ((64 - k2 : Nat) : Int)), (5, 28, .int .u64 ((q >>> (64 - k2) : Nat) : Int)), (6, 4, .int .u64 ((q >>> (64 - k2) : Nat) : Int))] [] [] [] ?_ ?_
      · refine oc g_mv ?_
        refine oc g_mv ?_
        refine oc (g_mx ek1) ?_
        refine oc (g_mn ek2) ?_
        refine oc (g_bn (fun uZ => sub_i _ _ 64 (k2 : Int) ((64 - k2 : Nat) : Int) uZ hk3 (by omega) (by omega))) ?_
        refine oc (g_bn (fun uZ => shr64i _ _ q (64 - k2) uZ (by omega))) ?_
        exact oc g_as on
      intro u5 HB5 sz5 K5
      simp only [fX, nK, nP, Wr.f, aK, pM] at K5
      simp only [setG, setN, List.set_cons_zero, List.set_cons_succ]
      clear K4 HB4
      go_wp2
      refine bodyPost_ret (v := .int .u64 ((q >>> (64 - k2) : Nat) : Int)) (by simp [results, Tryd.results19, go_sem]) rfl ⟨?_, HB5⟩
      rw [eq, show (min (max k 0) 64).toNat = k2 by omega]
/-- The beginning of a digest. -/
def pfx (xs : List Nat) (k : Int) : Nat := pre8 (dig xs) 8 >>> (64 - (min (max k 0) 64).toNat)
theorem cPrefix (xs : List Nat) (k : Int) (v : Value) (w : World) (hk0 : -9223372036854775808 ≤ k) (hk9 : k ≤ 9223372036854775807) (hV : GV w) (hin : IN w w.heap.size v xs) (hx : ∀ x ∈ xs, x < 256) (hl : xs.length ≤ 1000) :
    Calls Tryd.prog 19 #[v, .int .i64 k] w fun e w' => e = .returned (.int .u64 ((pfx xs k : Nat) : Int)) ∧ Below w.heap.size w w' := by
  have hs : ∀ (u : World), Below w.heap.size w u → Calls Tryd.prog 14 #[v] u fun e u' => e = .returned (.agg (U8 (dig xs)).toArray) ∧ Below u.heap.size u u' := fun u hB => cSum xs v u (hV.below hB hV.sz) ((hin.below hB).mono hB.size) hx hl
  obtain ⟨sl, cap, gb, go, rfl, h1, h2, h3, h4⟩ := hin
  exact cPrefix_core xs.length cap sl k (dig xs) (pre8 (dig xs)) w hk0 hk9 (dig_B xs).len (dig_B xs).lt rfl (fun _ => rfl) (pre8_lt (dig_B xs).lt) hs
end Go.Proofs.YtbgdcgboomdimaaDoor
