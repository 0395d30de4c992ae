/- The reference's beginning of a digest; the law ShaSums. -/
import Derived.Test.YtbgdcgboomdimaaDoorRP2
import Derived.Test.YtbgdcgboomdimaaDoorSR
namespace Go.Proofs.YtbgdcgboomdimaaDoor
open Go.RowKit
set_option linter.unusedVariables false
set_option linter.unusedSimpArgs false
theorem ent_seneschalref04_Prefix (vs : Array Value) (w : World) : (callFunc 20 vs).run Tryd.prog w = .ok (.enter 20 vs) w := by kernel_rfl
theorem quo8 (p q : Operand) (x y : Nat) (w : World) (h1 : x < 256) (h2 : 0 < y) : (do eqGuard .quo 5 p q (.int .u8 x) (.int .u8 y); binOp .quo 5 (.int .u8 x) (.int .u8 y) : Sem Value).run Tryd.prog w = .ok (.int .u8 ((x / y : Nat) : Int)) w := by
  have e0 : ((x : Int)).tdiv y = ((x / y : Nat) : Int) := by rw [Int.tdiv_eq_ediv_of_nonneg (Int.natCast_nonneg _)]; simp
  have hle : x / y ≤ x := Nat.div_le_self _ _
  obtain ⟨z, hz⟩ : ∃ z, x / y = z := ⟨_, rfl⟩
  rw [hz] at e0 hle ⊢
  have e : IntKind.u8.wrap (z : Int) = (z : Int) := wraps_u8 _ (by omega) (by omega)
  have hy : (y : Int) ≠ 0 := by omega
  have hy2 : ¬ y = 0 := by omega
  go_simp
theorem rem8 (p q : Operand) (x y : Nat) (w : World) (h1 : x < 256) (h2 : 0 < y) : (do eqGuard .rem 5 p q (.int .u8 x) (.int .u8 y); binOp .rem 5 (.int .u8 x) (.int .u8 y) : Sem Value).run Tryd.prog w = .ok (.int .u8 ((x % y : Nat) : Int)) w := by
  have e0 : ((x : Int)).tmod y = ((x % y : Nat) : Int) := by rw [Int.tmod_eq_emod_of_nonneg (Int.natCast_nonneg _)]; simp
  have hle : x % y ≤ x := Nat.mod_le _ _
  obtain ⟨z, hz⟩ : ∃ z, x % y = z := ⟨_, rfl⟩
  rw [hz] at e0 hle ⊢
  have e : IntKind.u8.wrap (z : Int) = (z : Int) := wraps_u8 _ (by omega) (by omega)
  have hy : (y : Int) ≠ 0 := by omega
  have hy2 : ¬ y = 0 := by omega
  go_simp
section
variable {R : Rg} {P : Program} {ops : Array Oper} {Q : Exit → Act → World → Prop} {f : Nat → Bool} {t : Nat → Value} {u : World} {a : Act} {i : Nat} {o : Oper}
/-- A call that knows the blocks and makes such a value. -/
theorem g_cM (n : Nat) (p : World → Value → Prop) {N : FuncId} {args : List Operand} {tys : Array TypeId} {vs : List Value} (hr : ∀ (vs : Array Value) (w : World), (callFunc N vs).run P w = .ok (.enter N vs) w)
    (hcall : ∀ f w, KC f w R.lo R.base R.es → R.base ≤ w.heap.size → Below R.lo R.w w → Calls P N vs.toArray w fun e w' => ∃ v, e = .returned v ∧ p w' v ∧ Below w.heap.size w w') (hop : o.op = .call { callee := .value (.func N), args := args.toArray, argTypes := tys } := by rfl) (hx : args.mapM (evR R i o) = some vs := by rfl) (hn : (R.E[n]?).map (·.p) = some p := by rfl) (hc : R.chkE ops n i o = true := by rfl) : OG R P ops Q i o := fun f t u a X => by
  obtain ⟨d, q, hd, hq, _, _, _, _, _, _, _, _, hw⟩ := chkE_parts hc
  exact X.go hw fun K hK => wp_callP hop (X.evs hx) hr (hcall f u X.I.2.1 X.I.1.sz X.I.1.bel) fun v w' hp hB => hK _ _ (X.putE hc (fun q hq => by rw [hq] at hn; cases hn; exact hp) hB)
end
set_option maxRecDepth 100000 in
set_option maxHeartbeats 8000000 in
theorem cPrefixR_core (v : Value) (x m1 : Int) (kb : Nat) (ds : List Nat) (qF : Nat → Nat) (w : World) (hm1 : min x 64 = m1) (hm2 : max 0 m1 = ((kb : Nat) : Int)) (hkb : kb ≤ 64) (hds : ds.length = 32) (hdb : Hid (∀ j, ds.getD j 0 < 256)) (hq0 : Hid (qF 0 = 0)) (hqs : Hid (∀ i, i < kb → qF (i + 1) = 2 * qF i + (ds.getD (i / 8) 0 >>> (7 - i % 8)) % 2)) (hql : Hid (∀ i, qF i < 18446744073709551616)) (hSu : Hid (∀ (u : World), Below w.heap.size w u → Calls Tryd.prog 15 #[v] u fun e u' => e = .returned (.agg (U8 (ds)).toArray) ∧ Below u.heap.size u u')) :
    Calls Tryd.prog 20 #[v, .int .i64 x] w fun e w' => e = .returned (.int .u64 ((qF kb : Nat) : Int)) ∧ Below w.heap.size w w' := by
  go_enter Tryd.func20, Tryd.ntmps20
  have HB0 : Below w.heap.size w w := Below.refl _ _
  have K0_1 := Bk.nil (w.heap.size) w
  go_upto_region 1 with fail
  refine rgP K0_1 HB0 HB0.size [] [] [(0, 10, .int .i64 x), (1, 11, .int .i64 m1), (2, 12, .int .i64 ((kb : Nat) : Int)), (3, 1, .int .i64 ((kb : Nat) : Int))] [(3, 0)] [(3, 1)] [] ?_ ?_
  · refine oc g_mv ?_
    refine oc (g_mn hm1) ?_
    refine oc (g_mx hm2) ?_
    exact oc g_as on
  intro u1 HB1 sz1 K1
  simp only [fX, nK, nP, Wr.f, aK, pM] at K1
  simp only [setG, setN, List.set_cons_zero, List.set_cons_succ]
  clear HB0
  go_upto_region 2 with fail
  refine rgP K1 HB1 HB1.size [] [(2, 5, U8 (z32), some (3, U8 (ds)))] [(0, 13, v), (1, 14, .agg (U8 (ds)).toArray)] [(3, 2)] [] [] ?_ ?_
  · refine oc g_mv ?_
    refine oc (g_cb ent_seneschalref04_Sum (fun uZ bZ => hSu.out uZ bZ)) ?_
    refine oc (g_al 0 al__32_uint8) ?_
    exact oc (g_sn 0 info__32_uint8 (h1 := U8_one _) (hm := by rw [U8_len, hds]) (hl := by first | rw [U8_len, U8_len, hds, show z32.length = 32 from rfl] | rfl)) on
  intro u2 b2_2 HB2 sz2 K2
  simp only [fX, nK, nP, Wr.f, aK, pM] at K2
  simp only [setG, setN, List.set_cons_zero, List.set_cons_succ]
  clear K1 HB1
  go_upto_region 3 with fail
  refine rgP K2 HB2 HB2.size [] [] [(0, 6, (Go.Value.int Go.IntKind.u64 0))] [] [] [] ?_ ?_
  · exact oc g_as on
  intro u3 HB3 sz3 K3
  simp only [fX, nK, nP, Wr.f, aK, pM] at K3
  simp only [setG, setN, List.set_cons_zero, List.set_cons_succ]
  clear K2 HB2
  go_upto_region 4 with fail
  refine rgP K3 HB3 HB3.size [] [] [(0, 7, (Go.Value.int Go.IntKind.i64 0))] [] [] [] ?_ ?_
  · exact oc g_as on
  intro u4 HB4 sz4 K4
  simp only [fX, nK, nP, Wr.f, aK, pM] at K4
  simp only [setG, setN, List.set_cons_zero, List.set_cons_succ]
  clear K3 HB3
  have hlo5 := K4.lo 0
  go_wp2_with fail
  go_loopw [7, 6] (fun s7 s6 wr => ∃ (i : Nat), i ≤ kb ∧ s7 = .int .i64 ((i : Nat) : Int) ∧ s6 = .int .u64 ((qF i : Nat) : Int) ∧ b2_2 < wr.heap.size ∧ Hid (CV wr b2_2 (U8 (ds))) ∧ Below w.heap.size w wr) (fun s7 _ _ => kb - (intOf s7).toNat)
  case atStart => exact ⟨0, by omega, rfl, (by rw [hq0.out]; rfl), (K4.lt 0), (K4.cv 0), HB4⟩
  case round =>
    obtain ⟨i, hi, rfl, rfl, hl5, Kd, HBr⟩ := hrel
    clear HB4
    by_cases hj : i < kb
    · have hl1 : decide ((i : Int) < (kb : Int)) = true := by simp; omega
      have hQ := hqs.out i hj
      have hqn := hql.out (i + 1)
      have gi := U8_get ds (i / 8) (by omega)
      have hy := hdb.out (i / 8)
      obtain ⟨y, ey⟩ : ∃ y, ds.getD (i / 8) 0 = y := ⟨_, rfl⟩
      obtain ⟨q, eq⟩ : ∃ q, qF i = q := ⟨_, rfl⟩
      obtain ⟨qn, eqn⟩ : ∃ q, qF (i + 1) = q := ⟨_, rfl⟩
      rw [ey] at gi hy hQ
      rw [eq] at hQ
      rw [eqn] at hQ hqn
      try rw [eq]
      obtain ⟨r, er⟩ : ∃ r, 7 - i % 8 = r := ⟨_, rfl⟩
      rw [er] at hQ
      have er2 : (7 : Int) - ((i % 8 : Nat) : Int) = ((r : Nat) : Int) := by omega
      have hr7 : r ≤ 7 := by omega
      have hQ : Hid _ := hQ
      have eqn : Hid _ := eqn
      clear ey eq
      have K4_2 : Bk w.heap.size wr [(false, b2_2, U8 (ds))] := ⟨.c hl5 Kd.out <| trivial, by simp⟩
      go_upto_region 5 with fail
      refine rgP K4_2 HBr HBr.size [] [] [(0, 15, .int .i64 ((i : Nat) : Int)), (1, 16, .int .i64 ((kb : Nat) : Int)), (2, 17, .bool true)] [] [] [] ?_ ?_
      · refine oc g_mv ?_
        refine oc g_mv ?_
        exact oc (g_bn (fun uZ => lss_i _ _ (i : Int) (kb : Int) _ uZ hl1)) on
      intro u5 HB5 sz5 K5
      simp only [fX, nK, nP, Wr.f, aK, pM] at K5
      simp only [setG, setN, List.set_cons_zero, List.set_cons_succ]
      go_upto_region 7 with fail
      refine rgP K5 HB5 HB5.size [] [] [(0, 20, .int .i64 ((i : Nat) : Int)), (1, 21, .int .i64 ((i / 8 : Nat) : Int)), (2, 22, .pointer (some ⟨b2_2, i / 8, none⟩)), (3, 23, .int .u8 ((y : Nat) : Int)), (4, 8, .int .u8 ((y : Nat) : Int))] [] [] [] ?_ ?_
      · refine oc g_mv ?_
        refine oc (g_bn (fun uZ => quo_n _ _ i 8 uZ (by omega) (by decide))) ?_
        refine oc (g_ix (fun uZ => x32 b2_2 (i / 8) uZ (by omega))) ?_
        refine oc (g_lw 0 (i / 8) l8 (gi)) ?_
        exact oc g_as on
      intro u6 HB6 sz6 K6
      simp only [fX, nK, nP, Wr.f, aK, pM] at K6
      simp only [setG, setN, List.set_cons_zero, List.set_cons_succ]
      clear K5 HB5
      go_upto_region 8 with fail
      refine rgP K6 HB6 HB6.size [] [] [(0, 9, (Go.Value.int Go.IntKind.i64 0))] [] [] [] ?_ ?_
      · exact oc g_as on
      intro u7 HB7 sz7 K7
      simp only [fX, nK, nP, Wr.f, aK, pM] at K7
      simp only [setG, setN, List.set_cons_zero, List.set_cons_succ]
      clear K6 HB6
      go_wp2_with fail
      go_loopw [9, 8] (fun s9 s8 wr => ∃ (k : Nat), k ≤ r ∧ s9 = .int .i64 ((k : Nat) : Int) ∧ s8 = .int .u8 ((y >>> k : Nat) : Int) ∧ b2_2 < wr.heap.size ∧ Hid (CV wr b2_2 (U8 (ds))) ∧ Below w.heap.size w wr) (fun s9 _ _ => r - (intOf s9).toNat)
      case atStart => exact ⟨0, by omega, rfl, rfl, (K7.lt 0), (K7.cv 0), HB7⟩
      case round =>
        clear Kd HBr hl1 hl5
        obtain ⟨k, hk, rfl, rfl, hl5, Kd, HBr⟩ := hrel
        clear HB7
        have hsh := shr_half y k
        obtain ⟨z, ez⟩ : ∃ z, y >>> k = z := ⟨_, rfl⟩
        have hz : z < 256 := by rw [← ez, Nat.shiftRight_eq_div_pow]; exact Nat.lt_of_le_of_lt (Nat.div_le_self _ _) hy
        rw [ez] at hsh
        try rw [ez]
        have hsh : Hid _ := hsh
        by_cases hj2 : k < r
        · have hl1 : decide ((k : Int) < ((r : Nat) : Int)) = true := by simp; omega
          have K7_3 : Bk w.heap.size wr [(false, b2_2, U8 (ds))] := ⟨.c hl5 Kd.out <| trivial, by simp⟩
          go_upto_region 9 with fail
          refine rgP K7_3 HBr HBr.size [] [] [(0, 24, .int .i64 ((k : Nat) : Int)), (1, 25, .int .i64 ((i : Nat) : Int)), (2, 26, .int .i64 ((i % 8 : Nat) : Int)), (3, 27, .int .i64 ((r : Nat) : Int)), (4, 28, .bool true)] [] [] [] ?_ ?_
          · refine oc g_mv ?_
            refine oc g_mv ?_
            refine oc (g_bn (fun uZ => rem_n _ _ i 8 uZ (by omega) (by decide))) ?_
            refine oc (g_bn (fun uZ => sub_i _ _ 7 ((i % 8 : Nat) : Int) ((r : Nat) : Int) uZ er2 (by omega) (by omega))) ?_
            exact oc (g_bn (fun uZ => lss_i _ _ (k : Int) ((r : Nat) : Int) _ uZ hl1)) on
          intro u8 HB8 sz8 K8
          simp only [fX, nK, nP, Wr.f, aK, pM] at K8
          simp only [setG, setN, List.set_cons_zero, List.set_cons_succ]
          go_upto_region 11 with fail
          refine rgP K8 HB8 HB8.size [] [] [(0, 31, .int .u8 ((z : Nat) : Int)), (1, 32, .int .u8 ((z / 2 : Nat) : Int)), (2, 8, .int .u8 ((z / 2 : Nat) : Int))] [(2, 0)] [(2, 8)] [] ?_ ?_
          · refine oc g_mv ?_
            refine oc (g_bn (fun uZ => quo8 _ _ z 2 uZ hz (by decide))) ?_
            exact oc g_as on
          intro u9 HB9 sz9 K9
          simp only [fX, nK, nP, Wr.f, aK, pM] at K9
          simp only [setG, setN, List.set_cons_zero, List.set_cons_succ]
          clear K8 HB8
          go_upto_region 10 with fail
          refine rgP K9 HB9 HB9.size [] [] [(0, 29, .int .i64 ((k : Nat) : Int)), (1, 30, .int .i64 ((k + 1 : Nat) : Int)), (2, 9, .int .i64 ((k + 1 : Nat) : Int))] [(2, 0)] [(2, 9)] [] ?_ ?_
          · refine oc g_mv ?_
            refine oc (g_bn (fun uZ => add_i _ _ ((k : Nat) : Int) 1 ((k + 1 : Nat) : Int) uZ (by omega) (by omega) (by omega))) ?_
            exact oc g_as on
          intro u10 HB10 sz10 K10
          simp only [fX, nK, nP, Wr.f, aK, pM] at K10
          simp only [setG, setN, List.set_cons_zero, List.set_cons_succ]
          clear K9 HB9
          go_wp2
          refine ⟨⟨k + 1, by omega, rfl, (by rw [← hsh.out]), (K10.lt 0), (K10.cv 0), HB10⟩, ?_⟩
          simp [intOf] <;> omega
        · have hkr : k = r := by omega
          have hl1 : decide ((k : Int) < ((r : Nat) : Int)) = false := by simp; omega
          have hQ := hQ.out
          rw [← hkr, ez] at hQ
          have hQ : Hid _ := hQ.symm
          have K7_3 : Bk w.heap.size wr [(false, b2_2, U8 (ds))] := ⟨.c hl5 Kd.out <| trivial, by simp⟩
          go_upto_region 9 with fail
          refine rgP K7_3 HBr HBr.size [] [] [(0, 24, .int .i64 ((k : Nat) : Int)), (1, 25, .int .i64 ((i : Nat) : Int)), (2, 26, .int .i64 ((i % 8 : Nat) : Int)), (3, 27, .int .i64 ((r : Nat) : Int)), (4, 28, .bool false)] [] [] [] ?_ ?_
          · refine oc g_mv ?_
            refine oc g_mv ?_
            refine oc (g_bn (fun uZ => rem_n _ _ i 8 uZ (by omega) (by decide))) ?_
            refine oc (g_bn (fun uZ => sub_i _ _ 7 ((i % 8 : Nat) : Int) ((r : Nat) : Int) uZ er2 (by omega) (by omega))) ?_
            exact oc (g_bn (fun uZ => lss_i _ _ (k : Int) ((r : Nat) : Int) _ uZ hl1)) on
          intro u8 HB8 sz8 K8
          simp only [fX, nK, nP, Wr.f, aK, pM] at K8
          simp only [setG, setN, List.set_cons_zero, List.set_cons_succ]
          go_upto_region 12 with fail
          refine rgP K8 HB8 HB8.size [] [] [(0, 33, .int .u64 ((q : Nat) : Int)), (1, 34, .int .u64 ((2 * q : Nat) : Int)), (2, 35, .int .u8 ((z : Nat) : Int)), (3, 36, .int .u8 ((z % 2 : Nat) : Int)), (4, 37, .int .u64 ((z % 2 : Nat) : Int)), (5, 38, .int .u64 ((qn : Nat) : Int)), (6, 6, .int .u64 ((qn : Nat) : Int))] [(6, 0)] [(6, 6)] [] ?_ ?_
          · refine oc g_mv ?_
            refine oc (g_bn (fun uZ => mul64 _ _ 2 q (2 * q) uZ rfl (by have := hQ.out; omega))) ?_
            refine oc g_mv ?_
            refine oc (g_bn (fun uZ => rem8 _ _ z 2 uZ hz (by decide))) ?_
            refine oc (g_op (fun ev uZ he => cv864 uZ (by omega) rfl (he _ _ rfl))) ?_
            refine oc (g_bn (fun uZ => add64 _ _ (2 * q) (z % 2) qn uZ hQ.out hqn)) ?_
            exact oc g_as on
          intro u9 HB9 sz9 K9
          simp only [fX, nK, nP, Wr.f, aK, pM] at K9
          simp only [setG, setN, List.set_cons_zero, List.set_cons_succ]
          clear K8 HB8
          go_upto_region 6 with fail
          refine rgP K9 HB9 HB9.size [] [] [(0, 18, .int .i64 ((i : Nat) : Int)), (1, 19, .int .i64 ((i + 1 : Nat) : Int)), (2, 7, .int .i64 ((i + 1 : Nat) : Int))] [(2, 0)] [(2, 7)] [] ?_ ?_
          · refine oc g_mv ?_
            refine oc (g_bn (fun uZ => add_i _ _ ((i : Nat) : Int) 1 ((i + 1 : Nat) : Int) uZ (by omega) (by omega) (by omega))) ?_
            exact oc g_as on
          intro u10 HB10 sz10 K10
          simp only [fX, nK, nP, Wr.f, aK, pM] at K10
          simp only [setG, setN, List.set_cons_zero, List.set_cons_succ]
          clear K9 HB9
          go_wp2
          refine ⟨⟨i + 1, by omega, rfl, (by rw [eqn.out]), (K10.lt 0), (K10.cv 0), HB10⟩, ?_⟩
          simp [intOf] <;> omega
    · have hl1 : decide ((i : Int) < (kb : Int)) = false := by simp; omega
      have hik : i = kb := by omega
      subst hik
      have K4_2 := Bk.nil (w.heap.size) wr
      go_upto_region 5 with fail
      refine rgP K4_2 HBr HBr.size [] [] [(0, 15, .int .i64 ((i : Nat) : Int)), (1, 16, .int .i64 ((i : Nat) : Int)), (2, 17, .bool false)] [] [] [] ?_ ?_
      · refine oc g_mv ?_
        refine oc g_mv ?_
        exact oc (g_bn (fun uZ => lss_i _ _ (i : Int) (i : Int) _ uZ hl1)) on
      intro u5 HB5 sz5 K5
      simp only [fX, nK, nP, Wr.f, aK, pM] at K5
      simp only [setG, setN, List.set_cons_zero, List.set_cons_succ]
      go_upto_region 13 with fail
      refine rgP K5 HB5 HB5.size [] [] [(0, 39, .int .u64 ((qF i : Nat) : Int)), (1, 4, .int .u64 ((qF i : Nat) : Int))] [] [] [] ?_ ?_
      · refine oc g_mv ?_
        exact oc g_as on
      intro u6 HB6 sz6 K6
      simp only [fX, nK, nP, Wr.f, aK, pM] at K6
      simp only [setG, setN, List.set_cons_zero, List.set_cons_succ]
      clear K5 HB5
      go_wp2
      refine bodyPost_ret (v := .int .u64 ((qF i : Nat) : Int)) (by simp [results, Tryd.results20, go_sem, ]) rfl ⟨rfl, HB6⟩
theorem cPrefixR (xs : List Nat) (k : Int) (v : Value) (w : World) (hin : IN w w.heap.size v xs) (hx : ∀ x ∈ xs, x < 256) (hl : xs.length ≤ 1000) :
    Calls Tryd.prog 20 #[v, .int .i64 k] w fun e w' => e = .returned (.int .u64 ((pfx xs k : Nat) : Int)) ∧ Below w.heap.size w w' := by
  have hP := pre8_lt (dig_B xs).lt 8
  have h := cPrefixR_core v k (min k 64) (min (max k 0) 64).toNat (dig xs) (fun i => pre8 (dig xs) 8 >>> (64 - i)) w rfl (by omega) (by omega) (dig_B xs).len (dig_B xs).lt (by
    show pre8 (dig xs) 8 >>> 64 = 0
    rw [Nat.shiftRight_eq_div_pow]; exact Nat.div_eq_of_lt hP) (fun i hi => pre8_step (dig_B xs).lt i (by omega)) (fun i => by
    show pre8 (dig xs) 8 >>> (64 - i) < _
    rw [Nat.shiftRight_eq_div_pow]; exact Nat.lt_of_le_of_lt (Nat.div_le_self _ _) hP) (fun u hB => cSumR xs v u ((hin.below hB).mono hB.size) hx (by omega))
  exact h
set_option maxRecDepth 100000 in
set_option maxHeartbeats 8000000 in
theorem shaSums_core (n cap m N pf : Nat) (sl : Option Addr) (x : Int) (xs ps ds : List Nat) (w : World) (hdB : BB 32 ds) (hSh : Hid (∀ (u : World), Calls Tryd.prog 12 #[(.slice sl n cap)] u fun e u' => e = .returned (.slice sl m cap) ∧ Below u.heap.size u u')) (hBy : Hid (∀ (u : World), Below w.heap.size w u → Calls Tryd.prog 13 #[(.slice sl m cap)] u fun e u' => ∃ v, e = .returned v ∧ PG u.heap.size 1 m (U8 (xs)) u' v ∧ Below u.heap.size u u')) (hS1 : Hid (∀ (u : World) (bo co : Nat) (zs : List Value), Below w.heap.size w u → CV u bo (U8 (xs) ++ zs) → bo < u.heap.size → m ≤ co → Calls Tryd.prog 14 #[.slice (some ⟨bo, 0, none⟩) m co] u fun e u' => e = .returned (.agg (U8 (ds)).toArray) ∧ Below u.heap.size u u')) (hS2 : Hid (∀ (u : World), Below w.heap.size w u → Calls Tryd.prog 15 #[(.slice sl m cap)] u fun e u' => e = .returned (.agg (U8 (ds)).toArray) ∧ Below u.heap.size u u')) (hPd1 : Hid (∀ (u : World) (bo co : Nat) (zs : List Value), Below w.heap.size w u → CV u bo (U8 (xs) ++ zs) → bo < u.heap.size → m ≤ co → Calls Tryd.prog 17 #[.slice (some ⟨bo, 0, none⟩) m co] u fun e u' => ∃ v, e = .returned v ∧ PF u.heap.size N (U8 (ps)) u' v ∧ Below u.heap.size u u')) (hPd2 : Hid (∀ (u : World), Below w.heap.size w u → Calls Tryd.prog 18 #[(.slice sl m cap)] u fun e u' => ∃ v, e = .returned v ∧ PG u.heap.size 1 N (U8 (ps)) u' v ∧ Below u.heap.size u u'))
    (hSB : Hid (∀ (u : World) (y z : Value) (lo lo2 : Nat), Below w.heap.size w u → PF lo N (U8 (ps)) u y → PG lo2 1 N (U8 (ps)) u z → Calls Tryd.prog 16 #[y, z] u fun e u' => e = .returned (.bool true) ∧ Below u.heap.size u u')) (hP1 : Hid (∀ (u : World) (bo co : Nat) (zs : List Value), Below w.heap.size w u → CV u bo (U8 (xs) ++ zs) → bo < u.heap.size → m ≤ co → Calls Tryd.prog 19 #[.slice (some ⟨bo, 0, none⟩) m co, .int .i64 x] u fun e u' => e = .returned (.int .u64 ((pf : Nat) : Int)) ∧ Below u.heap.size u u')) (hP2 : Hid (∀ (u : World), Below w.heap.size w u → Calls Tryd.prog 20 #[(.slice sl m cap), .int .i64 x] u fun e u' => e = .returned (.int .u64 ((pf : Nat) : Int)) ∧ Below u.heap.size u u')) (hSB2 : Hid (∀ (u : World) (bo co : Nat) (zs : List Value), Below w.heap.size w u → CV u bo (U8 (xs) ++ zs) → bo < u.heap.size → m ≤ co → Calls Tryd.prog 16 #[.slice (some ⟨bo, 0, none⟩) m co, (.slice sl m cap)] u fun e u' => e = .returned (.bool true) ∧ Below u.heap.size u u')) (hW : Hid (∀ (u : World), Below w.heap.size w u → Calls Tryd.prog 21 #[] u fun e u' => e = .returned (.bool true) ∧ Below u.heap.size u u')) :
    Calls Tryd.prog 3 #[(.slice sl n cap), .int .i64 x] w fun e w' => e = .returned (.bool true) ∧ Below w.heap.size w w' := by
  go_enter Tryd.func3, Tryd.ntmps3
  have HB0 : Below w.heap.size w w := Below.refl _ _
  have K0_1 := Bk.nil (w.heap.size) w
  go_upto_region 1 with fail
  refine rgP K0_1 HB0 HB0.size [] [] [(0, 6, (.slice sl n cap)), (1, 7, (.slice sl m cap)), (2, 0, (.slice sl m cap))] [(2, 0)] [(2, 0)] [] ?_ ?_
  · refine oc g_mv ?_
    refine oc (g_cl ent_seneschallaw04_short (fun uZ => hSh.out uZ)) ?_
    exact oc g_as on
  intro u1 HB1 sz1 K1
  simp only [fX, nK, nP, Wr.f, aK, pM] at K1
  simp only [setG, setN, List.set_cons_zero, List.set_cons_succ]
  clear HB0
  have hlo2 := HB1.size
  go_upto_region 2 with fail
  refine rgF K1 HB1 HB1.size [] [] [(0, 8, (.slice sl m cap))] [] [] [⟨1, 9, some 2, PG u1.heap.size 1 m (U8 (xs))⟩, ⟨2, 5, none, PG u1.heap.size 1 m (U8 (xs))⟩] [] (.cons (fun _ _ _ h1 h2 => h2.stab h1) <| .cons (fun _ _ _ h1 h2 => h2.stab h1) <| Stab.nil) ?_ ?_
  · refine oc g_mv ?_
    refine oc (g_cE 0 (PG u1.heap.size 1 m (U8 (xs))) ent_seneschalbase_Bytes (fun u hB hs => (hBy.out u hB).mono fun e u2 ⟨v, e1, h1, h2⟩ => ⟨v, e1, h1.mono hs, h2⟩)) ?_
    exact oc (g_sE 0 1 (PG u1.heap.size 1 m (U8 (xs)))) on
  intro u2 v2_1 hv2_1 v2_2 hv2_2 HB2 sz2 K2
  simp only [fX, nK, nP, Wr.f, aK, pM] at K2
  simp only [setG, setN, setE, List.set_cons_zero, List.set_cons_succ]
  clear HB1
  obtain ⟨bo, co, zs, rfl, ho1, ho2, hco, hzo, hoC⟩ := hv2_2 rfl
  have K2_2 : Bk w.heap.size u2 [(false, bo, U8 (xs) ++ zs)] := ⟨.c ho2 hoC <| trivial, by simp⟩
  go_upto_region 3 with fail
  refine rgF K2_2 HB2 HB2.size [] [] [(0, 10, .slice (some ⟨bo, 0, none⟩) m co), (1, 11, .agg (U8 (ds)).toArray), (2, 12, (.slice sl m cap)), (3, 13, .agg (U8 (ds)).toArray), (4, 14, .bool true), (5, 15, .bool true), (6, 16, .slice (some ⟨bo, 0, none⟩) m co), (8, 18, (.slice sl m cap)), (10, 20, .bool true), (11, 21, .bool true), (12, 22, .bool true), (13, 23, .slice (some ⟨bo, 0, none⟩) m co), (14, 24, .int .i64 x), (15, 25, .int .u64 ((pf : Nat) : Int)), (16, 26, (.slice sl m cap)), (17, 27, .int .i64 x), (18, 28, .int .u64 ((pf : Nat) : Int)), (19, 29, .bool true), (20, 30, .bool true), (21, 31, .bool true), (22, 32, .slice (some ⟨bo, 0, none⟩) m co), (23, 33, (.slice sl m cap)), (24, 34, .bool true), (25, 35, .bool true), (26, 36, .bool true), (27, 37, .bool true), (28, 38, .bool true), (29, 4, .bool true)] [] [] [⟨7, 17, some 10, PF u2.heap.size N (U8 (ps))⟩, ⟨9, 19, some 10, PG u2.heap.size 1 N (U8 (ps))⟩] [] (.cons (fun _ _ _ h1 h2 => h2.stab h1) <| .cons (fun _ _ _ h1 h2 => h2.stab h1) <| Stab.nil) ?_ ?_
  · refine oc g_mv ?_
    refine oc (g_cK ent_sha_Sum (fun fZ uZ kZ sZ bZ => hS1.out uZ bo co zs bZ (kZ.cv 0) (kZ.lb sZ 0) hco)) ?_
    refine oc g_mv ?_
    refine oc (g_cb ent_seneschalref04_Sum (fun uZ bZ => hS2.out uZ bZ)) ?_
    refine oc (g_bn (fun uZ => eql_A8 ds hdB _ _ uZ)) ?_
    refine oc g_mv ?_
    refine oc g_mv ?_
    refine oc (g_cM 0 (PF u2.heap.size N (U8 (ps))) ent_sha_Pad (fun fZ uZ kZ sZ bZ => (hPd1.out uZ bo co zs bZ (kZ.cv 0) (kZ.lb sZ 0) hco).mono fun e u2 ⟨v, e1, h1, h2⟩ => ⟨v, e1, h1.mono sZ, h2⟩)) ?_
    refine oc g_mv ?_
    refine oc (g_cE 1 (PG u2.heap.size 1 N (U8 (ps))) ent_seneschalref04_Pad (fun u hB hs => (hPd2.out u hB).mono fun e u2 ⟨v, e1, h1, h2⟩ => ⟨v, e1, h1.mono hs, h2⟩)) ?_
    refine oc (g_cQ 0 1 (PF u2.heap.size N (U8 (ps))) (PG u2.heap.size 1 N (U8 (ps))) ent_seneschalbase_SameBytes (fun uZ x y bZ hx hy => hSB.out uZ x y _ _ bZ hx hy)) ?_
    refine oc g_pk ?_
    refine oc g_mv ?_
    refine oc g_mv ?_
    refine oc g_mv ?_
    refine oc (g_cK ent_sha_Prefix (fun fZ uZ kZ sZ bZ => hP1.out uZ bo co zs bZ (kZ.cv 0) (kZ.lb sZ 0) hco)) ?_
    refine oc g_mv ?_
    refine oc g_mv ?_
    refine oc (g_cb ent_seneschalref04_Prefix (fun uZ bZ => hP2.out uZ bZ)) ?_
    refine oc (g_bn (fun uZ => eql_u _ _ _ ((pf : Nat) : Int) ((pf : Nat) : Int) true uZ (by simp))) ?_
    refine oc g_pk ?_
    refine oc g_mv ?_
    refine oc g_mv ?_
    refine oc g_mv ?_
    refine oc (g_cK ent_seneschalbase_SameBytes (fun fZ uZ kZ sZ bZ => hSB2.out uZ bo co zs bZ (kZ.cv 0) (kZ.lb sZ 0) hco)) ?_
    refine oc g_pk ?_
    refine oc g_mv ?_
    refine oc (g_cb ent_seneschallaw04_works (fun uZ bZ => hW.out uZ bZ)) ?_
    refine oc g_pk ?_
    exact oc g_as on
  intro u3 v3_7 hv3_7 v3_9 hv3_9 HB3 sz3 K3
  simp only [fX, nK, nP, Wr.f, aK, pM] at K3
  simp only [setG, setN, setE, List.set_cons_zero, List.set_cons_succ]
  clear HB2
  go_wp2
  refine bodyPost_ret (v := .bool true) (by simp [results, Tryd.results3, go_sem, ]) rfl ⟨rfl, HB3⟩
end Go.Proofs.YtbgdcgboomdimaaDoor
