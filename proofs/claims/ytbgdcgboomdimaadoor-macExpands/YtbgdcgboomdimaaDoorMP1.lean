/- HMAC of parts with their lengths ahead. -/
import Derived.Test.YtbgdcgboomdimaaDoorMP0
namespace Go.Proofs.YtbgdcgboomdimaaDoor
open Go.RowKit
set_option linter.unusedVariables false
set_option linter.unusedSimpArgs false
theorem wpList_app {P : Program} {w w' : World} {ops : Array Oper} {rest : List Oper} {o : Oper} {a : Act} {Q : Exit → Act → World → Prop} (hgd : o.guard = none) (s x : Operand) (t : TypeId) (ho : o.op = .call { callee := .builtin .append, args := #[s, x], argTypes := #[t, t] }) (vs vx v : Value) (hs : a.eval s = vs) (hx : a.eval x = vx) (hr : ∀ ty, (Builtin.append_ #[t, t] ty #[vs, vx]).run P w = .ok v w') (h : wpList P ops Q rest (a.put o.dst v) w') : wpList P ops Q (o :: rest) a w := by
  refine wpList_plain hgd fun K hK => ?_
  unfold Oper.wp execOp
  simp only [ho, resolve, invoke, builtin, Sem.run_bind, Sem.run_pure, Result.andThen_ok, List.map_toArray, List.map_cons, List.map_nil, hs, hx, hr]
  exact hK _ _ h
theorem rows_two {wr u1 : World} {b5 m : Nat} {vs zs : List Value} {L : List (List Nat)} {lp p : List Nat} {av pv : Value} (t : TypeId) (Kv : CV wr b5 (vs ++ zs)) (hvl : vs.length = m) (hL : L.length = m) (hz2 : 2 ≤ zs.length) (hlt : b5 < wr.heap.size) (hIN : ∀ (k : Nat) (v : Value) (p : List Nat), vs[k]? = some v → L[k]? = some p → INb wr b5 v p) (hB1 : Below wr.heap.size wr u1) (hlp : INb u1 b5 av lp) (hp : INb u1 b5 pv p) :
    CV ((u1.alloc (.cells #[av, pv] t)).setCells b5 m [av, pv]) b5 (vs ++ [av, pv] ++ zs.drop 2) ∧ ∀ (k : Nat) (v : Value) (q : List Nat), (vs ++ [av, pv])[k]? = some v → (L ++ [lp, p])[k]? = some q → INb ((u1.alloc (.cells #[av, pv] t)).setCells b5 m [av, pv]) b5 v q := by
  have hB2 : Below u1.heap.size u1 (u1.alloc (.cells #[av, pv] t)) := balloc (bself u1) _
  constructor
  · have h : CV (u1.alloc (.cells #[av, pv] t)) b5 (vs ++ zs.take 2 ++ zs.drop 2) := by
      rw [List.append_assoc, List.take_append_drop]
      exact (Kv.below hB1 hlt).below hB2 (Nat.lt_of_lt_of_le hlt hB1.size)
    exact h.mid hvl (by rw [List.length_take]; simp; omega)
  · intro k v q hv hq
    refine INb.put ?_ _ _
    refine INb.below ?_ hB2
    by_cases hk : k < m
    · rw [List.getElem?_append_left (by omega)] at hv hq
      exact (hIN k v q hv hq).below hB1
    · rw [List.getElem?_append_right (by omega)] at hv hq
      rw [hvl] at hv
      rw [hL] at hq
      obtain ⟨j, ej⟩ : ∃ j, k - m = j := ⟨_, rfl⟩
      rw [ej] at hv hq
      match j with
      | 0 => simp at hv hq; subst hv hq; exact hlp
      | 1 => simp at hv hq; subst hv hq; exact hp
      | j + 2 => simp at hv
theorem CV.oth {u : World} {b b' o : Nat} {l ws : List Value} (h : CV u b l) (hne : b ≠ b') (hb : b < u.heap.size) : CV (u.setCells b' o ws) b l := fun j v hj => by
  have hk := World.heap_setCells_other u b' o ws hb hne
  rw [World.cell?_of_block (a := ⟨b, j, none⟩) hk, World.frozen?_of_block (a := ⟨b, j, none⟩) hk]
  exact h j v hj
theorem st32 {u : World} {b : Nat} {ds : List Nat} (hd : ds.length = 32) (hc : CV u b (U8 z32)) : (storeCells ⟨b, 0, none⟩ (U8 ds)).run Tryd.prog u = .ok () (u.setCells b 0 (U8 ds)) := by
  have hl : (U8 z32).length = 32 := by rw [U8_len]; rfl
  have hl2 : (U8 ds).length = 32 := by rw [U8_len]; exact hd
  exact run_storeCells_cells (P := Tryd.prog) b 0 (U8 ds) 0 u (fun j hj => by
    rw [Nat.zero_add, (hc j _ (List.getElem?_eq_getElem (by omega))).1]; rfl) (fun j hj => by
    rw [Nat.zero_add]; exact (hc j _ (List.getElem?_eq_getElem (by omega))).2) U8_mem
theorem CV.all {u : World} {b : Nat} {ys ds : List Value} (h : CV u b ys) (hl : ys.length = ds.length) : CV (u.setCells b 0 ds) b ds := by
  have h2 : CV u b ([] ++ ys ++ []) := by simpa using h
  have := h2.mid (o := 0) (news := ds) rfl hl
  simpa using this
theorem ent_mac_length (vs : Array Value) (w : World) : (callFunc 56 vs).run Tryd.prog w = .ok (.enter 56 vs) w := by kernel_rfl
theorem ent_mac_Parts (vs : Array Value) (w : World) : (callFunc 32 vs).run Tryd.prog w = .ok (.enter 32 vs) w := by kernel_rfl
set_option maxRecDepth 100000 in
set_option maxHeartbeats 1000000 in
theorem cLength (sl : Option Addr) (n cap : Nat) (w : World) (hn : n ≤ 1000000) :
    Calls Tryd.prog 56 #[.slice sl n cap] w fun e w' => ∃ v, e = .returned v ∧ PF w.heap.size 4 (U8 (lnB n)) w' v ∧ Below w.heap.size w w' := by
  go_enter Tryd.func56, Tryd.ntmps56
  have HB0 : Below w.heap.size w w := Below.refl _ _
  have K0_1 := Bk.nil (w.heap.size) w
  go_upto_region 1 with fail
  refine rgP K0_1 HB0 HB0.size [] [] [(0, 4, (.slice sl n cap)), (1, 5, .int .i64 ((n : Nat) : Int)), (2, 6, .int .u32 ((n : Nat) : Int)), (3, 3, .int .u32 ((n : Nat) : Int))] [] [] [] ?_ ?_
  · refine oc g_mv ?_
    refine oc (g_ln Tryd.underlying22) ?_
    refine oc (g_op (fun ev uZ he => cvi32 uZ (by omega) rfl (he _ _ rfl))) ?_
    exact oc g_as on
  intro u1 HB1 sz1 K1
  simp only [fX, nK, nP, Wr.f, aK, pM] at K1
  simp only [setG, setN, List.set_cons_zero, List.set_cons_succ]
  clear HB0
  go_upto_region 2 with fail
  refine rgF K1 HB1 HB1.size [] [] [(0, 7, .int .u32 ((n : Nat) : Int)), (1, 8, .int .u32 ((n >>> 24 : Nat) : Int)), (2, 9, .int .u8 (((n >>> 24) % 256 : Nat) : Int)), (3, 10, .int .u32 ((n : Nat) : Int)), (4, 11, .int .u32 ((n >>> 16 : Nat) : Int)), (5, 12, .int .u8 (((n >>> 16) % 256 : Nat) : Int)), (6, 13, .int .u32 ((n : Nat) : Int)), (7, 14, .int .u32 ((n >>> 8 : Nat) : Int)), (8, 15, .int .u8 (((n >>> 8) % 256 : Nat) : Int)), (9, 16, .int .u32 ((n : Nat) : Int)), (10, 17, .int .u8 ((n % 256 : Nat) : Int))] [] [] [⟨11, 18, some 12, PF w.heap.size 4 (U8 [(n >>> 24) % 256, (n >>> 16) % 256, (n >>> 8) % 256, n % 256])⟩, ⟨12, 2, none, PF w.heap.size 4 (U8 [(n >>> 24) % 256, (n >>> 16) % 256, (n >>> 8) % 256, n % 256])⟩] [] (.cons (fun _ _ _ h1 h2 => h2.stab h1) <| .cons (fun _ _ _ h1 h2 => h2.stab h1) <| Stab.nil) ?_ ?_
  · refine oc g_mv ?_
    refine oc (g_bn (fun uZ => shr32 _ _ n 24 uZ (by decide))) ?_
    refine oc (g_op (fun ev uZ he => cv328 uZ rfl (he _ _ rfl))) ?_
    refine oc g_mv ?_
    refine oc (g_bn (fun uZ => shr32 _ _ n 16 uZ (by decide))) ?_
    refine oc (g_op (fun ev uZ he => cv328 uZ rfl (he _ _ rfl))) ?_
    refine oc g_mv ?_
    refine oc (g_bn (fun uZ => shr32 _ _ n 8 uZ (by decide))) ?_
    refine oc (g_op (fun ev uZ he => cv328 uZ rfl (he _ _ rfl))) ?_
    refine oc g_mv ?_
    refine oc (g_op (fun ev uZ he => cv328 uZ rfl (he _ _ rfl))) ?_
    refine oc (g_bR 0 (PF w.heap.size 4 (U8 [(n >>> 24) % 256, (n >>> 16) % 256, (n >>> 8) % 256, n % 256])) [0, 1, 2, 3] [.int .u8 (((n >>> 24) % 256 : Nat) : Int), .int .u8 (((n >>> 16) % 256 : Nat) : Int), .int .u8 (((n >>> 8) % 256 : Nat) : Int), .int .u8 ((n % 256 : Nat) : Int)] (U8 [(n >>> 24) % 256, (n >>> 16) % 256, (n >>> 8) % 256, n % 256]) (bsB4 _ _ _ _) (fun u hu => PF.new 4 _ _ u (Nat.le_trans HB1.size hu))) ?_
    exact oc (g_sE 0 1 (PF w.heap.size 4 (U8 [(n >>> 24) % 256, (n >>> 16) % 256, (n >>> 8) % 256, n % 256]))) on
  intro u2 v2_11 hv2_11 v2_12 hv2_12 HB2 sz2 K2
  simp only [fX, nK, nP, Wr.f, aK, pM] at K2
  simp only [setG, setN, setE, List.set_cons_zero, List.set_cons_succ]
  clear K1 HB1
  have hz := hv2_12 rfl
  go_wp2
  refine bodyPost_ret (v := v2_12) (by simp [results, Tryd.results56, go_sem]) rfl ⟨_, rfl, hz, HB2⟩
set_option maxRecDepth 100000 in
set_option maxHeartbeats 1000000 in
theorem cMParts_core (n gcap : Nat) (gsl : Option Addr) (kv : Value) (pF : Nat → Value) (ln : Nat → Nat) (pS : Nat → List Nat) (lF : Nat → List (List Nat)) (wk ds : List Nat) (w : World) (hn : n ≤ 10000) (hds : ds.length = 32)
    (hrow : Hid (0 < n → ∃ gl go, gsl = some ⟨gl, go, none⟩ ∧ gl < w.heap.size ∧ ∀ i, i < n → w.cell? ⟨gl, go + i, none⟩ = some (pF i))) (hpart : Hid (∀ i, i < n → ∃ sv cv, pF i = .slice sv (ln i) cv ∧ IN w w.heap.size (pF i) (pS i))) (hln : Hid (∀ i, ln i ≤ 1000)) (hln2 : (lF n).length = 2 * n) (hlF : Hid (∀ i, i < n → lF (i + 1) = lF i ++ [lnB (ln i), pS i] ∧ (lF i).length = 2 * i))
    (hLn : Hid (∀ i, i < n → ∀ (sv : Option Addr) (cv : Nat) (u : World), Calls Tryd.prog 56 #[.slice sv (ln i) cv] u fun e u' => ∃ v, e = .returned v ∧ PF u.heap.size 4 (U8 (lnB (ln i))) u' v ∧ Below u.heap.size u u'))
    (hWh : Hid (∀ (u : World), Below w.heap.size w u → Calls Tryd.prog 54 #[kv] u fun e u' => e = .returned (.agg (U8 (wk)).toArray) ∧ Below u.heap.size u u'))
    (hHm : Hid (∀ (u : World) (y : Value), Below w.heap.size w u → LV u y (lF n) → Calls Tryd.prog 53 #[.agg (U8 (wk)).toArray, y] u fun e u' => e = .returned (.agg (U8 (ds)).toArray) ∧ Below u.heap.size u u')) :
    Calls Tryd.prog 32 #[kv, (.slice gsl n gcap)] w fun e w' => e = .returned (.agg (U8 (ds)).toArray) ∧ Below w.heap.size w w' := by
  go_enter Tryd.func32, Tryd.ntmps32
  go_upto_region 1 with fail
  generalize hC : (w.alloc (.cells (Z32b : List Value).toArray 24)) = v0 at *
  have HB0 : Below w.heap.size w v0 := by rw [← hC]; exact balloc (bself w) _
  have K0 : Bk w.heap.size v0 [(true, w.heap.size, U8 (z32))] := by rw [← hC]; exact (Bk.nil _ w).ad
  clear hC
  have hv0s := HB0.size
  refine rgF K0 HB0 HB0.size [] [] [(0, 8, (.slice gsl n gcap)), (1, 9, .int .i64 ((n : Nat) : Int)), (2, 10, .int .i64 ((2 * n : Nat) : Int))] [] [] [⟨3, 11, some 4, PM v0.heap.size (2 * n)⟩, ⟨4, 5, none, PM v0.heap.size (2 * n)⟩] [] (.cons (fun _ _ _ h1 h2 => h2.stab h1) <| .cons (fun _ _ _ h1 h2 => h2.stab h1) <| Stab.nil) ?_ ?_
  · refine oc g_mv ?_
    refine oc (g_ln Tryd.underlying37) ?_
    refine oc (g_bn (fun uZ => mul_i _ _ 2 (n : Int) ((2 * n : Nat) : Int) uZ (by omega) (by omega) (by omega))) ?_
    refine oc (g_vE 0 (PM v0.heap.size (2 * n)) (fun ev u he bZ hs => mkRE (by omega) u hs rfl (he _ _ rfl) (he _ _ rfl))) ?_
    exact oc (g_sE 0 1 (PM v0.heap.size (2 * n))) on
  intro u1 v1_3 hv1_3 v1_4 hv1_4 HB1 sz1 K1
  simp only [fX, nK, nP, Wr.f, aK, pM] at K1
  simp only [setG, setN, setE, List.set_cons_zero, List.set_cons_succ]
  clear HB0
  obtain ⟨b5, zs, rfl, ho1, ho2, hz0, hoC⟩ := hv1_4 rfl
  have K1xrow := Bk.moreT K0 K1 (by omega) ho1 ho2 hoC (by intro x hx; first | (simp at hx; done) | (simp at hx ⊢; omega))
  simp only [aK] at K1xrow
  clear K1
  have hb5 : w.heap.size + 1 ≤ b5 := by have := K0.lt 0; omega
  go_upto_region 2 with fail
  refine rgP K1xrow HB1 HB1.size [] [] [(0, 12, (.slice gsl n gcap)), (1, 13, .int .i64 ((n : Nat) : Int)), (2, 14, (Go.Value.int Go.IntKind.i64 0))] [] [] [] ?_ ?_
  · refine oc g_mv ?_
    refine oc (g_ln Tryd.underlying37) ?_
    exact oc g_mv on
  intro u2 HB2 sz2 K2
  simp only [fX, nK, nP, Wr.f, aK, pM] at K2
  simp only [setG, setN, List.set_cons_zero, List.set_cons_succ]
  clear HB1
  go_wp2_with fail
  go_loopw [14, 5] (fun s14 s5 wr => ∃ (i b5 : Nat) (vs zs : List Value), i ≤ n ∧ s14 = .int .i64 ((i : Nat) : Int) ∧ s5 = .slice (some ⟨b5, 0, none⟩) (2 * i) (2 * n) ∧ w.heap.size + 1 ≤ b5 ∧ b5 < wr.heap.size ∧ vs.length = 2 * i ∧ zs.length = 2 * n - 2 * i ∧ Hid (CV wr b5 (vs ++ zs)) ∧ Hid (∀ (k : Nat) (v : Value) (p : List Nat), vs[k]? = some v → (lF i)[k]? = some p → INb wr b5 v p) ∧ Hid (CV wr w.heap.size (U8 (z32))) ∧ Below w.heap.size w wr) (fun s14 _ _ => n - (intOf s14).toNat)
  case atStart => exact ⟨0, b5, [], zs, by omega, rfl, rfl, hb5, (K2.lt 1), rfl, by omega, (K2.cv 1), (fun k v p h => by simp at h), (K2.cv 0), HB2⟩
  case round =>
    clear hb5 hz0
    obtain ⟨i, b5, vs, zs, hi, rfl, rfl, hb5, hlt5, hvl, hzl, Kv, hIN, K4, HBr⟩ := hrel
    clear HB2
    by_cases hj : i < n
    · have hl1 : decide ((i : Int) < n) = true := by simp; omega
      have hl2 : (i : Int) < n := by omega
      obtain ⟨gl, go, rfl, hgl, hcl⟩ := hrow.out (by omega)
      have hc := hcl i hj
      obtain ⟨sv, cv, ev1, hinp⟩ := hpart.out i hj
      have hnl := hln.out i
      have hLi := hLn.out i hj
      have hstep := hlF.out i hj
      rw [ev1] at hc hinp
      obtain ⟨lv, elv⟩ : ∃ x, ln i = x := ⟨_, rfl⟩
      rw [elv] at hc hinp hstep hnl hLi
      have hLi : Hid _ := hLi
      clear hcl
      have hcell : wr.cell? ⟨gl, go + i, none⟩ = some (.slice sv lv cv) := (HBr.cell (p := ⟨gl, go + i, none⟩) hgl).trans hc
      have e1 : IntKind.i64.wrap ((i : Int) + 1) = ((i + 1 : Nat) : Int) := by rw [IntKind.wrap_i64]; omega
      have hstep : Hid _ := hstep
      have hinp : Hid _ := hinp
      go_wp2_with (first | (at_builtin; refine wpList_app rfl _ _ 37 rfl _ _ _ rfl rfl hap ?_; clear hap) | (go_at_call 56; refine (hLi.out sv cv _).mono ?_; rintro e u1 ⟨v1, rfl, ⟨bL, rfl, q1, q2, q3⟩, hB1⟩; have hap := fun ty => app_two (ty := ty) (v := .slice (some ⟨bL, 0, none⟩) 4 4) (p := .slice sv lv cv) (Kv.out.below hB1 hlt5) hvl hzl (by omega) ⟨_, _, _, rfl⟩ ⟨_, _, _, rfl⟩ (Nat.lt_of_lt_of_le hlt5 hB1.size)))
      obtain ⟨hst1, hst2⟩ := hstep.out
      have hpI : INb u1 b5 (.slice sv lv cv) (pS i) := ((IN.below hinp.out (bstep HBr hB1)).nb (by omega) (bstep HBr hB1).size)
      have hlI : INb u1 b5 (.slice (some ⟨bL, 0, none⟩) 4 4) (lnB lv) := ⟨_, _, bL, 0, rfl, Nat.le_refl _, .inr rfl, q2, by omega, fun j hj => by rw [Nat.zero_add]; exact (q3 j _ (U8_get _ j hj)).1⟩
      obtain ⟨r1, r2⟩ := rows_two 22 Kv.out hvl hst2 (by omega) hlt5 hIN.out hB1 hlI hpI
      have hB2 := balloc (bstep HBr hB1) (.cells #[.slice (some ⟨bL, 0, none⟩) 4 4, .slice sv lv cv] 22)
      refine ⟨⟨i + 1, b5, vs ++ [Value.slice (some ⟨bL, 0, none⟩) 4 4, Value.slice sv lv cv], zs.drop 2, by omega, by simp, by simp; omega, hb5, ?_, by simp [hvl]; omega, by rw [List.length_drop]; omega, r1, ?_, ?_, ?_⟩, ?_⟩
      · rw [size_setCells]; exact Nat.lt_of_lt_of_le hlt5 (Nat.le_trans hB1.size (balloc (bself u1) _).size)
      · rw [hst1]; exact r2
      · exact ((K4.out.below hB1 (by omega)).below (balloc (bself u1) _) (Nat.lt_of_lt_of_le (by omega) hB1.size)).oth (by omega) (by have := hB2.size; have := hB1.size; have := (balloc (bself u1) (.cells #[.slice (some ⟨bL, 0, none⟩) 4 4, .slice sv lv cv] 22)).size; omega)
      · exact below_setCells (by omega) _ _ _ hB2
      · simp [intOf]; omega
    · have hl1 : decide ((i : Int) < n) = false := by simp; omega
      have hl2 : ¬ (i : Int) < n := by omega
      have hin : i = n := by omega
      subst hin
      have hU : (U8 ds).length = 32 := by rw [U8_len]; exact hds
      go_wp2_with (first | (go_at_call 54; refine (hWh.out _ HBr).mono ?_; rintro e u1 ⟨rfl, hB1⟩) | (go_at_call 53; refine (hHm.out u1 _ (bstep HBr hB1) ⟨_, _, b5, 0, by rw [hln2]; , .inr rfl, Nat.lt_of_lt_of_le hlt5 hB1.size, PL_of (Kv.out.below hB1 hlt5) (by omega) (fun k v p hv hp => ((hIN.out k v p hv hp).below hB1).inn)⟩).mono ?_; rintro e u2 ⟨rfl, hB2⟩; have hst := st32 hds ((K4.out.below hB1 (by omega)).below hB2 (Nat.lt_of_lt_of_le (by omega) hB1.size))))
      have K4b := (K4.out.below hB1 (by omega)).below hB2 (Nat.lt_of_lt_of_le (by omega) hB1.size)
      refine bodyPost_ret (res_cell Tryd.results32 rfl (K4b.all (by rw [U8_len, U8_len, hds]; rfl)) Tryd.underlying24 rfl (by rw [U8_len, hds]; exact info__32_uint8)) rfl ⟨rfl, below_setCells (Nat.le_refl _) _ _ _ (bstep (bstep HBr hB1) hB2)⟩
theorem cMParts (ks : List Nat) (ps : List (List Nat)) (v y : Value) (w : World) (hV : GV w) (hin : IN w w.heap.size v ks) (hsn : ∀ n c, v = .slice none n c → c = 0) (hk : ∀ x ∈ ks, x < 256) (hkl : ks.length ≤ 1000) (hy : LV w y ps) (hn : ps.length ≤ 800) (hx : ∀ p ∈ ps, ∀ x ∈ p, x < 256) (hl : ∀ p ∈ ps, p.length ≤ 1000) :
    Calls Tryd.prog 32 #[v, y] w fun e w' => e = .returned (.agg (U8 (mac ks (lnP ps).flatten)).toArray) ∧ Below w.heap.size w w' := by
  obtain ⟨gsl, gcap, gl, go, rfl, h1, h2, h3⟩ := hy
  obtain ⟨vs, w1, w2, w3⟩ := h3.vals
  have hf := lnP_f hl
  refine cMParts_core ps.length gcap gsl v (fun i => vs.getD i undef) (fun i => (ps.getD i []).length) (fun i => ps.getD i []) (fun i => lnP (ps.take i)) (whl ks) (mac ks (lnP ps).flatten) w (by omega) (mac_B _ _).len (fun h0 => ⟨gl, go, h1.resolve_left (by omega), h2, fun i hi => ?_⟩) (fun i hi => ?_) (fun i => ?_) (by rw [List.take_length, lnP_len]) (fun i hi => ⟨lnP_step hi, by rw [lnP_len, List.length_take]; omega⟩) (fun i hi sv cv u => cLength sv _ cv u ?_) (fun u hB => cWhole ks v u (hV.below hB hV.sz) ((hin.below hB).mono hB.size) hsn hk hkl) (fun u y hB hy => ?_)
  · have hi2 : i < vs.length := by omega
    have e : vs.getD i undef = vs[i] := by rw [List.getD_eq_getElem?_getD, List.getElem?_eq_getElem hi2]; rfl
    rw [e]; exact w2 i _ (List.getElem?_eq_getElem hi2)
  · have hi2 : i < vs.length := by omega
    have e : vs.getD i undef = vs[i] := by rw [List.getD_eq_getElem?_getD, List.getElem?_eq_getElem hi2]; rfl
    have e2 : ps.getD i [] = ps[i] := by rw [List.getD_eq_getElem?_getD, List.getElem?_eq_getElem hi]; rfl
    have h := w3 i _ _ (List.getElem?_eq_getElem hi2) (List.getElem?_eq_getElem hi)
    simp only [e, e2]
    have h' := h
    obtain ⟨sl, cap, gb, g2, q1, q2⟩ := h
    exact ⟨sl, cap, q1, h'⟩
  · by_cases hi : i < ps.length
    · have e2 : ps.getD i [] = ps[i] := by rw [List.getD_eq_getElem?_getD, List.getElem?_eq_getElem hi]; rfl
      simp only [e2]; exact hl _ (List.getElem_mem hi)
    · rw [List.getD_eq_getElem?_getD, List.getElem?_eq_none (by omega)]; simp
  · have e2 : ps.getD i [] = ps[i] := by rw [List.getD_eq_getElem?_getD, List.getElem?_eq_getElem hi]; rfl
    rw [e2]; exact Nat.le_trans (hl _ (List.getElem_mem hi)) (by omega)
  · simp only [List.take_length] at hy
    exact cHmac (whl ks) (lnP ps) y u (hV.below hB hV.sz) (whl_B hk) hy (by rw [lnP_len]; omega) (lnP_m hx) (lnP_l hl) (by omega)
end Go.Proofs.YtbgdcgboomdimaaDoor
