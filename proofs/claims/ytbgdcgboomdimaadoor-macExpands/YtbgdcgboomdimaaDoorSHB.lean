/- SHA-256: what is hashed: bytes and what is put behind them. -/

import Derived.Test.YtbgdcgboomdimaaDoorSH9
namespace Go.Proofs.YtbgdcgboomdimaaDoor
open Go.RowKit
set_option linter.unusedVariables false
set_option linter.unusedSimpArgs false
theorem CV.src {w : World} {b : Nat} {xs : List Value} (h : CV w b xs) : ∀ j v, xs[j]? = some v → w.cell? ((⟨b, 0, none⟩ : Addr).add j) = some v := fun j v hj => by
  rw [Addr.add_lit, Nat.zero_add]; exact (h j v hj).1
theorem slN (b N n m : Nat) (h : n + m = N) (hm : 0 < m) (w : World) : (Instr.sliceAt 22 (.slice (some ⟨b, 0, none⟩) N N) (some (.int .i64 n)) none none).run Tryd.prog w = .ok (.slice (some ⟨b, n, none⟩) m m) w := by
  subst h
  have h1 : (n : Int) ≤ (n + m : Nat) := by omega
  have h3 : n ≤ n + m := by omega
  have h5 : ¬ n + m = n := by omega
  have h6 : ¬ n + m - n = 0 := by omega
  have h7 : n + m - n = m := by omega
  have h8 : (n : Int) ≤ (n : Int) + (m : Int) := by omega
  have h9 : ¬ m = 0 := by omega
  simp [h8, h9, Instr.sliceAt, Instr.slice, go_sem, Tryd.underlying22, h1, h3, h5, h6, h7]
  try (intro h; omega)
section
variable {R : Rg} {P : Program} {ops : Array Oper} {Q : Exit → Act → World → Prop} {f : Nat → Bool} {t : Nat → Value} {u : World} {a : Act} {i : Nat} {o : Oper}
/-- A copy that writes nothing. -/
theorem g_cp0 {T T2 : TypeId} {x y : Operand} {vx vy v : Value} (hr : ∀ u, (Builtin.copy_ #[T, T2] o.type #[vx, vy]).run P u = .ok v u) (hop : o.op = .call { callee := .builtin .copy, args := [x, y].toArray, argTypes := [T, T2].toArray } := by rfl) (hx : evR R i o x = some vx := by rfl) (hy : evR R i o y = some vy := by rfl) (hv : some v = pickV i R.G := by rfl) (hc : R.chk ops i o = true := by rfl) : OG R P ops Q i o :=
  g_pure hv hc fun f t u a X K hK => wp_cp hop (X.ev hx) (X.ev hy) (hr u) hK
end
theorem cpN (b N : Nat) (ty : TypeId) (u : World) : (Builtin.copy_ #[22, 22] ty #[.slice (some ⟨b, 0, none⟩) N N, .slice none 0 0]).run Tryd.prog u = .ok (.int .i64 0) u := by
  obtain ⟨ti, hti, _⟩ := Option.map_eq_some_iff.1 infoB
  simp [hti, Builtin.copy_, go_sem, run_underlying Tryd.underlying22, sizeOf, typeInfo, Builtin.lenOf, Builtin.firstCells, loadCells, loadCellsFrom, storeCells]
set_option maxRecDepth 100000 in
set_option maxHeartbeats 4000000 in
theorem cPad_n (m N : Nat) (es : List Nat) (w : World) (hn : 0 ≤ 1000) (hm1 : m ≤ 1000) (hm : 0 < m) (hN : 0 + m = N) (hes : es.length = m) (hEn : Hid (∀ u, Calls Tryd.prog 41 #[.int .u64 ((0 : Nat) : Int)] u fun e u' => ∃ v, e = .returned v ∧ PF u.heap.size m (U8 (es)) u' v ∧ Below u.heap.size u u')) :
    Calls Tryd.prog 17 #[(.slice none 0 0)] w fun e w' => ∃ v, e = .returned v ∧ PF w.heap.size N (U8 (es)) w' v ∧ Below w.heap.size w w' := by
  go_enter Tryd.func17, Tryd.ntmps17
  have HB0 : Below w.heap.size w w := Below.refl _ _
  have K0_1 := Bk.nil (w.heap.size) w
  go_upto_region 1 with fail
  refine rgF K0_1 HB0 HB0.size [] [] [(0, 6, (.slice none 0 0)), (1, 7, .int .i64 ((0 : Nat) : Int)), (2, 8, .int .u64 ((0 : Nat) : Int))] [] [] [⟨3, 9, some 4, PF w.heap.size m (U8 (es))⟩, ⟨4, 3, none, PF w.heap.size m (U8 (es))⟩] [] (.cons (fun _ _ _ h1 h2 => h2.stab h1) <| .cons (fun _ _ _ h1 h2 => h2.stab h1) <| Stab.nil) ?_ ?_
  · refine oc g_mv ?_
    refine oc (g_ln Tryd.underlying22) ?_
    refine oc (g_op (fun ev uZ he => cvi64 uZ (by omega) rfl (he _ _ rfl))) ?_
    refine oc (g_cE 0 (PF w.heap.size m (U8 (es))) ent_sha_ending (fun u hB hs => (hEn.out u).mono fun e u2 ⟨v, e1, h1, h2⟩ => ⟨v, e1, h1.mono hs, h2⟩)) ?_
    exact oc (g_sE 0 1 (PF w.heap.size m (U8 (es)))) on
  intro u1 v1_3 hv1_3 v1_4 hv1_4 HB1 sz1 K1
  simp only [fX, nK, nP, Wr.f, aK, pM] at K1
  simp only [setG, setN, setE, List.set_cons_zero, List.set_cons_succ]
  clear HB0
  obtain ⟨bE, rfl, ho1, ho2, hoC⟩ := hv1_4 rfl
  have K1xen := Bk.moreT K0_1 K1 (by omega) ho1 ho2 hoC (by intro x hx; first | (simp at hx; done) | (simp at hx ⊢; omega))
  simp only [aK] at K1xen
  clear K1
  have hbE : w.heap.size ≤ bE := by omega
  go_upto_region 2 with fail
  refine rgF K1xen HB1 HB1.size [] [] [(0, 10, (.slice none 0 0)), (1, 11, .int .i64 ((0 : Nat) : Int)), (2, 12, .slice (some ⟨bE, 0, none⟩) m m), (3, 13, .int .i64 (m : Int)), (4, 14, .int .i64 (N : Int))] [] [] [⟨5, 15, some 6, PF u1.heap.size N (U8 (List.replicate N 0))⟩, ⟨6, 4, none, PF u1.heap.size N (U8 (List.replicate N 0))⟩] [] (.cons (fun _ _ _ h1 h2 => h2.stab h1) <| .cons (fun _ _ _ h1 h2 => h2.stab h1) <| Stab.nil) ?_ ?_
  · refine oc g_mv ?_
    refine oc (g_ln Tryd.underlying22) ?_
    refine oc g_mv ?_
    refine oc (g_ln Tryd.underlying22) ?_
    refine oc (g_bn (fun uZ => add_i _ _ ((0 : Nat) : Int) (m : Int) (N : Int) uZ (by omega) (by omega) (by omega))) ?_
    refine oc (g_ms 0 (PF u1.heap.size N (U8 (List.replicate N 0))) (mkB .i64 N (by omega)) (fun u hu => PF.new N _ _ u hu)) ?_
    exact oc (g_sE 0 1 (PF u1.heap.size N (U8 (List.replicate N 0)))) on
  intro u2 v2_5 hv2_5 v2_6 hv2_6 HB2 sz2 K2
  simp only [fX, nK, nP, Wr.f, aK, pM] at K2
  simp only [setG, setN, setE, List.set_cons_zero, List.set_cons_succ]
  clear HB1
  obtain ⟨bP, rfl, hq1, hq2, hqC⟩ := hv2_6 rfl
  have K2xpa := Bk.moreT K1xen K2 (by omega) hq1 hq2 hqC (by intro x hx; first | (simp at hx; done) | (simp at hx ⊢; omega))
  simp only [aK] at K2xpa
  clear K2
  have hbP : w.heap.size ≤ bP := by omega
  rw [show U8 (List.replicate N 0) = RBm [] (U8 (List.replicate m 0)) [] by rw [← hN, Nat.zero_add]; simp] at K2xpa
  go_upto_region 3 with fail
  refine rgP K2xpa HB2 HB2.size [] [] [(0, 16, .slice (some ⟨bP, 0, none⟩) N N), (1, 17, (.slice none 0 0)), (2, 18, .int .i64 0), (3, 5, .int .i64 0)] [] [] [] ?_ ?_
  · refine oc g_mv ?_
    refine oc g_mv ?_
    refine oc (g_cp0 (fun u => cpN bP N _ u)) ?_
    exact oc g_as on
  intro u3 HB3 sz3 K3
  simp only [fX, nK, nP, Wr.f, aK, pM] at K3
  simp only [setG, setN, List.set_cons_zero, List.set_cons_succ]
  clear HB2
  go_upto_region 4 with fail
  refine rgP K3 HB3 HB3.size [.no, .all 4 (RBm ([]) (U8 (es)) ([]))] [] [(0, 19, .slice (some ⟨bP, 0, none⟩) N N), (1, 20, .int .i64 0), (2, 21, .slice (some ⟨bP, 0, none⟩) m m), (3, 22, .slice (some ⟨bE, 0, none⟩) m m), (4, 23, .int .i64 (m : Int))] [] [] [] ?_ ?_
  · refine oc g_mv ?_
    refine oc g_mv ?_
    refine oc (g_sl (fun uZ => slN bP N 0 m hN hm uZ)) ?_
    refine oc g_mv ?_
    exact oc (g_cp 1 (c := 0) ([]) (U8 (List.replicate m 0)) [] (U8 es) Tryd.underlying22 info_uint8 (by rw [U8_len, hes]; exact (Nat.min_self m).symm) (fun f u kZ bZ => CV.src (kZ.cv 0)) U8_mem rfl (by rw [U8_len, U8_len, hes, List.length_replicate]) (hv := by rw [U8_len, hes]; rfl)) on
  intro u4 HB4 sz4 K4
  simp only [fX, nK, nP, Wr.f, aK, pM] at K4
  simp only [setG, setN, List.set_cons_zero, List.set_cons_succ]
  clear K3 HB3
  go_upto_region 5 with fail
  refine rgP K4 HB4 HB4.size [] [] [(0, 24, .slice (some ⟨bP, 0, none⟩) N N), (1, 2, .slice (some ⟨bP, 0, none⟩) N N)] [] [] [] ?_ ?_
  · refine oc g_mv ?_
    exact oc g_as on
  intro u5 HB5 sz5 K5
  simp only [fX, nK, nP, Wr.f, aK, pM] at K5
  simp only [setG, setN, List.set_cons_zero, List.set_cons_succ]
  clear K4 HB4
  go_wp2
  refine bodyPost_ret (v := .slice (some ⟨bP, 0, none⟩) N N) (by simp [results, Tryd.results17, go_sem]) rfl ⟨_, rfl, ⟨bP, rfl, hbP, (K5.lt 1), ?_⟩, HB5⟩
  have hfin := (K5.cv 1)
  rw [show RBm ([]) (U8 (es)) [] = U8 (es) from (List.append_nil _)] at hfin
  exact hfin
set_option maxRecDepth 100000 in
set_option maxHeartbeats 4000000 in
theorem cPad_s (n cap m N : Nat) (ad : Addr) (bs : List Nat) (es : List Nat) (w : World) (hn : n ≤ 1000) (hm1 : m ≤ 1000) (hm : 0 < m) (hN : n + m = N) (hes : es.length = m) (hbs : bs.length = n) (hmin : Hid (n = Nat.min n N)) (hsrc : Hid (∀ u, Below w.heap.size w u → ∀ j v, (U8 bs)[j]? = some v → u.cell? (ad.add j) = some v)) (hEn : Hid (∀ u, Calls Tryd.prog 41 #[.int .u64 ((n : Nat) : Int)] u fun e u' => ∃ v, e = .returned v ∧ PF u.heap.size m (U8 (es)) u' v ∧ Below u.heap.size u u')) :
    Calls Tryd.prog 17 #[(.slice (some ad) n cap)] w fun e w' => ∃ v, e = .returned v ∧ PF w.heap.size N (U8 (bs ++ es)) w' v ∧ Below w.heap.size w w' := by
  go_enter Tryd.func17, Tryd.ntmps17
  have HB0 : Below w.heap.size w w := Below.refl _ _
  have K0_1 := Bk.nil (w.heap.size) w
  go_upto_region 1 with fail
  refine rgF K0_1 HB0 HB0.size [] [] [(0, 6, (.slice (some ad) n cap)), (1, 7, .int .i64 ((n : Nat) : Int)), (2, 8, .int .u64 ((n : Nat) : Int))] [] [] [⟨3, 9, some 4, PF w.heap.size m (U8 (es))⟩, ⟨4, 3, none, PF w.heap.size m (U8 (es))⟩] [] (.cons (fun _ _ _ h1 h2 => h2.stab h1) <| .cons (fun _ _ _ h1 h2 => h2.stab h1) <| Stab.nil) ?_ ?_
  · refine oc g_mv ?_
    refine oc (g_ln Tryd.underlying22) ?_
    refine oc (g_op (fun ev uZ he => cvi64 uZ (by omega) rfl (he _ _ rfl))) ?_
    refine oc (g_cE 0 (PF w.heap.size m (U8 (es))) ent_sha_ending (fun u hB hs => (hEn.out u).mono fun e u2 ⟨v, e1, h1, h2⟩ => ⟨v, e1, h1.mono hs, h2⟩)) ?_
    exact oc (g_sE 0 1 (PF w.heap.size m (U8 (es)))) on
  intro u1 v1_3 hv1_3 v1_4 hv1_4 HB1 sz1 K1
  simp only [fX, nK, nP, Wr.f, aK, pM] at K1
  simp only [setG, setN, setE, List.set_cons_zero, List.set_cons_succ]
  clear HB0
  obtain ⟨bE, rfl, ho1, ho2, hoC⟩ := hv1_4 rfl
  have K1xen := Bk.moreT K0_1 K1 (by omega) ho1 ho2 hoC (by intro x hx; first | (simp at hx; done) | (simp at hx ⊢; omega))
  simp only [aK] at K1xen
  clear K1
  have hbE : w.heap.size ≤ bE := by omega
  go_upto_region 2 with fail
  refine rgF K1xen HB1 HB1.size [] [] [(0, 10, (.slice (some ad) n cap)), (1, 11, .int .i64 ((n : Nat) : Int)), (2, 12, .slice (some ⟨bE, 0, none⟩) m m), (3, 13, .int .i64 (m : Int)), (4, 14, .int .i64 (N : Int))] [] [] [⟨5, 15, some 6, PF u1.heap.size N (U8 (List.replicate N 0))⟩, ⟨6, 4, none, PF u1.heap.size N (U8 (List.replicate N 0))⟩] [] (.cons (fun _ _ _ h1 h2 => h2.stab h1) <| .cons (fun _ _ _ h1 h2 => h2.stab h1) <| Stab.nil) ?_ ?_
  · refine oc g_mv ?_
    refine oc (g_ln Tryd.underlying22) ?_
    refine oc g_mv ?_
    refine oc (g_ln Tryd.underlying22) ?_
    refine oc (g_bn (fun uZ => add_i _ _ ((n : Nat) : Int) (m : Int) (N : Int) uZ (by omega) (by omega) (by omega))) ?_
    refine oc (g_ms 0 (PF u1.heap.size N (U8 (List.replicate N 0))) (mkB .i64 N (by omega)) (fun u hu => PF.new N _ _ u hu)) ?_
    exact oc (g_sE 0 1 (PF u1.heap.size N (U8 (List.replicate N 0)))) on
  intro u2 v2_5 hv2_5 v2_6 hv2_6 HB2 sz2 K2
  simp only [fX, nK, nP, Wr.f, aK, pM] at K2
  simp only [setG, setN, setE, List.set_cons_zero, List.set_cons_succ]
  clear HB1
  obtain ⟨bP, rfl, hq1, hq2, hqC⟩ := hv2_6 rfl
  have K2xpa := Bk.moreT K1xen K2 (by omega) hq1 hq2 hqC (by intro x hx; first | (simp at hx; done) | (simp at hx ⊢; omega))
  simp only [aK] at K2xpa
  clear K2
  have hbP : w.heap.size ≤ bP := by omega
  rw [show U8 (List.replicate N 0) = RBm [] (U8 (List.replicate n 0)) (U8 (List.replicate m 0)) by rw [← hN, ← List.replicate_append_replicate, U8_app]; rfl] at K2xpa
  go_upto_region 3 with fail
  refine rgP K2xpa HB2 HB2.size [.no, .all 2 (RBm ([]) (U8 (bs)) (U8 (List.replicate m 0)))] [] [(0, 16, .slice (some ⟨bP, 0, none⟩) N N), (1, 17, (.slice (some ad) n cap)), (2, 18, .int .i64 (n : Int)), (3, 5, .int .i64 (n : Int))] [] [] [] ?_ ?_
  · refine oc g_mv ?_
    refine oc g_mv ?_
    refine oc (g_cp 1 [] (U8 (List.replicate n 0)) (U8 (List.replicate m 0)) (U8 bs) Tryd.underlying22 info_uint8 (by rw [U8_len, hbs]; exact hmin.out) (fun f u kZ bZ => hsrc.out u bZ) U8_mem rfl (by rw [U8_len, U8_len, hbs, List.length_replicate]) (hv := by rw [U8_len, hbs]; rfl)) ?_
    exact oc g_as on
  intro u3 HB3 sz3 K3
  simp only [fX, nK, nP, Wr.f, aK, pM] at K3
  simp only [setG, setN, List.set_cons_zero, List.set_cons_succ]
  clear HB2
  rw [show RBm [] (U8 (bs)) (U8 (List.replicate m 0)) = RBm (U8 (bs)) (U8 (List.replicate m 0)) [] by simp] at K3
  go_upto_region 4 with fail
  refine rgP K3 HB3 HB3.size [.no, .all 4 (RBm (U8 (bs)) (U8 (es)) ([]))] [] [(0, 19, .slice (some ⟨bP, 0, none⟩) N N), (1, 20, .int .i64 (n : Int)), (2, 21, .slice (some ⟨bP, n, none⟩) m m), (3, 22, .slice (some ⟨bE, 0, none⟩) m m), (4, 23, .int .i64 (m : Int))] [] [] [] ?_ ?_
  · refine oc g_mv ?_
    refine oc g_mv ?_
    refine oc (g_sl (fun uZ => slN bP N n m hN hm uZ)) ?_
    refine oc g_mv ?_
    exact oc (g_cp 1 (c := n) (U8 (bs)) (U8 (List.replicate m 0)) [] (U8 es) Tryd.underlying22 info_uint8 (by rw [U8_len, hes]; exact (Nat.min_self m).symm) (fun f u kZ bZ => CV.src (kZ.cv 0)) U8_mem ((U8_len _).trans hbs) (by rw [U8_len, U8_len, hes, List.length_replicate]) (hv := by rw [U8_len, hes]; rfl)) on
  intro u4 HB4 sz4 K4
  simp only [fX, nK, nP, Wr.f, aK, pM] at K4
  simp only [setG, setN, List.set_cons_zero, List.set_cons_succ]
  clear K3 HB3
  go_upto_region 5 with fail
  refine rgP K4 HB4 HB4.size [] [] [(0, 24, .slice (some ⟨bP, 0, none⟩) N N), (1, 2, .slice (some ⟨bP, 0, none⟩) N N)] [] [] [] ?_ ?_
  · refine oc g_mv ?_
    exact oc g_as on
  intro u5 HB5 sz5 K5
  simp only [fX, nK, nP, Wr.f, aK, pM] at K5
  simp only [setG, setN, List.set_cons_zero, List.set_cons_succ]
  clear K4 HB4
  go_wp2
  refine bodyPost_ret (v := .slice (some ⟨bP, 0, none⟩) N N) (by simp [results, Tryd.results17, go_sem]) rfl ⟨_, rfl, ⟨bP, rfl, hbP, (K5.lt 1), ?_⟩, HB5⟩
  have hfin := (K5.cv 1)
  rw [show RBm (U8 (bs)) (U8 (es)) [] = U8 (bs ++ es) from (List.append_nil _).trans (U8_app bs es).symm] at hfin
  exact hfin
/-- Bytes and what is put behind them. -/
def pad (xs : List Nat) : List Nat := xs ++ ending xs.length
theorem cPad (xs : List Nat) (v : Value) (w : World) (hin : IN w w.heap.size v xs) (hsn : ∀ n c, v = .slice none n c → c = 0) (hl : xs.length ≤ 1000) :
    Calls Tryd.prog 17 #[v] w fun e w' => ∃ v, e = .returned v ∧ PF w.heap.size (pad xs).length (U8 (pad xs)) w' v ∧ Below w.heap.size w w' := by
  obtain ⟨sl, cap, gb, go, rfl, h1, h2, h3, h4⟩ := hin
  have he := ending_B xs.length
  have hno := nou_lt xs.length
  have hpl : (pad xs).length = xs.length + (nou xs.length + 9) := by unfold pad; rw [List.length_append, he.len]
  rw [hpl]
  cases sl with
  | none =>
    have hc := hsn _ _ rfl
    have h0 : xs.length = 0 := by omega
    have hx : xs = [] := List.length_eq_zero_iff.1 h0
    subst hx hc
    have h := cPad_n (nou 0 + 9) (0 + (nou 0 + 9)) (ending 0) w (by decide) (by have := nou_lt 0; omega) (by omega) rfl he.len (fun u => cEnding 0 u (by decide))
    exact h
  | some ad =>
    have h := cPad_s xs.length cap (nou xs.length + 9) (xs.length + (nou xs.length + 9)) ad xs (ending xs.length) w hl (by omega) (by omega) rfl he.len rfl (by show _ = min _ _; omega) (fun u hB j v hj => by
      rcases h2 with h0 | h0
      · have := (List.getElem?_eq_some_iff.1 hj).1; rw [U8_len] at this; omega
      · cases h0
        have hj' : j < xs.length := by have := (List.getElem?_eq_some_iff.1 hj).1; rwa [U8_len] at this
        rw [Addr.add_lit, h4.below hB h3 j hj', ← hj]
        exact (U8_get xs j hj').symm) (fun u => cEnding xs.length u (by omega))
    exact h
end Go.Proofs.YtbgdcgboomdimaaDoor
