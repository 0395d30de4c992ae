/- AES: the keys of all rounds. -/
import Derived.Test.YtlcjbnhfmcnnfaaDoorAE7
namespace Go.Proofs.YtlcjbnhfmcnnfaaDoor
open Go.RowKit
set_option linter.unusedVariables false
set_option linter.unusedSimpArgs false
theorem res_ct {P : Program} {fn : Func} {tmps : Array Value} {s t : Nat} {T : TypeId} {b : Nat} {cs : List Value} {d : TypeDesc} {v : Value} {w : World} (h : fn.results = #[.cell s T, .tmp t]) (hs : tmps[s]?.getD undef = .pointer (some ⟨b, 0, none⟩)) (ht : tmps[t]?.getD undef = v) (hc : CV w b cs) (hu : P.underlying T = some d) (hd : d.isRow = true) (hi : (P.info? T).map (·.size) = some cs.length) : (results fn tmps).run P w = .ok (.tuple #[.agg cs.toArray, v]) w := by
  have hl := run_loadVar_mid (P := P) w b 0 T cs d hc.range hu hd hi
  unfold results
  rw [h]
  simp [hs, ht, asAddr, hl]
theorem res_cct {P : Program} {fn : Func} {tmps : Array Value} {s s2 t : Nat} {T T2 : TypeId} {b b2 : Nat} {cs cs2 : List Value} {d d2 : TypeDesc} {v : Value} {w : World} (h : fn.results = #[.cell s T, .cell s2 T2, .tmp t]) (hs : tmps[s]?.getD undef = .pointer (some ⟨b, 0, none⟩)) (hs2 : tmps[s2]?.getD undef = .pointer (some ⟨b2, 0, none⟩)) (ht : tmps[t]?.getD undef = v) (hc : CV w b cs) (hc2 : CV w b2 cs2) (hu : P.underlying T = some d) (hu2 : P.underlying T2 = some d2) (hd : d.isRow = true) (hd2 : d2.isRow = true) (hi : (P.info? T).map (·.size) = some cs.length) (hi2 : (P.info? T2).map (·.size) = some cs2.length) : (results fn tmps).run P w = .ok (.tuple #[.agg cs.toArray, .agg cs2.toArray, v]) w := by
  have hl := run_loadVar_mid (P := P) w b 0 T cs d hc.range hu hd hi
  have hl2 := run_loadVar_mid (P := P) w b2 0 T2 cs2 d2 hc2.range hu2 hd2 hi2
  unfold results
  rw [h]
  simp [hs, hs2, ht, asAddr, hl, hl2]
theorem slW16 (b : Nat) (w : World) : (Instr.sliceAt 32 (.pointer (some ⟨b, 0, none⟩)) none none none).run Tryd.prog w = .ok (.slice (some ⟨b, 0, none⟩) 16 16) w := by
  go_simp
theorem neq_i (p q : Operand) (x y : Int) (b : Bool) (w : World) (h : decide (x ≠ y) = b) : (do eqGuard .neq 3 p q (.int .i64 x) (.int .i64 y); binOp .neq 3 (.int .i64 x) (.int .i64 y) : Sem Value).run Tryd.prog w = .ok (.bool b) w := by
  subst h; go_simp
  all_goals first | rfl | (by_cases h : x = y <;> simp [h])
theorem sp0 : U8 z176 = RBm [] (U8 z16) (U8 (List.replicate 160 0)) := by
  unfold RBm U8 z176 z16
  rw [List.nil_append, ← List.map_append, List.replicate_append_replicate]
theorem sp1 (X : List Nat) (i : Nat) (h : i < 10) : U8 (X ++ List.replicate (160 - 16 * i) 0) = RBm (U8 X) (U8 z16) (U8 (List.replicate (144 - 16 * i) 0)) := by
  unfold RBm U8 z16
  rw [show 160 - 16 * i = 16 + (144 - 16 * i) by omega, List.replicate_append_replicate.symm, List.map_append, List.map_append, List.append_assoc]
theorem sp2 (X r : List Nat) (i : Nat) (h : i < 10) : RBm (U8 X) (U8 r) (U8 (List.replicate (144 - 16 * i) 0)) = U8 ((X ++ r) ++ List.replicate (160 - 16 * (i + 1)) 0) := by
  unfold RBm U8
  rw [show 160 - 16 * (i + 1) = 144 - 16 * i by omega, List.map_append, List.map_append]
/-- The keys of the first rounds, one behind the other. -/
def kyX (key : List Nat) : Nat → List Nat
  | 0 => key
  | i + 1 => kyX key i ++ rky key (i + 1)
theorem rky_zero {key : List Nat} (hk : BY 16 key) : rky key 0 = key := ext_n (rky_B hk 0).len hk.len fun i hi => rky_0 hk hi
theorem kyX_B {key : List Nat} (hk : BY 16 key) : ∀ i, BY (16 * (i + 1)) (kyX key i)
  | 0 => hk
  | i + 1 => by
    have := (kyX_B hk i).app (rky_B hk (i + 1))
    rwa [show 16 * (i + 1) + 16 = 16 * (i + 1 + 1) by omega] at this
theorem kyX_at {key : List Nat} (hk : BY 16 key) {i : Nat} {j : Nat} (hj : j < 16) : ∀ N, i ≤ N → (kyX key N).getD (16 * i + j) 0 = (rky key i).getD j 0
  | 0, h => by
    have : i = 0 := by omega
    subst this; rw [rky_zero hk, kyX, show 16 * 0 + j = j by omega]
  | N + 1, h => by
    rw [kyX]
    by_cases e : i = N + 1
    · subst e; rw [gapp2 (by rw [(kyX_B hk N).len]; omega), (kyX_B hk N).len]; congr 1; omega
    · rw [gapp1 (by rw [(kyX_B hk N).len]; omega)]; exact kyX_at hk hj N (by omega)
theorem rowB_len {l : List Nat} {k : Nat} (h : 16 * k + 16 ≤ l.length) : (rowB l k).length = 16 := by
  unfold rowB; rw [List.length_take, List.length_drop]; omega
theorem rowB_get {l : List Nat} {k j : Nat} (h : j < 16) : (rowB l k).getD j 0 = l.getD (16 * k + j) 0 := by
  unfold rowB
  rw [List.getD_eq_getElem?_getD, List.getD_eq_getElem?_getD, List.getElem?_take_of_lt h, List.getElem?_drop]
theorem row_ky {key : List Nat} (hk : BY 16 key) {i : Nat} (hi : i ≤ 10) : rowB (kyX key 10) i = rky key i :=
  ext_n (rowB_len (by rw [(kyX_B hk 10).len]; omega)) (rky_B hk i).len fun j hj => by rw [rowB_get hj, kyX_at hk hj 10 hi]
theorem row_at {l r : List Nat} {k : Nat} (h : 16 * k + 16 ≤ l.length) (hr : r.length = 16) (hg : ∀ j, j < 16 → l.getD (16 * k + j) 0 = r.getD j 0) : ∀ j v, (U8 r)[j]? = some v → (U8 l)[16 * k + j]? = some v := fun j v hj => by
  have hlt : j < 16 := by have := (List.getElem?_eq_some_iff.1 hj).1; rwa [U8_len, hr] at this
  rw [U8_get r j (by omega)] at hj
  rw [U8_get l _ (by omega), hg j hlt]; exact hj
theorem xt_tm : ∀ a, a < 256 → xt a = tm a 2 := by decide +kernel
set_option maxRecDepth 100000 in
set_option maxHeartbeats 4000000 in
theorem cKeys_n (n cap : Nat) (sl : Option Addr) (w : World) (hz176 : z176.length = 176) (hn : decide ((n : Int) ≠ 16) = true) :
    Calls Tryd.prog 19 #[(.slice sl n cap)] w fun e w' => e = .returned (.tuple #[.agg (U8 z176).toArray, .int .i64 2]) ∧ Below w.heap.size w w' := by
  go_enter Tryd.func19, Tryd.ntmps19
  have HB0 : Below w.heap.size w w := Below.refl _ _
  have K0_1 := Bk.nil (w.heap.size) w
  go_upto_region 0 with fail
  refine rgP K0_1 HB0 HB0.size [] [(0, 2, U8 (z176), none)] [(1, 3, (Go.Value.int Go.IntKind.i64 0))] [] [] [] ?_ ?_
  · refine oc (g_al 0 al__11__16_uint8) ?_
    exact oc g_as on
  intro u1 b1_0 HB1 sz1 K1
  simp only [fX, nK, nP, Wr.f, aK, pM] at K1
  simp only [setG, setN, List.set_cons_zero, List.set_cons_succ]
  clear HB0
  go_upto_region 1 with fail
  refine rgP K1 HB1 HB1.size [] [(0, 4, U8 (z176), none)] [] [] [] [] ?_ ?_
  · exact oc (g_al 0 al__11__16_uint8) on
  intro u2 b2_0 HB2 sz2 K2
  simp only [fX, nK, nP, Wr.f, aK, pM] at K2
  simp only [setG, setN, List.set_cons_zero, List.set_cons_succ]
  clear K1 HB1
  go_upto_region 2 with fail
  refine rgP K2 HB2 HB2.size [] [] [(0, 7, (.slice sl n cap)), (1, 8, .int .i64 (n : Int)), (2, 9, .bool true)] [] [] [] ?_ ?_
  · refine oc g_mv ?_
    refine oc (g_ln Tryd.underlying24) ?_
    exact oc (g_bn (fun uZ => neq_i _ _ (n : Int) 16 true uZ hn)) on
  intro u3 HB3 sz3 K3
  simp only [fX, nK, nP, Wr.f, aK, pM] at K3
  simp only [setG, setN, List.set_cons_zero, List.set_cons_succ]
  clear K2 HB2
  go_upto_region 3 with fail
  refine rgP K3 HB3 HB3.size [.all 1 (U8 (z176))] [] [(0, 10, .agg (U8 (z176)).toArray), (2, 3, (Go.Value.int Go.IntKind.i64 2))] [] [] [true, false] ?_ ?_
  · refine oc (g_lR 1 0 (cs := U8 (z176)) (fun j v h => by rw [Nat.zero_add]; exact h) Tryd.underlying33 (by rw [U8_len, hz176]; exact info__11__16_uint8)) ?_
    refine oc (g_st 0 info__11__16_uint8 (h1 := U8_one _) (hm := by rw [U8_len, hz176]) (hl := by first | rw [U8_len, U8_len, hz176, show z176.length = 176 from hz176] | rfl)) ?_
    exact oc g_as on
  intro u4 HB4 sz4 K4
  simp only [fX, nK, nP, Wr.f, aK, pM] at K4
  simp only [setG, setN, List.set_cons_zero, List.set_cons_succ]
  clear K3 HB3
  go_wp2
  refine bodyPost_ret (res_ct Tryd.results19 rfl rfl (K4.cv 0) Tryd.underlying33 rfl (by rw [U8_len, hz176]; exact info__11__16_uint8)) rfl ⟨rfl, HB4⟩
set_option maxRecDepth 100000 in
set_option maxHeartbeats 4000000 in
theorem cKeys_s (cap : Nat) (ad : Addr) (ks : List Nat) (sX sR : Nat → List Nat) (pw : Nat → Nat) (w : World) (hz176 : z176.length = 176) (hkl : ks.length = 16) (hsrc : Hid (∀ u, Below w.heap.size w u → ∀ j v, (U8 ks)[j]? = some v → u.cell? (ad.add j) = some v))
    (hX0 : Hid (sX 0 = ks)) (hXs : Hid (∀ i, sX (i + 1) = sX i ++ sR (i + 1))) (hXl : Hid (∀ i, (sX i).length = 16 * (i + 1))) (hRl : Hid (∀ i, (sR i).length = 16)) (hrow : Hid (∀ i j v, (U8 (sR i))[j]? = some v → (U8 (sX i))[16 * i + j]? = some v)) (hp0 : Hid (pw 0 = 1))
    (hNx : Hid (∀ i, i < 10 → ∀ u, Below w.heap.size w u → Calls Tryd.prog 30 #[.agg (U8 (sR i)).toArray, .int .u8 ((pw i : Nat) : Int)] u fun e w' => e = .returned (.agg (U8 (sR (i + 1))).toArray) ∧ Below u.heap.size u w'))
    (hDb : Hid (∀ i u, Calls Tryd.prog 22 #[.int .u8 ((pw i : Nat) : Int)] u fun e w' => e = .returned (.int .u8 ((pw (i + 1) : Nat) : Int)) ∧ Below u.heap.size u w')) :
    Calls Tryd.prog 19 #[(.slice (some ad) 16 cap)] w fun e w' => e = .returned (.tuple #[.agg (U8 (sX 10)).toArray, .int .i64 0]) ∧ Below w.heap.size w w' := by
  go_enter Tryd.func19, Tryd.ntmps19
  have HB0 : Below w.heap.size w w := Below.refl _ _
  have K0_1 := Bk.nil (w.heap.size) w
  go_upto_region 0 with fail
  refine rgP K0_1 HB0 HB0.size [] [(0, 2, U8 (z176), none)] [(1, 3, (Go.Value.int Go.IntKind.i64 0))] [] [] [] ?_ ?_
  · refine oc (g_al 0 al__11__16_uint8) ?_
    exact oc g_as on
  intro u1 b1_0 HB1 sz1 K1
  simp only [fX, nK, nP, Wr.f, aK, pM] at K1
  simp only [setG, setN, List.set_cons_zero, List.set_cons_succ]
  clear HB0
  go_upto_region 1 with fail
  refine rgP K1 HB1 HB1.size [] [(0, 4, U8 (z176), none)] [] [] [] [] ?_ ?_
  · exact oc (g_al 0 al__11__16_uint8) on
  intro u2 b2_0 HB2 sz2 K2
  simp only [fX, nK, nP, Wr.f, aK, pM] at K2
  simp only [setG, setN, List.set_cons_zero, List.set_cons_succ]
  clear K1 HB1
  go_upto_region 2 with fail
  refine rgP K2 HB2 HB2.size [] [] [(0, 7, (.slice (some ad) 16 cap)), (1, 8, .int .i64 ((16 : Nat) : Int)), (2, 9, .bool false)] [] [] [] ?_ ?_
  · refine oc g_mv ?_
    refine oc (g_ln Tryd.underlying24) ?_
    exact oc (g_bn (fun uZ => neq_i _ _ ((16 : Nat) : Int) 16 false uZ (by decide))) on
  intro u3 HB3 sz3 K3
  simp only [fX, nK, nP, Wr.f, aK, pM] at K3
  simp only [setG, setN, List.set_cons_zero, List.set_cons_succ]
  clear K2 HB2
  rw [sp0] at K3
  go_upto_region 4 with fail
  refine rgP K3 HB3 HB3.size [.no, .all 3 (RBm ([]) (U8 (ks)) (U8 (List.replicate 160 0)))] [] [(0, 11, .pointer (some ⟨b2_0, 0, none⟩)), (1, 12, .slice (some ⟨b2_0, 0, none⟩) 16 16), (2, 13, (.slice (some ad) 16 cap)), (3, 14, .int .i64 16)] [] [] [] ?_ ?_
  · refine oc (g_ix (fun uZ => xb11 b2_0 0 uZ (by decide))) ?_
    refine oc (g_sl (fun uZ => slW16 b2_0 uZ)) ?_
    refine oc g_mv ?_
    exact oc (g_cp 1 (sl := 16) (dl := 16) [] (U8 z16) (U8 (List.replicate 160 0)) (U8 ks) Tryd.underlying24 info_uint8 (by rw [U8_len, hkl]; rfl) (fun f u kZ bZ => hsrc.out u bZ) U8_mem rfl (by rw [U8_len, U8_len, hkl]; rfl) (hv := by rw [U8_len, hkl]; rfl)) on
  intro u4 HB4 sz4 K4
  simp only [fX, nK, nP, Wr.f, aK, pM] at K4
  simp only [setG, setN, List.set_cons_zero, List.set_cons_succ]
  clear K3 HB3
  rw [← sp0, rbm_app] at K4
  go_upto_region 5 with fail
  refine rgP K4 HB4 HB4.size [] [] [(0, 5, (Go.Value.int Go.IntKind.u8 1))] [] [] [] ?_ ?_
  · exact oc g_as on
  intro u5 HB5 sz5 K5
  simp only [fX, nK, nP, Wr.f, aK, pM] at K5
  simp only [setG, setN, List.set_cons_zero, List.set_cons_succ]
  clear K4 HB4
  go_upto_region 6 with fail
  refine rgP K5 HB5 HB5.size [] [] [(0, 15, (Go.Value.int Go.IntKind.i64 0))] [] [] [] ?_ ?_
  · exact oc g_mv on
  intro u6 HB6 sz6 K6
  simp only [fX, nK, nP, Wr.f, aK, pM] at K6
  simp only [setG, setN, List.set_cons_zero, List.set_cons_succ]
  clear K5 HB5
  go_wp2_with fail
  go_loopw [15, 5] (fun s15 s5 wr => ∃ (i : Nat), i ≤ 10 ∧ s15 = .int .i64 (i : Int) ∧ s5 = .int .u8 ((pw i : Nat) : Int) ∧ Below w.heap.size w wr ∧ Hid (CV wr b1_0 (U8 (z176))) ∧ Hid (CV wr b2_0 (U8 (sX i ++ List.replicate (160 - 16 * i) 0))) ∧ b1_0 < wr.heap.size ∧ b2_0 < wr.heap.size) (fun s15 _ _ => 10 - (intOf s15).toNat)
  case atStart => exact ⟨0, by omega, rfl, (by rw [hp0.out]; rfl), HB6, (K6.cv 0), (by rw [hX0.out]; exact (K6.cv 1)), (K6.lt 0), (K6.lt 1)⟩
  case round =>
    obtain ⟨i, hi, rfl, rfl, HBr, Kz, Kk, lz, lk⟩ := hrel
    clear HB6
    by_cases hj : i < 10
    · have hl1 : decide ((i : Int) < 10) = true := by simp; omega
      have hXl := hXl.out i
      have hXn := hXs.out i
      have hrw := hrow.out i
      have hN := hNx.out i hj
      have hD := hDb.out i
      have hr1 := hRl.out i
      have hr2 := hRl.out (i + 1)
      rw [sp1 _ i hj] at Kk
      have hjo := sp2 (sX i) (sR (i + 1)) i hj
      rw [← hXn] at hjo
      obtain ⟨X, eX⟩ : ∃ X, sX i = X := ⟨_, rfl⟩
      obtain ⟨X2, eX2⟩ : ∃ X2, sX (i + 1) = X2 := ⟨_, rfl⟩
      obtain ⟨r, er⟩ : ∃ r, sR i = r := ⟨_, rfl⟩
      obtain ⟨r2, er2⟩ : ∃ r2, sR (i + 1) = r2 := ⟨_, rfl⟩
      obtain ⟨q, eq⟩ : ∃ q, pw i = q := ⟨_, rfl⟩
      obtain ⟨Z, eZ⟩ : ∃ Z, List.replicate (144 - 16 * i) 0 = Z := ⟨_, rfl⟩
      rw [eX, er] at hrw
      rw [eX] at hXl Kk hjo
      rw [er] at hr1
      rw [er2] at hr2 hjo
      rw [eX2] at hjo
      rw [er, er2, eq] at hN
      rw [eq] at hD
      rw [eq]
      rw [eZ] at Kk hjo
      have hrw2 : ∀ j v, (U8 r)[j]? = some v → (RBm (U8 X) (U8 z16) (U8 Z))[16 * i + j]? = some v := fun j v h => by
        have h1 := hrw j v h
        have h2 : 16 * i + j < (U8 X).length := (List.getElem?_eq_some_iff.1 h1).1
        show (U8 X ++ U8 z16 ++ U8 Z)[16 * i + j]? = some v
        rw [List.append_assoc, List.getElem?_append_left h2]; exact h1
      have hjo2 : U8 (sX (i + 1) ++ List.replicate (160 - 16 * (i + 1)) 0) = RBm (U8 X) (U8 r2) (U8 Z) := by rw [eX2]; exact hjo.symm
      have hXL : (U8 X).length = 16 * (i + 1) := by rw [U8_len]; exact hXl
      have hjo2 : Hid _ := hjo2
      have hN : Hid _ := hN
      have hD : Hid _ := hD
      clear hjo hXn hrw eX eX2 er er2 eq eZ
      have hnK := K6.n
      simp at hnK
      have hoK0 := K6.lo 0
      have hoK1 := K6.lo 1
      have K6_2 : Bk w.heap.size wr [(false, b1_0, U8 (z176)), (true, b2_0, RBm (U8 (X)) (U8 (z16)) (U8 (Z)))] := ⟨.c lz Kz.out <| .o lk (K6.lo 1) Kk.out <| trivial, by simp <;> omega⟩
      go_upto_region 7 with fail
      refine rgP K6_2 HBr HBr.size [] [] [(0, 16, .bool true)] [] [] [] ?_ ?_
      · exact oc (g_bn (fun uZ => lss_i _ _ (i : Int) 10 true uZ hl1)) on
      intro u7 HB7 sz7 K7
      simp only [fX, nK, nP, Wr.f, aK, pM] at K7
      simp only [setG, setN, List.set_cons_zero, List.set_cons_succ]
      go_upto_region 8 with fail
      refine rgP K7 HB7 HB7.size [] [] [(0, 17, .int .i64 (i : Int)), (1, 6, .int .i64 (i : Int))] [] [] [] ?_ ?_
      · refine oc g_mv ?_
        exact oc g_as on
      intro u8 HB8 sz8 K8
      simp only [fX, nK, nP, Wr.f, aK, pM] at K8
      simp only [setG, setN, List.set_cons_zero, List.set_cons_succ]
      clear K7 HB7
      go_upto_region 9 with fail
      refine rgP K8 HB8 HB8.size [.no, .all 8 (RBm (U8 (X)) (U8 (r2)) (U8 (Z)))] [] [(0, 18, .int .i64 (i : Int)), (1, 19, .int .i64 ((i + 1 : Nat) : Int)), (2, 20, .int .i64 (i : Int)), (3, 21, .pointer (some ⟨b2_0, 16 * i, none⟩)), (4, 22, .agg (U8 (r)).toArray), (5, 23, .int .u8 ((q : Nat) : Int)), (6, 24, .agg (U8 (r2)).toArray), (7, 25, .pointer (some ⟨b2_0, 16 * (i + 1), none⟩))] [(8, 4)] [] [] ?_ ?_
      · refine oc g_mv ?_
        refine oc (g_bn (fun uZ => add_i _ _ (i : Int) 1 ((i + 1 : Nat) : Int) uZ (by omega) (by omega) (by omega))) ?_
        refine oc g_mv ?_
        refine oc (g_ix (fun uZ => xb11 b2_0 i uZ (by omega))) ?_
        refine oc (g_lR 1 (16 * i) (cs := U8 (r)) (hrw2) Tryd.underlying32 (by rw [U8_len, hr1]; exact info__16_uint8)) ?_
        refine oc g_mv ?_
        refine oc (g_cb ent_aes_nextKey (fun uZ bZ => hN.out uZ bZ)) ?_
        refine oc (g_ix (fun uZ => xb11 b2_0 (i + 1) uZ (by omega))) ?_
        exact oc (g_sm 1 (16 * (i + 1)) (U8 X) (U8 z16) (U8 Z) (post := U8 r2) info__16_uint8 (h1 := U8_one _) (hxc := hXL) (hm := by rw [U8_len, hr2]) (hl := by rw [U8_len, U8_len, hr2]; rfl)) on
      intro u9 HB9 sz9 K9
      simp only [fX, nK, nP, Wr.f, aK, pM] at K9
      simp only [setG, setN, List.set_cons_zero, List.set_cons_succ]
      clear K8 HB8
      go_upto_region 10 with fail
      refine rgP K9 HB9 HB9.size [] [] [(0, 26, .int .u8 ((q : Nat) : Int)), (1, 27, .int .u8 ((pw (i + 1) : Nat) : Int)), (2, 5, .int .u8 ((pw (i + 1) : Nat) : Int))] [(2, 0)] [(2, 5)] [] ?_ ?_
      · refine oc g_mv ?_
        refine oc (g_cl ent_aes_doubled (fun uZ => hD.out uZ)) ?_
        exact oc g_as on
      intro u10 HB10 sz10 K10
      simp only [fX, nK, nP, Wr.f, aK, pM] at K10
      simp only [setG, setN, List.set_cons_zero, List.set_cons_succ]
      clear K9 HB9
      go_upto_region 11 with fail
      refine rgP K10 HB10 HB10.size [] [] [(0, 28, .int .i64 ((i + 1 : Nat) : Int)), (1, 15, .int .i64 ((i + 1 : Nat) : Int))] [(1, 0)] [(1, 15)] [] ?_ ?_
      · refine oc (g_bn (fun uZ => add_i _ _ (i : Int) 1 ((i + 1 : Nat) : Int) uZ (by omega) (by omega) (by omega))) ?_
        exact oc g_mv on
      intro u11 HB11 sz11 K11
      simp only [fX, nK, nP, Wr.f, aK, pM] at K11
      simp only [setG, setN, List.set_cons_zero, List.set_cons_succ]
      clear K10 HB10
      go_wp2
      refine ⟨⟨i + 1, by omega, rfl, rfl, HB11, (K11.cv 0), (by rw [hjo2.out]; exact (K11.cv 1)), (K11.lt 0), (K11.lt 1)⟩, ?_⟩
      simp [intOf] <;> omega
    · have hl1 : decide ((i : Int) < 10) = false := by simp; omega
      have hk10 : i = 10 := by omega
      subst hk10
      have e0 : sX 10 ++ List.replicate (160 - 16 * 10) 0 = sX 10 := List.append_nil _
      rw [e0] at Kk
      have hWs : (sX 10).length = 176 := hXl.out 10
      have hnK := K6.n
      simp at hnK
      have hoK0 := K6.lo 0
      have hoK1 := K6.lo 1
      have K6_2 : Bk w.heap.size wr [(true, b1_0, U8 (z176)), (false, b2_0, U8 (sX 10))] := ⟨.o lz (K6.lo 0) Kz.out <| .c lk Kk.out <| trivial, by simp <;> omega⟩
      go_upto_region 7 with fail
      refine rgP K6_2 HBr HBr.size [] [] [(0, 16, .bool false)] [] [] [] ?_ ?_
      · exact oc (g_bn (fun uZ => lss_i _ _ ((10 : Nat) : Int) 10 false uZ hl1)) on
      intro u7 HB7 sz7 K7
      simp only [fX, nK, nP, Wr.f, aK, pM] at K7
      simp only [setG, setN, List.set_cons_zero, List.set_cons_succ]
      go_upto_region 12 with fail
      refine rgP K7 HB7 HB7.size [.all 1 (U8 (sX 10))] [] [(0, 29, .agg (U8 (sX 10)).toArray), (2, 3, (Go.Value.int Go.IntKind.i64 0))] [] [] [true, false] ?_ ?_
      · refine oc (g_lR 1 0 (cs := U8 (sX 10)) (fun j v h => by rw [Nat.zero_add]; exact h) Tryd.underlying33 (by rw [U8_len, hWs]; exact info__11__16_uint8)) ?_
        refine oc (g_st 0 info__11__16_uint8 (h1 := U8_one _) (hm := by rw [U8_len, hWs]) (hl := by first | rw [U8_len, U8_len, hWs, show z176.length = 176 from hz176] | rfl)) ?_
        exact oc g_as on
      intro u8 HB8 sz8 K8
      simp only [fX, nK, nP, Wr.f, aK, pM] at K8
      simp only [setG, setN, List.set_cons_zero, List.set_cons_succ]
      clear K7 HB7
      go_wp2
      refine bodyPost_ret (res_ct Tryd.results19 rfl rfl (K8.cv 0) Tryd.underlying33 rfl (by rw [U8_len, hWs]; exact info__11__16_uint8)) rfl ⟨rfl, HB8⟩
/-- What the keys of rounds are. -/
def keyV (ks : List Nat) : Value := if ks.length = 16 then .tuple #[.agg (U8 (kyX ks 10)).toArray, .int .i64 0] else .tuple #[.agg (U8 z176).toArray, .int .i64 2]
theorem SB.src {w : World} {g o : Nat} {xs : List Nat} (h : SB w g o xs) : ∀ j v, (U8 xs)[j]? = some v → w.cell? ((⟨g, o, none⟩ : Addr).add j) = some v := fun j v hj => by
  have hlt : j < xs.length := by have := (List.getElem?_eq_some_iff.1 hj).1; rwa [U8_len] at this
  rw [U8_get xs j hlt] at hj
  rw [Addr.add_lit]; exact (h j hlt).trans hj
theorem BY_of {n : Nat} {xs : List Nat} (hl : xs.length = n) (hx : ∀ x ∈ xs, x < 256) : BY n xs := ⟨hl, fun j => by
  by_cases h : j < xs.length
  · rw [List.getD_eq_getElem?_getD, List.getElem?_eq_getElem h]; exact hx _ (List.getElem_mem h)
  · rw [List.getD_eq_getElem?_getD, List.getElem?_eq_none (by omega)]; decide⟩
theorem rcn_xt (i : Nat) : rcn (i + 1) = xt (rcn i) := by rw [rcn, xt_tm _ (rcn_lt i)]
theorem cKeys (ks : List Nat) (v : Value) (w : World) (hV : GS6 w) (hin : IN w w.heap.size v ks) (hx : ∀ x ∈ ks, x < 256) :
    Calls Tryd.prog 19 #[v] w fun e w' => e = .returned (keyV ks) ∧ Below w.heap.size w w' := by
  obtain ⟨sl, cap, gb, go, rfl, h1, h2, h3, h4⟩ := hin
  unfold keyV
  by_cases hl : ks.length = 16
  · rw [if_pos hl]
    have hk := BY_of hl hx
    have h2 := h2.resolve_left (by omega)
    subst h2
    rw [hl]
    exact cKeys_s cap _ ks (kyX ks) (rky ks) rcn w List.length_replicate hl (fun u hB => (h4.below hB h3).src) rfl (fun _ => rfl) (fun i => (kyX_B hk i).len) (fun i => (rky_B hk i).len)
      (fun i => row_at (by rw [(kyX_B hk i).len]; omega) (rky_B hk i).len fun j hj => kyX_at hk hj i (Nat.le_refl _)) rfl
      (fun i hi u hB => by have h := cNext (rky ks i) (rcn i) u (hV.up hB) (rky_B hk i) (rcn_lt i); rw [nkB_is hk hi] at h; exact h)
      (fun i u => by rw [rcn_xt]; exact cDoubled (rcn i) u (rcn_lt i))
  · rw [if_neg hl]
    exact cKeys_n _ cap sl w List.length_replicate (by simp; omega)
end Go.Proofs.YtlcjbnhfmcnnfaaDoor
