/- The chapter's example works. -/
import Derived.Test.YtlcjbnhfmcnnfaaDoorAEA
import Derived.Test.YtlcjbnhfmcnnfaaDoorSMX
namespace Go.Proofs.YtlcjbnhfmcnnfaaDoor
open Go.RowKit
set_option linter.unusedVariables false
set_option linter.unusedSimpArgs false
theorem ent_seneschallaw06_works (vs : Array Value) (w : World) : (callFunc 13 vs).run Tryd.prog w = .ok (.enter 13 vs) w := by kernel_rfl
theorem eqe (p q : Operand) (x y : Int) (b : Bool) (w : World) (h : decide (x = y) = b) : (do eqGuard .eql 29 p q (.int .i64 x) (.int .i64 y); binOp .eql 29 (.int .i64 x) (.int .i64 y) : Sem Value).run Tryd.prog w = .ok (.bool b) w := by
  subst h; go_simp
  all_goals first | rfl | (by_cases h : x = y <;> simp [h])
theorem inT {u : World} {b n cap : Nat} {xs : List Nat} (h : CV u b (U8 xs)) (lb : b < u.heap.size) (hl : xs.length = n) (hc : n ≤ cap) : IN u u.heap.size (.slice (some ⟨b, 0, none⟩) n cap) xs := by
  subst hl
  exact ⟨_, _, b, 0, rfl, hc, .inr rfl, lb, CV.sb h⟩
theorem mk16 (w : World) : (Instr.makeSlice 24 (.int .i64 16) (.int .i64 16)).run Tryd.prog w = .ok (.slice (some ⟨w.heap.size, 0, none⟩) 16 16) (w.alloc (.cells (U8 z16).toArray 5)) := mkB .i64 16 (by decide) w
set_option maxRecDepth 100000 in
set_option maxHeartbeats 4000000 in
theorem works6_core (xs : List Nat) (sA sB : Nat → List Nat) (w : World) (hA0 : Hid (sA 0 = z16)) (hAs : Hid (∀ i, sA (i + 1) = (sA i).set i i)) (hAl : Hid (∀ i, (sA i).length = 16)) (hB0 : Hid (sB 0 = z16)) (hBs : Hid (∀ i, sB (i + 1) = (sB i).set i (17 * i))) (hBl : Hid (∀ i, (sB i).length = 16))
    (d0 : (U8 xs)[0]? = some (.int .u8 ((105 : Nat) : Int))) (d1 : (U8 xs)[1]? = some (.int .u8 ((196 : Nat) : Int))) (d2 : (U8 xs)[2]? = some (.int .u8 ((224 : Nat) : Int))) (d3 : (U8 xs)[3]? = some (.int .u8 ((216 : Nat) : Int)))
    (hE : Hid (∀ u v v2, Below w.heap.size w u → IN u u.heap.size v (sA 16) → IN u u.heap.size v2 (sB 16) → Calls Tryd.prog 15 #[v, v2] u fun e u' => ∃ v, e = .returned v ∧ PT 0 u.heap.size 16 (U8 (xs)) u' v ∧ Below u.heap.size u u')) :
    Calls Tryd.prog 13 #[] w fun e w' => e = .returned (.bool true) ∧ Below w.heap.size w w' := by
  go_enter Tryd.func13, Tryd.ntmps13
  have hmk := mk16
  go_upto_region 1 with fail
  go_region
  · skip
    have hBk := ((Bk.nil w.heap.size w).ad (l := U8 z16) (T := 5) (n := w.heap.size) rfl (Nat.le_refl _)).ad (l := U8 z16) (T := 5) (n := w.heap.size + 1)
    have HB0 : Below w.heap.size w ((w.alloc (.cells (U8 z16).toArray 5)).alloc (.cells (U8 z16).toArray 5)).drew := (balloc (balloc (bself w) _) _).drew
    generalize hC : ((w.alloc (.cells (U8 z16).toArray 5)).alloc (.cells (U8 z16).toArray 5)).drew = v0 at *
    have cA : CV v0 w.heap.size (U8 z16) := by rw [← hC]; exact (hBk.cv 0).drew
    have cB : CV v0 (w.heap.size + 1) (U8 z16) := by rw [← hC]; exact (hBk.cv 1).drew
    have lA : w.heap.size < v0.heap.size := by rw [← hC]; exact hBk.lt 0
    have lB : w.heap.size + 1 < v0.heap.size := by rw [← hC]; exact hBk.lt 1
    clear hC hBk hmk
    have K0_1 : Bk w.heap.size v0 [(true, w.heap.size, U8 (z16)), (true, w.heap.size + 1, U8 (z16))] := ⟨.o lA (by omega) cA <| .o lB (by omega) cB <| trivial, by simp <;> omega⟩
    go_upto_region 2 with fail
    refine rgP K0_1 HB0 HB0.size [] [] [(0, 3, (Go.Value.int Go.IntKind.i64 0))] [] [] [] ?_ ?_
    · exact oc g_as on
    intro u1 HB1 sz1 K1
    simp only [fX, nK, nP, Wr.f, aK, pM] at K1
    simp only [setG, setN, List.set_cons_zero, List.set_cons_succ]
    clear HB0
    go_wp2_with fail
    go_loopw [3] (fun s3 wr => ∃ (i : Nat), i ≤ 16 ∧ s3 = .int .i64 (i : Int) ∧ Below w.heap.size w wr ∧ Hid (CV wr (w.heap.size) (U8 (sA i))) ∧ Hid (CV wr (w.heap.size + 1) (U8 (sB i))) ∧ w.heap.size + 1 < wr.heap.size) (fun s3 _ => 16 - (intOf s3).toNat)
    case atStart => exact ⟨0, by omega, rfl, HB1, (by rw [hA0.out]; exact (K1.cv 0)), (by rw [hB0.out]; exact (K1.cv 1)), (K1.lt 1)⟩
    case round =>
      obtain ⟨i, hi, rfl, HBr, Kb, Kc, lr⟩ := hrel
      clear HB1
      by_cases hj : i < 16
      · have hl1 : decide ((i : Int) < 16) = true := by simp; omega
        have hA := hAs.out i
        have hB := hBs.out i
        have hla := hAl.out i
        have hlb := hBl.out i
        obtain ⟨xs1, e1⟩ : ∃ x, sA i = x := ⟨_, rfl⟩
        obtain ⟨xs2, e2⟩ : ∃ x, sB i = x := ⟨_, rfl⟩
        rw [e1] at hA hla Kb
        rw [e2] at hB hlb Kc
        have ga := U8_get xs1 i (by omega)
        have gb := U8_get xs2 i (by omega)
        obtain ⟨v1, ev1⟩ : ∃ v, xs1.getD i 0 = v := ⟨_, rfl⟩
        obtain ⟨v2, ev2⟩ : ∃ v, xs2.getD i 0 = v := ⟨_, rfl⟩
        rw [ev1] at ga
        rw [ev2] at gb
        have hA : Hid _ := hA
        have hB : Hid _ := hB
        clear e1 e2 ev1 ev2
        have hnK := K1.n
        simp at hnK
        have K1_2 : Bk w.heap.size wr [(true, w.heap.size, U8 (xs1)), (true, w.heap.size + 1, U8 (xs2))] := ⟨.o (by omega) (K1.lo 0) Kb.out <| .o (by omega) (K1.lo 1) Kc.out <| trivial, by simp <;> omega⟩
        go_upto_region 3 with fail
        refine rgP K1_2 HBr HBr.size [] [] [(0, 8, .int .i64 (i : Int)), (1, 9, .bool true)] [] [] [] ?_ ?_
        · refine oc g_mv ?_
          exact oc (g_bn (fun uZ => lss_i _ _ (i : Int) 16 true uZ hl1)) on
        intro u2 HB2 sz2 K2
        simp only [fX, nK, nP, Wr.f, aK, pM] at K2
        simp only [setG, setN, List.set_cons_zero, List.set_cons_succ]
        go_upto_region 5 with fail
        refine rgP K2 HB2 HB2.size [.all 10 (U8 (xs1.set i i)), .all 12 (U8 (xs2.set i (17 * i)))] [] [(0, 12, .slice (some ⟨w.heap.size, 0, none⟩) 16 16), (1, 13, .int .i64 (i : Int)), (2, 14, .slice (some ⟨w.heap.size + 1, 0, none⟩) 16 16), (3, 15, .int .i64 (i : Int)), (4, 16, .int .i64 (i : Int)), (5, 17, .int .u8 ((i : Nat) : Int)), (6, 18, .int .i64 (i : Int)), (7, 19, .int .i64 ((17 * i : Nat) : Int)), (8, 20, .int .u8 ((17 * i : Nat) : Int)), (9, 21, .pointer (some ⟨w.heap.size, i, none⟩)), (11, 22, .pointer (some ⟨w.heap.size + 1, i, none⟩))] [] [] [] ?_ ?_
        · refine oc g_mv ?_
          refine oc g_mv ?_
          refine oc g_mv ?_
          refine oc g_mv ?_
          refine oc g_mv ?_
          refine oc (g_op (fun ev uZ he => cvi8z uZ (by omega) rfl (he _ _ rfl))) ?_
          refine oc g_mv ?_
          refine oc (g_bn (fun uZ => muli _ _ 17 i (17 * i) uZ rfl (by omega))) ?_
          refine oc (g_op (fun ev uZ he => cvi8z uZ (by omega) rfl (he _ _ rfl))) ?_
          refine oc (g_ix (fun uZ => ixs (w.heap.size) 0 16 16 i i uZ hj (Nat.zero_add _))) ?_
          refine oc (g_sw 0 (i) s8 (ga) (U8_set _ _ _)) ?_
          refine oc (g_ix (fun uZ => ixs (w.heap.size + 1) 0 16 16 i i uZ hj (Nat.zero_add _))) ?_
          exact oc (g_sw 1 (i) s8 (gb) (U8_set _ _ _)) on
        intro u3 HB3 sz3 K3
        simp only [fX, nK, nP, Wr.f, aK, pM] at K3
        simp only [setG, setN, List.set_cons_zero, List.set_cons_succ]
        clear K2 HB2
        go_upto_region 4 with fail
        refine rgP K3 HB3 HB3.size [] [] [(0, 10, .int .i64 (i : Int)), (1, 11, .int .i64 ((i + 1 : Nat) : Int)), (2, 3, .int .i64 ((i + 1 : Nat) : Int))] [(2, 0)] [(2, 3)] [] ?_ ?_
        · refine oc g_mv ?_
          refine oc (g_bn (fun uZ => add_i _ _ (i : Int) 1 ((i + 1 : Nat) : Int) uZ (by omega) (by omega) (by omega))) ?_
          exact oc g_as on
        intro u4 HB4 sz4 K4
        simp only [fX, nK, nP, Wr.f, aK, pM] at K4
        simp only [setG, setN, List.set_cons_zero, List.set_cons_succ]
        clear K3 HB3
        go_wp2
        refine ⟨⟨i + 1, by omega, rfl, HB4, (by rw [hA.out]; exact (K4.cv 0)), (by rw [hB.out]; exact (K4.cv 1)), (K4.lt 1)⟩, ?_⟩
        simp [intOf] <;> omega
      · have hl1 : decide ((i : Int) < 16) = false := by simp; omega
        have hi16 : i = 16 := by omega
        subst hi16
        have hla := hAl.out 16
        have hlb := hBl.out 16
        have hnK := K1.n
        simp at hnK
        have K1_2 : Bk w.heap.size wr [(false, w.heap.size, U8 (sA 16)), (false, w.heap.size + 1, U8 (sB 16))] := ⟨.c (by omega) Kb.out <| .c (by omega) Kc.out <| trivial, by simp <;> omega⟩
        go_upto_region 3 with fail
        refine rgP K1_2 HBr HBr.size [] [] [(0, 8, .int .i64 ((16 : Nat) : Int)), (1, 9, .bool false)] [] [] [] ?_ ?_
        · refine oc g_mv ?_
          exact oc (g_bn (fun uZ => lss_i _ _ ((16 : Nat) : Int) 16 false uZ hl1)) on
        intro u2 HB2 sz2 K2
        simp only [fX, nK, nP, Wr.f, aK, pM] at K2
        simp only [setG, setN, List.set_cons_zero, List.set_cons_succ]
        have hlo4 := HB2.size
        go_upto_region 6 with fail
        refine rgF K2 HB2 HB2.size [] [] [(0, 24, .slice (some ⟨w.heap.size, 0, none⟩) 16 16), (1, 25, .slice (some ⟨w.heap.size + 1, 0, none⟩) 16 16), (5, 28, .int .i64 0), (7, 5, .int .i64 0)] [] [] [⟨2, 26, none, PT 0 u2.heap.size 16 (U8 (xs))⟩, ⟨3, 23, none, PT 0 u2.heap.size 16 (U8 (xs))⟩, ⟨4, 27, some 6, PS u2.heap.size 16 (U8 (xs))⟩, ⟨6, 4, none, PS u2.heap.size 16 (U8 (xs))⟩] [false, false] (.cons (fun _ _ _ h1 h2 => h2.stab h1) <| .cons (fun _ _ _ h1 h2 => h2.stab h1) <| .cons (fun _ _ _ h1 h2 => h2.stab h1) <| .cons (fun _ _ _ h1 h2 => h2.stab h1) <| Stab.nil) ?_ ?_
        · refine oc g_mv ?_
          refine oc g_mv ?_
          refine oc (g_cM 0 (PT 0 u2.heap.size 16 (U8 (xs))) ent_aes_Encrypt (fun fZ uZ kZ sZ bZ => (hE.out uZ _ _ bZ (inT (kZ.cv 0) (kZ.lb sZ 0) hla (Nat.le_refl _)) (inT (kZ.cv 1) (kZ.lb sZ 1) hlb (Nat.le_refl _))).mono fun e u2 ⟨v, e1, h1, h2⟩ => ⟨v, e1, h1.mono sZ, h2⟩)) ?_
          refine oc (g_mE 0 1 (PT 0 u2.heap.size 16 (U8 (xs)))) ?_
          refine oc (g_xE 1 2 (PT 0 u2.heap.size 16 (U8 (xs))) (PS u2.heap.size 16 (U8 (xs))) PT.fst) ?_
          refine oc (g_xV 1 (PT 0 u2.heap.size 16 (U8 (xs))) PT.snd) ?_
          refine oc (g_sE 2 3 (PS u2.heap.size 16 (U8 (xs)))) ?_
          exact oc g_as on
        intro u3 v3_2 hv3_2 v3_3 hv3_3 v3_4 hv3_4 v3_6 hv3_6 HB3 sz3 K3
        simp only [fX, nK, nP, Wr.f, aK, pM] at K3
        simp only [setG, setN, setE, List.set_cons_zero, List.set_cons_succ]
        clear HB2
        obtain ⟨bX, cX, rfl, ho1, ho2, hcX, hoC⟩ := hv3_6 rfl
        have K3xxx := Bk.moreT K2 K3 (by omega) ho1 ho2 hoC (by intro x hx; first | (simp at hx; done) | (simp at hx ⊢; omega))
        simp only [aK] at K3xxx
        clear K3
        go_upto_region 7 with fail
        refine rgP K3xxx HB3 HB3.size [] [] [(0, 29, .int .i64 0), (1, 30, .bool true), (2, 31, .bool true), (3, 32, .slice (some ⟨bX, 0, none⟩) 16 cX), (4, 33, .int .i64 ((16 : Nat) : Int)), (5, 34, .bool true), (6, 35, .bool true), (7, 36, .bool true), (8, 37, .slice (some ⟨bX, 0, none⟩) 16 cX), (9, 38, .pointer (some ⟨bX, 0, none⟩)), (10, 39, .int .u8 ((105 : Nat) : Int)), (11, 40, .bool true), (12, 41, .bool true), (13, 42, .bool true), (14, 43, .slice (some ⟨bX, 0, none⟩) 16 cX), (15, 44, .pointer (some ⟨bX, 1, none⟩)), (16, 45, .int .u8 ((196 : Nat) : Int)), (17, 46, .bool true), (18, 47, .bool true), (19, 48, .bool true), (20, 49, .slice (some ⟨bX, 0, none⟩) 16 cX), (21, 50, .pointer (some ⟨bX, 2, none⟩)), (22, 51, .int .u8 ((224 : Nat) : Int)), (23, 52, .bool true), (24, 53, .bool true), (25, 54, .bool true), (26, 55, .slice (some ⟨bX, 0, none⟩) 16 cX), (27, 56, .pointer (some ⟨bX, 3, none⟩)), (28, 57, .int .u8 ((216 : Nat) : Int)), (29, 58, .bool true), (30, 59, .bool true), (31, 0, .bool true)] [] [] [false] ?_ ?_
        · refine oc g_mv ?_
          refine oc (g_bn (fun uZ => eqe _ _ 0 0 true uZ (by decide))) ?_
          refine oc g_mv ?_
          refine oc g_mv ?_
          refine oc (g_ln Tryd.underlying24) ?_
          refine oc (g_bn (fun uZ => eqz_i _ _ ((16 : Nat) : Int) 16 true uZ (by decide))) ?_
          refine oc g_pk ?_
          refine oc g_mv ?_
          refine oc g_mv ?_
          refine oc (g_ix (fun uZ => ixs bX 0 16 cX 0 0 uZ (by decide) rfl)) ?_
          refine oc (g_lw 0 (0) l8 (d0)) ?_
          refine oc (g_bn (fun uZ => eql8 _ _ ((105 : Nat) : Int) 105 true uZ (by decide))) ?_
          refine oc g_pk ?_
          refine oc g_mv ?_
          refine oc g_mv ?_
          refine oc (g_ix (fun uZ => ixs bX 0 16 cX 1 1 uZ (by decide) rfl)) ?_
          refine oc (g_lw 0 (1) l8 (d1)) ?_
          refine oc (g_bn (fun uZ => eql8 _ _ ((196 : Nat) : Int) 196 true uZ (by decide))) ?_
          refine oc g_pk ?_
          refine oc g_mv ?_
          refine oc g_mv ?_
          refine oc (g_ix (fun uZ => ixs bX 0 16 cX 2 2 uZ (by decide) rfl)) ?_
          refine oc (g_lw 0 (2) l8 (d2)) ?_
          refine oc (g_bn (fun uZ => eql8 _ _ ((224 : Nat) : Int) 224 true uZ (by decide))) ?_
          refine oc g_pk ?_
          refine oc g_mv ?_
          refine oc g_mv ?_
          refine oc (g_ix (fun uZ => ixs bX 0 16 cX 3 3 uZ (by decide) rfl)) ?_
          refine oc (g_lw 0 (3) l8 (d3)) ?_
          refine oc (g_bn (fun uZ => eql8 _ _ ((216 : Nat) : Int) 216 true uZ (by decide))) ?_
          refine oc g_pk ?_
          exact oc g_as on
        intro u4 HB4 sz4 K4
        simp only [fX, nK, nP, Wr.f, aK, pM] at K4
        simp only [setG, setN, List.set_cons_zero, List.set_cons_succ]
        clear HB3
        go_wp2
        refine bodyPost_ret (v := .bool true) (by simp [results, Tryd.results13, go_sem, ]) rfl ⟨rfl, HB4⟩
  · skip
    have hBk := ((Bk.nil w.heap.size w).ad (l := U8 z16) (T := 5) (n := w.heap.size) rfl (Nat.le_refl _)).ad (l := U8 z16) (T := 5) (n := w.heap.size + 1)
    have HB0 : Below w.heap.size w ((w.alloc (.cells (U8 z16).toArray 5)).alloc (.cells (U8 z16).toArray 5)).drew := (balloc (balloc (bself w) _) _).drew
    generalize hC : ((w.alloc (.cells (U8 z16).toArray 5)).alloc (.cells (U8 z16).toArray 5)).drew = v0 at *
    have cA : CV v0 w.heap.size (U8 z16) := by rw [← hC]; exact (hBk.cv 0).drew
    have cB : CV v0 (w.heap.size + 1) (U8 z16) := by rw [← hC]; exact (hBk.cv 1).drew
    have lA : w.heap.size < v0.heap.size := by rw [← hC]; exact hBk.lt 0
    have lB : w.heap.size + 1 < v0.heap.size := by rw [← hC]; exact hBk.lt 1
    clear hC hBk hmk
    have K0_1 : Bk w.heap.size v0 [(true, w.heap.size + 1, U8 (z16)), (true, w.heap.size, U8 (z16))] := ⟨.o lB (by omega) cB <| .o lA (by omega) cA <| trivial, by simp <;> omega⟩
    go_upto_region 2 with fail
    refine rgP K0_1 HB0 HB0.size [] [] [(0, 3, (Go.Value.int Go.IntKind.i64 0))] [] [] [] ?_ ?_
    · exact oc g_as on
    intro u1 HB1 sz1 K1
    simp only [fX, nK, nP, Wr.f, aK, pM] at K1
    simp only [setG, setN, List.set_cons_zero, List.set_cons_succ]
    clear HB0
    go_wp2_with fail
    go_loopw [3] (fun s3 wr => ∃ (i : Nat), i ≤ 16 ∧ s3 = .int .i64 (i : Int) ∧ Below w.heap.size w wr ∧ Hid (CV wr (w.heap.size + 1) (U8 (sA i))) ∧ Hid (CV wr (w.heap.size) (U8 (sB i))) ∧ w.heap.size + 1 < wr.heap.size) (fun s3 _ => 16 - (intOf s3).toNat)
    case atStart => exact ⟨0, by omega, rfl, HB1, (by rw [hA0.out]; exact (K1.cv 0)), (by rw [hB0.out]; exact (K1.cv 1)), (K1.lt 0)⟩
    case round =>
      obtain ⟨i, hi, rfl, HBr, Kb, Kc, lr⟩ := hrel
      clear HB1
      by_cases hj : i < 16
      · have hl1 : decide ((i : Int) < 16) = true := by simp; omega
        have hA := hAs.out i
        have hB := hBs.out i
        have hla := hAl.out i
        have hlb := hBl.out i
        obtain ⟨xs1, e1⟩ : ∃ x, sA i = x := ⟨_, rfl⟩
        obtain ⟨xs2, e2⟩ : ∃ x, sB i = x := ⟨_, rfl⟩
        rw [e1] at hA hla Kb
        rw [e2] at hB hlb Kc
        have ga := U8_get xs1 i (by omega)
        have gb := U8_get xs2 i (by omega)
        obtain ⟨v1, ev1⟩ : ∃ v, xs1.getD i 0 = v := ⟨_, rfl⟩
        obtain ⟨v2, ev2⟩ : ∃ v, xs2.getD i 0 = v := ⟨_, rfl⟩
        rw [ev1] at ga
        rw [ev2] at gb
        have hA : Hid _ := hA
        have hB : Hid _ := hB
        clear e1 e2 ev1 ev2
        have hnK := K1.n
        simp at hnK
        have K1_2 : Bk w.heap.size wr [(true, w.heap.size + 1, U8 (xs1)), (true, w.heap.size, U8 (xs2))] := ⟨.o (by omega) (K1.lo 0) Kb.out <| .o (by omega) (K1.lo 1) Kc.out <| trivial, by simp <;> omega⟩
        go_upto_region 3 with fail
        refine rgP K1_2 HBr HBr.size [] [] [(0, 8, .int .i64 (i : Int)), (1, 9, .bool true)] [] [] [] ?_ ?_
        · refine oc g_mv ?_
          exact oc (g_bn (fun uZ => lss_i _ _ (i : Int) 16 true uZ hl1)) on
        intro u2 HB2 sz2 K2
        simp only [fX, nK, nP, Wr.f, aK, pM] at K2
        simp only [setG, setN, List.set_cons_zero, List.set_cons_succ]
        go_upto_region 5 with fail
        refine rgP K2 HB2 HB2.size [.all 10 (U8 (xs1.set i i)), .all 12 (U8 (xs2.set i (17 * i)))] [] [(0, 12, .slice (some ⟨w.heap.size + 1, 0, none⟩) 16 16), (1, 13, .int .i64 (i : Int)), (2, 14, .slice (some ⟨w.heap.size, 0, none⟩) 16 16), (3, 15, .int .i64 (i : Int)), (4, 16, .int .i64 (i : Int)), (5, 17, .int .u8 ((i : Nat) : Int)), (6, 18, .int .i64 (i : Int)), (7, 19, .int .i64 ((17 * i : Nat) : Int)), (8, 20, .int .u8 ((17 * i : Nat) : Int)), (9, 21, .pointer (some ⟨w.heap.size + 1, i, none⟩)), (11, 22, .pointer (some ⟨w.heap.size, i, none⟩))] [] [] [] ?_ ?_
        · refine oc g_mv ?_
          refine oc g_mv ?_
          refine oc g_mv ?_
          refine oc g_mv ?_
          refine oc g_mv ?_
          refine oc (g_op (fun ev uZ he => cvi8z uZ (by omega) rfl (he _ _ rfl))) ?_
          refine oc g_mv ?_
          refine oc (g_bn (fun uZ => muli _ _ 17 i (17 * i) uZ rfl (by omega))) ?_
          refine oc (g_op (fun ev uZ he => cvi8z uZ (by omega) rfl (he _ _ rfl))) ?_
          refine oc (g_ix (fun uZ => ixs (w.heap.size + 1) 0 16 16 i i uZ hj (Nat.zero_add _))) ?_
          refine oc (g_sw 0 (i) s8 (ga) (U8_set _ _ _)) ?_
          refine oc (g_ix (fun uZ => ixs (w.heap.size) 0 16 16 i i uZ hj (Nat.zero_add _))) ?_
          exact oc (g_sw 1 (i) s8 (gb) (U8_set _ _ _)) on
        intro u3 HB3 sz3 K3
        simp only [fX, nK, nP, Wr.f, aK, pM] at K3
        simp only [setG, setN, List.set_cons_zero, List.set_cons_succ]
        clear K2 HB2
        go_upto_region 4 with fail
        refine rgP K3 HB3 HB3.size [] [] [(0, 10, .int .i64 (i : Int)), (1, 11, .int .i64 ((i + 1 : Nat) : Int)), (2, 3, .int .i64 ((i + 1 : Nat) : Int))] [(2, 0)] [(2, 3)] [] ?_ ?_
        · refine oc g_mv ?_
          refine oc (g_bn (fun uZ => add_i _ _ (i : Int) 1 ((i + 1 : Nat) : Int) uZ (by omega) (by omega) (by omega))) ?_
          exact oc g_as on
        intro u4 HB4 sz4 K4
        simp only [fX, nK, nP, Wr.f, aK, pM] at K4
        simp only [setG, setN, List.set_cons_zero, List.set_cons_succ]
        clear K3 HB3
        go_wp2
        refine ⟨⟨i + 1, by omega, rfl, HB4, (by rw [hA.out]; exact (K4.cv 0)), (by rw [hB.out]; exact (K4.cv 1)), (K4.lt 0)⟩, ?_⟩
        simp [intOf] <;> omega
      · have hl1 : decide ((i : Int) < 16) = false := by simp; omega
        have hi16 : i = 16 := by omega
        subst hi16
        have hla := hAl.out 16
        have hlb := hBl.out 16
        have hnK := K1.n
        simp at hnK
        have K1_2 : Bk w.heap.size wr [(false, w.heap.size + 1, U8 (sA 16)), (false, w.heap.size, U8 (sB 16))] := ⟨.c (by omega) Kb.out <| .c (by omega) Kc.out <| trivial, by simp <;> omega⟩
        go_upto_region 3 with fail
        refine rgP K1_2 HBr HBr.size [] [] [(0, 8, .int .i64 ((16 : Nat) : Int)), (1, 9, .bool false)] [] [] [] ?_ ?_
        · refine oc g_mv ?_
          exact oc (g_bn (fun uZ => lss_i _ _ ((16 : Nat) : Int) 16 false uZ hl1)) on
        intro u2 HB2 sz2 K2
        simp only [fX, nK, nP, Wr.f, aK, pM] at K2
        simp only [setG, setN, List.set_cons_zero, List.set_cons_succ]
        have hlo4 := HB2.size
        go_upto_region 6 with fail
        refine rgF K2 HB2 HB2.size [] [] [(0, 24, .slice (some ⟨w.heap.size + 1, 0, none⟩) 16 16), (1, 25, .slice (some ⟨w.heap.size, 0, none⟩) 16 16), (5, 28, .int .i64 0), (7, 5, .int .i64 0)] [] [] [⟨2, 26, none, PT 0 u2.heap.size 16 (U8 (xs))⟩, ⟨3, 23, none, PT 0 u2.heap.size 16 (U8 (xs))⟩, ⟨4, 27, some 6, PS u2.heap.size 16 (U8 (xs))⟩, ⟨6, 4, none, PS u2.heap.size 16 (U8 (xs))⟩] [false, false] (.cons (fun _ _ _ h1 h2 => h2.stab h1) <| .cons (fun _ _ _ h1 h2 => h2.stab h1) <| .cons (fun _ _ _ h1 h2 => h2.stab h1) <| .cons (fun _ _ _ h1 h2 => h2.stab h1) <| Stab.nil) ?_ ?_
        · refine oc g_mv ?_
          refine oc g_mv ?_
          refine oc (g_cM 0 (PT 0 u2.heap.size 16 (U8 (xs))) ent_aes_Encrypt (fun fZ uZ kZ sZ bZ => (hE.out uZ _ _ bZ (inT (kZ.cv 0) (kZ.lb sZ 0) hla (Nat.le_refl _)) (inT (kZ.cv 1) (kZ.lb sZ 1) hlb (Nat.le_refl _))).mono fun e u2 ⟨v, e1, h1, h2⟩ => ⟨v, e1, h1.mono sZ, h2⟩)) ?_
          refine oc (g_mE 0 1 (PT 0 u2.heap.size 16 (U8 (xs)))) ?_
          refine oc (g_xE 1 2 (PT 0 u2.heap.size 16 (U8 (xs))) (PS u2.heap.size 16 (U8 (xs))) PT.fst) ?_
          refine oc (g_xV 1 (PT 0 u2.heap.size 16 (U8 (xs))) PT.snd) ?_
          refine oc (g_sE 2 3 (PS u2.heap.size 16 (U8 (xs)))) ?_
          exact oc g_as on
        intro u3 v3_2 hv3_2 v3_3 hv3_3 v3_4 hv3_4 v3_6 hv3_6 HB3 sz3 K3
        simp only [fX, nK, nP, Wr.f, aK, pM] at K3
        simp only [setG, setN, setE, List.set_cons_zero, List.set_cons_succ]
        clear HB2
        obtain ⟨bX, cX, rfl, ho1, ho2, hcX, hoC⟩ := hv3_6 rfl
        have K3xxx := Bk.moreT K2 K3 (by omega) ho1 ho2 hoC (by intro x hx; first | (simp at hx; done) | (simp at hx ⊢; omega))
        simp only [aK] at K3xxx
        clear K3
        go_upto_region 7 with fail
        refine rgP K3xxx HB3 HB3.size [] [] [(0, 29, .int .i64 0), (1, 30, .bool true), (2, 31, .bool true), (3, 32, .slice (some ⟨bX, 0, none⟩) 16 cX), (4, 33, .int .i64 ((16 : Nat) : Int)), (5, 34, .bool true), (6, 35, .bool true), (7, 36, .bool true), (8, 37, .slice (some ⟨bX, 0, none⟩) 16 cX), (9, 38, .pointer (some ⟨bX, 0, none⟩)), (10, 39, .int .u8 ((105 : Nat) : Int)), (11, 40, .bool true), (12, 41, .bool true), (13, 42, .bool true), (14, 43, .slice (some ⟨bX, 0, none⟩) 16 cX), (15, 44, .pointer (some ⟨bX, 1, none⟩)), (16, 45, .int .u8 ((196 : Nat) : Int)), (17, 46, .bool true), (18, 47, .bool true), (19, 48, .bool true), (20, 49, .slice (some ⟨bX, 0, none⟩) 16 cX), (21, 50, .pointer (some ⟨bX, 2, none⟩)), (22, 51, .int .u8 ((224 : Nat) : Int)), (23, 52, .bool true), (24, 53, .bool true), (25, 54, .bool true), (26, 55, .slice (some ⟨bX, 0, none⟩) 16 cX), (27, 56, .pointer (some ⟨bX, 3, none⟩)), (28, 57, .int .u8 ((216 : Nat) : Int)), (29, 58, .bool true), (30, 59, .bool true), (31, 0, .bool true)] [] [] [false] ?_ ?_
        · refine oc g_mv ?_
          refine oc (g_bn (fun uZ => eqe _ _ 0 0 true uZ (by decide))) ?_
          refine oc g_mv ?_
          refine oc g_mv ?_
          refine oc (g_ln Tryd.underlying24) ?_
          refine oc (g_bn (fun uZ => eqz_i _ _ ((16 : Nat) : Int) 16 true uZ (by decide))) ?_
          refine oc g_pk ?_
          refine oc g_mv ?_
          refine oc g_mv ?_
          refine oc (g_ix (fun uZ => ixs bX 0 16 cX 0 0 uZ (by decide) rfl)) ?_
          refine oc (g_lw 0 (0) l8 (d0)) ?_
          refine oc (g_bn (fun uZ => eql8 _ _ ((105 : Nat) : Int) 105 true uZ (by decide))) ?_
          refine oc g_pk ?_
          refine oc g_mv ?_
          refine oc g_mv ?_
          refine oc (g_ix (fun uZ => ixs bX 0 16 cX 1 1 uZ (by decide) rfl)) ?_
          refine oc (g_lw 0 (1) l8 (d1)) ?_
          refine oc (g_bn (fun uZ => eql8 _ _ ((196 : Nat) : Int) 196 true uZ (by decide))) ?_
          refine oc g_pk ?_
          refine oc g_mv ?_
          refine oc g_mv ?_
          refine oc (g_ix (fun uZ => ixs bX 0 16 cX 2 2 uZ (by decide) rfl)) ?_
          refine oc (g_lw 0 (2) l8 (d2)) ?_
          refine oc (g_bn (fun uZ => eql8 _ _ ((224 : Nat) : Int) 224 true uZ (by decide))) ?_
          refine oc g_pk ?_
          refine oc g_mv ?_
          refine oc g_mv ?_
          refine oc (g_ix (fun uZ => ixs bX 0 16 cX 3 3 uZ (by decide) rfl)) ?_
          refine oc (g_lw 0 (3) l8 (d3)) ?_
          refine oc (g_bn (fun uZ => eql8 _ _ ((216 : Nat) : Int) 216 true uZ (by decide))) ?_
          refine oc g_pk ?_
          exact oc g_as on
        intro u4 HB4 sz4 K4
        simp only [fX, nK, nP, Wr.f, aK, pM] at K4
        simp only [setG, setN, List.set_cons_zero, List.set_cons_succ]
        clear HB3
        go_wp2
        refine bodyPost_ret (v := .bool true) (by simp [results, Tryd.results13, go_sem, ]) rfl ⟨rfl, HB4⟩
theorem exA : flB 16 (fun i => i) 16 = exK := by decide +kernel
theorem exB : flB 16 (fun i => 17 * i) 16 = exP := by decide +kernel
theorem exP_B : BY 16 exP := ⟨rfl, fun j => by
  by_cases h : j < 16
  · exact (by decide : ∀ j, j < 16 → exP.getD j 0 < 256) j h
  · rw [List.getD_eq_getElem?_getD, List.getElem?_eq_none (by show 16 ≤ j; omega)]; decide⟩
theorem works6 (w : World) (hV : GS6 w) : Calls Tryd.prog 13 #[] w fun e w' => e = .returned (.bool true) ∧ Below w.heap.size w w' := by
  refine works6_core (encB (rky exK) exP) (flB 16 fun i => i) (flB 16 fun i => 17 * i) w rfl (fun _ => rfl) (flB_len 16 _) rfl (fun _ => rfl) (flB_len 16 _) ?_ ?_ ?_ ?_ (fun u v v2 hB h1 h2 => ?_)
  · rw [exEnc]; rfl
  · rw [exEnc]; rfl
  · rw [exEnc]; rfl
  · rw [exEnc]; rfl
  · rw [exA] at h1
    rw [exB] at h2
    exact cEncrypt exK exP v v2 u (hV.up hB) h1 h2 exK_B exP_B (by decide) (by decide)
end Go.Proofs.YtlcjbnhfmcnnfaaDoor
