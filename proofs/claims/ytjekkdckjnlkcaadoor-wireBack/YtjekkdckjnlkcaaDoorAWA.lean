/- sameLists, SameFields. -/
import Derived.Test.YtjekkdckjnlkcaaDoorAW9
namespace Go.Proofs.YtjekkdckjnlkcaaDoor
open Go.RowKit
set_option linter.unusedVariables false
set_option linter.unusedSimpArgs false
theorem lIw {b c : Nat} {v : Int} (w : World) (h : w.cell? ⟨b, c, none⟩ = some (.int .i64 v)) : (Instr.loadAt 3 (.pointer (some ⟨b, c, none⟩))).run Tryd.prog w = .ok (.int .i64 v) w := by go_simp
theorem notb (b : Bool) (w : World) : (Op.unary .not (.bool b)).run Tryd.prog w = .ok (.bool (!b)) w := by go_simp
theorem neq_iw (p q : Operand) (x y : Int) (b : Bool) (w : World) (h : decide (x ≠ y) = b) : (do eqGuard .neq 3 p q (.int .i64 x) (.int .i64 y); binOp .neq 3 (.int .i64 x) (.int .i64 y) : Sem Value).run Tryd.prog w = .ok (.bool b) w := by
  subst h
  by_cases e : x = y
  · subst e; go_simp
  · go_simp
set_option maxRecDepth 100000 in
set_option maxHeartbeats 8000000 in
theorem cSameL_core (n n2 gcap gcap2 : Nat) (gsl gsl2 : Option Addr) (pS qS : Nat → List Nat) (r : Bool) (w : World) (hn : n ≤ 1000000000) (hrow : Hid (0 < n → ∃ gl go, gsl = some ⟨gl, go, none⟩ ∧ gl < w.heap.size ∧ ∀ i, i < n → ∃ sv cv, w.cell? ⟨gl, go + i, none⟩ = some (.slice sv (pS i).length cv) ∧ IN w w.heap.size (.slice sv (pS i).length cv) (pS i) ∧ ∀ x ∈ pS i, x < 256)) (hrow2 : Hid (0 < n2 → ∃ gl go, gsl2 = some ⟨gl, go, none⟩ ∧ gl < w.heap.size ∧ ∀ i, i < n2 → ∃ sv cv, w.cell? ⟨gl, go + i, none⟩ = some (.slice sv (qS i).length cv) ∧ IN w w.heap.size (.slice sv (qS i).length cv) (qS i) ∧ ∀ x ∈ qS i, x < 256)) (hE1 : n ≠ n2 → r = false) (hE2 : Hid (∀ i, i < n → pS i ≠ qS i → r = false)) (hE3 : Hid (n = n2 → (∀ j, j < n → pS j = qS j) → r = true)) :
    Calls Tryd.prog 25 #[.slice gsl n gcap, .slice gsl2 n2 gcap2] w fun e w' => e = .returned (.bool r) ∧ Below w.heap.size w w' := by
  by_cases hnn : n = n2
  · subst hnn
    go_enter Tryd.func25, Tryd.ntmps25
    go_wp2_with fail
    go_loopw [5] (fun s5 wr => ∃ i : Nat, i ≤ n ∧ s5 = .int .i64 (i : Int) ∧ Below w.heap.size w wr ∧ Hid (∀ j, j < i → pS j = qS j)) (fun s5 _ => n - (intOf s5).toNat)
    case atStart => exact ⟨0, by omega, rfl, Below.refl _ _, fun j hj => absurd hj (by omega)⟩
    case round =>
    obtain ⟨i, hi, rfl, HBr, hgd⟩ := hrel
    by_cases hj : i < n
    · have hl1 : decide ((i : Int) < (n : Int)) = true := by simp; omega
      obtain ⟨gl, go, rfl, hgl, hcl⟩ := hrow.out (by omega)
      obtain ⟨gl2, go2, rfl, hgl2, hcl2⟩ := hrow2.out (by omega)
      obtain ⟨sv, cv, hc1, hin1, hx1⟩ := hcl i hj
      obtain ⟨sv2, cv2, hc2, hin2, hx2⟩ := hcl2 i hj
      have hmore : pS i = qS i → Hid (∀ j, j < i + 1 → pS j = qS j) := fun h j hj2 => by
        by_cases e : j = i
        · subst e; exact h
        · exact hgd.out j (by omega)
      have K0_1 := Bk.nil (w.heap.size) wr
      go_upto_region 4 with fail
      refine rgP K0_1 HBr HBr.size [] [] [(0, 11, .int .i64 ((i : Nat) : Int)), (1, 12, .slice (some ⟨gl, go, none⟩) n gcap), (2, 13, .int .i64 ((n : Nat) : Int)), (3, 14, .bool true)] [] [] [] ?_ ?_
      · refine oc g_mv ?_
        refine oc g_mv ?_
        refine oc (g_ln Tryd.underlying38) ?_
        exact oc (g_bn (fun uZ => lss_i _ _ (i : Int) (n : Int) _ uZ hl1)) on
      intro u1 HB1 sz1 K1
      simp only [fX, nK, nP, Wr.f, aK, pM] at K1
      simp only [setG, setN, List.set_cons_zero, List.set_cons_succ]
      go_upto_region 6 with fail
      refine rgD K1 HB1 HB1.size [] [] [(0, 17, .slice (some ⟨gl, go, none⟩) n gcap), (1, 18, .int .i64 ((i : Nat) : Int)), (2, 19, .pointer (some ⟨gl, go + i, none⟩)), (3, 20, .slice sv (pS i).length cv), (4, 21, .slice (some ⟨gl2, go2, none⟩) n gcap2), (5, 22, .int .i64 ((i : Nat) : Int)), (6, 23, .pointer (some ⟨gl2, go2 + i, none⟩)), (7, 24, .slice sv2 (qS i).length cv2), (8, 25, .bool (decide (pS i = qS i))), (9, 26, .bool (!(decide (pS i = qS i))))] [] [] [] ?_ ?_
      · refine oc g_mv ?_
        refine oc g_mv ?_
        refine oc (g_ix (fun uZ => ixSl gl go n gcap i uZ hj)) ?_
        refine oc (g_lg gl (go + i) lSl (hc1) (hgl)) ?_
        refine oc g_mv ?_
        refine oc g_mv ?_
        refine oc (g_ix (fun uZ => ixSl gl2 go2 n gcap2 i uZ hj)) ?_
        refine oc (g_lg gl2 (go2 + i) lSl (hc2) (hgl2)) ?_
        refine oc (g_cb ent_seneschalbase_SameBytes (fun uZ bZ => cSameB (pS i) (qS i) _ _ uZ ((hin1.below bZ).mono bZ.size) ((hin2.below bZ).mono bZ.size) hx1 hx2)) ?_
        exact oc (g_un (fun uZ => notb _ uZ)) on
      intro u2 HB2 sz2 K2
      simp only [fX, nK, nP, Wr.f, aK, pM] at K2
      simp only [setG, setN, List.set_cons_zero, List.set_cons_succ]
      clear K1 HB1
      by_cases heq : pS i = qS i
      · have hdd : (!(decide (pS i = qS i))) = false := by simp [heq]
        have hg2 := hmore heq
        rw [hdd]
        go_upto_region 5 with fail
        refine rgP K2 HB2 HB2.size [] [] [(0, 15, .int .i64 ((i : Nat) : Int)), (1, 16, .int .i64 ((i + 1 : Nat) : Int)), (2, 5, .int .i64 ((i + 1 : Nat) : Int))] [(2, 0)] [(2, 5)] [] ?_ ?_
        · refine oc g_mv ?_
          refine oc (g_bn (fun uZ => add_i _ _ (i : Int) 1 ((i + 1 : Nat) : Int) uZ (by omega) (by omega) (by omega))) ?_
          exact oc g_as on
        intro u3 HB3 sz3 K3
        simp only [fX, nK, nP, Wr.f, aK, pM] at K3
        simp only [setG, setN, List.set_cons_zero, List.set_cons_succ]
        clear K2 HB2
        go_wp2
        refine ⟨⟨i + 1, by omega, by simp, HB3, hg2⟩, ?_⟩
        simp [intOf]; omega
      · have hdd : (!(decide (pS i = qS i))) = true := by simp [heq]
        obtain rfl := hE2.out i hj heq
        rw [hdd]
        go_wp2
        exact bodyPost_ret (v := .bool false) (by simp [results, Tryd.results25, go_sem]) rfl ⟨rfl, HB2⟩
    · have hl2 : ¬ (i : Int) < (n : Int) := by omega
      have hin : i = n := by omega
      subst hin
      obtain rfl := hE3.out (by first | rfl | trivial) hgd.out
      go_wp2
      exact bodyPost_ret (v := .bool true) (by simp [results, Tryd.results25, go_sem]) rfl ⟨rfl, HBr⟩
  · have hn3 : ¬ (n : Int) = (n2 : Int) := by omega
    obtain rfl := hE1 hnn
    go_enter Tryd.func25, Tryd.ntmps25
    go_wp2
    exact bodyPost_ret (v := .bool false) (by simp [results, Tryd.results25, go_sem]) rfl ⟨rfl, Below.refl _ _⟩
set_option maxRecDepth 100000 in
set_option maxHeartbeats 8000000 in
theorem cSameF_core (n n2 gcap gcap2 : Nat) (gsl gsl2 : Option Addr) (tg tg2 : Nat → Int) (pS qS : Nat → List Nat) (r : Bool) (w : World) (hn : n ≤ 1000000000) (hrow : Hid (0 < n → ∃ gl go, gsl = some ⟨gl, go, none⟩ ∧ gl < w.heap.size ∧ ∀ i, i < n → w.cell? ⟨gl, go + 2 * i, none⟩ = some (.int .i64 (tg i)) ∧ ∃ sv cv, w.cell? ⟨gl, go + 2 * i + 1, none⟩ = some (.slice sv (pS i).length cv) ∧ IN w w.heap.size (.slice sv (pS i).length cv) (pS i) ∧ ∀ x ∈ pS i, x < 256)) (hrow2 : Hid (0 < n2 → ∃ gl go, gsl2 = some ⟨gl, go, none⟩ ∧ gl < w.heap.size ∧ ∀ i, i < n2 → w.cell? ⟨gl, go + 2 * i, none⟩ = some (.int .i64 (tg2 i)) ∧ ∃ sv cv, w.cell? ⟨gl, go + 2 * i + 1, none⟩ = some (.slice sv (qS i).length cv) ∧ IN w w.heap.size (.slice sv (qS i).length cv) (qS i) ∧ ∀ x ∈ qS i, x < 256)) (hE1 : n ≠ n2 → r = false) (hE2 : Hid (∀ i, i < n → (tg i ≠ tg2 i ∨ pS i ≠ qS i) → r = false)) (hE3 : Hid (n = n2 → (∀ j, j < n → tg j = tg2 j ∧ pS j = qS j) → r = true)) :
    Calls Tryd.prog 24 #[.slice gsl n gcap, .slice gsl2 n2 gcap2] w fun e w' => e = .returned (.bool r) ∧ Below w.heap.size w w' := by
  by_cases hnn : n = n2
  · subst hnn
    go_enter Tryd.func24, Tryd.ntmps24
    go_wp2_with fail
    go_loopw [5] (fun s5 wr => ∃ i : Nat, i ≤ n ∧ s5 = .int .i64 (i : Int) ∧ Below w.heap.size w wr ∧ Hid (∀ j, j < i → tg j = tg2 j ∧ pS j = qS j)) (fun s5 _ => n - (intOf s5).toNat)
    case atStart => exact ⟨0, by omega, rfl, Below.refl _ _, fun j hj => absurd hj (by omega)⟩
    case round =>
    obtain ⟨i, hi, rfl, HBr, hgd⟩ := hrel
    by_cases hj : i < n
    · have hl1 : decide ((i : Int) < (n : Int)) = true := by simp; omega
      obtain ⟨gl, go, rfl, hgl, hcl⟩ := hrow.out (by omega)
      obtain ⟨gl2, go2, rfl, hgl2, hcl2⟩ := hrow2.out (by omega)
      obtain ⟨hd1, sv, cv, hc1, hin1, hx1⟩ := hcl i hj
      obtain ⟨hd2, sv2, cv2, hc2, hin2, hx2⟩ := hcl2 i hj
      have hmore : tg i = tg2 i ∧ pS i = qS i → Hid (∀ j, j < i + 1 → tg j = tg2 j ∧ pS j = qS j) := fun h j hj2 => by
        by_cases e : j = i
        · subst e; exact h
        · exact hgd.out j (by omega)
      have K0_1 := Bk.nil (w.heap.size) wr
      go_upto_region 4 with fail
      refine rgP K0_1 HBr HBr.size [] [] [(0, 11, .int .i64 ((i : Nat) : Int)), (1, 12, .slice (some ⟨gl, go, none⟩) n gcap), (2, 13, .int .i64 ((n : Nat) : Int)), (3, 14, .bool true)] [] [] [] ?_ ?_
      · refine oc g_mv ?_
        refine oc g_mv ?_
        refine oc (g_ln Tryd.underlying22) ?_
        exact oc (g_bn (fun uZ => lss_i _ _ (i : Int) (n : Int) _ uZ hl1)) on
      intro u1 HB1 sz1 K1
      simp only [fX, nK, nP, Wr.f, aK, pM] at K1
      simp only [setG, setN, List.set_cons_zero, List.set_cons_succ]
      by_cases htt : tg i = tg2 i
      · have htd : decide (tg i ≠ tg2 i) = false := by simp [htt]
        go_upto_region 6 with fail
        refine rgD K1 HB1 HB1.size [] [] [(0, 17, .slice (some ⟨gl, go, none⟩) n gcap), (1, 18, .int .i64 ((i : Nat) : Int)), (2, 19, .pointer (some ⟨gl, go + 2 * i, none⟩)), (3, 20, .pointer (some ⟨gl, go + 2 * i, none⟩)), (4, 21, .int .i64 (tg i)), (5, 22, .slice (some ⟨gl2, go2, none⟩) n gcap2), (6, 23, .int .i64 ((i : Nat) : Int)), (7, 24, .pointer (some ⟨gl2, go2 + 2 * i, none⟩)), (8, 25, .pointer (some ⟨gl2, go2 + 2 * i, none⟩)), (9, 26, .int .i64 (tg2 i)), (10, 27, .bool false), (11, 28, .bool false), (12, 29, .slice (some ⟨gl, go, none⟩) n gcap), (13, 30, .int .i64 ((i : Nat) : Int)), (14, 31, .pointer (some ⟨gl, go + 2 * i, none⟩)), (15, 32, .pointer (some ⟨gl, go + 2 * i + 1, none⟩)), (16, 33, .slice sv (pS i).length cv), (17, 34, .slice (some ⟨gl2, go2, none⟩) n gcap2), (18, 35, .int .i64 ((i : Nat) : Int)), (19, 36, .pointer (some ⟨gl2, go2 + 2 * i, none⟩)), (20, 37, .pointer (some ⟨gl2, go2 + 2 * i + 1, none⟩)), (21, 38, .slice sv2 (qS i).length cv2), (22, 39, .bool (decide (pS i = qS i))), (23, 40, .bool (!(decide (pS i = qS i)))), (24, 41, .bool (!(decide (pS i = qS i))))] [] [] [] ?_ ?_
        · refine oc g_mv ?_
          refine oc g_mv ?_
          refine oc (g_ix (fun uZ => ixF gl go n gcap i uZ hj)) ?_
          refine oc (g_fd (fun uZ => fdF0 gl (go + 2 * i) uZ)) ?_
          refine oc (g_lg gl (go + 2 * i) lIw (hd1) (hgl)) ?_
          refine oc g_mv ?_
          refine oc g_mv ?_
          refine oc (g_ix (fun uZ => ixF gl2 go2 n gcap2 i uZ hj)) ?_
          refine oc (g_fd (fun uZ => fdF0 gl2 (go2 + 2 * i) uZ)) ?_
          refine oc (g_lg gl2 (go2 + 2 * i) lIw (hd2) (hgl2)) ?_
          refine oc (g_bn (fun uZ => neq_iw _ _ (tg i) (tg2 i) _ uZ htd)) ?_
          refine oc g_mv ?_
          refine oc g_mv ?_
          refine oc g_mv ?_
          refine oc (g_ix (fun uZ => ixF gl go n gcap i uZ hj)) ?_
          refine oc (g_fd (fun uZ => fdF1 gl (go + 2 * i) uZ)) ?_
          refine oc (g_lg gl (go + 2 * i + 1) lSl (hc1) (hgl)) ?_
          refine oc g_mv ?_
          refine oc g_mv ?_
          refine oc (g_ix (fun uZ => ixF gl2 go2 n gcap2 i uZ hj)) ?_
          refine oc (g_fd (fun uZ => fdF1 gl2 (go2 + 2 * i) uZ)) ?_
          refine oc (g_lg gl2 (go2 + 2 * i + 1) lSl (hc2) (hgl2)) ?_
          refine oc (g_cb ent_seneschalbase_SameBytes (fun uZ bZ => cSameB (pS i) (qS i) _ _ uZ ((hin1.below bZ).mono bZ.size) ((hin2.below bZ).mono bZ.size) hx1 hx2)) ?_
          refine oc (g_un (fun uZ => notb _ uZ)) ?_
          exact oc g_pk on
        intro u2 HB2 sz2 K2
        simp only [fX, nK, nP, Wr.f, aK, pM] at K2
        simp only [setG, setN, List.set_cons_zero, List.set_cons_succ]
        clear K1 HB1
        by_cases heq : pS i = qS i
        · have hdd : (!(decide (pS i = qS i))) = false := by simp [heq]
          have hg2 := hmore ⟨htt, heq⟩
          rw [hdd]
          go_upto_region 5 with fail
          refine rgP K2 HB2 HB2.size [] [] [(0, 15, .int .i64 ((i : Nat) : Int)), (1, 16, .int .i64 ((i + 1 : Nat) : Int)), (2, 5, .int .i64 ((i + 1 : Nat) : Int))] [(2, 0)] [(2, 5)] [] ?_ ?_
          · refine oc g_mv ?_
            refine oc (g_bn (fun uZ => add_i _ _ (i : Int) 1 ((i + 1 : Nat) : Int) uZ (by omega) (by omega) (by omega))) ?_
            exact oc g_as on
          intro u3 HB3 sz3 K3
          simp only [fX, nK, nP, Wr.f, aK, pM] at K3
          simp only [setG, setN, List.set_cons_zero, List.set_cons_succ]
          clear K2 HB2
          go_wp2
          refine ⟨⟨i + 1, by omega, by simp, HB3, hg2⟩, ?_⟩
          simp [intOf]; omega
        · have hdd : (!(decide (pS i = qS i))) = true := by simp [heq]
          obtain rfl := hE2.out i hj (.inr heq)
          rw [hdd]
          go_wp2
          exact bodyPost_ret (v := .bool false) (by simp [results, Tryd.results24, go_sem]) rfl ⟨rfl, HB2⟩
      · have htd : decide (tg i ≠ tg2 i) = true := by simp [htt]
        go_upto_region 6 with fail
        refine rgD K1 HB1 HB1.size [] [] [(0, 17, .slice (some ⟨gl, go, none⟩) n gcap), (1, 18, .int .i64 ((i : Nat) : Int)), (2, 19, .pointer (some ⟨gl, go + 2 * i, none⟩)), (3, 20, .pointer (some ⟨gl, go + 2 * i, none⟩)), (4, 21, .int .i64 (tg i)), (5, 22, .slice (some ⟨gl2, go2, none⟩) n gcap2), (6, 23, .int .i64 ((i : Nat) : Int)), (7, 24, .pointer (some ⟨gl2, go2 + 2 * i, none⟩)), (8, 25, .pointer (some ⟨gl2, go2 + 2 * i, none⟩)), (9, 26, .int .i64 (tg2 i)), (10, 27, .bool true), (11, 28, .bool true), (12, 29, undef), (13, 30, undef), (14, 31, undef), (15, 32, undef), (16, 33, undef), (17, 34, undef), (18, 35, undef), (19, 36, undef), (20, 37, undef), (21, 38, undef), (22, 39, undef), (23, 40, undef), (24, 41, (Go.Value.bool Bool.true))] [] [] [] ?_ ?_
        · refine oc g_mv ?_
          refine oc g_mv ?_
          refine oc (g_ix (fun uZ => ixF gl go n gcap i uZ hj)) ?_
          refine oc (g_fd (fun uZ => fdF0 gl (go + 2 * i) uZ)) ?_
          refine oc (g_lg gl (go + 2 * i) lIw (hd1) (hgl)) ?_
          refine oc g_mv ?_
          refine oc g_mv ?_
          refine oc (g_ix (fun uZ => ixF gl2 go2 n gcap2 i uZ hj)) ?_
          refine oc (g_fd (fun uZ => fdF0 gl2 (go2 + 2 * i) uZ)) ?_
          refine oc (g_lg gl2 (go2 + 2 * i) lIw (hd2) (hgl2)) ?_
          refine oc (g_bn (fun uZ => neq_iw _ _ (tg i) (tg2 i) _ uZ htd)) ?_
          refine oc g_mv ?_
          refine oc g_sk ?_
          refine oc g_sk ?_
          refine oc g_sk ?_
          refine oc g_sk ?_
          refine oc g_sk ?_
          refine oc g_sk ?_
          refine oc g_sk ?_
          refine oc g_sk ?_
          refine oc g_sk ?_
          refine oc g_sk ?_
          refine oc g_sk ?_
          refine oc g_sk ?_
          exact oc g_pk on
        intro u2 HB2 sz2 K2
        simp only [fX, nK, nP, Wr.f, aK, pM] at K2
        simp only [setG, setN, List.set_cons_zero, List.set_cons_succ]
        clear K1 HB1
        obtain rfl := hE2.out i hj (.inl htt)
        go_wp2
        exact bodyPost_ret (v := .bool false) (by simp [results, Tryd.results24, go_sem]) rfl ⟨rfl, HB2⟩
    · have hl2 : ¬ (i : Int) < (n : Int) := by omega
      have hin : i = n := by omega
      subst hin
      obtain rfl := hE3.out (by first | rfl | trivial) hgd.out
      go_wp2
      exact bodyPost_ret (v := .bool true) (by simp [results, Tryd.results24, go_sem]) rfl ⟨rfl, HBr⟩
  · have hn3 : ¬ (n : Int) = (n2 : Int) := by omega
    obtain rfl := hE1 hnn
    go_enter Tryd.func24, Tryd.ntmps24
    go_wp2
    exact bodyPost_ret (v := .bool false) (by simp [results, Tryd.results24, go_sem]) rfl ⟨rfl, Below.refl _ _⟩
theorem LV.row {w : World} {v : Value} {ps : List (List Nat)} (h : LV w v ps) (hx : ∀ p ∈ ps, ∀ x ∈ p, x < 256) : ∃ gsl gcap, v = .slice gsl ps.length gcap ∧ (0 < ps.length → ∃ gl go, gsl = some ⟨gl, go, none⟩ ∧ gl < w.heap.size ∧ ∀ i, i < ps.length → ∃ sv cv, w.cell? ⟨gl, go + i, none⟩ = some (.slice sv (ps.getD i []).length cv) ∧ IN w w.heap.size (.slice sv (ps.getD i []).length cv) (ps.getD i []) ∧ ∀ x ∈ ps.getD i [], x < 256) := by
  obtain ⟨sl, cap, gl, go, rfl, h3, h4, h5⟩ := h
  refine ⟨sl, cap, rfl, fun h0 => ⟨gl, go, h3.resolve_left (by omega), h4, fun i hi => ?_⟩⟩
  have e : ps.getD i [] = ps[i] := by rw [List.getD_eq_getElem?_getD, List.getElem?_eq_getElem hi]; rfl
  obtain ⟨x, b, c⟩ := h5 i ps[i] (List.getElem?_eq_getElem hi)
  rw [e]
  obtain ⟨s2, c2, g2, o2, q1, q2⟩ := c
  exact ⟨s2, c2, by rw [← q1]; exact b, ⟨s2, c2, g2, o2, rfl, q2⟩, hx _ (List.getElem_mem hi)⟩
theorem ext_D {α : Type} {a b : List α} (d : α) (hl : a.length = b.length) (h : ∀ i, i < a.length → a.getD i d = b.getD i d) : a = b := by
  refine List.ext_getElem hl fun i h1 h2 => ?_
  have := h i h1
  rw [List.getD_eq_getElem?_getD, List.getD_eq_getElem?_getD, List.getElem?_eq_getElem h1, List.getElem?_eq_getElem h2] at this
  exact this
/-- sameLists. -/
theorem cSameL (ps qs : List (List Nat)) (v v2 : Value) (w : World) (h : LV w v ps) (h2 : LV w v2 qs) (hx : ∀ p ∈ ps, ∀ x ∈ p, x < 256) (hy : ∀ p ∈ qs, ∀ x ∈ p, x < 256) (hn : ps.length ≤ 1000000000) :
    Calls Tryd.prog 25 #[v, v2] w fun e w' => e = .returned (.bool (decide (ps = qs))) ∧ Below w.heap.size w w' := by
  obtain ⟨g1, c1, rfl, r1⟩ := h.row hx
  obtain ⟨g2, c2, rfl, r2⟩ := h2.row hy
  refine cSameL_core ps.length qs.length c1 c2 g1 g2 (fun i => ps.getD i []) (fun i => qs.getD i []) _ w hn r1 r2 (fun h => ?_) (fun i hi h => ?_) (fun hl h => ?_)
  · simp only [decide_eq_false_iff_not]; intro e; subst e; exact h rfl
  · simp only [decide_eq_false_iff_not]; intro e; subst e; exact h rfl
  · simp only [decide_eq_true_iff]; exact ext_D [] hl h
theorem VF.rowx {w : World} {v : Value} {fs : List FldI} (h : VF w v fs) (hx : ∀ p ∈ fs, ∀ x ∈ p.2, x < 256) : ∃ gsl gcap, v = .slice gsl fs.length gcap ∧ (0 < fs.length → ∃ gl go, gsl = some ⟨gl, go, none⟩ ∧ gl < w.heap.size ∧ ∀ i, i < fs.length → w.cell? ⟨gl, go + 2 * i, none⟩ = some (.int .i64 (tgF fs i)) ∧ ∃ sv cv, w.cell? ⟨gl, go + 2 * i + 1, none⟩ = some (.slice sv (psF fs i).length cv) ∧ IN w w.heap.size (.slice sv (psF fs i).length cv) (psF fs i) ∧ ∀ x ∈ psF fs i, x < 256) := by
  obtain ⟨gsl, gcap, e, hr⟩ := h.row
  refine ⟨gsl, gcap, e, fun h0 => ?_⟩
  obtain ⟨gl, go, e2, hl, hc⟩ := hr h0
  refine ⟨gl, go, e2, hl, fun i hi => ?_⟩
  obtain ⟨a, sv, cv, b, c⟩ := hc i hi
  exact ⟨a, sv, cv, b, c, hx _ (psF_mem hi)⟩
/-- SameFields. -/
theorem cSameF (ps qs : List FldI) (v v2 : Value) (w : World) (h : VF w v ps) (h2 : VF w v2 qs) (hx : ∀ p ∈ ps, ∀ x ∈ p.2, x < 256) (hy : ∀ p ∈ qs, ∀ x ∈ p.2, x < 256) (hn : ps.length ≤ 1000000000) :
    Calls Tryd.prog 24 #[v, v2] w fun e w' => e = .returned (.bool (decide (ps = qs))) ∧ Below w.heap.size w w' := by
  obtain ⟨g1, c1, rfl, r1⟩ := h.rowx hx
  obtain ⟨g2, c2, rfl, r2⟩ := h2.rowx hy
  refine cSameF_core ps.length qs.length c1 c2 g1 g2 (tgF ps) (tgF qs) (psF ps) (psF qs) _ w hn r1 r2 (fun h => ?_) (fun i hi h => ?_) (fun hl h => ?_)
  · simp only [decide_eq_false_iff_not]; intro e; subst e; exact h rfl
  · simp only [decide_eq_false_iff_not]; intro e; subst e; exact h.elim (fun h => h rfl) (fun h => h rfl)
  · simp only [decide_eq_true_iff]; exact ext_D (0, []) hl fun i hi => Prod.ext (h i hi).1 (h i hi).2
end Go.Proofs.YtjekkdckjnlkcaaDoor
