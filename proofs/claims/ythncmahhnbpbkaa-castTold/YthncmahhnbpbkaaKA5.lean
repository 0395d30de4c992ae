/- Cast: whether a ready is called for. -/
import Derived.Test.YthncmahhnbpbkaaKAL
namespace Go.Proofs.Ythncmahhnbpbkaa
open Go.RowKit Go.ChangeMaps Go.Maps Go.WideMaps
set_option linter.unusedVariables false
set_option linter.unusedSimpArgs false
/-- Whether a ready of that is called for. -/
def rdy (x : Nd) (v : ByteArray) : Bool := decide (x.n + x.t < 2 * cnt x.ec v) || decide (x.t < cnt x.rd v)
set_option maxRecDepth 100000 in
set_option maxHeartbeats 4000000 in
theorem cCalls_core (s : Nat) (x : Nd) (v : ByteArray) (c1 c2 : Int) (w : World) (hxc : CV w (s + 6) (nC s x)) (hn : 0 ≤ x.n ∧ x.n ≤ 100 ∧ 0 ≤ x.t ∧ x.t ≤ 100) (b1 : 0 ≤ c1 ∧ c1 ≤ 100)
    (o1 : ∀ u, Below w.heap.size w u → Calls Try.prog 32 #[.agg #[.map (some (s + 1)), .map (some (s + 2))], .string v] u fun e u' => e = .returned (.int .i64 c1) ∧ Below u.heap.size u u')
    (o2 : ∀ u, Below w.heap.size w u → Calls Try.prog 32 #[.agg #[.map (some (s + 4)), .map (some (s + 5))], .string v] u fun e u' => e = .returned (.int .i64 c2) ∧ Below u.heap.size u u') :
    Calls Try.prog 34 #[pN s, .string v] w fun e' w' => e' = .returned (.bool (decide (x.n + x.t < 2 * c1) || decide (x.t < c2))) ∧ Below w.heap.size w w' := by
  have ls := hxc.lt (by simp)
  go_enter Try.func34, Try.ntmps34
  have HB0 : Below w.heap.size w w := Below.refl _ _
  cases h1 : decide (x.n + x.t < 2 * c1)
  · skip
    have K0_1 : Bk w.heap.size w [(false, s + 6, [.int .i64 x.n, .int .i64 x.t, .int .i64 x.me, .int .i64 x.dl, .bool x.bg, .map (some (s + 1)), .map (some (s + 2)), .map (some (s + 4)), .map (some (s + 5)), sV x.e, bV x.e, sV x.r, bV x.r, sV x.d, bV x.d])] := ⟨.c ls hxc <| trivial, by simp⟩
    go_upto_region 1 with fail
    refine rgD K0_1 HB0 HB0.size [] [] [(0, 5, .pointer (some ⟨s + 6, 0, none⟩)), (1, 6, .pointer (some ⟨s + 6, 0, none⟩)), (2, 7, .pointer (some ⟨s + 6, 5, none⟩)), (3, 8, .agg #[.map (some (s + 1)), .map (some (s + 2))]), (4, 9, .string v), (5, 10, .int .i64 c1), (6, 11, .int .i64 (2 * c1)), (7, 12, .pointer (some ⟨s + 6, 0, none⟩)), (8, 13, .pointer (some ⟨s + 6, 0, none⟩)), (9, 14, .pointer (some ⟨s + 6, 0, none⟩)), (10, 15, .int .i64 x.n), (11, 16, .pointer (some ⟨s + 6, 0, none⟩)), (12, 17, .pointer (some ⟨s + 6, 0, none⟩)), (13, 18, .pointer (some ⟨s + 6, 1, none⟩)), (14, 19, .int .i64 x.t), (15, 20, .int .i64 (x.n + x.t)), (16, 21, .bool false), (17, 22, .bool false), (18, 23, .pointer (some ⟨s + 6, 0, none⟩)), (19, 24, .pointer (some ⟨s + 6, 0, none⟩)), (20, 25, .pointer (some ⟨s + 6, 7, none⟩)), (21, 26, .agg #[.map (some (s + 4)), .map (some (s + 5))]), (22, 27, .string v), (23, 28, .int .i64 c2), (24, 29, .pointer (some ⟨s + 6, 0, none⟩)), (25, 30, .pointer (some ⟨s + 6, 0, none⟩)), (26, 31, .pointer (some ⟨s + 6, 1, none⟩)), (27, 32, .int .i64 x.t), (28, 33, .bool (decide (x.t < c2))), (29, 34, .bool (decide (x.t < c2))), (30, 4, .bool (decide (x.t < c2)))] [] [] [] ?_ ?_
    · refine oc g_mv ?_
      refine oc g_nl ?_
      refine oc (g_fd (fun uZ => fk_cast_Node_5 _ _ uZ)) ?_
      refine oc (g_lo 0 5 Try.underlying64 info_cast_counts) ?_
      refine oc g_mv ?_
      refine oc (g_cb ent__cast_counts__of (fun uZ bZ => o1 uZ bZ)) ?_
      refine oc (g_bn (fun uZ => mul_i _ _ 2 c1 _ uZ rfl (by omega) (by omega))) ?_
      refine oc g_mv ?_
      refine oc g_nl ?_
      refine oc (g_fd (fun uZ => fk_cast_Node_0 _ _ uZ)) ?_
      refine oc (g_lc 0 0 lI) ?_
      refine oc g_mv ?_
      refine oc g_nl ?_
      refine oc (g_fd (fun uZ => fk_cast_Node_1 _ _ uZ)) ?_
      refine oc (g_lc 0 1 lI) ?_
      refine oc (g_bn (fun uZ => add_i _ _ x.n x.t _ uZ rfl (by omega) (by omega))) ?_
      refine oc (g_bn (fun uZ => gtr_i _ _ (2 * c1) (x.n + x.t) _ uZ h1)) ?_
      refine oc g_mv ?_
      refine oc g_mv ?_
      refine oc g_nl ?_
      refine oc (g_fd (fun uZ => fk_cast_Node_6 _ _ uZ)) ?_
      refine oc (g_lo 0 7 Try.underlying64 info_cast_counts) ?_
      refine oc g_mv ?_
      refine oc (g_cb ent__cast_counts__of (fun uZ bZ => o2 uZ bZ)) ?_
      refine oc g_mv ?_
      refine oc g_nl ?_
      refine oc (g_fd (fun uZ => fk_cast_Node_1 _ _ uZ)) ?_
      refine oc (g_lc 0 1 lI) ?_
      refine oc (g_bn (fun uZ => gtr_i _ _ c2 x.t _ uZ rfl)) ?_
      refine oc g_pk ?_
      exact oc g_as on
    intro u1 HB1 sz1 K1
    simp only [fX, nK, nP, Wr.f, aK, pM] at K1
    simp only [setG, setN, List.set_cons_zero, List.set_cons_succ]
    clear HB0
    go_wp2
    refine bodyPost_ret (v := .bool (decide (x.t < c2))) (by simp [results, Try.results34, go_sem, ]) rfl ⟨by simp, HB1⟩
  · skip
    have K0_1 : Bk w.heap.size w [(false, s + 6, [.int .i64 x.n, .int .i64 x.t, .int .i64 x.me, .int .i64 x.dl, .bool x.bg, .map (some (s + 1)), .map (some (s + 2)), .map (some (s + 4)), .map (some (s + 5)), sV x.e, bV x.e, sV x.r, bV x.r, sV x.d, bV x.d])] := ⟨.c ls hxc <| trivial, by simp⟩
    go_upto_region 1 with fail
    refine rgD K0_1 HB0 HB0.size [] [] [(0, 5, .pointer (some ⟨s + 6, 0, none⟩)), (1, 6, .pointer (some ⟨s + 6, 0, none⟩)), (2, 7, .pointer (some ⟨s + 6, 5, none⟩)), (3, 8, .agg #[.map (some (s + 1)), .map (some (s + 2))]), (4, 9, .string v), (5, 10, .int .i64 c1), (6, 11, .int .i64 (2 * c1)), (7, 12, .pointer (some ⟨s + 6, 0, none⟩)), (8, 13, .pointer (some ⟨s + 6, 0, none⟩)), (9, 14, .pointer (some ⟨s + 6, 0, none⟩)), (10, 15, .int .i64 x.n), (11, 16, .pointer (some ⟨s + 6, 0, none⟩)), (12, 17, .pointer (some ⟨s + 6, 0, none⟩)), (13, 18, .pointer (some ⟨s + 6, 1, none⟩)), (14, 19, .int .i64 x.t), (15, 20, .int .i64 (x.n + x.t)), (16, 21, .bool true), (17, 22, .bool true), (18, 23, undef), (19, 24, undef), (20, 25, undef), (21, 26, undef), (22, 27, undef), (23, 28, undef), (24, 29, undef), (25, 30, undef), (26, 31, undef), (27, 32, undef), (28, 33, undef), (29, 34, (Go.Value.bool Bool.true)), (30, 4, (Go.Value.bool Bool.true))] [] [] [] ?_ ?_
    · refine oc g_mv ?_
      refine oc g_nl ?_
      refine oc (g_fd (fun uZ => fk_cast_Node_5 _ _ uZ)) ?_
      refine oc (g_lo 0 5 Try.underlying64 info_cast_counts) ?_
      refine oc g_mv ?_
      refine oc (g_cb ent__cast_counts__of (fun uZ bZ => o1 uZ bZ)) ?_
      refine oc (g_bn (fun uZ => mul_i _ _ 2 c1 _ uZ rfl (by omega) (by omega))) ?_
      refine oc g_mv ?_
      refine oc g_nl ?_
      refine oc (g_fd (fun uZ => fk_cast_Node_0 _ _ uZ)) ?_
      refine oc (g_lc 0 0 lI) ?_
      refine oc g_mv ?_
      refine oc g_nl ?_
      refine oc (g_fd (fun uZ => fk_cast_Node_1 _ _ uZ)) ?_
      refine oc (g_lc 0 1 lI) ?_
      refine oc (g_bn (fun uZ => add_i _ _ x.n x.t _ uZ rfl (by omega) (by omega))) ?_
      refine oc (g_bn (fun uZ => gtr_i _ _ (2 * c1) (x.n + x.t) _ uZ h1)) ?_
      refine oc g_mv ?_
      refine oc g_sk ?_
      refine oc g_sk ?_
      refine oc g_sk ?_
      refine oc g_sk ?_
      refine oc g_sk ?_
      refine oc g_sk ?_
      refine oc g_sk ?_
      refine oc g_sk ?_
      refine oc g_sk ?_
      refine oc g_sk ?_
      refine oc g_sk ?_
      refine oc g_pk ?_
      exact oc g_as on
    intro u1 HB1 sz1 K1
    simp only [fX, nK, nP, Wr.f, aK, pM] at K1
    simp only [setG, setN, List.set_cons_zero, List.set_cons_succ]
    clear HB0
    go_wp2
    refine bodyPost_ret (v := .bool true) (by simp [results, Try.results34, go_sem, ]) rfl ⟨by simp, HB1⟩
theorem cCalls (s : Nat) (x : Nd) (v : ByteArray) (w : World) (hv : v.size ≤ maxLen) (hl : x.ec.length ≤ 100) (hn : 0 ≤ x.n ∧ x.n ≤ 100 ∧ 0 ≤ x.t ∧ x.t ≤ 100) (h : NM w s x) :
    Calls Try.prog 34 #[pN s, .string v] w fun e' w' => e' = .returned (.bool (rdy x v)) ∧ Below w.heap.size w w' := by
  have b1 := cnt_le x.ec v
  exact cCalls_core s x v _ _ w h.c hn ⟨b1.1, by omega⟩ (fun u hu => cOf _ _ _ v u hv (h.m1.same (hu.block _ h.m1.lt))) (fun u hu => cOf _ _ _ v u hv (h.m2.same (hu.block _ h.m2.lt)))
end Go.Proofs.Ythncmahhnbpbkaa
