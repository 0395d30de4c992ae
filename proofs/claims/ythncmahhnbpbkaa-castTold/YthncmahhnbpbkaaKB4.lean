/- Cast: what no call made. -/
import Derived.Test.YthncmahhnbpbkaaKB3
namespace Go.Proofs.Ythncmahhnbpbkaa
open Go.RowKit Go.ChangeMaps Go.Maps Go.WideMaps
set_option linter.unusedVariables false
set_option linter.unusedSimpArgs false
set_option maxHeartbeats 2000000 in
theorem cTake_nil (k f : Int) (v : ByteArray) (w : World) : Calls Try.prog 14 #[.pointer none, MX k f v] w fun e' w' => e' = .returned (.slice none 0 0) ∧ Below w.heap.size w w' := by
  go_enter Try.func14, Try.ntmps14
  go_wp2_with (first | (go_at_call 28; refine (cIsMade0 _).mono ?_; rintro e w1 ⟨rfl, hu⟩; rw [hu]; clear hu))
  refine bodyPost_ret (v := .slice none 0 0) (by simp [results, Try.results14, go_sem]) rfl ⟨rfl, balloc (bself w) _⟩
set_option maxHeartbeats 2000000 in
theorem cTake_zero (b : Nat) (k f : Int) (v : ByteArray) (w : World) (h0 : w.cell? ⟨b, 0, none⟩ = some (.int .i64 0)) : Calls Try.prog 14 #[.pointer (some ⟨b, 0, none⟩), MX k f v] w fun e' w' => e' = .returned (.slice none 0 0) ∧ Below w.heap.size w w' := by
  have hb := World.block_lt_of_cell? w _ h0
  have h1 : (w.alloc (.cells #[.int .i64 k, .int .i64 f, .string v] 32)).cell? ⟨b, 0, none⟩ = some (.int .i64 0) := by rw [(balloc (bself w) _).cell (by exact hb)]; exact h0
  have hc := cIsMade b 0 _ h1
  rw [decide_eq_false (by omega)] at hc
  go_enter Try.func14, Try.ntmps14
  go_wp2_with (first | (go_at_call 28; refine hc.mono ?_; rintro e w1 ⟨rfl, hu⟩; rw [hu]; clear hu))
  refine bodyPost_ret (v := .slice none 0 0) (by simp [results, Try.results14, go_sem]) rfl ⟨rfl, balloc (bself w) _⟩
theorem cEchoed_zero (b : Nat) (w : World) (h0 : w.cell? ⟨b, 0, none⟩ = some (.int .i64 0)) : Calls Try.prog 17 #[.pointer (some ⟨b, 0, none⟩)] w fun e' w' => e' = .returned (.tuple #[.string noS, .bool false]) ∧ Below w.heap.size w w' := by
  have hc := cIsMade b 0 _ h0
  rw [decide_eq_false (by omega)] at hc
  go_enter Try.func17, Try.ntmps17
  go_wp2_with (first | (go_at_call 28; refine hc.mono ?_; rintro e w1 ⟨rfl, hu⟩; rw [hu]; clear hu))
  refine bodyPost_ret (v := .tuple #[.string noS, .bool false]) (by simp [results, Try.results17, go_sem]) rfl ⟨rfl, bself w⟩
theorem eql_s (p q : Operand) (x y : ByteArray) (b : Bool) (w : World) (h : (x.toList == y.toList) = b) : (do eqGuard .eql 9 p q (.string x) (.string y); binOp .eql 9 (.string x) (.string y) : Sem Value).run Try.prog w = .ok (.bool b) w := by subst h; go_simp
set_option maxHeartbeats 4000000 in
set_option maxRecDepth 100000 in
theorem cVoid (k f : Int) (v : ByteArray) (w : World) : Calls Try.prog 8 #[MX k f v] w fun e' w' => e' = .returned (.bool true) ∧ Below w.heap.size w w' := by
  go_enter Try.func8, Try.ntmps8
  go_upto_region 1 with fail
  have hB0 : Below w.heap.size w (w.alloc (.cells #[.int .i64 k, .int .i64 f, .string v] 32)) := balloc (bself w) _
  have hm : CV (w.alloc (.cells #[.int .i64 k, .int .i64 f, .string v] 32)) w.heap.size [.int .i64 k, .int .i64 f, .string v] := CV.new w [.int .i64 k, .int .i64 f, .string v] _
  generalize (w.alloc (.cells #[.int .i64 k, .int .i64 f, .string v] 32)) = v0 at *
  have lm := hm.lt (by simp)
  have hwk := cWorks v0
  go_upto_region 4 with (first | (go_at_call 11; refine hwk.mono ?_; rintro e w1 ⟨rfl, hB1⟩))
  have hB1' : Below w.heap.size w w1 := bstep hB0 hB1
  have hm1 := hm.below hB1 lm
  obtain ⟨z, ez⟩ : ∃ z, Hid (w1.heap.size = z) := ⟨_, rfl⟩
  go_upto_region 5 with fail
  have hz : CV (w1.alloc (.cells #[.int .i64 0, .int .i64 0, .int .i64 0, .int .i64 0, .bool false, .map none, .map none, .map none, .map none, .string noS, .bool false, .string noS, .bool false, .string noS, .bool false] 68)) w1.heap.size [.int .i64 0, .int .i64 0, .int .i64 0, .int .i64 0, .bool false, .map none, .map none, .map none, .map none, .string noS, .bool false, .string noS, .bool false, .string noS, .bool false] := CV.new w1 [.int .i64 0, .int .i64 0, .int .i64 0, .int .i64 0, .bool false, .map none, .map none, .map none, .map none, .string noS, .bool false, .string noS, .bool false, .string noS, .bool false] _
  have hB2 : Below w1.heap.size w1 (w1.alloc (.cells #[.int .i64 0, .int .i64 0, .int .i64 0, .int .i64 0, .bool false, .map none, .map none, .map none, .map none, .string noS, .bool false, .string noS, .bool false, .string noS, .bool false] 68)) := balloc (bself w1) _
  generalize (w1.alloc (.cells #[.int .i64 0, .int .i64 0, .int .i64 0, .int .i64 0, .bool false, .map none, .map none, .map none, .map none, .string noS, .bool false, .string noS, .bool false, .string noS, .bool false] 68)) = v2 at *
  have lm1 := hm1.lt (by simp)
  rw [ez.out] at *
  have hB2' : Below w.heap.size w v2 := hB1'.trans (hB2.mono (by have := hB1'.size; have := ez.out; omega))
  have hm2 : CV v2 w.heap.size _ := hm1.below hB2 (by omega)
  have hz2 : CV v2 z [.int .i64 0] := fun j v hj => hz j v (by
    cases j with
    | zero => exact hj
    | succ j => simp at hj)
  have lz2 := hz2.lt (by simp)
  have lm2 := hm2.lt (by simp)
  clear hm hz hB1 hm1 hwk hB2
  have key : ∀ u, Below v2.heap.size v2 u → CV u w.heap.size [.int .i64 k, .int .i64 f, .string v] ∧ CV u z [.int .i64 0] ∧ Below w.heap.size w u ∧ w.heap.size < u.heap.size ∧ z < u.heap.size := fun u hu => ⟨hm2.below hu lm2, hz2.below hu lz2, bstep hB2' hu, (hm2.below hu lm2).lt (by simp), (hz2.below hu lz2).lt (by simp)⟩
  have hs0 := cStart_nil noS v2
  go_upto_region 6 with (first | (go_at_call 12; refine hs0.mono ?_; rintro e w3 ⟨rfl, hB3⟩))
  have hB4 : Below v2.heap.size v2 (w3.alloc (.cells #[.int .i64 0, .int .i64 0, .string noS] 32)) := balloc hB3 _
  generalize (w3.alloc (.cells #[.int .i64 0, .int .i64 0, .string noS] 32)) = v4 at *
  obtain ⟨_, z4, _⟩ := key v4 hB4
  have hs1 := cStart_zero z noS v4 (z4 0 _ rfl).1
  go_upto_region 7 with (first | (go_at_call 12; refine hs1.mono ?_; rintro e w5 ⟨rfl, hB5⟩))
  have hB6 : Below v2.heap.size v2 (w5.alloc (.cells #[.int .i64 0, .int .i64 0, .string noS] 32)) := balloc (bstep hB4 hB5) _
  generalize (w5.alloc (.cells #[.int .i64 0, .int .i64 0, .string noS] 32)) = v6 at *
  obtain ⟨_, z6, _⟩ := key v6 hB6
  have hv := cValue0 v6
  have he := cEchoed_zero z v6 (z6 0 _ rfl).1
  go_upto_region 9 with (first | (go_at_call 16; refine hv.mono ?_; rintro e w7 ⟨rfl, h7⟩; rw [h7]; clear h7) | (go_at_call 17; refine he.mono ?_; rintro e w8 ⟨rfl, hB8⟩))
  have hB8' := bstep hB6 hB8
  have hr := cReadied0 w8
  go_upto_region 10 with (first | (go_at_call 18; refine hr.mono ?_; rintro e w9 ⟨rfl, h9⟩; rw [h9]; clear h9))
  obtain ⟨hm9, hz9, HBu, lm9, lz9⟩ := key w8 hB8'
  have hT1 := cTake_nil k f v
  have hT2 := fun (u : World) (hz : CV u z [.int .i64 0]) => cTake_zero z k f v u (hz 0 _ rfl).1
  have K0_1 : Bk w.heap.size w8 [(false, w.heap.size, [.int .i64 k, .int .i64 f, .string v]), (false, z, [.int .i64 0])] := ⟨.c lm9 hm9 <| .c lz9 hz9 <| trivial, by simp <;> omega⟩
  refine rgD K0_1 HBu HBu.size [] [] [(0, 40, .int .i64 1), (1, 41, .bool true), (2, 42, .bool true), (3, 43, .int .i64 1), (4, 44, .int .i64 1), (5, 45, .bool true), (6, 46, .bool true), (7, 47, .bool true), (8, 48, .pointer none), (9, 49, .agg #[.int .i64 k, .int .i64 f, .string v]), (10, 50, .slice none 0 0), (11, 51, .int .i64 ((0 : Nat) : Int)), (12, 52, .agg #[.int .i64 k, .int .i64 f, .string v]), (13, 53, .slice none 0 0), (14, 54, .int .i64 ((0 : Nat) : Int)), (15, 55, .int .i64 0), (16, 56, .bool true), (17, 57, .bool true), (18, 58, .bool true), (19, 59, .string noS), (20, 60, .bool true), (21, 61, .bool true), (22, 62, .bool true), (23, 63, .bool false), (24, 64, .bool true), (25, 65, .bool true), (26, 66, .bool true), (27, 67, .string noS), (28, 68, .bool true), (29, 69, .bool true), (30, 70, .bool true), (31, 71, .bool false), (32, 72, .bool true), (33, 73, .bool true), (34, 74, .bool true), (35, 75, .string noS), (36, 76, .bool true), (37, 77, .bool true), (38, 78, .bool true), (39, 79, .bool false), (40, 80, .bool true), (41, 81, .bool true), (42, 2, .bool true)] [] [] [] ?_ ?_
  · refine oc g_mv ?_
    refine oc (g_bn (fun uZ => eql_i _ _ _ 1 1 _ uZ rfl)) ?_
    refine oc g_mv ?_
    refine oc g_mv ?_
    refine oc g_mv ?_
    refine oc (g_bn (fun uZ => eql_i _ _ _ 1 1 _ uZ rfl)) ?_
    refine oc g_pk ?_
    refine oc g_mv ?_
    refine oc g_mv ?_
    refine oc (g_lo 0 0 Try.underlying32 info_cast_Message) ?_
    refine oc (g_cl ent___cast_Node__Take (fun uZ => hT1 uZ)) ?_
    refine oc (g_ln Try.underlying22) ?_
    refine oc (g_lo 0 0 Try.underlying32 info_cast_Message) ?_
    refine oc (g_ck ent___cast_Node__Take (fun fZ uZ kZ sZ => hT2 uZ (kZ.cv 1))) ?_
    refine oc (g_ln Try.underlying22) ?_
    refine oc (g_bn (fun uZ => add_i _ _ 0 0 0 uZ rfl (by omega) (by omega))) ?_
    refine oc (g_bn (fun uZ => eql_i _ _ _ 0 0 _ uZ rfl)) ?_
    refine oc g_pk ?_
    refine oc g_mv ?_
    refine oc g_mv ?_
    refine oc (g_bn (fun uZ => eql_s _ _ noS noS true uZ (beq_self_eq_true _))) ?_
    refine oc g_pk ?_
    refine oc g_mv ?_
    refine oc g_mv ?_
    refine oc (g_un (fun uZ => not_f uZ)) ?_
    refine oc g_pk ?_
    refine oc g_mv ?_
    refine oc g_mv ?_
    refine oc (g_bn (fun uZ => eql_s _ _ noS noS true uZ (beq_self_eq_true _))) ?_
    refine oc g_pk ?_
    refine oc g_mv ?_
    refine oc g_mv ?_
    refine oc (g_un (fun uZ => not_f uZ)) ?_
    refine oc g_pk ?_
    refine oc g_mv ?_
    refine oc g_mv ?_
    refine oc (g_bn (fun uZ => eql_s _ _ noS noS true uZ (beq_self_eq_true _))) ?_
    refine oc g_pk ?_
    refine oc g_mv ?_
    refine oc g_mv ?_
    refine oc (g_un (fun uZ => not_f uZ)) ?_
    refine oc g_pk ?_
    exact oc g_as on
  intro u1 HB1 sz1 K1
  simp only [fX, nK, nP, Wr.f, aK, pM] at K1
  simp only [setG, setN, List.set_cons_zero, List.set_cons_succ]
  go_wp2
  refine bodyPost_ret (v := .bool true) (by simp [results, Try.results8, go_sem, ]) rfl ⟨rfl, HB1⟩
end Go.Proofs.Ythncmahhnbpbkaa
