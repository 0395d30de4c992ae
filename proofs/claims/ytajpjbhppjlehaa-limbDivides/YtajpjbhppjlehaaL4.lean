/- LimbDivides: the walk. -/
import Derived.Test.YtajpjbhppjlehaaL4a
import Derived.Test.YtajpjbhppjlehaaRM
namespace Go.Proofs.Ytajpjbhppjlehaa
open Go.RowKit
set_option linter.unusedSimpArgs false
set_option linter.unusedVariables false

structure G811 (f0 f1 f2 f3 f4 f5 f6 f7 f8 f9 f10 f11 f12 f13 f14 f15 f16 f17 f18 f19 f20 f21 f22 f23 f24 f25 f26 f27 f28 f29 f30 f31 f32 f33 f34 f35 f36 f37 f38 f39 f40 f41 f42 : Bool) (t6 t78 t79 t80 t81 t82 t83 t84 t85 t86 t87 t88 t89 t90 t91 t92 t93 t94 t95 t96 t97 t98 t99 t100 t101 t102 t103 t104 t105 t106 t107 t108 t109 t110 t111 t112 t113 t114 t115 t116 t117 t118 t119 e0 e1 e2 e3 e4 e5 e6 e7 e8 e9 e10 e11 e12 e13 e14 e15 e16 e17 e18 e19 e20 e21 e22 e23 e24 e25 e26 e27 e28 e29 e30 e31 e32 e33 e34 e35 e36 e37 e38 e39 e40 e41 e42 : Value) : Prop where
  c0 : f0 = true → t78 = e0
  c1 : f1 = true → t79 = e1
  c2 : f2 = true → t80 = e2
  c3 : f3 = true → t81 = e3
  c4 : f4 = true → t82 = e4
  c5 : f5 = true → t83 = e5
  c6 : f6 = true → t84 = e6
  c7 : f7 = true → t85 = e7
  c8 : f8 = true → t86 = e8
  c9 : f9 = true → t87 = e9
  c10 : f10 = true → t88 = e10
  c11 : f11 = true → t89 = e11
  c12 : f12 = true → t90 = e12
  c13 : f13 = true → t91 = e13
  c14 : f14 = true → t92 = e14
  c15 : f15 = true → t93 = e15
  c16 : f16 = true → t94 = e16
  c17 : f17 = true → t95 = e17
  c18 : f18 = true → t96 = e18
  c19 : f19 = true → t97 = e19
  c20 : f20 = true → t98 = e20
  c21 : f21 = true → t99 = e21
  c22 : f22 = true → t100 = e22
  c23 : f23 = true → t101 = e23
  c24 : f24 = true → t102 = e24
  c25 : f25 = true → t103 = e25
  c26 : f26 = true → t104 = e26
  c27 : f27 = true → t105 = e27
  c28 : f28 = true → t106 = e28
  c29 : f29 = true → t107 = e29
  c30 : f30 = true → t108 = e30
  c31 : f31 = true → t109 = e31
  c32 : f32 = true → t110 = e32
  c33 : f33 = true → t111 = e33
  c34 : f34 = true → t112 = e34
  c35 : f35 = true → t113 = e35
  c36 : f36 = true → t114 = e36
  c37 : f37 = true → t115 = e37
  c38 : f38 = true → t116 = e38
  c39 : f39 = true → t117 = e39
  c40 : f40 = true → t118 = e40
  c41 : f41 = true → t119 = e41
  c42 : f42 = true → t6 = e42
structure G810 (f0 f1 f2 f3 f4 f5 f6 f7 f8 f13 : Bool) (t17 t18 t19 t69 t70 t71 t72 t73 t74 t75 t76 t77 e0 e1 e2 e3 e4 e5 e6 e7 e8 e13 : Value) : Prop where
  c0 : f0 = true → t70 = e0
  c1 : f1 = true → t71 = e1
  c2 : f2 = true → t72 = e2
  c3 : f3 = true → t73 = e3
  c4 : f4 = true → t74 = e4
  c5 : f5 = true → t69 = e5
  c6 : f6 = true → t75 = e6
  c7 : f7 = true → t76 = e7
  c8 : f8 = true → t77 = e8
  c13 : f13 = true → t19 = e13
structure G84 (f0 f1 f2 f3 f4 f5 f6 f7 f12 : Bool) (t7 t8 t9 t25 t26 t27 t28 t29 t30 t31 t32 e0 e1 e2 e3 e4 e5 e6 e7 e12 : Value) : Prop where
  c0 : f0 = true → t26 = e0
  c1 : f1 = true → t27 = e1
  c2 : f2 = true → t28 = e2
  c3 : f3 = true → t29 = e3
  c4 : f4 = true → t25 = e4
  c5 : f5 = true → t30 = e5
  c6 : f6 = true → t31 = e6
  c7 : f7 = true → t32 = e7
  c12 : f12 = true → t9 = e12
structure G86 (f0 f1 f2 f3 f4 f5 f6 f7 f12 : Bool) (t10 t11 t12 t35 t36 t37 t38 t39 t40 t41 t42 e0 e1 e2 e3 e4 e5 e6 e7 e12 : Value) : Prop where
  c0 : f0 = true → t36 = e0
  c1 : f1 = true → t37 = e1
  c2 : f2 = true → t38 = e2
  c3 : f3 = true → t39 = e3
  c4 : f4 = true → t35 = e4
  c5 : f5 = true → t40 = e5
  c6 : f6 = true → t41 = e6
  c7 : f7 = true → t42 = e7
  c12 : f12 = true → t12 = e12
set_option maxRecDepth 100000 in
set_option maxHeartbeats 8000000 in
theorem limbDivides_any (a b c d x y z t m0 m1 m2 m3 : Int) (w : World) (ha : W64 a) (hb : W64 b) (hc : W64 c) (hd : W64 d) (hx : W64 x) (hy : W64 y) (hz : W64 z) (ht : W64 t) (hm0 : W64 m0) (hm1 : W64 m1) (hm2 : W64 m2) (hm3 : W64 m3) :
    Calls Try.prog 8 #[A4 a b c d, A4 x y z t, A4 m0 m1 m2 m3] w fun e w' => e = .returned (.bool true) ∧ Below w.heap.size w w' := by
  go_enter Try.func8, Try.ntmps8
  go_wp2_with fail
  refine (works_any _).mono ?_
  rintro en v1 ⟨rfl, hB1⟩
  have A : C4 v1 w.heap.size a b c d := C4.below (by unfold C4; simp [go_sem]) hB1 (by simp; omega)
  have X : C4 v1 (w.heap.size + 1) x y z t := C4.below (by unfold C4; simp [go_sem]) hB1 (by simp)
  have M : C4 v1 (w.heap.size + 1 + 1) m0 m1 m2 m3 := C4.below (by unfold C4; simp [go_sem]) hB1 (by simp)
  have q1 : Below w.heap.size w v1 := bstep (balloc (balloc (balloc (bself w) _) _) _) hB1
  have s1 := hB1.size
  simp only [World.size_alloc] at s1
  clear hB1
  have kA := CL4 A
  have kX := CL4 X
  have M' := M
  obtain ⟨⟨Mc0, Mc1, Mc2, Mc3⟩, Mf0, Mf1, Mf2, Mf3⟩ := M'
  have wid : ∀ u, _ := fun u => Widen_any a b c d u
  by_cases hM : V m0 m1 m2 m3 = 0
  · have he : eq4 m0 m1 m2 m3 0 0 0 0 = true := (eq4_V m0 m1 m2 m3 0 0 0 0 hm0 hm1 hm2 hm3 W_0 W_0 W_0 W_0).2 hM
    rw [eq4_iff] at he
    obtain ⟨rfl, rfl, rfl, rfl⟩ := he
    go_wp2_with fail
    have kM := CL4 M
    have div : ∀ u, _ := fun u => Divide_0 a b c d 0 0 0 0 u
    clear A X M Mc0 Mc1 Mc2 Mc3 Mf0 Mf1 Mf2 Mf3
    refine wp_region_inv (fun fd a' uq => ∃ t7 t8 t9 t25 t26 t27 t28 t29 t30 t31 t32, a' = ⟨((A4 a b c d) :: (A4 x y z t) :: (A4 0 0 0 0) :: (Value.pointer (some { block := w.heap.size, off := 0 })) :: (Value.pointer (some { block := w.heap.size + 1, off := 0 })) :: (Value.pointer (some { block := w.heap.size + 1 + 1, off := 0 })) :: (Value.bool false) :: t7 :: t8 :: t9 :: undef :: undef :: undef :: undef :: undef :: undef :: undef :: undef :: undef :: undef :: (Value.bool true) :: (Value.bool false) :: (Value.agg #[Value.int IntKind.u64 0, Value.int IntKind.u64 0, Value.int IntKind.u64 0, Value.int IntKind.u64 0]) :: (Value.agg #[Value.int IntKind.u64 0, Value.int IntKind.u64 0, Value.int IntKind.u64 0, Value.int IntKind.u64 0]) :: (Value.bool true) :: t25 :: t26 :: t27 :: t28 :: t29 :: t30 :: t31 :: t32 :: undef :: undef :: undef :: undef :: undef :: undef :: undef :: undef :: undef :: undef :: undef :: undef :: undef :: undef :: undef :: undef :: undef :: undef :: undef :: undef :: undef :: undef :: undef :: undef :: undef :: undef :: undef :: undef :: undef :: undef :: undef :: undef :: undef :: undef :: undef :: undef :: undef :: undef :: undef :: undef :: undef :: undef :: undef :: undef :: undef :: undef :: undef :: undef :: undef :: undef :: undef :: undef :: undef :: undef :: undef :: undef :: undef :: undef :: undef :: undef :: undef :: undef :: undef :: undef :: undef :: undef :: undef :: undef :: undef :: undef :: undef :: undef :: undef :: undef :: undef :: undef :: undef :: undef :: undef :: undef :: undef :: undef :: undef :: undef :: undef :: undef :: undef :: []).toArray, []⟩ ∧ M2 w (w.heap.size + 1 + 1) [(w.heap.size, [a, b, c, d]), (w.heap.size + 1, [x, y, z, t]), (w.heap.size + 1 + 1, [0, 0, 0, 0])] [0, 0, 0, 0, 0, 0, 0, 0] [0, 0, 0, 0] (fd 8) (fd 9) (fd 10) (fd 11) t7 t8 uq ∧ G84 (fd 0) (fd 1) (fd 2) (fd 3) (fd 4) (fd 5) (fd 6) (fd 7) (fd 12) t7 t8 t9 t25 t26 t27 t28 t29 t30 t31 t32 (A4 a b c d) (A8 a b c d 0 0 0 0) (A4 0 0 0 0) (.tuple #[A8 0 0 0 0 0 0 0 0, A4 0 0 0 0, .int .i64 10]) (.tuple #[A8 0 0 0 0 0 0 0 0, A4 0 0 0 0, .int .i64 10]) (A8 0 0 0 0 0 0 0 0) (A4 0 0 0 0) (.int .i64 10) (.int .i64 10)) (by kernel_rfl) (by kernel_rfl) ?_ ?_ ?_
    · refine ⟨undef, undef, undef, undef, undef, undef, undef, undef, undef, undef, undef, rfl, M2.start q1.drew (by omega) (by simp; omega) (by intro q hq; simp only [List.mem_cons, List.not_mem_nil, or_false] at hq; rcases hq with rfl | rfl | rfl; exact ⟨by omega, kA⟩; exact ⟨by omega, kX⟩; exact ⟨by omega, kM⟩), ?_⟩
      exact { c0 := fun e => (by cases e), c1 := fun e => (by cases e), c2 := fun e => (by cases e), c3 := fun e => (by cases e), c4 := fun e => (by cases e), c5 := fun e => (by cases e), c6 := fun e => (by cases e), c7 := fun e => (by cases e), c12 := fun e => (by cases e) }
    · rintro fd a' u i o ⟨t7, t8, t9, t25, t26, t27, t28, t29, t30, t31, t32, rfl, hM, hG⟩ ho hfi hdep
      have il : i < 13 := (Array.getElem?_eq_some_iff.1 ho).1
      have ix : i = 0 ∨ i = 1 ∨ i = 2 ∨ i = 3 ∨ i = 4 ∨ i = 5 ∨ i = 6 ∨ i = 7 ∨ i = 8 ∨ i = 9 ∨ i = 10 ∨ i = 11 ∨ i = 12 := by omega
      rcases ix with rfl | rfl | rfl | rfl | rfl | rfl | rfl | rfl | rfl | rfl | rfl | rfl | rfl
      · cases ho
        refine wpOp_step rfl (fun K hK => ?_)
        have kk := hM.kept _ _ (show (w.heap.size, [a, b, c, d]) ∈ _ by simp)
        have k0 := (kk 0 _ rfl).1
        have k1 := (kk 1 _ rfl).1
        have k2 := (kk 2 _ rfl).1
        have k3 := (kk 3 _ rfl).1
        clear kk
        go_simp
        exact hK _ _ ⟨_, _, _, _, _, _, _, _, _, _, _, rfl, hM, { hG with c0 := fun _ => rfl }⟩
      · cases ho
        refine wpOp_step rfl (fun K hK => ?_)
        have y0 : fd 0 = true := hdep ⟨0, .data⟩ (by simp) rfl
        obtain rfl := hG.c0 y0
        go_simp
        refine (wid u).mono ?_
        rintro en v ⟨rfl, hB⟩
        have hM' := hM.call hB
        clear hB
        try simp only [Act.put, List.setIfInBounds_toArray, List.set_cons_zero, List.set_cons_succ]
        exact hK _ _ ⟨_, _, _, _, _, _, _, _, _, _, _, rfl, hM', { hG with c1 := fun _ => rfl }⟩
      · cases ho
        refine wpOp_step rfl (fun K hK => ?_)
        have kk := hM.kept _ _ (show (w.heap.size + 1 + 1, [0, 0, 0, 0]) ∈ _ by simp)
        have k0 := (kk 0 _ rfl).1
        have k1 := (kk 1 _ rfl).1
        have k2 := (kk 2 _ rfl).1
        have k3 := (kk 3 _ rfl).1
        clear kk
        go_simp
        exact hK _ _ ⟨_, _, _, _, _, _, _, _, _, _, _, rfl, hM, { hG with c2 := fun _ => rfl }⟩
      · cases ho
        refine wpOp_step rfl (fun K hK => ?_)
        have y1 : fd 1 = true := hdep ⟨1, .data⟩ (by simp) rfl
        have y2 : fd 2 = true := hdep ⟨2, .data⟩ (by simp) rfl
        obtain rfl := hG.c1 y1
        obtain rfl := hG.c2 y2
        go_simp
        refine (div u).mono ?_
        rintro en v ⟨rfl, hB⟩
        have hM' := hM.call hB
        clear hB
        try simp only [Act.put, List.setIfInBounds_toArray, List.set_cons_zero, List.set_cons_succ]
        exact hK _ _ ⟨_, _, _, _, _, _, _, _, _, _, _, rfl, hM', { hG with c3 := fun _ => rfl }⟩
      · cases ho
        refine wpOp_step rfl (fun K hK => ?_)
        have y3 : fd 3 = true := hdep ⟨3, .data⟩ (by simp) rfl
        obtain rfl := hG.c3 y3
        go_simp
        exact hK _ _ ⟨_, _, _, _, _, _, _, _, _, _, _, rfl, hM, { hG with c4 := fun _ => rfl }⟩
      · cases ho
        refine wpOp_step rfl (fun K hK => ?_)
        have y4 : fd 4 = true := hdep ⟨4, .data⟩ (by simp) rfl
        obtain rfl := hG.c4 y4
        go_simp
        exact hK _ _ ⟨_, _, _, _, _, _, _, _, _, _, _, rfl, hM, { hG with c5 := fun _ => rfl }⟩
      · cases ho
        refine wpOp_step rfl (fun K hK => ?_)
        have y4 : fd 4 = true := hdep ⟨4, .data⟩ (by simp) rfl
        obtain rfl := hG.c4 y4
        go_simp
        exact hK _ _ ⟨_, _, _, _, _, _, _, _, _, _, _, rfl, hM, { hG with c6 := fun _ => rfl }⟩
      · cases ho
        refine wpOp_step rfl (fun K hK => ?_)
        have y4 : fd 4 = true := hdep ⟨4, .data⟩ (by simp) rfl
        obtain rfl := hG.c4 y4
        go_simp
        exact hK _ _ ⟨_, _, _, _, _, _, _, _, _, _, _, rfl, hM, { hG with c7 := fun _ => rfl }⟩
      · cases ho
        refine wpOp_step rfl (fun K hK => ?_)
        go_simp
        exact hK _ _ ⟨_, _, _, _, _, _, _, _, _, _, _, rfl, hM.new8 hfi _ rfl _, { hG with }⟩
      · cases ho
        refine wpOp_step rfl (fun K hK => ?_)
        go_simp
        exact hK _ _ ⟨_, _, _, _, _, _, _, _, _, _, _, rfl, hM.new9 hfi _ rfl _, { hG with }⟩
      · cases ho
        refine wpOp_step rfl (fun K hK => ?_)
        have y5 : fd 5 = true := hdep ⟨5, .data⟩ (by simp) rfl
        obtain rfl := hG.c5 y5
        have yy : fd 8 = true := hdep ⟨8, .data⟩ (by simp) rfl
        obtain ⟨bb, rfl, b1, b2, b3, b4⟩ := hM.a8 yy
        try rw [if_pos (by rfl)]
        refine wp_store_mid 29 _ _ rfl bb 0 (([0, 0, 0, 0, 0, 0, 0, 0] : List Int).map (Value.int .u64)).toArray rfl rfl b3 (by kernel_rfl) (all_oneCell_toArray (word_one _)) ?_
        simp only [Act.put, List.setIfInBounds_toArray, List.set_cons_zero, List.set_cons_succ]
        exact hK _ _ ⟨_, _, _, _, _, _, _, _, _, _, _, rfl, hM.put8 yy, { hG with }⟩
      · cases ho
        refine wpOp_step rfl (fun K hK => ?_)
        have y6 : fd 6 = true := hdep ⟨6, .data⟩ (by simp) rfl
        obtain rfl := hG.c6 y6
        have yy : fd 9 = true := hdep ⟨9, .data⟩ (by simp) rfl
        obtain ⟨bb, rfl, b1, b2, b3, b4⟩ := hM.a9 yy
        try rw [if_pos (by rfl)]
        refine wp_store_mid 24 _ _ rfl bb 0 (([0, 0, 0, 0] : List Int).map (Value.int .u64)).toArray rfl rfl b3 (by kernel_rfl) (all_oneCell_toArray (word_one _)) ?_
        simp only [Act.put, List.setIfInBounds_toArray, List.set_cons_zero, List.set_cons_succ]
        exact hK _ _ ⟨_, _, _, _, _, _, _, _, _, _, _, rfl, hM.put9 yy, { hG with }⟩
      · cases ho
        refine wpOp_step rfl (fun K hK => ?_)
        have y7 : fd 7 = true := hdep ⟨7, .data⟩ (by simp) rfl
        obtain rfl := hG.c7 y7
        go_simp
        exact hK _ _ ⟨_, _, _, _, _, _, _, _, _, _, _, rfl, hM, { hG with c12 := fun _ => rfl }⟩
    · rintro fd a' u ⟨t7, t8, t9, t25, t26, t27, t28, t29, t30, t31, t32, rfl, hM, hG⟩ hall
      obtain rfl := hG.c0 (hall 0 (by decide))
      obtain rfl := hG.c1 (hall 1 (by decide))
      obtain rfl := hG.c2 (hall 2 (by decide))
      obtain rfl := hG.c3 (hall 3 (by decide))
      obtain rfl := hG.c4 (hall 4 (by decide))
      obtain rfl := hG.c5 (hall 5 (by decide))
      obtain rfl := hG.c6 (hall 6 (by decide))
      obtain rfl := hG.c7 (hall 7 (by decide))
      obtain rfl := hG.c12 (hall 12 (by decide))
      obtain ⟨b8, rfl, p81, p82, p83, p84⟩ := hM.a8 (hall 8 (by decide))
      have m8 := p84 (hall 10 (by decide))
      obtain ⟨b9, rfl, p91, p92, p93, p94⟩ := hM.a9 (hall 9 (by decide))
      have m9 := p94 (hall 11 (by decide))
      have q5 := hM.bel
      clear hM hG hall kA kX kM wid div q1 p83 p84 p93 p94 m8 m9
      go_wp2
      go_ret
      exact ⟨rfl, q5⟩
  · have he : eq4 m0 m1 m2 m3 0 0 0 0 = false := by
      rw [Bool.eq_false_iff]; intro hq
      exact hM ((eq4_V m0 m1 m2 m3 0 0 0 0 hm0 hm1 hm2 hm3 W_0 W_0 W_0 W_0).1 hq)
    have bq1 := q1
    clear q1
    obtain ⟨q0, q1, q2, q3, r0, r1, r2, r3, p0, p1, p2, p3, divA, mulP, addB, cmp⟩ := divides_words a b c d m0 m1 m2 m3 ha hb hc hd hm0 hm1 hm2 hm3 hM
    have mulB : ∀ u, _ := fun u => Mul_any x y z t m0 m1 m2 m3 u hx hy hz ht hm0 hm1 hm2 hm3
    have divB : ∀ u, _ := fun u => DivBack_any x y z t m0 m1 m2 m3 u hx hy hz ht hm0 hm1 hm2 hm3 hM
    go_wp2_with fail
    have kM := CL4 M
    clear A X M Mc0 Mc1 Mc2 Mc3 Mf0 Mf1 Mf2 Mf3
    refine wp_region_inv (fun fd a' uq => ∃ t10 t11 t12 t35 t36 t37 t38 t39 t40 t41 t42, a' = ⟨((A4 a b c d) :: (A4 x y z t) :: (A4 m0 m1 m2 m3) :: (Value.pointer (some { block := w.heap.size, off := 0 })) :: (Value.pointer (some { block := w.heap.size + 1, off := 0 })) :: (Value.pointer (some { block := w.heap.size + 1 + 1, off := 0 })) :: (Value.bool false) :: undef :: undef :: undef :: t10 :: t11 :: t12 :: undef :: undef :: undef :: undef :: undef :: undef :: undef :: (Value.bool true) :: (Value.bool false) :: (Value.agg #[Value.int IntKind.u64 m0, Value.int IntKind.u64 m1, Value.int IntKind.u64 m2, Value.int IntKind.u64 m3]) :: (Value.agg #[Value.int IntKind.u64 0, Value.int IntKind.u64 0, Value.int IntKind.u64 0, Value.int IntKind.u64 0]) :: (Value.bool false) :: undef :: undef :: undef :: undef :: undef :: undef :: undef :: undef :: undef :: undef :: t35 :: t36 :: t37 :: t38 :: t39 :: t40 :: t41 :: t42 :: undef :: undef :: undef :: undef :: undef :: undef :: undef :: undef :: undef :: undef :: undef :: undef :: undef :: undef :: undef :: undef :: undef :: undef :: undef :: undef :: undef :: undef :: undef :: undef :: undef :: undef :: undef :: undef :: undef :: undef :: undef :: undef :: undef :: undef :: undef :: undef :: undef :: undef :: undef :: undef :: undef :: undef :: undef :: undef :: undef :: undef :: undef :: undef :: undef :: undef :: undef :: undef :: undef :: undef :: undef :: undef :: undef :: undef :: undef :: undef :: undef :: undef :: undef :: undef :: undef :: undef :: undef :: undef :: undef :: undef :: undef :: undef :: undef :: undef :: undef :: undef :: undef :: []).toArray, []⟩ ∧ M2 w (w.heap.size + 1 + 1) [(w.heap.size, [a, b, c, d]), (w.heap.size + 1, [x, y, z, t]), (w.heap.size + 1 + 1, [m0, m1, m2, m3])] [q0, q1, q2, q3, 0, 0, 0, 0] [r0, r1, r2, r3] (fd 8) (fd 9) (fd 10) (fd 11) t10 t11 uq ∧ G86 (fd 0) (fd 1) (fd 2) (fd 3) (fd 4) (fd 5) (fd 6) (fd 7) (fd 12) t10 t11 t12 t35 t36 t37 t38 t39 t40 t41 t42 (A4 a b c d) (A8 a b c d 0 0 0 0) (A4 m0 m1 m2 m3) (.tuple #[A8 q0 q1 q2 q3 0 0 0 0, A4 r0 r1 r2 r3, .int .i64 0]) (.tuple #[A8 q0 q1 q2 q3 0 0 0 0, A4 r0 r1 r2 r3, .int .i64 0]) (A8 q0 q1 q2 q3 0 0 0 0) (A4 r0 r1 r2 r3) (.int .i64 0) (.int .i64 0)) (by kernel_rfl) (by kernel_rfl) ?_ ?_ ?_
    · refine ⟨undef, undef, undef, undef, undef, undef, undef, undef, undef, undef, undef, rfl, M2.start bq1.drew (by omega) (by simp; omega) (by intro q hq; simp only [List.mem_cons, List.not_mem_nil, or_false] at hq; rcases hq with rfl | rfl | rfl; exact ⟨by omega, kA⟩; exact ⟨by omega, kX⟩; exact ⟨by omega, kM⟩), ?_⟩
      exact { c0 := fun e => (by cases e), c1 := fun e => (by cases e), c2 := fun e => (by cases e), c3 := fun e => (by cases e), c4 := fun e => (by cases e), c5 := fun e => (by cases e), c6 := fun e => (by cases e), c7 := fun e => (by cases e), c12 := fun e => (by cases e) }
    · rintro fd a' u i o ⟨t10, t11, t12, t35, t36, t37, t38, t39, t40, t41, t42, rfl, hM, hG⟩ ho hfi hdep
      have il : i < 13 := (Array.getElem?_eq_some_iff.1 ho).1
      have ix : i = 0 ∨ i = 1 ∨ i = 2 ∨ i = 3 ∨ i = 4 ∨ i = 5 ∨ i = 6 ∨ i = 7 ∨ i = 8 ∨ i = 9 ∨ i = 10 ∨ i = 11 ∨ i = 12 := by omega
      rcases ix with rfl | rfl | rfl | rfl | rfl | rfl | rfl | rfl | rfl | rfl | rfl | rfl | rfl
      · cases ho
        refine wpOp_step rfl (fun K hK => ?_)
        have kk := hM.kept _ _ (show (w.heap.size, [a, b, c, d]) ∈ _ by simp)
        have k0 := (kk 0 _ rfl).1
        have k1 := (kk 1 _ rfl).1
        have k2 := (kk 2 _ rfl).1
        have k3 := (kk 3 _ rfl).1
        clear kk
        go_simp
        exact hK _ _ ⟨_, _, _, _, _, _, _, _, _, _, _, rfl, hM, { hG with c0 := fun _ => rfl }⟩
      · cases ho
        refine wpOp_step rfl (fun K hK => ?_)
        have y0 : fd 0 = true := hdep ⟨0, .data⟩ (by simp) rfl
        obtain rfl := hG.c0 y0
        go_simp
        refine (wid u).mono ?_
        rintro en v ⟨rfl, hB⟩
        have hM := hM.call hB
        clear hB
        try simp only [Act.put, List.setIfInBounds_toArray, List.set_cons_zero, List.set_cons_succ]
        exact hK _ _ ⟨_, _, _, _, _, _, _, _, _, _, _, rfl, hM, { hG with c1 := fun _ => rfl }⟩
      · cases ho
        refine wpOp_step rfl (fun K hK => ?_)
        have kk := hM.kept _ _ (show (w.heap.size + 1 + 1, [m0, m1, m2, m3]) ∈ _ by simp)
        have k0 := (kk 0 _ rfl).1
        have k1 := (kk 1 _ rfl).1
        have k2 := (kk 2 _ rfl).1
        have k3 := (kk 3 _ rfl).1
        clear kk
        go_simp
        exact hK _ _ ⟨_, _, _, _, _, _, _, _, _, _, _, rfl, hM, { hG with c2 := fun _ => rfl }⟩
      · cases ho
        refine wpOp_step rfl (fun K hK => ?_)
        have y1 : fd 1 = true := hdep ⟨1, .data⟩ (by simp) rfl
        have y2 : fd 2 = true := hdep ⟨2, .data⟩ (by simp) rfl
        obtain rfl := hG.c1 y1
        obtain rfl := hG.c2 y2
        go_simp
        refine (divA u).mono ?_
        rintro en v ⟨rfl, hB⟩
        have hM := hM.call hB
        clear hB
        try simp only [Act.put, List.setIfInBounds_toArray, List.set_cons_zero, List.set_cons_succ]
        exact hK _ _ ⟨_, _, _, _, _, _, _, _, _, _, _, rfl, hM, { hG with c3 := fun _ => rfl }⟩
      · cases ho
        refine wpOp_step rfl (fun K hK => ?_)
        have y3 : fd 3 = true := hdep ⟨3, .data⟩ (by simp) rfl
        obtain rfl := hG.c3 y3
        go_simp
        exact hK _ _ ⟨_, _, _, _, _, _, _, _, _, _, _, rfl, hM, { hG with c4 := fun _ => rfl }⟩
      · cases ho
        refine wpOp_step rfl (fun K hK => ?_)
        have y4 : fd 4 = true := hdep ⟨4, .data⟩ (by simp) rfl
        obtain rfl := hG.c4 y4
        go_simp
        exact hK _ _ ⟨_, _, _, _, _, _, _, _, _, _, _, rfl, hM, { hG with c5 := fun _ => rfl }⟩
      · cases ho
        refine wpOp_step rfl (fun K hK => ?_)
        have y4 : fd 4 = true := hdep ⟨4, .data⟩ (by simp) rfl
        obtain rfl := hG.c4 y4
        go_simp
        exact hK _ _ ⟨_, _, _, _, _, _, _, _, _, _, _, rfl, hM, { hG with c6 := fun _ => rfl }⟩
      · cases ho
        refine wpOp_step rfl (fun K hK => ?_)
        have y4 : fd 4 = true := hdep ⟨4, .data⟩ (by simp) rfl
        obtain rfl := hG.c4 y4
        go_simp
        exact hK _ _ ⟨_, _, _, _, _, _, _, _, _, _, _, rfl, hM, { hG with c7 := fun _ => rfl }⟩
      · cases ho
        refine wpOp_step rfl (fun K hK => ?_)
        go_simp
        exact hK _ _ ⟨_, _, _, _, _, _, _, _, _, _, _, rfl, hM.new8 hfi _ rfl _, { hG with }⟩
      · cases ho
        refine wpOp_step rfl (fun K hK => ?_)
        go_simp
        exact hK _ _ ⟨_, _, _, _, _, _, _, _, _, _, _, rfl, hM.new9 hfi _ rfl _, { hG with }⟩
      · cases ho
        refine wpOp_step rfl (fun K hK => ?_)
        have y5 : fd 5 = true := hdep ⟨5, .data⟩ (by simp) rfl
        obtain rfl := hG.c5 y5
        have yy : fd 8 = true := hdep ⟨8, .data⟩ (by simp) rfl
        obtain ⟨bb, rfl, b1, b2, b3, b4⟩ := hM.a8 yy
        try rw [if_pos (by rfl)]
        refine wp_store_mid 29 _ _ rfl bb 0 (([q0, q1, q2, q3, 0, 0, 0, 0] : List Int).map (Value.int .u64)).toArray rfl rfl b3 (by kernel_rfl) (all_oneCell_toArray (word_one _)) ?_
        simp only [Act.put, List.setIfInBounds_toArray, List.set_cons_zero, List.set_cons_succ]
        exact hK _ _ ⟨_, _, _, _, _, _, _, _, _, _, _, rfl, hM.put8 yy, { hG with }⟩
      · cases ho
        refine wpOp_step rfl (fun K hK => ?_)
        have y6 : fd 6 = true := hdep ⟨6, .data⟩ (by simp) rfl
        obtain rfl := hG.c6 y6
        have yy : fd 9 = true := hdep ⟨9, .data⟩ (by simp) rfl
        obtain ⟨bb, rfl, b1, b2, b3, b4⟩ := hM.a9 yy
        try rw [if_pos (by rfl)]
        refine wp_store_mid 24 _ _ rfl bb 0 (([r0, r1, r2, r3] : List Int).map (Value.int .u64)).toArray rfl rfl b3 (by kernel_rfl) (all_oneCell_toArray (word_one _)) ?_
        simp only [Act.put, List.setIfInBounds_toArray, List.set_cons_zero, List.set_cons_succ]
        exact hK _ _ ⟨_, _, _, _, _, _, _, _, _, _, _, rfl, hM.put9 yy, { hG with }⟩
      · cases ho
        refine wpOp_step rfl (fun K hK => ?_)
        have y7 : fd 7 = true := hdep ⟨7, .data⟩ (by simp) rfl
        obtain rfl := hG.c7 y7
        go_simp
        exact hK _ _ ⟨_, _, _, _, _, _, _, _, _, _, _, rfl, hM, { hG with c12 := fun _ => rfl }⟩
    · rintro fd a' u ⟨t10, t11, t12, t35, t36, t37, t38, t39, t40, t41, t42, rfl, hM, hG⟩ hall
      obtain rfl := hG.c0 (hall 0 (by decide))
      obtain rfl := hG.c1 (hall 1 (by decide))
      obtain rfl := hG.c2 (hall 2 (by decide))
      obtain rfl := hG.c3 (hall 3 (by decide))
      obtain rfl := hG.c4 (hall 4 (by decide))
      obtain rfl := hG.c5 (hall 5 (by decide))
      obtain rfl := hG.c6 (hall 6 (by decide))
      obtain rfl := hG.c7 (hall 7 (by decide))
      obtain rfl := hG.c12 (hall 12 (by decide))
      obtain ⟨b8, rfl, p81, p82, p83, p84⟩ := hM.a8 (hall 8 (by decide))
      have m8 := p84 (hall 10 (by decide))
      obtain ⟨b9, rfl, p91, p92, p93, p94⟩ := hM.a9 (hall 9 (by decide))
      have m9 := p94 (hall 11 (by decide))
      have nA := hM.kept _ _ (show (w.heap.size, [a, b, c, d]) ∈ _ by simp)
      have nX := hM.kept _ _ (show (w.heap.size + 1, [x, y, z, t]) ∈ _ by simp)
      have nM := hM.kept _ _ (show (w.heap.size + 1 + 1, [m0, m1, m2, m3]) ∈ _ by simp)
      have q5 := hM.bel
      have z5 := hM.sz
      have ne : b8 ≠ b9 := fun e' => hM.ne (hall 8 (by decide)) (hall 9 (by decide)) (by rw [e'])
      clear hM hG hall kA kX kM wid divA bq1 p83 p84 p93 p94 he
      have i0 := (m8 0 _ rfl).1
      have i1 := (m8 1 _ rfl).1
      have i2 := (m8 2 _ rfl).1
      have i3 := (m8 3 _ rfl).1
      have i4 := (m8 4 _ rfl).1
      have j0 := (nM 0 _ rfl).1
      have j1 := (nM 1 _ rfl).1
      have j2 := (nM 2 _ rfl).1
      have j3 := (nM 3 _ rfl).1
      go_wp2_with fail
      refine (mulP _).mono ?_
      rintro en v2 ⟨rfl, hB2⟩
      have s2 := hB2.size
      simp only [World.size_alloc] at s2
      have k2 : Below u.heap.size u v2 := bstep (balloc (bself u) _) hB2
      have q6 : Below w.heap.size w v2 := bstep q5 k2
      have m8' := m8.below k2 p82
      have m9' := m9.below k2 p92
      have nA' := nA.below k2 (by omega)
      have nX' := nX.below k2 (by omega)
      have nM' := nM.below k2 (by omega)
      clear hB2 k2 q5 m8 m9 nA nX nM i0 i1 i2 i3 i4 j0 j1 j2 j3 mulP
      have l9 : b9 < v2.heap.size := by omega
      have i0 := (m9' 0 _ rfl).1
      have i1 := (m9' 1 _ rfl).1
      have i2 := (m9' 2 _ rfl).1
      have i3 := (m9' 3 _ rfl).1
      go_wp2_with fail
      refine (addB _).mono ?_
      rintro en v3 ⟨rfl, hB3⟩
      have s3 := hB3.size
      simp only [World.size_alloc] at s3
      have kP : CL v3 v2.heap.size [p0, p1, p2, p3, 0, 0, 0, 0] := (CL.new v2 [p0, p1, p2, p3, 0, 0, 0, 0] 29).below hB3 (by simp)
      have k3 : Below v2.heap.size v2 v3 := bstep (balloc (bself v2) _) hB3
      have q7 : Below w.heap.size w v3 := bstep q6 k3
      have m8 := m8'.below k3 (by omega)
      have m9 := m9'.below k3 (by omega)
      have nA := nA'.below k3 (by omega)
      have nX := nX'.below k3 (by omega)
      have nM := nM'.below k3 (by omega)
      clear hB3 k3 q6 m8' m9' nA' nX' nM' i0 i1 i2 i3 addB
      generalize u.heap.size = nl at *
      go_wp2_with fail
      have kB : CL (v3.alloc (.cells #[.int .u64 a, .int .u64 b, .int .u64 c, .int .u64 d] 24)) v3.heap.size [a, b, c, d] := CL.new v3 [a, b, c, d] 24
      have gA := nA.alloc (by omega) (.cells #[.int .u64 a, .int .u64 b, .int .u64 c, .int .u64 d] 24)
      have gX := nX.alloc (by omega) (.cells #[.int .u64 a, .int .u64 b, .int .u64 c, .int .u64 d] 24)
      have gM := nM.alloc (by omega) (.cells #[.int .u64 a, .int .u64 b, .int .u64 c, .int .u64 d] 24)
      have g8 := m8.alloc (by omega) (.cells #[.int .u64 a, .int .u64 b, .int .u64 c, .int .u64 d] 24)
      have g9 := m9.alloc (by omega) (.cells #[.int .u64 a, .int .u64 b, .int .u64 c, .int .u64 d] 24)
      have gP := kP.alloc (by omega) (.cells #[.int .u64 a, .int .u64 b, .int .u64 c, .int .u64 d] 24)
      clear nA nX nM m8 m9 kP
      refine wp_region_inv (fun fd a' uq => ∃ t17 t18 t19 t69 t70 t71 t72 t73 t74 t75 t76 t77, a' = ⟨((A4 a b c d) :: (A4 x y z t) :: (A4 m0 m1 m2 m3) :: (Value.pointer (some { block := w.heap.size, off := 0 })) :: (Value.pointer (some { block := w.heap.size + 1, off := 0 })) :: (Value.pointer (some { block := w.heap.size + 1 + 1, off := 0 })) :: (Value.bool false) :: undef :: undef :: undef :: (Value.pointer (some { block := b8, off := 0 })) :: (Value.pointer (some { block := b9, off := 0 })) :: (Value.int IntKind.i64 0) :: (Value.pointer (some { block := nl, off := 0 })) :: (Value.pointer (some { block := v2.heap.size, off := 0 })) :: (Value.pointer (some { block := v3.heap.size, off := 0 })) :: (Value.bool false) :: t17 :: t18 :: t19 :: (Value.bool true) :: (Value.bool false) :: (Value.agg #[Value.int IntKind.u64 m0, Value.int IntKind.u64 m1, Value.int IntKind.u64 m2, Value.int IntKind.u64 m3]) :: (Value.agg #[Value.int IntKind.u64 0, Value.int IntKind.u64 0, Value.int IntKind.u64 0, Value.int IntKind.u64 0]) :: (Value.bool false) :: undef :: undef :: undef :: undef :: undef :: undef :: undef :: undef :: undef :: undef :: (Value.tuple #[A8 q0 q1 q2 q3 0 0 0 0, A4 r0 r1 r2 r3, Value.int IntKind.i64 0]) :: (A4 a b c d) :: (A8 a b c d 0 0 0 0) :: (A4 m0 m1 m2 m3) :: (Value.tuple #[A8 q0 q1 q2 q3 0 0 0 0, A4 r0 r1 r2 r3, Value.int IntKind.i64 0]) :: (A8 q0 q1 q2 q3 0 0 0 0) :: (A4 r0 r1 r2 r3) :: (Value.int IntKind.i64 0) :: (Value.pointer (some { block := b8, off := 0 })) :: (Value.int IntKind.u64 q0) :: (Value.pointer (some { block := b8, off := 1 })) :: (Value.int IntKind.u64 q1) :: (Value.pointer (some { block := b8, off := 2 })) :: (Value.int IntKind.u64 q2) :: (Value.pointer (some { block := b8, off := 3 })) :: (Value.int IntKind.u64 q3) :: (Value.agg #[Value.int IntKind.u64 q0, Value.int IntKind.u64 q1, Value.int IntKind.u64 q2, Value.int IntKind.u64 q3]) :: (Value.agg #[Value.int IntKind.u64 q0, Value.int IntKind.u64 q1, Value.int IntKind.u64 q2, Value.int IntKind.u64 q3]) :: (Value.agg #[Value.int IntKind.u64 m0, Value.int IntKind.u64 m1, Value.int IntKind.u64 m2, Value.int IntKind.u64 m3]) :: (A8 p0 p1 p2 p3 0 0 0 0) :: (Value.tuple #[A4 a b c d, Value.bool false]) :: (Value.pointer (some { block := v2.heap.size, off := 0 })) :: (Value.int IntKind.u64 p0) :: (Value.pointer (some { block := v2.heap.size, off := 1 })) :: (Value.int IntKind.u64 p1) :: (Value.pointer (some { block := v2.heap.size, off := 2 })) :: (Value.int IntKind.u64 p2) :: (Value.pointer (some { block := v2.heap.size, off := 3 })) :: (Value.int IntKind.u64 p3) :: (Value.agg #[Value.int IntKind.u64 p0, Value.int IntKind.u64 p1, Value.int IntKind.u64 p2, Value.int IntKind.u64 p3]) :: (Value.agg #[Value.int IntKind.u64 r0, Value.int IntKind.u64 r1, Value.int IntKind.u64 r2, Value.int IntKind.u64 r3]) :: (Value.tuple #[A4 a b c d, Value.bool false]) :: (A4 a b c d) :: (Value.bool false) :: t69 :: t70 :: t71 :: t72 :: t73 :: t74 :: t75 :: t76 :: t77 :: undef :: undef :: undef :: undef :: undef :: undef :: undef :: undef :: undef :: undef :: undef :: undef :: undef :: undef :: undef :: undef :: undef :: undef :: undef :: undef :: undef :: undef :: undef :: undef :: undef :: undef :: undef :: undef :: undef :: undef :: undef :: undef :: undef :: undef :: undef :: undef :: undef :: undef :: undef :: undef :: undef :: undef :: []).toArray, []⟩ ∧ M2 w (v3.heap.size) [(w.heap.size, [a, b, c, d]), (w.heap.size + 1, [x, y, z, t]), (w.heap.size + 1 + 1, [m0, m1, m2, m3]), (b8, [q0, q1, q2, q3, 0, 0, 0, 0]), (b9, [r0, r1, r2, r3]), (v2.heap.size, [p0, p1, p2, p3, 0, 0, 0, 0]), (v3.heap.size, [a, b, c, d])] [x, y, z, t, 0, 0, 0, 0] [0, 0, 0, 0] (fd 9) (fd 10) (fd 11) (fd 12) t17 t18 uq ∧ G810 (fd 0) (fd 1) (fd 2) (fd 3) (fd 4) (fd 5) (fd 6) (fd 7) (fd 8) (fd 13) t17 t18 t19 t69 t70 t71 t72 t73 t74 t75 t76 t77 (A4 x y z t) (A4 m0 m1 m2 m3) (WV (V x y z t * V m0 m1 m2 m3)) (A4 m0 m1 m2 m3) (.tuple #[A8 x y z t 0 0 0 0, A4 0 0 0 0, .int .i64 0]) (.tuple #[A8 x y z t 0 0 0 0, A4 0 0 0 0, .int .i64 0]) (A8 x y z t 0 0 0 0) (A4 0 0 0 0) (.int .i64 0) (.int .i64 0)) (by kernel_rfl) (by kernel_rfl) ?_ ?_ ?_
      · refine ⟨undef, undef, undef, undef, undef, undef, undef, undef, undef, undef, undef, undef, rfl, M2.start (balloc q7 _).drew (by omega) (by simp) (by intro q hq; simp only [List.mem_cons, List.not_mem_nil, or_false] at hq; rcases hq with rfl | rfl | rfl | rfl | rfl | rfl | rfl; exact ⟨by omega, gA⟩; exact ⟨by omega, gX⟩; exact ⟨by omega, gM⟩; exact ⟨by omega, g8⟩; exact ⟨by omega, g9⟩; exact ⟨by omega, gP⟩; exact ⟨by omega, kB⟩), ?_⟩
        exact { c0 := fun e => (by cases e), c1 := fun e => (by cases e), c2 := fun e => (by cases e), c3 := fun e => (by cases e), c4 := fun e => (by cases e), c5 := fun e => (by cases e), c6 := fun e => (by cases e), c7 := fun e => (by cases e), c8 := fun e => (by cases e), c13 := fun e => (by cases e) }
      · rintro fd a' u i o ⟨t17, t18, t19, t69, t70, t71, t72, t73, t74, t75, t76, t77, rfl, hM, hG⟩ ho hfi hdep
        have il : i < 14 := (Array.getElem?_eq_some_iff.1 ho).1
        have ix : i = 0 ∨ i = 1 ∨ i = 2 ∨ i = 3 ∨ i = 4 ∨ i = 5 ∨ i = 6 ∨ i = 7 ∨ i = 8 ∨ i = 9 ∨ i = 10 ∨ i = 11 ∨ i = 12 ∨ i = 13 := by omega
        rcases ix with rfl | rfl | rfl | rfl | rfl | rfl | rfl | rfl | rfl | rfl | rfl | rfl | rfl | rfl
        · cases ho
          refine wpOp_step rfl (fun K hK => ?_)
          have kk := hM.kept _ _ (show (w.heap.size + 1, [x, y, z, t]) ∈ _ by simp)
          have k0 := (kk 0 _ rfl).1
          have k1 := (kk 1 _ rfl).1
          have k2 := (kk 2 _ rfl).1
          have k3 := (kk 3 _ rfl).1
          clear kk
          go_simp
          exact hK _ _ ⟨_, _, _, _, _, _, _, _, _, _, _, _, rfl, hM, { hG with c0 := fun _ => rfl }⟩
        · cases ho
          refine wpOp_step rfl (fun K hK => ?_)
          have kk := hM.kept _ _ (show (w.heap.size + 1 + 1, [m0, m1, m2, m3]) ∈ _ by simp)
          have k0 := (kk 0 _ rfl).1
          have k1 := (kk 1 _ rfl).1
          have k2 := (kk 2 _ rfl).1
          have k3 := (kk 3 _ rfl).1
          clear kk
          go_simp
          exact hK _ _ ⟨_, _, _, _, _, _, _, _, _, _, _, _, rfl, hM, { hG with c1 := fun _ => rfl }⟩
        · cases ho
          refine wpOp_step rfl (fun K hK => ?_)
          have y0 : fd 0 = true := hdep ⟨0, .data⟩ (by simp) rfl
          have y1 : fd 1 = true := hdep ⟨1, .data⟩ (by simp) rfl
          obtain rfl := hG.c0 y0
          obtain rfl := hG.c1 y1
          go_simp
          refine (mulB u).mono ?_
          rintro en v ⟨rfl, hB⟩
          have hM := hM.call hB
          clear hB
          try simp only [Act.put, List.setIfInBounds_toArray, List.set_cons_zero, List.set_cons_succ]
          exact hK _ _ ⟨_, _, _, _, _, _, _, _, _, _, _, _, rfl, hM, { hG with c2 := fun _ => rfl }⟩
        · cases ho
          refine wpOp_step rfl (fun K hK => ?_)
          have kk := hM.kept _ _ (show (w.heap.size + 1 + 1, [m0, m1, m2, m3]) ∈ _ by simp)
          have k0 := (kk 0 _ rfl).1
          have k1 := (kk 1 _ rfl).1
          have k2 := (kk 2 _ rfl).1
          have k3 := (kk 3 _ rfl).1
          clear kk
          go_simp
          exact hK _ _ ⟨_, _, _, _, _, _, _, _, _, _, _, _, rfl, hM, { hG with c3 := fun _ => rfl }⟩
        · cases ho
          refine wpOp_step rfl (fun K hK => ?_)
          have y2 : fd 2 = true := hdep ⟨2, .data⟩ (by simp) rfl
          have y3 : fd 3 = true := hdep ⟨3, .data⟩ (by simp) rfl
          obtain rfl := hG.c2 y2
          obtain rfl := hG.c3 y3
          go_simp
          refine (divB u).mono ?_
          rintro en v ⟨rfl, hB⟩
          have hM := hM.call hB
          clear hB
          try simp only [Act.put, List.setIfInBounds_toArray, List.set_cons_zero, List.set_cons_succ]
          exact hK _ _ ⟨_, _, _, _, _, _, _, _, _, _, _, _, rfl, hM, { hG with c4 := fun _ => rfl }⟩
        · cases ho
          refine wpOp_step rfl (fun K hK => ?_)
          have y4 : fd 4 = true := hdep ⟨4, .data⟩ (by simp) rfl
          obtain rfl := hG.c4 y4
          go_simp
          exact hK _ _ ⟨_, _, _, _, _, _, _, _, _, _, _, _, rfl, hM, { hG with c5 := fun _ => rfl }⟩
        · cases ho
          refine wpOp_step rfl (fun K hK => ?_)
          have y5 : fd 5 = true := hdep ⟨5, .data⟩ (by simp) rfl
          obtain rfl := hG.c5 y5
          go_simp
          exact hK _ _ ⟨_, _, _, _, _, _, _, _, _, _, _, _, rfl, hM, { hG with c6 := fun _ => rfl }⟩
        · cases ho
          refine wpOp_step rfl (fun K hK => ?_)
          have y5 : fd 5 = true := hdep ⟨5, .data⟩ (by simp) rfl
          obtain rfl := hG.c5 y5
          go_simp
          exact hK _ _ ⟨_, _, _, _, _, _, _, _, _, _, _, _, rfl, hM, { hG with c7 := fun _ => rfl }⟩
        · cases ho
          refine wpOp_step rfl (fun K hK => ?_)
          have y5 : fd 5 = true := hdep ⟨5, .data⟩ (by simp) rfl
          obtain rfl := hG.c5 y5
          go_simp
          exact hK _ _ ⟨_, _, _, _, _, _, _, _, _, _, _, _, rfl, hM, { hG with c8 := fun _ => rfl }⟩
        · cases ho
          refine wpOp_step rfl (fun K hK => ?_)
          go_simp
          exact hK _ _ ⟨_, _, _, _, _, _, _, _, _, _, _, _, rfl, hM.new8 hfi _ rfl _, { hG with }⟩
        · cases ho
          refine wpOp_step rfl (fun K hK => ?_)
          go_simp
          exact hK _ _ ⟨_, _, _, _, _, _, _, _, _, _, _, _, rfl, hM.new9 hfi _ rfl _, { hG with }⟩
        · cases ho
          refine wpOp_step rfl (fun K hK => ?_)
          have y6 : fd 6 = true := hdep ⟨6, .data⟩ (by simp) rfl
          obtain rfl := hG.c6 y6
          have yy : fd 9 = true := hdep ⟨9, .data⟩ (by simp) rfl
          obtain ⟨bb, rfl, b1, b2, b3, b4⟩ := hM.a8 yy
          try rw [if_pos (by rfl)]
          refine wp_store_mid 29 _ _ rfl bb 0 (([x, y, z, t, 0, 0, 0, 0] : List Int).map (Value.int .u64)).toArray rfl rfl b3 (by kernel_rfl) (all_oneCell_toArray (word_one _)) ?_
          simp only [Act.put, List.setIfInBounds_toArray, List.set_cons_zero, List.set_cons_succ]
          exact hK _ _ ⟨_, _, _, _, _, _, _, _, _, _, _, _, rfl, hM.put8 yy, { hG with }⟩
        · cases ho
          refine wpOp_step rfl (fun K hK => ?_)
          have y7 : fd 7 = true := hdep ⟨7, .data⟩ (by simp) rfl
          obtain rfl := hG.c7 y7
          have yy : fd 10 = true := hdep ⟨10, .data⟩ (by simp) rfl
          obtain ⟨bb, rfl, b1, b2, b3, b4⟩ := hM.a9 yy
          try rw [if_pos (by rfl)]
          refine wp_store_mid 24 _ _ rfl bb 0 (([0, 0, 0, 0] : List Int).map (Value.int .u64)).toArray rfl rfl b3 (by kernel_rfl) (all_oneCell_toArray (word_one _)) ?_
          simp only [Act.put, List.setIfInBounds_toArray, List.set_cons_zero, List.set_cons_succ]
          exact hK _ _ ⟨_, _, _, _, _, _, _, _, _, _, _, _, rfl, hM.put9 yy, { hG with }⟩
        · cases ho
          refine wpOp_step rfl (fun K hK => ?_)
          have y8 : fd 8 = true := hdep ⟨8, .data⟩ (by simp) rfl
          obtain rfl := hG.c8 y8
          go_simp
          exact hK _ _ ⟨_, _, _, _, _, _, _, _, _, _, _, _, rfl, hM, { hG with c13 := fun _ => rfl }⟩
      · rintro fd a' u ⟨t17, t18, t19, t69, t70, t71, t72, t73, t74, t75, t76, t77, rfl, hM, hG⟩ hall
        obtain rfl := hG.c0 (hall 0 (by decide))
        obtain rfl := hG.c1 (hall 1 (by decide))
        obtain rfl := hG.c2 (hall 2 (by decide))
        obtain rfl := hG.c3 (hall 3 (by decide))
        obtain rfl := hG.c4 (hall 4 (by decide))
        obtain rfl := hG.c5 (hall 5 (by decide))
        obtain rfl := hG.c6 (hall 6 (by decide))
        obtain rfl := hG.c7 (hall 7 (by decide))
        obtain rfl := hG.c8 (hall 8 (by decide))
        obtain rfl := hG.c13 (hall 13 (by decide))
        obtain ⟨c8, rfl, r81, r82, r83, r84⟩ := hM.a8 (hall 9 (by decide))
        have o8 := r84 (hall 11 (by decide))
        obtain ⟨c9, rfl, r91, r92, r93, r94⟩ := hM.a9 (hall 10 (by decide))
        have o9 := r94 (hall 12 (by decide))
        have nA := hM.kept _ _ (show (w.heap.size, [a, b, c, d]) ∈ _ by simp)
        have nX := hM.kept _ _ (show (w.heap.size + 1, [x, y, z, t]) ∈ _ by simp)
        have nM := hM.kept _ _ (show (w.heap.size + 1 + 1, [m0, m1, m2, m3]) ∈ _ by simp)
        have n8 := hM.kept _ _ (show (b8, [q0, q1, q2, q3, 0, 0, 0, 0]) ∈ _ by simp)
        have n9 := hM.kept _ _ (show (b9, [r0, r1, r2, r3]) ∈ _ by simp)
        have nP := hM.kept _ _ (show (v2.heap.size, [p0, p1, p2, p3, 0, 0, 0, 0]) ∈ _ by simp)
        have nB := hM.kept _ _ (show (v3.heap.size, [a, b, c, d]) ∈ _ by simp)
        have q8 := hM.bel
        have z8 := hM.sz
        clear hM hG hall gA gX gM g8 g9 gP kB q7 mulB divB r83 r84 r93 r94
        go_wp2_with fail
        obtain ⟨bs, hbs⟩ : ∃ bs, bs + 1 = u.heap.size := ⟨u.heap.size - 1, by omega⟩
        have widX : ∀ u, _ := fun u => Widen_any x y z t u
        refine wp_region_inv (fun fd a' uq => ∃ t6 t78 t79 t80 t81 t82 t83 t84 t85 t86 t87 t88 t89 t90 t91 t92 t93 t94 t95 t96 t97 t98 t99 t100 t101 t102 t103 t104 t105 t106 t107 t108 t109 t110 t111 t112 t113 t114 t115 t116 t117 t118 t119, a' = ⟨((A4 a b c d) :: (A4 x y z t) :: (A4 m0 m1 m2 m3) :: (Value.pointer (some { block := w.heap.size, off := 0 })) :: (Value.pointer (some { block := w.heap.size + 1, off := 0 })) :: (Value.pointer (some { block := w.heap.size + 1 + 1, off := 0 })) :: t6 :: undef :: undef :: undef :: (Value.pointer (some { block := b8, off := 0 })) :: (Value.pointer (some { block := b9, off := 0 })) :: (Value.int IntKind.i64 0) :: (Value.pointer (some { block := nl, off := 0 })) :: (Value.pointer (some { block := v2.heap.size, off := 0 })) :: (Value.pointer (some { block := v3.heap.size, off := 0 })) :: (Value.bool false) :: (Value.pointer (some { block := c8, off := 0 })) :: (Value.pointer (some { block := c9, off := 0 })) :: (Value.int IntKind.i64 0) :: (Value.bool true) :: (Value.bool false) :: (Value.agg #[Value.int IntKind.u64 m0, Value.int IntKind.u64 m1, Value.int IntKind.u64 m2, Value.int IntKind.u64 m3]) :: (Value.agg #[Value.int IntKind.u64 0, Value.int IntKind.u64 0, Value.int IntKind.u64 0, Value.int IntKind.u64 0]) :: (Value.bool false) :: undef :: undef :: undef :: undef :: undef :: undef :: undef :: undef :: undef :: undef :: (Value.tuple #[A8 q0 q1 q2 q3 0 0 0 0, A4 r0 r1 r2 r3, Value.int IntKind.i64 0]) :: (A4 a b c d) :: (A8 a b c d 0 0 0 0) :: (A4 m0 m1 m2 m3) :: (Value.tuple #[A8 q0 q1 q2 q3 0 0 0 0, A4 r0 r1 r2 r3, Value.int IntKind.i64 0]) :: (A8 q0 q1 q2 q3 0 0 0 0) :: (A4 r0 r1 r2 r3) :: (Value.int IntKind.i64 0) :: (Value.pointer (some { block := b8, off := 0 })) :: (Value.int IntKind.u64 q0) :: (Value.pointer (some { block := b8, off := 1 })) :: (Value.int IntKind.u64 q1) :: (Value.pointer (some { block := b8, off := 2 })) :: (Value.int IntKind.u64 q2) :: (Value.pointer (some { block := b8, off := 3 })) :: (Value.int IntKind.u64 q3) :: (Value.agg #[Value.int IntKind.u64 q0, Value.int IntKind.u64 q1, Value.int IntKind.u64 q2, Value.int IntKind.u64 q3]) :: (Value.agg #[Value.int IntKind.u64 q0, Value.int IntKind.u64 q1, Value.int IntKind.u64 q2, Value.int IntKind.u64 q3]) :: (Value.agg #[Value.int IntKind.u64 m0, Value.int IntKind.u64 m1, Value.int IntKind.u64 m2, Value.int IntKind.u64 m3]) :: (A8 p0 p1 p2 p3 0 0 0 0) :: (Value.tuple #[A4 a b c d, Value.bool false]) :: (Value.pointer (some { block := v2.heap.size, off := 0 })) :: (Value.int IntKind.u64 p0) :: (Value.pointer (some { block := v2.heap.size, off := 1 })) :: (Value.int IntKind.u64 p1) :: (Value.pointer (some { block := v2.heap.size, off := 2 })) :: (Value.int IntKind.u64 p2) :: (Value.pointer (some { block := v2.heap.size, off := 3 })) :: (Value.int IntKind.u64 p3) :: (Value.agg #[Value.int IntKind.u64 p0, Value.int IntKind.u64 p1, Value.int IntKind.u64 p2, Value.int IntKind.u64 p3]) :: (Value.agg #[Value.int IntKind.u64 r0, Value.int IntKind.u64 r1, Value.int IntKind.u64 r2, Value.int IntKind.u64 r3]) :: (Value.tuple #[A4 a b c d, Value.bool false]) :: (A4 a b c d) :: (Value.bool false) :: (Value.tuple #[A8 x y z t 0 0 0 0, A4 0 0 0 0, Value.int IntKind.i64 0]) :: (A4 x y z t) :: (A4 m0 m1 m2 m3) :: (WV (V x y z t * V m0 m1 m2 m3)) :: (A4 m0 m1 m2 m3) :: (Value.tuple #[A8 x y z t 0 0 0 0, A4 0 0 0 0, Value.int IntKind.i64 0]) :: (A8 x y z t 0 0 0 0) :: (A4 0 0 0 0) :: (Value.int IntKind.i64 0) :: t78 :: t79 :: t80 :: t81 :: t82 :: t83 :: t84 :: t85 :: t86 :: t87 :: t88 :: t89 :: t90 :: t91 :: t92 :: t93 :: t94 :: t95 :: t96 :: t97 :: t98 :: t99 :: t100 :: t101 :: t102 :: t103 :: t104 :: t105 :: t106 :: t107 :: t108 :: t109 :: t110 :: t111 :: t112 :: t113 :: t114 :: t115 :: t116 :: t117 :: t118 :: t119 :: []).toArray, []⟩ ∧ M2 w (bs) [(w.heap.size, [a, b, c, d]), (w.heap.size + 1, [x, y, z, t]), (w.heap.size + 1 + 1, [m0, m1, m2, m3]), (b8, [q0, q1, q2, q3, 0, 0, 0, 0]), (b9, [r0, r1, r2, r3]), (v2.heap.size, [p0, p1, p2, p3, 0, 0, 0, 0]), (v3.heap.size, [a, b, c, d]), (c8, [x, y, z, t, 0, 0, 0, 0]), (c9, [0, 0, 0, 0])] [] [] false false false false undef undef uq ∧ G811 (fd 0) (fd 1) (fd 2) (fd 3) (fd 4) (fd 5) (fd 6) (fd 7) (fd 8) (fd 9) (fd 10) (fd 11) (fd 12) (fd 13) (fd 14) (fd 15) (fd 16) (fd 17) (fd 18) (fd 19) (fd 20) (fd 21) (fd 22) (fd 23) (fd 24) (fd 25) (fd 26) (fd 27) (fd 28) (fd 29) (fd 30) (fd 31) (fd 32) (fd 33) (fd 34) (fd 35) (fd 36) (fd 37) (fd 38) (fd 39) (fd 40) (fd 41) (fd 42) t6 t78 t79 t80 t81 t82 t83 t84 t85 t86 t87 t88 t89 t90 t91 t92 t93 t94 t95 t96 t97 t98 t99 t100 t101 t102 t103 t104 t105 t106 t107 t108 t109 t110 t111 t112 t113 t114 t115 t116 t117 t118 t119 (.int .i64 0) (.bool true) (.bool true) (.bool false) (.bool true) (.bool true) (.bool true) (A4 a b c d) (A4 a b c d) (.bool true) (.bool true) (.bool true) (A4 r0 r1 r2 r3) (A4 m0 m1 m2 m3) (.int .i64 (-1)) (.bool true) (.bool true) (.bool true) (.pointer (some ⟨v2.heap.size, 4, none⟩)) (.int .u64 0) (.bool true) (.bool true) (.bool true) (.pointer (some ⟨b8, 4, none⟩)) (.int .u64 0) (.bool true) (.bool true) (.bool true) (.int .i64 0) (.bool true) (.bool true) (.bool true) (A4 0 0 0 0) (A4 0 0 0 0) (.bool true) (.bool true) (.bool true) (A8 x y z t 0 0 0 0) (A4 x y z t) (A8 x y z t 0 0 0 0) (.bool true) (.bool true) (.bool true)) (by kernel_rfl) (by kernel_rfl) ?_ ?_ ?_
        · refine ⟨(Value.bool false), undef, undef, undef, undef, undef, undef, undef, undef, undef, undef, undef, undef, undef, undef, undef, undef, undef, undef, undef, undef, undef, undef, undef, undef, undef, undef, undef, undef, undef, undef, undef, undef, undef, undef, undef, undef, undef, undef, undef, undef, undef, undef, rfl, M2.start q8.drew (by omega) (by simp; omega) (by intro q hq; simp only [List.mem_cons, List.not_mem_nil, or_false] at hq; rcases hq with rfl | rfl | rfl | rfl | rfl | rfl | rfl | rfl | rfl; exact ⟨by omega, nA⟩; exact ⟨by omega, nX⟩; exact ⟨by omega, nM⟩; exact ⟨by omega, n8⟩; exact ⟨by omega, n9⟩; exact ⟨by omega, nP⟩; exact ⟨by omega, nB⟩; exact ⟨by omega, o8⟩; exact ⟨by omega, o9⟩), ?_⟩
          exact { c0 := fun e => (by cases e), c1 := fun e => (by cases e), c2 := fun e => (by cases e), c3 := fun e => (by cases e), c4 := fun e => (by cases e), c5 := fun e => (by cases e), c6 := fun e => (by cases e), c7 := fun e => (by cases e), c8 := fun e => (by cases e), c9 := fun e => (by cases e), c10 := fun e => (by cases e), c11 := fun e => (by cases e), c12 := fun e => (by cases e), c13 := fun e => (by cases e), c14 := fun e => (by cases e), c15 := fun e => (by cases e), c16 := fun e => (by cases e), c17 := fun e => (by cases e), c18 := fun e => (by cases e), c19 := fun e => (by cases e), c20 := fun e => (by cases e), c21 := fun e => (by cases e), c22 := fun e => (by cases e), c23 := fun e => (by cases e), c24 := fun e => (by cases e), c25 := fun e => (by cases e), c26 := fun e => (by cases e), c27 := fun e => (by cases e), c28 := fun e => (by cases e), c29 := fun e => (by cases e), c30 := fun e => (by cases e), c31 := fun e => (by cases e), c32 := fun e => (by cases e), c33 := fun e => (by cases e), c34 := fun e => (by cases e), c35 := fun e => (by cases e), c36 := fun e => (by cases e), c37 := fun e => (by cases e), c38 := fun e => (by cases e), c39 := fun e => (by cases e), c40 := fun e => (by cases e), c41 := fun e => (by cases e), c42 := fun e => (by cases e) }
        · rintro fd a' u i o ⟨t6, t78, t79, t80, t81, t82, t83, t84, t85, t86, t87, t88, t89, t90, t91, t92, t93, t94, t95, t96, t97, t98, t99, t100, t101, t102, t103, t104, t105, t106, t107, t108, t109, t110, t111, t112, t113, t114, t115, t116, t117, t118, t119, rfl, hM, hG⟩ ho hfi hdep
          have il : i < 43 := (Array.getElem?_eq_some_iff.1 ho).1
          have ix : i = 0 ∨ i = 1 ∨ i = 2 ∨ i = 3 ∨ i = 4 ∨ i = 5 ∨ i = 6 ∨ i = 7 ∨ i = 8 ∨ i = 9 ∨ i = 10 ∨ i = 11 ∨ i = 12 ∨ i = 13 ∨ i = 14 ∨ i = 15 ∨ i = 16 ∨ i = 17 ∨ i = 18 ∨ i = 19 ∨ i = 20 ∨ i = 21 ∨ i = 22 ∨ i = 23 ∨ i = 24 ∨ i = 25 ∨ i = 26 ∨ i = 27 ∨ i = 28 ∨ i = 29 ∨ i = 30 ∨ i = 31 ∨ i = 32 ∨ i = 33 ∨ i = 34 ∨ i = 35 ∨ i = 36 ∨ i = 37 ∨ i = 38 ∨ i = 39 ∨ i = 40 ∨ i = 41 ∨ i = 42 := by omega
          rcases ix with rfl | rfl | rfl | rfl | rfl | rfl | rfl | rfl | rfl | rfl | rfl | rfl | rfl | rfl | rfl | rfl | rfl | rfl | rfl | rfl | rfl | rfl | rfl | rfl | rfl | rfl | rfl | rfl | rfl | rfl | rfl | rfl | rfl | rfl | rfl | rfl | rfl | rfl | rfl | rfl | rfl | rfl | rfl
          · cases ho
            refine wpOp_step rfl (fun K hK => ?_)
            go_simp
            exact hK _ _ ⟨_, _, _, _, _, _, _, _, _, _, _, _, _, _, _, _, _, _, _, _, _, _, _, _, _, _, _, _, _, _, _, _, _, _, _, _, _, _, _, _, _, _, _, rfl, hM, { hG with c0 := fun _ => rfl }⟩
          · cases ho
            refine wpOp_step rfl (fun K hK => ?_)
            have y0 : fd 0 = true := hdep ⟨0, .data⟩ (by simp) rfl
            obtain rfl := hG.c0 y0
            go_simp
            exact hK _ _ ⟨_, _, _, _, _, _, _, _, _, _, _, _, _, _, _, _, _, _, _, _, _, _, _, _, _, _, _, _, _, _, _, _, _, _, _, _, _, _, _, _, _, _, _, rfl, hM, { hG with c1 := fun _ => rfl }⟩
          · cases ho
            refine wpOp_step rfl (fun K hK => ?_)
            have y1 : fd 1 = true := hdep ⟨1, .data⟩ (by simp) rfl
            obtain rfl := hG.c1 y1
            go_simp
            exact hK _ _ ⟨_, _, _, _, _, _, _, _, _, _, _, _, _, _, _, _, _, _, _, _, _, _, _, _, _, _, _, _, _, _, _, _, _, _, _, _, _, _, _, _, _, _, _, rfl, hM, { hG with c2 := fun _ => rfl }⟩
          · cases ho
            refine wpOp_step rfl (fun K hK => ?_)
            have y2 : fd 2 = true := hdep ⟨2, .guard⟩ (by simp) rfl
            obtain rfl := hG.c2 y2
            go_simp
            exact hK _ _ ⟨_, _, _, _, _, _, _, _, _, _, _, _, _, _, _, _, _, _, _, _, _, _, _, _, _, _, _, _, _, _, _, _, _, _, _, _, _, _, _, _, _, _, _, rfl, hM, { hG with c3 := fun _ => rfl }⟩
          · cases ho
            refine wpOp_step rfl (fun K hK => ?_)
            have y3 : fd 3 = true := hdep ⟨3, .data⟩ (by simp) rfl
            have y2 : fd 2 = true := hdep ⟨2, .guard⟩ (by simp) rfl
            obtain rfl := hG.c3 y3
            obtain rfl := hG.c2 y2
            go_simp
            exact hK _ _ ⟨_, _, _, _, _, _, _, _, _, _, _, _, _, _, _, _, _, _, _, _, _, _, _, _, _, _, _, _, _, _, _, _, _, _, _, _, _, _, _, _, _, _, _, rfl, hM, { hG with c4 := fun _ => rfl }⟩
          · cases ho
            refine wpOp_step rfl (fun K hK => ?_)
            have y2 : fd 2 = true := hdep ⟨2, .data⟩ (by simp) rfl
            have y4 : fd 4 = true := hdep ⟨4, .data⟩ (by simp) rfl
            obtain rfl := hG.c2 y2
            obtain rfl := hG.c4 y4
            go_simp
            exact hK _ _ ⟨_, _, _, _, _, _, _, _, _, _, _, _, _, _, _, _, _, _, _, _, _, _, _, _, _, _, _, _, _, _, _, _, _, _, _, _, _, _, _, _, _, _, _, rfl, hM, { hG with c5 := fun _ => rfl }⟩
          · cases ho
            refine wpOp_step rfl (fun K hK => ?_)
            have y5 : fd 5 = true := hdep ⟨5, .data⟩ (by simp) rfl
            obtain rfl := hG.c5 y5
            go_simp
            exact hK _ _ ⟨_, _, _, _, _, _, _, _, _, _, _, _, _, _, _, _, _, _, _, _, _, _, _, _, _, _, _, _, _, _, _, _, _, _, _, _, _, _, _, _, _, _, _, rfl, hM, { hG with c6 := fun _ => rfl }⟩
          · cases ho
            refine wpOp_step rfl (fun K hK => ?_)
            have y6 : fd 6 = true := hdep ⟨6, .guard⟩ (by simp) rfl
            obtain rfl := hG.c6 y6
            have kk := hM.kept _ _ (show (v3.heap.size, [a, b, c, d]) ∈ _ by simp)
            have k0 := (kk 0 _ rfl).1
            have k1 := (kk 1 _ rfl).1
            have k2 := (kk 2 _ rfl).1
            have k3 := (kk 3 _ rfl).1
            clear kk
            go_simp
            exact hK _ _ ⟨_, _, _, _, _, _, _, _, _, _, _, _, _, _, _, _, _, _, _, _, _, _, _, _, _, _, _, _, _, _, _, _, _, _, _, _, _, _, _, _, _, _, _, rfl, hM, { hG with c7 := fun _ => rfl }⟩
          · cases ho
            refine wpOp_step rfl (fun K hK => ?_)
            have y6 : fd 6 = true := hdep ⟨6, .guard⟩ (by simp) rfl
            obtain rfl := hG.c6 y6
            have kk := hM.kept _ _ (show (w.heap.size, [a, b, c, d]) ∈ _ by simp)
            have k0 := (kk 0 _ rfl).1
            have k1 := (kk 1 _ rfl).1
            have k2 := (kk 2 _ rfl).1
            have k3 := (kk 3 _ rfl).1
            clear kk
            go_simp
            exact hK _ _ ⟨_, _, _, _, _, _, _, _, _, _, _, _, _, _, _, _, _, _, _, _, _, _, _, _, _, _, _, _, _, _, _, _, _, _, _, _, _, _, _, _, _, _, _, rfl, hM, { hG with c8 := fun _ => rfl }⟩
          · cases ho
            refine wpOp_step rfl (fun K hK => ?_)
            have y7 : fd 7 = true := hdep ⟨7, .data⟩ (by simp) rfl
            have y8 : fd 8 = true := hdep ⟨8, .data⟩ (by simp) rfl
            have y6 : fd 6 = true := hdep ⟨6, .guard⟩ (by simp) rfl
            obtain rfl := hG.c7 y7
            obtain rfl := hG.c8 y8
            obtain rfl := hG.c6 y6
            go_simp
            exact hK _ _ ⟨_, _, _, _, _, _, _, _, _, _, _, _, _, _, _, _, _, _, _, _, _, _, _, _, _, _, _, _, _, _, _, _, _, _, _, _, _, _, _, _, _, _, _, rfl, hM, { hG with c9 := fun _ => rfl }⟩
          · cases ho
            refine wpOp_step rfl (fun K hK => ?_)
            have y6 : fd 6 = true := hdep ⟨6, .data⟩ (by simp) rfl
            have y9 : fd 9 = true := hdep ⟨9, .data⟩ (by simp) rfl
            obtain rfl := hG.c6 y6
            obtain rfl := hG.c9 y9
            go_simp
            exact hK _ _ ⟨_, _, _, _, _, _, _, _, _, _, _, _, _, _, _, _, _, _, _, _, _, _, _, _, _, _, _, _, _, _, _, _, _, _, _, _, _, _, _, _, _, _, _, rfl, hM, { hG with c10 := fun _ => rfl }⟩
          · cases ho
            refine wpOp_step rfl (fun K hK => ?_)
            have y10 : fd 10 = true := hdep ⟨10, .data⟩ (by simp) rfl
            obtain rfl := hG.c10 y10
            go_simp
            exact hK _ _ ⟨_, _, _, _, _, _, _, _, _, _, _, _, _, _, _, _, _, _, _, _, _, _, _, _, _, _, _, _, _, _, _, _, _, _, _, _, _, _, _, _, _, _, _, rfl, hM, { hG with c11 := fun _ => rfl }⟩
          · cases ho
            refine wpOp_step rfl (fun K hK => ?_)
            have y11 : fd 11 = true := hdep ⟨11, .guard⟩ (by simp) rfl
            obtain rfl := hG.c11 y11
            have kk := hM.kept _ _ (show (b9, [r0, r1, r2, r3]) ∈ _ by simp)
            have k0 := (kk 0 _ rfl).1
            have k1 := (kk 1 _ rfl).1
            have k2 := (kk 2 _ rfl).1
            have k3 := (kk 3 _ rfl).1
            clear kk
            go_simp
            exact hK _ _ ⟨_, _, _, _, _, _, _, _, _, _, _, _, _, _, _, _, _, _, _, _, _, _, _, _, _, _, _, _, _, _, _, _, _, _, _, _, _, _, _, _, _, _, _, rfl, hM, { hG with c12 := fun _ => rfl }⟩
          · cases ho
            refine wpOp_step rfl (fun K hK => ?_)
            have y11 : fd 11 = true := hdep ⟨11, .guard⟩ (by simp) rfl
            obtain rfl := hG.c11 y11
            have kk := hM.kept _ _ (show (w.heap.size + 1 + 1, [m0, m1, m2, m3]) ∈ _ by simp)
            have k0 := (kk 0 _ rfl).1
            have k1 := (kk 1 _ rfl).1
            have k2 := (kk 2 _ rfl).1
            have k3 := (kk 3 _ rfl).1
            clear kk
            go_simp
            exact hK _ _ ⟨_, _, _, _, _, _, _, _, _, _, _, _, _, _, _, _, _, _, _, _, _, _, _, _, _, _, _, _, _, _, _, _, _, _, _, _, _, _, _, _, _, _, _, rfl, hM, { hG with c13 := fun _ => rfl }⟩
          · cases ho
            refine wpOp_step rfl (fun K hK => ?_)
            have y12 : fd 12 = true := hdep ⟨12, .data⟩ (by simp) rfl
            have y13 : fd 13 = true := hdep ⟨13, .data⟩ (by simp) rfl
            have y11 : fd 11 = true := hdep ⟨11, .guard⟩ (by simp) rfl
            obtain rfl := hG.c12 y12
            obtain rfl := hG.c13 y13
            obtain rfl := hG.c11 y11
            go_simp
            refine (cmp u).mono ?_
            rintro en v ⟨rfl, hB⟩
            have hM := hM.call hB
            clear hB
            try simp only [Act.put, List.setIfInBounds_toArray, List.set_cons_zero, List.set_cons_succ]
            exact hK _ _ ⟨_, _, _, _, _, _, _, _, _, _, _, _, _, _, _, _, _, _, _, _, _, _, _, _, _, _, _, _, _, _, _, _, _, _, _, _, _, _, _, _, _, _, _, rfl, hM, { hG with c14 := fun _ => rfl }⟩
          · cases ho
            refine wpOp_step rfl (fun K hK => ?_)
            have y14 : fd 14 = true := hdep ⟨14, .data⟩ (by simp) rfl
            have y11 : fd 11 = true := hdep ⟨11, .guard⟩ (by simp) rfl
            obtain rfl := hG.c14 y14
            obtain rfl := hG.c11 y11
            go_simp
            exact hK _ _ ⟨_, _, _, _, _, _, _, _, _, _, _, _, _, _, _, _, _, _, _, _, _, _, _, _, _, _, _, _, _, _, _, _, _, _, _, _, _, _, _, _, _, _, _, rfl, hM, { hG with c15 := fun _ => rfl }⟩
          · cases ho
            refine wpOp_step rfl (fun K hK => ?_)
            have y11 : fd 11 = true := hdep ⟨11, .data⟩ (by simp) rfl
            have y15 : fd 15 = true := hdep ⟨15, .data⟩ (by simp) rfl
            obtain rfl := hG.c11 y11
            obtain rfl := hG.c15 y15
            go_simp
            exact hK _ _ ⟨_, _, _, _, _, _, _, _, _, _, _, _, _, _, _, _, _, _, _, _, _, _, _, _, _, _, _, _, _, _, _, _, _, _, _, _, _, _, _, _, _, _, _, rfl, hM, { hG with c16 := fun _ => rfl }⟩
          · cases ho
            refine wpOp_step rfl (fun K hK => ?_)
            have y16 : fd 16 = true := hdep ⟨16, .data⟩ (by simp) rfl
            obtain rfl := hG.c16 y16
            go_simp
            exact hK _ _ ⟨_, _, _, _, _, _, _, _, _, _, _, _, _, _, _, _, _, _, _, _, _, _, _, _, _, _, _, _, _, _, _, _, _, _, _, _, _, _, _, _, _, _, _, rfl, hM, { hG with c17 := fun _ => rfl }⟩
          · cases ho
            refine wpOp_step rfl (fun K hK => ?_)
            have y17 : fd 17 = true := hdep ⟨17, .guard⟩ (by simp) rfl
            obtain rfl := hG.c17 y17
            go_simp
            exact hK _ _ ⟨_, _, _, _, _, _, _, _, _, _, _, _, _, _, _, _, _, _, _, _, _, _, _, _, _, _, _, _, _, _, _, _, _, _, _, _, _, _, _, _, _, _, _, rfl, hM, { hG with c18 := fun _ => rfl }⟩
          · cases ho
            refine wpOp_step rfl (fun K hK => ?_)
            have y18 : fd 18 = true := hdep ⟨18, .data⟩ (by simp) rfl
            have y17 : fd 17 = true := hdep ⟨17, .guard⟩ (by simp) rfl
            obtain rfl := hG.c18 y18
            obtain rfl := hG.c17 y17
            have kk := hM.kept _ _ (show (v2.heap.size, [p0, p1, p2, p3, 0, 0, 0, 0]) ∈ _ by simp)
            have k0 := (kk 4 _ rfl).1
            clear kk
            go_simp
            exact hK _ _ ⟨_, _, _, _, _, _, _, _, _, _, _, _, _, _, _, _, _, _, _, _, _, _, _, _, _, _, _, _, _, _, _, _, _, _, _, _, _, _, _, _, _, _, _, rfl, hM, { hG with c19 := fun _ => rfl }⟩
          · cases ho
            refine wpOp_step rfl (fun K hK => ?_)
            have y19 : fd 19 = true := hdep ⟨19, .data⟩ (by simp) rfl
            have y17 : fd 17 = true := hdep ⟨17, .guard⟩ (by simp) rfl
            obtain rfl := hG.c19 y19
            obtain rfl := hG.c17 y17
            go_simp
            exact hK _ _ ⟨_, _, _, _, _, _, _, _, _, _, _, _, _, _, _, _, _, _, _, _, _, _, _, _, _, _, _, _, _, _, _, _, _, _, _, _, _, _, _, _, _, _, _, rfl, hM, { hG with c20 := fun _ => rfl }⟩
          · cases ho
            refine wpOp_step rfl (fun K hK => ?_)
            have y17 : fd 17 = true := hdep ⟨17, .data⟩ (by simp) rfl
            have y20 : fd 20 = true := hdep ⟨20, .data⟩ (by simp) rfl
            obtain rfl := hG.c17 y17
            obtain rfl := hG.c20 y20
            go_simp
            exact hK _ _ ⟨_, _, _, _, _, _, _, _, _, _, _, _, _, _, _, _, _, _, _, _, _, _, _, _, _, _, _, _, _, _, _, _, _, _, _, _, _, _, _, _, _, _, _, rfl, hM, { hG with c21 := fun _ => rfl }⟩
          · cases ho
            refine wpOp_step rfl (fun K hK => ?_)
            have y21 : fd 21 = true := hdep ⟨21, .data⟩ (by simp) rfl
            obtain rfl := hG.c21 y21
            go_simp
            exact hK _ _ ⟨_, _, _, _, _, _, _, _, _, _, _, _, _, _, _, _, _, _, _, _, _, _, _, _, _, _, _, _, _, _, _, _, _, _, _, _, _, _, _, _, _, _, _, rfl, hM, { hG with c22 := fun _ => rfl }⟩
          · cases ho
            refine wpOp_step rfl (fun K hK => ?_)
            have y22 : fd 22 = true := hdep ⟨22, .guard⟩ (by simp) rfl
            obtain rfl := hG.c22 y22
            go_simp
            exact hK _ _ ⟨_, _, _, _, _, _, _, _, _, _, _, _, _, _, _, _, _, _, _, _, _, _, _, _, _, _, _, _, _, _, _, _, _, _, _, _, _, _, _, _, _, _, _, rfl, hM, { hG with c23 := fun _ => rfl }⟩
          · cases ho
            refine wpOp_step rfl (fun K hK => ?_)
            have y23 : fd 23 = true := hdep ⟨23, .data⟩ (by simp) rfl
            have y22 : fd 22 = true := hdep ⟨22, .guard⟩ (by simp) rfl
            obtain rfl := hG.c23 y23
            obtain rfl := hG.c22 y22
            have kk := hM.kept _ _ (show (b8, [q0, q1, q2, q3, 0, 0, 0, 0]) ∈ _ by simp)
            have k0 := (kk 4 _ rfl).1
            clear kk
            go_simp
            exact hK _ _ ⟨_, _, _, _, _, _, _, _, _, _, _, _, _, _, _, _, _, _, _, _, _, _, _, _, _, _, _, _, _, _, _, _, _, _, _, _, _, _, _, _, _, _, _, rfl, hM, { hG with c24 := fun _ => rfl }⟩
          · cases ho
            refine wpOp_step rfl (fun K hK => ?_)
            have y24 : fd 24 = true := hdep ⟨24, .data⟩ (by simp) rfl
            have y22 : fd 22 = true := hdep ⟨22, .guard⟩ (by simp) rfl
            obtain rfl := hG.c24 y24
            obtain rfl := hG.c22 y22
            go_simp
            exact hK _ _ ⟨_, _, _, _, _, _, _, _, _, _, _, _, _, _, _, _, _, _, _, _, _, _, _, _, _, _, _, _, _, _, _, _, _, _, _, _, _, _, _, _, _, _, _, rfl, hM, { hG with c25 := fun _ => rfl }⟩
          · cases ho
            refine wpOp_step rfl (fun K hK => ?_)
            have y22 : fd 22 = true := hdep ⟨22, .data⟩ (by simp) rfl
            have y25 : fd 25 = true := hdep ⟨25, .data⟩ (by simp) rfl
            obtain rfl := hG.c22 y22
            obtain rfl := hG.c25 y25
            go_simp
            exact hK _ _ ⟨_, _, _, _, _, _, _, _, _, _, _, _, _, _, _, _, _, _, _, _, _, _, _, _, _, _, _, _, _, _, _, _, _, _, _, _, _, _, _, _, _, _, _, rfl, hM, { hG with c26 := fun _ => rfl }⟩
          · cases ho
            refine wpOp_step rfl (fun K hK => ?_)
            have y26 : fd 26 = true := hdep ⟨26, .data⟩ (by simp) rfl
            obtain rfl := hG.c26 y26
            go_simp
            exact hK _ _ ⟨_, _, _, _, _, _, _, _, _, _, _, _, _, _, _, _, _, _, _, _, _, _, _, _, _, _, _, _, _, _, _, _, _, _, _, _, _, _, _, _, _, _, _, rfl, hM, { hG with c27 := fun _ => rfl }⟩
          · cases ho
            refine wpOp_step rfl (fun K hK => ?_)
            have y27 : fd 27 = true := hdep ⟨27, .guard⟩ (by simp) rfl
            obtain rfl := hG.c27 y27
            go_simp
            exact hK _ _ ⟨_, _, _, _, _, _, _, _, _, _, _, _, _, _, _, _, _, _, _, _, _, _, _, _, _, _, _, _, _, _, _, _, _, _, _, _, _, _, _, _, _, _, _, rfl, hM, { hG with c28 := fun _ => rfl }⟩
          · cases ho
            refine wpOp_step rfl (fun K hK => ?_)
            have y28 : fd 28 = true := hdep ⟨28, .data⟩ (by simp) rfl
            have y27 : fd 27 = true := hdep ⟨27, .guard⟩ (by simp) rfl
            obtain rfl := hG.c28 y28
            obtain rfl := hG.c27 y27
            go_simp
            exact hK _ _ ⟨_, _, _, _, _, _, _, _, _, _, _, _, _, _, _, _, _, _, _, _, _, _, _, _, _, _, _, _, _, _, _, _, _, _, _, _, _, _, _, _, _, _, _, rfl, hM, { hG with c29 := fun _ => rfl }⟩
          · cases ho
            refine wpOp_step rfl (fun K hK => ?_)
            have y27 : fd 27 = true := hdep ⟨27, .data⟩ (by simp) rfl
            have y29 : fd 29 = true := hdep ⟨29, .data⟩ (by simp) rfl
            obtain rfl := hG.c27 y27
            obtain rfl := hG.c29 y29
            go_simp
            exact hK _ _ ⟨_, _, _, _, _, _, _, _, _, _, _, _, _, _, _, _, _, _, _, _, _, _, _, _, _, _, _, _, _, _, _, _, _, _, _, _, _, _, _, _, _, _, _, rfl, hM, { hG with c30 := fun _ => rfl }⟩
          · cases ho
            refine wpOp_step rfl (fun K hK => ?_)
            have y30 : fd 30 = true := hdep ⟨30, .data⟩ (by simp) rfl
            obtain rfl := hG.c30 y30
            go_simp
            exact hK _ _ ⟨_, _, _, _, _, _, _, _, _, _, _, _, _, _, _, _, _, _, _, _, _, _, _, _, _, _, _, _, _, _, _, _, _, _, _, _, _, _, _, _, _, _, _, rfl, hM, { hG with c31 := fun _ => rfl }⟩
          · cases ho
            refine wpOp_step rfl (fun K hK => ?_)
            have y31 : fd 31 = true := hdep ⟨31, .guard⟩ (by simp) rfl
            obtain rfl := hG.c31 y31
            have kk := hM.kept _ _ (show (c9, [0, 0, 0, 0]) ∈ _ by simp)
            have k0 := (kk 0 _ rfl).1
            have k1 := (kk 1 _ rfl).1
            have k2 := (kk 2 _ rfl).1
            have k3 := (kk 3 _ rfl).1
            clear kk
            go_simp
            exact hK _ _ ⟨_, _, _, _, _, _, _, _, _, _, _, _, _, _, _, _, _, _, _, _, _, _, _, _, _, _, _, _, _, _, _, _, _, _, _, _, _, _, _, _, _, _, _, rfl, hM, { hG with c32 := fun _ => rfl }⟩
          · cases ho
            refine wpOp_step rfl (fun K hK => ?_)
            have y31 : fd 31 = true := hdep ⟨31, .guard⟩ (by simp) rfl
            obtain rfl := hG.c31 y31
            go_simp
            exact hK _ _ ⟨_, _, _, _, _, _, _, _, _, _, _, _, _, _, _, _, _, _, _, _, _, _, _, _, _, _, _, _, _, _, _, _, _, _, _, _, _, _, _, _, _, _, _, rfl, hM, { hG with c33 := fun _ => rfl }⟩
          · cases ho
            refine wpOp_step rfl (fun K hK => ?_)
            have y32 : fd 32 = true := hdep ⟨32, .data⟩ (by simp) rfl
            have y33 : fd 33 = true := hdep ⟨33, .data⟩ (by simp) rfl
            have y31 : fd 31 = true := hdep ⟨31, .guard⟩ (by simp) rfl
            obtain rfl := hG.c32 y32
            obtain rfl := hG.c33 y33
            obtain rfl := hG.c31 y31
            go_simp
            exact hK _ _ ⟨_, _, _, _, _, _, _, _, _, _, _, _, _, _, _, _, _, _, _, _, _, _, _, _, _, _, _, _, _, _, _, _, _, _, _, _, _, _, _, _, _, _, _, rfl, hM, { hG with c34 := fun _ => rfl }⟩
          · cases ho
            refine wpOp_step rfl (fun K hK => ?_)
            have y31 : fd 31 = true := hdep ⟨31, .data⟩ (by simp) rfl
            have y34 : fd 34 = true := hdep ⟨34, .data⟩ (by simp) rfl
            obtain rfl := hG.c31 y31
            obtain rfl := hG.c34 y34
            go_simp
            exact hK _ _ ⟨_, _, _, _, _, _, _, _, _, _, _, _, _, _, _, _, _, _, _, _, _, _, _, _, _, _, _, _, _, _, _, _, _, _, _, _, _, _, _, _, _, _, _, rfl, hM, { hG with c35 := fun _ => rfl }⟩
          · cases ho
            refine wpOp_step rfl (fun K hK => ?_)
            have y35 : fd 35 = true := hdep ⟨35, .data⟩ (by simp) rfl
            obtain rfl := hG.c35 y35
            go_simp
            exact hK _ _ ⟨_, _, _, _, _, _, _, _, _, _, _, _, _, _, _, _, _, _, _, _, _, _, _, _, _, _, _, _, _, _, _, _, _, _, _, _, _, _, _, _, _, _, _, rfl, hM, { hG with c36 := fun _ => rfl }⟩
          · cases ho
            refine wpOp_step rfl (fun K hK => ?_)
            have y36 : fd 36 = true := hdep ⟨36, .guard⟩ (by simp) rfl
            obtain rfl := hG.c36 y36
            have kk := hM.kept _ _ (show (c8, [x, y, z, t, 0, 0, 0, 0]) ∈ _ by simp)
            have k0 := (kk 0 _ rfl).1
            have k1 := (kk 1 _ rfl).1
            have k2 := (kk 2 _ rfl).1
            have k3 := (kk 3 _ rfl).1
            have k4 := (kk 4 _ rfl).1
            have k5 := (kk 5 _ rfl).1
            have k6 := (kk 6 _ rfl).1
            have k7 := (kk 7 _ rfl).1
            clear kk
            go_simp
            exact hK _ _ ⟨_, _, _, _, _, _, _, _, _, _, _, _, _, _, _, _, _, _, _, _, _, _, _, _, _, _, _, _, _, _, _, _, _, _, _, _, _, _, _, _, _, _, _, rfl, hM, { hG with c37 := fun _ => rfl }⟩
          · cases ho
            refine wpOp_step rfl (fun K hK => ?_)
            have y36 : fd 36 = true := hdep ⟨36, .guard⟩ (by simp) rfl
            obtain rfl := hG.c36 y36
            have kk := hM.kept _ _ (show (w.heap.size + 1, [x, y, z, t]) ∈ _ by simp)
            have k0 := (kk 0 _ rfl).1
            have k1 := (kk 1 _ rfl).1
            have k2 := (kk 2 _ rfl).1
            have k3 := (kk 3 _ rfl).1
            clear kk
            go_simp
            exact hK _ _ ⟨_, _, _, _, _, _, _, _, _, _, _, _, _, _, _, _, _, _, _, _, _, _, _, _, _, _, _, _, _, _, _, _, _, _, _, _, _, _, _, _, _, _, _, rfl, hM, { hG with c38 := fun _ => rfl }⟩
          · cases ho
            refine wpOp_step rfl (fun K hK => ?_)
            have y38 : fd 38 = true := hdep ⟨38, .data⟩ (by simp) rfl
            have y36 : fd 36 = true := hdep ⟨36, .guard⟩ (by simp) rfl
            obtain rfl := hG.c38 y38
            obtain rfl := hG.c36 y36
            go_simp
            refine (widX u).mono ?_
            rintro en v ⟨rfl, hB⟩
            have hM := hM.call hB
            clear hB
            try simp only [Act.put, List.setIfInBounds_toArray, List.set_cons_zero, List.set_cons_succ]
            exact hK _ _ ⟨_, _, _, _, _, _, _, _, _, _, _, _, _, _, _, _, _, _, _, _, _, _, _, _, _, _, _, _, _, _, _, _, _, _, _, _, _, _, _, _, _, _, _, rfl, hM, { hG with c39 := fun _ => rfl }⟩
          · cases ho
            refine wpOp_step rfl (fun K hK => ?_)
            have y37 : fd 37 = true := hdep ⟨37, .data⟩ (by simp) rfl
            have y39 : fd 39 = true := hdep ⟨39, .data⟩ (by simp) rfl
            have y36 : fd 36 = true := hdep ⟨36, .guard⟩ (by simp) rfl
            obtain rfl := hG.c37 y37
            obtain rfl := hG.c39 y39
            obtain rfl := hG.c36 y36
            go_simp
            exact hK _ _ ⟨_, _, _, _, _, _, _, _, _, _, _, _, _, _, _, _, _, _, _, _, _, _, _, _, _, _, _, _, _, _, _, _, _, _, _, _, _, _, _, _, _, _, _, rfl, hM, { hG with c40 := fun _ => rfl }⟩
          · cases ho
            refine wpOp_step rfl (fun K hK => ?_)
            have y36 : fd 36 = true := hdep ⟨36, .data⟩ (by simp) rfl
            have y40 : fd 40 = true := hdep ⟨40, .data⟩ (by simp) rfl
            obtain rfl := hG.c36 y36
            obtain rfl := hG.c40 y40
            go_simp
            exact hK _ _ ⟨_, _, _, _, _, _, _, _, _, _, _, _, _, _, _, _, _, _, _, _, _, _, _, _, _, _, _, _, _, _, _, _, _, _, _, _, _, _, _, _, _, _, _, rfl, hM, { hG with c41 := fun _ => rfl }⟩
          · cases ho
            refine wpOp_step rfl (fun K hK => ?_)
            have y41 : fd 41 = true := hdep ⟨41, .data⟩ (by simp) rfl
            obtain rfl := hG.c41 y41
            go_simp
            exact hK _ _ ⟨_, _, _, _, _, _, _, _, _, _, _, _, _, _, _, _, _, _, _, _, _, _, _, _, _, _, _, _, _, _, _, _, _, _, _, _, _, _, _, _, _, _, _, rfl, hM, { hG with c42 := fun _ => rfl }⟩
        · rintro fd a' u ⟨t6, t78, t79, t80, t81, t82, t83, t84, t85, t86, t87, t88, t89, t90, t91, t92, t93, t94, t95, t96, t97, t98, t99, t100, t101, t102, t103, t104, t105, t106, t107, t108, t109, t110, t111, t112, t113, t114, t115, t116, t117, t118, t119, rfl, hM, hG⟩ hall
          obtain rfl := hG.c0 (hall 0 (by decide))
          obtain rfl := hG.c1 (hall 1 (by decide))
          obtain rfl := hG.c2 (hall 2 (by decide))
          obtain rfl := hG.c3 (hall 3 (by decide))
          obtain rfl := hG.c4 (hall 4 (by decide))
          obtain rfl := hG.c5 (hall 5 (by decide))
          obtain rfl := hG.c6 (hall 6 (by decide))
          obtain rfl := hG.c7 (hall 7 (by decide))
          obtain rfl := hG.c8 (hall 8 (by decide))
          obtain rfl := hG.c9 (hall 9 (by decide))
          obtain rfl := hG.c10 (hall 10 (by decide))
          obtain rfl := hG.c11 (hall 11 (by decide))
          obtain rfl := hG.c12 (hall 12 (by decide))
          obtain rfl := hG.c13 (hall 13 (by decide))
          obtain rfl := hG.c14 (hall 14 (by decide))
          obtain rfl := hG.c15 (hall 15 (by decide))
          obtain rfl := hG.c16 (hall 16 (by decide))
          obtain rfl := hG.c17 (hall 17 (by decide))
          obtain rfl := hG.c18 (hall 18 (by decide))
          obtain rfl := hG.c19 (hall 19 (by decide))
          obtain rfl := hG.c20 (hall 20 (by decide))
          obtain rfl := hG.c21 (hall 21 (by decide))
          obtain rfl := hG.c22 (hall 22 (by decide))
          obtain rfl := hG.c23 (hall 23 (by decide))
          obtain rfl := hG.c24 (hall 24 (by decide))
          obtain rfl := hG.c25 (hall 25 (by decide))
          obtain rfl := hG.c26 (hall 26 (by decide))
          obtain rfl := hG.c27 (hall 27 (by decide))
          obtain rfl := hG.c28 (hall 28 (by decide))
          obtain rfl := hG.c29 (hall 29 (by decide))
          obtain rfl := hG.c30 (hall 30 (by decide))
          obtain rfl := hG.c31 (hall 31 (by decide))
          obtain rfl := hG.c32 (hall 32 (by decide))
          obtain rfl := hG.c33 (hall 33 (by decide))
          obtain rfl := hG.c34 (hall 34 (by decide))
          obtain rfl := hG.c35 (hall 35 (by decide))
          obtain rfl := hG.c36 (hall 36 (by decide))
          obtain rfl := hG.c37 (hall 37 (by decide))
          obtain rfl := hG.c38 (hall 38 (by decide))
          obtain rfl := hG.c39 (hall 39 (by decide))
          obtain rfl := hG.c40 (hall 40 (by decide))
          obtain rfl := hG.c41 (hall 41 (by decide))
          obtain rfl := hG.c42 (hall 42 (by decide))
          have qE := hM.bel
          clear hM hG hall nA nX nM n8 n9 nP nB o8 o9 cmp widX
          go_wp2
          go_ret
          exact ⟨rfl, qE⟩
end Go.Proofs.Ytajpjbhppjlehaa
