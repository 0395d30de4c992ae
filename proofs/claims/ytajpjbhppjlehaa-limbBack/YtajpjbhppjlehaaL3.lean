/- LimbBack: the walk. -/
import Derived.Test.YtajpjbhppjlehaaL0
import Derived.Test.YtajpjbhppjlehaaRM
import Derived.Deep.RegionHeld3
namespace Go.Proofs.Ytajpjbhppjlehaa
open Go.RowKit
set_option linter.unusedSimpArgs false
set_option linter.unusedVariables false

structure G79 (f0 f1 f2 f3 f4 f5 f6 f7 f8 f13 : Bool) (t9 t10 t11 t37 t38 t39 t40 t41 t42 t43 t44 t45 e0 e1 e2 e3 e4 e5 e6 e7 e8 e13 : Value) : Prop where
  c0 : f0 = true → t38 = e0
  c1 : f1 = true → t39 = e1
  c2 : f2 = true → t40 = e2
  c3 : f3 = true → t41 = e3
  c4 : f4 = true → t42 = e4
  c5 : f5 = true → t37 = e5
  c6 : f6 = true → t43 = e6
  c7 : f7 = true → t44 = e7
  c8 : f8 = true → t45 = e8
  c13 : f13 = true → t11 = e13
structure G710 (f0 f1 f2 f3 f4 f5 f6 f7 f8 f9 f10 f11 f12 f13 : Bool) (t4 t46 t47 t48 t49 t50 t51 t52 t53 t54 t55 t56 t57 t58 e0 e1 e2 e3 e4 e5 e6 e7 e8 e9 e10 e11 e12 e13 : Value) : Prop where
  c0 : f0 = true → t46 = e0
  c1 : f1 = true → t47 = e1
  c2 : f2 = true → t48 = e2
  c3 : f3 = true → t49 = e3
  c4 : f4 = true → t50 = e4
  c5 : f5 = true → t51 = e5
  c6 : f6 = true → t52 = e6
  c7 : f7 = true → t53 = e7
  c8 : f8 = true → t54 = e8
  c9 : f9 = true → t55 = e9
  c10 : f10 = true → t56 = e10
  c11 : f11 = true → t57 = e11
  c12 : f12 = true → t58 = e12
  c13 : f13 = true → t4 = e13
set_option maxRecDepth 100000 in
set_option maxHeartbeats 4000000 in
theorem limbBack_any (a b c d x y z t : Int) (w : World) (ha : W64 a) (hb : W64 b) (hc : W64 c) (hd : W64 d) (hx : W64 x) (hy : W64 y) (hz : W64 z) (ht : W64 t) :
    Calls Try.prog 7 #[A4 a b c d, A4 x y z t] w fun e w' => e = .returned (.bool true) ∧ Below w.heap.size w w' := by
  go_enter Try.func7, Try.ntmps7
  go_wp2_with fail
  refine (works_any _).mono ?_
  rintro en v1 ⟨rfl, hB1⟩
  have A : C4 v1 w.heap.size a b c d := C4.below (by unfold C4; simp [go_sem]) hB1 (by simp; omega)
  have X : C4 v1 (w.heap.size + 1) x y z t := C4.below (by unfold C4; simp [go_sem]) hB1 (by simp)
  have q1 : Below w.heap.size w v1 := bstep (balloc (balloc (bself w) _) _) hB1
  have s1 := hB1.size
  simp only [World.size_alloc] at s1
  clear hB1
  have Al : w.heap.size < v1.heap.size := by omega
  have Xl : (w.heap.size + 1) < v1.heap.size := by omega
  have A' := A
  obtain ⟨⟨Ac0, Ac1, Ac2, Ac3⟩, Af0, Af1, Af2, Af3⟩ := A'
  have X' := X
  obtain ⟨⟨Xc0, Xc1, Xc2, Xc3⟩, Xf0, Xf1, Xf2, Xf3⟩ := X'
  go_wp2_with fail
  refine (Add_any a b c d x y z t _ ha hb hc hd hx hy hz ht).mono ?_
  rintro en v2 ⟨rfl, hB2⟩
  have s2 := hB2.size
  have An : C4 v2 w.heap.size a b c d := A.below hB2 (by omega)
  have Xn : C4 v2 (w.heap.size + 1) x y z t := X.below hB2 (by omega)
  have q2 : Below w.heap.size w v2 := bstep q1 hB2
  clear Ac0 Af0 Ac1 Af1 Ac2 Af2 Ac3 Af3 Al Xc0 Xf0 Xc1 Xf1 Xc2 Xf2 Xc3 Xf3 Xl
  clear A X q1 hB2
  have A := An
  have X := Xn
  clear An Xn
  have Al : w.heap.size < v2.heap.size := by omega
  have Xl : (w.heap.size + 1) < v2.heap.size := by omega
  have A' := A
  obtain ⟨⟨Ac0, Ac1, Ac2, Ac3⟩, Af0, Af1, Af2, Af3⟩ := A'
  have X' := X
  obtain ⟨⟨Xc0, Xc1, Xc2, Xc3⟩, Xf0, Xf1, Xf2, Xf3⟩ := X'
  go_wp2_with fail

  refine (SubBack_any a b c d x y z t _ ha hb hc hd hx hy hz ht).mono ?_
  rintro en v3 ⟨f, rfl, hB3⟩
  have s3 := hB3.size
  simp only [World.size_alloc] at s3
  have An : C4 v3 w.heap.size a b c d := (A.alloc (by omega) _).below hB3 (by simp; omega)
  have Xn : C4 v3 (w.heap.size + 1) x y z t := (X.alloc (by omega) _).below hB3 (by simp; omega)
  have q3 : Below w.heap.size w v3 := bstep (balloc q2 _) hB3
  clear Ac0 Af0 Ac1 Af1 Ac2 Af2 Ac3 Af3 Al Xc0 Xf0 Xc1 Xf1 Xc2 Xf2 Xc3 Xf3 Xl
  clear A X q2 hB3
  have A := An
  have X := Xn
  clear An Xn
  have Al : w.heap.size < v3.heap.size := by omega
  have Xl : (w.heap.size + 1) < v3.heap.size := by omega
  have A' := A
  obtain ⟨⟨Ac0, Ac1, Ac2, Ac3⟩, Af0, Af1, Af2, Af3⟩ := A'
  have X' := X
  obtain ⟨⟨Xc0, Xc1, Xc2, Xc3⟩, Xf0, Xf1, Xf2, Xf3⟩ := X'
  by_cases hM : V x y z t = 0
  · have he : eq4 x y z t 0 0 0 0 = true := (eq4_V x y z t 0 0 0 0 hx hy hz ht W_0 W_0 W_0 W_0).2 hM
    rw [eq4_iff] at he
    obtain ⟨rfl, rfl, rfl, rfl⟩ := he
    go_wp2_with fail
    refine (Mul_any a b c d 0 0 0 0 _ ha hb hc hd W_0 W_0 W_0 W_0).mono ?_
    rintro en v4 ⟨rfl, hB4⟩
    rw [hM, Int.mul_zero, WV_of 0 0 0 0 0 0 0 0 0 W_0 W_0 W_0 W_0 W_0 W_0 W_0 W_0 (by simp [V])]
    have q4 : Below w.heap.size w v4 := bstep (balloc q3 _) hB4
    clear hB4 q3
    go_wp2
    go_ret
    exact ⟨rfl, q4⟩
  · have he : eq4 x y z t 0 0 0 0 = false := by
      rw [Bool.eq_false_iff]; intro hq
      exact hM ((eq4_V x y z t 0 0 0 0 hx hy hz ht W_0 W_0 W_0 W_0).1 hq)
    go_wp2_with fail

    have mul : ∀ u, _ := fun u => Mul_any a b c d x y z t u ha hb hc hd hx hy hz ht
    have div : ∀ u, _ := fun u => DivBack_any a b c d x y z t u ha hb hc hd hx hy hz ht hM
    have kA : CL (v3.alloc (.cells #[.int .u64 a, .int .u64 b, .int .u64 c, .int .u64 d] 24)) w.heap.size [a, b, c, d] := (CL4 A).alloc Al _
    have kX : CL (v3.alloc (.cells #[.int .u64 a, .int .u64 b, .int .u64 c, .int .u64 d] 24)) (w.heap.size + 1) [x, y, z, t] := (CL4 X).alloc Xl _
    clear A X Ac0 Ac1 Ac2 Ac3 Af0 Af1 Af2 Af3 Xc0 Xc1 Xc2 Xc3 Xf0 Xf1 Xf2 Xf3
    refine wp_region_inv (fun fd a' u => ∃ t9 t10 t11 t37 t38 t39 t40 t41 t42 t43 t44 t45, a' = ⟨((A4 a b c d) :: (A4 x y z t) :: (Value.pointer (some { block := w.heap.size, off := 0 })) :: (Value.pointer (some { block := w.heap.size + 1, off := 0 })) :: (Value.bool false) :: (Value.pointer (some { block := v2.heap.size, off := 0 })) :: (Value.bool (D4 (V a b c d + V x y z t) == 1)) :: (Value.pointer (some { block := v3.heap.size, off := 0 })) :: (Value.bool f) :: t9 :: t10 :: t11 :: (Value.bool true) :: (Value.bool false) :: (Value.tuple #[NV (V a b c d + V x y z t), Value.bool (D4 (V a b c d + V x y z t) == 1)]) :: (Value.agg #[Value.int IntKind.u64 a, Value.int IntKind.u64 b, Value.int IntKind.u64 c, Value.int IntKind.u64 d]) :: (Value.agg #[Value.int IntKind.u64 x, Value.int IntKind.u64 y, Value.int IntKind.u64 z, Value.int IntKind.u64 t]) :: (Value.tuple #[NV (V a b c d + V x y z t), Value.bool (D4 (V a b c d + V x y z t) == 1)]) :: (NV (V a b c d + V x y z t)) :: (Value.bool (D4 (V a b c d + V x y z t) == 1)) :: (Value.tuple #[A4 a b c d, Value.bool f]) :: (Value.agg #[Value.int IntKind.u64 (D0 (V a b c d + V x y z t)), Value.int IntKind.u64 (D1 (V a b c d + V x y z t)), Value.int IntKind.u64 (D2 (V a b c d + V x y z t)), Value.int IntKind.u64 (D3 (V a b c d + V x y z t))]) :: (Value.agg #[Value.int IntKind.u64 x, Value.int IntKind.u64 y, Value.int IntKind.u64 z, Value.int IntKind.u64 t]) :: (Value.tuple #[A4 a b c d, Value.bool f]) :: (A4 a b c d) :: (Value.bool f) :: (Value.agg #[Value.int IntKind.u64 a, Value.int IntKind.u64 b, Value.int IntKind.u64 c, Value.int IntKind.u64 d]) :: (Value.agg #[Value.int IntKind.u64 a, Value.int IntKind.u64 b, Value.int IntKind.u64 c, Value.int IntKind.u64 d]) :: (Value.bool false) :: (Value.agg #[Value.int IntKind.u64 x, Value.int IntKind.u64 y, Value.int IntKind.u64 z, Value.int IntKind.u64 t]) :: (Value.agg #[Value.int IntKind.u64 0, Value.int IntKind.u64 0, Value.int IntKind.u64 0, Value.int IntKind.u64 0]) :: (Value.bool false) :: undef :: undef :: undef :: undef :: undef :: t37 :: t38 :: t39 :: t40 :: t41 :: t42 :: t43 :: t44 :: t45 :: undef :: undef :: undef :: undef :: undef :: undef :: undef :: undef :: undef :: undef :: undef :: undef :: undef :: []).toArray, []⟩ ∧ M2 w (v3.heap.size) [(w.heap.size, [a, b, c, d]), (w.heap.size + 1, [x, y, z, t])] [a, b, c, d, 0, 0, 0, 0] [0, 0, 0, 0] (fd 9) (fd 10) (fd 11) (fd 12) t9 t10 u ∧ G79 (fd 0) (fd 1) (fd 2) (fd 3) (fd 4) (fd 5) (fd 6) (fd 7) (fd 8) (fd 13) t9 t10 t11 t37 t38 t39 t40 t41 t42 t43 t44 t45 (A4 a b c d) (A4 x y z t) (WV (V a b c d * V x y z t)) (A4 x y z t) ((.tuple #[A8 a b c d 0 0 0 0, A4 0 0 0 0, .int .i64 0])) ((.tuple #[A8 a b c d 0 0 0 0, A4 0 0 0 0, .int .i64 0])) (A8 a b c d 0 0 0 0) (A4 0 0 0 0) (.int .i64 0) (.int .i64 0)) (by kernel_rfl) (by kernel_rfl) ?_ ?_ ?_
    · refine ⟨undef, undef, undef, undef, undef, undef, undef, undef, undef, undef, undef, undef, rfl, M2.start (balloc q3 _).drew (by omega) (by simp) (by intro q hq; simp only [List.mem_cons, List.not_mem_nil, or_false] at hq; rcases hq with rfl | rfl; exact ⟨by omega, kA⟩; exact ⟨by omega, kX⟩), ?_⟩
      exact { c0 := fun e => (by cases e), c1 := fun e => (by cases e), c2 := fun e => (by cases e), c3 := fun e => (by cases e), c4 := fun e => (by cases e), c5 := fun e => (by cases e), c6 := fun e => (by cases e), c7 := fun e => (by cases e), c8 := fun e => (by cases e), c13 := fun e => (by cases e) }
    · rintro fd a' u i o ⟨t9, t10, t11, t37, t38, t39, t40, t41, t42, t43, t44, t45, rfl, hM, hG⟩ ho hfi hdep
      have il : i < 14 := (Array.getElem?_eq_some_iff.1 ho).1
      have ix : i = 0 ∨ i = 1 ∨ i = 2 ∨ i = 3 ∨ i = 4 ∨ i = 5 ∨ i = 6 ∨ i = 7 ∨ i = 8 ∨ i = 9 ∨ i = 10 ∨ i = 11 ∨ i = 12 ∨ i = 13 := by omega
      rcases ix with rfl | rfl | rfl | rfl | rfl | rfl | rfl | rfl | rfl | rfl | rfl | rfl | rfl | rfl
      · cases ho
        refine wpOp_step rfl (fun K hK => ?_)
        have kk := hM.kept _ _ (show (w.heap.size, [a, b, c, d]) ∈ _ by simp)
        have k0 := (kk 0 _ rfl).1
        have k1 := (kk 1 _ rfl).1
        have k2 := (kk 2 _ rfl).1
        have k3 := (kk 3 _ rfl).1
        clear kk
        go_simp
        exact hK _ _ ⟨_, _, _, _, _, _, _, _, _, _, _, _, rfl, hM, { hG with c0 := fun _ => rfl }⟩
      · cases ho
        refine wpOp_step rfl (fun K hK => ?_)
        have kk := hM.kept _ _ (show (w.heap.size + 1, [x, y, z, t]) ∈ _ by simp)
        have k0 := (kk 0 _ rfl).1
        have k1 := (kk 1 _ rfl).1
        have k2 := (kk 2 _ rfl).1
        have k3 := (kk 3 _ rfl).1
        clear kk
        go_simp
        exact hK _ _ ⟨_, _, _, _, _, _, _, _, _, _, _, _, rfl, hM, { hG with c1 := fun _ => rfl }⟩
      · cases ho
        refine wpOp_step rfl (fun K hK => ?_)
        have y0 : fd 0 = true := hdep ⟨0, .data⟩ (by simp) rfl
        have y1 : fd 1 = true := hdep ⟨1, .data⟩ (by simp) rfl
        obtain rfl := hG.c0 y0
        obtain rfl := hG.c1 y1
        go_simp
        refine (mul u).mono ?_
        rintro en v ⟨rfl, hB⟩
        have hM' := hM.call hB
        clear hB
        try simp only [Act.put, List.setIfInBounds_toArray, List.set_cons_zero, List.set_cons_succ]
        exact hK _ _ ⟨_, _, _, _, _, _, _, _, _, _, _, _, rfl, hM', { hG with c2 := fun _ => rfl }⟩
      · cases ho
        refine wpOp_step rfl (fun K hK => ?_)
        have kk := hM.kept _ _ (show (w.heap.size + 1, [x, y, z, t]) ∈ _ by simp)
        have k0 := (kk 0 _ rfl).1
        have k1 := (kk 1 _ rfl).1
        have k2 := (kk 2 _ rfl).1
        have k3 := (kk 3 _ rfl).1
        clear kk
        go_simp
        exact hK _ _ ⟨_, _, _, _, _, _, _, _, _, _, _, _, rfl, hM, { hG with c3 := fun _ => rfl }⟩
      · cases ho
        refine wpOp_step rfl (fun K hK => ?_)
        have y2 : fd 2 = true := hdep ⟨2, .data⟩ (by simp) rfl
        have y3 : fd 3 = true := hdep ⟨3, .data⟩ (by simp) rfl
        obtain rfl := hG.c2 y2
        obtain rfl := hG.c3 y3
        go_simp
        refine (div u).mono ?_
        rintro en v ⟨rfl, hB⟩
        have hM' := hM.call hB
        clear hB
        try simp only [Act.put, List.setIfInBounds_toArray, List.set_cons_zero, List.set_cons_succ]
        exact hK _ _ ⟨_, _, _, _, _, _, _, _, _, _, _, _, rfl, hM', { hG with c4 := fun _ => rfl }⟩
      · cases ho
        refine wpOp_step rfl (fun K hK => ?_)
        have y4 : fd 4 = true := hdep ⟨4, .data⟩ (by simp) rfl
        obtain rfl := hG.c4 y4
        go_simp
        exact hK _ _ ⟨_, _, _, _, _, _, _, _, _, _, _, _, rfl, hM, { hG with c5 := fun _ => rfl }⟩
      · cases ho
        refine wpOp_step rfl (fun K hK => ?_)
        have y5 : fd 5 = true := hdep ⟨5, .data⟩ (by simp) rfl
        obtain rfl := hG.c5 y5
        go_simp
        exact hK _ _ ⟨_, _, _, _, _, _, _, _, _, _, _, _, rfl, hM, { hG with c6 := fun _ => rfl }⟩
      · cases ho
        refine wpOp_step rfl (fun K hK => ?_)
        have y5 : fd 5 = true := hdep ⟨5, .data⟩ (by simp) rfl
        obtain rfl := hG.c5 y5
        go_simp
        exact hK _ _ ⟨_, _, _, _, _, _, _, _, _, _, _, _, rfl, hM, { hG with c7 := fun _ => rfl }⟩
      · cases ho
        refine wpOp_step rfl (fun K hK => ?_)
        have y5 : fd 5 = true := hdep ⟨5, .data⟩ (by simp) rfl
        obtain rfl := hG.c5 y5
        go_simp
        exact hK _ _ ⟨_, _, _, _, _, _, _, _, _, _, _, _, rfl, hM, { hG with c8 := fun _ => rfl }⟩
      · cases ho
        refine wpOp_step rfl (fun K hK => ?_)
        go_simp
        exact hK _ _ ⟨_, _, _, _, _, _, _, _, _, _, _, _, rfl, hM.new8 hfi _ rfl _, { hG with }⟩
      · cases ho
        refine wpOp_step rfl (fun K hK => ?_)
        go_simp
        exact hK _ _ ⟨_, _, _, _, _, _, _, _, _, _, _, _, rfl, hM.new9 hfi _ rfl _, { hG with }⟩
      · cases ho
        refine wpOp_step rfl (fun K hK => ?_)
        have y6 : fd 6 = true := hdep ⟨6, .data⟩ (by simp) rfl
        obtain rfl := hG.c6 y6
        have yy : fd 9 = true := hdep ⟨9, .data⟩ (by simp) rfl
        obtain ⟨bb, rfl, b1, b2, b3, b4⟩ := hM.a8 yy
        try rw [if_pos (by rfl)]
        refine wp_store_mid 29 _ _ rfl bb 0 (([a, b, c, d, 0, 0, 0, 0] : List Int).map (Value.int .u64)).toArray rfl rfl b3 (by kernel_rfl) (all_oneCell_toArray (word_one _)) ?_
        simp only [Act.put, List.setIfInBounds_toArray, List.set_cons_zero, List.set_cons_succ]
        exact hK _ _ ⟨_, _, _, _, _, _, _, _, _, _, _, _, rfl, hM.put8 yy, { hG with }⟩
      · cases ho
        refine wpOp_step rfl (fun K hK => ?_)
        have y7 : fd 7 = true := hdep ⟨7, .data⟩ (by simp) rfl
        obtain rfl := hG.c7 y7
        have yy : fd 10 = true := hdep ⟨10, .data⟩ (by simp) rfl
        obtain ⟨bb, rfl, b1, b2, b3, b4⟩ := hM.a9 yy
        try rw [if_pos (by rfl)]
        refine wp_store_mid 24 _ _ rfl bb 0 (([0, 0, 0, 0] : List Int).map (Value.int .u64)).toArray rfl rfl b3 (by kernel_rfl) (all_oneCell_toArray (word_one _)) ?_
        simp only [Act.put, List.setIfInBounds_toArray, List.set_cons_zero, List.set_cons_succ]
        exact hK _ _ ⟨_, _, _, _, _, _, _, _, _, _, _, _, rfl, hM.put9 yy, { hG with }⟩
      · cases ho
        refine wpOp_step rfl (fun K hK => ?_)
        have y8 : fd 8 = true := hdep ⟨8, .data⟩ (by simp) rfl
        obtain rfl := hG.c8 y8
        go_simp
        exact hK _ _ ⟨_, _, _, _, _, _, _, _, _, _, _, _, rfl, hM, { hG with c13 := fun _ => rfl }⟩
    · rintro fd a' u ⟨t9, t10, t11, t37, t38, t39, t40, t41, t42, t43, t44, t45, rfl, hM, hG⟩ hall
      obtain rfl := hG.c0 (hall 0 (by decide))
      obtain rfl := hG.c1 (hall 1 (by decide))
      obtain rfl := hG.c2 (hall 2 (by decide))
      obtain rfl := hG.c3 (hall 3 (by decide))
      obtain rfl := hG.c4 (hall 4 (by decide))
      obtain rfl := hG.c5 (hall 5 (by decide))
      obtain rfl := hG.c6 (hall 6 (by decide))
      obtain rfl := hG.c7 (hall 7 (by decide))
      obtain rfl := hG.c8 (hall 8 (by decide))
      obtain rfl := hG.c13 (hall 13 (by decide))
      obtain ⟨b8, rfl, p81, p82, p83, p84⟩ := hM.a8 (hall 9 (by decide))
      have m8 := p84 (hall 11 (by decide))
      obtain ⟨b9, rfl, p91, p92, p93, p94⟩ := hM.a9 (hall 10 (by decide))
      have m9 := p94 (hall 12 (by decide))
      have n1 := hM.kept _ _ (show (w.heap.size, [a, b, c, d]) ∈ _ by simp)
      have q5 := hM.bel
      have z5 := hM.sz
      clear hM hG hall kA kX mul div q3 he p83 p84 p93 p94
      go_wp2_with fail
      obtain ⟨bs, hbs⟩ : ∃ bs, bs + 1 = u.heap.size := ⟨u.heap.size - 1, by omega⟩
      have wid : ∀ u, _ := fun u => Widen_any a b c d u
      refine wp_region_inv (fun fd a' u => ∃ t4 t46 t47 t48 t49 t50 t51 t52 t53 t54 t55 t56 t57 t58, a' = ⟨((A4 a b c d) :: (A4 x y z t) :: (Value.pointer (some { block := w.heap.size, off := 0 })) :: (Value.pointer (some { block := w.heap.size + 1, off := 0 })) :: t4 :: (Value.pointer (some { block := v2.heap.size, off := 0 })) :: (Value.bool (D4 (V a b c d + V x y z t) == 1)) :: (Value.pointer (some { block := v3.heap.size, off := 0 })) :: (Value.bool f) :: (Value.pointer (some { block := b8, off := 0 })) :: (Value.pointer (some { block := b9, off := 0 })) :: (Value.int IntKind.i64 0) :: (Value.bool true) :: (Value.bool false) :: (Value.tuple #[NV (V a b c d + V x y z t), Value.bool (D4 (V a b c d + V x y z t) == 1)]) :: (Value.agg #[Value.int IntKind.u64 a, Value.int IntKind.u64 b, Value.int IntKind.u64 c, Value.int IntKind.u64 d]) :: (Value.agg #[Value.int IntKind.u64 x, Value.int IntKind.u64 y, Value.int IntKind.u64 z, Value.int IntKind.u64 t]) :: (Value.tuple #[NV (V a b c d + V x y z t), Value.bool (D4 (V a b c d + V x y z t) == 1)]) :: (NV (V a b c d + V x y z t)) :: (Value.bool (D4 (V a b c d + V x y z t) == 1)) :: (Value.tuple #[A4 a b c d, Value.bool f]) :: (Value.agg #[Value.int IntKind.u64 (D0 (V a b c d + V x y z t)), Value.int IntKind.u64 (D1 (V a b c d + V x y z t)), Value.int IntKind.u64 (D2 (V a b c d + V x y z t)), Value.int IntKind.u64 (D3 (V a b c d + V x y z t))]) :: (Value.agg #[Value.int IntKind.u64 x, Value.int IntKind.u64 y, Value.int IntKind.u64 z, Value.int IntKind.u64 t]) :: (Value.tuple #[A4 a b c d, Value.bool f]) :: (A4 a b c d) :: (Value.bool f) :: (Value.agg #[Value.int IntKind.u64 a, Value.int IntKind.u64 b, Value.int IntKind.u64 c, Value.int IntKind.u64 d]) :: (Value.agg #[Value.int IntKind.u64 a, Value.int IntKind.u64 b, Value.int IntKind.u64 c, Value.int IntKind.u64 d]) :: (Value.bool false) :: (Value.agg #[Value.int IntKind.u64 x, Value.int IntKind.u64 y, Value.int IntKind.u64 z, Value.int IntKind.u64 t]) :: (Value.agg #[Value.int IntKind.u64 0, Value.int IntKind.u64 0, Value.int IntKind.u64 0, Value.int IntKind.u64 0]) :: (Value.bool false) :: undef :: undef :: undef :: undef :: undef :: (Value.tuple #[A8 a b c d 0 0 0 0, A4 0 0 0 0, Value.int IntKind.i64 0]) :: (A4 a b c d) :: (A4 x y z t) :: (WV (V a b c d * V x y z t)) :: (A4 x y z t) :: (Value.tuple #[A8 a b c d 0 0 0 0, A4 0 0 0 0, Value.int IntKind.i64 0]) :: (A8 a b c d 0 0 0 0) :: (A4 0 0 0 0) :: (Value.int IntKind.i64 0) :: t46 :: t47 :: t48 :: t49 :: t50 :: t51 :: t52 :: t53 :: t54 :: t55 :: t56 :: t57 :: t58 :: []).toArray, []⟩ ∧ M2 w (bs) [(w.heap.size, [a, b, c, d]), (b8, [a, b, c, d, 0, 0, 0, 0]), (b9, [0, 0, 0, 0])] [] [] false false false false undef undef u ∧ G710 (fd 0) (fd 1) (fd 2) (fd 3) (fd 4) (fd 5) (fd 6) (fd 7) (fd 8) (fd 9) (fd 10) (fd 11) (fd 12) (fd 13) t4 t46 t47 t48 t49 t50 t51 t52 t53 t54 t55 t56 t57 t58 (.int .i64 0) (.bool true) (.bool true) (A4 0 0 0 0) (A4 0 0 0 0) (.bool true) (.bool true) (.bool true) (A8 a b c d 0 0 0 0) (A4 a b c d) (A8 a b c d 0 0 0 0) (.bool true) (.bool true) (.bool true)) (by kernel_rfl) (by kernel_rfl) ?_ ?_ ?_
      · refine ⟨(Value.bool false), undef, undef, undef, undef, undef, undef, undef, undef, undef, undef, undef, undef, undef, rfl, M2.start q5.drew (by omega) (by simp; omega) (by intro q hq; simp only [List.mem_cons, List.not_mem_nil, or_false] at hq; rcases hq with rfl | rfl | rfl; exact ⟨by omega, n1⟩; exact ⟨by omega, m8⟩; exact ⟨by omega, m9⟩), ?_⟩
        exact { c0 := fun e => (by cases e), c1 := fun e => (by cases e), c2 := fun e => (by cases e), c3 := fun e => (by cases e), c4 := fun e => (by cases e), c5 := fun e => (by cases e), c6 := fun e => (by cases e), c7 := fun e => (by cases e), c8 := fun e => (by cases e), c9 := fun e => (by cases e), c10 := fun e => (by cases e), c11 := fun e => (by cases e), c12 := fun e => (by cases e), c13 := fun e => (by cases e) }
      · rintro fd a' u i o ⟨t4, t46, t47, t48, t49, t50, t51, t52, t53, t54, t55, t56, t57, t58, rfl, hM, hG⟩ ho hfi hdep
        have il : i < 14 := (Array.getElem?_eq_some_iff.1 ho).1
        have ix : i = 0 ∨ i = 1 ∨ i = 2 ∨ i = 3 ∨ i = 4 ∨ i = 5 ∨ i = 6 ∨ i = 7 ∨ i = 8 ∨ i = 9 ∨ i = 10 ∨ i = 11 ∨ i = 12 ∨ i = 13 := by omega
        rcases ix with rfl | rfl | rfl | rfl | rfl | rfl | rfl | rfl | rfl | rfl | rfl | rfl | rfl | rfl
        · cases ho
          refine wpOp_step rfl (fun K hK => ?_)
          go_simp
          exact hK _ _ ⟨_, _, _, _, _, _, _, _, _, _, _, _, _, _, rfl, hM, { hG with c0 := fun _ => rfl }⟩
        · cases ho
          refine wpOp_step rfl (fun K hK => ?_)
          have y0 : fd 0 = true := hdep ⟨0, .data⟩ (by simp) rfl
          obtain rfl := hG.c0 y0
          go_simp
          exact hK _ _ ⟨_, _, _, _, _, _, _, _, _, _, _, _, _, _, rfl, hM, { hG with c1 := fun _ => rfl }⟩
        · cases ho
          refine wpOp_step rfl (fun K hK => ?_)
          have y1 : fd 1 = true := hdep ⟨1, .data⟩ (by simp) rfl
          obtain rfl := hG.c1 y1
          go_simp
          exact hK _ _ ⟨_, _, _, _, _, _, _, _, _, _, _, _, _, _, rfl, hM, { hG with c2 := fun _ => rfl }⟩
        · cases ho
          refine wpOp_step rfl (fun K hK => ?_)
          have y2 : fd 2 = true := hdep ⟨2, .guard⟩ (by simp) rfl
          obtain rfl := hG.c2 y2
          have kk := hM.kept _ _ (show (b9, [0, 0, 0, 0]) ∈ _ by simp)
          have k0 := (kk 0 _ rfl).1
          have k1 := (kk 1 _ rfl).1
          have k2 := (kk 2 _ rfl).1
          have k3 := (kk 3 _ rfl).1
          clear kk
          go_simp
          exact hK _ _ ⟨_, _, _, _, _, _, _, _, _, _, _, _, _, _, rfl, hM, { hG with c3 := fun _ => rfl }⟩
        · cases ho
          refine wpOp_step rfl (fun K hK => ?_)
          have y2 : fd 2 = true := hdep ⟨2, .guard⟩ (by simp) rfl
          obtain rfl := hG.c2 y2
          go_simp
          exact hK _ _ ⟨_, _, _, _, _, _, _, _, _, _, _, _, _, _, rfl, hM, { hG with c4 := fun _ => rfl }⟩
        · cases ho
          refine wpOp_step rfl (fun K hK => ?_)
          have y3 : fd 3 = true := hdep ⟨3, .data⟩ (by simp) rfl
          have y4 : fd 4 = true := hdep ⟨4, .data⟩ (by simp) rfl
          have y2 : fd 2 = true := hdep ⟨2, .guard⟩ (by simp) rfl
          obtain rfl := hG.c3 y3
          obtain rfl := hG.c4 y4
          obtain rfl := hG.c2 y2
          go_simp
          exact hK _ _ ⟨_, _, _, _, _, _, _, _, _, _, _, _, _, _, rfl, hM, { hG with c5 := fun _ => rfl }⟩
        · cases ho
          refine wpOp_step rfl (fun K hK => ?_)
          have y2 : fd 2 = true := hdep ⟨2, .data⟩ (by simp) rfl
          have y5 : fd 5 = true := hdep ⟨5, .data⟩ (by simp) rfl
          obtain rfl := hG.c2 y2
          obtain rfl := hG.c5 y5
          go_simp
          exact hK _ _ ⟨_, _, _, _, _, _, _, _, _, _, _, _, _, _, rfl, hM, { hG with c6 := fun _ => rfl }⟩
        · cases ho
          refine wpOp_step rfl (fun K hK => ?_)
          have y6 : fd 6 = true := hdep ⟨6, .data⟩ (by simp) rfl
          obtain rfl := hG.c6 y6
          go_simp
          exact hK _ _ ⟨_, _, _, _, _, _, _, _, _, _, _, _, _, _, rfl, hM, { hG with c7 := fun _ => rfl }⟩
        · cases ho
          refine wpOp_step rfl (fun K hK => ?_)
          have y7 : fd 7 = true := hdep ⟨7, .guard⟩ (by simp) rfl
          obtain rfl := hG.c7 y7
          have kk := hM.kept _ _ (show (b8, [a, b, c, d, 0, 0, 0, 0]) ∈ _ by simp)
          have k0 := (kk 0 _ rfl).1
          have k1 := (kk 1 _ rfl).1
          have k2 := (kk 2 _ rfl).1
          have k3 := (kk 3 _ rfl).1
          have k4 := (kk 4 _ rfl).1
          have k5 := (kk 5 _ rfl).1
          have k6 := (kk 6 _ rfl).1
          have k7 := (kk 7 _ rfl).1
          clear kk
          go_simp
          exact hK _ _ ⟨_, _, _, _, _, _, _, _, _, _, _, _, _, _, rfl, hM, { hG with c8 := fun _ => rfl }⟩
        · cases ho
          refine wpOp_step rfl (fun K hK => ?_)
          have y7 : fd 7 = true := hdep ⟨7, .guard⟩ (by simp) rfl
          obtain rfl := hG.c7 y7
          have kk := hM.kept _ _ (show (w.heap.size, [a, b, c, d]) ∈ _ by simp)
          have k0 := (kk 0 _ rfl).1
          have k1 := (kk 1 _ rfl).1
          have k2 := (kk 2 _ rfl).1
          have k3 := (kk 3 _ rfl).1
          clear kk
          go_simp
          exact hK _ _ ⟨_, _, _, _, _, _, _, _, _, _, _, _, _, _, rfl, hM, { hG with c9 := fun _ => rfl }⟩
        · cases ho
          refine wpOp_step rfl (fun K hK => ?_)
          have y9 : fd 9 = true := hdep ⟨9, .data⟩ (by simp) rfl
          have y7 : fd 7 = true := hdep ⟨7, .guard⟩ (by simp) rfl
          obtain rfl := hG.c9 y9
          obtain rfl := hG.c7 y7
          go_simp
          refine (wid u).mono ?_
          rintro en v ⟨rfl, hB⟩
          have hM' := hM.call hB
          clear hB
          try simp only [Act.put, List.setIfInBounds_toArray, List.set_cons_zero, List.set_cons_succ]
          exact hK _ _ ⟨_, _, _, _, _, _, _, _, _, _, _, _, _, _, rfl, hM', { hG with c10 := fun _ => rfl }⟩
        · cases ho
          refine wpOp_step rfl (fun K hK => ?_)
          have y8 : fd 8 = true := hdep ⟨8, .data⟩ (by simp) rfl
          have y10 : fd 10 = true := hdep ⟨10, .data⟩ (by simp) rfl
          have y7 : fd 7 = true := hdep ⟨7, .guard⟩ (by simp) rfl
          obtain rfl := hG.c8 y8
          obtain rfl := hG.c10 y10
          obtain rfl := hG.c7 y7
          go_simp
          exact hK _ _ ⟨_, _, _, _, _, _, _, _, _, _, _, _, _, _, rfl, hM, { hG with c11 := fun _ => rfl }⟩
        · cases ho
          refine wpOp_step rfl (fun K hK => ?_)
          have y7 : fd 7 = true := hdep ⟨7, .data⟩ (by simp) rfl
          have y11 : fd 11 = true := hdep ⟨11, .data⟩ (by simp) rfl
          obtain rfl := hG.c7 y7
          obtain rfl := hG.c11 y11
          go_simp
          exact hK _ _ ⟨_, _, _, _, _, _, _, _, _, _, _, _, _, _, rfl, hM, { hG with c12 := fun _ => rfl }⟩
        · cases ho
          refine wpOp_step rfl (fun K hK => ?_)
          have y12 : fd 12 = true := hdep ⟨12, .data⟩ (by simp) rfl
          obtain rfl := hG.c12 y12
          go_simp
          exact hK _ _ ⟨_, _, _, _, _, _, _, _, _, _, _, _, _, _, rfl, hM, { hG with c13 := fun _ => rfl }⟩
      · rintro fd a' u ⟨t4, t46, t47, t48, t49, t50, t51, t52, t53, t54, t55, t56, t57, t58, rfl, hM, hG⟩ hall
        obtain rfl := hG.c0 (hall 0 (by decide))
        obtain rfl := hG.c1 (hall 1 (by decide))
        obtain rfl := hG.c2 (hall 2 (by decide))
        obtain rfl := hG.c3 (hall 3 (by decide))
        obtain rfl := hG.c4 (hall 4 (by decide))
        obtain rfl := hG.c5 (hall 5 (by decide))
        obtain rfl := hG.c6 (hall 6 (by decide))
        obtain rfl := hG.c7 (hall 7 (by decide))
        obtain rfl := hG.c8 (hall 8 (by decide))
        obtain rfl := hG.c9 (hall 9 (by decide))
        obtain rfl := hG.c10 (hall 10 (by decide))
        obtain rfl := hG.c11 (hall 11 (by decide))
        obtain rfl := hG.c12 (hall 12 (by decide))
        obtain rfl := hG.c13 (hall 13 (by decide))
        have q6 := hM.bel
        clear hM hG hall
        go_wp2
        go_ret
        exact ⟨rfl, q6⟩
end Go.Proofs.Ytajpjbhppjlehaa
