/- Numbers modulo one: lifted, powerOfOdd. -/
import Derived.Test.YtkpnjmfndgfogaaMO3
import Derived.Test.YtkpnjmfndgfogaaMO4
import Derived.Test.YtkpnjmfndgfogaaEU2
import Derived.Test.YtkpnjmfndgfogaaL0
namespace Go.Proofs.Ytkpnjmfndgfogaa
open Go.RowKit
set_option linter.unusedVariables false
set_option linter.unusedSimpArgs false
set_option maxRecDepth 100000 in
set_option maxHeartbeats 2000000 in
theorem mlift_any (a b c d : Int) (w : World) :
    Calls Try.prog 105 #[A4 a b c d] w fun e w' => e = .returned (A8 0 0 0 0 a b c d) ∧ Below w.heap.size w w' := by
  have hcp : (Builtin.copy_ #[92, 92] 3 #[.slice (some ⟨w.heap.size + 1 + 1, 4, none⟩) 4 4, .slice (some ⟨w.heap.size, 0, none⟩) 4 4]).run Try.prog
      (((w.alloc (.cells #[.int .u64 a, .int .u64 b, .int .u64 c, .int .u64 d] 25)).alloc (.cells #[.int .u64 0, .int .u64 0, .int .u64 0, .int .u64 0, .int .u64 0, .int .u64 0, .int .u64 0, .int .u64 0] 61)).alloc (.cells #[.int .u64 0, .int .u64 0, .int .u64 0, .int .u64 0, .int .u64 0, .int .u64 0, .int .u64 0, .int .u64 0] 61)).drew =
      .ok (.int .i64 4) (((w.alloc (.cells #[.int .u64 a, .int .u64 b, .int .u64 c, .int .u64 d] 25)).alloc (.cells #[.int .u64 0, .int .u64 0, .int .u64 0, .int .u64 0, .int .u64 0, .int .u64 0, .int .u64 0, .int .u64 0] 61)).alloc (.cells #[.int .u64 0, .int .u64 0, .int .u64 0, .int .u64 0, .int .u64 a, .int .u64 b, .int .u64 c, .int .u64 d] 61)).drew := by
    rw [run_copy_cells _ 92 92 3 23 _ 4 4 4 _ 4 4 [.int .u64 a, .int .u64 b, .int .u64 c, .int .u64 d] Try.underlying92 (by kernel_rfl) rfl ?h1 ?h2 ?h3 ?h4]
    case h1 =>
      intro j v hj
      match j, hj with
      | 0, hj => simp at hj; subst hj; simp [Addr.add, go_sem]
      | 1, hj => simp at hj; subst hj; simp [Addr.add, go_sem]
      | 2, hj => simp at hj; subst hj; simp [Addr.add, go_sem]
      | 3, hj => simp at hj; subst hj; simp [Addr.add, go_sem]
    case h2 =>
      intro j hj
      have hj' : j = 0 ∨ j = 1 ∨ j = 2 ∨ j = 3 := by simp at hj; omega
      rcases hj' with rfl | rfl | rfl | rfl <;> simp [go_sem]
    case h3 =>
      intro j hj
      have hj' : j = 0 ∨ j = 1 ∨ j = 2 ∨ j = 3 := by simp at hj; omega
      rcases hj' with rfl | rfl | rfl | rfl <;> simp [go_sem]
    case h4 => intro v hv; simp at hv; rcases hv with rfl | rfl | rfl | rfl <;> rfl
    simp [World.setCells, go_sem, goInt]
  go_enter Try.func105, Try.ntmps105
  go_wp2
  go_region
  go_wp2
  refine bodyPost_ret (v := A8 0 0 0 0 a b c d) (by simp [results, Try.results105, go_sem]) rfl ⟨rfl, ?_⟩
  go_grown
theorem nlift (n : Int) (w : World) (hn : In n) : Calls Try.prog 105 #[NV n] w fun e w' => e = .returned (WV (n * 115792089237316195423570985008687907853269984665640564039457584007913129639936)) ∧ Below w.heap.size w w' := by
  have e : WV (n * 115792089237316195423570985008687907853269984665640564039457584007913129639936) = A8 0 0 0 0 (D0 n) (D1 n) (D2 n) (D3 n) :=
    WV_of (n * 115792089237316195423570985008687907853269984665640564039457584007913129639936) 0 0 0 0 (D0 n) (D1 n) (D2 n) (D3 n) W_0 W_0 W_0 W_0 (W_D0 n) (W_D1 n) (W_D2 n) (W_D3 n) (by rw [V_In hn]; simp [V])
  rw [e]; exact mlift_any _ _ _ _ w
theorem InW_lift {n : Int} (h : In n) : InW (n * 115792089237316195423570985008687907853269984665640564039457584007913129639936) := ⟨by have := h.1; omega, by have := h.2; omega⟩
section
variable {P : Program} {o : Oper} {a : Act} {w : World} {K : Act → World → Prop} {Q : Exit → Act → World → Prop}
theorem wp_build {T : TypeId} {parts : List (Nat × Operand)} {vps : List (Nat × Value)} {v : Value} (ho : o.op = .build T parts.toArray) (hp : parts.map (fun (i, x) => (i, a.eval x)) = vps)
    (hr : (Instr.build T vps.toArray).run P w = .ok v w) (hk : K (a.put o.dst v) w) : o.wp P a w K Q :=
  wp_val (by
    unfold execOp; rw [ho]
    show Sem.run P (do pure (Next.value (← Instr.build T (parts.toArray.map fun (i, x) => (i, a.eval x))))) w = _
    rw [List.map_toArray, hp, Sem.run_bind, hr, Result.andThen_ok, Sem.run_pure]) hk
end
theorem bd_odd (m0 m1 m2 m3 c : Int) (w : World) : (Instr.build 118 [(0, A4 m0 m1 m2 m3), (1, .int .u64 c)].toArray).run Try.prog w = .ok (.agg #[.int .u64 m0, .int .u64 m1, .int .u64 m2, .int .u64 m3, .int .u64 c]) w := by kernel_rfl
theorem al_mod_oddModulus (w : World) : (Instr.alloc 118 true (.tuple #[])).run Try.prog w = .ok (.pointer (some ⟨w.heap.size, 0, none⟩)) (w.alloc (.cells L05.toArray 118)) := by kernel_rfl
theorem info_mod_oddModulus : (Try.prog.info? 118).map (·.size) = some 5 := by kernel_rfl
theorem ent_prod (vs : Array Value) (w : World) : (callFunc 106 vs).run Try.prog w = .ok (.enter 106 vs) w := by kernel_rfl
theorem minv_B (n : Int) (w : World) (hn : W64 n) : Calls Try.prog 104 #[.int .u64 n] w fun e w' => e = .returned (.int .u64 (mi n)) ∧ Below w.heap.size w w' := by
  refine (minv n w hn).mono ?_
  rintro e w' ⟨rfl, rfl⟩
  exact ⟨rfl, Below.refl _ _⟩
/-- Powers that have a factor too much. -/
def pk (a m : Int) (k : Nat) : Int := a ^ k * 115792089237316195423570985008687907853269984665640564039457584007913129639936 % m
theorem pk_In {a m : Int} (hm : In m) (h : m ≠ 0) (k : Nat) : In (pk a m k) := In_mod hm h
theorem pk_mg (a m : Int) (hm : 0 < m) (i j : Nat) : IsMg (pk a m i) (pk a m j) m (pk a m (i + j)) := by
  have n0 : m ≠ 0 := by omega
  refine ⟨Int.emod_nonneg _ n0, Int.emod_lt_of_pos _ hm, ?_⟩
  unfold pk
  have e1 := Int.mul_ediv_add_emod (a ^ i * 115792089237316195423570985008687907853269984665640564039457584007913129639936) m
  have e2 := Int.mul_ediv_add_emod (a ^ j * 115792089237316195423570985008687907853269984665640564039457584007913129639936) m
  have e3 := Int.mul_ediv_add_emod (a ^ (i + j) * 115792089237316195423570985008687907853269984665640564039457584007913129639936) m
  rw [Int.pow_add] at e3 ⊢
  generalize a ^ i = x at *
  generalize a ^ j = y at *
  generalize x * 115792089237316195423570985008687907853269984665640564039457584007913129639936 / m = q1 at *
  generalize x * 115792089237316195423570985008687907853269984665640564039457584007913129639936 % m = r1 at *
  generalize y * 115792089237316195423570985008687907853269984665640564039457584007913129639936 / m = q2 at *
  generalize y * 115792089237316195423570985008687907853269984665640564039457584007913129639936 % m = r2 at *
  generalize x * y * 115792089237316195423570985008687907853269984665640564039457584007913129639936 / m = q3 at *
  generalize x * y * 115792089237316195423570985008687907853269984665640564039457584007913129639936 % m = r3 at *
  have h1 : r1 = x * 115792089237316195423570985008687907853269984665640564039457584007913129639936 - m * q1 := by omega
  have h2 : r2 = y * 115792089237316195423570985008687907853269984665640564039457584007913129639936 - m * q2 := by omega
  have h3 : r3 = x * y * 115792089237316195423570985008687907853269984665640564039457584007913129639936 - m * q3 := by omega
  refine ⟨x * 115792089237316195423570985008687907853269984665640564039457584007913129639936 * q2 + y * 115792089237316195423570985008687907853269984665640564039457584007913129639936 * q1 - m * q1 * q2 - 115792089237316195423570985008687907853269984665640564039457584007913129639936 * q3, ?_⟩
  rw [h1, h2, h3]; grind
theorem pk_end (a m : Int) (hm : 0 < m) (k : Nat) : IsMg (pk a m k) 1 m (a ^ k % m) := by
  have n0 : m ≠ 0 := by omega
  refine ⟨Int.emod_nonneg _ n0, Int.emod_lt_of_pos _ hm, ?_⟩
  unfold pk
  have e1 := Int.mul_ediv_add_emod (a ^ k * 115792089237316195423570985008687907853269984665640564039457584007913129639936) m
  have e2 := Int.mul_ediv_add_emod (a ^ k) m
  generalize a ^ k = x at *
  generalize x * 115792089237316195423570985008687907853269984665640564039457584007913129639936 / m = q1 at *
  generalize x * 115792089237316195423570985008687907853269984665640564039457584007913129639936 % m = r1 at *
  generalize x / m = q2 at *
  generalize x % m = r2 at *
  refine ⟨q1 - 115792089237316195423570985008687907853269984665640564039457584007913129639936 * q2, ?_⟩
  have h1 : r1 = x * 115792089237316195423570985008687907853269984665640564039457584007913129639936 - m * q1 := by omega
  have h2 : r2 = x - m * q2 := by omega
  rw [h1, h2]; grind
theorem pk_0 (a m : Int) : pk a m 0 = 1 * 115792089237316195423570985008687907853269984665640564039457584007913129639936 % m := by unfold pk; rw [Int.pow_zero]
theorem pk_1 (a m : Int) : pk a m 1 = a * 115792089237316195423570985008687907853269984665640564039457584007913129639936 % m := by unfold pk; rw [Int.pow_succ, Int.pow_zero, Int.one_mul]
set_option maxRecDepth 100000 in
set_option maxHeartbeats 2000000 in
theorem mpow (a e m : Int) (w : World) (ha : In a) (he : In e) (hm : In m) (h : m ≠ 0) (hodd : m % 2 = 1) :
    Calls Try.prog 90 #[NV a, NV e, NV m] w fun en w' => en = .returned (NV (a ^ e.toNat % m)) ∧ Below w.heap.size w w' := by
  have hm0 : 0 < m := by have := hm.1; omega
  have hd0 : D0 m % 2 = 1 := by unfold D0; omega
  go_enter Try.func90, Try.ntmps90
  go_upto_region 1 with fail
  generalize hC : ((((w.alloc (.cells (LN a : List Value).toArray 25)).alloc (.cells (LN e : List Value).toArray 25)).alloc (.cells (LN m : List Value).toArray 25)).alloc (.cells (L0s : List Value).toArray 25)) = v0 at *
  have HB0 : Below w.heap.size w v0 := by rw [← hC]; exact (balloc (balloc (balloc (balloc (bself w) _) _) _) _)
  have K0p0 : CV v0 (w.heap.size) (LN a) := by rw [← hC]; exact ((((CV.new w (LN a) 25).alloc (by simp <;> omega) _).alloc (by simp <;> omega) _).alloc (by simp <;> omega) _)
  have l0p0 : w.heap.size < v0.heap.size := by rw [← hC]; simp <;> omega
  have K0p1 : CV v0 (w.heap.size + 1) (LN e) := by rw [← hC]; exact (((CV.newAt (w.alloc (.cells (LN a : List Value).toArray 25)) (LN e) 25 _ (by simp)).alloc (by simp <;> omega) _).alloc (by simp <;> omega) _)
  have l0p1 : w.heap.size + 1 < v0.heap.size := by rw [← hC]; simp <;> omega
  have K0p2 : CV v0 (w.heap.size + 1 + 1) (LN m) := by rw [← hC]; exact ((CV.newAt ((w.alloc (.cells (LN a : List Value).toArray 25)).alloc (.cells (LN e : List Value).toArray 25)) (LN m) 25 _ (by simp)).alloc (by simp <;> omega) _)
  have l0p2 : w.heap.size + 1 + 1 < v0.heap.size := by rw [← hC]; simp <;> omega
  have K0r6 : CV v0 (w.heap.size + 1 + 1 + 1) (L0s) := by rw [← hC]; exact (CV.newAt (((w.alloc (.cells (LN a : List Value).toArray 25)).alloc (.cells (LN e : List Value).toArray 25)).alloc (.cells (LN m : List Value).toArray 25)) (L0s) 25 _ (by simp))
  have l0r6 : w.heap.size + 1 + 1 + 1 < v0.heap.size := by rw [← hC]; simp <;> omega
  clear hC
  refine region_drawn [13, 14, 15, 16, 17, 7] (fun fZ tZ uZ => MR w.heap.size w (v0.heap.size) [(w.heap.size, LN a), (w.heap.size + 1, LN e), (w.heap.size + 1 + 1, LN m), (w.heap.size + 1 + 1 + 1, L0s)] [] [(fZ 5, fZ 6, tZ 7, L05, LM (m) (mi (D0 (m))))] uZ ∧ Gs fZ tZ [(0, 13, NV m), (1, 14, .pointer (some ⟨w.heap.size + 1 + 1, 0, none⟩)), (2, 15, .int .u64 (D0 (m))), (3, 16, .int .u64 (mi (D0 (m)))), (4, 17, .agg #[.int .u64 (D0 (m)), .int .u64 (D1 (m)), .int .u64 (D2 (m)), .int .u64 (D3 (m)), .int .u64 (mi (D0 (m)))])] ∧ Os fZ [(6, 5)] ∧ Ns fZ tZ []) (by kernel_rfl) (by kernel_rfl) ?_ ?_ ?_
  · exact ⟨{ bel := HB0.drew, lo := HB0.size, sz := Nat.le_refl _, ks := ⟨⟨l0p0, K0p0⟩, ⟨l0p1, K0p1⟩, ⟨l0p2, K0p2⟩, ⟨l0r6, K0r6⟩, trivial⟩, ex := trivial, nw := ⟨fun e => (by cases e), trivial⟩, nd := ⟨fun e => (by cases e), trivial⟩ }, Gs.none _ _, Os.none _, trivial⟩
  · rintro fZ tZ uZ iZ oZ aZ hF ⟨hM, hG, hO, hN⟩ ho hfi hdep
    obtain ⟨hS, hV⟩ := hF.two 40 (by decide) rfl (by decide)
    rcases cZ7 ho with rfl | rfl | rfl | rfl | rfl | rfl | rfl <;> cases ho
    · exact t_load (show aZ.eval (.tmp 5) = .pointer (some ⟨w.heap.size + 1 + 1, 0, none⟩) from (hF.out 5 (by decide)).trans rfl) hM.ks.2.2.1.2 Try.underlying25 info_api_Nat hF hS rfl rfl rfl rfl rfl (by decide) (Jm hM hG hO hN)
    · refine op_plain rfl rfl (fun K hK => ?_)
      refine wp_index rfl (show aZ.eval (.tmp 5) = .pointer (some ⟨w.heap.size + 1 + 1, 0, none⟩) from (hF.out 5 (by decide)).trans rfl) rfl (ix_nat uZ (w.heap.size + 1 + 1) 0 (by omega)) ?_
      exact tell hK hF hS (by decide) (Jm hM hG hO hN)
    · refine op_plain rfl rfl (fun K hK => ?_)
      have kk : CV uZ (w.heap.size + 1 + 1) (LN m) := hM.ks.2.2.1.2
      have kc := (kk 0 _ (rfl)).1
      refine wp_load rfl (ve 14 hV (hG.2.1 (dd 1 hdep))) (ld_u64 uZ (w.heap.size + 1 + 1) 0 _ kc) ?_
      exact tell hK hF hS (by decide) (Jm hM hG hO hN)
    · exact t_call (vs := [.int .u64 (D0 (m))]) (by show [aZ.eval (.tmp 15)] = _; rw [(ve 15 hV (hG.2.2.1 (dd 2 hdep)))]) ent_mod_minusInverse (minv_B (D0 (m)) uZ (W_D0 m)) hF hS rfl rfl rfl rfl (by decide) (fun _ hB => (Jm (hM.call hB) hG hO hN))
    · refine op_plain rfl rfl (fun K hK => ?_)
      refine wp_build rfl (vps := [(0, NV m), (1, .int .u64 (mi (D0 (m))))]) (by show [(0, aZ.eval (.tmp 13)), (1, aZ.eval (.tmp 16))] = _; rw [(ve 13 hV (hG.1 (dd 0 hdep))), (ve 16 hV (hG.2.2.2.1 (dd 3 hdep)))]) (bd_odd _ _ _ _ _ uZ) ?_
      exact tell hK hF hS (by decide) (Jm hM hG hO hN)
    · have q1 : fZ 6 = false := Os.not (hO.1) hfi
      exact t_alloc (al_mod_oddModulus uZ) hF hS rfl rfl rfl rfl (by decide) ⟨MR.newF 0 hM rfl hfi q1, Gs.other rfl hG, hO.keep rfl, Ns.step hN rfl⟩
    · exact t_storeN 0 hM rfl (dd 5 hdep) hfi (hV 7 (by decide)) (ve 17 hV (hG.2.2.2.2.1 (dd 4 hdep))) rfl info_mod_oddModulus rfl hF rfl rfl rfl rfl (fun _ h => ⟨h, Gs.idle rfl hG, ⟨fun _ => (dd 5 hdep :), trivial⟩, Ns.idle hN⟩)
  rintro fZ tZ u1 ⟨hM, hG, hO, hN⟩ hall
  obtain ⟨e13, e14, e15, e16, e17, -⟩ := Gs.all 7 hall hG rfl
  obtain ⟨b1_5, ee7, pb1_5, lb1_5, kb1_5⟩ := hM.nw.1 (hall 5 (by decide))
  have e7 : tZ 7 = .pointer (some ⟨b1_5, 0, none⟩) := ee7
  clear ee7
  have Kb1_5 : CV u1 b1_5 (LM (m) (mi (D0 (m)))) := by
    have h1 : CV u1 b1_5 (bif fZ 6 then LM (m) (mi (D0 (m))) else L05) := kb1_5
    rw [hall 6 (by decide)] at h1; exact h1
  clear kb1_5
  have HB1 : Below w.heap.size w u1 := hM.bel
  have sz1 : v0.heap.size ≤ u1.heap.size := hM.sz
  obtain ⟨⟨l1p0, K1p0⟩, ⟨l1p1, K1p1⟩, ⟨l1p2, K1p2⟩, ⟨l1r6, K1r6⟩, -⟩ := hM.ks.up hM.sz
  dsimp only at l1p0 K1p0 l1p1 K1p1 l1p2 K1p2 l1r6 K1r6
  simp only [ovr, List.set_cons_zero, List.set_cons_succ, e13, e14, e15, e16, e17, e7]
  clear hM hG hO hN hall e13 e14 e15 e16 e17 e7 K0p0 K0p1 K0p2 K0r6 HB0
  clear tZ
  go_upto_region 2 with fail
  refine region_drawn [19, 20, 21, 22, 18, 23, 24, 8, 9] (fun fZ tZ uZ => MR w.heap.size w (u1.heap.size) [(w.heap.size, LN a), (w.heap.size + 1, LN e), (w.heap.size + 1 + 1, LN m), (w.heap.size + 1 + 1 + 1, L0s), (b1_5, LM (m) (mi (D0 (m))))] [] [(fZ 7, fZ 8, tZ 8, L0s, LN (1 * 115792089237316195423570985008687907853269984665640564039457584007913129639936 % m))] uZ ∧ Gs fZ tZ [(0, 19, NV 1), (1, 20, WV (1 * 115792089237316195423570985008687907853269984665640564039457584007913129639936)), (2, 21, NV m), (3, 22, .tuple #[NV (1 * 115792089237316195423570985008687907853269984665640564039457584007913129639936 % m), .int .i64 0]), (4, 18, .tuple #[NV (1 * 115792089237316195423570985008687907853269984665640564039457584007913129639936 % m), .int .i64 0]), (5, 23, NV (1 * 115792089237316195423570985008687907853269984665640564039457584007913129639936 % m)), (6, 24, .int .i64 0), (9, 9, .int .i64 0)] ∧ Os fZ [(8, 7)] ∧ Ns fZ tZ []) (by kernel_rfl) (by kernel_rfl) ?_ ?_ ?_
  · exact ⟨{ bel := HB1.drew, lo := HB1.size, sz := Nat.le_refl _, ks := ⟨⟨l1p0, K1p0⟩, ⟨l1p1, K1p1⟩, ⟨l1p2, K1p2⟩, ⟨l1r6, K1r6⟩, ⟨lb1_5, Kb1_5⟩, trivial⟩, ex := trivial, nw := ⟨fun e => (by cases e), trivial⟩, nd := ⟨fun e => (by cases e), trivial⟩ }, Gs.none _ _, Os.none _, trivial⟩
  · rintro fZ tZ uZ iZ oZ aZ hF ⟨hM, hG, hO, hN⟩ ho hfi hdep
    obtain ⟨hS, hV⟩ := hF.two 40 (by decide) rfl (by decide)
    rcases cZ10 ho with rfl | rfl | rfl | rfl | rfl | rfl | rfl | rfl | rfl | rfl <;> cases ho
    · exact t_call (vs := [(Go.Value.int Go.IntKind.u64 1)]) (by show [(Go.Value.int Go.IntKind.u64 1)] = _; rfl) ent_limb_Of (nOf 1 uZ (by omega) (by omega)) hF hS rfl rfl rfl rfl (by decide) (fun _ hB => (Jm (hM.call hB) hG hO hN))
    · exact t_call (vs := [NV 1]) (by show [aZ.eval (.tmp 19)] = _; rw [(ve 19 hV (hG.1 (dd 0 hdep)))]) ent_mod_lifted (nlift 1 uZ In_1) hF hS rfl rfl rfl rfl (by decide) (fun _ hB => (Jm (hM.call hB) hG hO hN))
    · exact t_load (show aZ.eval (.tmp 5) = .pointer (some ⟨w.heap.size + 1 + 1, 0, none⟩) from (hF.out 5 (by decide)).trans rfl) hM.ks.2.2.1.2 Try.underlying25 info_api_Nat hF hS rfl rfl rfl rfl rfl (by decide) (Jm hM hG hO hN)
    · exact t_call (vs := [WV (1 * 115792089237316195423570985008687907853269984665640564039457584007913129639936), NV m]) (by show [aZ.eval (.tmp 20), aZ.eval (.tmp 21)] = _; rw [(ve 20 hV (hG.2.1 (dd 1 hdep))), (ve 21 hV (hG.2.2.1 (dd 2 hdep)))]) ent_mod_Reduce (mReduce (1 * 115792089237316195423570985008687907853269984665640564039457584007913129639936) m uZ (InW_lift In_1) hm h) hF hS rfl rfl rfl rfl (by decide) (fun _ hB => (Jm (hM.call hB) hG hO hN))
    · exact t_move (ve 22 hV (hG.2.2.2.1 (dd 3 hdep))) hF hS rfl rfl rfl rfl (by decide) (Jm hM hG hO hN)
    · exact t_extract (ve 18 hV (hG.2.2.2.2.1 (dd 4 hdep))) hF hS rfl rfl rfl rfl rfl (by decide) (Jm hM hG hO hN)
    · exact t_extract (ve 18 hV (hG.2.2.2.2.1 (dd 4 hdep))) hF hS rfl rfl rfl rfl rfl (by decide) (Jm hM hG hO hN)
    · have q1 : fZ 8 = false := Os.not (hO.1) hfi
      exact t_alloc (al_api_Nat uZ) hF hS rfl rfl rfl rfl (by decide) ⟨MR.newF 0 hM rfl hfi q1, Gs.other rfl hG, hO.keep rfl, Ns.step hN rfl⟩
    · exact t_storeN 0 hM rfl (dd 7 hdep) hfi (hV 8 (by decide)) (ve 23 hV (hG.2.2.2.2.2.1 (dd 5 hdep))) rfl info_api_Nat rfl hF rfl rfl rfl rfl (fun _ h => ⟨h, Gs.idle rfl hG, ⟨fun _ => (dd 7 hdep :), trivial⟩, Ns.idle hN⟩)
    · exact t_assign (ve 24 hV (hG.2.2.2.2.2.2.1 (dd 6 hdep))) hF hS rfl rfl rfl rfl (by decide) (Jm hM hG hO hN)
  rintro fZ tZ u2 ⟨hM, hG, hO, hN⟩ hall
  obtain ⟨e19, e20, e21, e22, e18, e23, e24, e9, -⟩ := Gs.all 10 hall hG rfl
  obtain ⟨b2_7, ee8, pb2_7, lb2_7, kb2_7⟩ := hM.nw.1 (hall 7 (by decide))
  have e8 : tZ 8 = .pointer (some ⟨b2_7, 0, none⟩) := ee8
  clear ee8
  have Kb2_7 : CV u2 b2_7 (LN (1 * 115792089237316195423570985008687907853269984665640564039457584007913129639936 % m)) := by
    have h1 : CV u2 b2_7 (bif fZ 8 then LN (1 * 115792089237316195423570985008687907853269984665640564039457584007913129639936 % m) else L0s) := kb2_7
    rw [hall 8 (by decide)] at h1; exact h1
  clear kb2_7
  have HB2 : Below w.heap.size w u2 := hM.bel
  have sz2 : u1.heap.size ≤ u2.heap.size := hM.sz
  obtain ⟨⟨l2p0, K2p0⟩, ⟨l2p1, K2p1⟩, ⟨l2p2, K2p2⟩, ⟨l2r6, K2r6⟩, ⟨l2n1_5, K2n1_5⟩, -⟩ := hM.ks.up hM.sz
  dsimp only at l2p0 K2p0 l2p1 K2p1 l2p2 K2p2 l2r6 K2r6 l2n1_5 K2n1_5
  simp only [ovr, List.set_cons_zero, List.set_cons_succ, e19, e20, e21, e22, e18, e23, e24, e9, e8]
  clear hM hG hO hN hall e19 e20 e21 e22 e18 e23 e24 e9 e8 K1p0 K1p1 K1p2 K1r6 Kb1_5 HB1
  clear tZ
  go_upto_region 3 with fail
  refine region_drawn [26, 27, 28, 29, 25, 30, 31, 10, 11] (fun fZ tZ uZ => MR w.heap.size w (u2.heap.size) [(w.heap.size, LN a), (w.heap.size + 1, LN e), (w.heap.size + 1 + 1, LN m), (w.heap.size + 1 + 1 + 1, L0s), (b1_5, LM (m) (mi (D0 (m)))), (b2_7, LN (1 * 115792089237316195423570985008687907853269984665640564039457584007913129639936 % m))] [] [(fZ 7, fZ 8, tZ 10, L0s, LN (a * 115792089237316195423570985008687907853269984665640564039457584007913129639936 % m))] uZ ∧ Gs fZ tZ [(0, 26, NV a), (1, 27, WV (a * 115792089237316195423570985008687907853269984665640564039457584007913129639936)), (2, 28, NV m), (3, 29, .tuple #[NV (a * 115792089237316195423570985008687907853269984665640564039457584007913129639936 % m), .int .i64 0]), (4, 25, .tuple #[NV (a * 115792089237316195423570985008687907853269984665640564039457584007913129639936 % m), .int .i64 0]), (5, 30, NV (a * 115792089237316195423570985008687907853269984665640564039457584007913129639936 % m)), (6, 31, .int .i64 0), (9, 11, .int .i64 0)] ∧ Os fZ [(8, 7)] ∧ Ns fZ tZ []) (by kernel_rfl) (by kernel_rfl) ?_ ?_ ?_
  · exact ⟨{ bel := HB2.drew, lo := HB2.size, sz := Nat.le_refl _, ks := ⟨⟨l2p0, K2p0⟩, ⟨l2p1, K2p1⟩, ⟨l2p2, K2p2⟩, ⟨l2r6, K2r6⟩, ⟨l2n1_5, K2n1_5⟩, ⟨lb2_7, Kb2_7⟩, trivial⟩, ex := trivial, nw := ⟨fun e => (by cases e), trivial⟩, nd := ⟨fun e => (by cases e), trivial⟩ }, Gs.none _ _, Os.none _, trivial⟩
  · rintro fZ tZ uZ iZ oZ aZ hF ⟨hM, hG, hO, hN⟩ ho hfi hdep
    obtain ⟨hS, hV⟩ := hF.two 40 (by decide) rfl (by decide)
    rcases cZ10 ho with rfl | rfl | rfl | rfl | rfl | rfl | rfl | rfl | rfl | rfl <;> cases ho
    · exact t_load (show aZ.eval (.tmp 3) = .pointer (some ⟨w.heap.size, 0, none⟩) from (hF.out 3 (by decide)).trans rfl) hM.ks.1.2 Try.underlying25 info_api_Nat hF hS rfl rfl rfl rfl rfl (by decide) (Jm hM hG hO hN)
    · exact t_call (vs := [NV a]) (by show [aZ.eval (.tmp 26)] = _; rw [(ve 26 hV (hG.1 (dd 0 hdep)))]) ent_mod_lifted (nlift a uZ ha) hF hS rfl rfl rfl rfl (by decide) (fun _ hB => (Jm (hM.call hB) hG hO hN))
    · exact t_load (show aZ.eval (.tmp 5) = .pointer (some ⟨w.heap.size + 1 + 1, 0, none⟩) from (hF.out 5 (by decide)).trans rfl) hM.ks.2.2.1.2 Try.underlying25 info_api_Nat hF hS rfl rfl rfl rfl rfl (by decide) (Jm hM hG hO hN)
    · exact t_call (vs := [WV (a * 115792089237316195423570985008687907853269984665640564039457584007913129639936), NV m]) (by show [aZ.eval (.tmp 27), aZ.eval (.tmp 28)] = _; rw [(ve 27 hV (hG.2.1 (dd 1 hdep))), (ve 28 hV (hG.2.2.1 (dd 2 hdep)))]) ent_mod_Reduce (mReduce (a * 115792089237316195423570985008687907853269984665640564039457584007913129639936) m uZ (InW_lift ha) hm h) hF hS rfl rfl rfl rfl (by decide) (fun _ hB => (Jm (hM.call hB) hG hO hN))
    · exact t_move (ve 29 hV (hG.2.2.2.1 (dd 3 hdep))) hF hS rfl rfl rfl rfl (by decide) (Jm hM hG hO hN)
    · exact t_extract (ve 25 hV (hG.2.2.2.2.1 (dd 4 hdep))) hF hS rfl rfl rfl rfl rfl (by decide) (Jm hM hG hO hN)
    · exact t_extract (ve 25 hV (hG.2.2.2.2.1 (dd 4 hdep))) hF hS rfl rfl rfl rfl rfl (by decide) (Jm hM hG hO hN)
    · have q1 : fZ 8 = false := Os.not (hO.1) hfi
      exact t_alloc (al_api_Nat uZ) hF hS rfl rfl rfl rfl (by decide) ⟨MR.newF 0 hM rfl hfi q1, Gs.other rfl hG, hO.keep rfl, Ns.step hN rfl⟩
    · exact t_storeN 0 hM rfl (dd 7 hdep) hfi (hV 10 (by decide)) (ve 30 hV (hG.2.2.2.2.2.1 (dd 5 hdep))) rfl info_api_Nat rfl hF rfl rfl rfl rfl (fun _ h => ⟨h, Gs.idle rfl hG, ⟨fun _ => (dd 7 hdep :), trivial⟩, Ns.idle hN⟩)
    · exact t_assign (ve 31 hV (hG.2.2.2.2.2.2.1 (dd 6 hdep))) hF hS rfl rfl rfl rfl (by decide) (Jm hM hG hO hN)
  rintro fZ tZ u3 ⟨hM, hG, hO, hN⟩ hall
  obtain ⟨e26, e27, e28, e29, e25, e30, e31, e11, -⟩ := Gs.all 10 hall hG rfl
  obtain ⟨b3_7, ee10, pb3_7, lb3_7, kb3_7⟩ := hM.nw.1 (hall 7 (by decide))
  have e10 : tZ 10 = .pointer (some ⟨b3_7, 0, none⟩) := ee10
  clear ee10
  have Kb3_7 : CV u3 b3_7 (LN (a * 115792089237316195423570985008687907853269984665640564039457584007913129639936 % m)) := by
    have h1 : CV u3 b3_7 (bif fZ 8 then LN (a * 115792089237316195423570985008687907853269984665640564039457584007913129639936 % m) else L0s) := kb3_7
    rw [hall 8 (by decide)] at h1; exact h1
  clear kb3_7
  have HB3 : Below w.heap.size w u3 := hM.bel
  have sz3 : u2.heap.size ≤ u3.heap.size := hM.sz
  obtain ⟨-, ⟨l3p1, K3p1⟩, -, ⟨l3r6, K3r6⟩, ⟨l3n1_5, K3n1_5⟩, ⟨l3n2_7, K3n2_7⟩, -⟩ := hM.ks.up hM.sz
  dsimp only at l3p1 K3p1 l3r6 K3r6 l3n1_5 K3n1_5 l3n2_7 K3n2_7
  simp only [ovr, List.set_cons_zero, List.set_cons_succ, e26, e27, e28, e29, e25, e30, e31, e11, e10]
  clear hM hG hO hN hall e26 e27 e28 e29 e25 e30 e31 e11 e10 K2n1_5 K2p0 K2p1 K2p2 K2r6 Kb2_7 HB2
  clear tZ
  have Kq0 : CV u3 b2_7 (LN (pk a m 0)) := by rw [pk_0]; exact K3n2_7
  have Kq1 : CV u3 b3_7 (LN (pk a m 1)) := by rw [pk_1]; exact Kb3_7
  have hT : Hid (∀ (i j : Nat) (u : World), CV u b1_5 (LM m (mi (D0 (m)))) → b1_5 < u.heap.size → Calls Try.prog 106 ([Value.pointer (some ⟨b1_5, 0, none⟩)] ++ [NV (pk a m i), NV (pk a m j)]).toArray u fun en u' => en = .returned (NV (pk a m (i + j))) ∧ Below u.heap.size u u') :=
    fun i j u hK hl => mprod b1_5 (pk a m i) (pk a m j) m (mi (D0 (m))) (pk a m (i + j)) u (pk_In hm h i) (pk_In hm h j) hm (Int.emod_lt_of_pos _ hm0) hodd (W_mi _) (mi_spec _ hd0) (pk_mg a m hm0 i j) hK hl
  go_upto_region 4 with fail
  refine region_plain [32, 33, 34, 35, 36, 12] (fun fZ tZ uZ => MR w.heap.size w (u3.heap.size) [(w.heap.size + 1, LN e), (w.heap.size + 1 + 1 + 1, L0s), (b1_5, LM (m) (mi (D0 (m)))), (b2_7, LN (pk a m 0)), (b3_7, LN (pk a m 1))] [] [(fZ 5, fZ 6, tZ 12, L0s, LN (pk a m e.toNat))] uZ ∧ Gs fZ tZ [(0, 32, NV (pk a m 1)), (1, 33, NV e), (2, 34, NV (pk a m 0)), (3, 35, .func (.func 106) #[.pointer (some ⟨b1_5, 0, none⟩)] #[]), (4, 36, NV (pk a m e.toNat))] ∧ Os fZ [(6, 5)] ∧ Ns fZ tZ []) (by kernel_rfl) ?_ ?_ ?_
  · exact ⟨{ bel := HB3, lo := HB3.size, sz := Nat.le_refl _, ks := ⟨⟨l3p1, K3p1⟩, ⟨l3r6, K3r6⟩, ⟨l3n1_5, K3n1_5⟩, ⟨l3n2_7, Kq0⟩, ⟨lb3_7, Kq1⟩, trivial⟩, ex := trivial, nw := ⟨fun e => (by cases e), trivial⟩, nd := ⟨fun e => (by cases e), trivial⟩ }, Gs.none _ _, Os.none _, trivial⟩
  · rintro fZ tZ uZ iZ oZ aZ hF ⟨hM, hG, hO, hN⟩ ho hfi hdep
    obtain ⟨hS, hV⟩ := hF.two 40 (by decide) rfl (by decide)
    rcases cZ7 ho with rfl | rfl | rfl | rfl | rfl | rfl | rfl <;> cases ho
    · exact t_load (show aZ.eval (.tmp 10) = .pointer (some ⟨b3_7, 0, none⟩) from (hF.out 10 (by decide)).trans rfl) hM.ks.2.2.2.2.1.2 Try.underlying25 info_api_Nat hF hS rfl rfl rfl rfl rfl (by decide) (Jm hM hG hO hN)
    · exact t_load (show aZ.eval (.tmp 4) = .pointer (some ⟨w.heap.size + 1, 0, none⟩) from (hF.out 4 (by decide)).trans rfl) hM.ks.1.2 Try.underlying25 info_api_Nat hF hS rfl rfl rfl rfl rfl (by decide) (Jm hM hG hO hN)
    · exact t_load (show aZ.eval (.tmp 8) = .pointer (some ⟨b2_7, 0, none⟩) from (hF.out 8 (by decide)).trans rfl) hM.ks.2.2.2.1.2 Try.underlying25 info_api_Nat hF hS rfl rfl rfl rfl rfl (by decide) (Jm hM hG hO hN)
    · refine op_plain rfl rfl (fun K hK => ?_)
      refine wp_make (v := .func (.func 106) #[.pointer (some ⟨b1_5, 0, none⟩)] #[]) rfl (vf := [.pointer (some ⟨b1_5, 0, none⟩)]) (by show [aZ.eval (.tmp 7)] = _; rw [(show aZ.eval (.tmp 7) = .pointer (some ⟨b1_5, 0, none⟩) from (hF.out 7 (by decide)).trans rfl)]) rfl (by kernel_rfl) ?_
      exact tell hK hF hS (by decide) (Jm hM hG hO hN)
    · have kkn1_5 : CV uZ (b1_5) (LM (m) (mi (D0 (m)))) := hM.ks.2.2.1.2
      have lbn1_5 : b1_5 < uZ.heap.size := Nat.lt_of_lt_of_le hM.ks.2.2.1.1 hM.sz
      exact t_call (vs := [NV (pk a m 1), NV e, NV (pk a m 0), .func (.func 106) #[.pointer (some ⟨b1_5, 0, none⟩)] #[]]) (by show [aZ.eval (.tmp 32), aZ.eval (.tmp 33), aZ.eval (.tmp 34), aZ.eval (.tmp 35)] = _; rw [(ve 32 hV (hG.1 (dd 0 hdep))), (ve 33 hV (hG.2.1 (dd 1 hdep))), (ve 34 hV (hG.2.2.1 (dd 2 hdep))), (ve 35 hV (hG.2.2.2.1 (dd 3 hdep)))]) ent_mod_raise (mraise 106 [.pointer (some ⟨b1_5, 0, none⟩)] (pk a m) e b1_5 (LM m (mi (D0 (m)))) uZ ent_prod hT he kkn1_5 lbn1_5) hF hS rfl rfl rfl rfl (by decide) (fun _ hB => (Jm (hM.call hB) hG hO hN))
    · have q1 : fZ 6 = false := Os.not (hO.1) hfi
      exact t_alloc (al_api_Nat uZ) hF hS rfl rfl rfl rfl (by decide) ⟨MR.newF 0 hM rfl hfi q1, Gs.other rfl hG, hO.keep rfl, Ns.step hN rfl⟩
    · exact t_storeN 0 hM rfl (dd 5 hdep) hfi (hV 12 (by decide)) (ve 36 hV (hG.2.2.2.2.1 (dd 4 hdep))) rfl info_api_Nat rfl hF rfl rfl rfl rfl (fun _ h => ⟨h, Gs.idle rfl hG, ⟨fun _ => (dd 5 hdep :), trivial⟩, Ns.idle hN⟩)
  rintro fZ tZ u4 ⟨hM, hG, hO, hN⟩ hall
  obtain ⟨e32, e33, e34, e35, e36, -⟩ := Gs.all 7 hall hG rfl
  obtain ⟨b4_5, ee12, pb4_5, lb4_5, kb4_5⟩ := hM.nw.1 (hall 5 (by decide))
  have e12 : tZ 12 = .pointer (some ⟨b4_5, 0, none⟩) := ee12
  clear ee12
  have Kb4_5 : CV u4 b4_5 (LN (pk a m e.toNat)) := by
    have h1 : CV u4 b4_5 (bif fZ 6 then LN (pk a m e.toNat) else L0s) := kb4_5
    rw [hall 6 (by decide)] at h1; exact h1
  clear kb4_5
  have HB4 : Below w.heap.size w u4 := hM.bel
  have sz4 : u3.heap.size ≤ u4.heap.size := hM.sz
  obtain ⟨-, ⟨l4r6, K4r6⟩, ⟨l4n1_5, K4n1_5⟩, -, -, -⟩ := hM.ks.up hM.sz
  dsimp only at l4r6 K4r6 l4n1_5 K4n1_5
  simp only [ovr, List.set_cons_zero, List.set_cons_succ, e32, e33, e34, e35, e36, e12]
  clear hM hG hO hN hall e32 e33 e34 e35 e36 e12 K3n1_5 K3p1 K3r6 Kq0 Kq1 HB3
  clear tZ
  go_upto_region 5 with fail
  refine region_drawn [37, 38, 39] (fun fZ tZ uZ => MR w.heap.size w (u4.heap.size) [(b1_5, LM (m) (mi (D0 (m)))), (b4_5, LN (pk a m e.toNat))] [(w.heap.size + 1 + 1 + 1, fZ 3, L0s, LN (a ^ e.toNat % m))] [] uZ ∧ Gs fZ tZ [(0, 37, NV (pk a m e.toNat)), (1, 38, NV 1), (2, 39, NV (a ^ e.toNat % m))] ∧ Os fZ [] ∧ Ns fZ tZ []) (by kernel_rfl) (by kernel_rfl) ?_ ?_ ?_
  · exact ⟨{ bel := HB4.drew, lo := HB4.size, sz := Nat.le_refl _, ks := ⟨⟨l4n1_5, K4n1_5⟩, ⟨lb4_5, Kb4_5⟩, trivial⟩, ex := ⟨⟨(by omega), l4r6, rfl, K4r6⟩, trivial⟩, nw := trivial, nd := trivial }, Gs.none _ _, Os.none _, trivial⟩
  · rintro fZ tZ uZ iZ oZ aZ hF ⟨hM, hG, hO, hN⟩ ho hfi hdep
    obtain ⟨hS, hV⟩ := hF.two 40 (by decide) rfl (by decide)
    rcases cZ4 ho with rfl | rfl | rfl | rfl <;> cases ho
    · exact t_load (show aZ.eval (.tmp 12) = .pointer (some ⟨b4_5, 0, none⟩) from (hF.out 12 (by decide)).trans rfl) hM.ks.2.1.2 Try.underlying25 info_api_Nat hF hS rfl rfl rfl rfl rfl (by decide) (Jt hM hG hN)
    · exact t_call (vs := [(Go.Value.int Go.IntKind.u64 1)]) (by show [(Go.Value.int Go.IntKind.u64 1)] = _; rfl) ent_limb_Of (nOf 1 uZ (by omega) (by omega)) hF hS rfl rfl rfl rfl (by decide) (fun _ hB => (Jt (hM.call hB) hG hN))
    · have kkn1_5 : CV uZ (b1_5) (LM (m) (mi (D0 (m)))) := hM.ks.1.2
      have lbn1_5 : b1_5 < uZ.heap.size := Nat.lt_of_lt_of_le hM.ks.1.1 hM.sz
      exact t_call (vs := [.pointer (some ⟨b1_5, 0, none⟩), NV (pk a m e.toNat), NV 1]) (by show [aZ.eval (.tmp 7), aZ.eval (.tmp 37), aZ.eval (.tmp 38)] = _; rw [(show aZ.eval (.tmp 7) = .pointer (some ⟨b1_5, 0, none⟩) from (hF.out 7 (by decide)).trans rfl), (ve 37 hV (hG.1 (dd 0 hdep))), (ve 38 hV (hG.2.1 (dd 1 hdep)))]) ent___mod_oddModulus__product (mprod b1_5 (pk a m e.toNat) 1 m (mi (D0 (m))) (a ^ e.toNat % m) uZ (pk_In hm h _) In_1 hm (Int.emod_lt_of_pos _ hm0) hodd (W_mi _) (mi_spec _ hd0) (pk_end a m hm0 _) kkn1_5 lbn1_5) hF hS rfl rfl rfl rfl (by decide) (fun _ hB => (Jt (hM.call hB) hG hN))
    · refine op_plain rfl rfl (fun K hK => ?_)
      have kk : CV uZ (w.heap.size + 1 + 1 + 1) (bif fZ 3 then LN (a ^ e.toNat % m) else L0s) := hM.ex.1.2.2.2
      rw [hfi] at kk
      have kk : CV uZ (w.heap.size + 1 + 1 + 1) (L0s) := kk
      refine wp_store_mid 25 _ _ rfl (w.heap.size + 1 + 1 + 1) 0 (LN (a ^ e.toNat % m) : List Value).toArray (show aZ.eval (.tmp 6) = .pointer (some ⟨w.heap.size + 1 + 1 + 1, 0, none⟩) from (hF.out 6 (by decide)).trans rfl) (ve 39 hV (hG.2.2.1 (dd 2 hdep))) kk.there info_api_Nat (all_one rfl) ?_
      exact tell0 hK hF ⟨MR.putXF 0 hM rfl ⟨by omega, by omega, trivial⟩ trivial, Gs.idle rfl hG, trivial, Ns.idle hN⟩
  rintro fZ tZ u5 ⟨hM, hG, hO, hN⟩ hall
  obtain ⟨e37, e38, e39, -⟩ := Gs.all 4 hall hG rfl
  have HB5 : Below w.heap.size w u5 := hM.bel
  have sz5 : u4.heap.size ≤ u5.heap.size := hM.sz
  have K5r6 : CV u5 (w.heap.size + 1 + 1 + 1) (LN (a ^ e.toNat % m)) := by
    have h1 : CV u5 (w.heap.size + 1 + 1 + 1) (bif fZ 3 then LN (a ^ e.toNat % m) else L0s) := hM.ex.1.2.2.2
    rw [hall 3 (by decide)] at h1; exact h1
  have l5r6 : w.heap.size + 1 + 1 + 1 < u5.heap.size := Nat.lt_of_lt_of_le hM.ex.1.2.1 hM.sz
  simp only [ovr, List.set_cons_zero, List.set_cons_succ, e37, e38, e39]
  clear hM hG hO hN hall e37 e38 e39 K4n1_5 K4r6 Kb4_5 HB4
  clear tZ
  have c6_0 := (K5r6 0 _ rfl).1
  have c6_1 := (K5r6 1 _ rfl).1
  have c6_2 := (K5r6 2 _ rfl).1
  have c6_3 := (K5r6 3 _ rfl).1
  go_wp2
  refine bodyPost_ret (v := NV (a ^ e.toNat % m)) (by simp [results, Try.results90, go_sem, c6_0, c6_1, c6_2, c6_3]) rfl ⟨rfl, HB5⟩
end Go.Proofs.Ytkpnjmfndgfogaa
