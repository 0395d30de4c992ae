/- The reference's Gcd, Inverse. -/
import Derived.Test.YtkpnjmfndgfogaaMRS
import Derived.Test.YtkpnjmfndgfogaaEU2
import Derived.Test.YtkpnjmfndgfogaaMO5
namespace Go.Proofs.Ytkpnjmfndgfogaa
open Go.RowKit
set_option linter.unusedVariables false
set_option linter.unusedSimpArgs false
def P512 : Int := 115792089237316195423570985008687907853269984665640564039457584007913129639936 * 115792089237316195423570985008687907853269984665640564039457584007913129639936
theorem half {x y : Int} (hx : 0 ≤ x) (hy : 0 < y) (h : y ≤ x) : 2 * (x % y) ≤ x := by
  have e := Int.mul_ediv_add_emod x y
  have l := Int.emod_lt_of_pos x hy
  have n := Int.emod_nonneg x (show y ≠ 0 by omega)
  have q : 1 ≤ x / y := by
    by_cases h1 : x / y < 1
    · have hq : 0 ≤ x / y := Int.ediv_nonneg hx (by omega)
      have : x / y = 0 := by omega
      rw [this] at e; simp at e; omega
    · omega
  have m := Int.mul_le_mul_of_nonneg_left q (show 0 ≤ y by omega)
  omega
/-- After k rounds. -/
def PBk (k : Nat) (x y : Int) : Prop := y = 0 ∨ k = 0 ∨ (y ≤ x ∧ x * y * 2 ^ (k - 1) < P512)
theorem P512_e : P512 = 115792089237316195423570985008687907853269984665640564039457584007913129639936 * 115792089237316195423570985008687907853269984665640564039457584007913129639936 := rfl
theorem P_le (k : Nat) : P512 ≤ 2 ^ (512 + k) := by
  rw [show 512 + k = 256 + (256 + k) by omega, Int.pow_add, Int.pow_add, show (2 : Int) ^ 256 = 115792089237316195423570985008687907853269984665640564039457584007913129639936 by decide]
  have p : (0 : Int) < 2 ^ k := Int.pow_pos (by omega)
  unfold P512
  omega
theorem prod_lt {x y : Int} (hx : In x) (hy : In y) : x * y < P512 := by
  rw [P512_e]
  have h1 := Int.mul_le_mul_of_nonneg_right (show x ≤ 115792089237316195423570985008687907853269984665640564039457584007913129639935 by have := hx.2; omega) hy.1
  have h2 := hy.2
  omega
theorem PBk.step {k : Nat} {x y : Int} (hx : In x) (hy : In y) (h : y ≠ 0) (hP : PBk k x y) : PBk (k + 1) y (x % y) := by
  have y1 : 0 < y := by have := hy.1; omega
  have l := Int.emod_lt_of_pos x y1
  have n := Int.emod_nonneg x h
  have ir : In (x % y) := In_mod hy h
  have base : y * (x % y) < P512 := prod_lt hy ir
  refine .inr (.inr ⟨by omega, ?_⟩)
  rcases hP with h0 | h0 | ⟨h1, h2⟩
  · exact absurd h0 h
  · subst h0; simpa using base
  · by_cases hk : k = 0
    · subst hk; simpa using base
    · obtain ⟨j, rfl⟩ : ∃ j, k = j + 1 := ⟨k - 1, by omega⟩
      simp only [Nat.add_sub_cancel] at h2 ⊢
      have hh := half hx.1 y1 h1
      have p : (0 : Int) < 2 ^ j := Int.pow_pos (by omega)
      have m1 : y * (2 * (x % y)) ≤ y * x := Int.mul_le_mul_of_nonneg_left hh (by omega)
      have m2 := Int.mul_le_mul_of_nonneg_right m1 (Int.le_of_lt p)
      have e : y * (x % y) * 2 ^ (j + 1) = y * (2 * (x % y)) * 2 ^ j := by rw [Int.pow_succ]; grind
      have e2 : y * x = x * y := Int.mul_comm _ _
      rw [e]; rw [e2] at m2; omega
theorem PBk.fin {x y : Int} (hy : In y) (hP : PBk 600 x y) : y = 0 := by
  rcases hP with h | h | ⟨h1, h2⟩
  · exact h
  · omega
  · by_cases h : y < 1
    · have := hy.1; omega
    · exfalso
      have m0 : 1 * 1 ≤ x * y := Int.mul_le_mul (by omega) (by omega) (by omega) (by omega)
      have p : (0 : Int) ≤ 2 ^ (512 + 87) := Int.le_of_lt (Int.pow_pos (by omega))
      have m := Int.mul_le_mul_of_nonneg_right m0 p
      have c := P_le 87
      have h2' : x * y * 2 ^ (512 + 87) < P512 := h2
      generalize (2 : Int) ^ (512 + 87) = z at *
      omega
/-- The reference's numbers on the way to an inverse. -/
structure RV (m a x y fx fy : Int) (k : Nat) : Prop where
  x0 : 0 ≤ x
  xy : x < y
  ym : y ≤ m
  g : gI y x = gI m a
  dx : m ∣ fx * a - x
  dy : m ∣ fy * a - y
  fx0 : 0 ≤ fx ∧ fx < m
  fy0 : 0 ≤ fy ∧ fy < m
  b : y * x * 2 ^ k < P512
theorem RV.start {m a : Int} (hm : In m) (h1 : 1 < m) (h0 : 0 ≤ a) (ha : a < m) : RV m a a m 1 0 0 where
  x0 := h0
  xy := ha
  ym := Int.le_refl _
  g := rfl
  dx := ⟨0, by omega⟩
  dy := ⟨-1, by omega⟩
  fx0 := ⟨by omega, h1⟩
  fy0 := ⟨by omega, by omega⟩
  b := by
    have := prod_lt hm (show In a from ⟨h0, by have := hm.2; omega⟩)
    simpa using this
theorem RV.step {m a x y fx fy : Int} {k : Nat} (h : RV m a x y fx fy k) (hx : x ≠ 0) : RV m a (y % x) x ((fy - y / x * fx % m) % m) fx (k + 1) where
  x0 := Int.emod_nonneg _ hx
  xy := Int.emod_lt_of_pos _ (by have := h.x0; omega)
  ym := by have := h.xy; have := h.ym; omega
  g := by rw [gI_step y x (by have := h.x0; have := h.xy; omega) h.x0 hx]; exact h.g
  dx := by
    obtain ⟨p, hp⟩ := h.dx
    obtain ⟨q, hq⟩ := h.dy
    have e1 := Int.mul_ediv_add_emod (y / x * fx) m
    have e2 := Int.mul_ediv_add_emod (fy - y / x * fx % m) m
    have e3 := Int.mul_ediv_add_emod y x
    generalize (fy - y / x * fx % m) % m = u at *
    generalize (fy - y / x * fx % m) / m = u1 at *
    generalize y / x * fx % m = v at *
    generalize y / x * fx / m = v1 at *
    generalize y % x = r at *
    generalize y / x = s at *
    exact ⟨q - s * p + v1 * a - u1 * a, by grind⟩
  dy := h.dx
  fx0 := by
    have m0 : 0 < m := by have := h.x0; have := h.xy; have := h.ym; omega
    exact ⟨Int.emod_nonneg _ (by omega), Int.emod_lt_of_pos _ m0⟩
  fy0 := h.fx0
  b := by
    have x1 : 0 < x := by have := h.x0; omega
    have hh := half (show 0 ≤ y by have := h.xy; omega) x1 (by have := h.xy; omega)
    have p : (0 : Int) < 2 ^ k := Int.pow_pos (by omega)
    have m1 : x * (2 * (y % x)) ≤ x * y := Int.mul_le_mul_of_nonneg_left hh (by omega)
    have m2 := Int.mul_le_mul_of_nonneg_right m1 (Int.le_of_lt p)
    have e : x * (y % x) * 2 ^ (k + 1) = x * (2 * (y % x)) * 2 ^ k := by rw [Int.pow_succ]; grind
    have hb := h.b
    have e2 : x * y = y * x := Int.mul_comm _ _
    rw [e]; rw [e2] at m2; omega
theorem RV.fin {m a x y fx fy : Int} (h : RV m a x y fx fy 600) : x = 0 := by
  by_cases h1 : x < 1
  · have := h.x0; omega
  · exfalso
    have hb := h.b
    have m0 : 1 * 1 ≤ y * x := Int.mul_le_mul (by have := h.xy; omega) (by omega) (by omega) (by have := h.xy; omega)
    have p : (0 : Int) ≤ 2 ^ (512 + 88) := Int.le_of_lt (Int.pow_pos (by omega))
    have m := Int.mul_le_mul_of_nonneg_right m0 p
    have c := P_le 88
    have hb : y * x * 2 ^ (512 + 88) < P512 := hb
    generalize (2 : Int) ^ (512 + 88) = z at *
    omega
theorem lss_i (p q : Operand) (x y : Int) (b : Bool) (w : World) (h : decide (x < y) = b) : (do eqGuard .lss 3 p q (.int .i64 x) (.int .i64 y); binOp .lss 3 (.int .i64 x) (.int .i64 y) : Sem Value).run Try.prog w = .ok (.bool b) w := by
  subst h; go_simp
theorem bd1 (w : World) : (Instr.build 25 [(0, .int .u64 1)].toArray).run Try.prog w = .ok (NV 1) w := by
  have k : (Instr.build 25 [(0, .int .u64 1)].toArray).run Try.prog w = .ok (A4 1 0 0 0) w := by kernel_rfl
  rw [NV_small (show (0 : Int) ≤ 1 by omega) (by omega)]; exact k
theorem bd4 (x y z t : Int) (w : World) : (Instr.build 25 [(0, .int .u64 x), (1, .int .u64 y), (2, .int .u64 z), (3, .int .u64 t)].toArray).run Try.prog w = .ok (A4 x y z t) w := by kernel_rfl
set_option maxRecDepth 100000 in
set_option maxHeartbeats 2000000 in
theorem xGcd (a b : Int) (w : World) (ha : In a) (hb : In b) :
    Calls Try.prog 24 #[NV a, NV b] w fun e w' => e = .returned (NV (gI a b)) ∧ Below w.heap.size w w' := by
  go_enter Try.func24, Try.ntmps24
  go_upto_region 1 with fail
  generalize hC : (((w.alloc (.cells (LN a : List Value).toArray 25)).alloc (.cells (LN b : List Value).toArray 25)).alloc (.cells (L0s : List Value).toArray 25)) = v0 at *
  have HB0 : Below w.heap.size w v0 := by rw [← hC]; exact (balloc (balloc (balloc (bself w) _) _) _)
  have K0p0 : CV v0 (w.heap.size) (LN a) := by rw [← hC]; exact (((CV.new w (LN a) 25).alloc (by simp <;> omega) _).alloc (by simp <;> omega) _)
  have l0p0 : w.heap.size < v0.heap.size := by rw [← hC]; simp <;> omega
  have K0p1 : CV v0 (w.heap.size + 1) (LN b) := by rw [← hC]; exact ((CV.newAt (w.alloc (.cells (LN a : List Value).toArray 25)) (LN b) 25 _ (by simp)).alloc (by simp <;> omega) _)
  have l0p1 : w.heap.size + 1 < v0.heap.size := by rw [← hC]; simp <;> omega
  have K0r4 : CV v0 (w.heap.size + 1 + 1) (L0s) := by rw [← hC]; exact (CV.newAt ((w.alloc (.cells (LN a : List Value).toArray 25)).alloc (.cells (LN b : List Value).toArray 25)) (L0s) 25 _ (by simp))
  have l0r4 : w.heap.size + 1 + 1 < v0.heap.size := by rw [← hC]; simp <;> omega
  clear hC
  refine region_plain [5] (fun fZ tZ uZ => MR w.heap.size w (v0.heap.size) [(w.heap.size, LN a), (w.heap.size + 1, LN b), (w.heap.size + 1 + 1, L0s)] [] [] uZ ∧ Gs fZ tZ [(0, 5, (Go.Value.int Go.IntKind.i64 0))] ∧ Os fZ [] ∧ Ns fZ tZ []) (by kernel_rfl) ?_ ?_ ?_
  · exact ⟨{ bel := HB0, lo := HB0.size, sz := Nat.le_refl _, ks := ⟨⟨l0p0, K0p0⟩, ⟨l0p1, K0p1⟩, ⟨l0r4, K0r4⟩, trivial⟩, ex := trivial, nw := trivial, nd := trivial }, Gs.none _ _, Os.none _, trivial⟩
  · rintro fZ tZ uZ iZ oZ aZ hF ⟨hM, hG, hO, hN⟩ ho hfi hdep
    obtain ⟨hS, hV⟩ := hF.two 27 (by decide) rfl (by decide)
    cases cZ1 ho
    cases ho
    · exact t_assign rfl hF hS rfl rfl rfl rfl (by decide) (Jt hM hG hN)
  rintro fZ tZ u1 ⟨hM, hG, hO, hN⟩ hall
  obtain ⟨e5, -⟩ := Gs.all 1 hall hG rfl
  have HB1 : Below w.heap.size w u1 := hM.bel
  have sz1 : v0.heap.size ≤ u1.heap.size := hM.sz
  obtain ⟨⟨l1p0, K1p0⟩, ⟨l1p1, K1p1⟩, ⟨l1r4, K1r4⟩, -⟩ := hM.ks.up hM.sz
  dsimp only at l1p0 K1p0 l1p1 K1p1 l1r4 K1r4
  simp only [ovr, List.set_cons_zero, List.set_cons_succ, e5]
  clear hM hG hO hN hall e5 K0p0 K0p1 K0r4 HB0
  clear tZ
  go_wp2_with fail
  go_loopw [5] (fun s5 wr => ∃ (k : Nat) (x y : Int), s5 = .int .i64 (k : Int) ∧ k ≤ 600 ∧ In x ∧ In y ∧ Hid (gI x y = gI a b) ∧ Hid (PBk k x y) ∧ Below w.heap.size w wr ∧ CV wr (w.heap.size) (LN x) ∧ CV wr (w.heap.size + 1) (LN y) ∧ CV wr (w.heap.size + 1 + 1) L0s ∧ w.heap.size + 1 + 1 < wr.heap.size) (fun s5 _ => 600 - (intOf s5).toNat)
  case atStart => exact ⟨0, a, b, rfl, by omega, ha, hb, rfl, .inr (.inl rfl), HB1, K1p0, K1p1, K1r4, l1r4⟩
  case round =>
    obtain ⟨k, x, y, rfl, hk, ix, iy, hg, hP, HBr, Kx, Ky, Kr, lr⟩ := hrel
    clear HB1 K1p0 K1p1 K1r4
    by_cases h2 : y = 0
    · have hgx : Hid (gI a b = x) := by show _ = _; rw [← hg.out, h2, gI_0 x ix.1]
      have hz : decide (y = 0) = !false := by simp [h2]
      clear hg hP
      by_cases h6 : k < 600
      · have hl : decide ((k : Int) < 600) = true := by simp; omega
        go_upto_region 2 with fail
        refine region_plain [8, 9, 10, 11, 12, 13, 14] (fun fZ tZ uZ => MR w.heap.size w (wr.heap.size) [(w.heap.size, LN x), (w.heap.size + 1, LN y), (w.heap.size + 1 + 1, L0s)] [] [] uZ ∧ Gs fZ tZ [(0, 8, .int .i64 (k : Int)), (1, 9, .bool true), (2, 10, .bool true), (3, 11, NV y), (4, 12, A4 (0) (0) (0) (0)), (5, 13, .bool false), (6, 14, .bool false)] ∧ Os fZ [] ∧ Ns fZ tZ []) (by kernel_rfl) ?_ ?_ ?_
        · exact ⟨{ bel := HBr, lo := HBr.size, sz := Nat.le_refl _, ks := ⟨⟨(by omega), Kx⟩, ⟨(by omega), Ky⟩, ⟨lr, Kr⟩, trivial⟩, ex := trivial, nw := trivial, nd := trivial }, Gs.none _ _, Os.none _, trivial⟩
        · rintro fZ tZ uZ iZ oZ aZ hF ⟨hM, hG, hO, hN⟩ ho hfi hdep
          obtain ⟨hS, hV⟩ := hF.two 27 (by decide) rfl (by decide)
          rcases cZ7 ho with rfl | rfl | rfl | rfl | rfl | rfl | rfl <;> cases ho
          · exact t_move (show aZ.eval (.tmp 5) = .int .i64 (k : Int) from (hF.out 5 (by decide)).trans rfl) hF hS rfl rfl rfl rfl (by decide) (Jt hM hG hN)
          · refine op_plain rfl rfl (fun K hK => ?_)
            refine wp_bin rfl (ve 8 hV (hG.1 (dd 0 hdep))) rfl (lss_i _ _ (k : Int) 600 _ uZ hl) ?_
            exact tell hK hF hS (by decide) (Jt hM hG hN)
          · exact t_move (ve 9 hV (hG.2.1 (dd 1 hdep))) hF hS rfl rfl rfl rfl (by decide) (Jt hM hG hN)
          · refine wpOp_step rfl (fun K hK => ?_)
            have yg : fZ 2 = true := hdep ⟨2, .guard⟩ (by simp) rfl
            have eg : tZ 10 = .bool true := hG.2.2.1 yg
            rw [if_pos (wanted_of rfl rfl (show aZ.tmps[10]? = some (.bool true) by rw [hF.tmps (N := 27) (by decide) rfl 10 (by decide) (by decide), eg]))]
            refine wp_load_mid 25 _ rfl _ 0 (show aZ.eval (.tmp 3) = .pointer (some ⟨w.heap.size + 1, 0, none⟩) from (hF.out 3 (by decide)).trans rfl) _ _ (CV.range hM.ks.2.1.2) Try.underlying25 rfl info_api_Nat ?_
            exact tell hK hF hS (by decide) (Jt hM hG hN)
          · refine wpOp_step rfl (fun K hK => ?_)
            have yg : fZ 2 = true := hdep ⟨2, .guard⟩ (by simp) rfl
            have eg : tZ 10 = .bool true := hG.2.2.1 yg
            rw [if_pos (wanted_of rfl rfl (show aZ.tmps[10]? = some (.bool true) by rw [hF.tmps (N := 27) (by decide) rfl 10 (by decide) (by decide), eg]))]
            refine wp_val (v := A4 (0) (0) (0) (0)) (w' := uZ) (by kernel_rfl) ?_
            exact tell hK hF hS (by decide) (Jt hM hG hN)
          · refine wpOp_step rfl (fun K hK => ?_)
            have yg : fZ 2 = true := hdep ⟨2, .guard⟩ (by simp) rfl
            have eg : tZ 10 = .bool true := hG.2.2.1 yg
            rw [if_pos (wanted_of rfl rfl (show aZ.tmps[10]? = some (.bool true) by rw [hF.tmps (N := 27) (by decide) rfl 10 (by decide) (by decide), eg]))]
            refine wp_bin rfl (ve 11 hV (hG.2.2.2.1 (dd 3 hdep))) (ve 12 hV (hG.2.2.2.2.1 (dd 4 hdep))) (neq_0 _ _ iy _ hz uZ) ?_
            exact tell hK hF hS (by decide) (Jt hM hG hN)
          · refine op_plain rfl rfl (fun K hK => ?_)
            refine wp_pick rfl (ve 10 hV (hG.2.2.1 (dd 2 hdep))) (b := true) ((if_pos rfl).trans (ve 13 hV (hG.2.2.2.2.2.1 (dd 5 hdep)))) ?_
            exact tell hK hF hS (by decide) (Jt hM hG hN)
        rintro fZ tZ u2 ⟨hM, hG, hO, hN⟩ hall
        obtain ⟨e8, e9, e10, e11, e12, e13, e14, -⟩ := Gs.all 7 hall hG rfl
        have HB2 : Below w.heap.size w u2 := hM.bel
        have sz2 : wr.heap.size ≤ u2.heap.size := hM.sz
        obtain ⟨⟨l2p0, K2p0⟩, -, ⟨l2r4, K2r4⟩, -⟩ := hM.ks.up hM.sz
        dsimp only at l2p0 K2p0 l2r4 K2r4
        simp only [ovr, List.set_cons_zero, List.set_cons_succ, e8, e9, e10, e11, e12, e13, e14]
        clear hM hG hO hN hall e8 e9 e10 e11 e12 e13 e14 Kr Kx Ky
        clear tZ
        go_upto_region 6 with fail
        refine region_plain [26] (fun fZ tZ uZ => MR w.heap.size w (u2.heap.size) [(w.heap.size, LN x)] [(w.heap.size + 1 + 1, fZ 1, L0s, LN x)] [] uZ ∧ Gs fZ tZ [(0, 26, NV x)] ∧ Os fZ [] ∧ Ns fZ tZ []) (by kernel_rfl) ?_ ?_ ?_
        · exact ⟨{ bel := HB2, lo := HB2.size, sz := Nat.le_refl _, ks := ⟨⟨l2p0, K2p0⟩, trivial⟩, ex := ⟨⟨(by omega), l2r4, rfl, K2r4⟩, trivial⟩, nw := trivial, nd := trivial }, Gs.none _ _, Os.none _, trivial⟩
        · rintro fZ tZ uZ iZ oZ aZ hF ⟨hM, hG, hO, hN⟩ ho hfi hdep
          obtain ⟨hS, hV⟩ := hF.two 27 (by decide) rfl (by decide)
          rcases cZ2 ho with rfl | rfl <;> cases ho
          · exact t_load (show aZ.eval (.tmp 2) = .pointer (some ⟨w.heap.size, 0, none⟩) from (hF.out 2 (by decide)).trans rfl) hM.ks.1.2 Try.underlying25 info_api_Nat hF hS rfl rfl rfl rfl rfl (by decide) (Jt hM hG hN)
          · refine op_plain rfl rfl (fun K hK => ?_)
            have kk : CV uZ (w.heap.size + 1 + 1) (bif fZ 1 then LN x else L0s) := hM.ex.1.2.2.2
            rw [hfi] at kk
            have kk : CV uZ (w.heap.size + 1 + 1) (L0s) := kk
            refine wp_store_mid 25 _ _ rfl (w.heap.size + 1 + 1) 0 (LN x : List Value).toArray (show aZ.eval (.tmp 4) = .pointer (some ⟨w.heap.size + 1 + 1, 0, none⟩) from (hF.out 4 (by decide)).trans rfl) (ve 26 hV (hG.1 (dd 0 hdep))) kk.there info_api_Nat (all_one rfl) ?_
            exact tell0 hK hF ⟨MR.putXF 0 hM rfl ⟨by omega, trivial⟩ trivial, Gs.idle rfl hG, trivial, Ns.idle hN⟩
        rintro fZ tZ u3 ⟨hM, hG, hO, hN⟩ hall
        obtain ⟨e26, -⟩ := Gs.all 2 hall hG rfl
        have HB3 : Below w.heap.size w u3 := hM.bel
        have sz3 : u2.heap.size ≤ u3.heap.size := hM.sz
        have K3r4 : CV u3 (w.heap.size + 1 + 1) (LN x) := by
          have h1 : CV u3 (w.heap.size + 1 + 1) (bif fZ 1 then LN x else L0s) := hM.ex.1.2.2.2
          rw [hall 1 (by decide)] at h1; exact h1
        have l3r4 : w.heap.size + 1 + 1 < u3.heap.size := Nat.lt_of_lt_of_le hM.ex.1.2.1 hM.sz
        simp only [ovr, List.set_cons_zero, List.set_cons_succ, e26]
        clear hM hG hO hN hall e26 K2p0 K2r4 HB2
        clear tZ
        have c4_0 := (K3r4 0 _ rfl).1
        have c4_1 := (K3r4 1 _ rfl).1
        have c4_2 := (K3r4 2 _ rfl).1
        have c4_3 := (K3r4 3 _ rfl).1
        go_wp2
        refine bodyPost_ret (v := NV x) (by simp [results, Try.results24, go_sem, c4_0, c4_1, c4_2, c4_3]) rfl ⟨by rw [hgx.out], HB3⟩
      · have hl : decide ((k : Int) < 600) = false := by simp; omega
        go_upto_region 2 with fail
        refine region_plain [8, 9, 10, 11, 12, 13, 14] (fun fZ tZ uZ => MR w.heap.size w (wr.heap.size) [(w.heap.size, LN x), (w.heap.size + 1, LN y), (w.heap.size + 1 + 1, L0s)] [] [] uZ ∧ Gs fZ tZ [(0, 8, .int .i64 (k : Int)), (1, 9, .bool false), (2, 10, .bool false), (3, 11, undef), (4, 12, undef), (5, 13, undef), (6, 14, (Go.Value.bool Bool.false))] ∧ Os fZ [] ∧ Ns fZ tZ []) (by kernel_rfl) ?_ ?_ ?_
        · exact ⟨{ bel := HBr, lo := HBr.size, sz := Nat.le_refl _, ks := ⟨⟨(by omega), Kx⟩, ⟨(by omega), Ky⟩, ⟨lr, Kr⟩, trivial⟩, ex := trivial, nw := trivial, nd := trivial }, Gs.none _ _, Os.none _, trivial⟩
        · rintro fZ tZ uZ iZ oZ aZ hF ⟨hM, hG, hO, hN⟩ ho hfi hdep
          obtain ⟨hS, hV⟩ := hF.two 27 (by decide) rfl (by decide)
          rcases cZ7 ho with rfl | rfl | rfl | rfl | rfl | rfl | rfl <;> cases ho
          · exact t_move (show aZ.eval (.tmp 5) = .int .i64 (k : Int) from (hF.out 5 (by decide)).trans rfl) hF hS rfl rfl rfl rfl (by decide) (Jt hM hG hN)
          · refine op_plain rfl rfl (fun K hK => ?_)
            refine wp_bin rfl (ve 8 hV (hG.1 (dd 0 hdep))) rfl (lss_i _ _ (k : Int) 600 _ uZ hl) ?_
            exact tell hK hF hS (by decide) (Jt hM hG hN)
          · exact t_move (ve 9 hV (hG.2.1 (dd 1 hdep))) hF hS rfl rfl rfl rfl (by decide) (Jt hM hG hN)
          · refine wpOp_step rfl (fun K hK => ?_)
            have yg : fZ 2 = true := hdep ⟨2, .guard⟩ (by simp) rfl
            have eg : tZ 10 = .bool false := hG.2.2.1 yg
            rw [if_neg (unwanted_of rfl rfl (show aZ.tmps[10]? = some (.bool false) by rw [hF.tmps (N := 27) (by decide) rfl 10 (by decide) (by decide), eg]) rfl)]
            exact tell hK hF hS (by decide) (Jt hM hG hN)
          · refine wpOp_step rfl (fun K hK => ?_)
            have yg : fZ 2 = true := hdep ⟨2, .guard⟩ (by simp) rfl
            have eg : tZ 10 = .bool false := hG.2.2.1 yg
            rw [if_neg (unwanted_of rfl rfl (show aZ.tmps[10]? = some (.bool false) by rw [hF.tmps (N := 27) (by decide) rfl 10 (by decide) (by decide), eg]) rfl)]
            exact tell hK hF hS (by decide) (Jt hM hG hN)
          · refine wpOp_step rfl (fun K hK => ?_)
            have yg : fZ 2 = true := hdep ⟨2, .guard⟩ (by simp) rfl
            have eg : tZ 10 = .bool false := hG.2.2.1 yg
            rw [if_neg (unwanted_of rfl rfl (show aZ.tmps[10]? = some (.bool false) by rw [hF.tmps (N := 27) (by decide) rfl 10 (by decide) (by decide), eg]) rfl)]
            exact tell hK hF hS (by decide) (Jt hM hG hN)
          · refine op_plain rfl rfl (fun K hK => ?_)
            refine wp_pick rfl (ve 10 hV (hG.2.2.1 (dd 2 hdep))) (b := false) ((if_neg (by decide)).trans rfl) ?_
            exact tell hK hF hS (by decide) (Jt hM hG hN)
        rintro fZ tZ u2 ⟨hM, hG, hO, hN⟩ hall
        obtain ⟨e8, e9, e10, e11, e12, e13, e14, -⟩ := Gs.all 7 hall hG rfl
        have HB2 : Below w.heap.size w u2 := hM.bel
        have sz2 : wr.heap.size ≤ u2.heap.size := hM.sz
        obtain ⟨⟨l2p0, K2p0⟩, -, ⟨l2r4, K2r4⟩, -⟩ := hM.ks.up hM.sz
        dsimp only at l2p0 K2p0 l2r4 K2r4
        simp only [ovr, List.set_cons_zero, List.set_cons_succ, e8, e9, e10, e11, e12, e13, e14]
        clear hM hG hO hN hall e8 e9 e10 e11 e12 e13 e14 Kr Kx Ky
        clear tZ
        go_upto_region 6 with fail
        refine region_plain [26] (fun fZ tZ uZ => MR w.heap.size w (u2.heap.size) [(w.heap.size, LN x)] [(w.heap.size + 1 + 1, fZ 1, L0s, LN x)] [] uZ ∧ Gs fZ tZ [(0, 26, NV x)] ∧ Os fZ [] ∧ Ns fZ tZ []) (by kernel_rfl) ?_ ?_ ?_
        · exact ⟨{ bel := HB2, lo := HB2.size, sz := Nat.le_refl _, ks := ⟨⟨l2p0, K2p0⟩, trivial⟩, ex := ⟨⟨(by omega), l2r4, rfl, K2r4⟩, trivial⟩, nw := trivial, nd := trivial }, Gs.none _ _, Os.none _, trivial⟩
        · rintro fZ tZ uZ iZ oZ aZ hF ⟨hM, hG, hO, hN⟩ ho hfi hdep
          obtain ⟨hS, hV⟩ := hF.two 27 (by decide) rfl (by decide)
          rcases cZ2 ho with rfl | rfl <;> cases ho
          · exact t_load (show aZ.eval (.tmp 2) = .pointer (some ⟨w.heap.size, 0, none⟩) from (hF.out 2 (by decide)).trans rfl) hM.ks.1.2 Try.underlying25 info_api_Nat hF hS rfl rfl rfl rfl rfl (by decide) (Jt hM hG hN)
          · refine op_plain rfl rfl (fun K hK => ?_)
            have kk : CV uZ (w.heap.size + 1 + 1) (bif fZ 1 then LN x else L0s) := hM.ex.1.2.2.2
            rw [hfi] at kk
            have kk : CV uZ (w.heap.size + 1 + 1) (L0s) := kk
            refine wp_store_mid 25 _ _ rfl (w.heap.size + 1 + 1) 0 (LN x : List Value).toArray (show aZ.eval (.tmp 4) = .pointer (some ⟨w.heap.size + 1 + 1, 0, none⟩) from (hF.out 4 (by decide)).trans rfl) (ve 26 hV (hG.1 (dd 0 hdep))) kk.there info_api_Nat (all_one rfl) ?_
            exact tell0 hK hF ⟨MR.putXF 0 hM rfl ⟨by omega, trivial⟩ trivial, Gs.idle rfl hG, trivial, Ns.idle hN⟩
        rintro fZ tZ u3 ⟨hM, hG, hO, hN⟩ hall
        obtain ⟨e26, -⟩ := Gs.all 2 hall hG rfl
        have HB3 : Below w.heap.size w u3 := hM.bel
        have sz3 : u2.heap.size ≤ u3.heap.size := hM.sz
        have K3r4 : CV u3 (w.heap.size + 1 + 1) (LN x) := by
          have h1 : CV u3 (w.heap.size + 1 + 1) (bif fZ 1 then LN x else L0s) := hM.ex.1.2.2.2
          rw [hall 1 (by decide)] at h1; exact h1
        have l3r4 : w.heap.size + 1 + 1 < u3.heap.size := Nat.lt_of_lt_of_le hM.ex.1.2.1 hM.sz
        simp only [ovr, List.set_cons_zero, List.set_cons_succ, e26]
        clear hM hG hO hN hall e26 K2p0 K2r4 HB2
        clear tZ
        have c4_0 := (K3r4 0 _ rfl).1
        have c4_1 := (K3r4 1 _ rfl).1
        have c4_2 := (K3r4 2 _ rfl).1
        have c4_3 := (K3r4 3 _ rfl).1
        go_wp2
        refine bodyPost_ret (v := NV x) (by simp [results, Try.results24, go_sem, c4_0, c4_1, c4_2, c4_3]) rfl ⟨by rw [hgx.out], HB3⟩
    · have h6 : k < 600 := by
        rcases Nat.lt_or_ge k 600 with h | h
        · exact h
        · have : k = 600 := by omega
          subst this; exact absurd (PBk.fin iy hP.out) h2
      have hl : decide ((k : Int) < 600) = true := by simp; omega
      have hz : decide (y = 0) = !true := by simp [h2]
      have i1 : In (x % y) := In_mod iy h2
      have hgx : Hid (gI y (x % y) = gI a b) := by rw [← hg.out]; exact gI_step x y ix.1 iy.1 h2
      have hPx : Hid _ := PBk.step ix iy h2 hP.out
      clear hg hP
      go_upto_region 2 with fail
      refine region_plain [8, 9, 10, 11, 12, 13, 14] (fun fZ tZ uZ => MR w.heap.size w (wr.heap.size) [(w.heap.size, LN x), (w.heap.size + 1, LN y), (w.heap.size + 1 + 1, L0s)] [] [] uZ ∧ Gs fZ tZ [(0, 8, .int .i64 (k : Int)), (1, 9, .bool true), (2, 10, .bool true), (3, 11, NV y), (4, 12, A4 (0) (0) (0) (0)), (5, 13, .bool true), (6, 14, .bool true)] ∧ Os fZ [] ∧ Ns fZ tZ []) (by kernel_rfl) ?_ ?_ ?_
      · exact ⟨{ bel := HBr, lo := HBr.size, sz := Nat.le_refl _, ks := ⟨⟨(by omega), Kx⟩, ⟨(by omega), Ky⟩, ⟨lr, Kr⟩, trivial⟩, ex := trivial, nw := trivial, nd := trivial }, Gs.none _ _, Os.none _, trivial⟩
      · rintro fZ tZ uZ iZ oZ aZ hF ⟨hM, hG, hO, hN⟩ ho hfi hdep
        obtain ⟨hS, hV⟩ := hF.two 27 (by decide) rfl (by decide)
        rcases cZ7 ho with rfl | rfl | rfl | rfl | rfl | rfl | rfl <;> cases ho
        · exact t_move (show aZ.eval (.tmp 5) = .int .i64 (k : Int) from (hF.out 5 (by decide)).trans rfl) hF hS rfl rfl rfl rfl (by decide) (Jt hM hG hN)
        · refine op_plain rfl rfl (fun K hK => ?_)
          refine wp_bin rfl (ve 8 hV (hG.1 (dd 0 hdep))) rfl (lss_i _ _ (k : Int) 600 _ uZ hl) ?_
          exact tell hK hF hS (by decide) (Jt hM hG hN)
        · exact t_move (ve 9 hV (hG.2.1 (dd 1 hdep))) hF hS rfl rfl rfl rfl (by decide) (Jt hM hG hN)
        · refine wpOp_step rfl (fun K hK => ?_)
          have yg : fZ 2 = true := hdep ⟨2, .guard⟩ (by simp) rfl
          have eg : tZ 10 = .bool true := hG.2.2.1 yg
          rw [if_pos (wanted_of rfl rfl (show aZ.tmps[10]? = some (.bool true) by rw [hF.tmps (N := 27) (by decide) rfl 10 (by decide) (by decide), eg]))]
          refine wp_load_mid 25 _ rfl _ 0 (show aZ.eval (.tmp 3) = .pointer (some ⟨w.heap.size + 1, 0, none⟩) from (hF.out 3 (by decide)).trans rfl) _ _ (CV.range hM.ks.2.1.2) Try.underlying25 rfl info_api_Nat ?_
          exact tell hK hF hS (by decide) (Jt hM hG hN)
        · refine wpOp_step rfl (fun K hK => ?_)
          have yg : fZ 2 = true := hdep ⟨2, .guard⟩ (by simp) rfl
          have eg : tZ 10 = .bool true := hG.2.2.1 yg
          rw [if_pos (wanted_of rfl rfl (show aZ.tmps[10]? = some (.bool true) by rw [hF.tmps (N := 27) (by decide) rfl 10 (by decide) (by decide), eg]))]
          refine wp_val (v := A4 (0) (0) (0) (0)) (w' := uZ) (by kernel_rfl) ?_
          exact tell hK hF hS (by decide) (Jt hM hG hN)
        · refine wpOp_step rfl (fun K hK => ?_)
          have yg : fZ 2 = true := hdep ⟨2, .guard⟩ (by simp) rfl
          have eg : tZ 10 = .bool true := hG.2.2.1 yg
          rw [if_pos (wanted_of rfl rfl (show aZ.tmps[10]? = some (.bool true) by rw [hF.tmps (N := 27) (by decide) rfl 10 (by decide) (by decide), eg]))]
          refine wp_bin rfl (ve 11 hV (hG.2.2.2.1 (dd 3 hdep))) (ve 12 hV (hG.2.2.2.2.1 (dd 4 hdep))) (neq_0 _ _ iy _ hz uZ) ?_
          exact tell hK hF hS (by decide) (Jt hM hG hN)
        · refine op_plain rfl rfl (fun K hK => ?_)
          refine wp_pick rfl (ve 10 hV (hG.2.2.1 (dd 2 hdep))) (b := true) ((if_pos rfl).trans (ve 13 hV (hG.2.2.2.2.2.1 (dd 5 hdep)))) ?_
          exact tell hK hF hS (by decide) (Jt hM hG hN)
      rintro fZ tZ u2 ⟨hM, hG, hO, hN⟩ hall
      obtain ⟨e8, e9, e10, e11, e12, e13, e14, -⟩ := Gs.all 7 hall hG rfl
      have HB2 : Below w.heap.size w u2 := hM.bel
      have sz2 : wr.heap.size ≤ u2.heap.size := hM.sz
      obtain ⟨⟨l2p0, K2p0⟩, ⟨l2p1, K2p1⟩, ⟨l2r4, K2r4⟩, -⟩ := hM.ks.up hM.sz
      dsimp only at l2p0 K2p0 l2p1 K2p1 l2r4 K2r4
      simp only [ovr, List.set_cons_zero, List.set_cons_succ, e8, e9, e10, e11, e12, e13, e14]
      clear hM hG hO hN hall e8 e9 e10 e11 e12 e13 e14 Kr Kx Ky
      clear tZ
      go_upto_region 4 with fail
      refine region_drawn [18, 19, 20, 21, 17, 22, 23, 6, 7] (fun fZ tZ uZ => MR w.heap.size w (u2.heap.size) [(w.heap.size, LN x), (w.heap.size + 1, LN y), (w.heap.size + 1 + 1, L0s)] [] [(fZ 7, fZ 8, tZ 6, L0s, LN (x % y))] uZ ∧ Gs fZ tZ [(0, 18, NV x), (1, 19, WV x), (2, 20, NV y), (3, 21, .tuple #[NV (x % y), .int .i64 0]), (4, 17, .tuple #[NV (x % y), .int .i64 0]), (5, 22, NV (x % y)), (6, 23, .int .i64 0), (9, 7, .int .i64 0)] ∧ Os fZ [(8, 7)] ∧ Ns fZ tZ []) (by kernel_rfl) (by kernel_rfl) ?_ ?_ ?_
      · exact ⟨{ bel := HB2.drew, lo := HB2.size, sz := Nat.le_refl _, ks := ⟨⟨l2p0, K2p0⟩, ⟨l2p1, K2p1⟩, ⟨l2r4, K2r4⟩, trivial⟩, ex := trivial, nw := ⟨fun e => (by cases e), trivial⟩, nd := ⟨fun e => (by cases e), trivial⟩ }, Gs.none _ _, Os.none _, trivial⟩
      · rintro fZ tZ uZ iZ oZ aZ hF ⟨hM, hG, hO, hN⟩ ho hfi hdep
        obtain ⟨hS, hV⟩ := hF.two 27 (by decide) rfl (by decide)
        rcases cZ10 ho with rfl | rfl | rfl | rfl | rfl | rfl | rfl | rfl | rfl | rfl <;> cases ho
        · exact t_load (show aZ.eval (.tmp 2) = .pointer (some ⟨w.heap.size, 0, none⟩) from (hF.out 2 (by decide)).trans rfl) hM.ks.1.2 Try.underlying25 info_api_Nat hF hS rfl rfl rfl rfl rfl (by decide) (Jm hM hG hO hN)
        · exact t_call (vs := [NV x]) (by show [aZ.eval (.tmp 18)] = _; rw [(ve 18 hV (hG.1 (dd 0 hdep)))]) ent_seneschalref01_Widen (nrWiden x uZ ix) hF hS rfl rfl rfl rfl (by decide) (fun _ hB => (Jm (hM.call hB) hG hO hN))
        · exact t_load (show aZ.eval (.tmp 3) = .pointer (some ⟨w.heap.size + 1, 0, none⟩) from (hF.out 3 (by decide)).trans rfl) hM.ks.2.1.2 Try.underlying25 info_api_Nat hF hS rfl rfl rfl rfl rfl (by decide) (Jm hM hG hO hN)
        · exact t_call (vs := [WV x, NV y]) (by show [aZ.eval (.tmp 19), aZ.eval (.tmp 20)] = _; rw [(ve 19 hV (hG.2.1 (dd 1 hdep))), (ve 20 hV (hG.2.2.1 (dd 2 hdep)))]) ent_seneschalref02_Reduce (xReduce x y uZ ix.wide iy h2) hF hS rfl rfl rfl rfl (by decide) (fun _ hB => (Jm (hM.call hB) hG hO hN))
        · exact t_move (ve 21 hV (hG.2.2.2.1 (dd 3 hdep))) hF hS rfl rfl rfl rfl (by decide) (Jm hM hG hO hN)
        · exact t_extract (ve 17 hV (hG.2.2.2.2.1 (dd 4 hdep))) hF hS rfl rfl rfl rfl rfl (by decide) (Jm hM hG hO hN)
        · exact t_extract (ve 17 hV (hG.2.2.2.2.1 (dd 4 hdep))) hF hS rfl rfl rfl rfl rfl (by decide) (Jm hM hG hO hN)
        · have q1 : fZ 8 = false := Os.not (hO.1) hfi
          exact t_alloc (al_api_Nat uZ) hF hS rfl rfl rfl rfl (by decide) ⟨MR.newF 0 hM rfl hfi q1, Gs.other rfl hG, hO.keep rfl, Ns.step hN rfl⟩
        · exact t_storeN 0 hM rfl (dd 7 hdep) hfi (hV 6 (by decide)) (ve 22 hV (hG.2.2.2.2.2.1 (dd 5 hdep))) rfl info_api_Nat rfl hF rfl rfl rfl rfl (fun _ h => ⟨h, Gs.idle rfl hG, ⟨fun _ => (dd 7 hdep :), trivial⟩, Ns.idle hN⟩)
        · exact t_assign (ve 23 hV (hG.2.2.2.2.2.2.1 (dd 6 hdep))) hF hS rfl rfl rfl rfl (by decide) (Jm hM hG hO hN)
      rintro fZ tZ u3 ⟨hM, hG, hO, hN⟩ hall
      obtain ⟨e18, e19, e20, e21, e17, e22, e23, e7, -⟩ := Gs.all 10 hall hG rfl
      obtain ⟨b3_7, ee6, pb3_7, lb3_7, kb3_7⟩ := hM.nw.1 (hall 7 (by decide))
      have e6 : tZ 6 = .pointer (some ⟨b3_7, 0, none⟩) := ee6
      clear ee6
      have Kb3_7 : CV u3 b3_7 (LN (x % y)) := by
        have h1 : CV u3 b3_7 (bif fZ 8 then LN (x % y) else L0s) := kb3_7
        rw [hall 8 (by decide)] at h1; exact h1
      clear kb3_7
      have HB3 : Below w.heap.size w u3 := hM.bel
      have sz3 : u2.heap.size ≤ u3.heap.size := hM.sz
      obtain ⟨⟨l3p0, K3p0⟩, ⟨l3p1, K3p1⟩, ⟨l3r4, K3r4⟩, -⟩ := hM.ks.up hM.sz
      dsimp only at l3p0 K3p0 l3p1 K3p1 l3r4 K3r4
      simp only [ovr, List.set_cons_zero, List.set_cons_succ, e18, e19, e20, e21, e17, e22, e23, e7, e6]
      clear hM hG hO hN hall e18 e19 e20 e21 e17 e22 e23 e7 e6 K2p0 K2p1 K2r4 HB2
      clear tZ
      go_upto_region 5 with fail
      refine region_drawn [24, 25] (fun fZ tZ uZ => MR w.heap.size w (u3.heap.size) [(w.heap.size + 1 + 1, L0s), (b3_7, LN (x % y))] [(w.heap.size, fZ 2, LN x, LN y), (w.heap.size + 1, fZ 3, LN y, LN (x % y))] [] uZ ∧ Gs fZ tZ [(0, 24, NV y), (1, 25, NV (x % y))] ∧ Os fZ [(3, 0)] ∧ Ns fZ tZ []) (by kernel_rfl) (by kernel_rfl) ?_ ?_ ?_
      · exact ⟨{ bel := HB3.drew, lo := HB3.size, sz := Nat.le_refl _, ks := ⟨⟨l3r4, K3r4⟩, ⟨lb3_7, Kb3_7⟩, trivial⟩, ex := ⟨⟨(by omega), l3p0, rfl, K3p0⟩, ⟨(by omega), l3p1, rfl, K3p1⟩, trivial⟩, nw := trivial, nd := trivial }, Gs.none _ _, Os.none _, trivial⟩
      · rintro fZ tZ uZ iZ oZ aZ hF ⟨hM, hG, hO, hN⟩ ho hfi hdep
        obtain ⟨hS, hV⟩ := hF.two 27 (by decide) rfl (by decide)
        rcases cZ4 ho with rfl | rfl | rfl | rfl <;> cases ho
        · refine op_plain rfl rfl (fun K hK => ?_)
          have ys : fZ 3 = false := Os.not (hO.1) hfi
          have kk : CV uZ (w.heap.size + 1) (bif fZ 3 then LN (x % y) else LN y) := hM.ex.2.1.2.2.2
          rw [ys] at kk
          have kk : CV uZ (w.heap.size + 1) (LN y) := kk
          refine wp_load_mid 25 _ rfl (w.heap.size + 1) 0 (show aZ.eval (.tmp 3) = .pointer (some ⟨w.heap.size + 1, 0, none⟩) from (hF.out 3 (by decide)).trans rfl) (LN y) _ kk.range Try.underlying25 rfl info_api_Nat ?_
          exact tell hK hF hS (by decide) (Jm hM hG hO hN)
        · exact t_load (show aZ.eval (.tmp 6) = .pointer (some ⟨b3_7, 0, none⟩) from (hF.out 6 (by decide)).trans rfl) hM.ks.2.1.2 Try.underlying25 info_api_Nat hF hS rfl rfl rfl rfl rfl (by decide) (Jm hM hG hO hN)
        · refine op_plain rfl rfl (fun K hK => ?_)
          have kk : CV uZ (w.heap.size) (bif fZ 2 then LN y else LN x) := hM.ex.1.2.2.2
          rw [hfi] at kk
          have kk : CV uZ (w.heap.size) (LN x) := kk
          refine wp_store_mid 25 _ _ rfl (w.heap.size) 0 (LN y : List Value).toArray (show aZ.eval (.tmp 2) = .pointer (some ⟨w.heap.size, 0, none⟩) from (hF.out 2 (by decide)).trans rfl) (ve 24 hV (hG.1 (dd 0 hdep))) kk.there info_api_Nat (all_one rfl) ?_
          exact tell0 hK hF ⟨MR.putXF 0 hM rfl ⟨by omega, by omega, trivial⟩ ⟨by omega, trivial⟩, Gs.idle rfl hG, hO.keep rfl, Ns.idle hN⟩
        · refine op_plain rfl rfl (fun K hK => ?_)
          have kk : CV uZ (w.heap.size + 1) (bif fZ 3 then LN (x % y) else LN y) := hM.ex.2.1.2.2.2
          rw [hfi] at kk
          have kk : CV uZ (w.heap.size + 1) (LN y) := kk
          refine wp_store_mid 25 _ _ rfl (w.heap.size + 1) 0 (LN (x % y) : List Value).toArray (show aZ.eval (.tmp 3) = .pointer (some ⟨w.heap.size + 1, 0, none⟩) from (hF.out 3 (by decide)).trans rfl) (ve 25 hV (hG.2.1 (dd 1 hdep))) kk.there info_api_Nat (all_one rfl) ?_
          exact tell0 hK hF ⟨MR.putXF 1 hM rfl ⟨by omega, by omega, trivial⟩ ⟨by omega, trivial⟩, Gs.idle rfl hG, ⟨fun _ => hdep ⟨0, .phase⟩ (by simp) rfl, trivial⟩, Ns.idle hN⟩
      rintro fZ tZ u4 ⟨hM, hG, hO, hN⟩ hall
      obtain ⟨e24, e25, -⟩ := Gs.all 4 hall hG rfl
      have HB4 : Below w.heap.size w u4 := hM.bel
      have sz4 : u3.heap.size ≤ u4.heap.size := hM.sz
      obtain ⟨⟨l4r4, K4r4⟩, -, -⟩ := hM.ks.up hM.sz
      dsimp only at l4r4 K4r4
      have K4p0 : CV u4 (w.heap.size) (LN y) := by
        have h1 : CV u4 (w.heap.size) (bif fZ 2 then LN y else LN x) := hM.ex.1.2.2.2
        rw [hall 2 (by decide)] at h1; exact h1
      have l4p0 : w.heap.size < u4.heap.size := Nat.lt_of_lt_of_le hM.ex.1.2.1 hM.sz
      have K4p1 : CV u4 (w.heap.size + 1) (LN (x % y)) := by
        have h1 : CV u4 (w.heap.size + 1) (bif fZ 3 then LN (x % y) else LN y) := hM.ex.2.1.2.2.2
        rw [hall 3 (by decide)] at h1; exact h1
      have l4p1 : w.heap.size + 1 < u4.heap.size := Nat.lt_of_lt_of_le hM.ex.2.1.2.1 hM.sz
      simp only [ovr, List.set_cons_zero, List.set_cons_succ, e24, e25]
      clear hM hG hO hN hall e24 e25 K3p0 K3p1 K3r4 Kb3_7 HB3
      clear tZ
      go_upto_region 3 with fail
      refine region_plain [15, 16, 5] (fun fZ tZ uZ => MR w.heap.size w (u4.heap.size) [(w.heap.size, LN y), (w.heap.size + 1, LN (x % y)), (w.heap.size + 1 + 1, L0s)] [] [] uZ ∧ Gs fZ tZ [(0, 15, .int .i64 (k : Int)), (1, 16, .int .i64 ((k : Int) + 1)), (2, 5, .int .i64 ((k : Int) + 1))] ∧ Os fZ [(2, 0)] ∧ Ns fZ tZ [(2, 5, .int .i64 (k : Int))]) (by kernel_rfl) ?_ ?_ ?_
      · exact ⟨{ bel := HB4, lo := HB4.size, sz := Nat.le_refl _, ks := ⟨⟨l4p0, K4p0⟩, ⟨l4p1, K4p1⟩, ⟨l4r4, K4r4⟩, trivial⟩, ex := trivial, nw := trivial, nd := trivial }, Gs.none _ _, Os.none _, ⟨fun _ => rfl, trivial⟩⟩
      · rintro fZ tZ uZ iZ oZ aZ hF ⟨hM, hG, hO, hN⟩ ho hfi hdep
        obtain ⟨hS, hV⟩ := hF.two 27 (by decide) rfl (by decide)
        rcases cZ3 ho with rfl | rfl | rfl <;> cases ho
        · have yi5 : fZ 2 = false := Os.not (hO.1) hfi
          have ei5 : tZ 5 = .int .i64 (k : Int) := hN.1 yi5
          exact t_move ((hV 5 (by decide)).trans ei5) hF hS rfl rfl rfl rfl (by decide) (Jm hM hG hO hN)
        · refine op_plain rfl rfl (fun K hK => ?_)
          refine wp_bin rfl (ve 15 hV (hG.1 (dd 0 hdep))) rfl (add_i _ _ (k : Int) 1 ((k : Int) + 1) uZ rfl (by omega) (by omega)) ?_
          exact tell hK hF hS (by decide) (Jm hM hG hO hN)
        · exact t_assign (ve 16 hV (hG.2.1 (dd 1 hdep))) hF hS rfl rfl rfl rfl (by decide) ⟨hM, Gs.stepA hG rfl rfl, ⟨fun _ => hdep ⟨0, .phase⟩ (by simp) rfl, trivial⟩, Ns.step hN rfl⟩
      rintro fZ tZ u5 ⟨hM, hG, hO, hN⟩ hall
      obtain ⟨e15, e16, e5, -⟩ := Gs.all 3 hall hG rfl
      have HB5 : Below w.heap.size w u5 := hM.bel
      have sz5 : u4.heap.size ≤ u5.heap.size := hM.sz
      obtain ⟨⟨l5p0, K5p0⟩, ⟨l5p1, K5p1⟩, ⟨l5r4, K5r4⟩, -⟩ := hM.ks.up hM.sz
      dsimp only at l5p0 K5p0 l5p1 K5p1 l5r4 K5r4
      simp only [ovr, List.set_cons_zero, List.set_cons_succ, e15, e16, e5]
      clear hM hG hO hN hall e15 e16 e5 K4p0 K4p1 K4r4 HB4
      clear tZ
      go_wp2
      refine ⟨⟨k + 1, y, x % y, by simp, by omega, iy, i1, hgx, hPx, HB5, K5p0, K5p1, K5r4, l5r4⟩, ?_⟩
      simp [intOf] <;> omega
set_option maxRecDepth 100000 in
set_option maxHeartbeats 2000000 in
theorem xInverse1 (a m : Int) (w : World) (ha : In a) (hm : In m) (h : m ≠ 0) (h1 : decide (m = 1) = true) :
    Calls Try.prog 22 #[NV a, NV m] w fun e w' => e = .returned (.tuple #[A4 0 0 0 0, .int .i64 0]) ∧ Below w.heap.size w w' := by
  go_enter Try.func22, Try.ntmps22
  go_upto_region 1 with fail
  generalize hC : (((w.alloc (.cells (LN a : List Value).toArray 25)).alloc (.cells (LN m : List Value).toArray 25)).alloc (.cells (L0s : List Value).toArray 25)) = v0 at *
  have HB0 : Below w.heap.size w v0 := by rw [← hC]; exact (balloc (balloc (balloc (bself w) _) _) _)
  have K0p0 : CV v0 (w.heap.size) (LN a) := by rw [← hC]; exact (((CV.new w (LN a) 25).alloc (by simp <;> omega) _).alloc (by simp <;> omega) _)
  have l0p0 : w.heap.size < v0.heap.size := by rw [← hC]; simp <;> omega
  have K0p1 : CV v0 (w.heap.size + 1) (LN m) := by rw [← hC]; exact ((CV.newAt (w.alloc (.cells (LN a : List Value).toArray 25)) (LN m) 25 _ (by simp)).alloc (by simp <;> omega) _)
  have l0p1 : w.heap.size + 1 < v0.heap.size := by rw [← hC]; simp <;> omega
  have K0r4 : CV v0 (w.heap.size + 1 + 1) (L0s) := by rw [← hC]; exact (CV.newAt ((w.alloc (.cells (LN a : List Value).toArray 25)).alloc (.cells (LN m : List Value).toArray 25)) (L0s) 25 _ (by simp))
  have l0r4 : w.heap.size + 1 + 1 < v0.heap.size := by rw [← hC]; simp <;> omega
  clear hC
  refine region_drawn [21, 22, 23, 24, 20, 25, 26, 6, 7] (fun fZ tZ uZ => MR w.heap.size w (v0.heap.size) [(w.heap.size, LN a), (w.heap.size + 1, LN m), (w.heap.size + 1 + 1, L0s)] [] [(fZ 7, fZ 8, tZ 6, L0s, LN (a % m))] uZ ∧ Gs fZ tZ [(0, 21, NV a), (1, 22, WV a), (2, 23, NV m), (3, 24, .tuple #[NV (a % m), .int .i64 0]), (4, 20, .tuple #[NV (a % m), .int .i64 0]), (5, 25, NV (a % m)), (6, 26, .int .i64 0), (9, 7, .int .i64 0)] ∧ Os fZ [(8, 7)] ∧ Ns fZ tZ []) (by kernel_rfl) (by kernel_rfl) ?_ ?_ ?_
  · exact ⟨{ bel := HB0.drew, lo := HB0.size, sz := Nat.le_refl _, ks := ⟨⟨l0p0, K0p0⟩, ⟨l0p1, K0p1⟩, ⟨l0r4, K0r4⟩, trivial⟩, ex := trivial, nw := ⟨fun e => (by cases e), trivial⟩, nd := ⟨fun e => (by cases e), trivial⟩ }, Gs.none _ _, Os.none _, trivial⟩
  · rintro fZ tZ uZ iZ oZ aZ hF ⟨hM, hG, hO, hN⟩ ho hfi hdep
    obtain ⟨hS, hV⟩ := hF.two 87 (by decide) rfl (by decide)
    rcases cZ10 ho with rfl | rfl | rfl | rfl | rfl | rfl | rfl | rfl | rfl | rfl <;> cases ho
    · exact t_load (show aZ.eval (.tmp 2) = .pointer (some ⟨w.heap.size, 0, none⟩) from (hF.out 2 (by decide)).trans rfl) hM.ks.1.2 Try.underlying25 info_api_Nat hF hS rfl rfl rfl rfl rfl (by decide) (Jm hM hG hO hN)
    · exact t_call (vs := [NV a]) (by show [aZ.eval (.tmp 21)] = _; rw [(ve 21 hV (hG.1 (dd 0 hdep)))]) ent_seneschalref01_Widen (nrWiden a uZ ha) hF hS rfl rfl rfl rfl (by decide) (fun _ hB => (Jm (hM.call hB) hG hO hN))
    · exact t_load (show aZ.eval (.tmp 3) = .pointer (some ⟨w.heap.size + 1, 0, none⟩) from (hF.out 3 (by decide)).trans rfl) hM.ks.2.1.2 Try.underlying25 info_api_Nat hF hS rfl rfl rfl rfl rfl (by decide) (Jm hM hG hO hN)
    · exact t_call (vs := [WV a, NV m]) (by show [aZ.eval (.tmp 22), aZ.eval (.tmp 23)] = _; rw [(ve 22 hV (hG.2.1 (dd 1 hdep))), (ve 23 hV (hG.2.2.1 (dd 2 hdep)))]) ent_seneschalref02_Reduce (xReduce a m uZ ha.wide hm h) hF hS rfl rfl rfl rfl (by decide) (fun _ hB => (Jm (hM.call hB) hG hO hN))
    · exact t_move (ve 24 hV (hG.2.2.2.1 (dd 3 hdep))) hF hS rfl rfl rfl rfl (by decide) (Jm hM hG hO hN)
    · exact t_extract (ve 20 hV (hG.2.2.2.2.1 (dd 4 hdep))) hF hS rfl rfl rfl rfl rfl (by decide) (Jm hM hG hO hN)
    · exact t_extract (ve 20 hV (hG.2.2.2.2.1 (dd 4 hdep))) hF hS rfl rfl rfl rfl rfl (by decide) (Jm hM hG hO hN)
    · have q1 : fZ 8 = false := Os.not (hO.1) hfi
      exact t_alloc (al_api_Nat uZ) hF hS rfl rfl rfl rfl (by decide) ⟨MR.newF 0 hM rfl hfi q1, Gs.other rfl hG, hO.keep rfl, Ns.step hN rfl⟩
    · exact t_storeN 0 hM rfl (dd 7 hdep) hfi (hV 6 (by decide)) (ve 25 hV (hG.2.2.2.2.2.1 (dd 5 hdep))) rfl info_api_Nat rfl hF rfl rfl rfl rfl (fun _ h => ⟨h, Gs.idle rfl hG, ⟨fun _ => (dd 7 hdep :), trivial⟩, Ns.idle hN⟩)
    · exact t_assign (ve 26 hV (hG.2.2.2.2.2.2.1 (dd 6 hdep))) hF hS rfl rfl rfl rfl (by decide) (Jm hM hG hO hN)
  rintro fZ tZ u1 ⟨hM, hG, hO, hN⟩ hall
  obtain ⟨e21, e22, e23, e24, e20, e25, e26, e7, -⟩ := Gs.all 10 hall hG rfl
  obtain ⟨b1_7, ee6, pb1_7, lb1_7, kb1_7⟩ := hM.nw.1 (hall 7 (by decide))
  have e6 : tZ 6 = .pointer (some ⟨b1_7, 0, none⟩) := ee6
  clear ee6
  have Kb1_7 : CV u1 b1_7 (LN (a % m)) := by
    have h1 : CV u1 b1_7 (bif fZ 8 then LN (a % m) else L0s) := kb1_7
    rw [hall 8 (by decide)] at h1; exact h1
  clear kb1_7
  have HB1 : Below w.heap.size w u1 := hM.bel
  have sz1 : v0.heap.size ≤ u1.heap.size := hM.sz
  obtain ⟨-, ⟨l1p1, K1p1⟩, ⟨l1r4, K1r4⟩, -⟩ := hM.ks.up hM.sz
  dsimp only at l1p1 K1p1 l1r4 K1r4
  simp only [ovr, List.set_cons_zero, List.set_cons_succ, e21, e22, e23, e24, e20, e25, e26, e7, e6]
  clear hM hG hO hN hall e21 e22 e23 e24 e20 e25 e26 e7 e6 K0p0 K0p1 K0r4 HB0
  clear tZ
  go_upto_region 2 with fail
  refine region_plain [27, 28] (fun fZ tZ uZ => MR w.heap.size w (u1.heap.size) [(w.heap.size + 1, LN m), (w.heap.size + 1 + 1, L0s)] [] [] uZ ∧ Gs fZ tZ [(0, 27, .int .i64 0), (1, 28, .bool false)] ∧ Os fZ [] ∧ Ns fZ tZ []) (by kernel_rfl) ?_ ?_ ?_
  · exact ⟨{ bel := HB1, lo := HB1.size, sz := Nat.le_refl _, ks := ⟨⟨l1p1, K1p1⟩, ⟨l1r4, K1r4⟩, trivial⟩, ex := trivial, nw := trivial, nd := trivial }, Gs.none _ _, Os.none _, trivial⟩
  · rintro fZ tZ uZ iZ oZ aZ hF ⟨hM, hG, hO, hN⟩ ho hfi hdep
    obtain ⟨hS, hV⟩ := hF.two 87 (by decide) rfl (by decide)
    rcases cZ2 ho with rfl | rfl <;> cases ho
    · exact t_move (show aZ.eval (.tmp 7) = .int .i64 0 from (hF.out 7 (by decide)).trans rfl) hF hS rfl rfl rfl rfl (by decide) (Jt hM hG hN)
    · refine op_plain rfl rfl (fun K hK => ?_)
      refine wp_bin rfl (ve 27 hV (hG.1 (dd 0 hdep))) rfl (neq_i _ _ _ 0 0 _ uZ rfl) ?_
      exact tell hK hF hS (by decide) (Jt hM hG hN)
  rintro fZ tZ u2 ⟨hM, hG, hO, hN⟩ hall
  obtain ⟨e27, e28, -⟩ := Gs.all 2 hall hG rfl
  have HB2 : Below w.heap.size w u2 := hM.bel
  have sz2 : u1.heap.size ≤ u2.heap.size := hM.sz
  obtain ⟨⟨l2p1, K2p1⟩, ⟨l2r4, K2r4⟩, -⟩ := hM.ks.up hM.sz
  dsimp only at l2p1 K2p1 l2r4 K2r4
  simp only [ovr, List.set_cons_zero, List.set_cons_succ, e27, e28]
  clear hM hG hO hN hall e27 e28 K1p1 K1r4 HB1
  clear tZ
  go_upto_region 4 with fail
  refine region_plain [31, 32, 33] (fun fZ tZ uZ => MR w.heap.size w (u2.heap.size) [(w.heap.size + 1, LN m), (w.heap.size + 1 + 1, L0s)] [] [] uZ ∧ Gs fZ tZ [(0, 31, NV m), (1, 32, NV 1), (2, 33, .bool true)] ∧ Os fZ [] ∧ Ns fZ tZ []) (by kernel_rfl) ?_ ?_ ?_
  · exact ⟨{ bel := HB2, lo := HB2.size, sz := Nat.le_refl _, ks := ⟨⟨l2p1, K2p1⟩, ⟨l2r4, K2r4⟩, trivial⟩, ex := trivial, nw := trivial, nd := trivial }, Gs.none _ _, Os.none _, trivial⟩
  · rintro fZ tZ uZ iZ oZ aZ hF ⟨hM, hG, hO, hN⟩ ho hfi hdep
    obtain ⟨hS, hV⟩ := hF.two 87 (by decide) rfl (by decide)
    rcases cZ3 ho with rfl | rfl | rfl <;> cases ho
    · exact t_load (show aZ.eval (.tmp 3) = .pointer (some ⟨w.heap.size + 1, 0, none⟩) from (hF.out 3 (by decide)).trans rfl) hM.ks.1.2 Try.underlying25 info_api_Nat hF hS rfl rfl rfl rfl rfl (by decide) (Jt hM hG hN)
    · refine op_plain rfl rfl (fun K hK => ?_)
      refine wp_build rfl (vps := [(0, (Go.Value.int Go.IntKind.u64 1))]) (by show [(0, (Go.Value.int Go.IntKind.u64 1))] = _; rfl) (bd1 uZ) ?_
      exact tell hK hF hS (by decide) (Jt hM hG hN)
    · refine op_plain rfl rfl (fun K hK => ?_)
      refine wp_bin rfl (ve 31 hV (hG.1 (dd 0 hdep))) (ve 32 hV (hG.2.1 (dd 1 hdep))) (eql_n _ _ hm In_1 _ h1 uZ) ?_
      exact tell hK hF hS (by decide) (Jt hM hG hN)
  rintro fZ tZ u3 ⟨hM, hG, hO, hN⟩ hall
  obtain ⟨e31, e32, e33, -⟩ := Gs.all 3 hall hG rfl
  have HB3 : Below w.heap.size w u3 := hM.bel
  have sz3 : u2.heap.size ≤ u3.heap.size := hM.sz
  obtain ⟨-, ⟨l3r4, K3r4⟩, -⟩ := hM.ks.up hM.sz
  dsimp only at l3r4 K3r4
  simp only [ovr, List.set_cons_zero, List.set_cons_succ, e31, e32, e33]
  clear hM hG hO hN hall e31 e32 e33 K2p1 K2r4 HB2
  clear tZ
  go_upto_region 5 with fail
  refine region_plain [34, 5] (fun fZ tZ uZ => MR w.heap.size w (u3.heap.size) [] [(w.heap.size + 1 + 1, fZ 1, L0s, [.int .u64 (0), .int .u64 (0), .int .u64 (0), .int .u64 (0)])] [] uZ ∧ Gs fZ tZ [(0, 34, A4 (0) (0) (0) (0)), (2, 5, (Go.Value.int Go.IntKind.i64 0))] ∧ Os fZ [] ∧ Ns fZ tZ []) (by kernel_rfl) ?_ ?_ ?_
  · exact ⟨{ bel := HB3, lo := HB3.size, sz := Nat.le_refl _, ks := trivial, ex := ⟨⟨(by omega), l3r4, rfl, K3r4⟩, trivial⟩, nw := trivial, nd := trivial }, Gs.none _ _, Os.none _, trivial⟩
  · rintro fZ tZ uZ iZ oZ aZ hF ⟨hM, hG, hO, hN⟩ ho hfi hdep
    obtain ⟨hS, hV⟩ := hF.two 87 (by decide) rfl (by decide)
    rcases cZ3 ho with rfl | rfl | rfl <;> cases ho
    · refine op_plain rfl rfl (fun K hK => ?_)
      refine wp_val (v := A4 (0) (0) (0) (0)) (w' := uZ) (by kernel_rfl) ?_
      exact tell hK hF hS (by decide) (Jt hM hG hN)
    · refine op_plain rfl rfl (fun K hK => ?_)
      have kk : CV uZ (w.heap.size + 1 + 1) (bif fZ 1 then [.int .u64 (0), .int .u64 (0), .int .u64 (0), .int .u64 (0)] else L0s) := hM.ex.1.2.2.2
      rw [hfi] at kk
      have kk : CV uZ (w.heap.size + 1 + 1) (L0s) := kk
      refine wp_store_mid 25 _ _ rfl (w.heap.size + 1 + 1) 0 ([.int .u64 (0), .int .u64 (0), .int .u64 (0), .int .u64 (0)] : List Value).toArray (show aZ.eval (.tmp 4) = .pointer (some ⟨w.heap.size + 1 + 1, 0, none⟩) from (hF.out 4 (by decide)).trans rfl) (ve 34 hV (hG.1 (dd 0 hdep))) kk.there info_api_Nat (all_one rfl) ?_
      exact tell0 hK hF ⟨MR.putXF 0 hM rfl trivial trivial, Gs.idle rfl hG, trivial, Ns.idle hN⟩
    · exact t_assign rfl hF hS rfl rfl rfl rfl (by decide) (Jt hM hG hN)
  rintro fZ tZ u4 ⟨hM, hG, hO, hN⟩ hall
  obtain ⟨e34, e5, -⟩ := Gs.all 3 hall hG rfl
  have HB4 : Below w.heap.size w u4 := hM.bel
  have sz4 : u3.heap.size ≤ u4.heap.size := hM.sz
  have K4r4 : CV u4 (w.heap.size + 1 + 1) ([.int .u64 (0), .int .u64 (0), .int .u64 (0), .int .u64 (0)]) := by
    have h1 : CV u4 (w.heap.size + 1 + 1) (bif fZ 1 then [.int .u64 (0), .int .u64 (0), .int .u64 (0), .int .u64 (0)] else L0s) := hM.ex.1.2.2.2
    rw [hall 1 (by decide)] at h1; exact h1
  have l4r4 : w.heap.size + 1 + 1 < u4.heap.size := Nat.lt_of_lt_of_le hM.ex.1.2.1 hM.sz
  simp only [ovr, List.set_cons_zero, List.set_cons_succ, e34, e5]
  clear hM hG hO hN hall e34 e5 K3r4 HB3
  clear tZ
  have c4_0 := (K4r4 0 _ rfl).1
  have c4_1 := (K4r4 1 _ rfl).1
  have c4_2 := (K4r4 2 _ rfl).1
  have c4_3 := (K4r4 3 _ rfl).1
  go_wp2
  refine bodyPost_ret (v := .tuple #[A4 0 0 0 0, .int .i64 0]) (by simp [results, Try.results22, go_sem, c4_0, c4_1, c4_2, c4_3]) rfl ⟨rfl, HB4⟩
set_option maxRecDepth 100000 in
set_option maxHeartbeats 2000000 in
theorem xInverseG (a m : Int) (R : Value) (w : World) (ha : In a) (hm : In m) (h : m ≠ 0) (hm1 : 1 < m) (h1 : decide (m = 1) = false) (hno : gI m (a % m) ≠ 1 → R = .tuple #[A4 0 0 0 0, .int .i64 20]) (hyes : gI m (a % m) = 1 → ∀ x, IsInv (a % m) m x → R = .tuple #[NV x, .int .i64 0]) :
    Calls Try.prog 22 #[NV a, NV m] w fun e w' => e = .returned R ∧ Below w.heap.size w w' := by
  go_enter Try.func22, Try.ntmps22
  go_upto_region 1 with fail
  generalize hC : (((w.alloc (.cells (LN a : List Value).toArray 25)).alloc (.cells (LN m : List Value).toArray 25)).alloc (.cells (L0s : List Value).toArray 25)) = v0 at *
  have HB0 : Below w.heap.size w v0 := by rw [← hC]; exact (balloc (balloc (balloc (bself w) _) _) _)
  have K0p0 : CV v0 (w.heap.size) (LN a) := by rw [← hC]; exact (((CV.new w (LN a) 25).alloc (by simp <;> omega) _).alloc (by simp <;> omega) _)
  have l0p0 : w.heap.size < v0.heap.size := by rw [← hC]; simp <;> omega
  have K0p1 : CV v0 (w.heap.size + 1) (LN m) := by rw [← hC]; exact ((CV.newAt (w.alloc (.cells (LN a : List Value).toArray 25)) (LN m) 25 _ (by simp)).alloc (by simp <;> omega) _)
  have l0p1 : w.heap.size + 1 < v0.heap.size := by rw [← hC]; simp <;> omega
  have K0r4 : CV v0 (w.heap.size + 1 + 1) (L0s) := by rw [← hC]; exact (CV.newAt ((w.alloc (.cells (LN a : List Value).toArray 25)).alloc (.cells (LN m : List Value).toArray 25)) (L0s) 25 _ (by simp))
  have l0r4 : w.heap.size + 1 + 1 < v0.heap.size := by rw [← hC]; simp <;> omega
  clear hC
  refine region_drawn [21, 22, 23, 24, 20, 25, 26, 6, 7] (fun fZ tZ uZ => MR w.heap.size w (v0.heap.size) [(w.heap.size, LN a), (w.heap.size + 1, LN m), (w.heap.size + 1 + 1, L0s)] [] [(fZ 7, fZ 8, tZ 6, L0s, LN (a % m))] uZ ∧ Gs fZ tZ [(0, 21, NV a), (1, 22, WV a), (2, 23, NV m), (3, 24, .tuple #[NV (a % m), .int .i64 0]), (4, 20, .tuple #[NV (a % m), .int .i64 0]), (5, 25, NV (a % m)), (6, 26, .int .i64 0), (9, 7, .int .i64 0)] ∧ Os fZ [(8, 7)] ∧ Ns fZ tZ []) (by kernel_rfl) (by kernel_rfl) ?_ ?_ ?_
  · exact ⟨{ bel := HB0.drew, lo := HB0.size, sz := Nat.le_refl _, ks := ⟨⟨l0p0, K0p0⟩, ⟨l0p1, K0p1⟩, ⟨l0r4, K0r4⟩, trivial⟩, ex := trivial, nw := ⟨fun e => (by cases e), trivial⟩, nd := ⟨fun e => (by cases e), trivial⟩ }, Gs.none _ _, Os.none _, trivial⟩
  · rintro fZ tZ uZ iZ oZ aZ hF ⟨hM, hG, hO, hN⟩ ho hfi hdep
    obtain ⟨hS, hV⟩ := hF.two 87 (by decide) rfl (by decide)
    rcases cZ10 ho with rfl | rfl | rfl | rfl | rfl | rfl | rfl | rfl | rfl | rfl <;> cases ho
    · exact t_load (show aZ.eval (.tmp 2) = .pointer (some ⟨w.heap.size, 0, none⟩) from (hF.out 2 (by decide)).trans rfl) hM.ks.1.2 Try.underlying25 info_api_Nat hF hS rfl rfl rfl rfl rfl (by decide) (Jm hM hG hO hN)
    · exact t_call (vs := [NV a]) (by show [aZ.eval (.tmp 21)] = _; rw [(ve 21 hV (hG.1 (dd 0 hdep)))]) ent_seneschalref01_Widen (nrWiden a uZ ha) hF hS rfl rfl rfl rfl (by decide) (fun _ hB => (Jm (hM.call hB) hG hO hN))
    · exact t_load (show aZ.eval (.tmp 3) = .pointer (some ⟨w.heap.size + 1, 0, none⟩) from (hF.out 3 (by decide)).trans rfl) hM.ks.2.1.2 Try.underlying25 info_api_Nat hF hS rfl rfl rfl rfl rfl (by decide) (Jm hM hG hO hN)
    · exact t_call (vs := [WV a, NV m]) (by show [aZ.eval (.tmp 22), aZ.eval (.tmp 23)] = _; rw [(ve 22 hV (hG.2.1 (dd 1 hdep))), (ve 23 hV (hG.2.2.1 (dd 2 hdep)))]) ent_seneschalref02_Reduce (xReduce a m uZ ha.wide hm h) hF hS rfl rfl rfl rfl (by decide) (fun _ hB => (Jm (hM.call hB) hG hO hN))
    · exact t_move (ve 24 hV (hG.2.2.2.1 (dd 3 hdep))) hF hS rfl rfl rfl rfl (by decide) (Jm hM hG hO hN)
    · exact t_extract (ve 20 hV (hG.2.2.2.2.1 (dd 4 hdep))) hF hS rfl rfl rfl rfl rfl (by decide) (Jm hM hG hO hN)
    · exact t_extract (ve 20 hV (hG.2.2.2.2.1 (dd 4 hdep))) hF hS rfl rfl rfl rfl rfl (by decide) (Jm hM hG hO hN)
    · have q1 : fZ 8 = false := Os.not (hO.1) hfi
      exact t_alloc (al_api_Nat uZ) hF hS rfl rfl rfl rfl (by decide) ⟨MR.newF 0 hM rfl hfi q1, Gs.other rfl hG, hO.keep rfl, Ns.step hN rfl⟩
    · exact t_storeN 0 hM rfl (dd 7 hdep) hfi (hV 6 (by decide)) (ve 25 hV (hG.2.2.2.2.2.1 (dd 5 hdep))) rfl info_api_Nat rfl hF rfl rfl rfl rfl (fun _ h => ⟨h, Gs.idle rfl hG, ⟨fun _ => (dd 7 hdep :), trivial⟩, Ns.idle hN⟩)
    · exact t_assign (ve 26 hV (hG.2.2.2.2.2.2.1 (dd 6 hdep))) hF hS rfl rfl rfl rfl (by decide) (Jm hM hG hO hN)
  rintro fZ tZ u1 ⟨hM, hG, hO, hN⟩ hall
  obtain ⟨e21, e22, e23, e24, e20, e25, e26, e7, -⟩ := Gs.all 10 hall hG rfl
  obtain ⟨b1_7, ee6, pb1_7, lb1_7, kb1_7⟩ := hM.nw.1 (hall 7 (by decide))
  have e6 : tZ 6 = .pointer (some ⟨b1_7, 0, none⟩) := ee6
  clear ee6
  have Kb1_7 : CV u1 b1_7 (LN (a % m)) := by
    have h1 : CV u1 b1_7 (bif fZ 8 then LN (a % m) else L0s) := kb1_7
    rw [hall 8 (by decide)] at h1; exact h1
  clear kb1_7
  have HB1 : Below w.heap.size w u1 := hM.bel
  have sz1 : v0.heap.size ≤ u1.heap.size := hM.sz
  obtain ⟨-, ⟨l1p1, K1p1⟩, ⟨l1r4, K1r4⟩, -⟩ := hM.ks.up hM.sz
  dsimp only at l1p1 K1p1 l1r4 K1r4
  simp only [ovr, List.set_cons_zero, List.set_cons_succ, e21, e22, e23, e24, e20, e25, e26, e7, e6]
  clear hM hG hO hN hall e21 e22 e23 e24 e20 e25 e26 e7 e6 K0p0 K0p1 K0r4 HB0
  clear tZ
  go_upto_region 2 with fail
  refine region_plain [27, 28] (fun fZ tZ uZ => MR w.heap.size w (u1.heap.size) [(w.heap.size + 1, LN m), (w.heap.size + 1 + 1, L0s), (b1_7, LN (a % m))] [] [] uZ ∧ Gs fZ tZ [(0, 27, .int .i64 0), (1, 28, .bool false)] ∧ Os fZ [] ∧ Ns fZ tZ []) (by kernel_rfl) ?_ ?_ ?_
  · exact ⟨{ bel := HB1, lo := HB1.size, sz := Nat.le_refl _, ks := ⟨⟨l1p1, K1p1⟩, ⟨l1r4, K1r4⟩, ⟨lb1_7, Kb1_7⟩, trivial⟩, ex := trivial, nw := trivial, nd := trivial }, Gs.none _ _, Os.none _, trivial⟩
  · rintro fZ tZ uZ iZ oZ aZ hF ⟨hM, hG, hO, hN⟩ ho hfi hdep
    obtain ⟨hS, hV⟩ := hF.two 87 (by decide) rfl (by decide)
    rcases cZ2 ho with rfl | rfl <;> cases ho
    · exact t_move (show aZ.eval (.tmp 7) = .int .i64 0 from (hF.out 7 (by decide)).trans rfl) hF hS rfl rfl rfl rfl (by decide) (Jt hM hG hN)
    · refine op_plain rfl rfl (fun K hK => ?_)
      refine wp_bin rfl (ve 27 hV (hG.1 (dd 0 hdep))) rfl (neq_i _ _ _ 0 0 _ uZ rfl) ?_
      exact tell hK hF hS (by decide) (Jt hM hG hN)
  rintro fZ tZ u2 ⟨hM, hG, hO, hN⟩ hall
  obtain ⟨e27, e28, -⟩ := Gs.all 2 hall hG rfl
  have HB2 : Below w.heap.size w u2 := hM.bel
  have sz2 : u1.heap.size ≤ u2.heap.size := hM.sz
  obtain ⟨⟨l2p1, K2p1⟩, ⟨l2r4, K2r4⟩, ⟨l2n1_7, K2n1_7⟩, -⟩ := hM.ks.up hM.sz
  dsimp only at l2p1 K2p1 l2r4 K2r4 l2n1_7 K2n1_7
  simp only [ovr, List.set_cons_zero, List.set_cons_succ, e27, e28]
  clear hM hG hO hN hall e27 e28 K1p1 K1r4 Kb1_7 HB1
  clear tZ
  go_upto_region 4 with fail
  refine region_plain [31, 32, 33] (fun fZ tZ uZ => MR w.heap.size w (u2.heap.size) [(w.heap.size + 1, LN m), (w.heap.size + 1 + 1, L0s), (b1_7, LN (a % m))] [] [] uZ ∧ Gs fZ tZ [(0, 31, NV m), (1, 32, NV 1), (2, 33, .bool false)] ∧ Os fZ [] ∧ Ns fZ tZ []) (by kernel_rfl) ?_ ?_ ?_
  · exact ⟨{ bel := HB2, lo := HB2.size, sz := Nat.le_refl _, ks := ⟨⟨l2p1, K2p1⟩, ⟨l2r4, K2r4⟩, ⟨l2n1_7, K2n1_7⟩, trivial⟩, ex := trivial, nw := trivial, nd := trivial }, Gs.none _ _, Os.none _, trivial⟩
  · rintro fZ tZ uZ iZ oZ aZ hF ⟨hM, hG, hO, hN⟩ ho hfi hdep
    obtain ⟨hS, hV⟩ := hF.two 87 (by decide) rfl (by decide)
    rcases cZ3 ho with rfl | rfl | rfl <;> cases ho
    · exact t_load (show aZ.eval (.tmp 3) = .pointer (some ⟨w.heap.size + 1, 0, none⟩) from (hF.out 3 (by decide)).trans rfl) hM.ks.1.2 Try.underlying25 info_api_Nat hF hS rfl rfl rfl rfl rfl (by decide) (Jt hM hG hN)
    · refine op_plain rfl rfl (fun K hK => ?_)
      refine wp_build rfl (vps := [(0, (Go.Value.int Go.IntKind.u64 1))]) (by show [(0, (Go.Value.int Go.IntKind.u64 1))] = _; rfl) (bd1 uZ) ?_
      exact tell hK hF hS (by decide) (Jt hM hG hN)
    · refine op_plain rfl rfl (fun K hK => ?_)
      refine wp_bin rfl (ve 31 hV (hG.1 (dd 0 hdep))) (ve 32 hV (hG.2.1 (dd 1 hdep))) (eql_n _ _ hm In_1 _ h1 uZ) ?_
      exact tell hK hF hS (by decide) (Jt hM hG hN)
  rintro fZ tZ u3 ⟨hM, hG, hO, hN⟩ hall
  obtain ⟨e31, e32, e33, -⟩ := Gs.all 3 hall hG rfl
  have HB3 : Below w.heap.size w u3 := hM.bel
  have sz3 : u2.heap.size ≤ u3.heap.size := hM.sz
  obtain ⟨⟨l3p1, K3p1⟩, ⟨l3r4, K3r4⟩, ⟨l3n1_7, K3n1_7⟩, -⟩ := hM.ks.up hM.sz
  dsimp only at l3p1 K3p1 l3r4 K3r4 l3n1_7 K3n1_7
  simp only [ovr, List.set_cons_zero, List.set_cons_succ, e31, e32, e33]
  clear hM hG hO hN hall e31 e32 e33 K2n1_7 K2p1 K2r4 HB2
  clear tZ
  go_upto_region 6 with fail
  refine region_plain [35, 36, 37, 8, 9, 10] (fun fZ tZ uZ => MR w.heap.size w (u3.heap.size) [(w.heap.size + 1, LN m), (w.heap.size + 1 + 1, L0s), (b1_7, LN (a % m))] [] [(fZ 3, fZ 6, tZ 8, L0s, LN m), (fZ 4, fZ 7, tZ 9, L0s, LN 1), (fZ 5, fZ 8, tZ 10, L0s, [.int .u64 (0), .int .u64 (0), .int .u64 (0), .int .u64 (0)])] uZ ∧ Gs fZ tZ [(0, 35, NV m), (1, 36, NV 1), (2, 37, A4 (0) (0) (0) (0))] ∧ Os fZ [(6, 3), (7, 4), (8, 5)] ∧ Ns fZ tZ []) (by kernel_rfl) ?_ ?_ ?_
  · exact ⟨{ bel := HB3, lo := HB3.size, sz := Nat.le_refl _, ks := ⟨⟨l3p1, K3p1⟩, ⟨l3r4, K3r4⟩, ⟨l3n1_7, K3n1_7⟩, trivial⟩, ex := trivial, nw := ⟨fun e => (by cases e), fun e => (by cases e), fun e => (by cases e), trivial⟩, nd := ⟨fun e => (by cases e), fun e => (by cases e), fun e => (by cases e), trivial⟩ }, Gs.none _ _, Os.none _, trivial⟩
  · rintro fZ tZ uZ iZ oZ aZ hF ⟨hM, hG, hO, hN⟩ ho hfi hdep
    obtain ⟨hS, hV⟩ := hF.two 87 (by decide) rfl (by decide)
    rcases cZ9 ho with rfl | rfl | rfl | rfl | rfl | rfl | rfl | rfl | rfl <;> cases ho
    · exact t_load (show aZ.eval (.tmp 3) = .pointer (some ⟨w.heap.size + 1, 0, none⟩) from (hF.out 3 (by decide)).trans rfl) hM.ks.1.2 Try.underlying25 info_api_Nat hF hS rfl rfl rfl rfl rfl (by decide) (Jm hM hG hO hN)
    · refine op_plain rfl rfl (fun K hK => ?_)
      refine wp_build rfl (vps := [(0, (Go.Value.int Go.IntKind.u64 1))]) (by show [(0, (Go.Value.int Go.IntKind.u64 1))] = _; rfl) (bd1 uZ) ?_
      exact tell hK hF hS (by decide) (Jm hM hG hO hN)
    · refine op_plain rfl rfl (fun K hK => ?_)
      refine wp_val (v := A4 (0) (0) (0) (0)) (w' := uZ) (by kernel_rfl) ?_
      exact tell hK hF hS (by decide) (Jm hM hG hO hN)
    · have q1 : fZ 6 = false := Os.not (hO.1) hfi
      exact t_alloc (al_api_Nat uZ) hF hS rfl rfl rfl rfl (by decide) ⟨MR.newF 0 hM rfl hfi q1, Gs.other rfl hG, hO.keep rfl, Ns.step hN rfl⟩
    · have q1 : fZ 7 = false := Os.not (hO.2.1) hfi
      exact t_alloc (al_api_Nat uZ) hF hS rfl rfl rfl rfl (by decide) ⟨MR.newF 1 hM rfl hfi q1, Gs.other rfl hG, hO.keep rfl, Ns.step hN rfl⟩
    · have q1 : fZ 8 = false := Os.not (hO.2.2.1) hfi
      exact t_alloc (al_api_Nat uZ) hF hS rfl rfl rfl rfl (by decide) ⟨MR.newF 2 hM rfl hfi q1, Gs.other rfl hG, hO.keep rfl, Ns.step hN rfl⟩
    · exact t_storeN 0 hM rfl (dd 3 hdep) hfi (hV 8 (by decide)) (ve 35 hV (hG.1 (dd 0 hdep))) rfl info_api_Nat rfl hF rfl rfl rfl rfl (fun _ h => ⟨h, Gs.idle rfl hG, ⟨fun _ => (dd 3 hdep :), hO.2.1, hO.2.2.1, trivial⟩, Ns.idle hN⟩)
    · exact t_storeN 1 hM rfl (dd 4 hdep) hfi (hV 9 (by decide)) (ve 36 hV (hG.2.1 (dd 1 hdep))) rfl info_api_Nat rfl hF rfl rfl rfl rfl (fun _ h => ⟨h, Gs.idle rfl hG, ⟨hO.1, fun _ => (dd 4 hdep :), hO.2.2.1, trivial⟩, Ns.idle hN⟩)
    · exact t_storeN 2 hM rfl (dd 5 hdep) hfi (hV 10 (by decide)) (ve 37 hV (hG.2.2.1 (dd 2 hdep))) rfl info_api_Nat rfl hF rfl rfl rfl rfl (fun _ h => ⟨h, Gs.idle rfl hG, ⟨hO.1, hO.2.1, fun _ => (dd 5 hdep :), trivial⟩, Ns.idle hN⟩)
  rintro fZ tZ u4 ⟨hM, hG, hO, hN⟩ hall
  obtain ⟨e35, e36, e37, -⟩ := Gs.all 9 hall hG rfl
  obtain ⟨b4_3, ee8, pb4_3, lb4_3, kb4_3⟩ := hM.nw.1 (hall 3 (by decide))
  have e8 : tZ 8 = .pointer (some ⟨b4_3, 0, none⟩) := ee8
  clear ee8
  have Kb4_3 : CV u4 b4_3 (LN m) := by
    have h1 : CV u4 b4_3 (bif fZ 6 then LN m else L0s) := kb4_3
    rw [hall 6 (by decide)] at h1; exact h1
  clear kb4_3
  obtain ⟨b4_4, ee9, pb4_4, lb4_4, kb4_4⟩ := hM.nw.2.1 (hall 4 (by decide))
  have e9 : tZ 9 = .pointer (some ⟨b4_4, 0, none⟩) := ee9
  clear ee9
  have Kb4_4 : CV u4 b4_4 (LN 1) := by
    have h1 : CV u4 b4_4 (bif fZ 7 then LN 1 else L0s) := kb4_4
    rw [hall 7 (by decide)] at h1; exact h1
  clear kb4_4
  obtain ⟨b4_5, ee10, pb4_5, lb4_5, kb4_5⟩ := hM.nw.2.2.1 (hall 5 (by decide))
  have e10 : tZ 10 = .pointer (some ⟨b4_5, 0, none⟩) := ee10
  clear ee10
  have Kb4_5 : CV u4 b4_5 ([.int .u64 (0), .int .u64 (0), .int .u64 (0), .int .u64 (0)]) := by
    have h1 : CV u4 b4_5 (bif fZ 8 then [.int .u64 (0), .int .u64 (0), .int .u64 (0), .int .u64 (0)] else L0s) := kb4_5
    rw [hall 8 (by decide)] at h1; exact h1
  clear kb4_5
  have nb4_3_b4_4 : b4_3 ≠ b4_4 := fun e => (hM.nd.1 (hall 3 (by decide))).1 (hall 4 (by decide)) (by show tZ 9 = tZ 8; rw [e9, e8, e])
  have nb4_3_b4_5 : b4_3 ≠ b4_5 := fun e => (hM.nd.1 (hall 3 (by decide))).2.1 (hall 5 (by decide)) (by show tZ 10 = tZ 8; rw [e10, e8, e])
  have nb4_4_b4_5 : b4_4 ≠ b4_5 := fun e => (hM.nd.2.1 (hall 4 (by decide))).1 (hall 5 (by decide)) (by show tZ 10 = tZ 9; rw [e10, e9, e])
  have HB4 : Below w.heap.size w u4 := hM.bel
  have sz4 : u3.heap.size ≤ u4.heap.size := hM.sz
  obtain ⟨⟨l4p1, K4p1⟩, ⟨l4r4, K4r4⟩, ⟨l4n1_7, K4n1_7⟩, -⟩ := hM.ks.up hM.sz
  dsimp only at l4p1 K4p1 l4r4 K4r4 l4n1_7 K4n1_7
  simp only [ovr, List.set_cons_zero, List.set_cons_succ, e35, e36, e37, e8, e9, e10]
  clear hM hG hO hN hall e35 e36 e37 e8 e9 e10 K3n1_7 K3p1 K3r4 HB3
  clear tZ
  go_upto_region 7 with fail
  refine region_plain [11] (fun fZ tZ uZ => MR w.heap.size w (u4.heap.size) [(w.heap.size + 1, LN m), (w.heap.size + 1 + 1, L0s), (b1_7, LN (a % m)), (b4_3, LN m), (b4_4, LN 1), (b4_5, [.int .u64 (0), .int .u64 (0), .int .u64 (0), .int .u64 (0)])] [] [] uZ ∧ Gs fZ tZ [(0, 11, (Go.Value.int Go.IntKind.i64 0))] ∧ Os fZ [] ∧ Ns fZ tZ []) (by kernel_rfl) ?_ ?_ ?_
  · exact ⟨{ bel := HB4, lo := HB4.size, sz := Nat.le_refl _, ks := ⟨⟨l4p1, K4p1⟩, ⟨l4r4, K4r4⟩, ⟨l4n1_7, K4n1_7⟩, ⟨lb4_3, Kb4_3⟩, ⟨lb4_4, Kb4_4⟩, ⟨lb4_5, Kb4_5⟩, trivial⟩, ex := trivial, nw := trivial, nd := trivial }, Gs.none _ _, Os.none _, trivial⟩
  · rintro fZ tZ uZ iZ oZ aZ hF ⟨hM, hG, hO, hN⟩ ho hfi hdep
    obtain ⟨hS, hV⟩ := hF.two 87 (by decide) rfl (by decide)
    cases cZ1 ho
    cases ho
    · exact t_assign rfl hF hS rfl rfl rfl rfl (by decide) (Jt hM hG hN)
  rintro fZ tZ u5 ⟨hM, hG, hO, hN⟩ hall
  obtain ⟨e11, -⟩ := Gs.all 1 hall hG rfl
  have HB5 : Below w.heap.size w u5 := hM.bel
  have sz5 : u4.heap.size ≤ u5.heap.size := hM.sz
  obtain ⟨⟨l5p1, K5p1⟩, ⟨l5r4, K5r4⟩, ⟨l5n1_7, K5n1_7⟩, ⟨l5n6_3, K5n6_3⟩, ⟨l5n6_4, K5n6_4⟩, ⟨l5n6_5, K5n6_5⟩, -⟩ := hM.ks.up hM.sz
  dsimp only at l5p1 K5p1 l5r4 K5r4 l5n1_7 K5n1_7 l5n6_3 K5n6_3 l5n6_4 K5n6_4 l5n6_5 K5n6_5
  simp only [ovr, List.set_cons_zero, List.set_cons_succ, e11]
  clear hM hG hO hN hall e11 K4n1_7 K4p1 K4r4 Kb4_3 Kb4_4 Kb4_5 HB4
  clear tZ
  go_wp2_with fail
  go_loopw [11] (fun s11 wr => ∃ (k : Nat) (x y fx fy : Int), s11 = .int .i64 (k : Int) ∧ k ≤ 600 ∧ RV m (a % m) x y fx fy k ∧ Below w.heap.size w wr ∧ CV wr (w.heap.size + 1) (LN m) ∧ CV wr (w.heap.size + 1 + 1) L0s ∧ CV wr b1_7 (LN x) ∧ CV wr b4_3 (LN y) ∧ CV wr b4_4 (LN fx) ∧ CV wr b4_5 (LN fy) ∧ w.heap.size + 1 + 1 < wr.heap.size ∧ b1_7 < wr.heap.size ∧ b4_3 < wr.heap.size ∧ b4_4 < wr.heap.size ∧ b4_5 < wr.heap.size) (fun s11 _ => 600 - (intOf s11).toNat)
  case atStart => exact ⟨0, a % m, m, 1, 0, rfl, by omega, RV.start hm hm1 (Int.emod_nonneg _ h) (Int.emod_lt_of_pos _ (by omega)), HB5, K5p1, K5r4, K5n1_7, K5n6_3, K5n6_4, by rw [LN_0]; exact K5n6_5, l5r4, l5n1_7, l5n6_3, l5n6_4, l5n6_5⟩
  case round =>
    obtain ⟨k, x, y, fx, fy, rfl, hk, hR, HBr, Km, Kr, Kx, Ky, Kf, Kh, lr, lx, ly, lf, lh⟩ := hrel
    clear HB5 K5p1 K5r4 K5n1_7 K5n6_3 K5n6_4 K5n6_5
    have ix : In x := In_le hm hR.x0 (by have := hR.xy; have := hR.ym; omega)
    have iy : In y := In_le hm (by have := hR.x0; have := hR.xy; omega) hR.ym
    have ifx : In fx := In_le hm hR.fx0.1 (by have := hR.fx0.2; omega)
    have ify : In fy := In_le hm hR.fy0.1 (by have := hR.fy0.2; omega)
    by_cases h2 : x = 0
    · have hz : decide (x = 0) = !false := by simp [h2]
      have hy : gI m (a % m) = y := by rw [← hR.g, h2, gI_0 y iy.1]
      have hI : y = 1 → IsInv (a % m) m fy := fun e => ⟨hR.fy0.1, hR.fy0.2, by have := hR.dy; rw [e] at this; exact this⟩
      have HI : Hid _ := hI
      have HY : Hid _ := hy
      clear hI hy hR
      by_cases h6 : k < 600
      · have hl : decide ((k : Int) < 600) = true := by simp; omega
        go_upto_region 8 with fail
        refine region_plain [38, 39, 40, 41, 42, 43, 44] (fun fZ tZ uZ => MR w.heap.size w (wr.heap.size) [(w.heap.size + 1, LN m), (w.heap.size + 1 + 1, L0s), (b1_7, LN x), (b4_3, LN y), (b4_4, LN fx), (b4_5, LN fy)] [] [] uZ ∧ Gs fZ tZ [(0, 38, .int .i64 (k : Int)), (1, 39, .bool true), (2, 40, .bool true), (3, 41, NV x), (4, 42, A4 (0) (0) (0) (0)), (5, 43, .bool false), (6, 44, .bool false)] ∧ Os fZ [] ∧ Ns fZ tZ []) (by kernel_rfl) ?_ ?_ ?_
        · exact ⟨{ bel := HBr, lo := HBr.size, sz := Nat.le_refl _, ks := ⟨⟨(by omega), Km⟩, ⟨lr, Kr⟩, ⟨lx, Kx⟩, ⟨ly, Ky⟩, ⟨lf, Kf⟩, ⟨lh, Kh⟩, trivial⟩, ex := trivial, nw := trivial, nd := trivial }, Gs.none _ _, Os.none _, trivial⟩
        · rintro fZ tZ uZ iZ oZ aZ hF ⟨hM, hG, hO, hN⟩ ho hfi hdep
          obtain ⟨hS, hV⟩ := hF.two 87 (by decide) rfl (by decide)
          rcases cZ7 ho with rfl | rfl | rfl | rfl | rfl | rfl | rfl <;> cases ho
          · exact t_move (show aZ.eval (.tmp 11) = .int .i64 (k : Int) from (hF.out 11 (by decide)).trans rfl) hF hS rfl rfl rfl rfl (by decide) (Jt hM hG hN)
          · refine op_plain rfl rfl (fun K hK => ?_)
            refine wp_bin rfl (ve 38 hV (hG.1 (dd 0 hdep))) rfl (lss_i _ _ (k : Int) 600 _ uZ hl) ?_
            exact tell hK hF hS (by decide) (Jt hM hG hN)
          · exact t_move (ve 39 hV (hG.2.1 (dd 1 hdep))) hF hS rfl rfl rfl rfl (by decide) (Jt hM hG hN)
          · refine wpOp_step rfl (fun K hK => ?_)
            have yg : fZ 2 = true := hdep ⟨2, .guard⟩ (by simp) rfl
            have eg : tZ 40 = .bool true := hG.2.2.1 yg
            rw [if_pos (wanted_of rfl rfl (show aZ.tmps[40]? = some (.bool true) by rw [hF.tmps (N := 87) (by decide) rfl 40 (by decide) (by decide), eg]))]
            refine wp_load_mid 25 _ rfl _ 0 (show aZ.eval (.tmp 6) = .pointer (some ⟨b1_7, 0, none⟩) from (hF.out 6 (by decide)).trans rfl) _ _ (CV.range hM.ks.2.2.1.2) Try.underlying25 rfl info_api_Nat ?_
            exact tell hK hF hS (by decide) (Jt hM hG hN)
          · refine wpOp_step rfl (fun K hK => ?_)
            have yg : fZ 2 = true := hdep ⟨2, .guard⟩ (by simp) rfl
            have eg : tZ 40 = .bool true := hG.2.2.1 yg
            rw [if_pos (wanted_of rfl rfl (show aZ.tmps[40]? = some (.bool true) by rw [hF.tmps (N := 87) (by decide) rfl 40 (by decide) (by decide), eg]))]
            refine wp_val (v := A4 (0) (0) (0) (0)) (w' := uZ) (by kernel_rfl) ?_
            exact tell hK hF hS (by decide) (Jt hM hG hN)
          · refine wpOp_step rfl (fun K hK => ?_)
            have yg : fZ 2 = true := hdep ⟨2, .guard⟩ (by simp) rfl
            have eg : tZ 40 = .bool true := hG.2.2.1 yg
            rw [if_pos (wanted_of rfl rfl (show aZ.tmps[40]? = some (.bool true) by rw [hF.tmps (N := 87) (by decide) rfl 40 (by decide) (by decide), eg]))]
            refine wp_bin rfl (ve 41 hV (hG.2.2.2.1 (dd 3 hdep))) (ve 42 hV (hG.2.2.2.2.1 (dd 4 hdep))) (neq_0 _ _ ix _ hz uZ) ?_
            exact tell hK hF hS (by decide) (Jt hM hG hN)
          · refine op_plain rfl rfl (fun K hK => ?_)
            refine wp_pick rfl (ve 40 hV (hG.2.2.1 (dd 2 hdep))) (b := true) ((if_pos rfl).trans (ve 43 hV (hG.2.2.2.2.2.1 (dd 5 hdep)))) ?_
            exact tell hK hF hS (by decide) (Jt hM hG hN)
        rintro fZ tZ u6 ⟨hM, hG, hO, hN⟩ hall
        obtain ⟨e38, e39, e40, e41, e42, e43, e44, -⟩ := Gs.all 7 hall hG rfl
        have HB6 : Below w.heap.size w u6 := hM.bel
        have sz6 : wr.heap.size ≤ u6.heap.size := hM.sz
        obtain ⟨-, ⟨l6r4, K6r4⟩, -, ⟨l6n6_3, K6n6_3⟩, -, ⟨l6n6_5, K6n6_5⟩, -⟩ := hM.ks.up hM.sz
        dsimp only at l6r4 K6r4 l6n6_3 K6n6_3 l6n6_5 K6n6_5
        simp only [ovr, List.set_cons_zero, List.set_cons_succ, e38, e39, e40, e41, e42, e43, e44]
        clear hM hG hO hN hall e38 e39 e40 e41 e42 e43 e44 Kf Kh Km Kr Kx Ky
        clear tZ
        by_cases h7 : y = 1
        · have h8 : decide (y = 1) = !false := by simp [h7]
          go_upto_region 16 with fail
          refine region_plain [82, 83, 84] (fun fZ tZ uZ => MR w.heap.size w (u6.heap.size) [(w.heap.size + 1 + 1, L0s), (b4_3, LN y), (b4_5, LN fy)] [] [] uZ ∧ Gs fZ tZ [(0, 82, NV y), (1, 83, NV 1), (2, 84, .bool false)] ∧ Os fZ [] ∧ Ns fZ tZ []) (by kernel_rfl) ?_ ?_ ?_
          · exact ⟨{ bel := HB6, lo := HB6.size, sz := Nat.le_refl _, ks := ⟨⟨l6r4, K6r4⟩, ⟨l6n6_3, K6n6_3⟩, ⟨l6n6_5, K6n6_5⟩, trivial⟩, ex := trivial, nw := trivial, nd := trivial }, Gs.none _ _, Os.none _, trivial⟩
          · rintro fZ tZ uZ iZ oZ aZ hF ⟨hM, hG, hO, hN⟩ ho hfi hdep
            obtain ⟨hS, hV⟩ := hF.two 87 (by decide) rfl (by decide)
            rcases cZ3 ho with rfl | rfl | rfl <;> cases ho
            · exact t_load (show aZ.eval (.tmp 8) = .pointer (some ⟨b4_3, 0, none⟩) from (hF.out 8 (by decide)).trans rfl) hM.ks.2.1.2 Try.underlying25 info_api_Nat hF hS rfl rfl rfl rfl rfl (by decide) (Jt hM hG hN)
            · refine op_plain rfl rfl (fun K hK => ?_)
              refine wp_build rfl (vps := [(0, (Go.Value.int Go.IntKind.u64 1))]) (by show [(0, (Go.Value.int Go.IntKind.u64 1))] = _; rfl) (bd1 uZ) ?_
              exact tell hK hF hS (by decide) (Jt hM hG hN)
            · refine op_plain rfl rfl (fun K hK => ?_)
              refine wp_bin rfl (ve 82 hV (hG.1 (dd 0 hdep))) (ve 83 hV (hG.2.1 (dd 1 hdep))) (neq_n _ _ iy In_1 _ h8 uZ) ?_
              exact tell hK hF hS (by decide) (Jt hM hG hN)
          rintro fZ tZ u7 ⟨hM, hG, hO, hN⟩ hall
          obtain ⟨e82, e83, e84, -⟩ := Gs.all 3 hall hG rfl
          have HB7 : Below w.heap.size w u7 := hM.bel
          have sz7 : u6.heap.size ≤ u7.heap.size := hM.sz
          obtain ⟨⟨l7r4, K7r4⟩, -, ⟨l7n6_5, K7n6_5⟩, -⟩ := hM.ks.up hM.sz
          dsimp only at l7r4 K7r4 l7n6_5 K7n6_5
          simp only [ovr, List.set_cons_zero, List.set_cons_succ, e82, e83, e84]
          clear hM hG hO hN hall e82 e83 e84 K6n6_3 K6n6_5 K6r4 HB6
          clear tZ
          go_upto_region 18 with fail
          refine region_plain [86, 5] (fun fZ tZ uZ => MR w.heap.size w (u7.heap.size) [(b4_5, LN fy)] [(w.heap.size + 1 + 1, fZ 1, L0s, LN fy)] [] uZ ∧ Gs fZ tZ [(0, 86, NV fy), (2, 5, (Go.Value.int Go.IntKind.i64 0))] ∧ Os fZ [] ∧ Ns fZ tZ []) (by kernel_rfl) ?_ ?_ ?_
          · exact ⟨{ bel := HB7, lo := HB7.size, sz := Nat.le_refl _, ks := ⟨⟨l7n6_5, K7n6_5⟩, trivial⟩, ex := ⟨⟨(by omega), l7r4, rfl, K7r4⟩, trivial⟩, nw := trivial, nd := trivial }, Gs.none _ _, Os.none _, trivial⟩
          · rintro fZ tZ uZ iZ oZ aZ hF ⟨hM, hG, hO, hN⟩ ho hfi hdep
            obtain ⟨hS, hV⟩ := hF.two 87 (by decide) rfl (by decide)
            rcases cZ3 ho with rfl | rfl | rfl <;> cases ho
            · exact t_load (show aZ.eval (.tmp 10) = .pointer (some ⟨b4_5, 0, none⟩) from (hF.out 10 (by decide)).trans rfl) hM.ks.1.2 Try.underlying25 info_api_Nat hF hS rfl rfl rfl rfl rfl (by decide) (Jt hM hG hN)
            · refine op_plain rfl rfl (fun K hK => ?_)
              have kk : CV uZ (w.heap.size + 1 + 1) (bif fZ 1 then LN fy else L0s) := hM.ex.1.2.2.2
              rw [hfi] at kk
              have kk : CV uZ (w.heap.size + 1 + 1) (L0s) := kk
              refine wp_store_mid 25 _ _ rfl (w.heap.size + 1 + 1) 0 (LN fy : List Value).toArray (show aZ.eval (.tmp 4) = .pointer (some ⟨w.heap.size + 1 + 1, 0, none⟩) from (hF.out 4 (by decide)).trans rfl) (ve 86 hV (hG.1 (dd 0 hdep))) kk.there info_api_Nat (all_one rfl) ?_
              exact tell0 hK hF ⟨MR.putXF 0 hM rfl ⟨by omega, trivial⟩ trivial, Gs.idle rfl hG, trivial, Ns.idle hN⟩
            · exact t_assign rfl hF hS rfl rfl rfl rfl (by decide) (Jt hM hG hN)
          rintro fZ tZ u8 ⟨hM, hG, hO, hN⟩ hall
          obtain ⟨e86, e5, -⟩ := Gs.all 3 hall hG rfl
          have HB8 : Below w.heap.size w u8 := hM.bel
          have sz8 : u7.heap.size ≤ u8.heap.size := hM.sz
          have K8r4 : CV u8 (w.heap.size + 1 + 1) (LN fy) := by
            have h1 : CV u8 (w.heap.size + 1 + 1) (bif fZ 1 then LN fy else L0s) := hM.ex.1.2.2.2
            rw [hall 1 (by decide)] at h1; exact h1
          have l8r4 : w.heap.size + 1 + 1 < u8.heap.size := Nat.lt_of_lt_of_le hM.ex.1.2.1 hM.sz
          simp only [ovr, List.set_cons_zero, List.set_cons_succ, e86, e5]
          clear hM hG hO hN hall e86 e5 K7n6_5 K7r4 HB7
          clear tZ
          have c4_0 := (K8r4 0 _ rfl).1
          have c4_1 := (K8r4 1 _ rfl).1
          have c4_2 := (K8r4 2 _ rfl).1
          have c4_3 := (K8r4 3 _ rfl).1
          go_wp2
          refine bodyPost_ret (v := .tuple #[NV fy, .int .i64 0]) (by simp [results, Try.results22, go_sem, c4_0, c4_1, c4_2, c4_3]) rfl ⟨by rw [hyes (by rw [HY.out]; exact h7) _ (HI.out h7)], HB8⟩
        · have h8 : decide (y = 1) = !true := by simp [h7]
          go_upto_region 16 with fail
          refine region_plain [82, 83, 84] (fun fZ tZ uZ => MR w.heap.size w (u6.heap.size) [(w.heap.size + 1 + 1, L0s), (b4_3, LN y), (b4_5, LN fy)] [] [] uZ ∧ Gs fZ tZ [(0, 82, NV y), (1, 83, NV 1), (2, 84, .bool true)] ∧ Os fZ [] ∧ Ns fZ tZ []) (by kernel_rfl) ?_ ?_ ?_
          · exact ⟨{ bel := HB6, lo := HB6.size, sz := Nat.le_refl _, ks := ⟨⟨l6r4, K6r4⟩, ⟨l6n6_3, K6n6_3⟩, ⟨l6n6_5, K6n6_5⟩, trivial⟩, ex := trivial, nw := trivial, nd := trivial }, Gs.none _ _, Os.none _, trivial⟩
          · rintro fZ tZ uZ iZ oZ aZ hF ⟨hM, hG, hO, hN⟩ ho hfi hdep
            obtain ⟨hS, hV⟩ := hF.two 87 (by decide) rfl (by decide)
            rcases cZ3 ho with rfl | rfl | rfl <;> cases ho
            · exact t_load (show aZ.eval (.tmp 8) = .pointer (some ⟨b4_3, 0, none⟩) from (hF.out 8 (by decide)).trans rfl) hM.ks.2.1.2 Try.underlying25 info_api_Nat hF hS rfl rfl rfl rfl rfl (by decide) (Jt hM hG hN)
            · refine op_plain rfl rfl (fun K hK => ?_)
              refine wp_build rfl (vps := [(0, (Go.Value.int Go.IntKind.u64 1))]) (by show [(0, (Go.Value.int Go.IntKind.u64 1))] = _; rfl) (bd1 uZ) ?_
              exact tell hK hF hS (by decide) (Jt hM hG hN)
            · refine op_plain rfl rfl (fun K hK => ?_)
              refine wp_bin rfl (ve 82 hV (hG.1 (dd 0 hdep))) (ve 83 hV (hG.2.1 (dd 1 hdep))) (neq_n _ _ iy In_1 _ h8 uZ) ?_
              exact tell hK hF hS (by decide) (Jt hM hG hN)
          rintro fZ tZ u7 ⟨hM, hG, hO, hN⟩ hall
          obtain ⟨e82, e83, e84, -⟩ := Gs.all 3 hall hG rfl
          have HB7 : Below w.heap.size w u7 := hM.bel
          have sz7 : u6.heap.size ≤ u7.heap.size := hM.sz
          obtain ⟨⟨l7r4, K7r4⟩, -, -, -⟩ := hM.ks.up hM.sz
          dsimp only at l7r4 K7r4
          simp only [ovr, List.set_cons_zero, List.set_cons_succ, e82, e83, e84]
          clear hM hG hO hN hall e82 e83 e84 K6n6_3 K6n6_5 K6r4 HB6
          clear tZ
          go_upto_region 17 with fail
          refine region_plain [85, 5] (fun fZ tZ uZ => MR w.heap.size w (u7.heap.size) [] [(w.heap.size + 1 + 1, fZ 1, L0s, [.int .u64 (0), .int .u64 (0), .int .u64 (0), .int .u64 (0)])] [] uZ ∧ Gs fZ tZ [(0, 85, A4 (0) (0) (0) (0)), (2, 5, (Go.Value.int Go.IntKind.i64 20))] ∧ Os fZ [] ∧ Ns fZ tZ []) (by kernel_rfl) ?_ ?_ ?_
          · exact ⟨{ bel := HB7, lo := HB7.size, sz := Nat.le_refl _, ks := trivial, ex := ⟨⟨(by omega), l7r4, rfl, K7r4⟩, trivial⟩, nw := trivial, nd := trivial }, Gs.none _ _, Os.none _, trivial⟩
          · rintro fZ tZ uZ iZ oZ aZ hF ⟨hM, hG, hO, hN⟩ ho hfi hdep
            obtain ⟨hS, hV⟩ := hF.two 87 (by decide) rfl (by decide)
            rcases cZ3 ho with rfl | rfl | rfl <;> cases ho
            · refine op_plain rfl rfl (fun K hK => ?_)
              refine wp_val (v := A4 (0) (0) (0) (0)) (w' := uZ) (by kernel_rfl) ?_
              exact tell hK hF hS (by decide) (Jt hM hG hN)
            · refine op_plain rfl rfl (fun K hK => ?_)
              have kk : CV uZ (w.heap.size + 1 + 1) (bif fZ 1 then [.int .u64 (0), .int .u64 (0), .int .u64 (0), .int .u64 (0)] else L0s) := hM.ex.1.2.2.2
              rw [hfi] at kk
              have kk : CV uZ (w.heap.size + 1 + 1) (L0s) := kk
              refine wp_store_mid 25 _ _ rfl (w.heap.size + 1 + 1) 0 ([.int .u64 (0), .int .u64 (0), .int .u64 (0), .int .u64 (0)] : List Value).toArray (show aZ.eval (.tmp 4) = .pointer (some ⟨w.heap.size + 1 + 1, 0, none⟩) from (hF.out 4 (by decide)).trans rfl) (ve 85 hV (hG.1 (dd 0 hdep))) kk.there info_api_Nat (all_one rfl) ?_
              exact tell0 hK hF ⟨MR.putXF 0 hM rfl trivial trivial, Gs.idle rfl hG, trivial, Ns.idle hN⟩
            · exact t_assign rfl hF hS rfl rfl rfl rfl (by decide) (Jt hM hG hN)
          rintro fZ tZ u8 ⟨hM, hG, hO, hN⟩ hall
          obtain ⟨e85, e5, -⟩ := Gs.all 3 hall hG rfl
          have HB8 : Below w.heap.size w u8 := hM.bel
          have sz8 : u7.heap.size ≤ u8.heap.size := hM.sz
          have K8r4 : CV u8 (w.heap.size + 1 + 1) ([.int .u64 (0), .int .u64 (0), .int .u64 (0), .int .u64 (0)]) := by
            have h1 : CV u8 (w.heap.size + 1 + 1) (bif fZ 1 then [.int .u64 (0), .int .u64 (0), .int .u64 (0), .int .u64 (0)] else L0s) := hM.ex.1.2.2.2
            rw [hall 1 (by decide)] at h1; exact h1
          have l8r4 : w.heap.size + 1 + 1 < u8.heap.size := Nat.lt_of_lt_of_le hM.ex.1.2.1 hM.sz
          simp only [ovr, List.set_cons_zero, List.set_cons_succ, e85, e5]
          clear hM hG hO hN hall e85 e5 K7r4 HB7
          clear tZ
          have c4_0 := (K8r4 0 _ rfl).1
          have c4_1 := (K8r4 1 _ rfl).1
          have c4_2 := (K8r4 2 _ rfl).1
          have c4_3 := (K8r4 3 _ rfl).1
          go_wp2
          refine bodyPost_ret (v := .tuple #[A4 0 0 0 0, .int .i64 20]) (by simp [results, Try.results22, go_sem, c4_0, c4_1, c4_2, c4_3]) rfl ⟨by rw [hno (by rw [HY.out]; exact h7)], HB8⟩
      · have hl : decide ((k : Int) < 600) = false := by simp; omega
        go_upto_region 8 with fail
        refine region_plain [38, 39, 40, 41, 42, 43, 44] (fun fZ tZ uZ => MR w.heap.size w (wr.heap.size) [(w.heap.size + 1, LN m), (w.heap.size + 1 + 1, L0s), (b1_7, LN x), (b4_3, LN y), (b4_4, LN fx), (b4_5, LN fy)] [] [] uZ ∧ Gs fZ tZ [(0, 38, .int .i64 (k : Int)), (1, 39, .bool false), (2, 40, .bool false), (3, 41, undef), (4, 42, undef), (5, 43, undef), (6, 44, (Go.Value.bool Bool.false))] ∧ Os fZ [] ∧ Ns fZ tZ []) (by kernel_rfl) ?_ ?_ ?_
        · exact ⟨{ bel := HBr, lo := HBr.size, sz := Nat.le_refl _, ks := ⟨⟨(by omega), Km⟩, ⟨lr, Kr⟩, ⟨lx, Kx⟩, ⟨ly, Ky⟩, ⟨lf, Kf⟩, ⟨lh, Kh⟩, trivial⟩, ex := trivial, nw := trivial, nd := trivial }, Gs.none _ _, Os.none _, trivial⟩
        · rintro fZ tZ uZ iZ oZ aZ hF ⟨hM, hG, hO, hN⟩ ho hfi hdep
          obtain ⟨hS, hV⟩ := hF.two 87 (by decide) rfl (by decide)
          rcases cZ7 ho with rfl | rfl | rfl | rfl | rfl | rfl | rfl <;> cases ho
          · exact t_move (show aZ.eval (.tmp 11) = .int .i64 (k : Int) from (hF.out 11 (by decide)).trans rfl) hF hS rfl rfl rfl rfl (by decide) (Jt hM hG hN)
          · refine op_plain rfl rfl (fun K hK => ?_)
            refine wp_bin rfl (ve 38 hV (hG.1 (dd 0 hdep))) rfl (lss_i _ _ (k : Int) 600 _ uZ hl) ?_
            exact tell hK hF hS (by decide) (Jt hM hG hN)
          · exact t_move (ve 39 hV (hG.2.1 (dd 1 hdep))) hF hS rfl rfl rfl rfl (by decide) (Jt hM hG hN)
          · refine wpOp_step rfl (fun K hK => ?_)
            have yg : fZ 2 = true := hdep ⟨2, .guard⟩ (by simp) rfl
            have eg : tZ 40 = .bool false := hG.2.2.1 yg
            rw [if_neg (unwanted_of rfl rfl (show aZ.tmps[40]? = some (.bool false) by rw [hF.tmps (N := 87) (by decide) rfl 40 (by decide) (by decide), eg]) rfl)]
            exact tell hK hF hS (by decide) (Jt hM hG hN)
          · refine wpOp_step rfl (fun K hK => ?_)
            have yg : fZ 2 = true := hdep ⟨2, .guard⟩ (by simp) rfl
            have eg : tZ 40 = .bool false := hG.2.2.1 yg
            rw [if_neg (unwanted_of rfl rfl (show aZ.tmps[40]? = some (.bool false) by rw [hF.tmps (N := 87) (by decide) rfl 40 (by decide) (by decide), eg]) rfl)]
            exact tell hK hF hS (by decide) (Jt hM hG hN)
          · refine wpOp_step rfl (fun K hK => ?_)
            have yg : fZ 2 = true := hdep ⟨2, .guard⟩ (by simp) rfl
            have eg : tZ 40 = .bool false := hG.2.2.1 yg
            rw [if_neg (unwanted_of rfl rfl (show aZ.tmps[40]? = some (.bool false) by rw [hF.tmps (N := 87) (by decide) rfl 40 (by decide) (by decide), eg]) rfl)]
            exact tell hK hF hS (by decide) (Jt hM hG hN)
          · refine op_plain rfl rfl (fun K hK => ?_)
            refine wp_pick rfl (ve 40 hV (hG.2.2.1 (dd 2 hdep))) (b := false) ((if_neg (by decide)).trans rfl) ?_
            exact tell hK hF hS (by decide) (Jt hM hG hN)
        rintro fZ tZ u6 ⟨hM, hG, hO, hN⟩ hall
        obtain ⟨e38, e39, e40, e41, e42, e43, e44, -⟩ := Gs.all 7 hall hG rfl
        have HB6 : Below w.heap.size w u6 := hM.bel
        have sz6 : wr.heap.size ≤ u6.heap.size := hM.sz
        obtain ⟨-, ⟨l6r4, K6r4⟩, -, ⟨l6n6_3, K6n6_3⟩, -, ⟨l6n6_5, K6n6_5⟩, -⟩ := hM.ks.up hM.sz
        dsimp only at l6r4 K6r4 l6n6_3 K6n6_3 l6n6_5 K6n6_5
        simp only [ovr, List.set_cons_zero, List.set_cons_succ, e38, e39, e40, e41, e42, e43, e44]
        clear hM hG hO hN hall e38 e39 e40 e41 e42 e43 e44 Kf Kh Km Kr Kx Ky
        clear tZ
        by_cases h7 : y = 1
        · have h8 : decide (y = 1) = !false := by simp [h7]
          go_upto_region 16 with fail
          refine region_plain [82, 83, 84] (fun fZ tZ uZ => MR w.heap.size w (u6.heap.size) [(w.heap.size + 1 + 1, L0s), (b4_3, LN y), (b4_5, LN fy)] [] [] uZ ∧ Gs fZ tZ [(0, 82, NV y), (1, 83, NV 1), (2, 84, .bool false)] ∧ Os fZ [] ∧ Ns fZ tZ []) (by kernel_rfl) ?_ ?_ ?_
          · exact ⟨{ bel := HB6, lo := HB6.size, sz := Nat.le_refl _, ks := ⟨⟨l6r4, K6r4⟩, ⟨l6n6_3, K6n6_3⟩, ⟨l6n6_5, K6n6_5⟩, trivial⟩, ex := trivial, nw := trivial, nd := trivial }, Gs.none _ _, Os.none _, trivial⟩
          · rintro fZ tZ uZ iZ oZ aZ hF ⟨hM, hG, hO, hN⟩ ho hfi hdep
            obtain ⟨hS, hV⟩ := hF.two 87 (by decide) rfl (by decide)
            rcases cZ3 ho with rfl | rfl | rfl <;> cases ho
            · exact t_load (show aZ.eval (.tmp 8) = .pointer (some ⟨b4_3, 0, none⟩) from (hF.out 8 (by decide)).trans rfl) hM.ks.2.1.2 Try.underlying25 info_api_Nat hF hS rfl rfl rfl rfl rfl (by decide) (Jt hM hG hN)
            · refine op_plain rfl rfl (fun K hK => ?_)
              refine wp_build rfl (vps := [(0, (Go.Value.int Go.IntKind.u64 1))]) (by show [(0, (Go.Value.int Go.IntKind.u64 1))] = _; rfl) (bd1 uZ) ?_
              exact tell hK hF hS (by decide) (Jt hM hG hN)
            · refine op_plain rfl rfl (fun K hK => ?_)
              refine wp_bin rfl (ve 82 hV (hG.1 (dd 0 hdep))) (ve 83 hV (hG.2.1 (dd 1 hdep))) (neq_n _ _ iy In_1 _ h8 uZ) ?_
              exact tell hK hF hS (by decide) (Jt hM hG hN)
          rintro fZ tZ u7 ⟨hM, hG, hO, hN⟩ hall
          obtain ⟨e82, e83, e84, -⟩ := Gs.all 3 hall hG rfl
          have HB7 : Below w.heap.size w u7 := hM.bel
          have sz7 : u6.heap.size ≤ u7.heap.size := hM.sz
          obtain ⟨⟨l7r4, K7r4⟩, -, ⟨l7n6_5, K7n6_5⟩, -⟩ := hM.ks.up hM.sz
          dsimp only at l7r4 K7r4 l7n6_5 K7n6_5
          simp only [ovr, List.set_cons_zero, List.set_cons_succ, e82, e83, e84]
          clear hM hG hO hN hall e82 e83 e84 K6n6_3 K6n6_5 K6r4 HB6
          clear tZ
          go_upto_region 18 with fail
          refine region_plain [86, 5] (fun fZ tZ uZ => MR w.heap.size w (u7.heap.size) [(b4_5, LN fy)] [(w.heap.size + 1 + 1, fZ 1, L0s, LN fy)] [] uZ ∧ Gs fZ tZ [(0, 86, NV fy), (2, 5, (Go.Value.int Go.IntKind.i64 0))] ∧ Os fZ [] ∧ Ns fZ tZ []) (by kernel_rfl) ?_ ?_ ?_
          · exact ⟨{ bel := HB7, lo := HB7.size, sz := Nat.le_refl _, ks := ⟨⟨l7n6_5, K7n6_5⟩, trivial⟩, ex := ⟨⟨(by omega), l7r4, rfl, K7r4⟩, trivial⟩, nw := trivial, nd := trivial }, Gs.none _ _, Os.none _, trivial⟩
          · rintro fZ tZ uZ iZ oZ aZ hF ⟨hM, hG, hO, hN⟩ ho hfi hdep
            obtain ⟨hS, hV⟩ := hF.two 87 (by decide) rfl (by decide)
            rcases cZ3 ho with rfl | rfl | rfl <;> cases ho
            · exact t_load (show aZ.eval (.tmp 10) = .pointer (some ⟨b4_5, 0, none⟩) from (hF.out 10 (by decide)).trans rfl) hM.ks.1.2 Try.underlying25 info_api_Nat hF hS rfl rfl rfl rfl rfl (by decide) (Jt hM hG hN)
            · refine op_plain rfl rfl (fun K hK => ?_)
              have kk : CV uZ (w.heap.size + 1 + 1) (bif fZ 1 then LN fy else L0s) := hM.ex.1.2.2.2
              rw [hfi] at kk
              have kk : CV uZ (w.heap.size + 1 + 1) (L0s) := kk
              refine wp_store_mid 25 _ _ rfl (w.heap.size + 1 + 1) 0 (LN fy : List Value).toArray (show aZ.eval (.tmp 4) = .pointer (some ⟨w.heap.size + 1 + 1, 0, none⟩) from (hF.out 4 (by decide)).trans rfl) (ve 86 hV (hG.1 (dd 0 hdep))) kk.there info_api_Nat (all_one rfl) ?_
              exact tell0 hK hF ⟨MR.putXF 0 hM rfl ⟨by omega, trivial⟩ trivial, Gs.idle rfl hG, trivial, Ns.idle hN⟩
            · exact t_assign rfl hF hS rfl rfl rfl rfl (by decide) (Jt hM hG hN)
          rintro fZ tZ u8 ⟨hM, hG, hO, hN⟩ hall
          obtain ⟨e86, e5, -⟩ := Gs.all 3 hall hG rfl
          have HB8 : Below w.heap.size w u8 := hM.bel
          have sz8 : u7.heap.size ≤ u8.heap.size := hM.sz
          have K8r4 : CV u8 (w.heap.size + 1 + 1) (LN fy) := by
            have h1 : CV u8 (w.heap.size + 1 + 1) (bif fZ 1 then LN fy else L0s) := hM.ex.1.2.2.2
            rw [hall 1 (by decide)] at h1; exact h1
          have l8r4 : w.heap.size + 1 + 1 < u8.heap.size := Nat.lt_of_lt_of_le hM.ex.1.2.1 hM.sz
          simp only [ovr, List.set_cons_zero, List.set_cons_succ, e86, e5]
          clear hM hG hO hN hall e86 e5 K7n6_5 K7r4 HB7
          clear tZ
          have c4_0 := (K8r4 0 _ rfl).1
          have c4_1 := (K8r4 1 _ rfl).1
          have c4_2 := (K8r4 2 _ rfl).1
          have c4_3 := (K8r4 3 _ rfl).1
          go_wp2
          refine bodyPost_ret (v := .tuple #[NV fy, .int .i64 0]) (by simp [results, Try.results22, go_sem, c4_0, c4_1, c4_2, c4_3]) rfl ⟨by rw [hyes (by rw [HY.out]; exact h7) _ (HI.out h7)], HB8⟩
        · have h8 : decide (y = 1) = !true := by simp [h7]
          go_upto_region 16 with fail
          refine region_plain [82, 83, 84] (fun fZ tZ uZ => MR w.heap.size w (u6.heap.size) [(w.heap.size + 1 + 1, L0s), (b4_3, LN y), (b4_5, LN fy)] [] [] uZ ∧ Gs fZ tZ [(0, 82, NV y), (1, 83, NV 1), (2, 84, .bool true)] ∧ Os fZ [] ∧ Ns fZ tZ []) (by kernel_rfl) ?_ ?_ ?_
          · exact ⟨{ bel := HB6, lo := HB6.size, sz := Nat.le_refl _, ks := ⟨⟨l6r4, K6r4⟩, ⟨l6n6_3, K6n6_3⟩, ⟨l6n6_5, K6n6_5⟩, trivial⟩, ex := trivial, nw := trivial, nd := trivial }, Gs.none _ _, Os.none _, trivial⟩
          · rintro fZ tZ uZ iZ oZ aZ hF ⟨hM, hG, hO, hN⟩ ho hfi hdep
            obtain ⟨hS, hV⟩ := hF.two 87 (by decide) rfl (by decide)
            rcases cZ3 ho with rfl | rfl | rfl <;> cases ho
            · exact t_load (show aZ.eval (.tmp 8) = .pointer (some ⟨b4_3, 0, none⟩) from (hF.out 8 (by decide)).trans rfl) hM.ks.2.1.2 Try.underlying25 info_api_Nat hF hS rfl rfl rfl rfl rfl (by decide) (Jt hM hG hN)
            · refine op_plain rfl rfl (fun K hK => ?_)
              refine wp_build rfl (vps := [(0, (Go.Value.int Go.IntKind.u64 1))]) (by show [(0, (Go.Value.int Go.IntKind.u64 1))] = _; rfl) (bd1 uZ) ?_
              exact tell hK hF hS (by decide) (Jt hM hG hN)
            · refine op_plain rfl rfl (fun K hK => ?_)
              refine wp_bin rfl (ve 82 hV (hG.1 (dd 0 hdep))) (ve 83 hV (hG.2.1 (dd 1 hdep))) (neq_n _ _ iy In_1 _ h8 uZ) ?_
              exact tell hK hF hS (by decide) (Jt hM hG hN)
          rintro fZ tZ u7 ⟨hM, hG, hO, hN⟩ hall
          obtain ⟨e82, e83, e84, -⟩ := Gs.all 3 hall hG rfl
          have HB7 : Below w.heap.size w u7 := hM.bel
          have sz7 : u6.heap.size ≤ u7.heap.size := hM.sz
          obtain ⟨⟨l7r4, K7r4⟩, -, -, -⟩ := hM.ks.up hM.sz
          dsimp only at l7r4 K7r4
          simp only [ovr, List.set_cons_zero, List.set_cons_succ, e82, e83, e84]
          clear hM hG hO hN hall e82 e83 e84 K6n6_3 K6n6_5 K6r4 HB6
          clear tZ
          go_upto_region 17 with fail
          refine region_plain [85, 5] (fun fZ tZ uZ => MR w.heap.size w (u7.heap.size) [] [(w.heap.size + 1 + 1, fZ 1, L0s, [.int .u64 (0), .int .u64 (0), .int .u64 (0), .int .u64 (0)])] [] uZ ∧ Gs fZ tZ [(0, 85, A4 (0) (0) (0) (0)), (2, 5, (Go.Value.int Go.IntKind.i64 20))] ∧ Os fZ [] ∧ Ns fZ tZ []) (by kernel_rfl) ?_ ?_ ?_
          · exact ⟨{ bel := HB7, lo := HB7.size, sz := Nat.le_refl _, ks := trivial, ex := ⟨⟨(by omega), l7r4, rfl, K7r4⟩, trivial⟩, nw := trivial, nd := trivial }, Gs.none _ _, Os.none _, trivial⟩
          · rintro fZ tZ uZ iZ oZ aZ hF ⟨hM, hG, hO, hN⟩ ho hfi hdep
            obtain ⟨hS, hV⟩ := hF.two 87 (by decide) rfl (by decide)
            rcases cZ3 ho with rfl | rfl | rfl <;> cases ho
            · refine op_plain rfl rfl (fun K hK => ?_)
              refine wp_val (v := A4 (0) (0) (0) (0)) (w' := uZ) (by kernel_rfl) ?_
              exact tell hK hF hS (by decide) (Jt hM hG hN)
            · refine op_plain rfl rfl (fun K hK => ?_)
              have kk : CV uZ (w.heap.size + 1 + 1) (bif fZ 1 then [.int .u64 (0), .int .u64 (0), .int .u64 (0), .int .u64 (0)] else L0s) := hM.ex.1.2.2.2
              rw [hfi] at kk
              have kk : CV uZ (w.heap.size + 1 + 1) (L0s) := kk
              refine wp_store_mid 25 _ _ rfl (w.heap.size + 1 + 1) 0 ([.int .u64 (0), .int .u64 (0), .int .u64 (0), .int .u64 (0)] : List Value).toArray (show aZ.eval (.tmp 4) = .pointer (some ⟨w.heap.size + 1 + 1, 0, none⟩) from (hF.out 4 (by decide)).trans rfl) (ve 85 hV (hG.1 (dd 0 hdep))) kk.there info_api_Nat (all_one rfl) ?_
              exact tell0 hK hF ⟨MR.putXF 0 hM rfl trivial trivial, Gs.idle rfl hG, trivial, Ns.idle hN⟩
            · exact t_assign rfl hF hS rfl rfl rfl rfl (by decide) (Jt hM hG hN)
          rintro fZ tZ u8 ⟨hM, hG, hO, hN⟩ hall
          obtain ⟨e85, e5, -⟩ := Gs.all 3 hall hG rfl
          have HB8 : Below w.heap.size w u8 := hM.bel
          have sz8 : u7.heap.size ≤ u8.heap.size := hM.sz
          have K8r4 : CV u8 (w.heap.size + 1 + 1) ([.int .u64 (0), .int .u64 (0), .int .u64 (0), .int .u64 (0)]) := by
            have h1 : CV u8 (w.heap.size + 1 + 1) (bif fZ 1 then [.int .u64 (0), .int .u64 (0), .int .u64 (0), .int .u64 (0)] else L0s) := hM.ex.1.2.2.2
            rw [hall 1 (by decide)] at h1; exact h1
          have l8r4 : w.heap.size + 1 + 1 < u8.heap.size := Nat.lt_of_lt_of_le hM.ex.1.2.1 hM.sz
          simp only [ovr, List.set_cons_zero, List.set_cons_succ, e85, e5]
          clear hM hG hO hN hall e85 e5 K7r4 HB7
          clear tZ
          have c4_0 := (K8r4 0 _ rfl).1
          have c4_1 := (K8r4 1 _ rfl).1
          have c4_2 := (K8r4 2 _ rfl).1
          have c4_3 := (K8r4 3 _ rfl).1
          go_wp2
          refine bodyPost_ret (v := .tuple #[A4 0 0 0 0, .int .i64 20]) (by simp [results, Try.results22, go_sem, c4_0, c4_1, c4_2, c4_3]) rfl ⟨by rw [hno (by rw [HY.out]; exact h7)], HB8⟩
    · have h6 : k < 600 := by
        rcases Nat.lt_or_ge k 600 with h | h
        · exact h
        · have : k = 600 := by omega
          subst this; exact absurd hR.fin h2
      have hl : decide ((k : Int) < 600) = true := by simp; omega
      have hz : decide (x = 0) = !true := by simp [h2]
      have hS := hR.step h2
      have i1 : In (y % x) := In_mod ix h2
      have i2 : In (y / x) := In_div iy ix h2
      have i3 : In (y / x * fx % m) := In_mod hm h
      clear hR
      go_upto_region 8 with fail
      refine region_plain [38, 39, 40, 41, 42, 43, 44] (fun fZ tZ uZ => MR w.heap.size w (wr.heap.size) [(w.heap.size + 1, LN m), (w.heap.size + 1 + 1, L0s), (b1_7, LN x), (b4_3, LN y), (b4_4, LN fx), (b4_5, LN fy)] [] [] uZ ∧ Gs fZ tZ [(0, 38, .int .i64 (k : Int)), (1, 39, .bool true), (2, 40, .bool true), (3, 41, NV x), (4, 42, A4 (0) (0) (0) (0)), (5, 43, .bool true), (6, 44, .bool true)] ∧ Os fZ [] ∧ Ns fZ tZ []) (by kernel_rfl) ?_ ?_ ?_
      · exact ⟨{ bel := HBr, lo := HBr.size, sz := Nat.le_refl _, ks := ⟨⟨(by omega), Km⟩, ⟨lr, Kr⟩, ⟨lx, Kx⟩, ⟨ly, Ky⟩, ⟨lf, Kf⟩, ⟨lh, Kh⟩, trivial⟩, ex := trivial, nw := trivial, nd := trivial }, Gs.none _ _, Os.none _, trivial⟩
      · rintro fZ tZ uZ iZ oZ aZ hF ⟨hM, hG, hO, hN⟩ ho hfi hdep
        obtain ⟨hS, hV⟩ := hF.two 87 (by decide) rfl (by decide)
        rcases cZ7 ho with rfl | rfl | rfl | rfl | rfl | rfl | rfl <;> cases ho
        · exact t_move (show aZ.eval (.tmp 11) = .int .i64 (k : Int) from (hF.out 11 (by decide)).trans rfl) hF hS rfl rfl rfl rfl (by decide) (Jt hM hG hN)
        · refine op_plain rfl rfl (fun K hK => ?_)
          refine wp_bin rfl (ve 38 hV (hG.1 (dd 0 hdep))) rfl (lss_i _ _ (k : Int) 600 _ uZ hl) ?_
          exact tell hK hF hS (by decide) (Jt hM hG hN)
        · exact t_move (ve 39 hV (hG.2.1 (dd 1 hdep))) hF hS rfl rfl rfl rfl (by decide) (Jt hM hG hN)
        · refine wpOp_step rfl (fun K hK => ?_)
          have yg : fZ 2 = true := hdep ⟨2, .guard⟩ (by simp) rfl
          have eg : tZ 40 = .bool true := hG.2.2.1 yg
          rw [if_pos (wanted_of rfl rfl (show aZ.tmps[40]? = some (.bool true) by rw [hF.tmps (N := 87) (by decide) rfl 40 (by decide) (by decide), eg]))]
          refine wp_load_mid 25 _ rfl _ 0 (show aZ.eval (.tmp 6) = .pointer (some ⟨b1_7, 0, none⟩) from (hF.out 6 (by decide)).trans rfl) _ _ (CV.range hM.ks.2.2.1.2) Try.underlying25 rfl info_api_Nat ?_
          exact tell hK hF hS (by decide) (Jt hM hG hN)
        · refine wpOp_step rfl (fun K hK => ?_)
          have yg : fZ 2 = true := hdep ⟨2, .guard⟩ (by simp) rfl
          have eg : tZ 40 = .bool true := hG.2.2.1 yg
          rw [if_pos (wanted_of rfl rfl (show aZ.tmps[40]? = some (.bool true) by rw [hF.tmps (N := 87) (by decide) rfl 40 (by decide) (by decide), eg]))]
          refine wp_val (v := A4 (0) (0) (0) (0)) (w' := uZ) (by kernel_rfl) ?_
          exact tell hK hF hS (by decide) (Jt hM hG hN)
        · refine wpOp_step rfl (fun K hK => ?_)
          have yg : fZ 2 = true := hdep ⟨2, .guard⟩ (by simp) rfl
          have eg : tZ 40 = .bool true := hG.2.2.1 yg
          rw [if_pos (wanted_of rfl rfl (show aZ.tmps[40]? = some (.bool true) by rw [hF.tmps (N := 87) (by decide) rfl 40 (by decide) (by decide), eg]))]
          refine wp_bin rfl (ve 41 hV (hG.2.2.2.1 (dd 3 hdep))) (ve 42 hV (hG.2.2.2.2.1 (dd 4 hdep))) (neq_0 _ _ ix _ hz uZ) ?_
          exact tell hK hF hS (by decide) (Jt hM hG hN)
        · refine op_plain rfl rfl (fun K hK => ?_)
          refine wp_pick rfl (ve 40 hV (hG.2.2.1 (dd 2 hdep))) (b := true) ((if_pos rfl).trans (ve 43 hV (hG.2.2.2.2.2.1 (dd 5 hdep)))) ?_
          exact tell hK hF hS (by decide) (Jt hM hG hN)
      rintro fZ tZ u6 ⟨hM, hG, hO, hN⟩ hall
      obtain ⟨e38, e39, e40, e41, e42, e43, e44, -⟩ := Gs.all 7 hall hG rfl
      have HB6 : Below w.heap.size w u6 := hM.bel
      have sz6 : wr.heap.size ≤ u6.heap.size := hM.sz
      obtain ⟨⟨l6p1, K6p1⟩, ⟨l6r4, K6r4⟩, ⟨l6n1_7, K6n1_7⟩, ⟨l6n6_3, K6n6_3⟩, ⟨l6n6_4, K6n6_4⟩, ⟨l6n6_5, K6n6_5⟩, -⟩ := hM.ks.up hM.sz
      dsimp only at l6p1 K6p1 l6r4 K6r4 l6n1_7 K6n1_7 l6n6_3 K6n6_3 l6n6_4 K6n6_4 l6n6_5 K6n6_5
      simp only [ovr, List.set_cons_zero, List.set_cons_succ, e38, e39, e40, e41, e42, e43, e44]
      clear hM hG hO hN hall e38 e39 e40 e41 e42 e43 e44 Kf Kh Km Kr Kx Ky
      clear tZ
      go_upto_region 10 with fail
      refine region_drawn [48, 49, 50, 51, 47, 52, 53, 54, 12, 13, 14] (fun fZ tZ uZ => MR w.heap.size w (u6.heap.size) [(w.heap.size + 1, LN m), (w.heap.size + 1 + 1, L0s), (b1_7, LN x), (b4_3, LN y), (b4_4, LN fx), (b4_5, LN fy)] [] [(fZ 8, fZ 10, tZ 12, L0w, LW (y / x)), (fZ 9, fZ 11, tZ 13, L0s, LN (y % x))] uZ ∧ Gs fZ tZ [(0, 48, NV y), (1, 49, WV y), (2, 50, NV x), (3, 51, .tuple #[WV (y / x), NV (y % x), .int .i64 0]), (4, 47, .tuple #[WV (y / x), NV (y % x), .int .i64 0]), (5, 52, WV (y / x)), (6, 53, NV (y % x)), (7, 54, .int .i64 0), (12, 14, .int .i64 0)] ∧ Os fZ [(10, 8), (11, 9)] ∧ Ns fZ tZ []) (by kernel_rfl) (by kernel_rfl) ?_ ?_ ?_
      · exact ⟨{ bel := HB6.drew, lo := HB6.size, sz := Nat.le_refl _, ks := ⟨⟨l6p1, K6p1⟩, ⟨l6r4, K6r4⟩, ⟨l6n1_7, K6n1_7⟩, ⟨l6n6_3, K6n6_3⟩, ⟨l6n6_4, K6n6_4⟩, ⟨l6n6_5, K6n6_5⟩, trivial⟩, ex := trivial, nw := ⟨fun e => (by cases e), fun e => (by cases e), trivial⟩, nd := ⟨fun e => (by cases e), fun e => (by cases e), trivial⟩ }, Gs.none _ _, Os.none _, trivial⟩
      · rintro fZ tZ uZ iZ oZ aZ hF ⟨hM, hG, hO, hN⟩ ho hfi hdep
        obtain ⟨hS, hV⟩ := hF.two 87 (by decide) rfl (by decide)
        rcases cZ13 ho with rfl | rfl | rfl | rfl | rfl | rfl | rfl | rfl | rfl | rfl | rfl | rfl | rfl <;> cases ho
        · exact t_load (show aZ.eval (.tmp 8) = .pointer (some ⟨b4_3, 0, none⟩) from (hF.out 8 (by decide)).trans rfl) hM.ks.2.2.2.1.2 Try.underlying25 info_api_Nat hF hS rfl rfl rfl rfl rfl (by decide) (Jm hM hG hO hN)
        · exact t_call (vs := [NV y]) (by show [aZ.eval (.tmp 48)] = _; rw [(ve 48 hV (hG.1 (dd 0 hdep)))]) ent_seneschalref01_Widen (nrWiden y uZ iy) hF hS rfl rfl rfl rfl (by decide) (fun _ hB => (Jm (hM.call hB) hG hO hN))
        · exact t_load (show aZ.eval (.tmp 6) = .pointer (some ⟨b1_7, 0, none⟩) from (hF.out 6 (by decide)).trans rfl) hM.ks.2.2.1.2 Try.underlying25 info_api_Nat hF hS rfl rfl rfl rfl rfl (by decide) (Jm hM hG hO hN)
        · exact t_call (vs := [WV y, NV x]) (by show [aZ.eval (.tmp 49), aZ.eval (.tmp 50)] = _; rw [(ve 49 hV (hG.2.1 (dd 1 hdep))), (ve 50 hV (hG.2.2.1 (dd 2 hdep)))]) ent_seneschalref01_Divide (nrDivide y x uZ iy.wide ix h2) hF hS rfl rfl rfl rfl (by decide) (fun _ hB => (Jm (hM.call hB) hG hO hN))
        · exact t_move (ve 51 hV (hG.2.2.2.1 (dd 3 hdep))) hF hS rfl rfl rfl rfl (by decide) (Jm hM hG hO hN)
        · exact t_extract (ve 47 hV (hG.2.2.2.2.1 (dd 4 hdep))) hF hS rfl rfl rfl rfl rfl (by decide) (Jm hM hG hO hN)
        · exact t_extract (ve 47 hV (hG.2.2.2.2.1 (dd 4 hdep))) hF hS rfl rfl rfl rfl rfl (by decide) (Jm hM hG hO hN)
        · exact t_extract (ve 47 hV (hG.2.2.2.2.1 (dd 4 hdep))) hF hS rfl rfl rfl rfl rfl (by decide) (Jm hM hG hO hN)
        · have q1 : fZ 10 = false := Os.not (hO.1) hfi
          exact t_alloc (al_api_Wide uZ) hF hS rfl rfl rfl rfl (by decide) ⟨MR.newF 0 hM rfl hfi q1, Gs.other rfl hG, hO.keep rfl, Ns.step hN rfl⟩
        · have q1 : fZ 11 = false := Os.not (hO.2.1) hfi
          exact t_alloc (al_api_Nat uZ) hF hS rfl rfl rfl rfl (by decide) ⟨MR.newF 1 hM rfl hfi q1, Gs.other rfl hG, hO.keep rfl, Ns.step hN rfl⟩
        · exact t_storeN 0 hM rfl (dd 8 hdep) hfi (hV 12 (by decide)) (ve 52 hV (hG.2.2.2.2.2.1 (dd 5 hdep))) rfl info_api_Wide rfl hF rfl rfl rfl rfl (fun _ h => ⟨h, Gs.idle rfl hG, ⟨fun _ => (dd 8 hdep :), hO.2.1, trivial⟩, Ns.idle hN⟩)
        · exact t_storeN 1 hM rfl (dd 9 hdep) hfi (hV 13 (by decide)) (ve 53 hV (hG.2.2.2.2.2.2.1 (dd 6 hdep))) rfl info_api_Nat rfl hF rfl rfl rfl rfl (fun _ h => ⟨h, Gs.idle rfl hG, ⟨hO.1, fun _ => (dd 9 hdep :), trivial⟩, Ns.idle hN⟩)
        · exact t_assign (ve 54 hV (hG.2.2.2.2.2.2.2.1 (dd 7 hdep))) hF hS rfl rfl rfl rfl (by decide) (Jm hM hG hO hN)
      rintro fZ tZ u7 ⟨hM, hG, hO, hN⟩ hall
      obtain ⟨e48, e49, e50, e51, e47, e52, e53, e54, e14, -⟩ := Gs.all 13 hall hG rfl
      obtain ⟨b7_8, ee12, pb7_8, lb7_8, kb7_8⟩ := hM.nw.1 (hall 8 (by decide))
      have e12 : tZ 12 = .pointer (some ⟨b7_8, 0, none⟩) := ee12
      clear ee12
      have Kb7_8 : CV u7 b7_8 (LW (y / x)) := by
        have h1 : CV u7 b7_8 (bif fZ 10 then LW (y / x) else L0w) := kb7_8
        rw [hall 10 (by decide)] at h1; exact h1
      clear kb7_8
      obtain ⟨b7_9, ee13, pb7_9, lb7_9, kb7_9⟩ := hM.nw.2.1 (hall 9 (by decide))
      have e13 : tZ 13 = .pointer (some ⟨b7_9, 0, none⟩) := ee13
      clear ee13
      have Kb7_9 : CV u7 b7_9 (LN (y % x)) := by
        have h1 : CV u7 b7_9 (bif fZ 11 then LN (y % x) else L0s) := kb7_9
        rw [hall 11 (by decide)] at h1; exact h1
      clear kb7_9
      have nb7_8_b7_9 : b7_8 ≠ b7_9 := fun e => (hM.nd.1 (hall 8 (by decide))).1 (hall 9 (by decide)) (by show tZ 13 = tZ 12; rw [e13, e12, e])
      have HB7 : Below w.heap.size w u7 := hM.bel
      have sz7 : u6.heap.size ≤ u7.heap.size := hM.sz
      obtain ⟨⟨l7p1, K7p1⟩, ⟨l7r4, K7r4⟩, ⟨l7n1_7, K7n1_7⟩, ⟨l7n6_3, K7n6_3⟩, ⟨l7n6_4, K7n6_4⟩, ⟨l7n6_5, K7n6_5⟩, -⟩ := hM.ks.up hM.sz
      dsimp only at l7p1 K7p1 l7r4 K7r4 l7n1_7 K7n1_7 l7n6_3 K7n6_3 l7n6_4 K7n6_4 l7n6_5 K7n6_5
      simp only [ovr, List.set_cons_zero, List.set_cons_succ, e48, e49, e50, e51, e47, e52, e53, e54, e14, e12, e13]
      clear hM hG hO hN hall e48 e49 e50 e51 e47 e52 e53 e54 e14 e12 e13 K6n1_7 K6n6_3 K6n6_4 K6n6_5 K6p1 K6r4 HB6
      clear tZ
      go_upto_region 11 with fail
      refine region_plain [55, 56, 57, 58, 59, 60, 61, 62, 63, 15] (fun fZ tZ uZ => MR w.heap.size w (u7.heap.size) [(w.heap.size + 1, LN m), (w.heap.size + 1 + 1, L0s), (b1_7, LN x), (b4_3, LN y), (b4_4, LN fx), (b4_5, LN fy), (b7_8, LW (y / x)), (b7_9, LN (y % x))] [] [(fZ 9, fZ 10, tZ 15, L0s, LN (y / x))] uZ ∧ Gs fZ tZ [(0, 55, .pointer (some ⟨b7_8, 0, none⟩)), (1, 56, .int .u64 (D0 (y / x))), (2, 57, .pointer (some ⟨b7_8, 1, none⟩)), (3, 58, .int .u64 (D1 (y / x))), (4, 59, .pointer (some ⟨b7_8, 2, none⟩)), (5, 60, .int .u64 (D2 (y / x))), (6, 61, .pointer (some ⟨b7_8, 3, none⟩)), (7, 62, .int .u64 (D3 (y / x))), (8, 63, NV (y / x))] ∧ Os fZ [(10, 9)] ∧ Ns fZ tZ []) (by kernel_rfl) ?_ ?_ ?_
      · exact ⟨{ bel := HB7, lo := HB7.size, sz := Nat.le_refl _, ks := ⟨⟨l7p1, K7p1⟩, ⟨l7r4, K7r4⟩, ⟨l7n1_7, K7n1_7⟩, ⟨l7n6_3, K7n6_3⟩, ⟨l7n6_4, K7n6_4⟩, ⟨l7n6_5, K7n6_5⟩, ⟨lb7_8, Kb7_8⟩, ⟨lb7_9, Kb7_9⟩, trivial⟩, ex := trivial, nw := ⟨fun e => (by cases e), trivial⟩, nd := ⟨fun e => (by cases e), trivial⟩ }, Gs.none _ _, Os.none _, trivial⟩
      · rintro fZ tZ uZ iZ oZ aZ hF ⟨hM, hG, hO, hN⟩ ho hfi hdep
        obtain ⟨hS, hV⟩ := hF.two 87 (by decide) rfl (by decide)
        rcases cZ11 ho with rfl | rfl | rfl | rfl | rfl | rfl | rfl | rfl | rfl | rfl | rfl <;> cases ho
        · refine op_plain rfl rfl (fun K hK => ?_)
          refine wp_index rfl (show aZ.eval (.tmp 12) = .pointer (some ⟨b7_8, 0, none⟩) from (hF.out 12 (by decide)).trans rfl) rfl (ix_wide uZ (b7_8) 0 (by omega)) ?_
          exact tell hK hF hS (by decide) (Jm hM hG hO hN)
        · refine op_plain rfl rfl (fun K hK => ?_)
          have kk : CV uZ (b7_8) (LW (y / x)) := hM.ks.2.2.2.2.2.2.1.2
          have kc := (kk 0 _ (rfl)).1
          refine wp_load rfl (ve 55 hV (hG.1 (dd 0 hdep))) (ld_u64 uZ (b7_8) 0 _ kc) ?_
          exact tell hK hF hS (by decide) (Jm hM hG hO hN)
        · refine op_plain rfl rfl (fun K hK => ?_)
          refine wp_index rfl (show aZ.eval (.tmp 12) = .pointer (some ⟨b7_8, 0, none⟩) from (hF.out 12 (by decide)).trans rfl) rfl (ix_wide uZ (b7_8) 1 (by omega)) ?_
          exact tell hK hF hS (by decide) (Jm hM hG hO hN)
        · refine op_plain rfl rfl (fun K hK => ?_)
          have kk : CV uZ (b7_8) (LW (y / x)) := hM.ks.2.2.2.2.2.2.1.2
          have kc := (kk 1 _ (rfl)).1
          refine wp_load rfl (ve 57 hV (hG.2.2.1 (dd 2 hdep))) (ld_u64 uZ (b7_8) 1 _ kc) ?_
          exact tell hK hF hS (by decide) (Jm hM hG hO hN)
        · refine op_plain rfl rfl (fun K hK => ?_)
          refine wp_index rfl (show aZ.eval (.tmp 12) = .pointer (some ⟨b7_8, 0, none⟩) from (hF.out 12 (by decide)).trans rfl) rfl (ix_wide uZ (b7_8) 2 (by omega)) ?_
          exact tell hK hF hS (by decide) (Jm hM hG hO hN)
        · refine op_plain rfl rfl (fun K hK => ?_)
          have kk : CV uZ (b7_8) (LW (y / x)) := hM.ks.2.2.2.2.2.2.1.2
          have kc := (kk 2 _ (rfl)).1
          refine wp_load rfl (ve 59 hV (hG.2.2.2.2.1 (dd 4 hdep))) (ld_u64 uZ (b7_8) 2 _ kc) ?_
          exact tell hK hF hS (by decide) (Jm hM hG hO hN)
        · refine op_plain rfl rfl (fun K hK => ?_)
          refine wp_index rfl (show aZ.eval (.tmp 12) = .pointer (some ⟨b7_8, 0, none⟩) from (hF.out 12 (by decide)).trans rfl) rfl (ix_wide uZ (b7_8) 3 (by omega)) ?_
          exact tell hK hF hS (by decide) (Jm hM hG hO hN)
        · refine op_plain rfl rfl (fun K hK => ?_)
          have kk : CV uZ (b7_8) (LW (y / x)) := hM.ks.2.2.2.2.2.2.1.2
          have kc := (kk 3 _ (rfl)).1
          refine wp_load rfl (ve 61 hV (hG.2.2.2.2.2.2.1 (dd 6 hdep))) (ld_u64 uZ (b7_8) 3 _ kc) ?_
          exact tell hK hF hS (by decide) (Jm hM hG hO hN)
        · refine op_plain rfl rfl (fun K hK => ?_)
          refine wp_build rfl (vps := [(0, .int .u64 (D0 (y / x))), (1, .int .u64 (D1 (y / x))), (2, .int .u64 (D2 (y / x))), (3, .int .u64 (D3 (y / x)))]) (by show [(0, aZ.eval (.tmp 56)), (1, aZ.eval (.tmp 58)), (2, aZ.eval (.tmp 60)), (3, aZ.eval (.tmp 62))] = _; rw [(ve 56 hV (hG.2.1 (dd 1 hdep))), (ve 58 hV (hG.2.2.2.1 (dd 3 hdep))), (ve 60 hV (hG.2.2.2.2.2.1 (dd 5 hdep))), (ve 62 hV (hG.2.2.2.2.2.2.2.1 (dd 7 hdep)))]) (bd4 _ _ _ _ uZ) ?_
          exact tell hK hF hS (by decide) (Jm hM hG hO hN)
        · have q1 : fZ 10 = false := Os.not (hO.1) hfi
          exact t_alloc (al_api_Nat uZ) hF hS rfl rfl rfl rfl (by decide) ⟨MR.newF 0 hM rfl hfi q1, Gs.other rfl hG, hO.keep rfl, Ns.step hN rfl⟩
        · exact t_storeN 0 hM rfl (dd 9 hdep) hfi (hV 15 (by decide)) (ve 63 hV (hG.2.2.2.2.2.2.2.2.1 (dd 8 hdep))) rfl info_api_Nat rfl hF rfl rfl rfl rfl (fun _ h => ⟨h, Gs.idle rfl hG, ⟨fun _ => (dd 9 hdep :), trivial⟩, Ns.idle hN⟩)
      rintro fZ tZ u8 ⟨hM, hG, hO, hN⟩ hall
      obtain ⟨e55, e56, e57, e58, e59, e60, e61, e62, e63, -⟩ := Gs.all 11 hall hG rfl
      obtain ⟨b8_9, ee15, pb8_9, lb8_9, kb8_9⟩ := hM.nw.1 (hall 9 (by decide))
      have e15 : tZ 15 = .pointer (some ⟨b8_9, 0, none⟩) := ee15
      clear ee15
      have Kb8_9 : CV u8 b8_9 (LN (y / x)) := by
        have h1 : CV u8 b8_9 (bif fZ 10 then LN (y / x) else L0s) := kb8_9
        rw [hall 10 (by decide)] at h1; exact h1
      clear kb8_9
      have HB8 : Below w.heap.size w u8 := hM.bel
      have sz8 : u7.heap.size ≤ u8.heap.size := hM.sz
      obtain ⟨⟨l8p1, K8p1⟩, ⟨l8r4, K8r4⟩, ⟨l8n1_7, K8n1_7⟩, ⟨l8n6_3, K8n6_3⟩, ⟨l8n6_4, K8n6_4⟩, ⟨l8n6_5, K8n6_5⟩, -, ⟨l8n10_9, K8n10_9⟩, -⟩ := hM.ks.up hM.sz
      dsimp only at l8p1 K8p1 l8r4 K8r4 l8n1_7 K8n1_7 l8n6_3 K8n6_3 l8n6_4 K8n6_4 l8n6_5 K8n6_5 l8n10_9 K8n10_9
      simp only [ovr, List.set_cons_zero, List.set_cons_succ, e55, e56, e57, e58, e59, e60, e61, e62, e63, e15]
      clear hM hG hO hN hall e55 e56 e57 e58 e59 e60 e61 e62 e63 e15 K7n1_7 K7n6_3 K7n6_4 K7n6_5 K7p1 K7r4 Kb7_8 Kb7_9 HB7
      clear tZ
      go_upto_region 12 with fail
      refine region_plain [65, 66, 67, 68, 64, 69, 70, 16, 17] (fun fZ tZ uZ => MR w.heap.size w (u8.heap.size) [(w.heap.size + 1, LN m), (w.heap.size + 1 + 1, L0s), (b1_7, LN x), (b4_3, LN y), (b4_4, LN fx), (b4_5, LN fy), (b7_9, LN (y % x)), (b8_9, LN (y / x))] [] [(fZ 7, fZ 8, tZ 16, L0s, LN (y / x * fx % m))] uZ ∧ Gs fZ tZ [(0, 65, NV (y / x)), (1, 66, NV fx), (2, 67, NV m), (3, 68, .tuple #[NV (y / x * fx % m), .int .i64 0]), (4, 64, .tuple #[NV (y / x * fx % m), .int .i64 0]), (5, 69, NV (y / x * fx % m)), (6, 70, .int .i64 0), (9, 17, .int .i64 0)] ∧ Os fZ [(8, 7)] ∧ Ns fZ tZ []) (by kernel_rfl) ?_ ?_ ?_
      · exact ⟨{ bel := HB8, lo := HB8.size, sz := Nat.le_refl _, ks := ⟨⟨l8p1, K8p1⟩, ⟨l8r4, K8r4⟩, ⟨l8n1_7, K8n1_7⟩, ⟨l8n6_3, K8n6_3⟩, ⟨l8n6_4, K8n6_4⟩, ⟨l8n6_5, K8n6_5⟩, ⟨l8n10_9, K8n10_9⟩, ⟨lb8_9, Kb8_9⟩, trivial⟩, ex := trivial, nw := ⟨fun e => (by cases e), trivial⟩, nd := ⟨fun e => (by cases e), trivial⟩ }, Gs.none _ _, Os.none _, trivial⟩
      · rintro fZ tZ uZ iZ oZ aZ hF ⟨hM, hG, hO, hN⟩ ho hfi hdep
        obtain ⟨hS, hV⟩ := hF.two 87 (by decide) rfl (by decide)
        rcases cZ10 ho with rfl | rfl | rfl | rfl | rfl | rfl | rfl | rfl | rfl | rfl <;> cases ho
        · exact t_load (show aZ.eval (.tmp 15) = .pointer (some ⟨b8_9, 0, none⟩) from (hF.out 15 (by decide)).trans rfl) hM.ks.2.2.2.2.2.2.2.1.2 Try.underlying25 info_api_Nat hF hS rfl rfl rfl rfl rfl (by decide) (Jm hM hG hO hN)
        · exact t_load (show aZ.eval (.tmp 9) = .pointer (some ⟨b4_4, 0, none⟩) from (hF.out 9 (by decide)).trans rfl) hM.ks.2.2.2.2.1.2 Try.underlying25 info_api_Nat hF hS rfl rfl rfl rfl rfl (by decide) (Jm hM hG hO hN)
        · exact t_load (show aZ.eval (.tmp 3) = .pointer (some ⟨w.heap.size + 1, 0, none⟩) from (hF.out 3 (by decide)).trans rfl) hM.ks.1.2 Try.underlying25 info_api_Nat hF hS rfl rfl rfl rfl rfl (by decide) (Jm hM hG hO hN)
        · exact t_call (vs := [NV (y / x), NV fx, NV m]) (by show [aZ.eval (.tmp 65), aZ.eval (.tmp 66), aZ.eval (.tmp 67)] = _; rw [(ve 65 hV (hG.1 (dd 0 hdep))), (ve 66 hV (hG.2.1 (dd 1 hdep))), (ve 67 hV (hG.2.2.1 (dd 2 hdep)))]) ent_seneschalref02_Mul (xMul (y / x) fx m uZ i2 ifx hm h) hF hS rfl rfl rfl rfl (by decide) (fun _ hB => (Jm (hM.call hB) hG hO hN))
        · exact t_move (ve 68 hV (hG.2.2.2.1 (dd 3 hdep))) hF hS rfl rfl rfl rfl (by decide) (Jm hM hG hO hN)
        · exact t_extract (ve 64 hV (hG.2.2.2.2.1 (dd 4 hdep))) hF hS rfl rfl rfl rfl rfl (by decide) (Jm hM hG hO hN)
        · exact t_extract (ve 64 hV (hG.2.2.2.2.1 (dd 4 hdep))) hF hS rfl rfl rfl rfl rfl (by decide) (Jm hM hG hO hN)
        · have q1 : fZ 8 = false := Os.not (hO.1) hfi
          exact t_alloc (al_api_Nat uZ) hF hS rfl rfl rfl rfl (by decide) ⟨MR.newF 0 hM rfl hfi q1, Gs.other rfl hG, hO.keep rfl, Ns.step hN rfl⟩
        · exact t_storeN 0 hM rfl (dd 7 hdep) hfi (hV 16 (by decide)) (ve 69 hV (hG.2.2.2.2.2.1 (dd 5 hdep))) rfl info_api_Nat rfl hF rfl rfl rfl rfl (fun _ h => ⟨h, Gs.idle rfl hG, ⟨fun _ => (dd 7 hdep :), trivial⟩, Ns.idle hN⟩)
        · exact t_assign (ve 70 hV (hG.2.2.2.2.2.2.1 (dd 6 hdep))) hF hS rfl rfl rfl rfl (by decide) (Jm hM hG hO hN)
      rintro fZ tZ u9 ⟨hM, hG, hO, hN⟩ hall
      obtain ⟨e65, e66, e67, e68, e64, e69, e70, e17, -⟩ := Gs.all 10 hall hG rfl
      obtain ⟨b9_7, ee16, pb9_7, lb9_7, kb9_7⟩ := hM.nw.1 (hall 7 (by decide))
      have e16 : tZ 16 = .pointer (some ⟨b9_7, 0, none⟩) := ee16
      clear ee16
      have Kb9_7 : CV u9 b9_7 (LN (y / x * fx % m)) := by
        have h1 : CV u9 b9_7 (bif fZ 8 then LN (y / x * fx % m) else L0s) := kb9_7
        rw [hall 8 (by decide)] at h1; exact h1
      clear kb9_7
      have HB9 : Below w.heap.size w u9 := hM.bel
      have sz9 : u8.heap.size ≤ u9.heap.size := hM.sz
      obtain ⟨⟨l9p1, K9p1⟩, ⟨l9r4, K9r4⟩, ⟨l9n1_7, K9n1_7⟩, ⟨l9n6_3, K9n6_3⟩, ⟨l9n6_4, K9n6_4⟩, ⟨l9n6_5, K9n6_5⟩, ⟨l9n10_9, K9n10_9⟩, -, -⟩ := hM.ks.up hM.sz
      dsimp only at l9p1 K9p1 l9r4 K9r4 l9n1_7 K9n1_7 l9n6_3 K9n6_3 l9n6_4 K9n6_4 l9n6_5 K9n6_5 l9n10_9 K9n10_9
      simp only [ovr, List.set_cons_zero, List.set_cons_succ, e65, e66, e67, e68, e64, e69, e70, e17, e16]
      clear hM hG hO hN hall e65 e66 e67 e68 e64 e69 e70 e17 e16 K8n10_9 K8n1_7 K8n6_3 K8n6_4 K8n6_5 K8p1 K8r4 Kb8_9 HB8
      clear tZ
      go_upto_region 13 with fail
      refine region_plain [72, 73, 74, 75, 71, 76, 77, 18, 19] (fun fZ tZ uZ => MR w.heap.size w (u9.heap.size) [(w.heap.size + 1, LN m), (w.heap.size + 1 + 1, L0s), (b1_7, LN x), (b4_3, LN y), (b4_4, LN fx), (b4_5, LN fy), (b7_9, LN (y % x)), (b9_7, LN (y / x * fx % m))] [] [(fZ 7, fZ 8, tZ 18, L0s, LN ((fy - y / x * fx % m) % m))] uZ ∧ Gs fZ tZ [(0, 72, NV fy), (1, 73, NV (y / x * fx % m)), (2, 74, NV m), (3, 75, .tuple #[NV ((fy - y / x * fx % m) % m), .int .i64 0]), (4, 71, .tuple #[NV ((fy - y / x * fx % m) % m), .int .i64 0]), (5, 76, NV ((fy - y / x * fx % m) % m)), (6, 77, .int .i64 0), (9, 19, .int .i64 0)] ∧ Os fZ [(8, 7)] ∧ Ns fZ tZ []) (by kernel_rfl) ?_ ?_ ?_
      · exact ⟨{ bel := HB9, lo := HB9.size, sz := Nat.le_refl _, ks := ⟨⟨l9p1, K9p1⟩, ⟨l9r4, K9r4⟩, ⟨l9n1_7, K9n1_7⟩, ⟨l9n6_3, K9n6_3⟩, ⟨l9n6_4, K9n6_4⟩, ⟨l9n6_5, K9n6_5⟩, ⟨l9n10_9, K9n10_9⟩, ⟨lb9_7, Kb9_7⟩, trivial⟩, ex := trivial, nw := ⟨fun e => (by cases e), trivial⟩, nd := ⟨fun e => (by cases e), trivial⟩ }, Gs.none _ _, Os.none _, trivial⟩
      · rintro fZ tZ uZ iZ oZ aZ hF ⟨hM, hG, hO, hN⟩ ho hfi hdep
        obtain ⟨hS, hV⟩ := hF.two 87 (by decide) rfl (by decide)
        rcases cZ10 ho with rfl | rfl | rfl | rfl | rfl | rfl | rfl | rfl | rfl | rfl <;> cases ho
        · exact t_load (show aZ.eval (.tmp 10) = .pointer (some ⟨b4_5, 0, none⟩) from (hF.out 10 (by decide)).trans rfl) hM.ks.2.2.2.2.2.1.2 Try.underlying25 info_api_Nat hF hS rfl rfl rfl rfl rfl (by decide) (Jm hM hG hO hN)
        · exact t_load (show aZ.eval (.tmp 16) = .pointer (some ⟨b9_7, 0, none⟩) from (hF.out 16 (by decide)).trans rfl) hM.ks.2.2.2.2.2.2.2.1.2 Try.underlying25 info_api_Nat hF hS rfl rfl rfl rfl rfl (by decide) (Jm hM hG hO hN)
        · exact t_load (show aZ.eval (.tmp 3) = .pointer (some ⟨w.heap.size + 1, 0, none⟩) from (hF.out 3 (by decide)).trans rfl) hM.ks.1.2 Try.underlying25 info_api_Nat hF hS rfl rfl rfl rfl rfl (by decide) (Jm hM hG hO hN)
        · exact t_call (vs := [NV fy, NV (y / x * fx % m), NV m]) (by show [aZ.eval (.tmp 72), aZ.eval (.tmp 73), aZ.eval (.tmp 74)] = _; rw [(ve 72 hV (hG.1 (dd 0 hdep))), (ve 73 hV (hG.2.1 (dd 1 hdep))), (ve 74 hV (hG.2.2.1 (dd 2 hdep)))]) ent_seneschalref02_Sub (xSub fy (y / x * fx % m) m uZ ify i3 hm h) hF hS rfl rfl rfl rfl (by decide) (fun _ hB => (Jm (hM.call hB) hG hO hN))
        · exact t_move (ve 75 hV (hG.2.2.2.1 (dd 3 hdep))) hF hS rfl rfl rfl rfl (by decide) (Jm hM hG hO hN)
        · exact t_extract (ve 71 hV (hG.2.2.2.2.1 (dd 4 hdep))) hF hS rfl rfl rfl rfl rfl (by decide) (Jm hM hG hO hN)
        · exact t_extract (ve 71 hV (hG.2.2.2.2.1 (dd 4 hdep))) hF hS rfl rfl rfl rfl rfl (by decide) (Jm hM hG hO hN)
        · have q1 : fZ 8 = false := Os.not (hO.1) hfi
          exact t_alloc (al_api_Nat uZ) hF hS rfl rfl rfl rfl (by decide) ⟨MR.newF 0 hM rfl hfi q1, Gs.other rfl hG, hO.keep rfl, Ns.step hN rfl⟩
        · exact t_storeN 0 hM rfl (dd 7 hdep) hfi (hV 18 (by decide)) (ve 76 hV (hG.2.2.2.2.2.1 (dd 5 hdep))) rfl info_api_Nat rfl hF rfl rfl rfl rfl (fun _ h => ⟨h, Gs.idle rfl hG, ⟨fun _ => (dd 7 hdep :), trivial⟩, Ns.idle hN⟩)
        · exact t_assign (ve 77 hV (hG.2.2.2.2.2.2.1 (dd 6 hdep))) hF hS rfl rfl rfl rfl (by decide) (Jm hM hG hO hN)
      rintro fZ tZ u10 ⟨hM, hG, hO, hN⟩ hall
      obtain ⟨e72, e73, e74, e75, e71, e76, e77, e19, -⟩ := Gs.all 10 hall hG rfl
      obtain ⟨b10_7, ee18, pb10_7, lb10_7, kb10_7⟩ := hM.nw.1 (hall 7 (by decide))
      have e18 : tZ 18 = .pointer (some ⟨b10_7, 0, none⟩) := ee18
      clear ee18
      have Kb10_7 : CV u10 b10_7 (LN ((fy - y / x * fx % m) % m)) := by
        have h1 : CV u10 b10_7 (bif fZ 8 then LN ((fy - y / x * fx % m) % m) else L0s) := kb10_7
        rw [hall 8 (by decide)] at h1; exact h1
      clear kb10_7
      have HB10 : Below w.heap.size w u10 := hM.bel
      have sz10 : u9.heap.size ≤ u10.heap.size := hM.sz
      obtain ⟨⟨l10p1, K10p1⟩, ⟨l10r4, K10r4⟩, ⟨l10n1_7, K10n1_7⟩, ⟨l10n6_3, K10n6_3⟩, ⟨l10n6_4, K10n6_4⟩, ⟨l10n6_5, K10n6_5⟩, ⟨l10n10_9, K10n10_9⟩, -, -⟩ := hM.ks.up hM.sz
      dsimp only at l10p1 K10p1 l10r4 K10r4 l10n1_7 K10n1_7 l10n6_3 K10n6_3 l10n6_4 K10n6_4 l10n6_5 K10n6_5 l10n10_9 K10n10_9
      simp only [ovr, List.set_cons_zero, List.set_cons_succ, e72, e73, e74, e75, e71, e76, e77, e19, e18]
      clear hM hG hO hN hall e72 e73 e74 e75 e71 e76 e77 e19 e18 K9n10_9 K9n1_7 K9n6_3 K9n6_4 K9n6_5 K9p1 K9r4 Kb9_7 HB9
      clear tZ
      go_upto_region 14 with fail
      refine region_drawn [78, 79] (fun fZ tZ uZ => MR w.heap.size w (u10.heap.size) [(w.heap.size + 1, LN m), (w.heap.size + 1 + 1, L0s), (b1_7, LN x), (b4_4, LN fx), (b7_9, LN (y % x)), (b10_7, LN ((fy - y / x * fx % m) % m))] [(b4_3, fZ 2, LN y, LN x), (b4_5, fZ 3, LN fy, LN fx)] [] uZ ∧ Gs fZ tZ [(0, 78, NV x), (1, 79, NV fx)] ∧ Os fZ [] ∧ Ns fZ tZ []) (by kernel_rfl) (by kernel_rfl) ?_ ?_ ?_
      · exact ⟨{ bel := HB10.drew, lo := HB10.size, sz := Nat.le_refl _, ks := ⟨⟨l10p1, K10p1⟩, ⟨l10r4, K10r4⟩, ⟨l10n1_7, K10n1_7⟩, ⟨l10n6_4, K10n6_4⟩, ⟨l10n10_9, K10n10_9⟩, ⟨lb10_7, Kb10_7⟩, trivial⟩, ex := ⟨⟨(by omega), l10n6_3, rfl, K10n6_3⟩, ⟨(by omega), l10n6_5, rfl, K10n6_5⟩, trivial⟩, nw := trivial, nd := trivial }, Gs.none _ _, Os.none _, trivial⟩
      · rintro fZ tZ uZ iZ oZ aZ hF ⟨hM, hG, hO, hN⟩ ho hfi hdep
        obtain ⟨hS, hV⟩ := hF.two 87 (by decide) rfl (by decide)
        rcases cZ4 ho with rfl | rfl | rfl | rfl <;> cases ho
        · exact t_load (show aZ.eval (.tmp 6) = .pointer (some ⟨b1_7, 0, none⟩) from (hF.out 6 (by decide)).trans rfl) hM.ks.2.2.1.2 Try.underlying25 info_api_Nat hF hS rfl rfl rfl rfl rfl (by decide) (Jt hM hG hN)
        · exact t_load (show aZ.eval (.tmp 9) = .pointer (some ⟨b4_4, 0, none⟩) from (hF.out 9 (by decide)).trans rfl) hM.ks.2.2.2.1.2 Try.underlying25 info_api_Nat hF hS rfl rfl rfl rfl rfl (by decide) (Jt hM hG hN)
        · refine op_plain rfl rfl (fun K hK => ?_)
          have kk : CV uZ (b4_3) (bif fZ 2 then LN x else LN y) := hM.ex.1.2.2.2
          rw [hfi] at kk
          have kk : CV uZ (b4_3) (LN y) := kk
          refine wp_store_mid 25 _ _ rfl (b4_3) 0 (LN x : List Value).toArray (show aZ.eval (.tmp 8) = .pointer (some ⟨b4_3, 0, none⟩) from (hF.out 8 (by decide)).trans rfl) (ve 78 hV (hG.1 (dd 0 hdep))) kk.there info_api_Nat (all_one rfl) ?_
          exact tell0 hK hF ⟨MR.putXF 0 hM rfl ⟨by omega, by omega, by omega, by omega, by omega, by omega, trivial⟩ ⟨by omega, trivial⟩, Gs.idle rfl hG, trivial, Ns.idle hN⟩
        · refine op_plain rfl rfl (fun K hK => ?_)
          have kk : CV uZ (b4_5) (bif fZ 3 then LN fx else LN fy) := hM.ex.2.1.2.2.2
          rw [hfi] at kk
          have kk : CV uZ (b4_5) (LN fy) := kk
          refine wp_store_mid 25 _ _ rfl (b4_5) 0 (LN fx : List Value).toArray (show aZ.eval (.tmp 10) = .pointer (some ⟨b4_5, 0, none⟩) from (hF.out 10 (by decide)).trans rfl) (ve 79 hV (hG.2.1 (dd 1 hdep))) kk.there info_api_Nat (all_one rfl) ?_
          exact tell0 hK hF ⟨MR.putXF 1 hM rfl ⟨by omega, by omega, by omega, by omega, by omega, by omega, trivial⟩ ⟨by omega, trivial⟩, Gs.idle rfl hG, trivial, Ns.idle hN⟩
      rintro fZ tZ u11 ⟨hM, hG, hO, hN⟩ hall
      obtain ⟨e78, e79, -⟩ := Gs.all 4 hall hG rfl
      have HB11 : Below w.heap.size w u11 := hM.bel
      have sz11 : u10.heap.size ≤ u11.heap.size := hM.sz
      obtain ⟨⟨l11p1, K11p1⟩, ⟨l11r4, K11r4⟩, ⟨l11n1_7, K11n1_7⟩, ⟨l11n6_4, K11n6_4⟩, ⟨l11n10_9, K11n10_9⟩, ⟨l11n13_7, K11n13_7⟩, -⟩ := hM.ks.up hM.sz
      dsimp only at l11p1 K11p1 l11r4 K11r4 l11n1_7 K11n1_7 l11n6_4 K11n6_4 l11n10_9 K11n10_9 l11n13_7 K11n13_7
      have K11n6_3 : CV u11 (b4_3) (LN x) := by
        have h1 : CV u11 (b4_3) (bif fZ 2 then LN x else LN y) := hM.ex.1.2.2.2
        rw [hall 2 (by decide)] at h1; exact h1
      have l11n6_3 : b4_3 < u11.heap.size := Nat.lt_of_lt_of_le hM.ex.1.2.1 hM.sz
      have K11n6_5 : CV u11 (b4_5) (LN fx) := by
        have h1 : CV u11 (b4_5) (bif fZ 3 then LN fx else LN fy) := hM.ex.2.1.2.2.2
        rw [hall 3 (by decide)] at h1; exact h1
      have l11n6_5 : b4_5 < u11.heap.size := Nat.lt_of_lt_of_le hM.ex.2.1.2.1 hM.sz
      simp only [ovr, List.set_cons_zero, List.set_cons_succ, e78, e79]
      clear hM hG hO hN hall e78 e79 K10n10_9 K10n1_7 K10n6_3 K10n6_4 K10n6_5 K10p1 K10r4 Kb10_7 HB10
      clear tZ
      go_upto_region 15 with fail
      refine region_drawn [80, 81] (fun fZ tZ uZ => MR w.heap.size w (u11.heap.size) [(w.heap.size + 1, LN m), (w.heap.size + 1 + 1, L0s), (b4_3, LN x), (b4_5, LN fx), (b7_9, LN (y % x)), (b10_7, LN ((fy - y / x * fx % m) % m))] [(b1_7, fZ 2, LN x, LN (y % x)), (b4_4, fZ 3, LN fx, LN ((fy - y / x * fx % m) % m))] [] uZ ∧ Gs fZ tZ [(0, 80, NV (y % x)), (1, 81, NV ((fy - y / x * fx % m) % m))] ∧ Os fZ [] ∧ Ns fZ tZ []) (by kernel_rfl) (by kernel_rfl) ?_ ?_ ?_
      · exact ⟨{ bel := HB11.drew, lo := HB11.size, sz := Nat.le_refl _, ks := ⟨⟨l11p1, K11p1⟩, ⟨l11r4, K11r4⟩, ⟨l11n6_3, K11n6_3⟩, ⟨l11n6_5, K11n6_5⟩, ⟨l11n10_9, K11n10_9⟩, ⟨l11n13_7, K11n13_7⟩, trivial⟩, ex := ⟨⟨(by omega), l11n1_7, rfl, K11n1_7⟩, ⟨(by omega), l11n6_4, rfl, K11n6_4⟩, trivial⟩, nw := trivial, nd := trivial }, Gs.none _ _, Os.none _, trivial⟩
      · rintro fZ tZ uZ iZ oZ aZ hF ⟨hM, hG, hO, hN⟩ ho hfi hdep
        obtain ⟨hS, hV⟩ := hF.two 87 (by decide) rfl (by decide)
        rcases cZ4 ho with rfl | rfl | rfl | rfl <;> cases ho
        · exact t_load (show aZ.eval (.tmp 13) = .pointer (some ⟨b7_9, 0, none⟩) from (hF.out 13 (by decide)).trans rfl) hM.ks.2.2.2.2.1.2 Try.underlying25 info_api_Nat hF hS rfl rfl rfl rfl rfl (by decide) (Jt hM hG hN)
        · exact t_load (show aZ.eval (.tmp 18) = .pointer (some ⟨b10_7, 0, none⟩) from (hF.out 18 (by decide)).trans rfl) hM.ks.2.2.2.2.2.1.2 Try.underlying25 info_api_Nat hF hS rfl rfl rfl rfl rfl (by decide) (Jt hM hG hN)
        · refine op_plain rfl rfl (fun K hK => ?_)
          have kk : CV uZ (b1_7) (bif fZ 2 then LN (y % x) else LN x) := hM.ex.1.2.2.2
          rw [hfi] at kk
          have kk : CV uZ (b1_7) (LN x) := kk
          refine wp_store_mid 25 _ _ rfl (b1_7) 0 (LN (y % x) : List Value).toArray (show aZ.eval (.tmp 6) = .pointer (some ⟨b1_7, 0, none⟩) from (hF.out 6 (by decide)).trans rfl) (ve 80 hV (hG.1 (dd 0 hdep))) kk.there info_api_Nat (all_one rfl) ?_
          exact tell0 hK hF ⟨MR.putXF 0 hM rfl ⟨by omega, by omega, by omega, by omega, by omega, by omega, trivial⟩ ⟨by omega, trivial⟩, Gs.idle rfl hG, trivial, Ns.idle hN⟩
        · refine op_plain rfl rfl (fun K hK => ?_)
          have kk : CV uZ (b4_4) (bif fZ 3 then LN ((fy - y / x * fx % m) % m) else LN fx) := hM.ex.2.1.2.2.2
          rw [hfi] at kk
          have kk : CV uZ (b4_4) (LN fx) := kk
          refine wp_store_mid 25 _ _ rfl (b4_4) 0 (LN ((fy - y / x * fx % m) % m) : List Value).toArray (show aZ.eval (.tmp 9) = .pointer (some ⟨b4_4, 0, none⟩) from (hF.out 9 (by decide)).trans rfl) (ve 81 hV (hG.2.1 (dd 1 hdep))) kk.there info_api_Nat (all_one rfl) ?_
          exact tell0 hK hF ⟨MR.putXF 1 hM rfl ⟨by omega, by omega, by omega, by omega, by omega, by omega, trivial⟩ ⟨by omega, trivial⟩, Gs.idle rfl hG, trivial, Ns.idle hN⟩
      rintro fZ tZ u12 ⟨hM, hG, hO, hN⟩ hall
      obtain ⟨e80, e81, -⟩ := Gs.all 4 hall hG rfl
      have HB12 : Below w.heap.size w u12 := hM.bel
      have sz12 : u11.heap.size ≤ u12.heap.size := hM.sz
      obtain ⟨⟨l12p1, K12p1⟩, ⟨l12r4, K12r4⟩, ⟨l12n6_3, K12n6_3⟩, ⟨l12n6_5, K12n6_5⟩, -, -, -⟩ := hM.ks.up hM.sz
      dsimp only at l12p1 K12p1 l12r4 K12r4 l12n6_3 K12n6_3 l12n6_5 K12n6_5
      have K12n1_7 : CV u12 (b1_7) (LN (y % x)) := by
        have h1 : CV u12 (b1_7) (bif fZ 2 then LN (y % x) else LN x) := hM.ex.1.2.2.2
        rw [hall 2 (by decide)] at h1; exact h1
      have l12n1_7 : b1_7 < u12.heap.size := Nat.lt_of_lt_of_le hM.ex.1.2.1 hM.sz
      have K12n6_4 : CV u12 (b4_4) (LN ((fy - y / x * fx % m) % m)) := by
        have h1 : CV u12 (b4_4) (bif fZ 3 then LN ((fy - y / x * fx % m) % m) else LN fx) := hM.ex.2.1.2.2.2
        rw [hall 3 (by decide)] at h1; exact h1
      have l12n6_4 : b4_4 < u12.heap.size := Nat.lt_of_lt_of_le hM.ex.2.1.2.1 hM.sz
      simp only [ovr, List.set_cons_zero, List.set_cons_succ, e80, e81]
      clear hM hG hO hN hall e80 e81 K11n10_9 K11n13_7 K11n1_7 K11n6_3 K11n6_4 K11n6_5 K11p1 K11r4 HB11
      clear tZ
      go_upto_region 9 with fail
      refine region_plain [45, 46, 11] (fun fZ tZ uZ => MR w.heap.size w (u12.heap.size) [(w.heap.size + 1, LN m), (w.heap.size + 1 + 1, L0s), (b1_7, LN (y % x)), (b4_3, LN x), (b4_4, LN ((fy - y / x * fx % m) % m)), (b4_5, LN fx)] [] [] uZ ∧ Gs fZ tZ [(0, 45, .int .i64 (k : Int)), (1, 46, .int .i64 ((k : Int) + 1)), (2, 11, .int .i64 ((k : Int) + 1))] ∧ Os fZ [(2, 0)] ∧ Ns fZ tZ [(2, 11, .int .i64 (k : Int))]) (by kernel_rfl) ?_ ?_ ?_
      · exact ⟨{ bel := HB12, lo := HB12.size, sz := Nat.le_refl _, ks := ⟨⟨l12p1, K12p1⟩, ⟨l12r4, K12r4⟩, ⟨l12n1_7, K12n1_7⟩, ⟨l12n6_3, K12n6_3⟩, ⟨l12n6_4, K12n6_4⟩, ⟨l12n6_5, K12n6_5⟩, trivial⟩, ex := trivial, nw := trivial, nd := trivial }, Gs.none _ _, Os.none _, ⟨fun _ => rfl, trivial⟩⟩
      · rintro fZ tZ uZ iZ oZ aZ hF ⟨hM, hG, hO, hN⟩ ho hfi hdep
        obtain ⟨hS, hV⟩ := hF.two 87 (by decide) rfl (by decide)
        rcases cZ3 ho with rfl | rfl | rfl <;> cases ho
        · have yi11 : fZ 2 = false := Os.not (hO.1) hfi
          have ei11 : tZ 11 = .int .i64 (k : Int) := hN.1 yi11
          exact t_move ((hV 11 (by decide)).trans ei11) hF hS rfl rfl rfl rfl (by decide) (Jm hM hG hO hN)
        · refine op_plain rfl rfl (fun K hK => ?_)
          refine wp_bin rfl (ve 45 hV (hG.1 (dd 0 hdep))) rfl (add_i _ _ (k : Int) 1 ((k : Int) + 1) uZ rfl (by omega) (by omega)) ?_
          exact tell hK hF hS (by decide) (Jm hM hG hO hN)
        · exact t_assign (ve 46 hV (hG.2.1 (dd 1 hdep))) hF hS rfl rfl rfl rfl (by decide) ⟨hM, Gs.stepA hG rfl rfl, ⟨fun _ => hdep ⟨0, .phase⟩ (by simp) rfl, trivial⟩, Ns.step hN rfl⟩
      rintro fZ tZ u13 ⟨hM, hG, hO, hN⟩ hall
      obtain ⟨e45, e46, e11, -⟩ := Gs.all 3 hall hG rfl
      have HB13 : Below w.heap.size w u13 := hM.bel
      have sz13 : u12.heap.size ≤ u13.heap.size := hM.sz
      obtain ⟨⟨l13p1, K13p1⟩, ⟨l13r4, K13r4⟩, ⟨l13n1_7, K13n1_7⟩, ⟨l13n6_3, K13n6_3⟩, ⟨l13n6_4, K13n6_4⟩, ⟨l13n6_5, K13n6_5⟩, -⟩ := hM.ks.up hM.sz
      dsimp only at l13p1 K13p1 l13r4 K13r4 l13n1_7 K13n1_7 l13n6_3 K13n6_3 l13n6_4 K13n6_4 l13n6_5 K13n6_5
      simp only [ovr, List.set_cons_zero, List.set_cons_succ, e45, e46, e11]
      clear hM hG hO hN hall e45 e46 e11 K12n1_7 K12n6_3 K12n6_4 K12n6_5 K12p1 K12r4 HB12
      clear tZ
      go_wp2
      refine ⟨⟨k + 1, y % x, x, (fy - y / x * fx % m) % m, fx, by simp, by omega, hS, HB13, K13p1, K13r4, K13n1_7, K13n6_3, K13n6_4, K13n6_5, l13r4, l13n1_7, l13n6_3, l13n6_4, l13n6_5⟩, ?_⟩
      simp [intOf] <;> omega
set_option maxRecDepth 100000 in
set_option maxHeartbeats 2000000 in
theorem xInverse0 (a : Int) (w : World) (ha : In a) :
    Calls Try.prog 22 #[NV a, A4 0 0 0 0] w fun e w' => e = .returned (.tuple #[A4 0 0 0 0, .int .i64 20]) ∧ Below w.heap.size w w' := by
  go_enter Try.func22, Try.ntmps22
  go_upto_region 1 with fail
  generalize hC : (((w.alloc (.cells (LN a : List Value).toArray 25)).alloc (.cells ([.int .u64 (0), .int .u64 (0), .int .u64 (0), .int .u64 (0)] : List Value).toArray 25)).alloc (.cells (L0s : List Value).toArray 25)) = v0 at *
  have HB0 : Below w.heap.size w v0 := by rw [← hC]; exact (balloc (balloc (balloc (bself w) _) _) _)
  have K0p0 : CV v0 (w.heap.size) (LN a) := by rw [← hC]; exact (((CV.new w (LN a) 25).alloc (by simp <;> omega) _).alloc (by simp <;> omega) _)
  have l0p0 : w.heap.size < v0.heap.size := by rw [← hC]; simp <;> omega
  have K0p1 : CV v0 (w.heap.size + 1) ([.int .u64 (0), .int .u64 (0), .int .u64 (0), .int .u64 (0)]) := by rw [← hC]; exact ((CV.newAt (w.alloc (.cells (LN a : List Value).toArray 25)) ([.int .u64 (0), .int .u64 (0), .int .u64 (0), .int .u64 (0)]) 25 _ (by simp)).alloc (by simp <;> omega) _)
  have l0p1 : w.heap.size + 1 < v0.heap.size := by rw [← hC]; simp <;> omega
  have K0r4 : CV v0 (w.heap.size + 1 + 1) (L0s) := by rw [← hC]; exact (CV.newAt ((w.alloc (.cells (LN a : List Value).toArray 25)).alloc (.cells ([.int .u64 (0), .int .u64 (0), .int .u64 (0), .int .u64 (0)] : List Value).toArray 25)) (L0s) 25 _ (by simp))
  have l0r4 : w.heap.size + 1 + 1 < v0.heap.size := by rw [← hC]; simp <;> omega
  clear hC
  refine region_drawn [21, 22, 23, 24, 20, 25, 26, 6, 7] (fun fZ tZ uZ => MR w.heap.size w (v0.heap.size) [(w.heap.size, LN a), (w.heap.size + 1, [.int .u64 (0), .int .u64 (0), .int .u64 (0), .int .u64 (0)]), (w.heap.size + 1 + 1, L0s)] [] [(fZ 7, fZ 8, tZ 6, L0s, [.int .u64 (0), .int .u64 (0), .int .u64 (0), .int .u64 (0)])] uZ ∧ Gs fZ tZ [(0, 21, NV a), (1, 22, WV a), (2, 23, .agg #[.int .u64 (0), .int .u64 (0), .int .u64 (0), .int .u64 (0)]), (3, 24, .tuple #[A4 (0) (0) (0) (0), .int .i64 20]), (4, 20, .tuple #[A4 (0) (0) (0) (0), .int .i64 20]), (5, 25, A4 (0) (0) (0) (0)), (6, 26, .int .i64 20), (9, 7, .int .i64 20)] ∧ Os fZ [(8, 7)] ∧ Ns fZ tZ []) (by kernel_rfl) (by kernel_rfl) ?_ ?_ ?_
  · exact ⟨{ bel := HB0.drew, lo := HB0.size, sz := Nat.le_refl _, ks := ⟨⟨l0p0, K0p0⟩, ⟨l0p1, K0p1⟩, ⟨l0r4, K0r4⟩, trivial⟩, ex := trivial, nw := ⟨fun e => (by cases e), trivial⟩, nd := ⟨fun e => (by cases e), trivial⟩ }, Gs.none _ _, Os.none _, trivial⟩
  · rintro fZ tZ uZ iZ oZ aZ hF ⟨hM, hG, hO, hN⟩ ho hfi hdep
    obtain ⟨hS, hV⟩ := hF.two 87 (by decide) rfl (by decide)
    rcases cZ10 ho with rfl | rfl | rfl | rfl | rfl | rfl | rfl | rfl | rfl | rfl <;> cases ho
    · exact t_load (show aZ.eval (.tmp 2) = .pointer (some ⟨w.heap.size, 0, none⟩) from (hF.out 2 (by decide)).trans rfl) hM.ks.1.2 Try.underlying25 info_api_Nat hF hS rfl rfl rfl rfl rfl (by decide) (Jm hM hG hO hN)
    · exact t_call (vs := [NV a]) (by show [aZ.eval (.tmp 21)] = _; rw [(ve 21 hV (hG.1 (dd 0 hdep)))]) ent_seneschalref01_Widen (nrWiden a uZ ha) hF hS rfl rfl rfl rfl (by decide) (fun _ hB => (Jm (hM.call hB) hG hO hN))
    · exact t_load (show aZ.eval (.tmp 3) = .pointer (some ⟨w.heap.size + 1, 0, none⟩) from (hF.out 3 (by decide)).trans rfl) hM.ks.2.1.2 Try.underlying25 info_api_Nat hF hS rfl rfl rfl rfl rfl (by decide) (Jm hM hG hO hN)
    · exact t_call (vs := [WV a, .agg #[.int .u64 (0), .int .u64 (0), .int .u64 (0), .int .u64 (0)]]) (by show [aZ.eval (.tmp 22), aZ.eval (.tmp 23)] = _; rw [(ve 22 hV (hG.2.1 (dd 1 hdep))), (ve 23 hV (hG.2.2.1 (dd 2 hdep)))]) ent_seneschalref02_Reduce (xReduce0 a uZ) hF hS rfl rfl rfl rfl (by decide) (fun _ hB => (Jm (hM.call hB) hG hO hN))
    · exact t_move (ve 24 hV (hG.2.2.2.1 (dd 3 hdep))) hF hS rfl rfl rfl rfl (by decide) (Jm hM hG hO hN)
    · exact t_extract (ve 20 hV (hG.2.2.2.2.1 (dd 4 hdep))) hF hS rfl rfl rfl rfl rfl (by decide) (Jm hM hG hO hN)
    · exact t_extract (ve 20 hV (hG.2.2.2.2.1 (dd 4 hdep))) hF hS rfl rfl rfl rfl rfl (by decide) (Jm hM hG hO hN)
    · have q1 : fZ 8 = false := Os.not (hO.1) hfi
      exact t_alloc (al_api_Nat uZ) hF hS rfl rfl rfl rfl (by decide) ⟨MR.newF 0 hM rfl hfi q1, Gs.other rfl hG, hO.keep rfl, Ns.step hN rfl⟩
    · exact t_storeN 0 hM rfl (dd 7 hdep) hfi (hV 6 (by decide)) (ve 25 hV (hG.2.2.2.2.2.1 (dd 5 hdep))) rfl info_api_Nat rfl hF rfl rfl rfl rfl (fun _ h => ⟨h, Gs.idle rfl hG, ⟨fun _ => (dd 7 hdep :), trivial⟩, Ns.idle hN⟩)
    · exact t_assign (ve 26 hV (hG.2.2.2.2.2.2.1 (dd 6 hdep))) hF hS rfl rfl rfl rfl (by decide) (Jm hM hG hO hN)
  rintro fZ tZ u1 ⟨hM, hG, hO, hN⟩ hall
  obtain ⟨e21, e22, e23, e24, e20, e25, e26, e7, -⟩ := Gs.all 10 hall hG rfl
  obtain ⟨b1_7, ee6, pb1_7, lb1_7, kb1_7⟩ := hM.nw.1 (hall 7 (by decide))
  have e6 : tZ 6 = .pointer (some ⟨b1_7, 0, none⟩) := ee6
  clear ee6
  have Kb1_7 : CV u1 b1_7 ([.int .u64 (0), .int .u64 (0), .int .u64 (0), .int .u64 (0)]) := by
    have h1 : CV u1 b1_7 (bif fZ 8 then [.int .u64 (0), .int .u64 (0), .int .u64 (0), .int .u64 (0)] else L0s) := kb1_7
    rw [hall 8 (by decide)] at h1; exact h1
  clear kb1_7
  have HB1 : Below w.heap.size w u1 := hM.bel
  have sz1 : v0.heap.size ≤ u1.heap.size := hM.sz
  obtain ⟨-, -, ⟨l1r4, K1r4⟩, -⟩ := hM.ks.up hM.sz
  dsimp only at l1r4 K1r4
  simp only [ovr, List.set_cons_zero, List.set_cons_succ, e21, e22, e23, e24, e20, e25, e26, e7, e6]
  clear hM hG hO hN hall e21 e22 e23 e24 e20 e25 e26 e7 e6 K0p0 K0p1 K0r4 HB0
  clear tZ
  go_upto_region 2 with fail
  refine region_plain [27, 28] (fun fZ tZ uZ => MR w.heap.size w (u1.heap.size) [(w.heap.size + 1 + 1, L0s)] [] [] uZ ∧ Gs fZ tZ [(0, 27, .int .i64 20), (1, 28, .bool true)] ∧ Os fZ [] ∧ Ns fZ tZ []) (by kernel_rfl) ?_ ?_ ?_
  · exact ⟨{ bel := HB1, lo := HB1.size, sz := Nat.le_refl _, ks := ⟨⟨l1r4, K1r4⟩, trivial⟩, ex := trivial, nw := trivial, nd := trivial }, Gs.none _ _, Os.none _, trivial⟩
  · rintro fZ tZ uZ iZ oZ aZ hF ⟨hM, hG, hO, hN⟩ ho hfi hdep
    obtain ⟨hS, hV⟩ := hF.two 87 (by decide) rfl (by decide)
    rcases cZ2 ho with rfl | rfl <;> cases ho
    · exact t_move (show aZ.eval (.tmp 7) = .int .i64 20 from (hF.out 7 (by decide)).trans rfl) hF hS rfl rfl rfl rfl (by decide) (Jt hM hG hN)
    · refine op_plain rfl rfl (fun K hK => ?_)
      refine wp_bin rfl (ve 27 hV (hG.1 (dd 0 hdep))) rfl (neq_i _ _ _ 20 0 _ uZ rfl) ?_
      exact tell hK hF hS (by decide) (Jt hM hG hN)
  rintro fZ tZ u2 ⟨hM, hG, hO, hN⟩ hall
  obtain ⟨e27, e28, -⟩ := Gs.all 2 hall hG rfl
  have HB2 : Below w.heap.size w u2 := hM.bel
  have sz2 : u1.heap.size ≤ u2.heap.size := hM.sz
  obtain ⟨⟨l2r4, K2r4⟩, -⟩ := hM.ks.up hM.sz
  dsimp only at l2r4 K2r4
  simp only [ovr, List.set_cons_zero, List.set_cons_succ, e27, e28]
  clear hM hG hO hN hall e27 e28 K1r4 HB1
  clear tZ
  go_upto_region 3 with fail
  refine region_plain [29, 30, 5] (fun fZ tZ uZ => MR w.heap.size w (u2.heap.size) [] [(w.heap.size + 1 + 1, fZ 2, L0s, [.int .u64 (0), .int .u64 (0), .int .u64 (0), .int .u64 (0)])] [] uZ ∧ Gs fZ tZ [(0, 29, A4 (0) (0) (0) (0)), (1, 30, .int .i64 20), (3, 5, .int .i64 20)] ∧ Os fZ [] ∧ Ns fZ tZ []) (by kernel_rfl) ?_ ?_ ?_
  · exact ⟨{ bel := HB2, lo := HB2.size, sz := Nat.le_refl _, ks := trivial, ex := ⟨⟨(by omega), l2r4, rfl, K2r4⟩, trivial⟩, nw := trivial, nd := trivial }, Gs.none _ _, Os.none _, trivial⟩
  · rintro fZ tZ uZ iZ oZ aZ hF ⟨hM, hG, hO, hN⟩ ho hfi hdep
    obtain ⟨hS, hV⟩ := hF.two 87 (by decide) rfl (by decide)
    rcases cZ4 ho with rfl | rfl | rfl | rfl <;> cases ho
    · refine op_plain rfl rfl (fun K hK => ?_)
      refine wp_val (v := A4 (0) (0) (0) (0)) (w' := uZ) (by kernel_rfl) ?_
      exact tell hK hF hS (by decide) (Jt hM hG hN)
    · exact t_move (show aZ.eval (.tmp 7) = .int .i64 20 from (hF.out 7 (by decide)).trans rfl) hF hS rfl rfl rfl rfl (by decide) (Jt hM hG hN)
    · refine op_plain rfl rfl (fun K hK => ?_)
      have kk : CV uZ (w.heap.size + 1 + 1) (bif fZ 2 then [.int .u64 (0), .int .u64 (0), .int .u64 (0), .int .u64 (0)] else L0s) := hM.ex.1.2.2.2
      rw [hfi] at kk
      have kk : CV uZ (w.heap.size + 1 + 1) (L0s) := kk
      refine wp_store_mid 25 _ _ rfl (w.heap.size + 1 + 1) 0 ([.int .u64 (0), .int .u64 (0), .int .u64 (0), .int .u64 (0)] : List Value).toArray (show aZ.eval (.tmp 4) = .pointer (some ⟨w.heap.size + 1 + 1, 0, none⟩) from (hF.out 4 (by decide)).trans rfl) (ve 29 hV (hG.1 (dd 0 hdep))) kk.there info_api_Nat (all_one rfl) ?_
      exact tell0 hK hF ⟨MR.putXF 0 hM rfl trivial trivial, Gs.idle rfl hG, trivial, Ns.idle hN⟩
    · exact t_assign (ve 30 hV (hG.2.1 (dd 1 hdep))) hF hS rfl rfl rfl rfl (by decide) (Jt hM hG hN)
  rintro fZ tZ u3 ⟨hM, hG, hO, hN⟩ hall
  obtain ⟨e29, e30, e5, -⟩ := Gs.all 4 hall hG rfl
  have HB3 : Below w.heap.size w u3 := hM.bel
  have sz3 : u2.heap.size ≤ u3.heap.size := hM.sz
  have K3r4 : CV u3 (w.heap.size + 1 + 1) ([.int .u64 (0), .int .u64 (0), .int .u64 (0), .int .u64 (0)]) := by
    have h1 : CV u3 (w.heap.size + 1 + 1) (bif fZ 2 then [.int .u64 (0), .int .u64 (0), .int .u64 (0), .int .u64 (0)] else L0s) := hM.ex.1.2.2.2
    rw [hall 2 (by decide)] at h1; exact h1
  have l3r4 : w.heap.size + 1 + 1 < u3.heap.size := Nat.lt_of_lt_of_le hM.ex.1.2.1 hM.sz
  simp only [ovr, List.set_cons_zero, List.set_cons_succ, e29, e30, e5]
  clear hM hG hO hN hall e29 e30 e5 K2r4 HB2
  clear tZ
  have c4_0 := (K3r4 0 _ rfl).1
  have c4_1 := (K3r4 1 _ rfl).1
  have c4_2 := (K3r4 2 _ rfl).1
  have c4_3 := (K3r4 3 _ rfl).1
  go_wp2
  refine bodyPost_ret (v := .tuple #[A4 0 0 0 0, .int .i64 20]) (by simp [results, Try.results22, go_sem, c4_0, c4_1, c4_2, c4_3]) rfl ⟨rfl, HB3⟩
theorem xInverse_no (a m : Int) (w : World) (ha : In a) (hm : In m) (h : m ≠ 0) (hg : gI m (a % m) ≠ 1) :
    Calls Try.prog 22 #[NV a, NV m] w fun e w' => e = .returned (.tuple #[A4 0 0 0 0, .int .i64 20]) ∧ Below w.heap.size w w' := by
  have h1 : m ≠ 1 := fun e => hg (by rw [e, Int.emod_one]; rfl)
  exact xInverseG a m _ w ha hm h (by have := hm.1; omega) (by simp [h1]) (fun _ => rfl) (fun e => absurd e hg)
theorem xInverse (a m x : Int) (w : World) (ha : In a) (hm : In m) (h : m ≠ 0) (hg : gI m (a % m) = 1) (hx : IsInv (a % m) m x) :
    Calls Try.prog 22 #[NV a, NV m] w fun e w' => e = .returned (.tuple #[NV x, .int .i64 0]) ∧ Below w.heap.size w w' := by
  by_cases h1 : m = 1
  · have e : x = 0 := by have := hx.1; have := hx.2.1; omega
    rw [e, NV_0]; exact xInverse1 a m w ha hm h (by simp [h1])
  · exact xInverseG a m _ w ha hm h (by have := hm.1; omega) (by simp [h1]) (fun e => absurd hg e) (fun _ y hy => by rw [hx.uniq hy])
end Go.Proofs.Ytkpnjmfndgfogaa
