import Derived.Test.YtkpnjmfndgfogaaRC
import Derived.Test.YtkpnjmfndgfogaaRG
import Derived.Test.YtkpnjmfndgfogaaMA4
import Derived.Test.YtkpnjmfndgfogaaMRS
import Derived.Test.YtkpnjmfndgfogaaMR3
/- Numbers modulo one: sums and products of many. -/
namespace Go.Proofs.Ytkpnjmfndgfogaa
open Go.RowKit
set_option linter.unusedVariables false
set_option linter.unusedSimpArgs false
/-- One by one. -/
def gat (op : Int → Int → Int) (x : Int) (ns : List Int) : Nat → Int
  | 0 => x
  | k + 1 => op (gat op x ns k) (ns.getD k 0)
theorem gat_In {op : Int → Int → Int} {x : Int} {ns : List Int} (hx : In x) (ho : ∀ a b, In a → In b → In (op a b)) (hn : ∀ k, k < ns.length → In (ns.getD k 0)) : ∀ k, k ≤ ns.length → In (gat op x ns k)
  | 0, _ => hx
  | k + 1, h => ho _ _ (gat_In hx ho hn k (by omega)) (hn k (by omega))
set_option maxRecDepth 100000 in
set_option maxHeartbeats 4000000 in
theorem mgather (N : FuncId) (op : Int → Int → Int) (x m : Int) (sl : Option Addr) (gb go cap : Nat) (ns : List Int) (w : World) (hns : ns.length ≤ 50) (hx : In x) (hm : In m) (h : m ≠ 0) (hN : ∀ (vs : Array Value) (w : World), (callFunc N vs).run Try.prog w = .ok (.enter N vs) w) (hT : Hid (∀ a b, In a → In b → ∀ u, Calls Try.prog N #[NV a, NV b, NV m] u fun e u' => e = .returned (.tuple #[NV (op a b), .int .i64 0]) ∧ Below u.heap.size u u')) (ho : ∀ a b, In a → In b → In (op a b)) (hn : Hid (∀ k, k < ns.length → In (ns.getD k 0))) (hix : Hid (∀ j, j < ns.length → ∀ W, (Instr.indexAt 39 (.slice sl ns.length cap) (.int .i64 j)).run Try.prog W = .ok (.pointer (some ⟨gb, go + 4 * j, none⟩)) W)) (hg : ns.length = 0 ∨ gb < w.heap.size) (hS : Hid (SN w gb go ns)) :
    Calls Try.prog 65 #[.func (.func N) #[] #[], NV x, NV m, .slice sl ns.length cap] w fun e w' => e = .returned (.tuple #[NV (gat op (x % m) ns ns.length), .int .i64 0]) ∧ Below w.heap.size w w' := by
  have hI : Hid (∀ k, k ≤ ns.length → In (gat op (x % m) ns k)) := gat_In (In_mod hm h) ho hn.out
  go_enter Try.func65, Try.ntmps65
  go_upto_region 1 with fail
  generalize hC : (((w.alloc (.cells (LN x : List Value).toArray 25)).alloc (.cells (LN m : List Value).toArray 25)).alloc (.cells (L0s : List Value).toArray 25)) = v0 at *
  have HB0 : Below w.heap.size w v0 := by rw [← hC]; exact balloc (balloc (balloc (bself w) _) _) _
  have K0 : Bk w.heap.size v0 [(true, w.heap.size, LN x), (true, w.heap.size + 1, LN m), (true, w.heap.size + 1 + 1, L0s)] := by rw [← hC]; exact (Bk.nil _ w).ad.ad.ad
  clear hC
  refine rgD K0 HB0 HB0.size [] [(7, 10, L0s, some (8, LN (x % m)))] [(0, 15, NV x), (1, 16, WV x), (2, 17, NV m), (3, 18, .tuple #[NV (x % m), .int .i64 0]), (4, 14, .tuple #[NV (x % m), .int .i64 0]), (5, 19, NV (x % m)), (6, 20, .int .i64 0), (9, 11, .int .i64 0)] [(8, 7)] [] [false] ?_ ?_
  · refine oc (g_ld 0 uN iN) ?_
    refine oc (g_cl ent_limb_Widen (fun uZ => nWiden x uZ hx)) ?_
    refine oc (g_ld 1 uN iN) ?_
    refine oc (g_cl ent_mod_Reduce (fun uZ => mReduce x m uZ hx.wide hm h)) ?_
    refine oc g_mv ?_
    refine oc g_ex ?_
    refine oc g_ex ?_
    refine oc (g_al 0 aN) ?_
    refine oc (g_sn 0 iN) ?_
    exact oc g_as on
  intro u1 b1_7 HB1 sz1 K1
  simp only [fX, nK, nP, Wr.f, aK, pM] at K1
  simp only [setG, setN, List.set_cons_zero, List.set_cons_succ]
  clear K0 HB0
  go_upto_region 2 with fail
  refine rgP K1 HB1 HB1.size [] [] [(0, 21, .int .i64 0), (1, 22, .bool false)] [] [] [] ?_ ?_
  · refine oc g_mv ?_
    exact oc (g_bn (fun uZ => neq_i _ _ _ 0 0 _ uZ rfl)) on
  intro u2 HB2 sz2 K2
  simp only [fX, nK, nP, Wr.f, aK, pM] at K2
  simp only [setG, setN, List.set_cons_zero, List.set_cons_succ]
  clear K1 HB1
  go_upto_region 4 with fail
  refine rgP K2 HB2 HB2.size [] [] [(0, 25, .slice sl ns.length cap), (1, 26, .int .i64 (ns.length : Int)), (2, 27, (Go.Value.int Go.IntKind.i64 0))] [] [] [] ?_ ?_
  · refine oc g_mv ?_
    refine oc (g_ln Try.underlying39) ?_
    exact oc g_mv on
  intro u3 HB3 sz3 K3
  simp only [fX, nK, nP, Wr.f, aK, pM] at K3
  simp only [setG, setN, List.set_cons_zero, List.set_cons_succ]
  clear K2 HB2
  go_wp2_with fail
  go_loopw [27] (fun s27 wr => ∃ (k : Nat), k ≤ ns.length ∧ s27 = .int .i64 (k : Int) ∧ Below w.heap.size w wr ∧ CV wr (w.heap.size + 1) (LN m) ∧ CV wr (w.heap.size + 1 + 1) L0s ∧ CV wr b1_7 (LN (gat op (x % m) ns k)) ∧ b1_7 < wr.heap.size ∧ w.heap.size + 1 + 1 < wr.heap.size) (fun s27 _ => ns.length - (intOf s27).toNat)
  case atStart => exact ⟨0, by omega, rfl, HB3, (K3.cv 0), (K3.cv 1), (K3.cv 2), (K3.lt 2), (K3.lt 1)⟩
  case round =>
    obtain ⟨k, hk, rfl, HBr, Km, Kr, Kg, lg, lr⟩ := hrel
    clear HB3
    have hnK := K3.n
    simp at hnK
    have hoK2 := K3.lo 2
    by_cases hj : k < ns.length
    · have hl : decide ((k : Int) < (ns.length : Int)) = true := by simp; omega
      have ik := hI.out k hk
      have iy := hn.out k hj
      have hC := hT.out (gat op (x % m) ns k) (ns.getD k 0) ik iy
      have hC : Hid _ := hC
      have hX := hix.out k hj
      have hX : Hid _ := hX
      have hR := hS.out.at k hj
      have hR : Hid _ := hR
      have hlen : (k : Int) < 1000 := by omega
      obtain ⟨y, ey⟩ : ∃ y, ns.getD k 0 = y := ⟨_, rfl⟩
      obtain ⟨z, ez⟩ : ∃ z, gat op (x % m) ns k = z := ⟨_, rfl⟩
      rw [ey] at iy hR
      rw [ey, ez] at hC
      rw [ez] at ik Kg
      have EY : Hid _ := ey
      have EZ : Hid _ := ez
      clear ey ez
      have K3_1 : Bk w.heap.size wr [(false, w.heap.size + 1, LN m), (false, w.heap.size + 1 + 1, L0s), (true, b1_7, LN z)] := ⟨.c (by omega) Km <| .c lr Kr <| .o lg (K3.lo 2) Kg <| trivial, by simp; omega⟩
      go_upto_region 5 with fail
      refine rgP K3_1 HBr HBr.size [] [] [(0, 28, .bool true)] [] [] [] ?_ ?_
      · exact oc (g_bn (fun uZ => lss_i _ _ (k : Int) (ns.length : Int) _ uZ hl)) on
      intro u4 HB4 sz4 K4
      simp only [fX, nK, nP, Wr.f, aK, pM] at K4
      simp only [setG, setN, List.set_cons_zero, List.set_cons_succ]
      go_upto_region 6 with fail
      refine rgP K4 HB4 HB4.size [] [(2, 13, L0s, some (3, LN y))] [(0, 29, .pointer (some ⟨gb, go + 4 * k, none⟩)), (1, 30, NV y)] [(3, 2)] [] [] ?_ ?_
      · refine oc (g_ix (fun uZ => hX.out uZ)) ?_
        refine oc (g_lf hR.out (hg.resolve_left (by omega)) uN iN) ?_
        refine oc (g_al 0 aN) ?_
        exact oc (g_sn 0 iN) on
      intro u5 b5_2 HB5 sz5 K5
      simp only [fX, nK, nP, Wr.f, aK, pM] at K5
      simp only [setG, setN, List.set_cons_zero, List.set_cons_succ]
      clear K4 HB4
      go_upto_region 7 with fail
      refine rgP K5 HB5 HB5.size [.no, .no, .all 8 (LN (op z y))] [] [(0, 32, .func (.func N) #[] #[]), (1, 33, NV z), (2, 34, NV y), (3, 35, NV m), (4, 36, .tuple #[NV (op z y), .int .i64 0]), (5, 31, .tuple #[NV (op z y), .int .i64 0]), (6, 37, NV (op z y)), (7, 38, .int .i64 0)] [(8, 1)] [] [true, true, true, false] ?_ ?_
      · refine oc g_mv ?_
        refine oc (g_ld 2 uN iN) ?_
        refine oc (g_ld 3 uN iN) ?_
        refine oc (g_ld 0 uN iN) ?_
        refine oc (g_cv (first := []) hN (fun fZ uZ kZ sZ => hC.out uZ)) ?_
        refine oc g_mv ?_
        refine oc g_ex ?_
        refine oc g_ex ?_
        exact oc (g_st 2 iN) on
      intro u6 HB6 sz6 K6
      simp only [fX, nK, nP, Wr.f, aK, pM] at K6
      simp only [setG, setN, List.set_cons_zero, List.set_cons_succ]
      clear K5 HB5
      go_upto_region 8 with fail
      refine rgP K6 HB6 HB6.size [] [] [(0, 39, .int .i64 ((k + 1 : Nat) : Int)), (1, 27, .int .i64 ((k + 1 : Nat) : Int))] [(1, 0)] [(1, 27)] [] ?_ ?_
      · refine oc (g_bn (fun uZ => add_i _ _ (k : Int) 1 ((k + 1 : Nat) : Int) uZ (by omega) (by omega) (by omega))) ?_
        exact oc g_mv on
      intro u7 HB7 sz7 K7
      simp only [fX, nK, nP, Wr.f, aK, pM] at K7
      simp only [setG, setN, List.set_cons_zero, List.set_cons_succ]
      clear K6 HB6
      go_wp2
      refine ⟨⟨k + 1, by omega, rfl, HB7, (K7.cv 0), (K7.cv 1), by rw [gat, EY.out, EZ.out]; exact (K7.cv 2), (K7.lt 2), (K7.lt 1)⟩, ?_⟩
      simp [intOf] <;> omega
    · have hl : decide ((k : Int) < (ns.length : Int)) = false := by simp; omega
      have hkn : k = ns.length := by omega
      have K3_1 : Bk w.heap.size wr [(false, w.heap.size + 1, LN m), (true, w.heap.size + 1 + 1, L0s), (false, b1_7, LN (gat op (x % m) ns k))] := ⟨.c (by omega) Km <| .o lr (K3.lo 1) Kr <| .c lg Kg <| trivial, by simp; omega⟩
      go_upto_region 5 with fail
      refine rgP K3_1 HBr HBr.size [] [] [(0, 28, .bool false)] [] [] [false] ?_ ?_
      · exact oc (g_bn (fun uZ => lss_i _ _ (k : Int) (ns.length : Int) _ uZ hl)) on
      intro u4 HB4 sz4 K4
      simp only [fX, nK, nP, Wr.f, aK, pM] at K4
      simp only [setG, setN, List.set_cons_zero, List.set_cons_succ]
      go_upto_region 9 with fail
      refine rgP K4 HB4 HB4.size [.all 1 (LN (gat op (x % m) ns k))] [] [(0, 40, NV (gat op (x % m) ns k)), (2, 9, (Go.Value.int Go.IntKind.i64 0))] [] [] [true, false] ?_ ?_
      · refine oc (g_ld 1 uN iN) ?_
        refine oc (g_st 0 iN) ?_
        exact oc g_as on
      intro u5 HB5 sz5 K5
      simp only [fX, nK, nP, Wr.f, aK, pM] at K5
      simp only [setG, setN, List.set_cons_zero, List.set_cons_succ]
      clear K4 HB4
      have c8_0 := ((K5.cv 0) 0 _ rfl).1
      have c8_1 := ((K5.cv 0) 1 _ rfl).1
      have c8_2 := ((K5.cv 0) 2 _ rfl).1
      have c8_3 := ((K5.cv 0) 3 _ rfl).1
      go_wp2
      refine bodyPost_ret (v := .tuple #[NV (gat op (x % m) ns k), .int .i64 0]) (by simp [results, Try.results65, go_sem, c8_0, c8_1, c8_2, c8_3]) rfl ⟨by rw [hkn], HB5⟩
set_option maxRecDepth 100000 in
set_option maxHeartbeats 4000000 in
theorem mgather0 (N : FuncId) (x : Int) (sl : Option Addr) (n cap : Nat) (w : World) (hx : In x) :
    Calls Try.prog 65 #[.func (.func N) #[] #[], NV x, A4 0 0 0 0, .slice sl n cap] w fun e w' => e = .returned (.tuple #[A4 0 0 0 0, .int .i64 20]) ∧ Below w.heap.size w w' := by
  go_enter Try.func65, Try.ntmps65
  go_upto_region 1 with fail
  generalize hC : (((w.alloc (.cells (LN x : List Value).toArray 25)).alloc (.cells ([.int .u64 (0), .int .u64 (0), .int .u64 (0), .int .u64 (0)] : List Value).toArray 25)).alloc (.cells (L0s : List Value).toArray 25)) = v0 at *
  have HB0 : Below w.heap.size w v0 := by rw [← hC]; exact balloc (balloc (balloc (bself w) _) _) _
  have K0 : Bk w.heap.size v0 [(true, w.heap.size, LN x), (true, w.heap.size + 1, [.int .u64 (0), .int .u64 (0), .int .u64 (0), .int .u64 (0)]), (true, w.heap.size + 1 + 1, L0s)] := by rw [← hC]; exact (Bk.nil _ w).ad.ad.ad
  clear hC
  refine rgD K0 HB0 HB0.size [] [(7, 10, L0s, some (8, [.int .u64 (0), .int .u64 (0), .int .u64 (0), .int .u64 (0)]))] [(0, 15, NV x), (1, 16, WV x), (2, 17, .agg #[.int .u64 (0), .int .u64 (0), .int .u64 (0), .int .u64 (0)]), (3, 18, .tuple #[A4 (0) (0) (0) (0), .int .i64 20]), (4, 14, .tuple #[A4 (0) (0) (0) (0), .int .i64 20]), (5, 19, A4 (0) (0) (0) (0)), (6, 20, .int .i64 20), (9, 11, .int .i64 20)] [(8, 7)] [] [false, false, true, false] ?_ ?_
  · refine oc (g_ld 0 uN iN) ?_
    refine oc (g_cl ent_limb_Widen (fun uZ => nWiden x uZ hx)) ?_
    refine oc (g_ld 1 uN iN) ?_
    refine oc (g_cl ent_mod_Reduce (fun uZ => mReduce0 x uZ)) ?_
    refine oc g_mv ?_
    refine oc g_ex ?_
    refine oc g_ex ?_
    refine oc (g_al 0 aN) ?_
    refine oc (g_sn 0 iN) ?_
    exact oc g_as on
  intro u1 b1_7 HB1 sz1 K1
  simp only [fX, nK, nP, Wr.f, aK, pM] at K1
  simp only [setG, setN, List.set_cons_zero, List.set_cons_succ]
  clear K0 HB0
  go_upto_region 2 with fail
  refine rgP K1 HB1 HB1.size [] [] [(0, 21, .int .i64 20), (1, 22, .bool true)] [] [] [] ?_ ?_
  · refine oc g_mv ?_
    exact oc (g_bn (fun uZ => neq_i _ _ _ 20 0 _ uZ rfl)) on
  intro u2 HB2 sz2 K2
  simp only [fX, nK, nP, Wr.f, aK, pM] at K2
  simp only [setG, setN, List.set_cons_zero, List.set_cons_succ]
  clear K1 HB1
  go_upto_region 3 with fail
  refine rgP K2 HB2 HB2.size [.all 2 ([.int .u64 (0), .int .u64 (0), .int .u64 (0), .int .u64 (0)])] [] [(0, 23, A4 (0) (0) (0) (0)), (1, 24, .int .i64 20), (3, 9, .int .i64 20)] [] [] [] ?_ ?_
  · refine oc (g_bd zN) ?_
    refine oc g_mv ?_
    refine oc (g_st 0 iN) ?_
    exact oc g_as on
  intro u3 HB3 sz3 K3
  simp only [fX, nK, nP, Wr.f, aK, pM] at K3
  simp only [setG, setN, List.set_cons_zero, List.set_cons_succ]
  clear K2 HB2
  have c8_0 := ((K3.cv 0) 0 _ rfl).1
  have c8_1 := ((K3.cv 0) 1 _ rfl).1
  have c8_2 := ((K3.cv 0) 2 _ rfl).1
  have c8_3 := ((K3.cv 0) 3 _ rfl).1
  go_wp2
  refine bodyPost_ret (v := .tuple #[A4 0 0 0 0, .int .i64 20]) (by simp [results, Try.results65, go_sem, c8_0, c8_1, c8_2, c8_3]) rfl ⟨rfl, HB3⟩
theorem ent_mod_Add' (vs : Array Value) (w : World) : (callFunc 66 vs).run Try.prog w = .ok (.enter 66 vs) w := by kernel_rfl
theorem ent_mod_Mul' (vs : Array Value) (w : World) : (callFunc 68 vs).run Try.prog w = .ok (.enter 68 vs) w := by kernel_rfl
set_option maxRecDepth 100000 in
set_option maxHeartbeats 4000000 in
theorem mSum (m : Int) (sl : Option Addr) (gb go cap : Nat) (ns : List Int) (w : World) (hns : ns.length ≤ 50) (hm : In m) (h : m ≠ 0) (hn : Hid (∀ k, k < ns.length → In (ns.getD k 0))) (hix : Hid (∀ j, j < ns.length → ∀ W, (Instr.indexAt 39 (.slice sl ns.length cap) (.int .i64 j)).run Try.prog W = .ok (.pointer (some ⟨gb, go + 4 * j, none⟩)) W)) (hg : ns.length = 0 ∨ gb < w.heap.size) (hS : Hid (SN w gb go ns)) :
    Calls Try.prog 26 #[NV m, .slice sl ns.length cap] w fun e w' => e = .returned (.tuple #[NV (gat (fun a b => (a + b) % m) (0 % m) ns ns.length), .int .i64 0]) ∧ Below w.heap.size w w' := by
  go_enter Try.func26, Try.ntmps26
  go_upto_region 1 with fail
  generalize hC : ((w.alloc (.cells (LN m : List Value).toArray 25)).alloc (.cells (L0s : List Value).toArray 25)) = v0 at *
  have HB0 : Below w.heap.size w v0 := by rw [← hC]; exact balloc (balloc (bself w) _) _
  have K0 : Bk w.heap.size v0 [(true, w.heap.size, LN m), (true, w.heap.size + 1, L0s)] := by rw [← hC]; exact (Bk.nil _ w).ad.ad
  clear hC
  refine rgD K0 HB0 HB0.size [.no, .all 6 (LN (gat (fun a b => (a + b) % m) (0 % m) ns ns.length))] [] [(0, 6, NV 0), (1, 7, NV m), (2, 8, .slice sl ns.length cap), (3, 9, .tuple #[NV (gat (fun a b => (a + b) % m) (0 % m) ns ns.length), .int .i64 0]), (4, 10, NV (gat (fun a b => (a + b) % m) (0 % m) ns ns.length)), (5, 11, .int .i64 0), (7, 5, .int .i64 0)] [] [] [false] ?_ ?_
  · refine oc (g_cl ent_limb_Of (fun uZ => nOf 0 uZ (by omega) (by omega))) ?_
    refine oc (g_ld 0 uN iN) ?_
    refine oc g_mv ?_
    refine oc (g_cb ent_mod_gather (fun uZ bZ => mgather 66 (fun a b => (a + b) % m) 0 m sl gb go cap ns uZ hns In_0 hm h ent_mod_Add' (fun a b ha hb u => mAdd a b m u ha hb hm h) (fun a b ha hb => In_mod hm h) hn hix (hg.imp id (fun h => Nat.lt_of_lt_of_le h bZ.size)) (hS.out.below2 bZ hg))) ?_
    refine oc g_ex ?_
    refine oc g_ex ?_
    refine oc (g_st 1 iN) ?_
    exact oc g_as on
  intro u1 HB1 sz1 K1
  simp only [fX, nK, nP, Wr.f, aK, pM] at K1
  simp only [setG, setN, List.set_cons_zero, List.set_cons_succ]
  clear K0 HB0
  have c4_0 := ((K1.cv 0) 0 _ rfl).1
  have c4_1 := ((K1.cv 0) 1 _ rfl).1
  have c4_2 := ((K1.cv 0) 2 _ rfl).1
  have c4_3 := ((K1.cv 0) 3 _ rfl).1
  go_wp2
  refine bodyPost_ret (v := .tuple #[NV (gat (fun a b => (a + b) % m) (0 % m) ns ns.length), .int .i64 0]) (by simp [results, Try.results26, go_sem, c4_0, c4_1, c4_2, c4_3]) rfl ⟨rfl, HB1⟩
set_option maxRecDepth 100000 in
set_option maxHeartbeats 4000000 in
theorem mSum0 (sl : Option Addr) (n cap : Nat) (w : World) :
    Calls Try.prog 26 #[A4 0 0 0 0, .slice sl n cap] w fun e w' => e = .returned (.tuple #[A4 0 0 0 0, .int .i64 20]) ∧ Below w.heap.size w w' := by
  go_enter Try.func26, Try.ntmps26
  go_upto_region 1 with fail
  generalize hC : ((w.alloc (.cells ([.int .u64 (0), .int .u64 (0), .int .u64 (0), .int .u64 (0)] : List Value).toArray 25)).alloc (.cells (L0s : List Value).toArray 25)) = v0 at *
  have HB0 : Below w.heap.size w v0 := by rw [← hC]; exact balloc (balloc (bself w) _) _
  have K0 : Bk w.heap.size v0 [(true, w.heap.size, [.int .u64 (0), .int .u64 (0), .int .u64 (0), .int .u64 (0)]), (true, w.heap.size + 1, L0s)] := by rw [← hC]; exact (Bk.nil _ w).ad.ad
  clear hC
  refine rgD K0 HB0 HB0.size [.no, .all 6 ([.int .u64 (0), .int .u64 (0), .int .u64 (0), .int .u64 (0)])] [] [(0, 6, NV 0), (1, 7, .agg #[.int .u64 (0), .int .u64 (0), .int .u64 (0), .int .u64 (0)]), (2, 8, .slice sl n cap), (3, 9, .tuple #[A4 (0) (0) (0) (0), .int .i64 20]), (4, 10, A4 (0) (0) (0) (0)), (5, 11, .int .i64 20), (7, 5, .int .i64 20)] [] [] [false] ?_ ?_
  · refine oc (g_cl ent_limb_Of (fun uZ => nOf 0 uZ (by omega) (by omega))) ?_
    refine oc (g_ld 0 uN iN) ?_
    refine oc g_mv ?_
    refine oc (g_cl ent_mod_gather (fun uZ => mgather0 66 0 sl n cap uZ In_0)) ?_
    refine oc g_ex ?_
    refine oc g_ex ?_
    refine oc (g_st 1 iN) ?_
    exact oc g_as on
  intro u1 HB1 sz1 K1
  simp only [fX, nK, nP, Wr.f, aK, pM] at K1
  simp only [setG, setN, List.set_cons_zero, List.set_cons_succ]
  clear K0 HB0
  have c4_0 := ((K1.cv 0) 0 _ rfl).1
  have c4_1 := ((K1.cv 0) 1 _ rfl).1
  have c4_2 := ((K1.cv 0) 2 _ rfl).1
  have c4_3 := ((K1.cv 0) 3 _ rfl).1
  go_wp2
  refine bodyPost_ret (v := .tuple #[A4 0 0 0 0, .int .i64 20]) (by simp [results, Try.results26, go_sem, c4_0, c4_1, c4_2, c4_3]) rfl ⟨rfl, HB1⟩
set_option maxRecDepth 100000 in
set_option maxHeartbeats 4000000 in
theorem mProduct (m : Int) (sl : Option Addr) (gb go cap : Nat) (ns : List Int) (w : World) (hns : ns.length ≤ 50) (hm : In m) (h : m ≠ 0) (hn : Hid (∀ k, k < ns.length → In (ns.getD k 0))) (hix : Hid (∀ j, j < ns.length → ∀ W, (Instr.indexAt 39 (.slice sl ns.length cap) (.int .i64 j)).run Try.prog W = .ok (.pointer (some ⟨gb, go + 4 * j, none⟩)) W)) (hg : ns.length = 0 ∨ gb < w.heap.size) (hS : Hid (SN w gb go ns)) :
    Calls Try.prog 28 #[NV m, .slice sl ns.length cap] w fun e w' => e = .returned (.tuple #[NV (gat (fun a b => (a * b) % m) (1 % m) ns ns.length), .int .i64 0]) ∧ Below w.heap.size w w' := by
  go_enter Try.func28, Try.ntmps28
  go_upto_region 1 with fail
  generalize hC : ((w.alloc (.cells (LN m : List Value).toArray 25)).alloc (.cells (L0s : List Value).toArray 25)) = v0 at *
  have HB0 : Below w.heap.size w v0 := by rw [← hC]; exact balloc (balloc (bself w) _) _
  have K0 : Bk w.heap.size v0 [(true, w.heap.size, LN m), (true, w.heap.size + 1, L0s)] := by rw [← hC]; exact (Bk.nil _ w).ad.ad
  clear hC
  refine rgD K0 HB0 HB0.size [.no, .all 6 (LN (gat (fun a b => (a * b) % m) (1 % m) ns ns.length))] [] [(0, 6, NV 1), (1, 7, NV m), (2, 8, .slice sl ns.length cap), (3, 9, .tuple #[NV (gat (fun a b => (a * b) % m) (1 % m) ns ns.length), .int .i64 0]), (4, 10, NV (gat (fun a b => (a * b) % m) (1 % m) ns ns.length)), (5, 11, .int .i64 0), (7, 5, .int .i64 0)] [] [] [false] ?_ ?_
  · refine oc (g_cl ent_limb_Of (fun uZ => nOf 1 uZ (by omega) (by omega))) ?_
    refine oc (g_ld 0 uN iN) ?_
    refine oc g_mv ?_
    refine oc (g_cb ent_mod_gather (fun uZ bZ => mgather 68 (fun a b => (a * b) % m) 1 m sl gb go cap ns uZ hns In_1 hm h ent_mod_Mul' (fun a b ha hb u => mMul a b m u ha hb hm h) (fun a b ha hb => In_mod hm h) hn hix (hg.imp id (fun h => Nat.lt_of_lt_of_le h bZ.size)) (hS.out.below2 bZ hg))) ?_
    refine oc g_ex ?_
    refine oc g_ex ?_
    refine oc (g_st 1 iN) ?_
    exact oc g_as on
  intro u1 HB1 sz1 K1
  simp only [fX, nK, nP, Wr.f, aK, pM] at K1
  simp only [setG, setN, List.set_cons_zero, List.set_cons_succ]
  clear K0 HB0
  have c4_0 := ((K1.cv 0) 0 _ rfl).1
  have c4_1 := ((K1.cv 0) 1 _ rfl).1
  have c4_2 := ((K1.cv 0) 2 _ rfl).1
  have c4_3 := ((K1.cv 0) 3 _ rfl).1
  go_wp2
  refine bodyPost_ret (v := .tuple #[NV (gat (fun a b => (a * b) % m) (1 % m) ns ns.length), .int .i64 0]) (by simp [results, Try.results28, go_sem, c4_0, c4_1, c4_2, c4_3]) rfl ⟨rfl, HB1⟩
set_option maxRecDepth 100000 in
set_option maxHeartbeats 4000000 in
theorem mProduct0 (sl : Option Addr) (n cap : Nat) (w : World) :
    Calls Try.prog 28 #[A4 0 0 0 0, .slice sl n cap] w fun e w' => e = .returned (.tuple #[A4 0 0 0 0, .int .i64 20]) ∧ Below w.heap.size w w' := by
  go_enter Try.func28, Try.ntmps28
  go_upto_region 1 with fail
  generalize hC : ((w.alloc (.cells ([.int .u64 (0), .int .u64 (0), .int .u64 (0), .int .u64 (0)] : List Value).toArray 25)).alloc (.cells (L0s : List Value).toArray 25)) = v0 at *
  have HB0 : Below w.heap.size w v0 := by rw [← hC]; exact balloc (balloc (bself w) _) _
  have K0 : Bk w.heap.size v0 [(true, w.heap.size, [.int .u64 (0), .int .u64 (0), .int .u64 (0), .int .u64 (0)]), (true, w.heap.size + 1, L0s)] := by rw [← hC]; exact (Bk.nil _ w).ad.ad
  clear hC
  refine rgD K0 HB0 HB0.size [.no, .all 6 ([.int .u64 (0), .int .u64 (0), .int .u64 (0), .int .u64 (0)])] [] [(0, 6, NV 1), (1, 7, .agg #[.int .u64 (0), .int .u64 (0), .int .u64 (0), .int .u64 (0)]), (2, 8, .slice sl n cap), (3, 9, .tuple #[A4 (0) (0) (0) (0), .int .i64 20]), (4, 10, A4 (0) (0) (0) (0)), (5, 11, .int .i64 20), (7, 5, .int .i64 20)] [] [] [false] ?_ ?_
  · refine oc (g_cl ent_limb_Of (fun uZ => nOf 1 uZ (by omega) (by omega))) ?_
    refine oc (g_ld 0 uN iN) ?_
    refine oc g_mv ?_
    refine oc (g_cl ent_mod_gather (fun uZ => mgather0 68 1 sl n cap uZ In_1)) ?_
    refine oc g_ex ?_
    refine oc g_ex ?_
    refine oc (g_st 1 iN) ?_
    exact oc g_as on
  intro u1 HB1 sz1 K1
  simp only [fX, nK, nP, Wr.f, aK, pM] at K1
  simp only [setG, setN, List.set_cons_zero, List.set_cons_succ]
  clear K0 HB0
  have c4_0 := ((K1.cv 0) 0 _ rfl).1
  have c4_1 := ((K1.cv 0) 1 _ rfl).1
  have c4_2 := ((K1.cv 0) 2 _ rfl).1
  have c4_3 := ((K1.cv 0) 3 _ rfl).1
  go_wp2
  refine bodyPost_ret (v := .tuple #[A4 0 0 0 0, .int .i64 20]) (by simp [results, Try.results28, go_sem, c4_0, c4_1, c4_2, c4_3]) rfl ⟨rfl, HB1⟩
end Go.Proofs.Ytkpnjmfndgfogaa

/- The reference's sums and products of many. -/
namespace Go.Proofs.Ytkpnjmfndgfogaa
open Go.RowKit
set_option linter.unusedVariables false
set_option linter.unusedSimpArgs false
theorem bdw1' (w : World) : (Instr.build 61 [(0, .int .u64 1)].toArray).run Try.prog w = .ok (WV 1) w := by
  have e : WV 1 = A8 1 0 0 0 0 0 0 0 := WV_of 1 1 0 0 0 0 0 0 0 ⟨by omega, by omega⟩ W_0 W_0 W_0 W_0 W_0 W_0 W_0 (by simp [V])
  have k : (Instr.build 61 [(0, .int .u64 1)].toArray).run Try.prog w = .ok (A8 1 0 0 0 0 0 0 0) w := by kernel_rfl
  rw [e]; exact k
theorem bdw0' (w : World) : (Instr.build 61 [].toArray).run Try.prog w = .ok (WV 0) w := by
  have e : WV 0 = A8 0 0 0 0 0 0 0 0 := WV_of 0 0 0 0 0 0 0 0 0 W_0 W_0 W_0 W_0 W_0 W_0 W_0 W_0 (by simp [V])
  rw [e]; exact zW w
set_option maxRecDepth 100000 in
set_option maxHeartbeats 4000000 in
theorem xSum (m : Int) (sl : Option Addr) (gb go cap : Nat) (ns : List Int) (w : World) (hns : ns.length ≤ 50) (hm : In m) (h : m ≠ 0) (hn : Hid (∀ k, k < ns.length → In (ns.getD k 0))) (hix : Hid (∀ j, j < ns.length → ∀ W, (Instr.indexAt 39 (.slice sl ns.length cap) (.int .i64 j)).run Try.prog W = .ok (.pointer (some ⟨gb, go + 4 * j, none⟩)) W)) (hg : ns.length = 0 ∨ gb < w.heap.size) (hS : Hid (SN w gb go ns)) :
    Calls Try.prog 27 #[NV m, .slice sl ns.length cap] w fun e w' => e = .returned (.tuple #[NV (gat (fun a b => (a + b) % m) (0 % m) ns ns.length), .int .i64 0]) ∧ Below w.heap.size w w' := by
  have hI : Hid (∀ k, k ≤ ns.length → In (gat (fun a b => (a + b) % m) (0 % m) ns k)) := gat_In (In_mod hm h) (fun a b ha hb => In_mod hm h) hn.out
  go_enter Try.func27, Try.ntmps27
  go_upto_region 1 with fail
  generalize hC : ((w.alloc (.cells (LN m : List Value).toArray 25)).alloc (.cells (L0s : List Value).toArray 25)) = v0 at *
  have HB0 : Below w.heap.size w v0 := by rw [← hC]; exact balloc (balloc (bself w) _) _
  have K0 : Bk w.heap.size v0 [(true, w.heap.size, LN m), (true, w.heap.size + 1, L0s)] := by rw [← hC]; exact (Bk.nil _ w).ad.ad
  clear hC
  refine rgP K0 HB0 HB0.size [] [(6, 6, L0s, some (7, LN (0 % m)))] [(0, 10, WV 0), (1, 11, NV m), (2, 12, .tuple #[NV (0 % m), .int .i64 0]), (3, 9, .tuple #[NV (0 % m), .int .i64 0]), (4, 13, NV (0 % m)), (5, 14, .int .i64 0), (8, 7, .int .i64 0)] [(7, 6)] [] [] ?_ ?_
  · refine oc (g_bd (fun uZ => bdw0' uZ)) ?_
    refine oc (g_ld 0 uN iN) ?_
    refine oc (g_cl ent_seneschalref02_Reduce (fun uZ => xReduce 0 m uZ In_0.wide hm h)) ?_
    refine oc g_mv ?_
    refine oc g_ex ?_
    refine oc g_ex ?_
    refine oc (g_al 0 aN) ?_
    refine oc (g_sn 0 iN) ?_
    exact oc g_as on
  intro u1 b1_6 HB1 sz1 K1
  simp only [fX, nK, nP, Wr.f, aK, pM] at K1
  simp only [setG, setN, List.set_cons_zero, List.set_cons_succ]
  clear K0 HB0
  go_upto_region 2 with fail
  refine rgP K1 HB1 HB1.size [] [] [(0, 8, (Go.Value.int Go.IntKind.i64 0))] [] [] [] ?_ ?_
  · exact oc g_as on
  intro u2 HB2 sz2 K2
  simp only [fX, nK, nP, Wr.f, aK, pM] at K2
  simp only [setG, setN, List.set_cons_zero, List.set_cons_succ]
  clear K1 HB1
  go_wp2_with fail
  go_loopw [7, 8] (fun s7 s8 wr => ∃ (k : Nat), k ≤ ns.length ∧ s7 = .int .i64 0 ∧ s8 = .int .i64 (k : Int) ∧ Below w.heap.size w wr ∧ CV wr (w.heap.size) (LN m) ∧ CV wr (w.heap.size + 1) L0s ∧ CV wr b1_6 (LN (gat (fun a b => (a + b) % m) (0 % m) ns k)) ∧ b1_6 < wr.heap.size ∧ w.heap.size + 1 < wr.heap.size) (fun _ s8 _ => ns.length - (intOf s8).toNat)
  case atStart => exact ⟨0, by omega, rfl, rfl, HB2, (K2.cv 0), (K2.cv 1), (K2.cv 2), (K2.lt 2), (K2.lt 1)⟩
  case round =>
    obtain ⟨k, hk, rfl, rfl, HBr, Km, Kr, Kg, lg, lr⟩ := hrel
    clear HB2
    have hnK := K2.n
    simp at hnK
    have hoK2 := K2.lo 2
    by_cases hj : k < ns.length
    · have hl : decide ((k : Int) < (ns.length : Int)) = true := by simp; omega
      have ik := hI.out k hk
      have iy := hn.out k hj
      have hX := hix.out k hj
      have hX : Hid _ := hX
      have hR := hS.out.at k hj
      have hR : Hid _ := hR
      have hlen : (k : Int) < 1000 := by omega
      obtain ⟨y, ey⟩ : ∃ y, ns.getD k 0 = y := ⟨_, rfl⟩
      obtain ⟨z, ez⟩ : ∃ z, gat (fun a b => (a + b) % m) (0 % m) ns k = z := ⟨_, rfl⟩
      rw [ey] at iy hR
      rw [ez] at ik Kg
      have EY : Hid _ := ey
      have EZ : Hid _ := ez
      clear ey ez
      have K2_1 : Bk w.heap.size wr [(false, w.heap.size, LN m), (false, w.heap.size + 1, L0s), (true, b1_6, LN z)] := ⟨.c (by omega) Km <| .c lr Kr <| .o lg (K2.lo 2) Kg <| trivial, by simp; omega⟩
      go_upto_region 3 with fail
      refine rgP K2_1 HBr HBr.size [] [] [(0, 15, .int .i64 (k : Int)), (1, 16, .slice sl ns.length cap), (2, 17, .int .i64 (ns.length : Int)), (3, 18, .bool true), (4, 19, .bool true), (5, 20, .int .i64 0), (6, 21, .bool true), (7, 22, .bool true)] [] [] [] ?_ ?_
      · refine oc g_mv ?_
        refine oc g_mv ?_
        refine oc (g_ln Try.underlying39) ?_
        refine oc (g_bn (fun uZ => lss_i _ _ (k : Int) (ns.length : Int) _ uZ hl)) ?_
        refine oc g_mv ?_
        refine oc g_mv ?_
        refine oc (g_bn (fun uZ => eql_i _ _ _ 0 0 _ uZ rfl)) ?_
        exact oc g_pk on
      intro u3 HB3 sz3 K3
      simp only [fX, nK, nP, Wr.f, aK, pM] at K3
      simp only [setG, setN, List.set_cons_zero, List.set_cons_succ]
      go_upto_region 5 with fail
      refine rgD K3 HB3 HB3.size [.no, .no, .all 10 (LN ((z + y) % m))] [] [(0, 26, NV z), (1, 27, .slice sl ns.length cap), (2, 28, .int .i64 (k : Int)), (3, 29, .pointer (some ⟨gb, go + 4 * k, none⟩)), (4, 30, NV y), (5, 31, NV m), (6, 32, .tuple #[NV ((z + y) % m), .int .i64 0]), (7, 25, .tuple #[NV ((z + y) % m), .int .i64 0]), (8, 33, NV ((z + y) % m)), (9, 34, .int .i64 0), (11, 7, .int .i64 0)] [(10, 0)] [] [] ?_ ?_
      · refine oc (g_ld 2 uN iN) ?_
        refine oc g_mv ?_
        refine oc g_mv ?_
        refine oc (g_ix (fun uZ => hX.out uZ)) ?_
        refine oc (g_lf hR.out (hg.resolve_left (by omega)) uN iN) ?_
        refine oc (g_ld 0 uN iN) ?_
        refine oc (g_cl ent_seneschalref02_Add (fun uZ => xAdd z y m uZ ik iy hm h)) ?_
        refine oc g_mv ?_
        refine oc g_ex ?_
        refine oc g_ex ?_
        refine oc (g_st 2 iN) ?_
        exact oc g_as on
      intro u4 HB4 sz4 K4
      simp only [fX, nK, nP, Wr.f, aK, pM] at K4
      simp only [setG, setN, List.set_cons_zero, List.set_cons_succ]
      clear K3 HB3
      go_upto_region 4 with fail
      refine rgP K4 HB4 HB4.size [] [] [(0, 23, .int .i64 (k : Int)), (1, 24, .int .i64 ((k + 1 : Nat) : Int)), (2, 8, .int .i64 ((k + 1 : Nat) : Int))] [(2, 0)] [(2, 8)] [] ?_ ?_
      · refine oc g_mv ?_
        refine oc (g_bn (fun uZ => add_i _ _ (k : Int) 1 ((k + 1 : Nat) : Int) uZ (by omega) (by omega) (by omega))) ?_
        exact oc g_as on
      intro u5 HB5 sz5 K5
      simp only [fX, nK, nP, Wr.f, aK, pM] at K5
      simp only [setG, setN, List.set_cons_zero, List.set_cons_succ]
      clear K4 HB4
      go_wp2
      refine ⟨⟨k + 1, by omega, rfl, rfl, HB5, (K5.cv 0), (K5.cv 1), by rw [gat, EY.out, EZ.out]; exact (K5.cv 2), (K5.lt 2), (K5.lt 1)⟩, ?_⟩
      simp [intOf] <;> omega
    · have hl : decide ((k : Int) < (ns.length : Int)) = false := by simp; omega
      have hkn : k = ns.length := by omega
      have K2_1 : Bk w.heap.size wr [(false, w.heap.size, LN m), (true, w.heap.size + 1, L0s), (false, b1_6, LN (gat (fun a b => (a + b) % m) (0 % m) ns k))] := ⟨.c (by omega) Km <| .o lr (K2.lo 1) Kr <| .c lg Kg <| trivial, by simp; omega⟩
      go_upto_region 3 with fail
      refine rgP K2_1 HBr HBr.size [] [] [(0, 15, .int .i64 (k : Int)), (1, 16, .slice sl ns.length cap), (2, 17, .int .i64 (ns.length : Int)), (3, 18, .bool false), (4, 19, .bool false), (5, 20, undef), (6, 21, undef), (7, 22, (Go.Value.bool Bool.false))] [] [] [false] ?_ ?_
      · refine oc g_mv ?_
        refine oc g_mv ?_
        refine oc (g_ln Try.underlying39) ?_
        refine oc (g_bn (fun uZ => lss_i _ _ (k : Int) (ns.length : Int) _ uZ hl)) ?_
        refine oc g_mv ?_
        refine oc g_sk ?_
        refine oc g_sk ?_
        exact oc g_pk on
      intro u3 HB3 sz3 K3
      simp only [fX, nK, nP, Wr.f, aK, pM] at K3
      simp only [setG, setN, List.set_cons_zero, List.set_cons_succ]
      go_upto_region 6 with fail
      refine rgP K3 HB3 HB3.size [.all 2 (LN (gat (fun a b => (a + b) % m) (0 % m) ns k))] [] [(0, 35, NV (gat (fun a b => (a + b) % m) (0 % m) ns k)), (1, 36, .int .i64 0), (3, 5, .int .i64 0)] [] [] [true, false] ?_ ?_
      · refine oc (g_ld 1 uN iN) ?_
        refine oc g_mv ?_
        refine oc (g_st 0 iN) ?_
        exact oc g_as on
      intro u4 HB4 sz4 K4
      simp only [fX, nK, nP, Wr.f, aK, pM] at K4
      simp only [setG, setN, List.set_cons_zero, List.set_cons_succ]
      clear K3 HB3
      have c4_0 := ((K4.cv 0) 0 _ rfl).1
      have c4_1 := ((K4.cv 0) 1 _ rfl).1
      have c4_2 := ((K4.cv 0) 2 _ rfl).1
      have c4_3 := ((K4.cv 0) 3 _ rfl).1
      go_wp2
      refine bodyPost_ret (v := .tuple #[NV (gat (fun a b => (a + b) % m) (0 % m) ns k), .int .i64 0]) (by simp [results, Try.results27, go_sem, c4_0, c4_1, c4_2, c4_3]) rfl ⟨by rw [hkn], HB4⟩
set_option maxRecDepth 100000 in
set_option maxHeartbeats 4000000 in
theorem xSum0 (sl : Option Addr) (n cap : Nat) (w : World) :
    Calls Try.prog 27 #[A4 0 0 0 0, .slice sl n cap] w fun e w' => e = .returned (.tuple #[A4 0 0 0 0, .int .i64 20]) ∧ Below w.heap.size w w' := by
  go_enter Try.func27, Try.ntmps27
  go_upto_region 1 with fail
  generalize hC : ((w.alloc (.cells ([.int .u64 (0), .int .u64 (0), .int .u64 (0), .int .u64 (0)] : List Value).toArray 25)).alloc (.cells (L0s : List Value).toArray 25)) = v0 at *
  have HB0 : Below w.heap.size w v0 := by rw [← hC]; exact balloc (balloc (bself w) _) _
  have K0 : Bk w.heap.size v0 [(true, w.heap.size, [.int .u64 (0), .int .u64 (0), .int .u64 (0), .int .u64 (0)]), (true, w.heap.size + 1, L0s)] := by rw [← hC]; exact (Bk.nil _ w).ad.ad
  clear hC
  refine rgP K0 HB0 HB0.size [] [(6, 6, L0s, some (7, [.int .u64 (0), .int .u64 (0), .int .u64 (0), .int .u64 (0)]))] [(0, 10, WV 0), (1, 11, .agg #[.int .u64 (0), .int .u64 (0), .int .u64 (0), .int .u64 (0)]), (2, 12, .tuple #[A4 (0) (0) (0) (0), .int .i64 20]), (3, 9, .tuple #[A4 (0) (0) (0) (0), .int .i64 20]), (4, 13, A4 (0) (0) (0) (0)), (5, 14, .int .i64 20), (8, 7, .int .i64 20)] [(7, 6)] [] [false] ?_ ?_
  · refine oc (g_bd (fun uZ => bdw0' uZ)) ?_
    refine oc (g_ld 0 uN iN) ?_
    refine oc (g_cl ent_seneschalref02_Reduce (fun uZ => xReduce0 0 uZ)) ?_
    refine oc g_mv ?_
    refine oc g_ex ?_
    refine oc g_ex ?_
    refine oc (g_al 0 aN) ?_
    refine oc (g_sn 0 iN) ?_
    exact oc g_as on
  intro u1 b1_6 HB1 sz1 K1
  simp only [fX, nK, nP, Wr.f, aK, pM] at K1
  simp only [setG, setN, List.set_cons_zero, List.set_cons_succ]
  clear K0 HB0
  go_upto_region 2 with fail
  refine rgP K1 HB1 HB1.size [] [] [(0, 8, (Go.Value.int Go.IntKind.i64 0))] [] [] [] ?_ ?_
  · exact oc g_as on
  intro u2 HB2 sz2 K2
  simp only [fX, nK, nP, Wr.f, aK, pM] at K2
  simp only [setG, setN, List.set_cons_zero, List.set_cons_succ]
  clear K1 HB1
  go_wp2_with fail
  go_loopw [7, 8] (fun s7 s8 wr => s7 = .int .i64 20 ∧ s8 = .int .i64 0 ∧ Below w.heap.size w wr ∧ CV wr (w.heap.size + 1) L0s ∧ CV wr b1_6 L0s ∧ b1_6 < wr.heap.size ∧ w.heap.size + 1 < wr.heap.size) (fun _ _ _ => 0)
  case atStart => exact ⟨rfl, rfl, HB2, (K2.cv 0), (K2.cv 1), (K2.lt 1), (K2.lt 0)⟩
  case round =>
    obtain ⟨rfl, rfl, HBr, Kr, Kg, lg, lr⟩ := hrel
    clear HB2
    have hnK := K2.n
    simp at hnK
    have hoK1 := K2.lo 1
    by_cases hj : 0 < n
    · have hl : decide ((0 : Int) < (n : Int)) = true := by simp; omega
      have K2_1 : Bk w.heap.size wr [(true, w.heap.size + 1, L0s), (false, b1_6, L0s)] := ⟨.o lr (K2.lo 0) Kr <| .c lg Kg <| trivial, by simp; omega⟩
      go_upto_region 3 with fail
      refine rgP K2_1 HBr HBr.size [] [] [(0, 15, .int .i64 0), (1, 16, .slice sl n cap), (2, 17, .int .i64 (n : Int)), (3, 18, .bool true), (4, 19, .bool true), (5, 20, .int .i64 20), (6, 21, .bool false), (7, 22, .bool false)] [] [] [] ?_ ?_
      · refine oc g_mv ?_
        refine oc g_mv ?_
        refine oc (g_ln Try.underlying39) ?_
        refine oc (g_bn (fun uZ => lss_i _ _ 0 (n : Int) _ uZ hl)) ?_
        refine oc g_mv ?_
        refine oc g_mv ?_
        refine oc (g_bn (fun uZ => eql_i _ _ _ 20 0 _ uZ rfl)) ?_
        exact oc g_pk on
      intro u3 HB3 sz3 K3
      simp only [fX, nK, nP, Wr.f, aK, pM] at K3
      simp only [setG, setN, List.set_cons_zero, List.set_cons_succ]
      go_upto_region 6 with fail
      refine rgP K3 HB3 HB3.size [.all 2 ([.int .u64 (0), .int .u64 (0), .int .u64 (0), .int .u64 (0)])] [] [(0, 35, A4 (0) (0) (0) (0)), (1, 36, .int .i64 20), (3, 5, .int .i64 20)] [] [] [true, false] ?_ ?_
      · refine oc (g_ld 1 uN iN) ?_
        refine oc g_mv ?_
        refine oc (g_st 0 iN) ?_
        exact oc g_as on
      intro u4 HB4 sz4 K4
      simp only [fX, nK, nP, Wr.f, aK, pM] at K4
      simp only [setG, setN, List.set_cons_zero, List.set_cons_succ]
      clear K3 HB3
      have c4_0 := ((K4.cv 0) 0 _ rfl).1
      have c4_1 := ((K4.cv 0) 1 _ rfl).1
      have c4_2 := ((K4.cv 0) 2 _ rfl).1
      have c4_3 := ((K4.cv 0) 3 _ rfl).1
      go_wp2
      refine bodyPost_ret (v := .tuple #[A4 0 0 0 0, .int .i64 20]) (by simp [results, Try.results27, go_sem, c4_0, c4_1, c4_2, c4_3]) rfl ⟨rfl, HB4⟩
    · have hl : decide ((0 : Int) < (n : Int)) = false := by simp; omega
      have K2_1 : Bk w.heap.size wr [(true, w.heap.size + 1, L0s), (false, b1_6, L0s)] := ⟨.o lr (K2.lo 0) Kr <| .c lg Kg <| trivial, by simp; omega⟩
      go_upto_region 3 with fail
      refine rgP K2_1 HBr HBr.size [] [] [(0, 15, .int .i64 0), (1, 16, .slice sl n cap), (2, 17, .int .i64 (n : Int)), (3, 18, .bool false), (4, 19, .bool false), (5, 20, undef), (6, 21, undef), (7, 22, (Go.Value.bool Bool.false))] [] [] [] ?_ ?_
      · refine oc g_mv ?_
        refine oc g_mv ?_
        refine oc (g_ln Try.underlying39) ?_
        refine oc (g_bn (fun uZ => lss_i _ _ 0 (n : Int) _ uZ hl)) ?_
        refine oc g_mv ?_
        refine oc g_sk ?_
        refine oc g_sk ?_
        exact oc g_pk on
      intro u3 HB3 sz3 K3
      simp only [fX, nK, nP, Wr.f, aK, pM] at K3
      simp only [setG, setN, List.set_cons_zero, List.set_cons_succ]
      go_upto_region 6 with fail
      refine rgP K3 HB3 HB3.size [.all 2 ([.int .u64 (0), .int .u64 (0), .int .u64 (0), .int .u64 (0)])] [] [(0, 35, A4 (0) (0) (0) (0)), (1, 36, .int .i64 20), (3, 5, .int .i64 20)] [] [] [true, false] ?_ ?_
      · refine oc (g_ld 1 uN iN) ?_
        refine oc g_mv ?_
        refine oc (g_st 0 iN) ?_
        exact oc g_as on
      intro u4 HB4 sz4 K4
      simp only [fX, nK, nP, Wr.f, aK, pM] at K4
      simp only [setG, setN, List.set_cons_zero, List.set_cons_succ]
      clear K3 HB3
      have c4_0 := ((K4.cv 0) 0 _ rfl).1
      have c4_1 := ((K4.cv 0) 1 _ rfl).1
      have c4_2 := ((K4.cv 0) 2 _ rfl).1
      have c4_3 := ((K4.cv 0) 3 _ rfl).1
      go_wp2
      refine bodyPost_ret (v := .tuple #[A4 0 0 0 0, .int .i64 20]) (by simp [results, Try.results27, go_sem, c4_0, c4_1, c4_2, c4_3]) rfl ⟨rfl, HB4⟩
set_option maxRecDepth 100000 in
set_option maxHeartbeats 4000000 in
theorem xProduct (m : Int) (sl : Option Addr) (gb go cap : Nat) (ns : List Int) (w : World) (hns : ns.length ≤ 50) (hm : In m) (h : m ≠ 0) (hn : Hid (∀ k, k < ns.length → In (ns.getD k 0))) (hix : Hid (∀ j, j < ns.length → ∀ W, (Instr.indexAt 39 (.slice sl ns.length cap) (.int .i64 j)).run Try.prog W = .ok (.pointer (some ⟨gb, go + 4 * j, none⟩)) W)) (hg : ns.length = 0 ∨ gb < w.heap.size) (hS : Hid (SN w gb go ns)) :
    Calls Try.prog 29 #[NV m, .slice sl ns.length cap] w fun e w' => e = .returned (.tuple #[NV (gat (fun a b => (a * b) % m) (1 % m) ns ns.length), .int .i64 0]) ∧ Below w.heap.size w w' := by
  have hI : Hid (∀ k, k ≤ ns.length → In (gat (fun a b => (a * b) % m) (1 % m) ns k)) := gat_In (In_mod hm h) (fun a b ha hb => In_mod hm h) hn.out
  go_enter Try.func29, Try.ntmps29
  go_upto_region 1 with fail
  generalize hC : ((w.alloc (.cells (LN m : List Value).toArray 25)).alloc (.cells (L0s : List Value).toArray 25)) = v0 at *
  have HB0 : Below w.heap.size w v0 := by rw [← hC]; exact balloc (balloc (bself w) _) _
  have K0 : Bk w.heap.size v0 [(true, w.heap.size, LN m), (true, w.heap.size + 1, L0s)] := by rw [← hC]; exact (Bk.nil _ w).ad.ad
  clear hC
  refine rgP K0 HB0 HB0.size [] [(6, 6, L0s, some (7, LN (1 % m)))] [(0, 10, WV 1), (1, 11, NV m), (2, 12, .tuple #[NV (1 % m), .int .i64 0]), (3, 9, .tuple #[NV (1 % m), .int .i64 0]), (4, 13, NV (1 % m)), (5, 14, .int .i64 0), (8, 7, .int .i64 0)] [(7, 6)] [] [] ?_ ?_
  · refine oc (g_bd (fun uZ => bdw1' uZ)) ?_
    refine oc (g_ld 0 uN iN) ?_
    refine oc (g_cl ent_seneschalref02_Reduce (fun uZ => xReduce 1 m uZ In_1.wide hm h)) ?_
    refine oc g_mv ?_
    refine oc g_ex ?_
    refine oc g_ex ?_
    refine oc (g_al 0 aN) ?_
    refine oc (g_sn 0 iN) ?_
    exact oc g_as on
  intro u1 b1_6 HB1 sz1 K1
  simp only [fX, nK, nP, Wr.f, aK, pM] at K1
  simp only [setG, setN, List.set_cons_zero, List.set_cons_succ]
  clear K0 HB0
  go_upto_region 2 with fail
  refine rgP K1 HB1 HB1.size [] [] [(0, 8, (Go.Value.int Go.IntKind.i64 0))] [] [] [] ?_ ?_
  · exact oc g_as on
  intro u2 HB2 sz2 K2
  simp only [fX, nK, nP, Wr.f, aK, pM] at K2
  simp only [setG, setN, List.set_cons_zero, List.set_cons_succ]
  clear K1 HB1
  go_wp2_with fail
  go_loopw [7, 8] (fun s7 s8 wr => ∃ (k : Nat), k ≤ ns.length ∧ s7 = .int .i64 0 ∧ s8 = .int .i64 (k : Int) ∧ Below w.heap.size w wr ∧ CV wr (w.heap.size) (LN m) ∧ CV wr (w.heap.size + 1) L0s ∧ CV wr b1_6 (LN (gat (fun a b => (a * b) % m) (1 % m) ns k)) ∧ b1_6 < wr.heap.size ∧ w.heap.size + 1 < wr.heap.size) (fun _ s8 _ => ns.length - (intOf s8).toNat)
  case atStart => exact ⟨0, by omega, rfl, rfl, HB2, (K2.cv 0), (K2.cv 1), (K2.cv 2), (K2.lt 2), (K2.lt 1)⟩
  case round =>
    obtain ⟨k, hk, rfl, rfl, HBr, Km, Kr, Kg, lg, lr⟩ := hrel
    clear HB2
    have hnK := K2.n
    simp at hnK
    have hoK2 := K2.lo 2
    by_cases hj : k < ns.length
    · have hl : decide ((k : Int) < (ns.length : Int)) = true := by simp; omega
      have ik := hI.out k hk
      have iy := hn.out k hj
      have hX := hix.out k hj
      have hX : Hid _ := hX
      have hR := hS.out.at k hj
      have hR : Hid _ := hR
      have hlen : (k : Int) < 1000 := by omega
      obtain ⟨y, ey⟩ : ∃ y, ns.getD k 0 = y := ⟨_, rfl⟩
      obtain ⟨z, ez⟩ : ∃ z, gat (fun a b => (a * b) % m) (1 % m) ns k = z := ⟨_, rfl⟩
      rw [ey] at iy hR
      rw [ez] at ik Kg
      have EY : Hid _ := ey
      have EZ : Hid _ := ez
      clear ey ez
      have K2_1 : Bk w.heap.size wr [(false, w.heap.size, LN m), (false, w.heap.size + 1, L0s), (true, b1_6, LN z)] := ⟨.c (by omega) Km <| .c lr Kr <| .o lg (K2.lo 2) Kg <| trivial, by simp; omega⟩
      go_upto_region 3 with fail
      refine rgP K2_1 HBr HBr.size [] [] [(0, 15, .int .i64 (k : Int)), (1, 16, .slice sl ns.length cap), (2, 17, .int .i64 (ns.length : Int)), (3, 18, .bool true), (4, 19, .bool true), (5, 20, .int .i64 0), (6, 21, .bool true), (7, 22, .bool true)] [] [] [] ?_ ?_
      · refine oc g_mv ?_
        refine oc g_mv ?_
        refine oc (g_ln Try.underlying39) ?_
        refine oc (g_bn (fun uZ => lss_i _ _ (k : Int) (ns.length : Int) _ uZ hl)) ?_
        refine oc g_mv ?_
        refine oc g_mv ?_
        refine oc (g_bn (fun uZ => eql_i _ _ _ 0 0 _ uZ rfl)) ?_
        exact oc g_pk on
      intro u3 HB3 sz3 K3
      simp only [fX, nK, nP, Wr.f, aK, pM] at K3
      simp only [setG, setN, List.set_cons_zero, List.set_cons_succ]
      go_upto_region 5 with fail
      refine rgD K3 HB3 HB3.size [.no, .no, .all 10 (LN ((z * y) % m))] [] [(0, 26, NV z), (1, 27, .slice sl ns.length cap), (2, 28, .int .i64 (k : Int)), (3, 29, .pointer (some ⟨gb, go + 4 * k, none⟩)), (4, 30, NV y), (5, 31, NV m), (6, 32, .tuple #[NV ((z * y) % m), .int .i64 0]), (7, 25, .tuple #[NV ((z * y) % m), .int .i64 0]), (8, 33, NV ((z * y) % m)), (9, 34, .int .i64 0), (11, 7, .int .i64 0)] [(10, 0)] [] [] ?_ ?_
      · refine oc (g_ld 2 uN iN) ?_
        refine oc g_mv ?_
        refine oc g_mv ?_
        refine oc (g_ix (fun uZ => hX.out uZ)) ?_
        refine oc (g_lf hR.out (hg.resolve_left (by omega)) uN iN) ?_
        refine oc (g_ld 0 uN iN) ?_
        refine oc (g_cl ent_seneschalref02_Mul (fun uZ => xMul z y m uZ ik iy hm h)) ?_
        refine oc g_mv ?_
        refine oc g_ex ?_
        refine oc g_ex ?_
        refine oc (g_st 2 iN) ?_
        exact oc g_as on
      intro u4 HB4 sz4 K4
      simp only [fX, nK, nP, Wr.f, aK, pM] at K4
      simp only [setG, setN, List.set_cons_zero, List.set_cons_succ]
      clear K3 HB3
      go_upto_region 4 with fail
      refine rgP K4 HB4 HB4.size [] [] [(0, 23, .int .i64 (k : Int)), (1, 24, .int .i64 ((k + 1 : Nat) : Int)), (2, 8, .int .i64 ((k + 1 : Nat) : Int))] [(2, 0)] [(2, 8)] [] ?_ ?_
      · refine oc g_mv ?_
        refine oc (g_bn (fun uZ => add_i _ _ (k : Int) 1 ((k + 1 : Nat) : Int) uZ (by omega) (by omega) (by omega))) ?_
        exact oc g_as on
      intro u5 HB5 sz5 K5
      simp only [fX, nK, nP, Wr.f, aK, pM] at K5
      simp only [setG, setN, List.set_cons_zero, List.set_cons_succ]
      clear K4 HB4
      go_wp2
      refine ⟨⟨k + 1, by omega, rfl, rfl, HB5, (K5.cv 0), (K5.cv 1), by rw [gat, EY.out, EZ.out]; exact (K5.cv 2), (K5.lt 2), (K5.lt 1)⟩, ?_⟩
      simp [intOf] <;> omega
    · have hl : decide ((k : Int) < (ns.length : Int)) = false := by simp; omega
      have hkn : k = ns.length := by omega
      have K2_1 : Bk w.heap.size wr [(false, w.heap.size, LN m), (true, w.heap.size + 1, L0s), (false, b1_6, LN (gat (fun a b => (a * b) % m) (1 % m) ns k))] := ⟨.c (by omega) Km <| .o lr (K2.lo 1) Kr <| .c lg Kg <| trivial, by simp; omega⟩
      go_upto_region 3 with fail
      refine rgP K2_1 HBr HBr.size [] [] [(0, 15, .int .i64 (k : Int)), (1, 16, .slice sl ns.length cap), (2, 17, .int .i64 (ns.length : Int)), (3, 18, .bool false), (4, 19, .bool false), (5, 20, undef), (6, 21, undef), (7, 22, (Go.Value.bool Bool.false))] [] [] [false] ?_ ?_
      · refine oc g_mv ?_
        refine oc g_mv ?_
        refine oc (g_ln Try.underlying39) ?_
        refine oc (g_bn (fun uZ => lss_i _ _ (k : Int) (ns.length : Int) _ uZ hl)) ?_
        refine oc g_mv ?_
        refine oc g_sk ?_
        refine oc g_sk ?_
        exact oc g_pk on
      intro u3 HB3 sz3 K3
      simp only [fX, nK, nP, Wr.f, aK, pM] at K3
      simp only [setG, setN, List.set_cons_zero, List.set_cons_succ]
      go_upto_region 6 with fail
      refine rgP K3 HB3 HB3.size [.all 2 (LN (gat (fun a b => (a * b) % m) (1 % m) ns k))] [] [(0, 35, NV (gat (fun a b => (a * b) % m) (1 % m) ns k)), (1, 36, .int .i64 0), (3, 5, .int .i64 0)] [] [] [true, false] ?_ ?_
      · refine oc (g_ld 1 uN iN) ?_
        refine oc g_mv ?_
        refine oc (g_st 0 iN) ?_
        exact oc g_as on
      intro u4 HB4 sz4 K4
      simp only [fX, nK, nP, Wr.f, aK, pM] at K4
      simp only [setG, setN, List.set_cons_zero, List.set_cons_succ]
      clear K3 HB3
      have c4_0 := ((K4.cv 0) 0 _ rfl).1
      have c4_1 := ((K4.cv 0) 1 _ rfl).1
      have c4_2 := ((K4.cv 0) 2 _ rfl).1
      have c4_3 := ((K4.cv 0) 3 _ rfl).1
      go_wp2
      refine bodyPost_ret (v := .tuple #[NV (gat (fun a b => (a * b) % m) (1 % m) ns k), .int .i64 0]) (by simp [results, Try.results29, go_sem, c4_0, c4_1, c4_2, c4_3]) rfl ⟨by rw [hkn], HB4⟩
set_option maxRecDepth 100000 in
set_option maxHeartbeats 4000000 in
theorem xProduct0 (sl : Option Addr) (n cap : Nat) (w : World) :
    Calls Try.prog 29 #[A4 0 0 0 0, .slice sl n cap] w fun e w' => e = .returned (.tuple #[A4 0 0 0 0, .int .i64 20]) ∧ Below w.heap.size w w' := by
  go_enter Try.func29, Try.ntmps29
  go_upto_region 1 with fail
  generalize hC : ((w.alloc (.cells ([.int .u64 (0), .int .u64 (0), .int .u64 (0), .int .u64 (0)] : List Value).toArray 25)).alloc (.cells (L0s : List Value).toArray 25)) = v0 at *
  have HB0 : Below w.heap.size w v0 := by rw [← hC]; exact balloc (balloc (bself w) _) _
  have K0 : Bk w.heap.size v0 [(true, w.heap.size, [.int .u64 (0), .int .u64 (0), .int .u64 (0), .int .u64 (0)]), (true, w.heap.size + 1, L0s)] := by rw [← hC]; exact (Bk.nil _ w).ad.ad
  clear hC
  refine rgP K0 HB0 HB0.size [] [(6, 6, L0s, some (7, [.int .u64 (0), .int .u64 (0), .int .u64 (0), .int .u64 (0)]))] [(0, 10, WV 1), (1, 11, .agg #[.int .u64 (0), .int .u64 (0), .int .u64 (0), .int .u64 (0)]), (2, 12, .tuple #[A4 (0) (0) (0) (0), .int .i64 20]), (3, 9, .tuple #[A4 (0) (0) (0) (0), .int .i64 20]), (4, 13, A4 (0) (0) (0) (0)), (5, 14, .int .i64 20), (8, 7, .int .i64 20)] [(7, 6)] [] [false] ?_ ?_
  · refine oc (g_bd (fun uZ => bdw1' uZ)) ?_
    refine oc (g_ld 0 uN iN) ?_
    refine oc (g_cl ent_seneschalref02_Reduce (fun uZ => xReduce0 1 uZ)) ?_
    refine oc g_mv ?_
    refine oc g_ex ?_
    refine oc g_ex ?_
    refine oc (g_al 0 aN) ?_
    refine oc (g_sn 0 iN) ?_
    exact oc g_as on
  intro u1 b1_6 HB1 sz1 K1
  simp only [fX, nK, nP, Wr.f, aK, pM] at K1
  simp only [setG, setN, List.set_cons_zero, List.set_cons_succ]
  clear K0 HB0
  go_upto_region 2 with fail
  refine rgP K1 HB1 HB1.size [] [] [(0, 8, (Go.Value.int Go.IntKind.i64 0))] [] [] [] ?_ ?_
  · exact oc g_as on
  intro u2 HB2 sz2 K2
  simp only [fX, nK, nP, Wr.f, aK, pM] at K2
  simp only [setG, setN, List.set_cons_zero, List.set_cons_succ]
  clear K1 HB1
  go_wp2_with fail
  go_loopw [7, 8] (fun s7 s8 wr => s7 = .int .i64 20 ∧ s8 = .int .i64 0 ∧ Below w.heap.size w wr ∧ CV wr (w.heap.size + 1) L0s ∧ CV wr b1_6 L0s ∧ b1_6 < wr.heap.size ∧ w.heap.size + 1 < wr.heap.size) (fun _ _ _ => 0)
  case atStart => exact ⟨rfl, rfl, HB2, (K2.cv 0), (K2.cv 1), (K2.lt 1), (K2.lt 0)⟩
  case round =>
    obtain ⟨rfl, rfl, HBr, Kr, Kg, lg, lr⟩ := hrel
    clear HB2
    have hnK := K2.n
    simp at hnK
    have hoK1 := K2.lo 1
    by_cases hj : 0 < n
    · have hl : decide ((0 : Int) < (n : Int)) = true := by simp; omega
      have K2_1 : Bk w.heap.size wr [(true, w.heap.size + 1, L0s), (false, b1_6, L0s)] := ⟨.o lr (K2.lo 0) Kr <| .c lg Kg <| trivial, by simp; omega⟩
      go_upto_region 3 with fail
      refine rgP K2_1 HBr HBr.size [] [] [(0, 15, .int .i64 0), (1, 16, .slice sl n cap), (2, 17, .int .i64 (n : Int)), (3, 18, .bool true), (4, 19, .bool true), (5, 20, .int .i64 20), (6, 21, .bool false), (7, 22, .bool false)] [] [] [] ?_ ?_
      · refine oc g_mv ?_
        refine oc g_mv ?_
        refine oc (g_ln Try.underlying39) ?_
        refine oc (g_bn (fun uZ => lss_i _ _ 0 (n : Int) _ uZ hl)) ?_
        refine oc g_mv ?_
        refine oc g_mv ?_
        refine oc (g_bn (fun uZ => eql_i _ _ _ 20 0 _ uZ rfl)) ?_
        exact oc g_pk on
      intro u3 HB3 sz3 K3
      simp only [fX, nK, nP, Wr.f, aK, pM] at K3
      simp only [setG, setN, List.set_cons_zero, List.set_cons_succ]
      go_upto_region 6 with fail
      refine rgP K3 HB3 HB3.size [.all 2 ([.int .u64 (0), .int .u64 (0), .int .u64 (0), .int .u64 (0)])] [] [(0, 35, A4 (0) (0) (0) (0)), (1, 36, .int .i64 20), (3, 5, .int .i64 20)] [] [] [true, false] ?_ ?_
      · refine oc (g_ld 1 uN iN) ?_
        refine oc g_mv ?_
        refine oc (g_st 0 iN) ?_
        exact oc g_as on
      intro u4 HB4 sz4 K4
      simp only [fX, nK, nP, Wr.f, aK, pM] at K4
      simp only [setG, setN, List.set_cons_zero, List.set_cons_succ]
      clear K3 HB3
      have c4_0 := ((K4.cv 0) 0 _ rfl).1
      have c4_1 := ((K4.cv 0) 1 _ rfl).1
      have c4_2 := ((K4.cv 0) 2 _ rfl).1
      have c4_3 := ((K4.cv 0) 3 _ rfl).1
      go_wp2
      refine bodyPost_ret (v := .tuple #[A4 0 0 0 0, .int .i64 20]) (by simp [results, Try.results29, go_sem, c4_0, c4_1, c4_2, c4_3]) rfl ⟨rfl, HB4⟩
    · have hl : decide ((0 : Int) < (n : Int)) = false := by simp; omega
      have K2_1 : Bk w.heap.size wr [(true, w.heap.size + 1, L0s), (false, b1_6, L0s)] := ⟨.o lr (K2.lo 0) Kr <| .c lg Kg <| trivial, by simp; omega⟩
      go_upto_region 3 with fail
      refine rgP K2_1 HBr HBr.size [] [] [(0, 15, .int .i64 0), (1, 16, .slice sl n cap), (2, 17, .int .i64 (n : Int)), (3, 18, .bool false), (4, 19, .bool false), (5, 20, undef), (6, 21, undef), (7, 22, (Go.Value.bool Bool.false))] [] [] [] ?_ ?_
      · refine oc g_mv ?_
        refine oc g_mv ?_
        refine oc (g_ln Try.underlying39) ?_
        refine oc (g_bn (fun uZ => lss_i _ _ 0 (n : Int) _ uZ hl)) ?_
        refine oc g_mv ?_
        refine oc g_sk ?_
        refine oc g_sk ?_
        exact oc g_pk on
      intro u3 HB3 sz3 K3
      simp only [fX, nK, nP, Wr.f, aK, pM] at K3
      simp only [setG, setN, List.set_cons_zero, List.set_cons_succ]
      go_upto_region 6 with fail
      refine rgP K3 HB3 HB3.size [.all 2 ([.int .u64 (0), .int .u64 (0), .int .u64 (0), .int .u64 (0)])] [] [(0, 35, A4 (0) (0) (0) (0)), (1, 36, .int .i64 20), (3, 5, .int .i64 20)] [] [] [true, false] ?_ ?_
      · refine oc (g_ld 1 uN iN) ?_
        refine oc g_mv ?_
        refine oc (g_st 0 iN) ?_
        exact oc g_as on
      intro u4 HB4 sz4 K4
      simp only [fX, nK, nP, Wr.f, aK, pM] at K4
      simp only [setG, setN, List.set_cons_zero, List.set_cons_succ]
      clear K3 HB3
      have c4_0 := ((K4.cv 0) 0 _ rfl).1
      have c4_1 := ((K4.cv 0) 1 _ rfl).1
      have c4_2 := ((K4.cv 0) 2 _ rfl).1
      have c4_3 := ((K4.cv 0) 3 _ rfl).1
      go_wp2
      refine bodyPost_ret (v := .tuple #[A4 0 0 0 0, .int .i64 20]) (by simp [results, Try.results29, go_sem, c4_0, c4_1, c4_2, c4_3]) rfl ⟨rfl, HB4⟩
end Go.Proofs.Ytkpnjmfndgfogaa
