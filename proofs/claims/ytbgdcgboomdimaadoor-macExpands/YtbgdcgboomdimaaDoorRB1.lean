/- The reference's small functions. -/
import Derived.Test.YtbgdcgboomdimaaDoorRB0
namespace Go.Proofs.YtbgdcgboomdimaaDoor
open Go.RowKit
set_option linter.unusedVariables false
set_option linter.unusedSimpArgs false
theorem ent_seneschalref04_wrap (vs : Array Value) (w : World) : (callFunc 49 vs).run Tryd.prog w = .ok (.enter 49 vs) w := by kernel_rfl
theorem ent_seneschalref04_right (vs : Array Value) (w : World) : (callFunc 48 vs).run Tryd.prog w = .ok (.enter 48 vs) w := by kernel_rfl
theorem ent_seneschalref04_turn (vs : Array Value) (w : World) : (callFunc 47 vs).run Tryd.prog w = .ok (.enter 47 vs) w := by kernel_rfl
theorem ent_seneschalref04_Constants (vs : Array Value) (w : World) : (callFunc 50 vs).run Tryd.prog w = .ok (.enter 50 vs) w := by kernel_rfl
theorem ent_seneschalref04_Block (vs : Array Value) (w : World) : (callFunc 23 vs).run Tryd.prog w = .ok (.enter 23 vs) w := by kernel_rfl
set_option maxRecDepth 100000 in
set_option maxHeartbeats 4000000 in
theorem cWrap (x : Nat) (w : World) (hx : x < 18446744073709551616) : Calls Tryd.prog 49 #[.int .u64 ((x : Nat) : Int)] w fun e w' => e = .returned (.int .u64 ((x % 4294967296 : Nat) : Int)) ∧ Below w.heap.size w w' := by
  go_enter Tryd.func49, Tryd.ntmps49
  have HB0 : Below w.heap.size w w := Below.refl _ _
  have K0_1 := Bk.nil (w.heap.size) w
  go_upto_region 1 with fail
  refine rgP K0_1 HB0 HB0.size [] [] [(0, 3, .int .u64 ((x : Nat) : Int)), (1, 4, .int .u64 ((x % 4294967296 : Nat) : Int)), (2, 2, .int .u64 ((x % 4294967296 : Nat) : Int))] [] [] [] ?_ ?_
  · refine oc g_mv ?_
    refine oc (g_bn (fun uZ => rem64 _ _ x 4294967296 uZ hx (by decide))) ?_
    exact oc g_as on
  intro u1 HB1 sz1 K1
  simp only [fX, nK, nP, Wr.f, aK, pM] at K1
  simp only [setG, setN, List.set_cons_zero, List.set_cons_succ]
  clear HB0
  go_wp2
  refine bodyPost_ret (v := .int .u64 ((x % 4294967296 : Nat) : Int)) (by simp [results, Tryd.results49, go_sem, ]) rfl ⟨rfl, HB1⟩
set_option maxRecDepth 100000 in
set_option maxHeartbeats 4000000 in
theorem cRightR (x n : Nat) (w : World) (hn : n ≤ 64) : Calls Tryd.prog 48 #[.int .u64 ((x : Nat) : Int), .int .i64 ((n : Nat) : Int)] w fun e w' => e = .returned (.int .u64 ((x >>> n : Nat) : Int)) ∧ Below w.heap.size w w' := by
  go_enter Tryd.func48, Tryd.ntmps48
  have HB0 : Below w.heap.size w w := Below.refl _ _
  have K0_1 := Bk.nil (w.heap.size) w
  go_upto_region 1 with fail
  refine rgP K0_1 HB0 HB0.size [] [] [(0, 5, .int .u64 ((x : Nat) : Int)), (1, 6, .int .i64 ((n : Nat) : Int)), (2, 7, .int .u64 ((x >>> n : Nat) : Int)), (3, 4, .int .u64 ((x >>> n : Nat) : Int))] [] [] [] ?_ ?_
  · refine oc g_mv ?_
    refine oc g_mv ?_
    refine oc (g_bn (fun uZ => shr64i _ _ x n uZ (by omega))) ?_
    exact oc g_as on
  intro u1 HB1 sz1 K1
  simp only [fX, nK, nP, Wr.f, aK, pM] at K1
  simp only [setG, setN, List.set_cons_zero, List.set_cons_succ]
  clear HB0
  go_wp2
  refine bodyPost_ret (v := .int .u64 ((x >>> n : Nat) : Int)) (by simp [results, Tryd.results48, go_sem, ]) rfl ⟨rfl, HB1⟩
set_option maxRecDepth 100000 in
set_option maxHeartbeats 4000000 in
theorem cTurn_core (x n y z : Nat) (w : World) (hn : n ≤ 32) (hy : (x <<< (32 - n)) % 18446744073709551616 = y) (hy2 : y < 18446744073709551616) (hz : x >>> n + y % 4294967296 = z) (hz2 : z < 18446744073709551616) : Calls Tryd.prog 47 #[.int .u64 ((x : Nat) : Int), .int .i64 ((n : Nat) : Int)] w fun e w' => e = .returned (.int .u64 ((z : Nat) : Int)) ∧ Below w.heap.size w w' := by
  go_enter Tryd.func47, Tryd.ntmps47
  have HB0 : Below w.heap.size w w := Below.refl _ _
  have K0_1 := Bk.nil (w.heap.size) w
  go_upto_region 1 with fail
  refine rgD K0_1 HB0 HB0.size [] [] [(0, 5, .int .u64 ((x : Nat) : Int)), (1, 6, .int .i64 ((n : Nat) : Int)), (2, 7, .int .u64 ((x >>> n : Nat) : Int)), (3, 8, .int .u64 ((x : Nat) : Int)), (4, 9, .int .i64 ((n : Nat) : Int)), (5, 10, .int .i64 ((32 - n : Nat) : Int)), (6, 11, .int .u64 ((y : Nat) : Int)), (7, 12, .int .u64 ((y % 4294967296 : Nat) : Int)), (8, 13, .int .u64 ((z : Nat) : Int)), (9, 4, .int .u64 ((z : Nat) : Int))] [] [] [] ?_ ?_
  · refine oc g_mv ?_
    refine oc g_mv ?_
    refine oc (g_bn (fun uZ => shr64i _ _ x n uZ (by omega))) ?_
    refine oc g_mv ?_
    refine oc g_mv ?_
    refine oc (g_bn (fun uZ => sub_i _ _ 32 (n : Int) ((32 - n : Nat) : Int) uZ (by omega) (by omega) (by omega))) ?_
    refine oc (g_bn (fun uZ => (shl64i _ _ x (32 - n) uZ (by omega)).trans (by rw [hy]))) ?_
    refine oc (g_cl ent_seneschalref04_wrap (fun uZ => cWrap y uZ hy2)) ?_
    refine oc (g_bn (fun uZ => add64 _ _ (x >>> n) (y % 4294967296) z uZ hz hz2)) ?_
    exact oc g_as on
  intro u1 HB1 sz1 K1
  simp only [fX, nK, nP, Wr.f, aK, pM] at K1
  simp only [setG, setN, List.set_cons_zero, List.set_cons_succ]
  clear HB0
  go_wp2
  refine bodyPost_ret (v := .int .u64 ((z : Nat) : Int)) (by simp [results, Tryd.results47, go_sem, ]) rfl ⟨rfl, HB1⟩
theorem cWrapE (x y : Nat) (w : World) (hx : x < 18446744073709551616) (h : x % 4294967296 = y) : Calls Tryd.prog 49 #[.int .u64 ((x : Nat) : Int)] w fun e w' => e = .returned (.int .u64 ((y : Nat) : Int)) ∧ Below w.heap.size w w' := by
  subst h; exact cWrap x w hx
theorem ixU0 (g n cap j : Nat) (h : j < n) (w : World) : (Instr.indexAt 60 (.slice (some ⟨g, 0, none⟩) n cap) (.int .i64 j)).run Tryd.prog w = .ok (.pointer (some ⟨g, j, none⟩)) w := by
  have := ixU g 0 n cap j h w
  rwa [Nat.zero_add] at this
theorem cTurn (x n : Nat) (w : World) (hx : x < M32) (hn : n ≤ 32) : Calls Tryd.prog 47 #[.int .u64 ((x : Nat) : Int), .int .i64 ((n : Nat) : Int)] w fun e w' => e = .returned (.int .u64 ((rotr x n : Nat) : Int)) ∧ Below w.heap.size w w' := by
  have e : (x <<< (32 - n)) % 18446744073709551616 = x <<< (32 - n) := Nat.mod_eq_of_lt (by
    rw [Nat.shiftLeft_eq]
    have h1 : 2 ^ (32 - n) ≤ 2 ^ 32 := Nat.pow_le_pow_right (by decide) (by omega)
    have h2 : x * 2 ^ (32 - n) ≤ x * 2 ^ 32 := Nat.mul_le_mul_left _ h1
    have h3 : x < 4294967296 := hx
    omega)
  have hr := rotr_lt (n := n) hx
  exact cTurn_core x n (x <<< (32 - n)) (rotr x n) w hn e (by rw [← e]; exact Nat.mod_lt _ (by decide)) (rotr_add x n hx hn) (Nat.lt_trans hr (by decide))
set_option maxRecDepth 100000 in
set_option maxHeartbeats 4000000 in
theorem cConstants (w : World) : Calls Tryd.prog 50 #[] w fun e w' => ∃ v, e = .returned v ∧ PS w.heap.size 64 (U64 kcs) w' v ∧ Below w.heap.size w w' := by
  go_enter Tryd.func50, Tryd.ntmps50
  have HB0 : Below w.heap.size w w := Below.refl _ _
  have K0_1 := Bk.nil (w.heap.size) w
  go_upto_region 1 with fail
  refine rgF K0_1 HB0 HB0.size [] [] [] [] [] [⟨0, 1, some 1, PS w.heap.size 64 (U64 kcs)⟩, ⟨1, 0, none, PS w.heap.size 64 (U64 kcs)⟩] [] (.cons (fun _ _ _ h1 h2 => h2.stab h1) <| .cons (fun _ _ _ h1 h2 => h2.stab h1) <| Stab.nil) ?_ ?_
  · refine oc (g_bR 0 (PS w.heap.size 64 (U64 kcs)) [0, 1, 2, 3, 4, 5, 6, 7, 8, 9, 10, 11, 12, 13, 14, 15, 16, 17, 18, 19, 20, 21, 22, 23, 24, 25, 26, 27, 28, 29, 30, 31, 32, 33, 34, 35, 36, 37, 38, 39, 40, 41, 42, 43, 44, 45, 46, 47, 48, 49, 50, 51, 52, 53, 54, 55, 56, 57, 58, 59, 60, 61, 62, 63] [.int .u64 1116352408, .int .u64 1899447441, .int .u64 3049323471, .int .u64 3921009573, .int .u64 961987163, .int .u64 1508970993, .int .u64 2453635748, .int .u64 2870763221, .int .u64 3624381080, .int .u64 310598401, .int .u64 607225278, .int .u64 1426881987, .int .u64 1925078388, .int .u64 2162078206, .int .u64 2614888103, .int .u64 3248222580, .int .u64 3835390401, .int .u64 4022224774, .int .u64 264347078, .int .u64 604807628, .int .u64 770255983, .int .u64 1249150122, .int .u64 1555081692, .int .u64 1996064986, .int .u64 2554220882, .int .u64 2821834349, .int .u64 2952996808, .int .u64 3210313671, .int .u64 3336571891, .int .u64 3584528711, .int .u64 113926993, .int .u64 338241895, .int .u64 666307205, .int .u64 773529912, .int .u64 1294757372, .int .u64 1396182291, .int .u64 1695183700, .int .u64 1986661051, .int .u64 2177026350, .int .u64 2456956037, .int .u64 2730485921, .int .u64 2820302411, .int .u64 3259730800, .int .u64 3345764771, .int .u64 3516065817, .int .u64 3600352804, .int .u64 4094571909, .int .u64 275423344, .int .u64 430227734, .int .u64 506948616, .int .u64 659060556, .int .u64 883997877, .int .u64 958139571, .int .u64 1322822218, .int .u64 1537002063, .int .u64 1747873779, .int .u64 1955562222, .int .u64 2024104815, .int .u64 2227730452, .int .u64 2361852424, .int .u64 2428436474, .int .u64 2756734187, .int .u64 3204031479, .int .u64 3329325298] (U64 kcs) (e := 27) (fun w => by kernel_rfl) (fun u hu => PS.new 64 _ _ u (Nat.le_trans HB0.size hu))) ?_
    exact oc (g_sE 0 1 (PS w.heap.size 64 (U64 kcs))) on
  intro u1 v1_0 hv1_0 v1_1 hv1_1 HB1 sz1 K1
  simp only [fX, nK, nP, Wr.f, aK, pM] at K1
  simp only [setG, setN, setE, List.set_cons_zero, List.set_cons_succ]
  clear HB0
  have hz := hv1_1 rfl
  go_wp2
  refine bodyPost_ret (v := v1_1) (by simp [results, Tryd.results50, go_sem]) rfl ⟨_, rfl, hz, HB1⟩
end Go.Proofs.YtbgdcgboomdimaaDoor
