/- AES: what is begun with, and blocks that are encrypted. -/
import Derived.Test.YtlcjbnhfmcnnfaaDoorAE8
namespace Go.Proofs.YtlcjbnhfmcnnfaaDoor
open Go.RowKit
set_option linter.unusedVariables false
set_option linter.unusedSimpArgs false
theorem neq_e (p q : Operand) (x y : Int) (b : Bool) (w : World) (h : decide (x ≠ y) = b) : (do eqGuard .neq 29 p q (.int .i64 x) (.int .i64 y); binOp .neq 29 (.int .i64 x) (.int .i64 y) : Sem Value).run Tryd.prog w = .ok (.bool b) w := by
  subst h; go_simp
  all_goals first | rfl | (by_cases h : x = y <;> simp [h])
theorem bdK0 (w : World) : (Instr.build 33 ([] : List (Nat × Value)).toArray).run Tryd.prog w = .ok (.agg (U8 z176).toArray) w := by kernel_rfl
theorem bdB0 (w : World) : (Instr.build 32 ([] : List (Nat × Value)).toArray).run Tryd.prog w = .ok (.agg (U8 z16).toArray) w := by kernel_rfl
theorem ap16 (ad : Addr) (c : Nat) (w : World) : (Instr.arrayAt 32 (.slice (some ad) 16 c)).run Tryd.prog w = .ok (.pointer (some ad)) w := by
  kernel_rfl
set_option maxRecDepth 100000 in
set_option maxHeartbeats 4000000 in
theorem cBegun_k (vk vb : Value) (w : World) (hz176 : z176.length = 176) (hK : Hid (∀ u, Below w.heap.size w u → Calls Tryd.prog 19 #[vk] u fun e w' => e = .returned (.tuple #[.agg (U8 z176).toArray, .int .i64 2]) ∧ Below u.heap.size u w')) (hz16 : z16.length = 16)  :
    Calls Tryd.prog 23 #[vk, vb] w fun e w' => e = .returned (.tuple #[.agg (U8 (z176)).toArray, .agg (U8 (z16)).toArray, .int .i64 2]) ∧ Below w.heap.size w w' := by
  go_enter Tryd.func23, Tryd.ntmps23
  have HB0 : Below w.heap.size w w := Below.refl _ _
  have K0_1 := Bk.nil (w.heap.size) w
  go_upto_region 0 with fail
  refine rgP K0_1 HB0 HB0.size [] [(0, 4, U8 (z176), none), (1, 5, U8 (z16), none)] [(2, 6, (Go.Value.int Go.IntKind.i64 0))] [] [] [] ?_ ?_
  · refine oc (g_al 0 al__11__16_uint8) ?_
    refine oc (g_al 1 al__16_uint8) ?_
    exact oc g_as on
  intro u1 b1_0 b1_1 HB1 sz1 K1
  simp only [fX, nK, nP, Wr.f, aK, pM] at K1
  simp only [setG, setN, List.set_cons_zero, List.set_cons_succ]
  clear HB0
  go_upto_region 1 with fail
  refine rgP K1 HB1 HB1.size [] [(5, 7, U8 (z176), some (6, U8 (z176)))] [(0, 10, vk), (1, 11, .tuple #[.agg (U8 (z176)).toArray, .int .i64 2]), (2, 9, .tuple #[.agg (U8 (z176)).toArray, .int .i64 2]), (3, 12, .agg (U8 (z176)).toArray), (4, 13, .int .i64 2), (7, 8, .int .i64 2)] [(6, 5)] [] [true, true, false] ?_ ?_
  · refine oc g_mv ?_
    refine oc (g_cb ent_aes_Keys (fun uZ bZ => hK.out uZ bZ)) ?_
    refine oc g_mv ?_
    refine oc g_ex ?_
    refine oc g_ex ?_
    refine oc (g_al 0 al__11__16_uint8) ?_
    refine oc (g_sn 0 info__11__16_uint8 (h1 := U8_one _) (hm := by rw [U8_len, hz176]) (hl := by first | rw [U8_len, U8_len, hz176, show z176.length = 176 from hz176] | rfl)) ?_
    exact oc g_as on
  intro u2 b2_5 HB2 sz2 K2
  simp only [fX, nK, nP, Wr.f, aK, pM] at K2
  simp only [setG, setN, List.set_cons_zero, List.set_cons_succ]
  clear K1 HB1
  go_upto_region 2 with fail
  refine rgP K2 HB2 HB2.size [] [] [(0, 14, .int .i64 2), (1, 15, .bool true), (2, 16, .bool true), (3, 17, undef), (4, 18, undef), (5, 19, undef), (6, 20, (Go.Value.bool Bool.true))] [] [] [] ?_ ?_
  · refine oc g_mv ?_
    refine oc (g_bn (fun uZ => neq_e _ _ 2 0 true uZ (by decide))) ?_
    refine oc g_mv ?_
    refine oc g_sk ?_
    refine oc g_sk ?_
    refine oc g_sk ?_
    exact oc g_pk on
  intro u3 HB3 sz3 K3
  simp only [fX, nK, nP, Wr.f, aK, pM] at K3
  simp only [setG, setN, List.set_cons_zero, List.set_cons_succ]
  clear K2 HB2
  go_upto_region 3 with fail
  refine rgP K3 HB3 HB3.size [.all 2 (U8 (z176)), .all 3 (U8 (z16))] [] [(0, 21, .agg (U8 (z176)).toArray), (1, 22, .agg (U8 (z16)).toArray), (4, 6, (Go.Value.int Go.IntKind.i64 2))] [] [] [] ?_ ?_
  · refine oc (g_bd (fun uZ => bdK0 uZ)) ?_
    refine oc (g_bd (fun uZ => bdB0 uZ)) ?_
    refine oc (g_st 0 info__11__16_uint8 (h1 := U8_one _) (hm := by rw [U8_len, hz176]) (hl := by first | rw [U8_len, U8_len, hz176, show z176.length = 176 from hz176] | rfl)) ?_
    refine oc (g_st 1 info__16_uint8 (h1 := U8_one _) (hm := by rw [U8_len, hz16]) (hl := by first | rw [U8_len, U8_len, hz16, hz16] | rfl)) ?_
    exact oc g_as on
  intro u4 HB4 sz4 K4
  simp only [fX, nK, nP, Wr.f, aK, pM] at K4
  simp only [setG, setN, List.set_cons_zero, List.set_cons_succ]
  clear K3 HB3
  go_wp2
  refine bodyPost_ret (res_cct Tryd.results23 rfl rfl rfl (K4.cv 0) (K4.cv 1) Tryd.underlying33 Tryd.underlying32 rfl rfl (by rw [U8_len, hz176]; exact info__11__16_uint8) (by rw [U8_len, hz16]; exact info__16_uint8)) rfl ⟨rfl, HB4⟩
set_option maxRecDepth 100000 in
set_option maxHeartbeats 4000000 in
theorem cBegun_b (vk : Value) (kx : List Nat) (sl : Option Addr) (n cap : Nat) (w : World) (hz176 : z176.length = 176) (hK : Hid (∀ u, Below w.heap.size w u → Calls Tryd.prog 19 #[vk] u fun e w' => e = .returned (.tuple #[.agg (U8 kx).toArray, .int .i64 0]) ∧ Below u.heap.size u w')) (hkx : kx.length = 176) (hz16 : z16.length = 16) (hn : decide ((n : Int) ≠ 16) = true)  :
    Calls Tryd.prog 23 #[vk, (.slice sl n cap)] w fun e w' => e = .returned (.tuple #[.agg (U8 (z176)).toArray, .agg (U8 (z16)).toArray, .int .i64 2]) ∧ Below w.heap.size w w' := by
  go_enter Tryd.func23, Tryd.ntmps23
  have HB0 : Below w.heap.size w w := Below.refl _ _
  have K0_1 := Bk.nil (w.heap.size) w
  go_upto_region 0 with fail
  refine rgP K0_1 HB0 HB0.size [] [(0, 4, U8 (z176), none), (1, 5, U8 (z16), none)] [(2, 6, (Go.Value.int Go.IntKind.i64 0))] [] [] [] ?_ ?_
  · refine oc (g_al 0 al__11__16_uint8) ?_
    refine oc (g_al 1 al__16_uint8) ?_
    exact oc g_as on
  intro u1 b1_0 b1_1 HB1 sz1 K1
  simp only [fX, nK, nP, Wr.f, aK, pM] at K1
  simp only [setG, setN, List.set_cons_zero, List.set_cons_succ]
  clear HB0
  go_upto_region 1 with fail
  refine rgP K1 HB1 HB1.size [] [(5, 7, U8 (z176), some (6, U8 (kx)))] [(0, 10, vk), (1, 11, .tuple #[.agg (U8 (kx)).toArray, .int .i64 0]), (2, 9, .tuple #[.agg (U8 (kx)).toArray, .int .i64 0]), (3, 12, .agg (U8 (kx)).toArray), (4, 13, .int .i64 0), (7, 8, .int .i64 0)] [(6, 5)] [] [true, true, false] ?_ ?_
  · refine oc g_mv ?_
    refine oc (g_cb ent_aes_Keys (fun uZ bZ => hK.out uZ bZ)) ?_
    refine oc g_mv ?_
    refine oc g_ex ?_
    refine oc g_ex ?_
    refine oc (g_al 0 al__11__16_uint8) ?_
    refine oc (g_sn 0 info__11__16_uint8 (h1 := U8_one _) (hm := by rw [U8_len, hkx]) (hl := by first | rw [U8_len, U8_len, hkx, show z176.length = 176 from hz176] | rfl)) ?_
    exact oc g_as on
  intro u2 b2_5 HB2 sz2 K2
  simp only [fX, nK, nP, Wr.f, aK, pM] at K2
  simp only [setG, setN, List.set_cons_zero, List.set_cons_succ]
  clear K1 HB1
  go_upto_region 2 with fail
  refine rgP K2 HB2 HB2.size [] [] [(0, 14, .int .i64 0), (1, 15, .bool false), (2, 16, .bool false), (3, 17, (.slice sl n cap)), (4, 18, .int .i64 (n : Int)), (5, 19, .bool true), (6, 20, .bool true)] [] [] [] ?_ ?_
  · refine oc g_mv ?_
    refine oc (g_bn (fun uZ => neq_e _ _ 0 0 false uZ (by decide))) ?_
    refine oc g_mv ?_
    refine oc g_mv ?_
    refine oc (g_ln Tryd.underlying24) ?_
    refine oc (g_bn (fun uZ => neq_i _ _ (n : Int) 16 true uZ hn)) ?_
    exact oc g_pk on
  intro u3 HB3 sz3 K3
  simp only [fX, nK, nP, Wr.f, aK, pM] at K3
  simp only [setG, setN, List.set_cons_zero, List.set_cons_succ]
  clear K2 HB2
  go_upto_region 3 with fail
  refine rgP K3 HB3 HB3.size [.all 2 (U8 (z176)), .all 3 (U8 (z16))] [] [(0, 21, .agg (U8 (z176)).toArray), (1, 22, .agg (U8 (z16)).toArray), (4, 6, (Go.Value.int Go.IntKind.i64 2))] [] [] [] ?_ ?_
  · refine oc (g_bd (fun uZ => bdK0 uZ)) ?_
    refine oc (g_bd (fun uZ => bdB0 uZ)) ?_
    refine oc (g_st 0 info__11__16_uint8 (h1 := U8_one _) (hm := by rw [U8_len, hz176]) (hl := by first | rw [U8_len, U8_len, hz176, show z176.length = 176 from hz176] | rfl)) ?_
    refine oc (g_st 1 info__16_uint8 (h1 := U8_one _) (hm := by rw [U8_len, hz16]) (hl := by first | rw [U8_len, U8_len, hz16, hz16] | rfl)) ?_
    exact oc g_as on
  intro u4 HB4 sz4 K4
  simp only [fX, nK, nP, Wr.f, aK, pM] at K4
  simp only [setG, setN, List.set_cons_zero, List.set_cons_succ]
  clear K3 HB3
  go_wp2
  refine bodyPost_ret (res_cct Tryd.results23 rfl rfl rfl (K4.cv 0) (K4.cv 1) Tryd.underlying33 Tryd.underlying32 rfl rfl (by rw [U8_len, hz176]; exact info__11__16_uint8) (by rw [U8_len, hz16]; exact info__16_uint8)) rfl ⟨rfl, HB4⟩
set_option maxRecDepth 100000 in
set_option maxHeartbeats 4000000 in
theorem cBegun_s (vk : Value) (kx bs : List Nat) (gb go cap : Nat) (w : World) (hz176 : z176.length = 176) (hK : Hid (∀ u, Below w.heap.size w u → Calls Tryd.prog 19 #[vk] u fun e w' => e = .returned (.tuple #[.agg (U8 kx).toArray, .int .i64 0]) ∧ Below u.heap.size u w')) (hkx : kx.length = 176) (hbl : bs.length = 16) (hgb : gb < w.heap.size) (hsrc : Hid (w.rangeAt gb go (U8 bs)))  :
    Calls Tryd.prog 23 #[vk, (.slice (some ⟨gb, go, none⟩) 16 cap)] w fun e w' => e = .returned (.tuple #[.agg (U8 (kx)).toArray, .agg (U8 (bs)).toArray, .int .i64 0]) ∧ Below w.heap.size w w' := by
  go_enter Tryd.func23, Tryd.ntmps23
  have HB0 : Below w.heap.size w w := Below.refl _ _
  have K0_1 := Bk.nil (w.heap.size) w
  go_upto_region 0 with fail
  refine rgP K0_1 HB0 HB0.size [] [(0, 4, U8 (z176), none), (1, 5, U8 (z16), none)] [(2, 6, (Go.Value.int Go.IntKind.i64 0))] [] [] [] ?_ ?_
  · refine oc (g_al 0 al__11__16_uint8) ?_
    refine oc (g_al 1 al__16_uint8) ?_
    exact oc g_as on
  intro u1 b1_0 b1_1 HB1 sz1 K1
  simp only [fX, nK, nP, Wr.f, aK, pM] at K1
  simp only [setG, setN, List.set_cons_zero, List.set_cons_succ]
  clear HB0
  go_upto_region 1 with fail
  refine rgP K1 HB1 HB1.size [] [(5, 7, U8 (z176), some (6, U8 (kx)))] [(0, 10, vk), (1, 11, .tuple #[.agg (U8 (kx)).toArray, .int .i64 0]), (2, 9, .tuple #[.agg (U8 (kx)).toArray, .int .i64 0]), (3, 12, .agg (U8 (kx)).toArray), (4, 13, .int .i64 0), (7, 8, .int .i64 0)] [(6, 5)] [] [] ?_ ?_
  · refine oc g_mv ?_
    refine oc (g_cb ent_aes_Keys (fun uZ bZ => hK.out uZ bZ)) ?_
    refine oc g_mv ?_
    refine oc g_ex ?_
    refine oc g_ex ?_
    refine oc (g_al 0 al__11__16_uint8) ?_
    refine oc (g_sn 0 info__11__16_uint8 (h1 := U8_one _) (hm := by rw [U8_len, hkx]) (hl := by first | rw [U8_len, U8_len, hkx, show z176.length = 176 from hz176] | rfl)) ?_
    exact oc g_as on
  intro u2 b2_5 HB2 sz2 K2
  simp only [fX, nK, nP, Wr.f, aK, pM] at K2
  simp only [setG, setN, List.set_cons_zero, List.set_cons_succ]
  clear K1 HB1
  go_upto_region 2 with fail
  refine rgP K2 HB2 HB2.size [] [] [(0, 14, .int .i64 0), (1, 15, .bool false), (2, 16, .bool false), (3, 17, (.slice (some ⟨gb, go, none⟩) 16 cap)), (4, 18, .int .i64 ((16 : Nat) : Int)), (5, 19, .bool false), (6, 20, .bool false)] [] [] [] ?_ ?_
  · refine oc g_mv ?_
    refine oc (g_bn (fun uZ => neq_e _ _ 0 0 false uZ (by decide))) ?_
    refine oc g_mv ?_
    refine oc g_mv ?_
    refine oc (g_ln Tryd.underlying24) ?_
    refine oc (g_bn (fun uZ => neq_i _ _ ((16 : Nat) : Int) 16 false uZ (by decide))) ?_
    exact oc g_pk on
  intro u3 HB3 sz3 K3
  simp only [fX, nK, nP, Wr.f, aK, pM] at K3
  simp only [setG, setN, List.set_cons_zero, List.set_cons_succ]
  clear K2 HB2
  go_upto_region 4 with fail
  refine rgD K3 HB3 HB3.size [.all 4 (U8 (kx)), .all 5 (U8 (bs))] [] [(0, 23, .agg (U8 (kx)).toArray), (1, 24, (.slice (some ⟨gb, go, none⟩) 16 cap)), (2, 25, .pointer (some ⟨gb, go, none⟩)), (3, 26, .agg (U8 (bs)).toArray), (6, 6, (Go.Value.int Go.IntKind.i64 0))] [] [] [true, true, false] ?_ ?_
  · refine oc (g_lR 2 0 (cs := U8 (kx)) (fun j v h => by rw [Nat.zero_add]; exact h) Tryd.underlying33 (by rw [U8_len, hkx]; exact info__11__16_uint8)) ?_
    refine oc g_mv ?_
    refine oc (g_sp (fun uZ => ap16 ⟨gb, go, none⟩ cap uZ)) ?_
    refine oc (g_lf (cs := U8 bs) hsrc.out hgb Tryd.underlying32 (by rw [U8_len, hbl]; exact info__16_uint8)) ?_
    refine oc (g_st 0 info__11__16_uint8 (h1 := U8_one _) (hm := by rw [U8_len, hkx]) (hl := by first | rw [U8_len, U8_len, hkx, show z176.length = 176 from hz176] | rfl)) ?_
    refine oc (g_st 1 info__16_uint8 (h1 := U8_one _) (hm := by rw [U8_len, hbl]) (hl := by first | rw [U8_len, U8_len, hbl, show z16.length = 16 from rfl] | rfl)) ?_
    exact oc g_as on
  intro u4 HB4 sz4 K4
  simp only [fX, nK, nP, Wr.f, aK, pM] at K4
  simp only [setG, setN, List.set_cons_zero, List.set_cons_succ]
  clear K3 HB3
  go_wp2
  refine bodyPost_ret (res_cct Tryd.results23 rfl rfl rfl (K4.cv 0) (K4.cv 1) Tryd.underlying33 Tryd.underlying32 rfl rfl (by rw [U8_len, hkx]; exact info__11__16_uint8) (by rw [U8_len, hbl]; exact info__16_uint8)) rfl ⟨rfl, HB4⟩
/-- What is begun with. -/
def begV (ks bs : List Nat) : Value := if ks.length = 16 ∧ bs.length = 16 then .tuple #[.agg (U8 (kyX ks 10)).toArray, .agg (U8 bs).toArray, .int .i64 0] else .tuple #[.agg (U8 z176).toArray, .agg (U8 z16).toArray, .int .i64 2]
theorem cBegun (ks bs : List Nat) (v v2 : Value) (w : World) (hV : GS6 w) (hin : IN w w.heap.size v ks) (hin2 : IN w w.heap.size v2 bs) (hx : ∀ x ∈ ks, x < 256) (hy : ∀ x ∈ bs, x < 256) :
    Calls Tryd.prog 23 #[v, v2] w fun e w' => e = .returned (begV ks bs) ∧ Below w.heap.size w w' := by
  have hK := fun u (hB : Below w.heap.size w u) => cKeys ks v u (hV.up hB) ((hin.below hB).mono hB.size) hx
  unfold keyV at hK
  unfold begV
  by_cases hl : ks.length = 16
  · simp only [if_pos hl] at hK
    have hk := BY_of hl hx
    obtain ⟨sl, cap, gb, go, rfl, h1, h2, h3, h4⟩ := hin2
    by_cases hb : bs.length = 16
    · rw [if_pos ⟨hl, hb⟩]
      have h2 := h2.resolve_left (by omega)
      subst h2
      rw [hb]
      exact cBegun_s v (kyX ks 10) bs gb go cap w List.length_replicate hK (kyX_B hk 10).len hb h3 (fun j v hj => by have h := h4.src j v hj; rw [Addr.add_lit] at h; exact h)
    · rw [if_neg (fun h => hb h.2)]
      exact cBegun_b v (kyX ks 10) sl _ cap w List.length_replicate hK (kyX_B hk 10).len rfl (by simp; omega)
  · simp only [if_neg hl] at hK
    rw [if_neg (fun h => hl h.1)]
    exact cBegun_k v v2 w List.length_replicate hK rfl
end Go.Proofs.YtlcjbnhfmcnnfaaDoor
