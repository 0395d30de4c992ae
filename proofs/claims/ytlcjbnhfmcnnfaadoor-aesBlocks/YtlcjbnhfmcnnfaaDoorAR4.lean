/- The reference's keys of rounds. -/
import Derived.Test.YtlcjbnhfmcnnfaaDoorAR3
namespace Go.Proofs.YtlcjbnhfmcnnfaaDoor
open Go.RowKit
set_option linter.unusedVariables false
set_option linter.unusedSimpArgs false
theorem bsK4 (a b c d : Nat) (w : World) : (Instr.buildSlice 24 4 ([0, 1, 2, 3].zip [.int .u8 (a : Int), .int .u8 (b : Int), .int .u8 (c : Int), .int .u8 (d : Int)]).toArray).run Tryd.prog w = .ok (.slice (some ⟨w.heap.size, 0, none⟩) 4 4) (w.alloc (.cells (U8 [a, b, c, d]).toArray 5)) := by kernel_rfl
theorem xb16p (b o k m : Nat) (w : World) (h : k < 16) (hm : o + k = m) : (Instr.indexAt 32 (.pointer (some ⟨b, o, none⟩)) (.int .i64 k)).run Tryd.prog w = .ok (.pointer (some ⟨b, m, none⟩)) w := by
  have h2 : (k : Int) < 16 := by omega
  subst hm
  go_simp
theorem ixs8o (b o n c k : Nat) (w : World) (h : k < n) : (Instr.indexAt 24 (.slice (some ⟨b, o, none⟩) n c) (.int .u8 k)).run Tryd.prog w = .ok (.pointer (some ⟨b, o + k, none⟩)) w := by
  have h2 : (k : Int) < n := by omega
  go_simp
set_option maxRecDepth 100000 in
set_option maxHeartbeats 8000000 in
theorem cKeysBy_n (n cap tb tp tc : Nat) (sl : Option Addr) (w : World) (hz176 : z176.length = 176) (hn : decide ((n : Int) ≠ 16) = true) :
    Calls Tryd.prog 25 #[(.slice (some ⟨tb, tp, none⟩) 256 tc), (.slice sl n cap)] w fun e w' => e = .returned (.tuple #[.agg (U8 z176).toArray, .int .i64 2]) ∧ Below w.heap.size w w' := by
  go_enter Tryd.func25, Tryd.ntmps25
  have HB0 : Below w.heap.size w w := Below.refl _ _
  have K0_1 := Bk.nil (w.heap.size) w
  go_upto_region 0 with fail
  refine rgP K0_1 HB0 HB0.size [] [(0, 4, U8 (z176), none)] [(1, 5, (Go.Value.int Go.IntKind.i64 0))] [] [] [] ?_ ?_
  · refine oc (g_al 0 al__11__16_uint8) ?_
    exact oc g_as on
  intro u1 b1_0 HB1 sz1 K1
  simp only [fX, nK, nP, Wr.f, aK, pM] at K1
  simp only [setG, setN, List.set_cons_zero, List.set_cons_succ]
  clear HB0
  go_upto_region 1 with fail
  refine rgP K1 HB1 HB1.size [] [(1, 6, U8 (z176), some (2, U8 (z176)))] [(0, 13, .agg (U8 (z176)).toArray)] [(2, 1)] [] [] ?_ ?_
  · refine oc (g_bd (fun uZ => bdK0 uZ)) ?_
    refine oc (g_al 0 al__11__16_uint8) ?_
    exact oc (g_sn 0 info__11__16_uint8 (h1 := U8_one _) (hm := by rw [U8_len, hz176]) (hl := by first | rw [U8_len, U8_len, hz176, show z176.length = 176 from hz176] | rfl)) on
  intro u2 b2_1 HB2 sz2 K2
  simp only [fX, nK, nP, Wr.f, aK, pM] at K2
  simp only [setG, setN, List.set_cons_zero, List.set_cons_succ]
  clear K1 HB1
  go_upto_region 2 with fail
  refine rgP K2 HB2 HB2.size [] [] [(0, 14, (.slice sl n cap)), (1, 15, .int .i64 (n : Int)), (2, 16, .bool true)] [] [] [] ?_ ?_
  · refine oc g_mv ?_
    refine oc (g_ln Tryd.underlying24) ?_
    exact oc (g_bn (fun uZ => neq_i _ _ (n : Int) 16 true uZ hn)) on
  intro u3 HB3 sz3 K3
  simp only [fX, nK, nP, Wr.f, aK, pM] at K3
  simp only [setG, setN, List.set_cons_zero, List.set_cons_succ]
  clear K2 HB2
  go_upto_region 3 with fail
  refine rgP K3 HB3 HB3.size [.all 1 (U8 (z176))] [] [(0, 17, .agg (U8 (z176)).toArray), (2, 5, (Go.Value.int Go.IntKind.i64 2))] [] [] [] ?_ ?_
  · refine oc (g_lR 1 0 (cs := U8 (z176)) (fun j v h => by rw [Nat.zero_add]; exact h) Tryd.underlying33 (by rw [U8_len, hz176]; exact info__11__16_uint8)) ?_
    refine oc (g_st 0 info__11__16_uint8 (h1 := U8_one _) (hm := by rw [U8_len, hz176]) (hl := by first | rw [U8_len, U8_len, hz176, show z176.length = 176 from hz176] | rfl)) ?_
    exact oc g_as on
  intro u4 HB4 sz4 K4
  simp only [fX, nK, nP, Wr.f, aK, pM] at K4
  simp only [setG, setN, List.set_cons_zero, List.set_cons_succ]
  clear K3 HB3
  go_wp2
  refine bodyPost_ret (res_ct Tryd.results25 rfl rfl (K4.cv 0) Tryd.underlying33 rfl (by rw [U8_len, hz176]; exact info__11__16_uint8)) rfl ⟨rfl, HB4⟩
set_option maxRecDepth 100000 in
set_option maxHeartbeats 8000000 in
theorem cKeysBy_s (tb tp tc cap : Nat) (ad : Addr) (ks tt : List Nat) (sW : Nat → Nat → List Nat) (lF oF : Nat → List Nat) (pw : Nat → Nat) (w : World) (hz176 : z176.length = 176) (htb : tb < w.heap.size) (hTt : Hid (∀ x, x < 256 → w.cell? ⟨tb, tp + x, none⟩ = some (.int .u8 ((tt.getD x 0 : Nat) : Int)))) (hTl : Hid (∀ x, tt.getD x 0 < 256))
    (hW0 : Hid (sW 0 0 = ks)) (hWn : Hid (∀ n, sW (n + 1) 0 = sW n 4)) (hWs : Hid (∀ n k, sW n (k + 1) = sW n k ++ [(sW n k).getD (4 * n + k) 0 ^^^ (lF n).getD k 0])) (hWl : Hid (∀ n k, (sW n k).length = 16 + 4 * n + k)) (hWb : Hid (∀ n k j, (sW n k).getD j 0 < 256)) (hLl : Hid (∀ n, (lF n).length = 4)) (hLb : Hid (∀ n k, (lF n).getD k 0 < 256))
    (hLa : Hid (∀ n, n % 4 = 0 → lF n = [tt.getD ((sW n 0).getD (4 * n + 13) 0) 0 ^^^ pw n, tt.getD ((sW n 0).getD (4 * n + 14) 0) 0, tt.getD ((sW n 0).getD (4 * n + 15) 0) 0, tt.getD ((sW n 0).getD (4 * n + 12) 0) 0])) (hLbb : Hid (∀ n, ¬ n % 4 = 0 → lF n = [(sW n 0).getD (4 * n + 12) 0, (sW n 0).getD (4 * n + 13) 0, (sW n 0).getD (4 * n + 14) 0, (sW n 0).getD (4 * n + 15) 0]))
    (hp0 : Hid (pw 0 = 1)) (hps : Hid (∀ n, pw (n + 1) = if n % 4 = 0 then tm (pw n) 2 else pw n)) (hpb : Hid (∀ n, pw n < 256)) (hTm : Hid (∀ n u, Calls Tryd.prog 11 #[.int .u8 ((pw n : Nat) : Int), .int .u8 2] u fun e w' => e = .returned (.int .u8 ((tm (pw n) 2 : Nat) : Int)) ∧ Below u.heap.size u w'))
    (hO0 : Hid (oF 0 = z176)) (hOs : Hid (∀ i, oF (i + 1) = (oF i).set i ((sW 40 0).getD i 0))) (hOl : Hid (∀ i, (oF i).length = 176))
    (happ : Hid (∀ (base : Nat) (u : World) (vs : Value), Below w.heap.size w u → base ≤ u.heap.size → PZ base u vs → ∃ v u', (Builtin.append_ #[24, 24] 24 #[vs, (.slice (some ad) 16 cap)]).run Tryd.prog u = .ok v u' ∧ Below u.heap.size u u' ∧ PG base 1 16 (U8 (ks)) u' v)) :
    Calls Tryd.prog 25 #[(.slice (some ⟨tb, tp, none⟩) 256 tc), (.slice (some ad) 16 cap)] w fun e w' => e = .returned (.tuple #[.agg (U8 (oF 176)).toArray, .int .i64 0]) ∧ Below w.heap.size w w' := by
  go_enter Tryd.func25, Tryd.ntmps25
  have HB0 : Below w.heap.size w w := Below.refl _ _
  have K0_1 := Bk.nil (w.heap.size) w
  go_upto_region 0 with fail
  refine rgP K0_1 HB0 HB0.size [] [(0, 4, U8 (z176), none)] [(1, 5, (Go.Value.int Go.IntKind.i64 0))] [] [] [] ?_ ?_
  · refine oc (g_al 0 al__11__16_uint8) ?_
    exact oc g_as on
  intro u1 b1_0 HB1 sz1 K1
  simp only [fX, nK, nP, Wr.f, aK, pM] at K1
  simp only [setG, setN, List.set_cons_zero, List.set_cons_succ]
  clear HB0
  go_upto_region 1 with fail
  refine rgP K1 HB1 HB1.size [] [(1, 6, U8 (z176), some (2, U8 (z176)))] [(0, 13, .agg (U8 (z176)).toArray)] [(2, 1)] [] [] ?_ ?_
  · refine oc (g_bd (fun uZ => bdK0 uZ)) ?_
    refine oc (g_al 0 al__11__16_uint8) ?_
    exact oc (g_sn 0 info__11__16_uint8 (h1 := U8_one _) (hm := by rw [U8_len, hz176]) (hl := by first | rw [U8_len, U8_len, hz176, show z176.length = 176 from hz176] | rfl)) on
  intro u2 b2_1 HB2 sz2 K2
  simp only [fX, nK, nP, Wr.f, aK, pM] at K2
  simp only [setG, setN, List.set_cons_zero, List.set_cons_succ]
  clear K1 HB1
  obtain ⟨ti, hti, htm⟩ := Option.map_eq_some_iff.1 infoB
  simp only [Prod.mk.injEq] at htm
  obtain ⟨hzv, hsz, hby⟩ := htm
  go_upto_region 2 with fail
  refine rgP K2 HB2 HB2.size [] [] [(0, 14, (.slice (some ad) 16 cap)), (1, 15, .int .i64 ((16 : Nat) : Int)), (2, 16, .bool false)] [] [] [] ?_ ?_
  · refine oc g_mv ?_
    refine oc (g_ln Tryd.underlying24) ?_
    exact oc (g_bn (fun uZ => neq_i _ _ ((16 : Nat) : Int) 16 false uZ (by decide))) on
  intro u3 HB3 sz3 K3
  simp only [fX, nK, nP, Wr.f, aK, pM] at K3
  simp only [setG, setN, List.set_cons_zero, List.set_cons_succ]
  clear K2 HB2
  have hw4 := K3.lo 0
  have hw6 := K3.lo 1
  have hb4 := (K3.lt 0)
  have hb6 := (K3.lt 1)
  have hn46 := K3.n
  simp at hn46
  have hlo2 := HB3.size
  go_upto_region 4 with fail
  refine rgF K3 HB3 HB3.size [] [] [(1, 19, (.slice (some ad) 16 cap))] [(3, 2)] [] [⟨0, 18, some 2, PZ u3.heap.size⟩, ⟨2, 20, some 3, PG u3.heap.size 1 16 (U8 (ks))⟩, ⟨3, 7, none, PG u3.heap.size 1 16 (U8 (ks))⟩] [] (.cons (fun _ _ _ h1 h2 => h2.stab h1) <| .cons (fun _ _ _ h1 h2 => h2.stab h1) <| .cons (fun _ _ _ h1 h2 => h2.stab h1) <| Stab.nil) ?_ ?_
  · refine oc (g_bs 0 (PZ u3.heap.size) bs0b (fun u hu => PZ.new hu)) ?_
    refine oc g_mv ?_
    refine oc (g_a1 0 1 (PZ u3.heap.size) (PG u3.heap.size 1 16 (U8 (ks))) (fun u vs hB hs hv => happ.out u3.heap.size u vs hB hs hv)) ?_
    exact oc (g_sE 1 2 (PG u3.heap.size 1 16 (U8 (ks)))) on
  intro u4 v4_0 hv4_0 v4_2 hv4_2 v4_3 hv4_3 HB4 sz4 K4
  simp only [fX, nK, nP, Wr.f, aK, pM] at K4
  simp only [setG, setN, setE, List.set_cons_zero, List.set_cons_succ]
  clear K3 HB3
  obtain ⟨b7, c7, zs, rfl, ho1, ho2, hc7, hz7, hoC⟩ := hv4_3 rfl
  rw [Nat.mul_one] at hz7
  have hbb : b1_0 < b7 ∧ b2_1 < b7 := by omega
  have K4_2 : Bk w.heap.size u4 [(false, b1_0, U8 (z176)), (false, b2_1, U8 (z176)), (false, b7, U8 (ks) ++ zs)] := ⟨.c (K4.lt 0) (K4.cv 0) <| .c (K4.lt 1) (K4.cv 1) <| .c ho2 hoC <| trivial, by simp <;> omega⟩
  go_upto_region 5 with fail
  refine rgP K4_2 HB4 HB4.size [] [] [(0, 8, (Go.Value.int Go.IntKind.u8 1))] [] [] [] ?_ ?_
  · exact oc g_as on
  intro u5 HB5 sz5 K5
  simp only [fX, nK, nP, Wr.f, aK, pM] at K5
  simp only [setG, setN, List.set_cons_zero, List.set_cons_succ]
  clear HB4
  go_upto_region 6 with fail
  refine rgP K5 HB5 HB5.size [] [] [(0, 9, (Go.Value.int Go.IntKind.i64 4))] [] [] [] ?_ ?_
  · exact oc g_as on
  intro u6 HB6 sz6 K6
  simp only [fX, nK, nP, Wr.f, aK, pM] at K6
  simp only [setG, setN, List.set_cons_zero, List.set_cons_succ]
  clear K5 HB5
  go_wp2_with fail
  go_loopw [7, 8, 9] (fun s7 s8 s9 wr => ∃ (n b7 c7 : Nat) (zs : List Value), n ≤ 40 ∧ s9 = .int .i64 ((n + 4 : Nat) : Int) ∧ s8 = .int .u8 ((pw n : Nat) : Int) ∧ s7 = .slice (some ⟨b7, 0, none⟩) (16 + 4 * n) c7 ∧ 16 + 4 * n ≤ c7 ∧ zs.length = c7 - (16 + 4 * n) ∧ b1_0 < b7 ∧ b2_1 < b7 ∧ b7 < wr.heap.size ∧ Hid (CV wr b7 (U8 (sW n 0) ++ zs)) ∧ Below w.heap.size w wr ∧ b1_0 < wr.heap.size ∧ Hid (CV wr b1_0 (U8 (z176))) ∧ b2_1 < wr.heap.size ∧ Hid (CV wr b2_1 (U8 (z176)))) (fun _ _ s9 _ => 44 - (intOf s9).toNat)
  case atStart => exact ⟨0, b7, c7, zs, by omega, rfl, (by rw [hp0.out]; rfl), rfl, hc7, hz7, hbb.1, hbb.2, (K6.lt 2), (by rw [hW0.out]; exact (K6.cv 2)), HB6, (K6.lt 0), (K6.cv 0), (K6.lt 1), (K6.cv 1)⟩
  case round =>
    clear ho1 ho2 hc7 hz7 hoC hbb
    obtain ⟨n, b7, c7, zs, hn40, rfl, rfl, rfl, hc7, hz7, hb47, hb67, hl7, Mr, HBr, l4, Mz, l6, Mo⟩ := hrel
    clear HB6
    by_cases hj : n < 40
    · have hd1 : decide (((n + 4 : Nat) : Int) < 44) = true := by simp; omega
      have hlen := hWl.out n 0
      have hwb := hWb.out n 0
      have hWk := hWs.out n
      have hWnx := hWn.out n
      have hll := hLl.out n
      have hlb := hLb.out n
      have hWL := hWl.out n
      have hWB := hWb.out n
      have hpl := hpb.out n
      obtain ⟨ws, ews⟩ : ∃ x, sW n 0 = x := ⟨_, rfl⟩
      rw [ews] at hlen hwb Mr
      have g0 := U8_get ws (4 * n + 12) (by omega)
      have g1 := U8_get ws (4 * n + 13) (by omega)
      have g2 := U8_get ws (4 * n + 14) (by omega)
      have g3 := U8_get ws (4 * n + 15) (by omega)
      have hA := hLa.out n
      have hB := hLbb.out n
      have h0 := hwb (4 * n + 12)
      have h1 := hwb (4 * n + 13)
      have h2 := hwb (4 * n + 14)
      have h3 := hwb (4 * n + 15)
      rw [ews] at hA hB
      obtain ⟨l0, e0⟩ : ∃ x, ws.getD (4 * n + 12) 0 = x := ⟨_, rfl⟩
      obtain ⟨l1, e1⟩ : ∃ x, ws.getD (4 * n + 13) 0 = x := ⟨_, rfl⟩
      obtain ⟨l2, e2⟩ : ∃ x, ws.getD (4 * n + 14) 0 = x := ⟨_, rfl⟩
      obtain ⟨l3, e3⟩ : ∃ x, ws.getD (4 * n + 15) 0 = x := ⟨_, rfl⟩
      rw [e0] at g0 h0 hA hB
      rw [e1] at g1 h1 hA hB
      rw [e2] at g2 h2 hA hB
      rw [e3] at g3 h3 hA hB
      have ap : ∀ j (v : Value), (U8 ws)[j]? = some v → (U8 ws ++ zs)[j]? = some v := fun j v h => by rw [List.getElem?_append_left (List.getElem?_eq_some_iff.1 h).1]; exact h
      have g0 := ap _ _ g0
      have g1 := ap _ _ g1
      have g2 := ap _ _ g2
      have g3 := ap _ _ g3
      clear e0 e1 e2 e3 ap
      have hnK := K6.n
      simp at hnK
      have K6_3 : Bk w.heap.size wr [(false, b1_0, U8 (z176)), (false, b2_1, U8 (z176)), (false, b7, U8 (ws) ++ zs)] := ⟨.c l4 Mz.out <| .c l6 Mo.out <| .c hl7 Mr.out <| trivial, by simp <;> omega⟩
      go_upto_region 7 with fail
      refine rgP K6_3 HBr HBr.size [] [] [(0, 21, .int .i64 ((n + 4 : Nat) : Int)), (1, 22, .bool true)] [] [] [] ?_ ?_
      · refine oc g_mv ?_
        exact oc (g_bn (fun uZ => lss_i _ _ ((n + 4 : Nat) : Int) 44 true uZ hd1)) on
      intro u7 HB7 sz7 K7
      simp only [fX, nK, nP, Wr.f, aK, pM] at K7
      simp only [setG, setN, List.set_cons_zero, List.set_cons_succ]
      have hlr := (K7.lt 2)
      go_upto_region 9 with fail
      refine rgE K7 HB7 HB7.size [] [] [(0, 25, .slice (some ⟨b7, 0, none⟩) (16 + 4 * n) c7), (1, 26, .int .i64 ((n + 4 : Nat) : Int)), (2, 27, .int .i64 ((4 * (n + 4) : Nat) : Int)), (3, 28, .int .i64 ((4 * n + 12 : Nat) : Int)), (4, 29, .pointer (some ⟨b7, 4 * n + 12, none⟩)), (5, 30, .int .u8 ((l0 : Nat) : Int)), (6, 31, .slice (some ⟨b7, 0, none⟩) (16 + 4 * n) c7), (7, 32, .int .i64 ((n + 4 : Nat) : Int)), (8, 33, .int .i64 ((4 * (n + 4) : Nat) : Int)), (9, 34, .int .i64 ((4 * n + 13 : Nat) : Int)), (10, 35, .pointer (some ⟨b7, 4 * n + 13, none⟩)), (11, 36, .int .u8 ((l1 : Nat) : Int)), (12, 37, .slice (some ⟨b7, 0, none⟩) (16 + 4 * n) c7), (13, 38, .int .i64 ((n + 4 : Nat) : Int)), (14, 39, .int .i64 ((4 * (n + 4) : Nat) : Int)), (15, 40, .int .i64 ((4 * n + 14 : Nat) : Int)), (16, 41, .pointer (some ⟨b7, 4 * n + 14, none⟩)), (17, 42, .int .u8 ((l2 : Nat) : Int)), (18, 43, .slice (some ⟨b7, 0, none⟩) (16 + 4 * n) c7), (19, 44, .int .i64 ((n + 4 : Nat) : Int)), (20, 45, .int .i64 ((4 * (n + 4) : Nat) : Int)), (21, 46, .int .i64 ((4 * n + 15 : Nat) : Int)), (22, 47, .pointer (some ⟨b7, 4 * n + 15, none⟩)), (23, 48, .int .u8 ((l3 : Nat) : Int))] [] [] [⟨24, 49, some 25, PS u7.heap.size 4 (U8 [l0, l1, l2, l3])⟩, ⟨25, 10, none, PS u7.heap.size 4 (U8 [l0, l1, l2, l3])⟩] [] (.cons (fun _ _ _ h1 h2 => h2.stab h1) <| .cons (fun _ _ _ h1 h2 => h2.stab h1) <| Stab.nil) ?_ ?_
      · refine oc g_mv ?_
        refine oc g_mv ?_
        refine oc (g_bn (fun uZ => muli _ _ 4 (n + 4) (4 * (n + 4)) uZ rfl (by omega))) ?_
        refine oc (g_bn (fun uZ => sub_i _ _ ((4 * (n + 4) : Nat) : Int) 4 ((4 * n + 12 : Nat) : Int) uZ (by omega) (by omega) (by omega))) ?_
        refine oc (g_ix (fun uZ => ixs b7 0 (16 + 4 * n) c7 (4 * n + 12) (4 * n + 12) uZ (by omega) (Nat.zero_add _))) ?_
        refine oc (g_lw 2 (4 * n + 12) l8 g0) ?_
        refine oc g_mv ?_
        refine oc g_mv ?_
        refine oc (g_bn (fun uZ => muli _ _ 4 (n + 4) (4 * (n + 4)) uZ rfl (by omega))) ?_
        refine oc (g_bn (fun uZ => sub_i _ _ ((4 * (n + 4) : Nat) : Int) 3 ((4 * n + 13 : Nat) : Int) uZ (by omega) (by omega) (by omega))) ?_
        refine oc (g_ix (fun uZ => ixs b7 0 (16 + 4 * n) c7 (4 * n + 13) (4 * n + 13) uZ (by omega) (Nat.zero_add _))) ?_
        refine oc (g_lw 2 (4 * n + 13) l8 g1) ?_
        refine oc g_mv ?_
        refine oc g_mv ?_
        refine oc (g_bn (fun uZ => muli _ _ 4 (n + 4) (4 * (n + 4)) uZ rfl (by omega))) ?_
        refine oc (g_bn (fun uZ => sub_i _ _ ((4 * (n + 4) : Nat) : Int) 2 ((4 * n + 14 : Nat) : Int) uZ (by omega) (by omega) (by omega))) ?_
        refine oc (g_ix (fun uZ => ixs b7 0 (16 + 4 * n) c7 (4 * n + 14) (4 * n + 14) uZ (by omega) (Nat.zero_add _))) ?_
        refine oc (g_lw 2 (4 * n + 14) l8 g2) ?_
        refine oc g_mv ?_
        refine oc g_mv ?_
        refine oc (g_bn (fun uZ => muli _ _ 4 (n + 4) (4 * (n + 4)) uZ rfl (by omega))) ?_
        refine oc (g_bn (fun uZ => sub_i _ _ ((4 * (n + 4) : Nat) : Int) 1 ((4 * n + 15 : Nat) : Int) uZ (by omega) (by omega) (by omega))) ?_
        refine oc (g_ix (fun uZ => ixs b7 0 (16 + 4 * n) c7 (4 * n + 15) (4 * n + 15) uZ (by omega) (Nat.zero_add _))) ?_
        refine oc (g_lw 2 (4 * n + 15) l8 g3) ?_
        refine oc (g_bR 0 (PS u7.heap.size 4 (U8 [l0, l1, l2, l3])) [0, 1, 2, 3] [.int .u8 ((l0 : Nat) : Int), .int .u8 ((l1 : Nat) : Int), .int .u8 ((l2 : Nat) : Int), .int .u8 ((l3 : Nat) : Int)] (U8 [l0, l1, l2, l3]) (bsK4 l0 l1 l2 l3) (fun u hu => PS.new 4 _ _ u hu)) ?_
        exact oc (g_sE 0 1 (PS u7.heap.size 4 (U8 [l0, l1, l2, l3]))) on
      intro u8 v8_24 hv8_24 v8_25 hv8_25 HB8 sz8 K8
      simp only [fX, nK, nP, Wr.f, aK, pM] at K8
      simp only [setG, setN, setE, List.set_cons_zero, List.set_cons_succ]
      clear K7 HB7
      obtain ⟨bl, cl, rfl, hol1, hol2, hcl, holC⟩ := hv8_25 rfl
      have hbl : b1_0 < bl ∧ b2_1 < bl ∧ b7 < bl := by omega
      clear hol1 hlr
      by_cases h4 : n % 4 = 0
      · have he1 : decide ((((n + 4) % 4 : Nat) : Int) = 0) = true := by simp; omega
        have hpw := hps.out n
        rw [if_pos h4] at hpw
        have hA := hA h4
        have hTw := hTm.out n
        obtain ⟨q, eq⟩ : ∃ x, pw n = x := ⟨_, rfl⟩
        rw [eq] at hpw hA hTw hpl
        rw [eq]
        have t1 := hTt.out l1 h1
        have t2 := hTt.out l2 h2
        have t3 := hTt.out l3 h3
        have t0 := hTt.out l0 h0
        have u1 := hTl.out l1
        obtain ⟨y0, f0⟩ : ∃ x, tt.getD l0 0 = x := ⟨_, rfl⟩
        obtain ⟨y1, f1⟩ : ∃ x, tt.getD l1 0 = x := ⟨_, rfl⟩
        obtain ⟨y2, f2⟩ : ∃ x, tt.getD l2 0 = x := ⟨_, rfl⟩
        obtain ⟨y3, f3⟩ : ∃ x, tt.getD l3 0 = x := ⟨_, rfl⟩
        rw [f0] at t0 hA
        rw [f1] at t1 hA u1
        rw [f2] at t2 hA
        rw [f3] at t3 hA
        have hTw : Hid _ := hTw
        clear f0 f1 f2 f3 eq
        have K8_4 : Bk w.heap.size u8 [(false, b1_0, U8 (z176)), (false, b2_1, U8 (z176)), (false, b7, U8 (ws) ++ zs), (false, bl, U8 ([l0, l1, l2, l3]))] := ⟨.c (K8.lt 0) (K8.cv 0) <| .c (K8.lt 1) (K8.cv 1) <| .c (K8.lt 2) (K8.cv 2) <| .c hol2 holC <| trivial, by simp <;> omega⟩
        go_upto_region 10 with fail
        refine rgP K8_4 HB8 HB8.size [] [] [(0, 50, .int .i64 ((n + 4 : Nat) : Int)), (1, 51, .int .i64 (((n + 4) % 4 : Nat) : Int)), (2, 52, .bool true)] [] [] [] ?_ ?_
        · refine oc g_mv ?_
          refine oc (g_bn (fun uZ => remi _ _ (n + 4) 4 uZ (by omega) (by decide))) ?_
          exact oc (g_bn (fun uZ => eqz_i _ _ (((n + 4) % 4 : Nat) : Int) 0 true uZ he1)) on
        intro u9 HB9 sz9 K9
        simp only [fX, nK, nP, Wr.f, aK, pM] at K9
        simp only [setG, setN, List.set_cons_zero, List.set_cons_succ]
        clear HB8
        have hlr := (K9.lt 2)
        have hla := (K9.lt 0)
        have hlb2 := (K9.lt 1)
        clear holC hol2
        go_upto_region 11 with fail
        refine rgE K9 HB9 HB9.size [] [] [(0, 53, (.slice (some ⟨tb, tp, none⟩) 256 tc)), (1, 54, .slice (some ⟨bl, 0, none⟩) 4 cl), (2, 55, .pointer (some ⟨bl, 1, none⟩)), (3, 56, .int .u8 ((l1 : Nat) : Int)), (4, 57, .pointer (some ⟨tb, tp + l1, none⟩)), (5, 58, .int .u8 ((y1 : Nat) : Int)), (6, 59, .int .u8 ((q : Nat) : Int)), (7, 60, .int .u8 ((y1 ^^^ q : Nat) : Int)), (8, 61, (.slice (some ⟨tb, tp, none⟩) 256 tc)), (9, 62, .slice (some ⟨bl, 0, none⟩) 4 cl), (10, 63, .pointer (some ⟨bl, 2, none⟩)), (11, 64, .int .u8 ((l2 : Nat) : Int)), (12, 65, .pointer (some ⟨tb, tp + l2, none⟩)), (13, 66, .int .u8 ((y2 : Nat) : Int)), (14, 67, (.slice (some ⟨tb, tp, none⟩) 256 tc)), (15, 68, .slice (some ⟨bl, 0, none⟩) 4 cl), (16, 69, .pointer (some ⟨bl, 3, none⟩)), (17, 70, .int .u8 ((l3 : Nat) : Int)), (18, 71, .pointer (some ⟨tb, tp + l3, none⟩)), (19, 72, .int .u8 ((y3 : Nat) : Int)), (20, 73, (.slice (some ⟨tb, tp, none⟩) 256 tc)), (21, 74, .slice (some ⟨bl, 0, none⟩) 4 cl), (22, 75, .pointer (some ⟨bl, 0, none⟩)), (23, 76, .int .u8 ((l0 : Nat) : Int)), (24, 77, .pointer (some ⟨tb, tp + l0, none⟩)), (25, 78, .int .u8 ((y0 : Nat) : Int))] [(27, 1), (27, 9), (27, 15), (27, 21), (27, 26)] [(27, 10)] [⟨26, 79, some 27, PS u9.heap.size 4 (U8 [y1 ^^^ q, y2, y3, y0])⟩, ⟨27, 10, none, PS u9.heap.size 4 (U8 [y1 ^^^ q, y2, y3, y0])⟩] [] (.cons (fun _ _ _ h1 h2 => h2.stab h1) <| .cons (fun _ _ _ h1 h2 => h2.stab h1) <| Stab.nil) ?_ ?_
        · refine oc g_mv ?_
          refine oc g_mv ?_
          refine oc (g_ix (fun uZ => ixs bl 0 4 cl 1 1 uZ (by decide) rfl)) ?_
          refine oc (g_lw 3 1 l8 rfl) ?_
          refine oc (g_ix (fun uZ => ixs8o tb tp 256 tc l1 uZ h1)) ?_
          refine oc (g_lg tb (tp + l1) l8 (t1) (htb)) ?_
          refine oc g_mv ?_
          refine oc (g_bn (fun uZ => xor8 _ _ y1 q uZ u1 hpl)) ?_
          refine oc g_mv ?_
          refine oc g_mv ?_
          refine oc (g_ix (fun uZ => ixs bl 0 4 cl 2 2 uZ (by decide) rfl)) ?_
          refine oc (g_lw 3 2 l8 rfl) ?_
          refine oc (g_ix (fun uZ => ixs8o tb tp 256 tc l2 uZ h2)) ?_
          refine oc (g_lg tb (tp + l2) l8 (t2) (htb)) ?_
          refine oc g_mv ?_
          refine oc g_mv ?_
          refine oc (g_ix (fun uZ => ixs bl 0 4 cl 3 3 uZ (by decide) rfl)) ?_
          refine oc (g_lw 3 3 l8 rfl) ?_
          refine oc (g_ix (fun uZ => ixs8o tb tp 256 tc l3 uZ h3)) ?_
          refine oc (g_lg tb (tp + l3) l8 (t3) (htb)) ?_
          refine oc g_mv ?_
          refine oc g_mv ?_
          refine oc (g_ix (fun uZ => ixs bl 0 4 cl 0 0 uZ (by decide) rfl)) ?_
          refine oc (g_lw 3 0 l8 rfl) ?_
          refine oc (g_ix (fun uZ => ixs8o tb tp 256 tc l0 uZ h0)) ?_
          refine oc (g_lg tb (tp + l0) l8 (t0) (htb)) ?_
          refine oc (g_bR 0 (PS u9.heap.size 4 (U8 [y1 ^^^ q, y2, y3, y0])) [0, 1, 2, 3] [.int .u8 ((y1 ^^^ q : Nat) : Int), .int .u8 ((y2 : Nat) : Int), .int .u8 ((y3 : Nat) : Int), .int .u8 ((y0 : Nat) : Int)] (U8 [y1 ^^^ q, y2, y3, y0]) (bsK4 (y1 ^^^ q) y2 y3 y0) (fun u hu => PS.new 4 _ _ u hu)) ?_
          exact oc (g_sE 0 1 (PS u9.heap.size 4 (U8 [y1 ^^^ q, y2, y3, y0]))) on
        intro u10 v10_26 hv10_26 v10_27 hv10_27 HB10 sz10 K10
        simp only [fX, nK, nP, Wr.f, aK, pM] at K10
        simp only [setG, setN, setE, List.set_cons_zero, List.set_cons_succ]
        clear K9 HB9
        clear hbl
        obtain ⟨bl, cl, rfl, hol1, hol2, hcl, holC⟩ := hv10_27 rfl
        have hbl : b1_0 < bl ∧ b2_1 < bl ∧ b7 < bl := by omega
        rw [← hA] at holC
        clear hol1 hlr
        have Q4 := (K10.cv 0)
        have Q6 := (K10.cv 1)
        have Q7 := (K10.cv 2)
        have q4 := (K10.lt 0)
        have q6 := (K10.lt 1)
        have q7 := (K10.lt 2)
        have hnK := K10.n
        simp at hnK
        have K10_5 : Bk w.heap.size u10 [(false, b1_0, U8 (z176)), (false, b2_1, U8 (z176)), (false, b7, U8 (ws) ++ zs), (false, bl, U8 (lF n))] := ⟨.c q4 Q4 <| .c q6 Q6 <| .c q7 Q7 <| .c hol2 holC <| trivial, by simp <;> omega⟩
        go_upto_region 12 with fail
        refine rgP K10_5 HB10 HB10.size [] [] [(0, 80, .int .u8 ((q : Nat) : Int)), (1, 81, .int .u8 ((tm q 2 : Nat) : Int)), (2, 8, .int .u8 ((tm q 2 : Nat) : Int))] [(2, 0)] [(2, 8)] [] ?_ ?_
        · refine oc g_mv ?_
          refine oc (g_cl ent_seneschalref06_Times (fun uZ => hTw.out uZ)) ?_
          exact oc g_as on
        intro u11 HB11 sz11 K11
        simp only [fX, nK, nP, Wr.f, aK, pM] at K11
        simp only [setG, setN, List.set_cons_zero, List.set_cons_succ]
        clear HB10
        have hpw : pw (n + 1) = tm q 2 := hpw
        go_upto_region 13 with fail
        refine rgP K11 HB11 HB11.size [] [] [(0, 11, (Go.Value.int Go.IntKind.i64 0))] [] [] [] ?_ ?_
        · exact oc g_as on
        intro u12 HB12 sz12 K12
        simp only [fX, nK, nP, Wr.f, aK, pM] at K12
        simp only [setG, setN, List.set_cons_zero, List.set_cons_succ]
        clear K11 HB11
        go_wp2_with fail
        clear hd1
        go_loopw [7, 11] (fun s7 s11 wr => ∃ (k b7 c7 : Nat) (zs : List Value), k ≤ 4 ∧ s11 = .int .i64 (k : Int) ∧ s7 = .slice (some ⟨b7, 0, none⟩) (16 + 4 * n + k) c7 ∧ 16 + 4 * n + k ≤ c7 ∧ zs.length = c7 - (16 + 4 * n + k) ∧ b1_0 < b7 ∧ b2_1 < b7 ∧ b7 < wr.heap.size ∧ Hid (CV wr b7 (U8 (sW n k) ++ zs)) ∧ b7 ≠ bl ∧ bl < wr.heap.size ∧ Hid (CV wr bl (U8 (lF n))) ∧ Below w.heap.size w wr ∧ b1_0 < wr.heap.size ∧ Hid (CV wr b1_0 (U8 (z176))) ∧ b2_1 < wr.heap.size ∧ Hid (CV wr b2_1 (U8 (z176)))) (fun _ s11 _ => 4 - (intOf s11).toNat)
        case atStart => exact ⟨0, b7, c7, zs, by omega, rfl, rfl, hc7, hz7, hb47, hb67, (K12.lt 2), (by rw [ews]; exact (K12.cv 2)), by omega, (K12.lt 3), (K12.cv 3), HB12, (K12.lt 0), (K12.cv 0), (K12.lt 1), (K12.cv 1)⟩
        case round =>
          clear hc7 hz7 hb47 hb67 hl7 Mr HBr l4 Mz l6 Mo hol2 holC hbl g0 g1 g2 g3 ews
          obtain ⟨k, b7, c7, zs, hk4, rfl, rfl, hc7, hz7, hb47, hb67, hl7, Mr, hnl, ll, Kl, HBr, l4, Mz, l6, Mo⟩ := hrel
          clear HB12
          by_cases hkk : k < 4
          · have hd1 : decide ((k : Int) < 4) = true := by simp; omega
            have hlw := hWL k
            have hwbk := hWB k (4 * n + k)
            have hWx := hWk k
            have hlk := hlb k
            obtain ⟨ws2, ews2⟩ : ∃ x, sW n k = x := ⟨_, rfl⟩
            rw [ews2] at hlw hwbk hWx Mr
            obtain ⟨ls, els⟩ : ∃ x, lF n = x := ⟨_, rfl⟩
            rw [els] at hWx hlk Kl hll
            have gw := U8_get ws2 (4 * n + k) (by omega)
            have gl := U8_get ls k (by omega)
            obtain ⟨x, ex⟩ : ∃ v, ws2.getD (4 * n + k) 0 = v := ⟨_, rfl⟩
            obtain ⟨y, ey⟩ : ∃ v, ls.getD k 0 = v := ⟨_, rfl⟩
            rw [ex] at hWx hwbk gw
            rw [ey] at hWx hlk gl
            have gw : (U8 ws2 ++ zs)[4 * n + k]? = some (.int .u8 ((x : Nat) : Int)) := by rw [List.getElem?_append_left (by rw [U8_len]; omega)]; exact gw
            have hWx : Hid _ := hWx
            rw [← els] at Kl
            clear ews2 ex ey
            rw [els] at Kl
            have hnK := K12.n
            simp at hnK
            have K12_6 : Bk w.heap.size wr [(false, b1_0, U8 (z176)), (false, b2_1, U8 (z176)), (true, b7, U8 (ws2) ++ zs), (false, bl, U8 (ls))] := ⟨.c l4 Mz.out <| .c l6 Mo.out <| .o hl7 (by omega) Mr.out <| .c ll Kl.out <| trivial, by simp <;> omega⟩
            go_upto_region 14 with fail
            refine rgP K12_6 HBr HBr.size [] [] [(0, 82, .int .i64 ((k : Nat) : Int)), (1, 83, .bool true)] [] [] [] ?_ ?_
            · refine oc g_mv ?_
              exact oc (g_bn (fun uZ => lss_i _ _ (k : Int) 4 true uZ hd1)) on
            intro u13 HB13 sz13 K13
            simp only [fX, nK, nP, Wr.f, aK, pM] at K13
            simp only [setG, setN, List.set_cons_zero, List.set_cons_succ]
            have hlr := (K13.lt 2)
            have hl4_ := (K13.lt 0)
            have hl6_ := (K13.lt 1)
            have hll_ := (K13.lt 3)
            go_upto_region 16 with fail
            refine rgE K13 HB13 HB13.size [.no, .no, .all 15 ([])] [] [(0, 86, .slice (some ⟨b7, 0, none⟩) (16 + 4 * n + k) c7), (1, 87, .slice (some ⟨b7, 0, none⟩) (16 + 4 * n + k) c7), (2, 88, .int .i64 ((n + 4 : Nat) : Int)), (3, 89, .int .i64 ((4 * (n + 4) : Nat) : Int)), (4, 90, .int .i64 ((4 * n : Nat) : Int)), (5, 91, .int .i64 ((k : Nat) : Int)), (6, 92, .int .i64 ((4 * n + k : Nat) : Int)), (7, 93, .pointer (some ⟨b7, 4 * n + k, none⟩)), (8, 94, .int .u8 ((x : Nat) : Int)), (9, 95, .slice (some ⟨bl, 0, none⟩) 4 cl), (10, 96, .int .i64 ((k : Nat) : Int)), (11, 97, .pointer (some ⟨bl, k, none⟩)), (12, 98, .int .u8 ((y : Nat) : Int)), (13, 99, .int .u8 ((x ^^^ y : Nat) : Int))] [(16, 0), (16, 1), (16, 15), (15, 8), (14, 8), (13, 8)] [(16, 7)] [⟨14, 100, some 15, PS w.heap.size 1 (U8 [x ^^^ y])⟩, ⟨15, 101, some 16, PH u13.heap.size b7 ti.size (16 + 4 * n + k + 1) (U8 (ws2) ++ U8 [x ^^^ y])⟩, ⟨16, 7, none, PH u13.heap.size b7 ti.size (16 + 4 * n + k + 1) (U8 (ws2) ++ U8 [x ^^^ y])⟩] [true, true, false] (.cons (fun _ _ _ h1 h2 => h2.stab h1) <| .cons (fun _ _ _ h1 h2 => h2.stab h1) <| .cons (fun _ _ _ h1 h2 => h2.stab h1) <| Stab.nil) ?_ ?_
            · refine oc g_mv ?_
              refine oc g_mv ?_
              refine oc g_mv ?_
              refine oc (g_bn (fun uZ => muli _ _ 4 (n + 4) (4 * (n + 4)) uZ rfl (by omega))) ?_
              refine oc (g_bn (fun uZ => sub_i _ _ ((4 * (n + 4) : Nat) : Int) 16 ((4 * n : Nat) : Int) uZ (by omega) (by omega) (by omega))) ?_
              refine oc g_mv ?_
              refine oc (g_bn (fun uZ => add_i _ _ ((4 * n : Nat) : Int) (k : Int) ((4 * n + k : Nat) : Int) uZ (by omega) (by omega) (by omega))) ?_
              refine oc (g_ix (fun uZ => ixs b7 0 (16 + 4 * n + k) c7 (4 * n + k) (4 * n + k) uZ (by omega) (Nat.zero_add _))) ?_
              refine oc (g_lw 2 (4 * n + k) l8 gw) ?_
              refine oc g_mv ?_
              refine oc g_mv ?_
              refine oc (g_ix (fun uZ => ixs bl 0 4 cl k k uZ hkk (Nat.zero_add _))) ?_
              refine oc (g_lw 3 k l8 gl) ?_
              refine oc (g_bn (fun uZ => xor8 _ _ x y uZ hwbk hlk)) ?_
              refine oc (g_bR 0 (PS w.heap.size 1 (U8 [x ^^^ y])) [0] [.int .u8 ((x ^^^ y : Nat) : Int)] (U8 [x ^^^ y]) (bsB0 (x ^^^ y)) (fun u hu => PS.new 1 _ _ u (Nat.le_trans HB13.size hu))) ?_
              refine oc (g_pE 2 0 1 (PS w.heap.size 1 (U8 [x ^^^ y])) (U8 (ws2)) zs (U8 [x ^^^ y]) Tryd.underlying24 hti hzv (by rw [hsz]; rfl) rfl (fun u y hy => PS_NW hy) U8_mem (by rw [hsz]; rfl) (by rw [hsz, U8_len, hlw]; omega) (by rw [hsz]; omega) hc7 (by rw [hby]; omega) (by omega)) ?_
              exact oc (g_sE 1 2 (PH u13.heap.size b7 ti.size (16 + 4 * n + k + 1) (U8 (ws2) ++ U8 [x ^^^ y]))) on
            intro u14 v14_14 hv14_14 v14_15 hv14_15 v14_16 hv14_16 HB14 sz14 K14
            simp only [fX, nK, nP, Wr.f, aK, pM] at K14
            simp only [setG, setN, setE, List.set_cons_zero, List.set_cons_succ]
            clear K13 HB13
            obtain ⟨b8, c8, zs8, rfl, hb8, hl8, hc8, hz8, Kv8⟩ := hv14_16 rfl
            rw [hsz] at hz8
            rw [← U8_app, ← hWx.out] at Kv8
            have Q4 := (K14.cv 0)
            have Q6 := (K14.cv 1)
            have Ql := (K14.cv 2)
            have q4 := (K14.lt 0)
            have q6 := (K14.lt 1)
            have ql := (K14.lt 2)
            have hnK := K14.n
            simp at hnK
            have K14_7 : Bk w.heap.size u14 [(false, b1_0, U8 (z176)), (false, b2_1, U8 (z176)), (false, bl, U8 (ls)), (false, b8, U8 (sW n (k + 1)) ++ zs8)] := ⟨.c q4 Q4 <| .c q6 Q6 <| .c ql Ql <| .c hl8 Kv8 <| trivial, by simp <;> omega⟩
            go_upto_region 15 with fail
            refine rgP K14_7 HB14 HB14.size [] [] [(0, 84, .int .i64 ((k : Nat) : Int)), (1, 85, .int .i64 ((k + 1 : Nat) : Int)), (2, 11, .int .i64 ((k + 1 : Nat) : Int))] [(2, 0)] [(2, 11)] [] ?_ ?_
            · refine oc g_mv ?_
              refine oc (g_bn (fun uZ => add_i _ _ (k : Int) 1 ((k + 1 : Nat) : Int) uZ (by omega) (by omega) (by omega))) ?_
              exact oc g_as on
            intro u15 HB15 sz15 K15
            simp only [fX, nK, nP, Wr.f, aK, pM] at K15
            simp only [setG, setN, List.set_cons_zero, List.set_cons_succ]
            clear HB14
            go_wp2
            refine ⟨⟨k + 1, b8, c8, zs8, by omega, rfl, rfl, by omega, by omega, by omega, by omega, (K15.lt 3), (K15.cv 3), by omega, (K15.lt 2), (by rw [els]; exact (K15.cv 2)), HB15, (K15.lt 0), (K15.cv 0), (K15.lt 1), (K15.cv 1)⟩, ?_⟩
            simp [intOf] <;> omega
          · have hd1 : decide ((k : Int) < 4) = false := by simp; omega
            have hk4' : k = 4 := by omega
            subst hk4'
            rw [← hWnx] at Mr
            have hnK := K12.n
            simp at hnK
            have K12_6 : Bk w.heap.size wr [(false, b1_0, U8 (z176)), (false, b2_1, U8 (z176)), (false, b7, U8 (sW (n + 1) 0) ++ zs)] := ⟨.c l4 Mz.out <| .c l6 Mo.out <| .c hl7 Mr.out <| trivial, by simp <;> omega⟩
            go_upto_region 14 with fail
            refine rgP K12_6 HBr HBr.size [] [] [(0, 82, .int .i64 ((4 : Nat) : Int)), (1, 83, .bool false)] [] [] [] ?_ ?_
            · refine oc g_mv ?_
              exact oc (g_bn (fun uZ => lss_i _ _ ((4 : Nat) : Int) 4 false uZ hd1)) on
            intro u13 HB13 sz13 K13
            simp only [fX, nK, nP, Wr.f, aK, pM] at K13
            simp only [setG, setN, List.set_cons_zero, List.set_cons_succ]
            go_upto_region 8 with fail
            refine rgP K13 HB13 HB13.size [] [] [(0, 23, .int .i64 ((n + 4 : Nat) : Int)), (1, 24, .int .i64 ((n + 1 + 4 : Nat) : Int)), (2, 9, .int .i64 ((n + 1 + 4 : Nat) : Int))] [(2, 0)] [(2, 9)] [] ?_ ?_
            · refine oc g_mv ?_
              refine oc (g_bn (fun uZ => add_i _ _ ((n + 4 : Nat) : Int) 1 ((n + 1 + 4 : Nat) : Int) uZ (by omega) (by omega) (by omega))) ?_
              exact oc g_as on
            intro u14 HB14 sz14 K14
            simp only [fX, nK, nP, Wr.f, aK, pM] at K14
            simp only [setG, setN, List.set_cons_zero, List.set_cons_succ]
            clear K13 HB13
            go_wp2
            refine ⟨⟨n + 1, b7, c7, zs, by omega, rfl, (by rw [hpw]), rfl, by omega, by omega, hb47, hb67, (K14.lt 2), (K14.cv 2), HB14, (K14.lt 0), (K14.cv 0), (K14.lt 1), (K14.cv 1)⟩, ?_⟩
            simp [intOf] <;> omega
      · have he1 : decide ((((n + 4) % 4 : Nat) : Int) = 0) = false := by simp; omega
        have hpw := hps.out n
        rw [if_neg h4] at hpw
        have hB := hB h4
        rw [← hB] at holC
        have K8_4 : Bk w.heap.size u8 [(false, b1_0, U8 (z176)), (false, b2_1, U8 (z176)), (false, b7, U8 (ws) ++ zs), (false, bl, U8 (lF n))] := ⟨.c (K8.lt 0) (K8.cv 0) <| .c (K8.lt 1) (K8.cv 1) <| .c (K8.lt 2) (K8.cv 2) <| .c hol2 holC <| trivial, by simp <;> omega⟩
        go_upto_region 10 with fail
        refine rgP K8_4 HB8 HB8.size [] [] [(0, 50, .int .i64 ((n + 4 : Nat) : Int)), (1, 51, .int .i64 (((n + 4) % 4 : Nat) : Int)), (2, 52, .bool false)] [] [] [] ?_ ?_
        · refine oc g_mv ?_
          refine oc (g_bn (fun uZ => remi _ _ (n + 4) 4 uZ (by omega) (by decide))) ?_
          exact oc (g_bn (fun uZ => eqz_i _ _ (((n + 4) % 4 : Nat) : Int) 0 false uZ he1)) on
        intro u9 HB9 sz9 K9
        simp only [fX, nK, nP, Wr.f, aK, pM] at K9
        simp only [setG, setN, List.set_cons_zero, List.set_cons_succ]
        clear HB8
        skip
        go_upto_region 13 with fail
        refine rgP K9 HB9 HB9.size [] [] [(0, 11, (Go.Value.int Go.IntKind.i64 0))] [] [] [] ?_ ?_
        · exact oc g_as on
        intro u10 HB10 sz10 K10
        simp only [fX, nK, nP, Wr.f, aK, pM] at K10
        simp only [setG, setN, List.set_cons_zero, List.set_cons_succ]
        clear K9 HB9
        go_wp2_with fail
        clear hd1
        go_loopw [7, 11] (fun s7 s11 wr => ∃ (k b7 c7 : Nat) (zs : List Value), k ≤ 4 ∧ s11 = .int .i64 (k : Int) ∧ s7 = .slice (some ⟨b7, 0, none⟩) (16 + 4 * n + k) c7 ∧ 16 + 4 * n + k ≤ c7 ∧ zs.length = c7 - (16 + 4 * n + k) ∧ b1_0 < b7 ∧ b2_1 < b7 ∧ b7 < wr.heap.size ∧ Hid (CV wr b7 (U8 (sW n k) ++ zs)) ∧ b7 ≠ bl ∧ bl < wr.heap.size ∧ Hid (CV wr bl (U8 (lF n))) ∧ Below w.heap.size w wr ∧ b1_0 < wr.heap.size ∧ Hid (CV wr b1_0 (U8 (z176))) ∧ b2_1 < wr.heap.size ∧ Hid (CV wr b2_1 (U8 (z176)))) (fun _ s11 _ => 4 - (intOf s11).toNat)
        case atStart => exact ⟨0, b7, c7, zs, by omega, rfl, rfl, hc7, hz7, hb47, hb67, (K10.lt 2), (by rw [ews]; exact (K10.cv 2)), by omega, (K10.lt 3), (K10.cv 3), HB10, (K10.lt 0), (K10.cv 0), (K10.lt 1), (K10.cv 1)⟩
        case round =>
          clear hc7 hz7 hb47 hb67 hl7 Mr HBr l4 Mz l6 Mo hol2 holC hbl g0 g1 g2 g3 ews
          obtain ⟨k, b7, c7, zs, hk4, rfl, rfl, hc7, hz7, hb47, hb67, hl7, Mr, hnl, ll, Kl, HBr, l4, Mz, l6, Mo⟩ := hrel
          clear HB10
          by_cases hkk : k < 4
          · have hd1 : decide ((k : Int) < 4) = true := by simp; omega
            have hlw := hWL k
            have hwbk := hWB k (4 * n + k)
            have hWx := hWk k
            have hlk := hlb k
            obtain ⟨ws2, ews2⟩ : ∃ x, sW n k = x := ⟨_, rfl⟩
            rw [ews2] at hlw hwbk hWx Mr
            obtain ⟨ls, els⟩ : ∃ x, lF n = x := ⟨_, rfl⟩
            rw [els] at hWx hlk Kl hll
            have gw := U8_get ws2 (4 * n + k) (by omega)
            have gl := U8_get ls k (by omega)
            obtain ⟨x, ex⟩ : ∃ v, ws2.getD (4 * n + k) 0 = v := ⟨_, rfl⟩
            obtain ⟨y, ey⟩ : ∃ v, ls.getD k 0 = v := ⟨_, rfl⟩
            rw [ex] at hWx hwbk gw
            rw [ey] at hWx hlk gl
            have gw : (U8 ws2 ++ zs)[4 * n + k]? = some (.int .u8 ((x : Nat) : Int)) := by rw [List.getElem?_append_left (by rw [U8_len]; omega)]; exact gw
            have hWx : Hid _ := hWx
            rw [← els] at Kl
            clear ews2 ex ey
            rw [els] at Kl
            have hnK := K10.n
            simp at hnK
            have K10_5 : Bk w.heap.size wr [(false, b1_0, U8 (z176)), (false, b2_1, U8 (z176)), (true, b7, U8 (ws2) ++ zs), (false, bl, U8 (ls))] := ⟨.c l4 Mz.out <| .c l6 Mo.out <| .o hl7 (by omega) Mr.out <| .c ll Kl.out <| trivial, by simp <;> omega⟩
            go_upto_region 14 with fail
            refine rgP K10_5 HBr HBr.size [] [] [(0, 82, .int .i64 ((k : Nat) : Int)), (1, 83, .bool true)] [] [] [] ?_ ?_
            · refine oc g_mv ?_
              exact oc (g_bn (fun uZ => lss_i _ _ (k : Int) 4 true uZ hd1)) on
            intro u11 HB11 sz11 K11
            simp only [fX, nK, nP, Wr.f, aK, pM] at K11
            simp only [setG, setN, List.set_cons_zero, List.set_cons_succ]
            have hlr := (K11.lt 2)
            have hl4_ := (K11.lt 0)
            have hl6_ := (K11.lt 1)
            have hll_ := (K11.lt 3)
            go_upto_region 16 with fail
            refine rgE K11 HB11 HB11.size [.no, .no, .all 15 ([])] [] [(0, 86, .slice (some ⟨b7, 0, none⟩) (16 + 4 * n + k) c7), (1, 87, .slice (some ⟨b7, 0, none⟩) (16 + 4 * n + k) c7), (2, 88, .int .i64 ((n + 4 : Nat) : Int)), (3, 89, .int .i64 ((4 * (n + 4) : Nat) : Int)), (4, 90, .int .i64 ((4 * n : Nat) : Int)), (5, 91, .int .i64 ((k : Nat) : Int)), (6, 92, .int .i64 ((4 * n + k : Nat) : Int)), (7, 93, .pointer (some ⟨b7, 4 * n + k, none⟩)), (8, 94, .int .u8 ((x : Nat) : Int)), (9, 95, .slice (some ⟨bl, 0, none⟩) 4 cl), (10, 96, .int .i64 ((k : Nat) : Int)), (11, 97, .pointer (some ⟨bl, k, none⟩)), (12, 98, .int .u8 ((y : Nat) : Int)), (13, 99, .int .u8 ((x ^^^ y : Nat) : Int))] [(16, 0), (16, 1), (16, 15), (15, 8), (14, 8), (13, 8)] [(16, 7)] [⟨14, 100, some 15, PS w.heap.size 1 (U8 [x ^^^ y])⟩, ⟨15, 101, some 16, PH u11.heap.size b7 ti.size (16 + 4 * n + k + 1) (U8 (ws2) ++ U8 [x ^^^ y])⟩, ⟨16, 7, none, PH u11.heap.size b7 ti.size (16 + 4 * n + k + 1) (U8 (ws2) ++ U8 [x ^^^ y])⟩] [true, true, false] (.cons (fun _ _ _ h1 h2 => h2.stab h1) <| .cons (fun _ _ _ h1 h2 => h2.stab h1) <| .cons (fun _ _ _ h1 h2 => h2.stab h1) <| Stab.nil) ?_ ?_
            · refine oc g_mv ?_
              refine oc g_mv ?_
              refine oc g_mv ?_
              refine oc (g_bn (fun uZ => muli _ _ 4 (n + 4) (4 * (n + 4)) uZ rfl (by omega))) ?_
              refine oc (g_bn (fun uZ => sub_i _ _ ((4 * (n + 4) : Nat) : Int) 16 ((4 * n : Nat) : Int) uZ (by omega) (by omega) (by omega))) ?_
              refine oc g_mv ?_
              refine oc (g_bn (fun uZ => add_i _ _ ((4 * n : Nat) : Int) (k : Int) ((4 * n + k : Nat) : Int) uZ (by omega) (by omega) (by omega))) ?_
              refine oc (g_ix (fun uZ => ixs b7 0 (16 + 4 * n + k) c7 (4 * n + k) (4 * n + k) uZ (by omega) (Nat.zero_add _))) ?_
              refine oc (g_lw 2 (4 * n + k) l8 gw) ?_
              refine oc g_mv ?_
              refine oc g_mv ?_
              refine oc (g_ix (fun uZ => ixs bl 0 4 cl k k uZ hkk (Nat.zero_add _))) ?_
              refine oc (g_lw 3 k l8 gl) ?_
              refine oc (g_bn (fun uZ => xor8 _ _ x y uZ hwbk hlk)) ?_
              refine oc (g_bR 0 (PS w.heap.size 1 (U8 [x ^^^ y])) [0] [.int .u8 ((x ^^^ y : Nat) : Int)] (U8 [x ^^^ y]) (bsB0 (x ^^^ y)) (fun u hu => PS.new 1 _ _ u (Nat.le_trans HB11.size hu))) ?_
              refine oc (g_pE 2 0 1 (PS w.heap.size 1 (U8 [x ^^^ y])) (U8 (ws2)) zs (U8 [x ^^^ y]) Tryd.underlying24 hti hzv (by rw [hsz]; rfl) rfl (fun u y hy => PS_NW hy) U8_mem (by rw [hsz]; rfl) (by rw [hsz, U8_len, hlw]; omega) (by rw [hsz]; omega) hc7 (by rw [hby]; omega) (by omega)) ?_
              exact oc (g_sE 1 2 (PH u11.heap.size b7 ti.size (16 + 4 * n + k + 1) (U8 (ws2) ++ U8 [x ^^^ y]))) on
            intro u12 v12_14 hv12_14 v12_15 hv12_15 v12_16 hv12_16 HB12 sz12 K12
            simp only [fX, nK, nP, Wr.f, aK, pM] at K12
            simp only [setG, setN, setE, List.set_cons_zero, List.set_cons_succ]
            clear K11 HB11
            obtain ⟨b8, c8, zs8, rfl, hb8, hl8, hc8, hz8, Kv8⟩ := hv12_16 rfl
            rw [hsz] at hz8
            rw [← U8_app, ← hWx.out] at Kv8
            have Q4 := (K12.cv 0)
            have Q6 := (K12.cv 1)
            have Ql := (K12.cv 2)
            have q4 := (K12.lt 0)
            have q6 := (K12.lt 1)
            have ql := (K12.lt 2)
            have hnK := K12.n
            simp at hnK
            have K12_6 : Bk w.heap.size u12 [(false, b1_0, U8 (z176)), (false, b2_1, U8 (z176)), (false, bl, U8 (ls)), (false, b8, U8 (sW n (k + 1)) ++ zs8)] := ⟨.c q4 Q4 <| .c q6 Q6 <| .c ql Ql <| .c hl8 Kv8 <| trivial, by simp <;> omega⟩
            go_upto_region 15 with fail
            refine rgP K12_6 HB12 HB12.size [] [] [(0, 84, .int .i64 ((k : Nat) : Int)), (1, 85, .int .i64 ((k + 1 : Nat) : Int)), (2, 11, .int .i64 ((k + 1 : Nat) : Int))] [(2, 0)] [(2, 11)] [] ?_ ?_
            · refine oc g_mv ?_
              refine oc (g_bn (fun uZ => add_i _ _ (k : Int) 1 ((k + 1 : Nat) : Int) uZ (by omega) (by omega) (by omega))) ?_
              exact oc g_as on
            intro u13 HB13 sz13 K13
            simp only [fX, nK, nP, Wr.f, aK, pM] at K13
            simp only [setG, setN, List.set_cons_zero, List.set_cons_succ]
            clear HB12
            go_wp2
            refine ⟨⟨k + 1, b8, c8, zs8, by omega, rfl, rfl, by omega, by omega, by omega, by omega, (K13.lt 3), (K13.cv 3), by omega, (K13.lt 2), (by rw [els]; exact (K13.cv 2)), HB13, (K13.lt 0), (K13.cv 0), (K13.lt 1), (K13.cv 1)⟩, ?_⟩
            simp [intOf] <;> omega
          · have hd1 : decide ((k : Int) < 4) = false := by simp; omega
            have hk4' : k = 4 := by omega
            subst hk4'
            rw [← hWnx] at Mr
            have hnK := K10.n
            simp at hnK
            have K10_5 : Bk w.heap.size wr [(false, b1_0, U8 (z176)), (false, b2_1, U8 (z176)), (false, b7, U8 (sW (n + 1) 0) ++ zs)] := ⟨.c l4 Mz.out <| .c l6 Mo.out <| .c hl7 Mr.out <| trivial, by simp <;> omega⟩
            go_upto_region 14 with fail
            refine rgP K10_5 HBr HBr.size [] [] [(0, 82, .int .i64 ((4 : Nat) : Int)), (1, 83, .bool false)] [] [] [] ?_ ?_
            · refine oc g_mv ?_
              exact oc (g_bn (fun uZ => lss_i _ _ ((4 : Nat) : Int) 4 false uZ hd1)) on
            intro u11 HB11 sz11 K11
            simp only [fX, nK, nP, Wr.f, aK, pM] at K11
            simp only [setG, setN, List.set_cons_zero, List.set_cons_succ]
            go_upto_region 8 with fail
            refine rgP K11 HB11 HB11.size [] [] [(0, 23, .int .i64 ((n + 4 : Nat) : Int)), (1, 24, .int .i64 ((n + 1 + 4 : Nat) : Int)), (2, 9, .int .i64 ((n + 1 + 4 : Nat) : Int))] [(2, 0)] [(2, 9)] [] ?_ ?_
            · refine oc g_mv ?_
              refine oc (g_bn (fun uZ => add_i _ _ ((n + 4 : Nat) : Int) 1 ((n + 1 + 4 : Nat) : Int) uZ (by omega) (by omega) (by omega))) ?_
              exact oc g_as on
            intro u12 HB12 sz12 K12
            simp only [fX, nK, nP, Wr.f, aK, pM] at K12
            simp only [setG, setN, List.set_cons_zero, List.set_cons_succ]
            clear K11 HB11
            go_wp2
            refine ⟨⟨n + 1, b7, c7, zs, by omega, rfl, (by rw [hpw]), rfl, by omega, by omega, hb47, hb67, (K12.lt 2), (K12.cv 2), HB12, (K12.lt 0), (K12.cv 0), (K12.lt 1), (K12.cv 1)⟩, ?_⟩
            simp [intOf] <;> omega
    · have hd1 : decide (((n + 4 : Nat) : Int) < 44) = false := by simp; omega
      have hn4 : n = 40 := by omega
      subst hn4
      have hlen := hWl.out 40 0
      have hwb := hWb.out 40 0
      have hOs := hOs.out
      obtain ⟨ws, ews⟩ : ∃ x, sW 40 0 = x := ⟨_, rfl⟩
      rw [ews] at hlen hwb Mr hOs
      have Mr : Hid (CV wr b7 (U8 ws)) := fun j v h => Mr.out j v (by rw [List.getElem?_append_left (List.getElem?_eq_some_iff.1 h).1]; exact h)
      clear ews
      have hnK := K6.n
      simp at hnK
      have K6_3 : Bk w.heap.size wr [(false, b1_0, U8 (z176)), (false, b2_1, U8 (z176)), (false, b7, U8 (ws))] := ⟨.c l4 Mz.out <| .c l6 Mo.out <| .c hl7 Mr.out <| trivial, by simp <;> omega⟩
      go_upto_region 7 with fail
      refine rgP K6_3 HBr HBr.size [] [] [(0, 21, .int .i64 ((40 + 4 : Nat) : Int)), (1, 22, .bool false)] [] [] [] ?_ ?_
      · refine oc g_mv ?_
        exact oc (g_bn (fun uZ => lss_i _ _ ((40 + 4 : Nat) : Int) 44 false uZ hd1)) on
      intro u7 HB7 sz7 K7
      simp only [fX, nK, nP, Wr.f, aK, pM] at K7
      simp only [setG, setN, List.set_cons_zero, List.set_cons_succ]
      go_upto_region 17 with fail
      refine rgP K7 HB7 HB7.size [] [] [(0, 12, (Go.Value.int Go.IntKind.i64 0))] [] [] [] ?_ ?_
      · exact oc g_as on
      intro u8 HB8 sz8 K8
      simp only [fX, nK, nP, Wr.f, aK, pM] at K8
      simp only [setG, setN, List.set_cons_zero, List.set_cons_succ]
      clear K7 HB7
      go_wp2_with fail
      clear hd1
      go_loopw [12] (fun s12 wr => ∃ (i : Nat), i ≤ 176 ∧ s12 = .int .i64 (i : Int) ∧ b7 < wr.heap.size ∧ Hid (CV wr b7 (U8 ws)) ∧ Below w.heap.size w wr ∧ b1_0 < wr.heap.size ∧ Hid (CV wr b1_0 (U8 (z176))) ∧ b2_1 < wr.heap.size ∧ Hid (CV wr b2_1 (U8 (oF i)))) (fun s12 _ => 176 - (intOf s12).toNat)
      case atStart => exact ⟨0, by omega, rfl, (K8.lt 2), (K8.cv 2), HB8, (K8.lt 0), (K8.cv 0), (K8.lt 1), (by rw [hO0.out]; exact (K8.cv 1))⟩
      case round =>
        clear Mr hl7 HBr l4 Mz l6 Mo
        obtain ⟨i, hi, rfl, hl7, Mr, HBr, l4, Mz, l6, Mo⟩ := hrel
        clear HB8
        by_cases hji : i < 176
        · have hd1 : decide ((i : Int) < 176) = true := by simp; omega
          have hO := hOs i
          have hOl := hOl.out i
          obtain ⟨os, eos⟩ : ∃ x, oF i = x := ⟨_, rfl⟩
          rw [eos] at hO hOl Mo
          have gw := U8_get ws i (by omega)
          have go := U8_get os i (by omega)
          obtain ⟨x, ex⟩ : ∃ v, ws.getD i 0 = v := ⟨_, rfl⟩
          obtain ⟨z, ez⟩ : ∃ v, os.getD i 0 = v := ⟨_, rfl⟩
          rw [ex] at gw hO
          rw [ez] at go
          have hO : Hid _ := hO
          clear eos ex ez
          have hnK := K8.n
          simp at hnK
          have K8_4 : Bk w.heap.size wr [(false, b1_0, U8 (z176)), (true, b2_1, U8 (os)), (false, b7, U8 (ws))] := ⟨.c l4 Mz.out <| .o l6 (by omega) Mo.out <| .c hl7 Mr.out <| trivial, by simp <;> omega⟩
          go_upto_region 18 with fail
          refine rgP K8_4 HBr HBr.size [] [] [(0, 102, .int .i64 ((i : Nat) : Int)), (1, 103, .bool true)] [] [] [] ?_ ?_
          · refine oc g_mv ?_
            exact oc (g_bn (fun uZ => lss_i _ _ (i : Int) 176 true uZ hd1)) on
          intro u9 HB9 sz9 K9
          simp only [fX, nK, nP, Wr.f, aK, pM] at K9
          simp only [setG, setN, List.set_cons_zero, List.set_cons_succ]
          go_upto_region 20 with fail
          refine rgD K9 HB9 HB9.size [.no, .all 10 (U8 (os.set i x))] [] [(0, 106, .int .i64 ((i : Nat) : Int)), (1, 107, .int .i64 ((i / 16 : Nat) : Int)), (2, 108, .int .i64 ((i : Nat) : Int)), (3, 109, .int .i64 ((i % 16 : Nat) : Int)), (4, 110, .slice (some ⟨b7, 0, none⟩) 176 c7), (5, 111, .int .i64 ((i : Nat) : Int)), (6, 112, .pointer (some ⟨b7, i, none⟩)), (7, 113, .int .u8 ((x : Nat) : Int)), (8, 114, .pointer (some ⟨b2_1, 16 * (i / 16), none⟩)), (9, 115, .pointer (some ⟨b2_1, i, none⟩))] [] [] [] ?_ ?_
          · refine oc g_mv ?_
            refine oc (g_bn (fun uZ => quo_n _ _ i 16 uZ (by omega) (by decide))) ?_
            refine oc g_mv ?_
            refine oc (g_bn (fun uZ => remi _ _ i 16 uZ (by omega) (by decide))) ?_
            refine oc g_mv ?_
            refine oc g_mv ?_
            refine oc (g_ix (fun uZ => ixs b7 0 176 c7 i i uZ hji (Nat.zero_add _))) ?_
            refine oc (g_lw 2 (i) l8 (gw)) ?_
            refine oc (g_ix (fun uZ => xb11 b2_1 (i / 16) uZ (by omega))) ?_
            refine oc (g_ix (fun uZ => xb16p b2_1 (16 * (i / 16)) (i % 16) i uZ (by omega) (by omega))) ?_
            exact oc (g_sw 1 (i) s8 (go) (U8_set _ _ _)) on
          intro u10 HB10 sz10 K10
          simp only [fX, nK, nP, Wr.f, aK, pM] at K10
          simp only [setG, setN, List.set_cons_zero, List.set_cons_succ]
          clear K9 HB9
          go_upto_region 19 with fail
          refine rgP K10 HB10 HB10.size [] [] [(0, 104, .int .i64 ((i : Nat) : Int)), (1, 105, .int .i64 ((i + 1 : Nat) : Int)), (2, 12, .int .i64 ((i + 1 : Nat) : Int))] [(2, 0)] [(2, 12)] [] ?_ ?_
          · refine oc g_mv ?_
            refine oc (g_bn (fun uZ => add_i _ _ (i : Int) 1 ((i + 1 : Nat) : Int) uZ (by omega) (by omega) (by omega))) ?_
            exact oc g_as on
          intro u11 HB11 sz11 K11
          simp only [fX, nK, nP, Wr.f, aK, pM] at K11
          simp only [setG, setN, List.set_cons_zero, List.set_cons_succ]
          clear K10 HB10
          go_wp2
          refine ⟨⟨i + 1, by omega, rfl, (K11.lt 2), (K11.cv 2), HB11, (K11.lt 0), (K11.cv 0), (K11.lt 1), (by rw [hO.out]; exact (K11.cv 1))⟩, ?_⟩
          simp [intOf] <;> omega
        · have hd1 : decide ((i : Int) < 176) = false := by simp; omega
          have hi176 : i = 176 := by omega
          subst hi176
          have hOl := hOl.out 176
          have hnK := K8.n
          simp at hnK
          have K8_4 : Bk w.heap.size wr [(true, b1_0, U8 (z176)), (false, b2_1, U8 (oF 176)), (false, b7, U8 (ws))] := ⟨.o l4 (by omega) Mz.out <| .c l6 Mo.out <| .c hl7 Mr.out <| trivial, by simp <;> omega⟩
          go_upto_region 18 with fail
          refine rgP K8_4 HBr HBr.size [] [] [(0, 102, .int .i64 ((176 : Nat) : Int)), (1, 103, .bool false)] [] [] [] ?_ ?_
          · refine oc g_mv ?_
            exact oc (g_bn (fun uZ => lss_i _ _ ((176 : Nat) : Int) 176 false uZ hd1)) on
          intro u9 HB9 sz9 K9
          simp only [fX, nK, nP, Wr.f, aK, pM] at K9
          simp only [setG, setN, List.set_cons_zero, List.set_cons_succ]
          go_upto_region 21 with fail
          refine rgP K9 HB9 HB9.size [.all 1 (U8 (oF 176))] [] [(0, 116, .agg (U8 (oF 176)).toArray), (2, 5, (Go.Value.int Go.IntKind.i64 0))] [] [] [] ?_ ?_
          · refine oc (g_lR 1 0 (cs := U8 (oF 176)) (fun j v h => by rw [Nat.zero_add]; exact h) Tryd.underlying33 (by rw [U8_len, hOl]; exact info__11__16_uint8)) ?_
            refine oc (g_st 0 info__11__16_uint8 (h1 := U8_one _) (hm := by rw [U8_len, hOl]) (hl := by first | rw [U8_len, U8_len, hOl, show z176.length = 176 from hz176] | rfl)) ?_
            exact oc g_as on
          intro u10 HB10 sz10 K10
          simp only [fX, nK, nP, Wr.f, aK, pM] at K10
          simp only [setG, setN, List.set_cons_zero, List.set_cons_succ]
          clear K9 HB9
          go_wp2
          refine bodyPost_ret (res_ct Tryd.results25 rfl rfl (K10.cv 0) Tryd.underlying33 rfl (by rw [U8_len, hOl]; exact info__11__16_uint8)) rfl ⟨rfl, HB10⟩
end Go.Proofs.YtlcjbnhfmcnnfaaDoor
