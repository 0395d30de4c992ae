/- The reference's table of substitutes. -/
import Derived.Test.YtlcjbnhfmcnnfaaDoorAR1
import Derived.Test.YtlcjbnhfmcnnfaaDoorRBX
namespace Go.Proofs.YtlcjbnhfmcnnfaaDoor
open Go.RowKit
set_option linter.unusedVariables false
set_option linter.unusedSimpArgs false
theorem mk256 (w : World) : (Instr.makeSlice 24 (.int .i64 256) (.int .i64 256)).run Tryd.prog w = .ok (.slice (some ⟨w.heap.size, 0, none⟩) 256 256) (w.alloc (.cells (U8 z256).toArray 5)) := mkB .i64 256 (by decide) w
theorem ixs8 (b n c k : Nat) (w : World) (h : k < n) : (Instr.indexAt 24 (.slice (some ⟨b, 0, none⟩) n c) (.int .u8 k)).run Tryd.prog w = .ok (.pointer (some ⟨b, k, none⟩)) w := by
  have h2 : (k : Int) < n := by omega
  go_simp
set_option maxRecDepth 100000 in
set_option maxHeartbeats 4000000 in
theorem cTable_core (pF tF : Nat → List Nat) (xF : Nat → Nat) (yF oF : Nat → Nat → Nat) (w : World) (gz0 : (U8 z256)[0]? = some (.int .u8 ((0 : Nat) : Int))) (hx0 : Hid (xF 0 = 1)) (hp0 : Hid (pF 0 = [])) (hps : Hid (∀ k, pF (k + 1) = pF k ++ [xF k])) (hpl : Hid (∀ k, (pF k).length = k)) (hpg : Hid (∀ k, (pF 255).getD k 0 < 256))
    (hTm : Hid (∀ k u, Calls Tryd.prog 11 #[.int .u8 ((xF k : Nat) : Int), .int .u8 3] u fun e w' => e = .returned (.int .u8 ((xF (k + 1) : Nat) : Int)) ∧ Below u.heap.size u w'))
    (hF0 : Hid (∀ v, yF v 0 = v ∧ oF v 0 = v)) (hyF : Hid (∀ v, v < 256 → ∀ j, yF v j < 256 ∧ yF v (j + 1) = rotb (yF v j))) (hoF : Hid (∀ v, v < 256 → ∀ j, oF v j < 256 ∧ oF v (j + 1) = oF v j ^^^ yF v (j + 1)))
    (ht0 : Hid (tF 0 = z256.set 0 99)) (hts : Hid (∀ i, tF (i + 1) = (tF i).set ((pF 255).getD i 0) (oF ((pF 255).getD ((255 - i) % 255) 0) 4 ^^^ 99))) (htL : Hid (∀ i, (tF i).length = 256)) :
    Calls Tryd.prog 12 #[] w fun e w' => ∃ v, e = .returned v ∧ PS w.heap.size 256 (U8 (tF 255)) w' v ∧ Below w.heap.size w w' := by
  go_enter Tryd.func12, Tryd.ntmps12
  have HB0 : Below w.heap.size w w := Below.refl _ _
  obtain ⟨ti, hti, htm⟩ := Option.map_eq_some_iff.1 infoB
  simp only [Prod.mk.injEq] at htm
  obtain ⟨hzv, hsz, hby⟩ := htm
  have K0_1 := Bk.nil (w.heap.size) w
  go_upto_region 1 with fail
  refine rgF K0_1 HB0 HB0.size [] [] [] [(1, 0)] [] [⟨0, 10, some 1, PZ w.heap.size⟩, ⟨1, 1, none, PZ w.heap.size⟩] [] (.cons (fun _ _ _ h1 h2 => h2.stab h1) <| .cons (fun _ _ _ h1 h2 => h2.stab h1) <| Stab.nil) ?_ ?_
  · refine oc (g_bs 0 (PZ w.heap.size) bs0b (fun u hu => PZ.new hu)) ?_
    exact oc (g_sE 0 1 (PZ w.heap.size)) on
  intro u1 v1_0 hv1_0 v1_1 hv1_1 HB1 sz1 K1
  simp only [fX, nK, nP, Wr.f, aK, pM] at K1
  simp only [setG, setN, setE, List.set_cons_zero, List.set_cons_succ]
  clear HB0
  obtain ⟨b1, rfl, ho1, ho2⟩ := hv1_1 rfl
  go_upto_region 2 with fail
  refine rgP K1 HB1 HB1.size [] [] [(0, 2, (Go.Value.int Go.IntKind.u8 1))] [] [] [] ?_ ?_
  · exact oc g_as on
  intro u2 HB2 sz2 K2
  simp only [fX, nK, nP, Wr.f, aK, pM] at K2
  simp only [setG, setN, List.set_cons_zero, List.set_cons_succ]
  clear K1 HB1
  go_upto_region 3 with fail
  refine rgP K2 HB2 HB2.size [] [] [(0, 3, (Go.Value.int Go.IntKind.i64 0))] [] [] [] ?_ ?_
  · exact oc g_as on
  intro u3 HB3 sz3 K3
  simp only [fX, nK, nP, Wr.f, aK, pM] at K3
  simp only [setG, setN, List.set_cons_zero, List.set_cons_succ]
  clear K2 HB2
  go_wp2_with fail
  go_loopw [1, 2, 3] (fun s1 s2 s3 wr => ∃ (k b1 c1 : Nat) (zs : List Value), k ≤ 255 ∧ s3 = .int .i64 (k : Int) ∧ s2 = .int .u8 ((xF k : Nat) : Int) ∧ s1 = .slice (some ⟨b1, 0, none⟩) k c1 ∧ k ≤ c1 ∧ zs.length = c1 - k ∧ w.heap.size ≤ b1 ∧ b1 < wr.heap.size ∧ Hid (CV wr b1 (U8 (pF k) ++ zs)) ∧ Below w.heap.size w wr) (fun _ _ s3 _ => 255 - (intOf s3).toNat)
  case atStart => exact ⟨0, b1, 0, [], by omega, rfl, (by rw [hx0.out]; rfl), rfl, Nat.le_refl _, rfl, ho1, Nat.lt_of_lt_of_le ho2 (by omega), (by rw [hp0.out]; exact fun j v h => by simp [U8] at h), HB3⟩
  case round =>
    clear ho1 ho2
    obtain ⟨k, b1, c1, zs, hk, rfl, rfl, rfl, hc1, hz1, hb1, hl1, Kv, HBr⟩ := hrel
    clear HB3
    by_cases hj : k < 255
    · have hd1 : decide ((k : Int) < 255) = true := by simp; omega
      have hxs := hpl.out k
      have hp := hps.out k
      have hT := hTm.out k
      obtain ⟨xs, exs⟩ : ∃ xs, pF k = xs := ⟨_, rfl⟩
      obtain ⟨x, ex⟩ : ∃ x, xF k = x := ⟨_, rfl⟩
      rw [exs] at hxs hp Kv
      rw [ex] at hp hT
      rw [ex]
      have hT : Hid _ := hT
      have hp : Hid _ := hp
      clear exs ex
      have K3_2 : Bk w.heap.size wr [(true, b1, U8 (xs) ++ zs)] := ⟨.o hl1 (by omega) Kv.out <| trivial, by simp⟩
      go_upto_region 4 with fail
      refine rgP K3_2 HBr HBr.size [] [] [(0, 11, .int .i64 ((k : Nat) : Int)), (1, 12, .bool true)] [] [] [] ?_ ?_
      · refine oc g_mv ?_
        exact oc (g_bn (fun uZ => lss_i _ _ (k : Int) 255 true uZ hd1)) on
      intro u4 HB4 sz4 K4
      simp only [fX, nK, nP, Wr.f, aK, pM] at K4
      simp only [setG, setN, List.set_cons_zero, List.set_cons_succ]
      go_upto_region 6 with fail
      refine rgF K4 HB4 HB4.size [.all 3 ([])] [] [(0, 15, .slice (some ⟨b1, 0, none⟩) k c1), (1, 16, .int .u8 ((x : Nat) : Int))] [(4, 0), (4, 3)] [(4, 1)] [⟨2, 17, some 3, PS w.heap.size 1 (U8 [x])⟩, ⟨3, 18, some 4, PH u4.heap.size b1 ti.size (k + 1) (U8 (xs) ++ U8 [x])⟩, ⟨4, 1, none, PH u4.heap.size b1 ti.size (k + 1) (U8 (xs) ++ U8 [x])⟩] [false] (.cons (fun _ _ _ h1 h2 => h2.stab h1) <| .cons (fun _ _ _ h1 h2 => h2.stab h1) <| .cons (fun _ _ _ h1 h2 => h2.stab h1) <| Stab.nil) ?_ ?_
      · refine oc g_mv ?_
        refine oc g_mv ?_
        refine oc (g_bR 0 (PS w.heap.size 1 (U8 [x])) [0] [.int .u8 ((x : Nat) : Int)] (U8 [x]) (bsB0 x) (fun u hu => PS.new 1 _ _ u (Nat.le_trans HB4.size hu))) ?_
        refine oc (g_pE 0 0 1 (PS w.heap.size 1 (U8 [x])) (U8 (xs)) zs (U8 [x]) Tryd.underlying24 hti hzv (by rw [hsz]; rfl) rfl (fun u y hy => PS_NW hy) U8_mem (by rw [hsz]; rfl) (by rw [hsz, U8_len, hxs]; omega) (by rw [hsz]; omega) hc1 (by rw [hby]; omega) (by omega)) ?_
        exact oc (g_sE 1 2 (PH u4.heap.size b1 ti.size (k + 1) (U8 (xs) ++ U8 [x]))) on
      intro u5 v5_2 hv5_2 v5_3 hv5_3 v5_4 hv5_4 HB5 sz5 K5
      simp only [fX, nK, nP, Wr.f, aK, pM] at K5
      simp only [setG, setN, setE, List.set_cons_zero, List.set_cons_succ]
      clear K4 HB4
      obtain ⟨b6, c6, zs6, rfl, hb6, hl6, hc6, hz6, Kv6⟩ := hv5_4 rfl
      rw [hsz] at hz6
      rw [← U8_app, ← hp.out] at Kv6
      have K5_3 : Bk w.heap.size u5 [(false, b6, U8 (pF (k + 1)) ++ zs6)] := ⟨.c hl6 Kv6 <| trivial, by simp⟩
      go_upto_region 7 with fail
      refine rgP K5_3 HB5 HB5.size [] [] [(0, 19, .int .u8 ((x : Nat) : Int)), (1, 20, .int .u8 ((xF (k + 1) : Nat) : Int)), (2, 2, .int .u8 ((xF (k + 1) : Nat) : Int))] [(2, 0)] [(2, 2)] [] ?_ ?_
      · refine oc g_mv ?_
        refine oc (g_cl ent_seneschalref06_Times (fun uZ => hT.out uZ)) ?_
        exact oc g_as on
      intro u6 HB6 sz6 K6
      simp only [fX, nK, nP, Wr.f, aK, pM] at K6
      simp only [setG, setN, List.set_cons_zero, List.set_cons_succ]
      clear HB5
      go_upto_region 5 with fail
      refine rgP K6 HB6 HB6.size [] [] [(0, 13, .int .i64 ((k : Nat) : Int)), (1, 14, .int .i64 ((k + 1 : Nat) : Int)), (2, 3, .int .i64 ((k + 1 : Nat) : Int))] [(2, 0)] [(2, 3)] [] ?_ ?_
      · refine oc g_mv ?_
        refine oc (g_bn (fun uZ => add_i _ _ (k : Int) 1 ((k + 1 : Nat) : Int) uZ (by omega) (by omega) (by omega))) ?_
        exact oc g_as on
      intro u7 HB7 sz7 K7
      simp only [fX, nK, nP, Wr.f, aK, pM] at K7
      simp only [setG, setN, List.set_cons_zero, List.set_cons_succ]
      clear K6 HB6
      go_wp2
      refine ⟨⟨k + 1, b6, c6, zs6, by omega, rfl, rfl, rfl, hc6, by omega, by omega, (K7.lt 0), (K7.cv 0), HB7⟩, ?_⟩
      simp [intOf] <;> omega
    · have hd1 : decide ((k : Int) < 255) = false := by simp; omega
      have hk5 : k = 255 := by omega
      subst hk5
      have hxs := hpl.out 255
      obtain ⟨ps, eps⟩ : ∃ xs, pF 255 = xs := ⟨_, rfl⟩
      rw [eps] at hxs Kv hpg hts
      have Kp : Hid (CV wr b1 (U8 ps)) := fun j v h => Kv.out j v (by rw [List.getElem?_append_left (List.getElem?_eq_some_iff.1 h).1]; exact h)
      clear Kv eps
      have K3_2 : Bk w.heap.size wr [(false, b1, U8 (ps))] := ⟨.c hl1 Kp.out <| trivial, by simp⟩
      go_upto_region 4 with fail
      refine rgP K3_2 HBr HBr.size [] [] [(0, 11, .int .i64 ((255 : Nat) : Int)), (1, 12, .bool false)] [] [] [] ?_ ?_
      · refine oc g_mv ?_
        exact oc (g_bn (fun uZ => lss_i _ _ ((255 : Nat) : Int) 255 false uZ hd1)) on
      intro u4 HB4 sz4 K4
      simp only [fX, nK, nP, Wr.f, aK, pM] at K4
      simp only [setG, setN, List.set_cons_zero, List.set_cons_succ]
      have hlt3 := (K4.lt 0)
      have hlo3 := HB4.size
      go_upto_region 8 with fail
      refine rgF K4 HB4 HB4.size [] [] [] [] [] [⟨0, 21, some 1, PF u4.heap.size 256 (U8 (z256))⟩, ⟨1, 4, none, PF u4.heap.size 256 (U8 (z256))⟩] [] (.cons (fun _ _ _ h1 h2 => h2.stab h1) <| .cons (fun _ _ _ h1 h2 => h2.stab h1) <| Stab.nil) ?_ ?_
      · refine oc (g_ms 0 (PF u4.heap.size 256 (U8 (z256))) mk256 (fun u hu => PF.new 256 _ _ u hu)) ?_
        exact oc (g_sE 0 1 (PF u4.heap.size 256 (U8 (z256)))) on
      intro u5 v5_0 hv5_0 v5_1 hv5_1 HB5 sz5 K5
      simp only [fX, nK, nP, Wr.f, aK, pM] at K5
      simp only [setG, setN, setE, List.set_cons_zero, List.set_cons_succ]
      clear HB4
      obtain ⟨bt, rfl, hot1, hot2, hotC⟩ := hv5_1 rfl
      have K5_3 : Bk w.heap.size u5 [(false, b1, U8 (ps)), (true, bt, U8 (z256))] := ⟨.c (K5.lt 0) (K5.cv 0) <| .o hot2 (by omega) hotC <| trivial, by simp <;> omega⟩
      go_upto_region 9 with fail
      refine rgP K5_3 HB5 HB5.size [.no, .all 2 (U8 (z256.set 0 99))] [] [(0, 22, .slice (some ⟨bt, 0, none⟩) 256 256), (1, 23, .pointer (some ⟨bt, 0, none⟩))] [] [] [] ?_ ?_
      · refine oc g_mv ?_
        refine oc (g_ix (fun uZ => ixs bt 0 256 256 0 0 uZ (by decide) rfl)) ?_
        exact oc (g_sw 1 (0) s8 (gz0) (U8_set _ _ _)) on
      intro u6 HB6 sz6 K6
      simp only [fX, nK, nP, Wr.f, aK, pM] at K6
      simp only [setG, setN, List.set_cons_zero, List.set_cons_succ]
      clear HB5
      go_upto_region 10 with fail
      refine rgP K6 HB6 HB6.size [] [] [(0, 5, (Go.Value.int Go.IntKind.i64 0))] [] [] [] ?_ ?_
      · exact oc g_as on
      intro u7 HB7 sz7 K7
      simp only [fX, nK, nP, Wr.f, aK, pM] at K7
      simp only [setG, setN, List.set_cons_zero, List.set_cons_succ]
      clear K6 HB6
      go_wp2_with fail
      go_loopw [5] (fun s5 wr => ∃ (i : Nat), i ≤ 255 ∧ s5 = .int .i64 (i : Int) ∧ b1 < wr.heap.size ∧ Hid (CV wr b1 (U8 ps)) ∧ bt < wr.heap.size ∧ Hid (CV wr bt (U8 (tF i))) ∧ Below w.heap.size w wr) (fun s5 _ => 255 - (intOf s5).toNat)
      case atStart => exact ⟨0, by omega, rfl, (K7.lt 0), (K7.cv 0), (K7.lt 1), (by rw [ht0.out]; exact (K7.cv 1)), HB7⟩
      case round =>
        have hne := K7.n
        simp at hne
        clear Kp HBr hl1 hot2 hotC hd1
        obtain ⟨i, hi, rfl, hl1, Kp, hlt, Kt, HBr⟩ := hrel
        clear HB7
        by_cases hj : i < 255
        · have hd1 : decide ((i : Int) < 255) = true := by simp; omega
          have hix : (255 - i) % 255 < 255 := Nat.mod_lt _ (by decide)
          have g1 := U8_get ps ((255 - i) % 255) (by omega)
          have g2 := U8_get ps i (by omega)
          have hv := hpg.out ((255 - i) % 255)
          have hq := hpg.out i
          have hts := hts.out i
          obtain ⟨v, ev⟩ : ∃ v, ps.getD ((255 - i) % 255) 0 = v := ⟨_, rfl⟩
          obtain ⟨q, eq⟩ : ∃ v, ps.getD i 0 = v := ⟨_, rfl⟩
          rw [ev] at g1 hv hts
          rw [eq] at g2 hq hts
          have hY := hyF.out v hv
          have hO := hoF.out v hv
          have hY0 := hF0.out v
          have htl := htL.out i
          obtain ⟨ts, ets⟩ : ∃ v, tF i = v := ⟨_, rfl⟩
          rw [ets] at hts htl Kt
          have gt := U8_get ts q (by omega)
          obtain ⟨z, ez⟩ : ∃ v, ts.getD q 0 = v := ⟨_, rfl⟩
          rw [ez] at gt
          have hts : Hid _ := hts
          have hY0 : Hid _ := hY0
          clear ev eq ets ez
          have hnK := K7.n
          simp at hnK
          have hoK1 := K7.lo 1
          have K7_4 : Bk w.heap.size wr [(false, b1, U8 (ps)), (true, bt, U8 (ts))] := ⟨.c hl1 Kp.out <| .o hlt (K7.lo 1) Kt.out <| trivial, by simp <;> omega⟩
          go_upto_region 11 with fail
          refine rgP K7_4 HBr HBr.size [] [] [(0, 24, .int .i64 ((i : Nat) : Int)), (1, 25, .bool true)] [] [] [] ?_ ?_
          · refine oc g_mv ?_
            exact oc (g_bn (fun uZ => lss_i _ _ (i : Int) 255 true uZ hd1)) on
          intro u8 HB8 sz8 K8
          simp only [fX, nK, nP, Wr.f, aK, pM] at K8
          simp only [setG, setN, List.set_cons_zero, List.set_cons_succ]
          go_upto_region 13 with fail
          refine rgP K8 HB8 HB8.size [] [] [(0, 28, .slice (some ⟨b1, 0, none⟩) 255 c1), (1, 29, .int .i64 ((i : Nat) : Int)), (2, 30, .int .i64 ((255 - i : Nat) : Int)), (3, 31, .int .i64 (((255 - i) % 255 : Nat) : Int)), (4, 32, .pointer (some ⟨b1, (255 - i) % 255, none⟩)), (5, 33, .int .u8 ((v : Nat) : Int)), (6, 6, .int .u8 ((v : Nat) : Int))] [] [] [] ?_ ?_
          · refine oc g_mv ?_
            refine oc g_mv ?_
            refine oc (g_bn (fun uZ => sub_i _ _ 255 (i : Int) ((255 - i : Nat) : Int) uZ (by omega) (by omega) (by omega))) ?_
            refine oc (g_bn (fun uZ => remi _ _ (255 - i) 255 uZ (by omega) (by decide))) ?_
            refine oc (g_ix (fun uZ => ixs b1 0 255 c1 ((255 - i) % 255) ((255 - i) % 255) uZ hix (Nat.zero_add _))) ?_
            refine oc (g_lw 0 ((255 - i) % 255) l8 (g1)) ?_
            exact oc g_as on
          intro u9 HB9 sz9 K9
          simp only [fX, nK, nP, Wr.f, aK, pM] at K9
          simp only [setG, setN, List.set_cons_zero, List.set_cons_succ]
          clear K8 HB8
          go_upto_region 14 with fail
          refine rgP K9 HB9 HB9.size [] [] [(0, 34, .int .u8 ((v : Nat) : Int)), (1, 35, .int .u8 ((v : Nat) : Int)), (2, 7, .int .u8 ((v : Nat) : Int)), (3, 8, .int .u8 ((v : Nat) : Int))] [] [] [] ?_ ?_
          · refine oc g_mv ?_
            refine oc g_mv ?_
            refine oc g_as ?_
            exact oc g_as on
          intro u10 HB10 sz10 K10
          simp only [fX, nK, nP, Wr.f, aK, pM] at K10
          simp only [setG, setN, List.set_cons_zero, List.set_cons_succ]
          clear K9 HB9
          go_upto_region 15 with fail
          refine rgP K10 HB10 HB10.size [] [] [(0, 9, (Go.Value.int Go.IntKind.i64 0))] [] [] [] ?_ ?_
          · exact oc g_as on
          intro u11 HB11 sz11 K11
          simp only [fX, nK, nP, Wr.f, aK, pM] at K11
          simp only [setG, setN, List.set_cons_zero, List.set_cons_succ]
          clear K10 HB10
          go_wp2_with fail
          go_loopw [7, 8, 9] (fun s7 s8 s9 wr => ∃ (j : Nat), j ≤ 4 ∧ s9 = .int .i64 (j : Int) ∧ s7 = .int .u8 ((yF v j : Nat) : Int) ∧ s8 = .int .u8 ((oF v j : Nat) : Int) ∧ b1 < wr.heap.size ∧ Hid (CV wr b1 (U8 ps)) ∧ bt < wr.heap.size ∧ Hid (CV wr bt (U8 (ts))) ∧ Below w.heap.size w wr) (fun _ _ s9 _ => 4 - (intOf s9).toNat)
          case atStart => exact ⟨0, by omega, rfl, (by rw [hY0.out.1]), (by rw [hY0.out.2]), (K11.lt 0), (K11.cv 0), (K11.lt 1), (K11.cv 1), HB11⟩
          case round =>
            clear Kp HBr hl1 hlt Kt hd1
            obtain ⟨j, hj4, rfl, rfl, rfl, hl1, Kp, hlt, Kt, HBr⟩ := hrel
            clear HB11
            by_cases hjj : j < 4
            · have hd1 : decide ((j : Int) < 4) = true := by simp; omega
              have h1 := (hY j).2
              have h2 := (hO j).2
              have h3 := (hY j).1
              have h4 := (hO j).1
              have h5 := (hY (j + 1)).1
              rw [h1] at h2 h5
              obtain ⟨y, ey⟩ : ∃ y, yF v j = y := ⟨_, rfl⟩
              obtain ⟨o, eo⟩ : ∃ o, oF v j = o := ⟨_, rfl⟩
              rw [ey] at h1 h2 h3 h5
              rw [eo] at h2 h4
              rw [ey, eo]
              have h6 := rotb_eq y h3
              have h1 : Hid _ := h1
              have h2 : Hid _ := h2
              have hnK := K11.n
              simp at hnK
              have hoK1 := K11.lo 1
              have K11_5 : Bk w.heap.size wr [(false, b1, U8 (ps)), (true, bt, U8 (ts))] := ⟨.c hl1 Kp.out <| .o hlt (K11.lo 1) Kt.out <| trivial, by simp <;> omega⟩
              go_upto_region 16 with fail
              refine rgP K11_5 HBr HBr.size [] [] [(0, 36, .int .i64 ((j : Nat) : Int)), (1, 37, .bool true)] [] [] [] ?_ ?_
              · refine oc g_mv ?_
                exact oc (g_bn (fun uZ => lss_i _ _ (j : Int) 4 true uZ hd1)) on
              intro u12 HB12 sz12 K12
              simp only [fX, nK, nP, Wr.f, aK, pM] at K12
              simp only [setG, setN, List.set_cons_zero, List.set_cons_succ]
              go_upto_region 18 with fail
              refine rgP K12 HB12 HB12.size [] [] [(0, 40, .int .u8 ((y : Nat) : Int)), (1, 41, .int .u8 (((2 * y) % 256 : Nat) : Int)), (2, 42, .int .u8 ((y : Nat) : Int)), (3, 43, .int .u8 ((y / 128 : Nat) : Int)), (4, 44, .int .u8 ((rotb y : Nat) : Int)), (5, 7, .int .u8 ((rotb y : Nat) : Int))] [(5, 0), (5, 2)] [(5, 7)] [] ?_ ?_
              · refine oc g_mv ?_
                refine oc (g_bn (fun uZ => mul8 _ _ y uZ)) ?_
                refine oc g_mv ?_
                refine oc (g_bn (fun uZ => quo128 _ _ y uZ h3)) ?_
                refine oc (g_bn (fun uZ => add8z _ _ ((2 * y) % 256) (y / 128) (rotb y) uZ h6 h5)) ?_
                exact oc g_as on
              intro u13 HB13 sz13 K13
              simp only [fX, nK, nP, Wr.f, aK, pM] at K13
              simp only [setG, setN, List.set_cons_zero, List.set_cons_succ]
              clear K12 HB12
              go_upto_region 19 with fail
              refine rgP K13 HB13 HB13.size [] [] [(0, 45, .int .u8 ((o : Nat) : Int)), (1, 46, .int .u8 ((rotb y : Nat) : Int)), (2, 47, .int .u8 ((o ^^^ rotb y : Nat) : Int)), (3, 8, .int .u8 ((o ^^^ rotb y : Nat) : Int))] [(3, 0)] [(3, 8)] [] ?_ ?_
              · refine oc g_mv ?_
                refine oc g_mv ?_
                refine oc (g_bn (fun uZ => xor8 _ _ o (rotb y) uZ h4 h5)) ?_
                exact oc g_as on
              intro u14 HB14 sz14 K14
              simp only [fX, nK, nP, Wr.f, aK, pM] at K14
              simp only [setG, setN, List.set_cons_zero, List.set_cons_succ]
              clear K13 HB13
              go_upto_region 17 with fail
              refine rgP K14 HB14 HB14.size [] [] [(0, 38, .int .i64 ((j : Nat) : Int)), (1, 39, .int .i64 ((j + 1 : Nat) : Int)), (2, 9, .int .i64 ((j + 1 : Nat) : Int))] [(2, 0)] [(2, 9)] [] ?_ ?_
              · refine oc g_mv ?_
                refine oc (g_bn (fun uZ => add_i _ _ (j : Int) 1 ((j + 1 : Nat) : Int) uZ (by omega) (by omega) (by omega))) ?_
                exact oc g_as on
              intro u15 HB15 sz15 K15
              simp only [fX, nK, nP, Wr.f, aK, pM] at K15
              simp only [setG, setN, List.set_cons_zero, List.set_cons_succ]
              clear K14 HB14
              go_wp2
              refine ⟨⟨j + 1, by omega, rfl, (by rw [h1.out]), (by rw [h2.out]), (K15.lt 0), (K15.cv 0), (K15.lt 1), (K15.cv 1), HB15⟩, ?_⟩
              simp [intOf] <;> omega
            · have hd1 : decide ((j : Int) < 4) = false := by simp; omega
              have hj4 : j = 4 := by omega
              subst hj4
              have h4 := (hO 4).1
              obtain ⟨o, eo⟩ : ∃ o, oF v 4 = o := ⟨_, rfl⟩
              have hts2 := hts.out
              rw [eo] at h4 hts2
              rw [eo]
              have hts2 : Hid _ := hts2
              clear hts
              have hnK := K11.n
              simp at hnK
              have hoK1 := K11.lo 1
              have K11_5 : Bk w.heap.size wr [(false, b1, U8 (ps)), (true, bt, U8 (ts))] := ⟨.c hl1 Kp.out <| .o hlt (K11.lo 1) Kt.out <| trivial, by simp <;> omega⟩
              go_upto_region 16 with fail
              refine rgP K11_5 HBr HBr.size [] [] [(0, 36, .int .i64 ((4 : Nat) : Int)), (1, 37, .bool false)] [] [] [] ?_ ?_
              · refine oc g_mv ?_
                exact oc (g_bn (fun uZ => lss_i _ _ ((4 : Nat) : Int) 4 false uZ hd1)) on
              intro u12 HB12 sz12 K12
              simp only [fX, nK, nP, Wr.f, aK, pM] at K12
              simp only [setG, setN, List.set_cons_zero, List.set_cons_succ]
              go_upto_region 20 with fail
              refine rgP K12 HB12 HB12.size [.no, .all 8 (U8 (ts.set q (o ^^^ 99)))] [] [(0, 48, .slice (some ⟨bt, 0, none⟩) 256 256), (1, 49, .slice (some ⟨b1, 0, none⟩) 255 c1), (2, 50, .int .i64 ((i : Nat) : Int)), (3, 51, .pointer (some ⟨b1, i, none⟩)), (4, 52, .int .u8 ((q : Nat) : Int)), (5, 53, .int .u8 ((o : Nat) : Int)), (6, 54, .int .u8 ((o ^^^ 99 : Nat) : Int)), (7, 55, .pointer (some ⟨bt, q, none⟩))] [] [] [] ?_ ?_
              · refine oc g_mv ?_
                refine oc g_mv ?_
                refine oc g_mv ?_
                refine oc (g_ix (fun uZ => ixs b1 0 255 c1 i i uZ hj (Nat.zero_add _))) ?_
                refine oc (g_lw 0 (i) l8 (g2)) ?_
                refine oc g_mv ?_
                refine oc (g_bn (fun uZ => xor8 _ _ o 99 uZ h4 (by decide))) ?_
                refine oc (g_ix (fun uZ => ixs8 bt 256 256 q uZ hq)) ?_
                exact oc (g_sw 1 (q) s8 (gt) (U8_set _ _ _)) on
              intro u13 HB13 sz13 K13
              simp only [fX, nK, nP, Wr.f, aK, pM] at K13
              simp only [setG, setN, List.set_cons_zero, List.set_cons_succ]
              clear K12 HB12
              go_upto_region 12 with fail
              refine rgP K13 HB13 HB13.size [] [] [(0, 26, .int .i64 ((i : Nat) : Int)), (1, 27, .int .i64 ((i + 1 : Nat) : Int)), (2, 5, .int .i64 ((i + 1 : Nat) : Int))] [(2, 0)] [(2, 5)] [] ?_ ?_
              · refine oc g_mv ?_
                refine oc (g_bn (fun uZ => add_i _ _ (i : Int) 1 ((i + 1 : Nat) : Int) uZ (by omega) (by omega) (by omega))) ?_
                exact oc g_as on
              intro u14 HB14 sz14 K14
              simp only [fX, nK, nP, Wr.f, aK, pM] at K14
              simp only [setG, setN, List.set_cons_zero, List.set_cons_succ]
              clear K13 HB13
              go_wp2
              refine ⟨⟨i + 1, by omega, rfl, (K14.lt 0), (K14.cv 0), (K14.lt 1), (by rw [hts2.out]; exact (K14.cv 1)), HB14⟩, ?_⟩
              simp [intOf] <;> omega
        · have hd1 : decide ((i : Int) < 255) = false := by simp; omega
          have hi5 : i = 255 := by omega
          subst hi5
          have hnK := K7.n
          simp at hnK
          have hoK1 := K7.lo 1
          have K7_4 : Bk w.heap.size wr [(true, bt, U8 (tF 255))] := ⟨.o hlt (K7.lo 1) Kt.out <| trivial, by simp⟩
          go_upto_region 11 with fail
          refine rgP K7_4 HBr HBr.size [] [] [(0, 24, .int .i64 ((255 : Nat) : Int)), (1, 25, .bool false)] [] [] [] ?_ ?_
          · refine oc g_mv ?_
            exact oc (g_bn (fun uZ => lss_i _ _ ((255 : Nat) : Int) 255 false uZ hd1)) on
          intro u8 HB8 sz8 K8
          simp only [fX, nK, nP, Wr.f, aK, pM] at K8
          simp only [setG, setN, List.set_cons_zero, List.set_cons_succ]
          go_upto_region 21 with fail
          refine rgP K8 HB8 HB8.size [] [] [(0, 56, .slice (some ⟨bt, 0, none⟩) 256 256), (1, 0, .slice (some ⟨bt, 0, none⟩) 256 256)] [] [] [] ?_ ?_
          · refine oc g_mv ?_
            exact oc g_as on
          intro u9 HB9 sz9 K9
          simp only [fX, nK, nP, Wr.f, aK, pM] at K9
          simp only [setG, setN, List.set_cons_zero, List.set_cons_succ]
          clear K8 HB8
          go_wp2
          refine bodyPost_ret (v := .slice (some ⟨bt, 0, none⟩) 256 256) (by simp [results, Tryd.results12, go_sem]) rfl ⟨_, rfl, ⟨bt, 256, rfl, by omega, (K9.lt 0), Nat.le_refl _, (K9.cv 0)⟩, HB9⟩
/-- The powers of three, one behind the other. -/
def pwL : Nat → List Nat
  | 0 => []
  | k + 1 => pwL k ++ [pw3 k]
theorem pw3_lt : ∀ i, pw3 i < 256
  | 0 => by decide
  | i + 1 => tm_lt (pw3_lt i)
theorem pwL_len : ∀ k, (pwL k).length = k
  | 0 => rfl
  | k + 1 => by rw [pwL, List.length_append, pwL_len k]; rfl
theorem pwL_get : ∀ n {i : Nat}, i < n → (pwL n).getD i 0 = pw3 i
  | 0, i, h => by omega
  | n + 1, i, h => by
    rw [pwL]
    by_cases e : i < n
    · rw [gapp1 (by rw [pwL_len]; exact e)]; exact pwL_get n e
    · have : i = n := by omega
      subst this
      rw [gapp2 (by rw [pwL_len]; exact Nat.le_refl _), pwL_len, Nat.sub_self]; rfl
theorem pwL_lt (k : Nat) : (pwL 255).getD k 0 < 256 := by
  by_cases h : k < 255
  · rw [pwL_get 255 h]; exact pw3_lt k
  · rw [List.getD_eq_getElem?_getD, List.getElem?_eq_none (by rw [pwL_len]; omega)]; decide
/-- The table, as the loop fills it. -/
def tbG : Nat → List Nat
  | 0 => z256.set 0 99
  | i + 1 => (tbG i).set ((pwL 255).getD i 0) (outK ((pwL 255).getD ((255 - i) % 255) 0) 4 ^^^ 99)
theorem tbG_len : ∀ i, (tbG i).length = 256
  | 0 => by rw [tbG, List.length_set]; exact List.length_replicate
  | i + 1 => by rw [tbG, List.length_set]; exact tbG_len i
theorem tbG_is : ∀ i, i ≤ 255 → tbG i = tbL i
  | 0, _ => rfl
  | i + 1, h => by rw [tbG, tbL, tbG_is i (by omega), pwL_get 255 (by omega), pwL_get 255 (Nat.mod_lt _ (by decide)), outK_4]
theorem cTable (w : World) : Calls Tryd.prog 12 #[] w fun e w' => ∃ v, e = .returned v ∧ PS w.heap.size 256 (U8 sbT) w' v ∧ Below w.heap.size w w' := by
  rw [← tbL_all, ← tbG_is 255 (Nat.le_refl _)]
  exact cTable_core pwL tbG pw3 rotK outK w rfl rfl rfl (fun _ => rfl) pwL_len pwL_lt (fun k u => cTimesR (pw3 k) 3 u (pw3_lt k) (by decide)) (fun v => ⟨rfl, rfl⟩) (fun v hv j => ⟨rotK_lt hv j, rfl⟩) (fun v hv j => ⟨outK_lt hv j, rfl⟩) rfl (fun _ => rfl) tbG_len
end Go.Proofs.YtlcjbnhfmcnnfaaDoor
