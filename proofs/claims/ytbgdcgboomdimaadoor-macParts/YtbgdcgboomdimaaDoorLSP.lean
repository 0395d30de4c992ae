/- The law ShaParts: its walk. -/
import Derived.Test.YtbgdcgboomdimaaDoorSW
import Derived.Test.YtbgdcgboomdimaaDoorSZ
import Derived.Test.YtbgdcgboomdimaaDoorSR
import Derived.Test.YtbgdcgboomdimaaDoorGA
namespace Go.Proofs.YtbgdcgboomdimaaDoor
open Go.RowKit
set_option linter.unusedVariables false
set_option linter.unusedSimpArgs false
theorem infoS : (Tryd.prog.info? 22).map (fun i => (i.zero, i.size, i.bytes)) = some (some (.slice none 0 0), 1, 24) := by kernel_rfl
theorem bs0 (w : World) : (Instr.buildSlice 37 0 #[]).run Tryd.prog w = .ok (.slice (some ⟨w.heap.size, 0, none⟩) 0 0) (w.alloc (.cells #[] 22)) := by kernel_rfl
theorem lI {b c : Nat} {v : Int} (w : World) (h : w.cell? ⟨b, c, none⟩ = some (.int .i64 v)) : (Instr.loadAt 3 (.pointer (some ⟨b, c, none⟩))).run Tryd.prog w = .ok (.int .i64 v) w := by go_simp
theorem ixI (g o n cap j : Nat) (h : j < n) (w : World) : (Instr.indexAt 36 (.slice (some ⟨g, o, none⟩) n cap) (.int .i64 j)).run Tryd.prog w = .ok (.pointer (some ⟨g, o + j, none⟩)) w := by
  have h2 : (j : Int) < n := by omega
  go_simp
theorem one_slice {sl : Option Addr} {n c : Nat} : ∀ v ∈ [Value.slice sl n c], v.oneCell' = true := fun v hv => by simp at hv; subst hv; rfl
theorem P1.nw {news : List Value} (u : World) (y : Value) (h : P1 news u y) : NW 1 news u y := by
  obtain ⟨ad, c, e, h1⟩ := P1.at u y h
  exact ⟨_, c, e, .inr ⟨ad, rfl, h1⟩⟩
theorem slD (sl : Option Addr) (gb go m cap d : Nat) (hd : d ≤ m) (hc : m ≤ cap) (hs : m = 0 ∨ sl = some ⟨gb, go, none⟩) (hn : sl = none → cap = 0) : ∃ sl', (m - d = 0 ∨ sl' = some ⟨gb, go + d, none⟩) ∧ ∀ w, (Instr.sliceAt 22 (.slice sl m cap) (some (.int .i64 (d : Int))) none none).run Tryd.prog w = .ok (.slice sl' (m - d) (cap - d)) w := by
  cases sl with
  | none =>
    have e0 := hn rfl
    have e1 : m = 0 := by omega
    have e3 : d = 0 := by omega
    subst e0 e1 e3
    refine ⟨none, .inl rfl, fun w => ?_⟩
    show (Instr.sliceAt 22 (.slice none 0 0) (some (.int .i64 0)) none none).run Tryd.prog w = _
    kernel_rfl
  | some ad =>
    have h1 : (d : Int) ≤ m := by omega
    have h3 : m ≤ cap := by omega
    have h4 : d ≤ cap := by omega
    by_cases e : cap = d
    · refine ⟨some ad, .inl (by omega), fun w => ?_⟩
      simp [Instr.sliceAt, Instr.slice, go_sem, Tryd.underlying22, hd, h1, h3, h4, e]
      try omega
    · refine ⟨some (ad.add d), ?_, fun w => ?_⟩
      · rcases hs with h | h
        · exact .inl (by omega)
        · cases h
          exact .inr (by rw [Addr.add_lit])
      · have e2 : ¬ cap - d = 0 := by omega
        simp [Instr.sliceAt, Instr.slice, go_sem, Tryd.underlying22, hd, h1, h3, h4, e, e2]
set_option maxRecDepth 100000 in
set_option maxHeartbeats 4000000 in
theorem shaParts_core (n cap m cn ccap : Nat) (sl cs : Option Addr) (ys ds : List Nat) (w : World) (hm : m ≤ 300) (hdB : BB 32 ds)
    (hcu : Hid (0 < cn → ∃ cb co, cs = some ⟨cb, co, none⟩ ∧ cb < w.heap.size ∧ ∀ j, j < cn → ∃ x : Int, (-9223372036854775808 ≤ x ∧ x < 9223372036854775808) ∧ w.cell? ⟨cb, co + j, none⟩ = some (.int .i64 x)))
    (hcut : Hid (∀ d k, d ≤ k → k ≤ m → ∃ sv, IN w w.heap.size (.slice sv (k - d) (cap - d)) ((ys.drop d).take (k - d)) ∧ ∀ u, (Instr.sliceAt 22 (.slice sl m cap) (some (.int .i64 ((d : Nat) : Int))) (some (.int .i64 ((k : Nat) : Int))) none).run Tryd.prog u = .ok (.slice sv (k - d) (cap - d)) u))
    (hcut2 : Hid (∀ d, d ≤ m → ∃ sv, IN w w.heap.size (.slice sv (m - d) (cap - d)) ((ys.drop d).take (m - d)) ∧ ∀ u, (Instr.sliceAt 22 (.slice sl m cap) (some (.int .i64 ((d : Nat) : Int))) none none).run Tryd.prog u = .ok (.slice sv (m - d) (cap - d)) u))
    (hW : Hid (∀ (u : World), Below w.heap.size w u → Calls Tryd.prog 21 #[] u fun e u' => e = .returned (.bool true) ∧ Below u.heap.size u u')) (hSh : Hid (∀ (u : World), Calls Tryd.prog 12 #[(.slice sl n cap)] u fun e u' => e = .returned (.slice sl m cap) ∧ Below u.heap.size u u')) (hSu : Hid (∀ (u : World), Below w.heap.size w u → Calls Tryd.prog 14 #[(.slice sl m cap)] u fun e u' => e = .returned (.agg (U8 (ds)).toArray) ∧ Below u.heap.size u u'))
    (hPa : Hid (∀ (u : World) (b c k : Nat) (vs zs : List Value), Below w.heap.size w u → CV u b (vs ++ zs) → b < u.heap.size → vs.length = k → k ≤ 21 → PP w ys m vs → Calls Tryd.prog 25 #[.slice (some ⟨b, 0, none⟩) k c] u fun e u' => e = .returned (.agg (U8 (ds)).toArray) ∧ Below u.heap.size u u')) :
    Calls Tryd.prog 5 #[(.slice sl n cap), (.slice cs cn ccap)] w fun e w' => e = .returned (.bool true) ∧ Below w.heap.size w w' := by
  go_enter Tryd.func5, Tryd.ntmps5
  have HB0 : Below w.heap.size w w := Below.refl _ _
  have K0_1 := Bk.nil (w.heap.size) w
  go_upto_region 1 with fail
  refine rgP K0_1 HB0 HB0.size [] [] [(0, 9, .bool true), (1, 10, .bool false)] [] [] [] ?_ ?_
  · refine oc (g_cb ent_seneschallaw04_works (fun uZ bZ => hW.out uZ bZ)) ?_
    exact oc (g_un (fun uZ => not_t uZ)) on
  intro u1 HB1 sz1 K1
  simp only [fX, nK, nP, Wr.f, aK, pM] at K1
  simp only [setG, setN, List.set_cons_zero, List.set_cons_succ]
  clear HB0
  go_upto_region 3 with fail
  refine rgP K1 HB1 HB1.size [] [] [(0, 11, (.slice sl n cap)), (1, 12, (.slice sl m cap)), (2, 0, (.slice sl m cap))] [(2, 0)] [(2, 0)] [] ?_ ?_
  · refine oc g_mv ?_
    refine oc (g_cl ent_seneschallaw04_short (fun uZ => hSh.out uZ)) ?_
    exact oc g_as on
  intro u2 HB2 sz2 K2
  simp only [fX, nK, nP, Wr.f, aK, pM] at K2
  simp only [setG, setN, List.set_cons_zero, List.set_cons_succ]
  clear K1 HB1
  have hlo4 := HB2.size
  go_upto_region 4 with fail
  refine rgF K2 HB2 HB2.size [] [] [] [] [] [⟨0, 13, some 1, PZ u2.heap.size⟩, ⟨1, 5, none, PZ u2.heap.size⟩] [] (.cons (fun _ _ _ h1 h2 => h2.stab h1) <| .cons (fun _ _ _ h1 h2 => h2.stab h1) <| Stab.nil) ?_ ?_
  · refine oc (g_bs 0 (PZ u2.heap.size) bs0 (fun u hu => PZ.new hu)) ?_
    exact oc (g_sE 0 1 (PZ u2.heap.size)) on
  intro u3 v3_0 hv3_0 v3_1 hv3_1 HB3 sz3 K3
  simp only [fX, nK, nP, Wr.f, aK, pM] at K3
  simp only [setG, setN, setE, List.set_cons_zero, List.set_cons_succ]
  clear HB2
  obtain ⟨b5, rfl, ho1, ho2⟩ := hv3_1 rfl
  have hb5 : w.heap.size ≤ b5 := by omega
  have K3_2 : Bk w.heap.size u3 [(false, b5, [])] := ⟨.c ho2 (fun j v h => by simp at h) <| trivial, by simp⟩
  go_upto_region 5 with fail
  refine rgP K3_2 HB3 HB3.size [] [] [(0, 6, (Go.Value.int Go.IntKind.i64 0))] [] [] [] ?_ ?_
  · exact oc g_as on
  intro u4 HB4 sz4 K4
  simp only [fX, nK, nP, Wr.f, aK, pM] at K4
  simp only [setG, setN, List.set_cons_zero, List.set_cons_succ]
  clear HB3
  go_upto_region 6 with fail
  refine rgP K4 HB4 HB4.size [] [] [(0, 7, (Go.Value.int Go.IntKind.i64 0))] [] [] [] ?_ ?_
  · exact oc g_as on
  intro u5 HB5 sz5 K5
  simp only [fX, nK, nP, Wr.f, aK, pM] at K5
  simp only [setG, setN, List.set_cons_zero, List.set_cons_succ]
  clear K4 HB4
  go_wp2_with fail
  go_loopw [7, 6, 5] (fun s7 s6 s5 wr => ∃ (j d b5 c5 : Nat) (vs zs : List Value), j ≤ 20 ∧ j ≤ cn ∧ d ≤ m ∧ s7 = .int .i64 (j : Int) ∧ s6 = .int .i64 (d : Int) ∧ s5 = .slice (some ⟨b5, 0, none⟩) j c5 ∧ vs.length = j ∧ j ≤ c5 ∧ zs.length = c5 - j ∧ w.heap.size ≤ b5 ∧ b5 < wr.heap.size ∧ Hid (CV wr b5 (vs ++ zs)) ∧ Hid (PP w ys d vs) ∧ Below w.heap.size w wr) (fun s7 _ _ _ => 20 - (intOf s7).toNat)
  case atStart => exact ⟨0, 0, b5, 0, [], [], by omega, by omega, by omega, rfl, rfl, rfl, rfl, by omega, rfl, hb5, (K5.lt 0), (fun j v h => by simp at h), PP.nil w ys, HB5⟩
  case round =>
    clear hb5 ho1 ho2
    obtain ⟨j, d, b5, c5, vs, zs, hj20, hjc, hdm, rfl, rfl, rfl, hvl, hc5, hzl, hb5, hl5, Kv, hpp, HBr⟩ := hrel
    clear HB5
    obtain ⟨ti, hti, htm⟩ := Option.map_eq_some_iff.1 infoS
    simp only [Prod.mk.injEq] at htm
    obtain ⟨hzv, hsz, hby⟩ := htm
    by_cases hq : j < cn
    · have hq1 : decide ((j : Int) < (cn : Int)) = true := by simp; omega
      by_cases hq2 : j < 20
      · have hq3 : decide ((j : Int) < 20) = true := by simp; omega
        obtain ⟨cb, co, rfl, hcb, hcell⟩ := hcu.out (by omega)
        obtain ⟨x, hx, hcx⟩ := hcell j hq
        obtain ⟨z, hz, hA⟩ := among_any x ((m - d + 1 : Nat) : Int) (by omega) (by omega) hx
        have hA : Hid _ := hA
        have e1 : (m : Int) - (d : Int) = ((m - d : Nat) : Int) := by omega
        have e2 : ((m - d : Nat) : Int) + 1 = ((m - d + 1 : Nat) : Int) := by omega
        have e3 : (d : Int) + (z : Int) = ((d + z : Nat) : Int) := by omega
        have hdk : d ≤ d + z := by omega
        have hkm : d + z ≤ m := by omega
        obtain ⟨sv, hin2, hsl2⟩ := hcut.out d (d + z) hdk hkm
        have hpp2 := hpp.out.more hdk hin2
        clear hcell
        have K5_3 : Bk w.heap.size wr [(true, b5, vs ++ zs)] := ⟨.o hl5 (by omega) Kv.out <| trivial, by simp⟩
        go_upto_region 7 with fail
        refine rgP K5_3 HBr HBr.size [] [] [(0, 14, .int .i64 ((j : Nat) : Int)), (1, 15, (.slice (some ⟨cb, co, none⟩) cn ccap)), (2, 16, .int .i64 ((cn : Nat) : Int)), (3, 17, .bool true), (4, 18, .bool true), (5, 19, .int .i64 ((j : Nat) : Int)), (6, 20, .bool true), (7, 21, .bool true)] [] [] [] ?_ ?_
        · refine oc g_mv ?_
          refine oc g_mv ?_
          refine oc (g_ln Tryd.underlying36) ?_
          refine oc (g_bn (fun uZ => lss_i _ _ (j : Int) (cn : Int) _ uZ hq1)) ?_
          refine oc g_mv ?_
          refine oc g_mv ?_
          refine oc (g_bn (fun uZ => lss_i _ _ (j : Int) 20 _ uZ hq3)) ?_
          exact oc g_pk on
        intro u6 HB6 sz6 K6
        simp only [fX, nK, nP, Wr.f, aK, pM] at K6
        simp only [setG, setN, List.set_cons_zero, List.set_cons_succ]
        go_upto_region 9 with fail
        refine rgP K6 HB6 HB6.size [] [] [(0, 24, .int .i64 ((d : Nat) : Int)), (1, 25, (.slice (some ⟨cb, co, none⟩) cn ccap)), (2, 26, .int .i64 ((j : Nat) : Int)), (3, 27, .pointer (some ⟨cb, co + j, none⟩)), (4, 28, .int .i64 x), (5, 29, (.slice sl m cap)), (6, 30, .int .i64 ((m : Nat) : Int)), (7, 31, .int .i64 ((d : Nat) : Int)), (8, 32, .int .i64 ((m - d : Nat) : Int)), (9, 33, .int .i64 ((m - d + 1 : Nat) : Int)), (10, 34, .int .i64 ((z : Nat) : Int)), (11, 35, .int .i64 ((d + z : Nat) : Int)), (12, 8, .int .i64 ((d + z : Nat) : Int))] [] [] [] ?_ ?_
        · refine oc g_mv ?_
          refine oc g_mv ?_
          refine oc g_mv ?_
          refine oc (g_ix (fun uZ => ixI cb co cn ccap j hq uZ)) ?_
          refine oc (g_lg cb (co + j) lI (hcx) (hcb)) ?_
          refine oc g_mv ?_
          refine oc (g_ln Tryd.underlying22) ?_
          refine oc g_mv ?_
          refine oc (g_bn (fun uZ => sub_i _ _ (m : Int) (d : Int) ((m - d : Nat) : Int) uZ e1 (by omega) (by omega))) ?_
          refine oc (g_bn (fun uZ => add_i _ _ ((m - d : Nat) : Int) 1 ((m - d + 1 : Nat) : Int) uZ e2 (by omega) (by omega))) ?_
          refine oc (g_cl ent_seneschalbase_Among (fun uZ => hA.out uZ)) ?_
          refine oc (g_bn (fun uZ => add_i _ _ (d : Int) (z : Int) ((d + z : Nat) : Int) uZ e3 (by omega) (by omega))) ?_
          exact oc g_as on
        intro u7 HB7 sz7 K7
        simp only [fX, nK, nP, Wr.f, aK, pM] at K7
        simp only [setG, setN, List.set_cons_zero, List.set_cons_succ]
        clear K6 HB6
        go_upto_region 10 with fail
        refine rgF K7 HB7 HB7.size [.all 6 ([])] [] [(0, 36, .slice (some ⟨b5, 0, none⟩) j c5), (1, 37, (.slice sl m cap)), (2, 38, .int .i64 ((d : Nat) : Int)), (3, 39, .int .i64 ((d + z : Nat) : Int)), (4, 40, (.slice sv (d + z - d) (cap - d)))] [(7, 0), (7, 6)] [(7, 5)] [⟨5, 41, some 6, P1 [(.slice sv (d + z - d) (cap - d))]⟩, ⟨6, 42, some 7, PH u7.heap.size b5 ti.size (j + 1) (vs ++ [(.slice sv (d + z - d) (cap - d))])⟩, ⟨7, 5, none, PH u7.heap.size b5 ti.size (j + 1) (vs ++ [(.slice sv (d + z - d) (cap - d))])⟩] [false] (.cons (fun _ _ _ h1 h2 => h2.stab h1) <| .cons (fun _ _ _ h1 h2 => h2.stab h1) <| .cons (fun _ _ _ h1 h2 => h2.stab h1) <| Stab.nil) ?_ ?_
        · refine oc g_mv ?_
          refine oc g_mv ?_
          refine oc g_mv ?_
          refine oc g_mv ?_
          refine oc (g_sl (fun uZ => hsl2 uZ)) ?_
          refine oc (g_bR 0 (P1 [(.slice sv (d + z - d) (cap - d))]) [0] [(.slice sv (d + z - d) (cap - d))] [(.slice sv (d + z - d) (cap - d))] (bsSl _ _ _) (fun u hu => P1.new _ _ u)) ?_
          refine oc (g_pE 0 0 1 (P1 [(.slice sv (d + z - d) (cap - d))]) vs zs [(.slice sv (d + z - d) (cap - d))] Tryd.underlying37 hti hzv (by rw [hsz]; rfl) rfl P1.nw one_slice (by rw [hsz]; rfl) (by rw [hsz]; omega) (by rw [hsz]; omega) hc5 (by rw [hby]; omega) (by omega)) ?_
          exact oc (g_sE 1 2 (PH u7.heap.size b5 ti.size (j + 1) (vs ++ [(.slice sv (d + z - d) (cap - d))]))) on
        intro u8 v8_5 hv8_5 v8_6 hv8_6 v8_7 hv8_7 HB8 sz8 K8
        simp only [fX, nK, nP, Wr.f, aK, pM] at K8
        simp only [setG, setN, setE, List.set_cons_zero, List.set_cons_succ]
        clear K7 HB7
        obtain ⟨b6, c6, zs6, rfl, hb6, hl6, hc6, hz6, Kv6⟩ := hv8_7 rfl
        rw [hsz] at hz6
        have K8_4 : Bk w.heap.size u8 [(false, b6, (vs ++ [(.slice sv (d + z - d) (cap - d))]) ++ zs6)] := ⟨.c hl6 Kv6 <| trivial, by simp⟩
        go_upto_region 11 with fail
        refine rgP K8_4 HB8 HB8.size [] [] [(0, 43, .int .i64 ((d + z : Nat) : Int)), (1, 6, .int .i64 ((d + z : Nat) : Int))] [] [] [] ?_ ?_
        · refine oc g_mv ?_
          exact oc g_as on
        intro u9 HB9 sz9 K9
        simp only [fX, nK, nP, Wr.f, aK, pM] at K9
        simp only [setG, setN, List.set_cons_zero, List.set_cons_succ]
        clear HB8
        go_upto_region 8 with fail
        refine rgP K9 HB9 HB9.size [] [] [(0, 22, .int .i64 ((j : Nat) : Int)), (1, 23, .int .i64 ((j + 1 : Nat) : Int)), (2, 7, .int .i64 ((j + 1 : Nat) : Int))] [(2, 0)] [(2, 7)] [] ?_ ?_
        · refine oc g_mv ?_
          refine oc (g_bn (fun uZ => add_i _ _ (j : Int) 1 ((j + 1 : Nat) : Int) uZ (by omega) (by omega) (by omega))) ?_
          exact oc g_as on
        intro u10 HB10 sz10 K10
        simp only [fX, nK, nP, Wr.f, aK, pM] at K10
        simp only [setG, setN, List.set_cons_zero, List.set_cons_succ]
        clear K9 HB9
        go_wp2
        refine ⟨⟨j + 1, d + z, b6, c6, vs ++ [(Value.slice sv (d + z - d) (cap - d))], zs6, by omega, by omega, by omega, rfl, rfl, rfl, by simp [hvl], hc6, by omega, by omega, (K10.lt 0), (K10.cv 0), hpp2, HB10⟩, ?_⟩
        simp [intOf] <;> omega
      · have hq3 : decide ((j : Int) < 20) = false := by simp; omega
        have K5_3 : Bk w.heap.size wr [(true, b5, vs ++ zs)] := ⟨.o hl5 (by omega) Kv.out <| trivial, by simp⟩
        go_upto_region 7 with fail
        refine rgP K5_3 HBr HBr.size [] [] [(0, 14, .int .i64 ((j : Nat) : Int)), (1, 15, (.slice cs cn ccap)), (2, 16, .int .i64 ((cn : Nat) : Int)), (3, 17, .bool true), (4, 18, .bool true), (5, 19, .int .i64 ((j : Nat) : Int)), (6, 20, .bool false), (7, 21, .bool false)] [] [] [] ?_ ?_
        · refine oc g_mv ?_
          refine oc g_mv ?_
          refine oc (g_ln Tryd.underlying36) ?_
          refine oc (g_bn (fun uZ => lss_i _ _ (j : Int) (cn : Int) _ uZ hq1)) ?_
          refine oc g_mv ?_
          refine oc g_mv ?_
          refine oc (g_bn (fun uZ => lss_i _ _ (j : Int) 20 _ uZ hq3)) ?_
          exact oc g_pk on
        intro u6 HB6 sz6 K6
        simp only [fX, nK, nP, Wr.f, aK, pM] at K6
        simp only [setG, setN, List.set_cons_zero, List.set_cons_succ]
        obtain ⟨sv, hin2, hsl2⟩ := hcut2.out d hdm
        have hpp2 := hpp.out.more hdm hin2
        go_upto_region 12 with fail
        refine rgF K6 HB6 HB6.size [.all 5 ([])] [] [(0, 44, .slice (some ⟨b5, 0, none⟩) j c5), (1, 45, (.slice sl m cap)), (2, 46, .int .i64 ((d : Nat) : Int)), (3, 47, (.slice sv (m - d) (cap - d)))] [(6, 0), (6, 5)] [(6, 5)] [⟨4, 48, some 5, P1 [(.slice sv (m - d) (cap - d))]⟩, ⟨5, 49, some 6, PH u6.heap.size b5 ti.size (j + 1) (vs ++ [(.slice sv (m - d) (cap - d))])⟩, ⟨6, 5, none, PH u6.heap.size b5 ti.size (j + 1) (vs ++ [(.slice sv (m - d) (cap - d))])⟩] [false] (.cons (fun _ _ _ h1 h2 => h2.stab h1) <| .cons (fun _ _ _ h1 h2 => h2.stab h1) <| .cons (fun _ _ _ h1 h2 => h2.stab h1) <| Stab.nil) ?_ ?_
        · refine oc g_mv ?_
          refine oc g_mv ?_
          refine oc g_mv ?_
          refine oc (g_sl (fun uZ => hsl2 uZ)) ?_
          refine oc (g_bR 0 (P1 [(.slice sv (m - d) (cap - d))]) [0] [(.slice sv (m - d) (cap - d))] [(.slice sv (m - d) (cap - d))] (bsSl _ _ _) (fun u hu => P1.new _ _ u)) ?_
          refine oc (g_pE 0 0 1 (P1 [(.slice sv (m - d) (cap - d))]) vs zs [(.slice sv (m - d) (cap - d))] Tryd.underlying37 hti hzv (by rw [hsz]; rfl) rfl P1.nw one_slice (by rw [hsz]; rfl) (by rw [hsz]; omega) (by rw [hsz]; omega) hc5 (by rw [hby]; omega) (by omega)) ?_
          exact oc (g_sE 1 2 (PH u6.heap.size b5 ti.size (j + 1) (vs ++ [(.slice sv (m - d) (cap - d))]))) on
        intro u7 v7_4 hv7_4 v7_5 hv7_5 v7_6 hv7_6 HB7 sz7 K7
        simp only [fX, nK, nP, Wr.f, aK, pM] at K7
        simp only [setG, setN, setE, List.set_cons_zero, List.set_cons_succ]
        clear K6 HB6
        obtain ⟨b6, c6, zs6, rfl, hb6, hl6, hc6, hz6, Kv6⟩ := hv7_6 rfl
        have K7_4 : Bk w.heap.size u7 [(false, b6, (vs ++ [(.slice sv (m - d) (cap - d))]) ++ zs6)] := ⟨.c hl6 Kv6 <| trivial, by simp⟩
        go_upto_region 13 with fail
        refine rgP K7_4 HB7 HB7.size [] [] [(0, 50, .slice (some ⟨b6, 0, none⟩) (j + 1) c6), (1, 51, .agg (U8 (ds)).toArray), (2, 52, (.slice sl m cap)), (3, 53, .agg (U8 (ds)).toArray), (4, 54, .bool true), (5, 4, .bool true)] [] [] [] ?_ ?_
        · refine oc g_mv ?_
          refine oc (g_cK ent_sha_Parts (fun fZ uZ kZ sZ bZ => hPa.out uZ b6 c6 (j + 1) _ zs6 bZ (kZ.cv 0) (kZ.lb sZ 0) (by simp [hvl]) (by omega) hpp2)) ?_
          refine oc g_mv ?_
          refine oc (g_cb ent_sha_Sum (fun uZ bZ => hSu.out uZ bZ)) ?_
          refine oc (g_bn (fun uZ => eql_A8 ds hdB _ _ uZ)) ?_
          exact oc g_as on
        intro u8 HB8 sz8 K8
        simp only [fX, nK, nP, Wr.f, aK, pM] at K8
        simp only [setG, setN, List.set_cons_zero, List.set_cons_succ]
        clear HB7
        go_wp2
        refine bodyPost_ret (v := .bool true) (by simp [results, Tryd.results5, go_sem, ]) rfl ⟨rfl, HB8⟩
    · have hq1 : decide ((j : Int) < (cn : Int)) = false := by simp; omega
      have K5_3 : Bk w.heap.size wr [(true, b5, vs ++ zs)] := ⟨.o hl5 (by omega) Kv.out <| trivial, by simp⟩
      go_upto_region 7 with fail
      refine rgP K5_3 HBr HBr.size [] [] [(0, 14, .int .i64 ((j : Nat) : Int)), (1, 15, (.slice cs cn ccap)), (2, 16, .int .i64 ((cn : Nat) : Int)), (3, 17, .bool false), (4, 18, .bool false), (5, 19, undef), (6, 20, undef), (7, 21, (Go.Value.bool Bool.false))] [] [] [] ?_ ?_
      · refine oc g_mv ?_
        refine oc g_mv ?_
        refine oc (g_ln Tryd.underlying36) ?_
        refine oc (g_bn (fun uZ => lss_i _ _ (j : Int) (cn : Int) _ uZ hq1)) ?_
        refine oc g_mv ?_
        refine oc g_sk ?_
        refine oc g_sk ?_
        exact oc g_pk on
      intro u6 HB6 sz6 K6
      simp only [fX, nK, nP, Wr.f, aK, pM] at K6
      simp only [setG, setN, List.set_cons_zero, List.set_cons_succ]
      obtain ⟨sv, hin2, hsl2⟩ := hcut2.out d hdm
      have hpp2 := hpp.out.more hdm hin2
      go_upto_region 12 with fail
      refine rgF K6 HB6 HB6.size [.all 5 ([])] [] [(0, 44, .slice (some ⟨b5, 0, none⟩) j c5), (1, 45, (.slice sl m cap)), (2, 46, .int .i64 ((d : Nat) : Int)), (3, 47, (.slice sv (m - d) (cap - d)))] [(6, 0), (6, 5)] [(6, 5)] [⟨4, 48, some 5, P1 [(.slice sv (m - d) (cap - d))]⟩, ⟨5, 49, some 6, PH u6.heap.size b5 ti.size (j + 1) (vs ++ [(.slice sv (m - d) (cap - d))])⟩, ⟨6, 5, none, PH u6.heap.size b5 ti.size (j + 1) (vs ++ [(.slice sv (m - d) (cap - d))])⟩] [false] (.cons (fun _ _ _ h1 h2 => h2.stab h1) <| .cons (fun _ _ _ h1 h2 => h2.stab h1) <| .cons (fun _ _ _ h1 h2 => h2.stab h1) <| Stab.nil) ?_ ?_
      · refine oc g_mv ?_
        refine oc g_mv ?_
        refine oc g_mv ?_
        refine oc (g_sl (fun uZ => hsl2 uZ)) ?_
        refine oc (g_bR 0 (P1 [(.slice sv (m - d) (cap - d))]) [0] [(.slice sv (m - d) (cap - d))] [(.slice sv (m - d) (cap - d))] (bsSl _ _ _) (fun u hu => P1.new _ _ u)) ?_
        refine oc (g_pE 0 0 1 (P1 [(.slice sv (m - d) (cap - d))]) vs zs [(.slice sv (m - d) (cap - d))] Tryd.underlying37 hti hzv (by rw [hsz]; rfl) rfl P1.nw one_slice (by rw [hsz]; rfl) (by rw [hsz]; omega) (by rw [hsz]; omega) hc5 (by rw [hby]; omega) (by omega)) ?_
        exact oc (g_sE 1 2 (PH u6.heap.size b5 ti.size (j + 1) (vs ++ [(.slice sv (m - d) (cap - d))]))) on
      intro u7 v7_4 hv7_4 v7_5 hv7_5 v7_6 hv7_6 HB7 sz7 K7
      simp only [fX, nK, nP, Wr.f, aK, pM] at K7
      simp only [setG, setN, setE, List.set_cons_zero, List.set_cons_succ]
      clear K6 HB6
      obtain ⟨b6, c6, zs6, rfl, hb6, hl6, hc6, hz6, Kv6⟩ := hv7_6 rfl
      have K7_4 : Bk w.heap.size u7 [(false, b6, (vs ++ [(.slice sv (m - d) (cap - d))]) ++ zs6)] := ⟨.c hl6 Kv6 <| trivial, by simp⟩
      go_upto_region 13 with fail
      refine rgP K7_4 HB7 HB7.size [] [] [(0, 50, .slice (some ⟨b6, 0, none⟩) (j + 1) c6), (1, 51, .agg (U8 (ds)).toArray), (2, 52, (.slice sl m cap)), (3, 53, .agg (U8 (ds)).toArray), (4, 54, .bool true), (5, 4, .bool true)] [] [] [] ?_ ?_
      · refine oc g_mv ?_
        refine oc (g_cK ent_sha_Parts (fun fZ uZ kZ sZ bZ => hPa.out uZ b6 c6 (j + 1) _ zs6 bZ (kZ.cv 0) (kZ.lb sZ 0) (by simp [hvl]) (by omega) hpp2)) ?_
        refine oc g_mv ?_
        refine oc (g_cb ent_sha_Sum (fun uZ bZ => hSu.out uZ bZ)) ?_
        refine oc (g_bn (fun uZ => eql_A8 ds hdB _ _ uZ)) ?_
        exact oc g_as on
      intro u8 HB8 sz8 K8
      simp only [fX, nK, nP, Wr.f, aK, pM] at K8
      simp only [setG, setN, List.set_cons_zero, List.set_cons_succ]
      clear HB7
      go_wp2
      refine bodyPost_ret (v := .bool true) (by simp [results, Tryd.results5, go_sem, ]) rfl ⟨rfl, HB8⟩
end Go.Proofs.YtbgdcgboomdimaaDoor
