/- Cast: if one delivers all do, walked. -/
import Derived.Test.YthncmahhnbpbkaaKWC
namespace Go.Proofs.Ythncmahhnbpbkaa
open Go.RowKit
set_option linter.unusedVariables false
set_option linter.unusedSimpArgs false
set_option maxRecDepth 100000
theorem WI.left {p : Pl} {t bad n dl pot : Nat} {vl : Option ByteArray} {W : Wd} {u : World} (h : WI p t bad n dl vl pot u W) (hw : W.wait = []) : ∃ sl c, u.cell? ⟨p.wb, 5, none⟩ = some (.slice sl 0 c) := by
  obtain ⟨tb, mb, vt, vm, hQ⟩ := h.m
  obtain ⟨sl, c, e, _⟩ := hQ.om.sl
  have c5 := (hQ.cw 5 _ rfl).1
  rw [e, hw] at c5
  exact ⟨sl, c, c5⟩
/-- All delivered, or none. -/
theorem WI.allOr {p : Pl} {t n dl pot : Nat} {vl : Option ByteArray} {W : Wd} {u : World} (h : WI p t t n dl vl pot u W) (hw : W.wait = []) (hn : n = 3 * t + 1) : ∃ y : Bool, ∀ j, t < j → j ≤ n → (W.nd j).d.isSome = y := by
  have hi := h.i
  rw [hw] at hi
  by_cases hx : ∃ i, (t < i ∧ i ≤ n) ∧ ∃ v, (W.nd i).d = some v
  · obtain ⟨i, hii, v, hv⟩ := hx
    exact ⟨true, fun j j1 j2 => by rw [hi.total (Nat.le_refl _) hn hii hv ⟨j1, j2⟩]; rfl⟩
  · refine ⟨false, fun j j1 j2 => ?_⟩
    cases hd : (W.nd j).d with
    | none => rfl
    | some v => exact absurd ⟨j, ⟨j1, j2⟩, v, hd⟩ hx
set_option maxHeartbeats 4000000 in
theorem cTotal (x : Int) (w : World) (sl : Option Addr) (len cap gb go : Nat) (f : Nat → List Value) (hl : len ≤ 9223372036854775807) (hsl : 0 < len → sl = some ⟨gb, go, none⟩ ∧ gb < w.heap.size) (hR : Rows w gb go 6 f len) (hf : ∀ i, i < len → MovC (f i)) :
    Calls Try.prog 5 #[.int .i64 x, .slice sl len cap] w fun e' u' => e' = .returned (.bool true) ∧ Below w.heap.size w u' := by
  have hA := fun u => cAm x 2 2 u rfl (by omega)
  have am := amN_lt x (n := 2) (by omega)
  obtain ⟨t, ht⟩ : ∃ t : Nat, Hid (1 + amN x 2 = t) := ⟨_, rfl⟩
  have hto := ht.out
  obtain ⟨n, hn⟩ : ∃ n : Nat, Hid (3 * t + 1 = n) := ⟨_, rfl⟩
  have hno := hn.out
  have g : WN t t n 100 := ⟨by omega, by omega, by omega⟩
  have hmd : ∀ u : World, Calls Try.prog 20 #[.int .i64 (1 + ((amN x 2 : Nat) : Int)), .int .i64 (1 + ((amN x 2 : Nat) : Int)), .int .i64 1] u _ := fun u => by
    rw [show 1 + ((amN x 2 : Nat) : Int) = (t : Int) by omega]
    exact cMade t t 1 n u (by omega) (by omega) (by omega) (by omega)
  have ew := wr64 (n := 1 + ((amN x 2 : Nat) : Int)) (by omega)
  have et : Hid (1 ≤ t ∧ t ≤ 2 ∧ n ≤ 7 ∧ t < n) := ⟨by omega, by omega, by omega, by omega⟩
  clear hto hno am
  go_enter Try.func5, Try.ntmps5
  go_upto_region 5 with (first | (go_at_call 11; refine (cWorks _).mono ?_; rintro e w1 ⟨rfl, hB1⟩) | (go_at_call 19; refine (hA _).mono ?_; rintro e w2 ⟨rfl, hw2⟩; rw [hw2]; clear hw2) | (go_at_call 20; refine (hmd _).mono ?_; rintro e w3 ⟨p, rfl, hp, hB3, hW3⟩))
  have hP := playMade hp hB1 hB3 hW3 g et.out.2.2.2 sl len cap gb go f hl hsl hR hf
  have hs1 := hB1.size
  go_upto_region 8 with (first | (go_at_call 22; refine hP.mono ?_; rintro e w4 ⟨rfl, ⟨W4, hW4⟩, hB4⟩; have hF := cFinish hW4 g) | (go_at_call 23; refine hF.mono ?_; rintro e w5 ⟨rfl, W5, hW5, hB5, hwt⟩))
  have hBl : Below w.heap.size w w5 := hB4.trans (hB5.mono (by rw [hp]; exact hs1))
  obtain ⟨y, hy⟩ := hW5.allOr hwt (by have := hn.out; omega)
  clear hA hmd hP hF
  have hnt : ((n - t : Nat) : Int) = (n : Int) - (t : Int) := by have := et.out; omega
  have hz : (((n : Int) - (t : Int)) == 0) = false := by have := et.out; simp; omega
  cases y with
  | true =>
    have hD : Calls Try.prog 24 #[pW p.wb] w5 fun e' u' => e' = .returned (.int .i64 ((n : Int) - (t : Int))) ∧ Below w5.heap.size w5 u' := by rw [← hnt]; exact cDelivered _ hW5 g hy
    go_upto_region 9 with (first | (go_at_call 24; refine hD.mono ?_; rintro e w6 ⟨rfl, hB6⟩))
    have hW6 := hW5.below hB6
    have hBl6 : Below w.heap.size w w6 := bstep hBl hB6
    obtain ⟨tb, mb, vt, vm, hQ6⟩ := hW6.m
    obtain ⟨sl5, cp5, e5, _⟩ := hQ6.om.sl
    rw [hwt] at e5
    have e5 : vm = .slice sl5 0 cp5 := e5
    subst e5
    have hcw := hQ6.cw
    have hwl := hQ6.ok.w1.2
    have hAg := fun (u : World) (hu : Below w6.heap.size w6 u) => cAgree p t t n 1 none W5 u (hW6.below hu).m hW6.i g.b g.n
    have HB0 : Below w6.heap.size w6 w6 := Below.refl _ _
    have hto := et.out
    clear hQ6 hD hy hnt
    · skip
      have K0_1 : Bk w6.heap.size w6 [(false, p.wb, [.int .i64 n, .int .i64 t, .int .i64 t, .slice (some ⟨p.nb, 0, none⟩) n p.cn, vt, .slice sl5 0 cp5, .slice (some ⟨p.sb, 0, none⟩) (2 * n + 2) (2 * n + 2)])] := ⟨.c hwl hcw <| trivial, by simp⟩
      go_upto_region 9 with fail
      refine rgD K0_1 HB0 HB0.size [] [] [(0, 27, .int .i64 ((n : Int) - (t : Int))), (1, 28, .bool false), (2, 29, .bool false), (3, 30, .int .i64 ((n : Int) - (t : Int))), (4, 31, .pointer (some ⟨p.wb, 0, none⟩)), (5, 32, .pointer (some ⟨p.wb, 0, none⟩)), (6, 33, .pointer (some ⟨p.wb, 0, none⟩)), (7, 34, .int .i64 n), (8, 35, .pointer (some ⟨p.wb, 0, none⟩)), (9, 36, .pointer (some ⟨p.wb, 0, none⟩)), (10, 37, .pointer (some ⟨p.wb, 2, none⟩)), (11, 38, .int .i64 t), (12, 39, .int .i64 ((n : Int) - (t : Int))), (13, 40, .bool true), (14, 41, .bool true), (15, 42, .bool true), (16, 43, .pointer (some ⟨p.wb, 0, none⟩)), (17, 44, .bool true), (18, 45, .bool true), (19, 46, .bool true), (20, 47, .pointer (some ⟨p.wb, 0, none⟩)), (21, 48, .pointer (some ⟨p.wb, 0, none⟩)), (22, 49, .pointer (some ⟨p.wb, 5, none⟩)), (23, 50, .slice sl5 0 cp5), (24, 51, .int .i64 ((0 : Nat) : Int)), (25, 52, .bool true), (26, 53, .bool true), (27, 4, .bool true)] [] [] [] ?_ ?_
      · refine oc g_mv ?_
        refine oc (g_bn (fun uZ => eql_i _ _ _ ((n : Int) - (t : Int)) 0 _ uZ hz)) ?_
        refine oc g_mv ?_
        refine oc g_mv ?_
        refine oc g_mv ?_
        refine oc g_nl ?_
        refine oc (g_fd (fun uZ => fk_seneschallaw15_world_0 _ _ uZ)) ?_
        refine oc (g_lc 0 0 lI) ?_
        refine oc g_mv ?_
        refine oc g_nl ?_
        refine oc (g_fd (fun uZ => fk_seneschallaw15_world_2 _ _ uZ)) ?_
        refine oc (g_lc 0 2 lI) ?_
        refine oc (g_bn (fun uZ => sub_i _ _ n t _ uZ rfl (by omega) (by omega))) ?_
        refine oc (g_bn (fun uZ => eql_i _ _ _ ((n : Int) - (t : Int)) ((n : Int) - (t : Int)) _ uZ (beq_self_eq_true _))) ?_
        refine oc g_pk ?_
        refine oc g_mv ?_
        refine oc g_mv ?_
        refine oc (g_cb ent___seneschallaw15_world__agree (fun uZ bZ => hAg uZ bZ)) ?_
        refine oc g_pk ?_
        refine oc g_mv ?_
        refine oc g_mv ?_
        refine oc g_nl ?_
        refine oc (g_fd (fun uZ => fk_seneschallaw15_world_5 _ _ uZ)) ?_
        refine oc (g_lc 0 5 lSm) ?_
        refine oc (g_ln Try.underlying22) ?_
        refine oc (g_bn (fun uZ => eql_i _ _ _ ((0 : Nat) : Int) 0 _ uZ rfl)) ?_
        refine oc g_pk ?_
        exact oc g_as on
      intro u1 HB1 sz1 K1
      simp only [fX, nK, nP, Wr.f, aK, pM] at K1
      simp only [setG, setN, List.set_cons_zero, List.set_cons_succ]
      clear HB0
      go_wp2
      refine bodyPost_ret (v := .bool true) (by simp [results, Try.results5, go_sem, ]) rfl ⟨rfl, bstep hBl6 HB1⟩
  | false =>
    have hD : Calls Try.prog 24 #[pW p.wb] w5 fun e' u' => e' = .returned (.int .i64 0) ∧ Below w5.heap.size w5 u' := cDelivered _ hW5 g hy
    go_upto_region 9 with (first | (go_at_call 24; refine hD.mono ?_; rintro e w6 ⟨rfl, hB6⟩))
    have hW6 := hW5.below hB6
    have hBl6 : Below w.heap.size w w6 := bstep hBl hB6
    obtain ⟨tb, mb, vt, vm, hQ6⟩ := hW6.m
    obtain ⟨sl5, cp5, e5, _⟩ := hQ6.om.sl
    rw [hwt] at e5
    have e5 : vm = .slice sl5 0 cp5 := e5
    subst e5
    have hcw := hQ6.cw
    have hwl := hQ6.ok.w1.2
    have hAg := fun (u : World) (hu : Below w6.heap.size w6 u) => cAgree p t t n 1 none W5 u (hW6.below hu).m hW6.i g.b g.n
    have HB0 : Below w6.heap.size w6 w6 := Below.refl _ _
    have hto := et.out
    clear hQ6 hD hy hnt
    · skip
      have K0_1 : Bk w6.heap.size w6 [(false, p.wb, [.int .i64 n, .int .i64 t, .int .i64 t, .slice (some ⟨p.nb, 0, none⟩) n p.cn, vt, .slice sl5 0 cp5, .slice (some ⟨p.sb, 0, none⟩) (2 * n + 2) (2 * n + 2)])] := ⟨.c hwl hcw <| trivial, by simp⟩
      go_upto_region 9 with fail
      refine rgD K0_1 HB0 HB0.size [] [] [(0, 27, .int .i64 0), (1, 28, .bool true), (2, 29, .bool true), (3, 30, undef), (4, 31, undef), (5, 32, undef), (6, 33, undef), (7, 34, undef), (8, 35, undef), (9, 36, undef), (10, 37, undef), (11, 38, undef), (12, 39, undef), (13, 40, undef), (14, 41, (Go.Value.bool Bool.true)), (15, 42, (Go.Value.bool Bool.true)), (16, 43, .pointer (some ⟨p.wb, 0, none⟩)), (17, 44, .bool true), (18, 45, .bool true), (19, 46, .bool true), (20, 47, .pointer (some ⟨p.wb, 0, none⟩)), (21, 48, .pointer (some ⟨p.wb, 0, none⟩)), (22, 49, .pointer (some ⟨p.wb, 5, none⟩)), (23, 50, .slice sl5 0 cp5), (24, 51, .int .i64 ((0 : Nat) : Int)), (25, 52, .bool true), (26, 53, .bool true), (27, 4, .bool true)] [] [] [] ?_ ?_
      · refine oc g_mv ?_
        refine oc (g_bn (fun uZ => eql_i _ _ _ 0 0 _ uZ rfl)) ?_
        refine oc g_mv ?_
        refine oc g_sk ?_
        refine oc g_sk ?_
        refine oc g_sk ?_
        refine oc g_sk ?_
        refine oc g_sk ?_
        refine oc g_sk ?_
        refine oc g_sk ?_
        refine oc g_sk ?_
        refine oc g_sk ?_
        refine oc g_sk ?_
        refine oc g_sk ?_
        refine oc g_pk ?_
        refine oc g_mv ?_
        refine oc g_mv ?_
        refine oc (g_cb ent___seneschallaw15_world__agree (fun uZ bZ => hAg uZ bZ)) ?_
        refine oc g_pk ?_
        refine oc g_mv ?_
        refine oc g_mv ?_
        refine oc g_nl ?_
        refine oc (g_fd (fun uZ => fk_seneschallaw15_world_5 _ _ uZ)) ?_
        refine oc (g_lc 0 5 lSm) ?_
        refine oc (g_ln Try.underlying22) ?_
        refine oc (g_bn (fun uZ => eql_i _ _ _ ((0 : Nat) : Int) 0 _ uZ rfl)) ?_
        refine oc g_pk ?_
        exact oc g_as on
      intro u1 HB1 sz1 K1
      simp only [fX, nK, nP, Wr.f, aK, pM] at K1
      simp only [setG, setN, List.set_cons_zero, List.set_cons_succ]
      clear HB0
      go_wp2
      refine bodyPost_ret (v := .bool true) (by simp [results, Try.results5, go_sem, ]) rfl ⟨rfl, bstep hBl6 HB1⟩
end Go.Proofs.Ythncmahhnbpbkaa
