/- Copies of bytes, and bytes that are the same. -/
import Derived.Test.YtbgdcgboomdimaaDoorMC4
namespace Go.Proofs.YtbgdcgboomdimaaDoor
open Go.RowKit
set_option linter.unusedVariables false
set_option linter.unusedSimpArgs false
theorem ent_seneschalbase_Bytes (vs : Array Value) (w : World) : (callFunc 13 vs).run Tryd.prog w = .ok (.enter 13 vs) w := by kernel_rfl
theorem bs0b (w : World) : (Instr.buildSlice 22 0 #[]).run Tryd.prog w = .ok (.slice (some ⟨w.heap.size, 0, none⟩) 0 0) (w.alloc (.cells #[] 5)) := by kernel_rfl
theorem IN_NW {u : World} {m : Nat} {v : Value} {xs : List Nat} (h : IN u m v xs) : NW xs.length (U8 xs) u v := by
  obtain ⟨sl, cap, gb, go, rfl, h1, h2, h3, h4⟩ := h
  refine ⟨sl, cap, rfl, h2.imp_right fun e => ⟨_, e, fun j v hj => ?_⟩⟩
  have hj' : j < xs.length := by have := (List.getElem?_eq_some_iff.1 hj).1; rwa [U8_len] at this
  rw [Addr.addo, h4 j hj', ← hj]
  exact (U8_get xs j hj').symm
/-- Bytes appended to none. -/
theorem app_PZ {lo : Nat} {xs : List Nat} {y : Value} {ty : TypeId} {u : World} {vs : Value} (hlo : lo ≤ u.heap.size) (hl : xs.length ≤ 1000000) (hy : IN u u.heap.size y xs) (h : PZ lo u vs) :
    ∃ v u', (Builtin.append_ #[22, 22] ty #[vs, y]).run Tryd.prog u = .ok v u' ∧ Below u.heap.size u u' ∧ PG lo 1 xs.length (U8 xs) u' v := by
  obtain ⟨b, rfl, h1, h2⟩ := h
  obtain ⟨ti, hti, htm⟩ := Option.map_eq_some_iff.1 infoB
  simp only [Prod.mk.injEq] at htm
  obtain ⟨hzv, hsz, hby⟩ := htm
  obtain ⟨v', u', hr, hB, hg⟩ := run_appF (P := Tryd.prog) u (ty := ty) Tryd.underlying22 hti hzv (by rw [hsz]; rfl) (n := 0) (m := xs.length) (xs := []) (news := U8 xs) (fun j v h => by simp at h) h1 hlo h2 (by simp) (IN_NW hy) (by rw [hsz, U8_len]; omega) (by rw [hby]; omega) (by omega)
  rw [hsz, Nat.zero_add, List.nil_append] at hg
  exact ⟨v', u', hr, hB, hg⟩
set_option maxRecDepth 100000 in
set_option maxHeartbeats 4000000 in
theorem cBytes (xs : List Nat) (y : Value) (w : World) (hxl : xs.length ≤ 1000000) (hIN : Hid (IN w w.heap.size y xs)) :
    Calls Tryd.prog 13 #[y] w fun e w' => ∃ v, e = .returned v ∧ PG w.heap.size 1 xs.length (U8 xs) w' v ∧ Below w.heap.size w w' := by
  go_enter Tryd.func13, Tryd.ntmps13
  have HB0 : Below w.heap.size w w := Below.refl _ _
  have K0_1 := Bk.nil (w.heap.size) w
  go_upto_region 1 with fail
  refine rgF K0_1 HB0 HB0.size [] [] [(1, 4, y)] [] [] [⟨0, 3, some 2, PZ w.heap.size⟩, ⟨2, 5, some 3, PG w.heap.size 1 xs.length (U8 xs)⟩, ⟨3, 2, none, PG w.heap.size 1 xs.length (U8 xs)⟩] [] (.cons (fun _ _ _ h1 h2 => h2.stab h1) <| .cons (fun _ _ _ h1 h2 => h2.stab h1) <| .cons (fun _ _ _ h1 h2 => h2.stab h1) <| Stab.nil) ?_ ?_
  · refine oc (g_bs 0 (PZ w.heap.size) bs0b (fun u hu => PZ.new hu)) ?_
    refine oc g_mv ?_
    refine oc (g_a1 0 1 (PZ w.heap.size) (PG w.heap.size 1 xs.length (U8 xs)) (fun u vs hB hs hv => app_PZ hB.size hxl ((hIN.out.below hB).mono hB.size) hv)) ?_
    exact oc (g_sE 1 2 (PG w.heap.size 1 xs.length (U8 xs))) on
  intro u1 v1_0 hv1_0 v1_2 hv1_2 v1_3 hv1_3 HB1 sz1 K1
  simp only [fX, nK, nP, Wr.f, aK, pM] at K1
  simp only [setG, setN, setE, List.set_cons_zero, List.set_cons_succ]
  clear HB0
  have hz := hv1_3 rfl
  go_wp2
  refine bodyPost_ret (v := v1_3) (by simp [results, Tryd.results13, go_sem]) rfl ⟨_, rfl, hz, HB1⟩
set_option maxRecDepth 100000 in
set_option maxHeartbeats 4000000 in
theorem cShort5 (sl : Option Addr) (n cap m : Nat) (w : World) (hmin : min (n : Int) 300 = (m : Int)) (hm : m ≤ n) (hc : n ≤ cap) (hsn : sl = none → cap = 0) :
    Calls Tryd.prog 26 #[.slice sl n cap] w fun e w' => e = .returned (.slice sl m cap) ∧ Below w.heap.size w w' := by
  go_enter Tryd.func26, Tryd.ntmps26
  have HB0 : Below w.heap.size w w := Below.refl _ _
  have K0_1 := Bk.nil (w.heap.size) w
  go_upto_region 1 with fail
  refine rgP K0_1 HB0 HB0.size [] [] [(0, 3, (.slice sl n cap)), (1, 4, (.slice sl n cap)), (2, 5, .int .i64 (n : Int)), (3, 6, .int .i64 (m : Int)), (4, 7, (.slice sl m cap)), (5, 2, (.slice sl m cap))] [] [] [] ?_ ?_
  · refine oc g_mv ?_
    refine oc g_mv ?_
    refine oc (g_ln Tryd.underlying22) ?_
    refine oc (g_mn hmin) ?_
    refine oc (g_sl (fun uZ => slHB sl n cap m hm hc hsn uZ)) ?_
    exact oc g_as on
  intro u1 HB1 sz1 K1
  simp only [fX, nK, nP, Wr.f, aK, pM] at K1
  simp only [setG, setN, List.set_cons_zero, List.set_cons_succ]
  clear HB0
  go_wp2
  refine bodyPost_ret (v := .slice sl m cap) (by simp [results, Tryd.results26, go_sem, ]) rfl ⟨rfl, HB1⟩
end Go.Proofs.YtbgdcgboomdimaaDoor
