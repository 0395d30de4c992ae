/- SHA-256: the digest, and its beginning. -/

import Derived.Test.YtbgdcgboomdimaaDoorSO
namespace Go.Proofs.YtbgdcgboomdimaaDoor
open Go.RowKit
set_option linter.unusedVariables false
set_option linter.unusedSimpArgs false
section
variable {R : Rg} {P : Program} {ops : Array Oper} {Q : Exit → Act → World → Prop} {f : Nat → Bool} {t : Nat → Value} {u : World} {a : Act} {i : Nat} {o : Oper}
end
set_option maxRecDepth 100000 in
set_option maxHeartbeats 4000000 in
theorem cSum_core (n cap : Nat) (sl : Option Addr) (ds : List Nat) (w : World) (hds : ds.length = 32) (hPa : Hid (∀ (u : World) (y : Value), Below w.heap.size w u → PS w.heap.size 1 [(.slice sl n cap)] u y → Calls Tryd.prog 25 #[y] u fun e u' => e = .returned (.agg (U8 (ds)).toArray) ∧ Below u.heap.size u u')) :
    Calls Tryd.prog 14 #[(.slice sl n cap)] w fun e w' => e = .returned (.agg (U8 (ds)).toArray) ∧ Below w.heap.size w w' := by
  go_enter Tryd.func14, Tryd.ntmps14
  go_upto_region 1 with fail
  generalize hC : (w.alloc (.cells (Z32b : List Value).toArray 24)) = v0 at *
  have HB0 : Below w.heap.size w v0 := by rw [← hC]; exact balloc (bself w) _
  have K0 : Bk w.heap.size v0 [(true, w.heap.size, U8 (z32))] := by rw [← hC]; exact (Bk.nil _ w).ad
  clear hC
  refine rgF K0 HB0 HB0.size [.all 3 (U8 (ds))] [] [(0, 3, (.slice sl n cap)), (2, 5, .agg (U8 (ds)).toArray)] [] [] [⟨1, 4, some 2, PS w.heap.size 1 [(.slice sl n cap)]⟩] [] (.cons (fun _ _ _ h1 h2 => h2.stab h1) <| Stab.nil) ?_ ?_
  · refine oc g_mv ?_
    refine oc (g_bR 0 (PS w.heap.size 1 [(.slice sl n cap)]) [0] [(.slice sl n cap)] [(.slice sl n cap)] (bsSl _ _ _) (fun u hu => PS.new 1 _ _ u (Nat.le_trans HB0.size hu))) ?_
    refine oc (g_c1 0 (PS w.heap.size 1 [(.slice sl n cap)]) ent_sha_Parts (fun uZ y bZ hy => hPa.out uZ y bZ hy)) ?_
    exact oc (g_st 0 info__32_uint8 (h1 := U8_one _) (hm := by rw [U8_len, hds]) (hl := by rw [U8_len, U8_len, hds, show z32.length = 32 from rfl])) on
  intro u1 v1_1 hv1_1 HB1 sz1 K1
  simp only [fX, nK, nP, Wr.f, aK, pM] at K1
  simp only [setG, setN, setE, List.set_cons_zero, List.set_cons_succ]
  clear K0 HB0
  go_wp2
  refine bodyPost_ret (res_cell Tryd.results14 rfl (K1.cv 0) Tryd.underlying24 rfl (by rw [U8_len, hds]; exact info__32_uint8)) rfl ⟨rfl, HB1⟩
theorem cSum (xs : List Nat) (v : Value) (w : World) (hV : GV w) (hin : IN w w.heap.size v xs) (hx : ∀ x ∈ xs, x < 256) (hl : xs.length ≤ 1000) :
    Calls Tryd.prog 14 #[v] w fun e w' => e = .returned (.agg (U8 (dig xs)).toArray) ∧ Below w.heap.size w w' := by
  obtain ⟨sl, cap, gb, go, rfl, h1, h2, h3, h4⟩ := hin
  refine cSum_core xs.length cap sl (dig xs) w (dig_B xs).len fun u y hB hy => ?_
  obtain ⟨b, c, rfl, _, hb, _, hcv⟩ := hy
  have h := cParts [xs] b 0 c u hb (hV.below hB hV.sz) (fun i p hp => by
    cases i with
    | succ i => simp at hp
    | zero =>
      simp at hp
      subst hp
      exact ⟨_, (hcv 0 _ rfl).1, sl, cap, gb, go, rfl, h1, h2, Nat.lt_of_lt_of_le h3 hB.size, h4.below hB h3⟩) (by simp) (by simpa using hx) (by simpa using hl) (by simp; omega)
  simpa using h
end Go.Proofs.YtbgdcgboomdimaaDoor
