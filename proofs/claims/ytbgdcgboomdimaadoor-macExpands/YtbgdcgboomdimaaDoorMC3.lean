/- HMAC of parts, and of bytes. -/
import Derived.Test.YtbgdcgboomdimaaDoorMC2
namespace Go.Proofs.YtbgdcgboomdimaaDoor
open Go.RowKit
set_option linter.unusedVariables false
set_option linter.unusedSimpArgs false
theorem infoSl : (Tryd.prog.info? 22).map (fun i => (i.zero, i.size, i.bytes)) = some (some (.slice none 0 0), 1, 24) := by kernel_rfl
theorem bsE1 (y : Value) (w : World) (h : ∃ sl n cap, y = .slice sl n cap) : (Instr.buildSlice 37 1 ([0].zip [y]).toArray).run Tryd.prog w = .ok (.slice (some ⟨w.heap.size, 0, none⟩) 1 1) (w.alloc (.cells [y].toArray 22)) := by
  obtain ⟨sl, n, cap, rfl⟩ := h; kernel_rfl
theorem bsE2 (y z : Value) (w : World) (h : ∃ sl n cap, y = .slice sl n cap) (h2 : ∃ sl n cap, z = .slice sl n cap) : (Instr.buildSlice 37 2 ([0, 1].zip [y, z]).toArray).run Tryd.prog w = .ok (.slice (some ⟨w.heap.size, 0, none⟩) 2 2) (w.alloc (.cells [y, z].toArray 22)) := by
  obtain ⟨sl, n, cap, rfl⟩ := h
  obtain ⟨sl2, n2, cap2, rfl⟩ := h2
  kernel_rfl
theorem PF.sl {lo n : Nat} {xs : List Value} {u : World} {y : Value} (h : PF lo n xs u y) : ∃ sl n cap, y = .slice sl n cap := by
  obtain ⟨b, rfl, _⟩ := h; exact ⟨_, _, _, rfl⟩
/-- A full row of one slice of bytes. -/
def PQ1 (lo : Nat) (p : List Nat) (u : World) (y : Value) : Prop := ∃ b v, y = .slice (some ⟨b, 0, none⟩) 1 1 ∧ lo ≤ b ∧ b < u.heap.size ∧ CV u b [v] ∧ IN u u.heap.size v p
theorem PQ1.stab {lo : Nat} {p : List Nat} {u v : World} {x : Value} (hB : Below u.heap.size u v) (h : PQ1 lo p u x) : PQ1 lo p v x := by
  obtain ⟨b, y, e, h1, h2, h3, h4⟩ := h
  exact ⟨b, y, e, h1, Nat.lt_of_lt_of_le h2 hB.size, h3.below hB h2, (h4.below hB).mono hB.size⟩
theorem PQ1.new {lo : Nat} {p : List Nat} {u : World} {y : Value} (t : TypeId) (h : lo ≤ u.heap.size) (hy : IN u u.heap.size y p) : PQ1 lo p (u.alloc (.cells [y].toArray t)) (.slice (some ⟨u.heap.size, 0, none⟩) 1 1) :=
  ⟨_, y, rfl, h, by simp, CV.new u _ t, (hy.below (balloc (bself u) _)).mono (by simp)⟩
theorem PL_of {u : World} {b : Nat} {vs zs : List Value} {ps : List (List Nat)} (hcv : CV u b (vs ++ zs)) (hl : vs.length = ps.length) (h : ∀ (i : Nat) (v : Value) (p : List Nat), vs[i]? = some v → ps[i]? = some p → IN u u.heap.size v p) : PL u b 0 ps := fun i p hp => by
  have hi : i < vs.length := by have := (List.getElem?_eq_some_iff.1 hp).1; omega
  have e := List.getElem?_eq_getElem hi
  refine ⟨vs[i], ?_, h i _ p e hp⟩
  rw [Nat.zero_add]; exact (hcv i _ (by rw [List.getElem?_append_left hi]; exact e)).1
theorem PQ.two {lo : Nat} {p q : List Nat} {u : World} {y z : Value} (t : TypeId) (h : lo ≤ u.heap.size) (hy : IN u u.heap.size y p) (hz : IN u u.heap.size z q) : PQ lo [p, q] (u.alloc (.cells [y, z].toArray t)) (.slice (some ⟨u.heap.size, 0, none⟩) 2 2) := by
  have hB : Below u.heap.size u (u.alloc (.cells [y, z].toArray t)) := balloc (bself u) _
  refine ⟨_, 2, rfl, h, by simp, PL_of (vs := [y, z]) (zs := []) (by rw [List.append_nil]; exact CV.new u _ t) rfl fun i v p' hv hp => ?_⟩
  match i with
  | 0 => simp at hv hp; subst hv hp; exact (hy.below hB).mono hB.size
  | 1 => simp at hv hp; subst hv hp; exact (hz.below hB).mono hB.size
  | i + 2 => simp at hv
theorem PL.vals {w : World} {gl go : Nat} {ps : List (List Nat)} (h : PL w gl go ps) : ∃ vs : List Value, vs.length = ps.length ∧ (∀ (j : Nat) (v : Value), vs[j]? = some v → w.cell? ⟨gl, go + j, none⟩ = some v) ∧ ∀ (i : Nat) (v : Value) (p : List Nat), vs[i]? = some v → ps[i]? = some p → IN w w.heap.size v p := by
  have h2 : ∀ i, ∃ v, ∀ p, ps[i]? = some p → w.cell? ⟨gl, go + i, none⟩ = some v ∧ IN w w.heap.size v p := fun i => by
    cases e : ps[i]? with
    | none => exact ⟨.bool true, fun p hp => by cases hp⟩
    | some p =>
      obtain ⟨v, h1, h2⟩ := h i p e
      exact ⟨v, fun p' hp => by cases hp; exact ⟨h1, h2⟩⟩
  obtain ⟨f, hf⟩ := Classical.skolem.1 h2
  refine ⟨(List.range ps.length).map f, by simp, fun j v hv => ?_, fun i v p hv hp => ?_⟩
  · rw [List.getElem?_map, Option.map_eq_some_iff] at hv
    obtain ⟨k, hk, rfl⟩ := hv
    have hj : j < ps.length := by have := (List.getElem?_eq_some_iff.1 hk).1; simpa using this
    rw [List.getElem?_range hj] at hk
    cases hk
    exact (hf j _ (List.getElem?_eq_getElem hj)).1
  · rw [List.getElem?_map, Option.map_eq_some_iff] at hv
    obtain ⟨k, hk, rfl⟩ := hv
    have hj : i < ps.length := (List.getElem?_eq_some_iff.1 hp).1
    rw [List.getElem?_range hj] at hk
    cases hk
    exact (hf i _ hp).2
/-- Slices of bytes that came in. -/
def LV (w : World) (y : Value) (ps : List (List Nat)) : Prop := ∃ (sl : Option Addr) (cap gl go : Nat), y = .slice sl ps.length cap ∧ (ps.length = 0 ∨ sl = some ⟨gl, go, none⟩) ∧ gl < w.heap.size ∧ PL w gl go ps
theorem LV.below {w u : World} {y : Value} {ps : List (List Nat)} (h : LV w y ps) (hB : Below w.heap.size w u) : LV u y ps := by
  obtain ⟨sl, cap, gl, go, e, h1, h2, h3⟩ := h
  exact ⟨sl, cap, gl, go, e, h1, Nat.lt_of_lt_of_le h2 hB.size, h3.below h2 hB⟩
/-- A row of one slice, and slices that came in behind it. -/
theorem app_PQ {lo : Nat} {p : List Nat} {ps : List (List Nat)} {y : Value} {ty : TypeId} {u : World} {vs : Value} (hlo : lo ≤ u.heap.size) (hl : ps.length ≤ 1000000) (hy : LV u y ps) (h : PQ1 lo p u vs) :
    ∃ v u', (Builtin.append_ #[37, 37] ty #[vs, y]).run Tryd.prog u = .ok v u' ∧ Below u.heap.size u u' ∧ PQ lo (p :: ps) u' v := by
  obtain ⟨b, x, rfl, h1, h2, h3, h4⟩ := h
  obtain ⟨sl, cap, gl, go, rfl, k1, k2, k3⟩ := hy
  obtain ⟨ws, w1, w2, w3⟩ := k3.vals
  obtain ⟨ti, hti, htm⟩ := Option.map_eq_some_iff.1 infoSl
  simp only [Prod.mk.injEq] at htm
  obtain ⟨hzv, hsz, hby⟩ := htm
  obtain ⟨v', u', hr, hB, b', cap', zs, rfl, g1, g2, g3, g4, g5⟩ := run_appF (P := Tryd.prog) u (ty := ty) Tryd.underlying37 hti hzv (by rw [hsz]; rfl) (n := 1) (m := ps.length) (xs := [x]) (news := ws) h3 h1 hlo h2 (by rw [hsz]; rfl) ⟨sl, cap, rfl, k1.imp_right fun e => ⟨_, e, fun j v hj => by rw [Addr.addo]; exact w2 j v hj⟩⟩ (by rw [hsz, w1]; omega) (by rw [hby]; omega) (by omega)
  refine ⟨_, u', hr, hB, b', cap', by rw [List.length_cons, Nat.add_comm], g1, g2, PL_of (vs := [x] ++ ws) g5 (by simp [w1]) fun i v q hv hq => ?_⟩
  cases i with
  | zero => simp at hv hq; subst hv hq; exact (h4.below hB).mono hB.size
  | succ i =>
    simp at hv hq
    exact ((w3 i v q hv hq).below hB).mono hB.size
theorem CV_in {u : World} {b n : Nat} {xs : List Nat} (hl : xs.length = n) (h : CV u b (U8 xs)) (hb : b < u.heap.size) : IN u u.heap.size (.slice (some ⟨b, 0, none⟩) n n) xs := by
  subst hl
  refine ⟨_, _, b, 0, rfl, Nat.le_refl _, .inr rfl, hb, fun j hj => ?_⟩
  rw [Nat.zero_add]; exact (h j _ (U8_get xs j hj)).1
set_option maxRecDepth 100000 in
set_option maxHeartbeats 4000000 in
theorem cHmac_core (ks m1 m2 d1 ds : List Nat) (ps : List (List Nat)) (y : Value) (w : World) (hk64 : ks.length = 64) (hm1 : m1.length = 64) (hm2 : m2.length = 64) (hd1 : d1.length = 32) (hds : ds.length = 32) (hpl : ps.length ≤ 1000000) (hLV : Hid (LV w y ps)) (hM1 : Hid (∀ (u : World), Calls Tryd.prog 61 #[.agg (U8 (ks)).toArray, .int .u8 ((54 : Nat) : Int)] u fun e u' => ∃ v, e = .returned v ∧ PF u.heap.size 64 (U8 (m1)) u' v ∧ Below u.heap.size u u')) (hM2 : Hid (∀ (u : World), Calls Tryd.prog 61 #[.agg (U8 (ks)).toArray, .int .u8 ((92 : Nat) : Int)] u fun e u' => ∃ v, e = .returned v ∧ PF u.heap.size 64 (U8 (m2)) u' v ∧ Below u.heap.size u u')) (hP1 : Hid (∀ (u : World) (y : Value), Below w.heap.size w u → PQ w.heap.size (m1 :: ps) u y → Calls Tryd.prog 25 #[y] u fun e u' => e = .returned (.agg (U8 (d1)).toArray) ∧ Below u.heap.size u u')) (hP2 : Hid (∀ (u : World) (y : Value), Below w.heap.size w u → PQ w.heap.size [m2, d1] u y → Calls Tryd.prog 25 #[y] u fun e u' => e = .returned (.agg (U8 (ds)).toArray) ∧ Below u.heap.size u u')) :
    Calls Tryd.prog 53 #[.agg (U8 (ks)).toArray, y] w fun e w' => e = .returned (.agg (U8 (ds)).toArray) ∧ Below w.heap.size w w' := by
  go_enter Tryd.func53, Tryd.ntmps53
  go_upto_region 1 with fail
  generalize hC : ((w.alloc (.cells (U8 (ks) : List Value).toArray 33)).alloc (.cells (Z32b : List Value).toArray 24)) = v0 at *
  have HB0 : Below w.heap.size w v0 := by rw [← hC]; exact balloc (balloc (bself w) _) _
  have K0 : Bk w.heap.size v0 [(true, w.heap.size, U8 (ks)), (true, w.heap.size + 1, U8 (z32))] := by rw [← hC]; exact (Bk.nil _ w).ad.ad
  clear hC
  refine rgF K0 HB0 HB0.size [] [(6, 5, U8 (z32), some (7, U8 (d1)))] [(0, 6, .agg (U8 (ks)).toArray), (3, 9, y), (5, 11, .agg (U8 (d1)).toArray)] [(7, 6)] [] [⟨1, 7, some 2, PF w.heap.size 64 (U8 (m1))⟩, ⟨2, 8, some 4, PQ1 w.heap.size m1⟩, ⟨4, 10, some 5, PQ w.heap.size (m1 :: ps)⟩] [] (.cons (fun _ _ _ h1 h2 => h2.stab h1) <| .cons (fun _ _ _ h1 h2 => h2.stab h1) <| .cons (fun _ _ _ h1 h2 => h2.stab h1) <| Stab.nil) ?_ ?_
  · refine oc (g_lR 0 0 (cs := U8 (ks)) (fun j v h => by rw [Nat.zero_add]; exact h) Tryd.underlying33 (by rw [U8_len, hk64]; exact info__64_uint8)) ?_
    refine oc (g_cE 0 (PF w.heap.size 64 (U8 (m1))) ent_mac_masked (fun u hB hs => (hM1.out u).mono fun e u2 ⟨v, e1, h1, h2⟩ => ⟨v, e1, h1.mono hB.size, h2⟩)) ?_
    refine oc (g_bY 0 1 (PF w.heap.size 64 (U8 (m1))) (PQ1 w.heap.size m1) [0] (fun y => [y]) (fun w y hy => bsE1 y w hy.sl) (fun f u y kZ bZ hs hy => PQ1.new _ bZ.size (PF_in (by rw [hm1]; exact hy)))) ?_
    refine oc g_mv ?_
    refine oc (g_a1 1 2 (PQ1 w.heap.size m1) (PQ w.heap.size (m1 :: ps)) (fun u vs hB hs hv => app_PQ hB.size hpl (hLV.out.below hB) hv)) ?_
    refine oc (g_c1 2 (PQ w.heap.size (m1 :: ps)) ent_sha_Parts (fun uZ y bZ hy => hP1.out uZ y bZ hy)) ?_
    refine oc (g_al 0 al__32_uint8) ?_
    exact oc (g_sn 0 info__32_uint8 (h1 := U8_one _) (hm := by rw [U8_len, hd1]) (hl := by first | rw [U8_len, U8_len, hd1, show z32.length = 32 from rfl] | rfl)) on
  intro u1 b1_6 v1_1 hv1_1 v1_2 hv1_2 v1_4 hv1_4 HB1 sz1 K1
  simp only [fX, nK, nP, Wr.f, aK, pM] at K1
  simp only [setG, setN, setE, List.set_cons_zero, List.set_cons_succ]
  clear K0 HB0
  go_upto_region 2 with fail
  refine rgE K1 HB1 HB1.size [.no, .all 5 (U8 (ds))] [] [(0, 12, .agg (U8 (ks)).toArray), (2, 14, .slice (some ⟨b1_6, 0, none⟩) 32 32), (4, 16, .agg (U8 (ds)).toArray)] [] [] [⟨1, 13, some 3, PF w.heap.size 64 (U8 (m2))⟩, ⟨3, 15, some 4, PQ w.heap.size [m2, d1]⟩] [false] (.cons (fun _ _ _ h1 h2 => h2.stab h1) <| .cons (fun _ _ _ h1 h2 => h2.stab h1) <| Stab.nil) ?_ ?_
  · refine oc (g_lR 0 0 (cs := U8 (ks)) (fun j v h => by rw [Nat.zero_add]; exact h) Tryd.underlying33 (by rw [U8_len, hk64]; exact info__64_uint8)) ?_
    refine oc (g_cE 0 (PF w.heap.size 64 (U8 (m2))) ent_mac_masked (fun u hB hs => (hM2.out u).mono fun e u2 ⟨v, e1, h1, h2⟩ => ⟨v, e1, h1.mono hB.size, h2⟩)) ?_
    refine oc (g_sl (fun uZ => sl32 b1_6 uZ)) ?_
    refine oc (g_bY 0 1 (PF w.heap.size 64 (U8 (m2))) (PQ w.heap.size [m2, d1]) [0, 1] (fun y => [y, .slice (some ⟨b1_6, 0, none⟩) 32 32]) (fun w y hy => bsE2 y _ w hy.sl ⟨_, _, _, rfl⟩) (fun f u y kZ bZ hs hy => PQ.two _ bZ.size (PF_in (by rw [hm2]; exact hy)) (CV_in hd1 (kZ.cv 2) (kZ.lb hs 2)))) ?_
    refine oc (g_c1 1 (PQ w.heap.size [m2, d1]) ent_sha_Parts (fun uZ y bZ hy => hP2.out uZ y bZ hy)) ?_
    exact oc (g_st 1 info__32_uint8 (h1 := U8_one _) (hm := by rw [U8_len, hds]) (hl := by first | rw [U8_len, U8_len, hds, show z32.length = 32 from rfl] | rfl)) on
  intro u2 v2_1 hv2_1 v2_3 hv2_3 HB2 sz2 K2
  simp only [fX, nK, nP, Wr.f, aK, pM] at K2
  simp only [setG, setN, setE, List.set_cons_zero, List.set_cons_succ]
  clear K1 HB1
  go_wp2
  refine bodyPost_ret (res_cell Tryd.results53 rfl (K2.cv 0) Tryd.underlying24 rfl (by rw [U8_len, hds]; exact info__32_uint8)) rfl ⟨rfl, HB2⟩
theorem cParts2 (a c : List Nat) (z : Value) (u : World) {lo : Nat} (hV : GV u) (ha : BB 64 a) (hc : BB 32 c) (hz : PQ lo [a, c] u z) : Calls Tryd.prog 25 #[z] u fun e w' => e = .returned (.agg (U8 (dig (a ++ c))).toArray) ∧ Below u.heap.size u w' := by
  obtain ⟨b, cap, rfl, _, h2, h3⟩ := hz
  have h := cParts [a, c] b 0 cap u h2 hV h3 (show 2 ≤ 1000000 by omega) (fun p hp => by
    simp at hp
    rcases hp with rfl | rfl
    · exact ha.mem
    · exact hc.mem) (fun p hp => by
    simp at hp
    rcases hp with rfl | rfl
    · rw [ha.len]; omega
    · rw [hc.len]; omega) (by rw [List.flatten_cons, List.flatten_cons, List.flatten_nil, List.append_nil, List.length_append, ha.len, hc.len]; omega)
  rw [show ([a, c] : List (List Nat)).flatten = a ++ c by simp] at h
  exact h
theorem cHmac (ks : List Nat) (ps : List (List Nat)) (y : Value) (w : World) (hV : GV w) (hk : BB 64 ks) (hy : LV w y ps) (hn : ps.length ≤ 100000) (hx : ∀ p ∈ ps, ∀ x ∈ p, x < 256) (hl : ∀ p ∈ ps, p.length ≤ 1000) (ht : ps.flatten.length ≤ 900000) :
    Calls Tryd.prog 53 #[.agg (U8 (ks)).toArray, y] w fun e w' => e = .returned (.agg (U8 (hm ks ps.flatten)).toArray) ∧ Below w.heap.size w w' := by
  have b1 := msk_B hk (show 54 < 256 by decide)
  have b2 := msk_B hk (show 92 < 256 by decide)
  refine cHmac_core ks (msk 54 ks) (msk 92 ks) (dig (msk 54 ks ++ ps.flatten)) (hm ks ps.flatten) ps y w hk.len b1.len b2.len (dig_B _).len (hm_B _ _).len (by omega) hy (fun u => cMasked ks 54 u hk (by decide)) (fun u => cMasked ks 92 u hk (by decide)) (fun u z hB hz => ?_) (fun u z hB hz => ?_)
  · obtain ⟨b, cap, rfl, _, h2, h3⟩ := hz
    have h := cParts (msk 54 ks :: ps) b 0 cap u h2 (hV.below hB hV.sz) h3 (by simp; omega) (fun p hp => by
      rcases List.mem_cons.1 hp with rfl | hp
      · exact b1.mem
      · exact hx p hp) (fun p hp => by
      rcases List.mem_cons.1 hp with rfl | hp
      · rw [b1.len]; decide
      · exact hl p hp) (by rw [List.flatten_cons, List.length_append, b1.len]; omega)
    rw [List.flatten_cons] at h
    exact h
  · exact cParts2 _ _ z u (hV.below hB hV.sz) b2 (dig_B _) hz
set_option maxRecDepth 100000 in
set_option maxHeartbeats 4000000 in
theorem cMac_core (n cap : Nat) (sl : Option Addr) (kv : Value) (wk ds : List Nat) (w : World) (hds : ds.length = 32) (hWh : Hid (∀ (u : World), Below w.heap.size w u → Calls Tryd.prog 54 #[kv] u fun e u' => e = .returned (.agg (U8 (wk)).toArray) ∧ Below u.heap.size u u')) (hHm : Hid (∀ (u : World) (y : Value), Below w.heap.size w u → PS w.heap.size 1 [(.slice sl n cap)] u y → Calls Tryd.prog 53 #[.agg (U8 (wk)).toArray, y] u fun e u' => e = .returned (.agg (U8 (ds)).toArray) ∧ Below u.heap.size u u')) :
    Calls Tryd.prog 27 #[kv, (.slice sl n cap)] w fun e w' => e = .returned (.agg (U8 (ds)).toArray) ∧ Below w.heap.size w w' := by
  go_enter Tryd.func27, Tryd.ntmps27
  go_upto_region 1 with fail
  generalize hC : (w.alloc (.cells (Z32b : List Value).toArray 24)) = v0 at *
  have HB0 : Below w.heap.size w v0 := by rw [← hC]; exact balloc (bself w) _
  have K0 : Bk w.heap.size v0 [(true, w.heap.size, U8 (z32))] := by rw [← hC]; exact (Bk.nil _ w).ad
  clear hC
  refine rgF K0 HB0 HB0.size [.all 5 (U8 (ds))] [] [(0, 5, kv), (1, 6, .agg (U8 (wk)).toArray), (2, 7, (.slice sl n cap)), (4, 9, .agg (U8 (ds)).toArray)] [] [] [⟨3, 8, some 4, PS w.heap.size 1 [(.slice sl n cap)]⟩] [] (.cons (fun _ _ _ h1 h2 => h2.stab h1) <| Stab.nil) ?_ ?_
  · refine oc g_mv ?_
    refine oc (g_cb ent_mac_whole (fun uZ bZ => hWh.out uZ bZ)) ?_
    refine oc g_mv ?_
    refine oc (g_bR 0 (PS w.heap.size 1 [(.slice sl n cap)]) [0] [(.slice sl n cap)] [(.slice sl n cap)] (bsSl _ _ _) (fun u hu => PS.new 1 _ _ u (Nat.le_trans HB0.size hu))) ?_
    refine oc (g_c2 0 (PS w.heap.size 1 [(.slice sl n cap)]) ent_mac_hmac (fun uZ y bZ hy => hHm.out uZ y bZ hy)) ?_
    exact oc (g_st 0 info__32_uint8 (h1 := U8_one _) (hm := by rw [U8_len, hds]) (hl := by first | rw [U8_len, U8_len, hds, show z32.length = 32 from rfl] | rfl)) on
  intro u1 v1_3 hv1_3 HB1 sz1 K1
  simp only [fX, nK, nP, Wr.f, aK, pM] at K1
  simp only [setG, setN, setE, List.set_cons_zero, List.set_cons_succ]
  clear K0 HB0
  go_wp2
  refine bodyPost_ret (res_cell Tryd.results27 rfl (K1.cv 0) Tryd.underlying24 rfl (by rw [U8_len, hds]; exact info__32_uint8)) rfl ⟨rfl, HB1⟩
/-- HMAC. -/
def mac (ks xs : List Nat) : List Nat := hm (whl ks) xs
theorem mac_B (ks xs : List Nat) : BB 32 (mac ks xs) := hm_B _ _
theorem LV_one {u : World} {y v : Value} {lo : Nat} {xs : List Nat} (h : PS lo 1 [v] u y) (hv : IN u u.heap.size v xs) : LV u y [xs] := by
  obtain ⟨b, c, rfl, _, hb, _, hcv⟩ := h
  refine ⟨_, c, b, 0, rfl, .inr rfl, hb, PL_of (vs := [v]) (zs := []) (by simpa using hcv) rfl fun i x p hx hp => ?_⟩
  match i with
  | 0 => simp at hx hp; subst hx hp; exact hv
  | i + 1 => simp at hx
theorem cMac (ks xs : List Nat) (v v2 : Value) (w : World) (hV : GV w) (hin : IN w w.heap.size v ks) (hsn : ∀ n c, v = .slice none n c → c = 0) (hin2 : IN w w.heap.size v2 xs) (hk : ∀ x ∈ ks, x < 256) (hx : ∀ x ∈ xs, x < 256) (hkl : ks.length ≤ 1000) (hl : xs.length ≤ 1000) :
    Calls Tryd.prog 27 #[v, v2] w fun e w' => e = .returned (.agg (U8 (mac ks xs)).toArray) ∧ Below w.heap.size w w' := by
  have hin3 := hin2
  obtain ⟨sl, cap, gb, go, rfl, h1, h2, h3, h4⟩ := hin2
  refine cMac_core xs.length cap sl v (whl ks) (mac ks xs) w (mac_B _ _).len (fun u hB => cWhole ks v u (hV.below hB hV.sz) ((hin.below hB).mono hB.size) hsn hk hkl) (fun u y hB hy => ?_)
  have h := cHmac (whl ks) [xs] y u (hV.below hB hV.sz) (whl_B hk) (LV_one hy ((hin3.below hB).mono hB.size)) (by simp) (by simpa using hx) (by simpa using hl) (by simp; omega)
  simpa [mac] using h
end Go.Proofs.YtbgdcgboomdimaaDoor
