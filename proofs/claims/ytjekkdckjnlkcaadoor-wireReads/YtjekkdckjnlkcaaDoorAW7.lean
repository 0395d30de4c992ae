/- What the laws of wire do with what came in: short, parts, few. -/
import Derived.Test.YtjekkdckjnlkcaaDoorAW6
namespace Go.Proofs.YtjekkdckjnlkcaaDoor
open Go.RowKit
set_option linter.unusedVariables false
set_option linter.unusedSimpArgs false
theorem leq_iw (p q : Operand) (x y : Int) (b : Bool) (w : World) (h : decide (x ≤ y) = b) : (do eqGuard .leq 3 p q (.int .i64 x) (.int .i64 y); binOp .leq 3 (.int .i64 x) (.int .i64 y) : Sem Value).run Tryd.prog w = .ok (.bool b) w := by
  subst h; go_simp
theorem ent_seneschallaw08_short (vs : Array Value) (w : World) : (callFunc 16 vs).run Tryd.prog w = .ok (.enter 16 vs) w := by kernel_rfl
set_option maxRecDepth 100000 in
set_option maxHeartbeats 8000000 in
theorem cShort8 (sl : Option Addr) (n cap m : Nat) (w : World) (hmin : min (n : Int) 4097 = (m : Int)) (hm : m ≤ n) (hc : n ≤ cap) (hsn : sl = none → cap = 0) :
    Calls Tryd.prog 16 #[.slice sl n cap] w fun e w' => e = .returned (.slice sl m cap) ∧ Below w.heap.size w w' := by
  go_enter Tryd.func16, Tryd.ntmps16
  have HB0 : Below w.heap.size w w := Below.refl _ _
  have K0_1 := Bk.nil (w.heap.size) w
  go_upto_region 1 with fail
  refine rgP K0_1 HB0 HB0.size [] [] [(0, 3, (.slice sl n cap)), (1, 4, (.slice sl n cap)), (2, 5, .int .i64 (n : Int)), (3, 6, .int .i64 (m : Int)), (4, 7, (.slice sl m cap)), (5, 2, (.slice sl m cap))] [] [] [] ?_ ?_
  · refine oc g_mv ?_
    refine oc g_mv ?_
    refine oc (g_ln Tryd.underlying24) ?_
    refine oc (g_mn hmin) ?_
    refine oc (g_sl (fun uZ => slHB sl n cap m hm hc hsn uZ)) ?_
    exact oc g_as on
  intro u1 HB1 sz1 K1
  simp only [fX, nK, nP, Wr.f, aK, pM] at K1
  simp only [setG, setN, List.set_cons_zero, List.set_cons_succ]
  clear HB0
  go_wp2
  refine bodyPost_ret (v := .slice sl m cap) (by simp [results, Tryd.results16, go_sem, ]) rfl ⟨rfl, HB1⟩
theorem IN_pre {u : World} {s : Option Addr} {k k2 c : Nat} {ps q : List Nat} (h : IN u u.heap.size (.slice s k c) ps) (hq : q = ps.take k2) (hk : ps.length = k) (h2 : k2 ≤ k) : IN u u.heap.size (.slice s k2 c) q := by
  have hql : q.length = k2 := by rw [hq, List.length_take]; omega
  obtain ⟨s2, c2, g2, o2, q1, q2, q3, q4, q5⟩ := h
  simp at q1
  obtain ⟨rfl, _, rfl⟩ := q1
  refine ⟨_, _, g2, o2, by rw [hql], by rw [hql]; omega, ?_, q4, fun j hj3 => ?_⟩
  · rw [hql]; rcases q3 with h | h
    · exact .inl (by omega)
    · exact .inr h
  · rw [hql] at hj3
    rw [hq, gtake _ _ hj3]; exact q5 j (by omega)
theorem IN_cap {u : World} {s : Option Addr} {k c : Nat} {ps : List Nat} (h : IN u u.heap.size (.slice s k c) ps) : k ≤ c := by
  obtain ⟨s2, c2, g2, o2, q1, q2, q3, q4, q5⟩ := h
  simp at q1
  obtain ⟨_, q3, rfl⟩ := q1
  omega
set_option maxRecDepth 100000 in
set_option maxHeartbeats 8000000 in
theorem cParts8_core (n gcap : Nat) (gsl : Option Addr) (pS qS : Nat → List Nat) (lf : Nat → Nat) (mF : Nat → List (List Nat)) (w : World)
    (hrow : Hid (0 < n → ∃ gl go, gsl = some ⟨gl, go, none⟩ ∧ gl < w.heap.size ∧ ∀ i, i < n → ∃ sv cv, w.cell? ⟨gl, go + i, none⟩ = some (.slice sv (pS i).length cv) ∧ IN w w.heap.size (.slice sv (pS i).length cv) (pS i) ∧ (sv = none → cv = 0)))
    (hl0 : lf 0 = 12288) (hls : Hid (∀ i, lf (i + 1) = lf i - (qS i).length)) (hll : Hid (∀ i, lf i ≤ 12288)) (hq : Hid (∀ i, qS i = (pS i).take (min (min (pS i).length 4097) (lf i)))) (hm0 : Hid (mF 0 = [])) (hms : Hid (∀ i, mF (i + 1) = mF i ++ [qS i])) :
    Calls Tryd.prog 28 #[.slice gsl n gcap] w fun e w' => ∃ v, e = .returned v ∧ LVn w' v (mF (min n 257)) ∧ Below w.heap.size w w' := by
  have hbs := bs0w
  go_enter Tryd.func28, Tryd.ntmps28
  go_wp2_with fail
  go_loopw [5, 4, 3] (fun s5 s4 s3 wr => ∃ (i bo co : Nat) (vs zs : List Value), i ≤ n ∧ i ≤ 257 ∧ s5 = .int .i64 (i : Int) ∧ s4 = .int .i64 (lf i : Int) ∧ s3 = .slice (some ⟨bo, 0, none⟩) i co ∧ vs.length = i ∧ i ≤ co ∧ zs.length = co - i ∧ w.heap.size ≤ bo ∧ bo < wr.heap.size ∧ Hid (CV wr bo (vs ++ zs)) ∧ Hid (RW wr bo vs (mF i)) ∧ Below w.heap.size w wr) (fun s5 _ _ _ => 257 - (intOf s5).toNat)
  case atStart => exact ⟨0, w.heap.size, 0, [], [], by omega, by omega, rfl, by rw [hl0]; rfl, rfl, rfl, by omega, rfl, Nat.le_refl _, by simp, (fun j v h => by simp at h), (by rw [hm0.out]; exact RW.nil _ _), balloc (bself w) _⟩
  case round =>
    obtain ⟨i, bo, co, vs, zs, hi, hi7, rfl, rfl, rfl, hvl, hmc, hzl, hlo, hlt, Kv, hrw, HBr⟩ := hrel
    have hsw := HBr.size
    have hfin : (n ≤ i ∨ 257 ≤ i) → min n 257 = i := fun h => by omega
    by_cases hj : i < n
    · have hl2 : (i : Int) < (n : Int) := by omega
      have hl1 : decide ((i : Int) < (n : Int)) = true := by simp; omega
      by_cases hj2 : i < 257
      · have hl3 : decide ((i : Int) ≤ 256) = true := by simp; omega
        obtain ⟨gl, go, rfl, hgl, hcl⟩ := hrow.out (by omega)
        obtain ⟨sv, cv, hc2, hinp, hsn⟩ := hcl i hj
        have hd2 : wr.cell? ⟨gl, go + i, none⟩ = some (.slice sv (pS i).length cv) := (HBr.cell (p := ⟨gl, go + i, none⟩) hgl).trans hc2
        have hqi := hq.out i
        have hls1 := hls.out i
        have hll1 := hll.out i
        have hM := hms.out i
        have hinw : IN wr wr.heap.size (.slice sv (pS i).length cv) (pS i) := (hinp.below HBr).mono HBr.size
        obtain ⟨k, ek⟩ : ∃ k, (pS i).length = k := ⟨_, rfl⟩
        obtain ⟨L, eL⟩ : ∃ L, lf i = L := ⟨_, rfl⟩
        obtain ⟨ps, eps⟩ : ∃ p, pS i = p := ⟨_, rfl⟩
        obtain ⟨q, eq⟩ : ∃ q, qS i = q := ⟨_, rfl⟩
        rw [ek] at hqi hd2
        rw [eps] at hinw ek
        rw [ek] at hinw
        rw [eL] at hqi hls1 hll1
        rw [eq] at hqi hls1 hM
        rw [eps] at hqi
        rw [eL]
        obtain ⟨k1, ek1⟩ : ∃ x, min k 4097 = x := ⟨_, rfl⟩
        obtain ⟨k2, ek2⟩ : ∃ x, min k1 L = x := ⟨_, rfl⟩
        rw [ek1, ek2] at hqi
        have hkc : k ≤ cv := IN_cap hinw
        have hk1 : k1 ≤ k := by omega
        have hk2 : k2 ≤ k1 := by omega
        have hk3 : k2 ≤ L := by omega
        have hmn1 : min (k : Int) 4097 = (k1 : Int) := by omega
        have hmn2 : min (k1 : Int) (L : Int) = (k2 : Int) := by omega
        have hql : q.length = k2 := by rw [hqi, List.length_take]; omega
        have hinq : Hid (IN wr wr.heap.size (.slice sv k2 cv) q) := IN_pre hinw hqi ek (by omega)
        rw [hql] at hls1
        have hgb2 : gl < wr.heap.size := Nat.lt_of_lt_of_le hgl hsw
        have HBz : Below wr.heap.size wr wr := Below.refl _ _
        have w2 : IntKind.i64.wrap ((i : Int) + 1) = ((i + 1 : Nat) : Int) := by rw [IntKind.wrap_i64]; omega
        replace hM : Hid _ := hM
        clear hcl hinp eL ek ek1 ek2 eps eq hinw hqi
        have K0_1 := Bk.nil (wr.heap.size) wr
        go_upto_region 4 with fail
        refine rgP K0_1 HBz HBz.size [] [] [(0, 8, .int .i64 ((i : Nat) : Int)), (1, 9, .slice (some ⟨gl, go, none⟩) n gcap), (2, 10, .int .i64 ((n : Nat) : Int)), (3, 11, .bool true), (4, 12, .bool true), (5, 13, .int .i64 ((i : Nat) : Int)), (6, 14, .bool true), (7, 15, .bool true)] [] [] [] ?_ ?_
        · refine oc g_mv ?_
          refine oc g_mv ?_
          refine oc (g_ln Tryd.underlying38) ?_
          refine oc (g_bn (fun uZ => lss_i _ _ (i : Int) (n : Int) _ uZ hl1)) ?_
          refine oc g_mv ?_
          refine oc g_mv ?_
          refine oc (g_bn (fun uZ => leq_iw _ _ (i : Int) 256 _ uZ hl3)) ?_
          exact oc g_pk on
        intro u1 HB1 sz1 K1
        simp only [fX, nK, nP, Wr.f, aK, pM] at K1
        simp only [setG, setN, List.set_cons_zero, List.set_cons_succ]
        go_upto_region 6 with fail
        refine rgP K1 HB1 HB1.size [] [] [(0, 18, .slice (some ⟨gl, go, none⟩) n gcap), (1, 19, .int .i64 ((i : Nat) : Int)), (2, 20, .pointer (some ⟨gl, go + i, none⟩)), (3, 21, .slice sv k cv), (4, 22, .slice sv k1 cv), (5, 6, .slice sv k1 cv)] [] [] [] ?_ ?_
        · refine oc g_mv ?_
          refine oc g_mv ?_
          refine oc (g_ix (fun uZ => ixSl gl go n gcap i uZ hj)) ?_
          refine oc (g_lg gl (go + i) lSl (hd2) (hgb2)) ?_
          refine oc (g_cb ent_seneschallaw08_short (fun uZ bZ => cShort8 sv k cv k1 uZ hmn1 hk1 hkc hsn)) ?_
          exact oc g_as on
        intro u2 HB2 sz2 K2
        simp only [fX, nK, nP, Wr.f, aK, pM] at K2
        simp only [setG, setN, List.set_cons_zero, List.set_cons_succ]
        clear K1 HB1
        go_upto_region 7 with fail
        refine rgP K2 HB2 HB2.size [] [] [(0, 23, .slice sv k1 cv), (1, 24, .slice sv k1 cv), (2, 25, .int .i64 ((k1 : Nat) : Int)), (3, 26, .int .i64 ((L : Nat) : Int)), (4, 27, .int .i64 ((k2 : Nat) : Int)), (5, 28, .slice sv k2 cv), (6, 6, .slice sv k2 cv)] [(6, 0), (6, 1)] [(6, 6)] [] ?_ ?_
        · refine oc g_mv ?_
          refine oc g_mv ?_
          refine oc (g_ln Tryd.underlying24) ?_
          refine oc g_mv ?_
          refine oc (g_mn hmn2) ?_
          refine oc (g_sl (fun uZ => slHB sv k1 cv k2 hk2 (by omega) hsn uZ)) ?_
          exact oc g_as on
        intro u3 HB3 sz3 K3
        simp only [fX, nK, nP, Wr.f, aK, pM] at K3
        simp only [setG, setN, List.set_cons_zero, List.set_cons_succ]
        clear K2 HB2
        go_upto_region 8 with fail
        refine rgP K3 HB3 HB3.size [] [] [(0, 29, .int .i64 ((L : Nat) : Int)), (1, 30, .slice sv k2 cv), (2, 31, .int .i64 ((k2 : Nat) : Int)), (3, 32, .int .i64 ((L - k2 : Nat) : Int)), (4, 4, .int .i64 ((L - k2 : Nat) : Int))] [(4, 0)] [(4, 4)] [] ?_ ?_
        · refine oc g_mv ?_
          refine oc g_mv ?_
          refine oc (g_ln Tryd.underlying24) ?_
          refine oc (g_bn (fun uZ => sub_i _ _ (L : Int) (k2 : Int) ((L - k2 : Nat) : Int) uZ (by omega) (by omega) (by omega))) ?_
          exact oc g_as on
        intro u4 HB4 sz4 K4
        simp only [fX, nK, nP, Wr.f, aK, pM] at K4
        simp only [setG, setN, List.set_cons_zero, List.set_cons_succ]
        clear K3 HB3
        have HBq : Below wr.heap.size wr u4 := HB4
        have hB2 : Below w.heap.size w u4 := bstep HBr HBq
        clear hd2
        have Kq : Hid (CV u4 bo (vs ++ zs)) := Kv.out.below HBq hlt
        have hrq : Hid (RW u4 bo vs (mF i)) := hrw.out.below HBq
        have hltq : bo < u4.heap.size := Nat.lt_of_lt_of_le hlt HBq.size
        have hinu : Hid (IN u4 u4.heap.size (.slice sv k2 cv) q) := (hinq.out.below HBq).mono HBq.size
        generalize u4 = uq at *
        clear Kv hrw HBq HBz hinq
        have hcb := cBytes q (.slice sv k2 cv) uq (by omega) hinu
        go_wp2_with (first | (go_at_call 17; refine hcb.mono ?_; rintro e ua ⟨v1, rfl, hpg, hBa⟩; clear hcb; have hnb := PG_inb (b := bo) hpg rfl hltq; obtain ⟨b4, c4, z4, rfl, g1, g2, g3, g4, g5⟩ := hpg; rw [hql] at hnb; obtain ⟨v2, ub, r2, rg2, b5, c5, z5, rfl, f1, f2, f3, f4, f5⟩ := app_sl (ty := 38) (sl := some ⟨b4, 0, none⟩) (n := k2) (c := c4) (Kq.out.below hBa hltq) (Nat.lt_of_lt_of_le hltq hBa.size) hvl hmc hzl (by omega)) | (at_builtin; refine wpList_app2 rfl _ _ 38 rfl _ _ _ rfl rfl r2 ?_; clear r2))
        have hBc : Below w.heap.size w (ua.alloc (.cells #[.slice (some ⟨b4, 0, none⟩) k2 c4] 24)) := balloc (bstep hB2 hBa) _
        have hBe : Below w.heap.size w ub := hBc.grown rg2 hBc.size (fun j e => by cases e; exact hlo)
        have hrn : Hid (RW ub b5 (vs ++ [.slice (some ⟨b4, 0, none⟩) k2 c4]) (mF (i + 1))) := by
          rw [hM.out]; exact (((hrq.out.below hBa).more hnb).below (balloc (bself ua) _)).grown rg2 f1
        have f5 : Hid (CV ub b5 ((vs ++ [.slice (some ⟨b4, 0, none⟩) k2 c4]) ++ z5)) := f5
        have hb5 : w.heap.size ≤ b5 := by
          have := hBc.size
          rcases f1 with h | h
          · omega
          · omega
        refine ⟨⟨i + 1, b5, c5, vs ++ [.slice (some ⟨b4, 0, none⟩) k2 c4], z5, by omega, by omega, by simp, by rw [hls1], by simp, by rw [List.length_append, hvl]; rfl, f3, by omega, hb5, f2, f5, hrn, hBe⟩, ?_⟩
        simp [intOf]; omega
      · have hl3 : ¬ (i : Int) ≤ 256 := by omega
        go_wp2
        exact bodyPost_ret (v := .slice (some ⟨bo, 0, none⟩) i co) (by simp [results, Tryd.results28, go_sem]) rfl ⟨_, rfl, (by rw [hfin (by omega)]; exact hrw.out.lvn Kv.out hvl hlt), HBr⟩
    · have hl2 : ¬ (i : Int) < (n : Int) := by omega
      go_wp2
      exact bodyPost_ret (v := .slice (some ⟨bo, 0, none⟩) i co) (by simp [results, Tryd.results28, go_sem]) rfl ⟨_, rfl, (by rw [hfin (by omega)]; exact hrw.out.lvn Kv.out hvl hlt), HBr⟩
end Go.Proofs.YtjekkdckjnlkcaaDoor
