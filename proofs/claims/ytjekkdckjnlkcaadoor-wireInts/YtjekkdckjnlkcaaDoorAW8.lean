/- What the laws of wire do with what came in: few. -/
import Derived.Test.YtjekkdckjnlkcaaDoorAW7
namespace Go.Proofs.YtjekkdckjnlkcaaDoor
open Go.RowKit
set_option linter.unusedVariables false
set_option linter.unusedSimpArgs false
theorem ixF (b o n cap k : Nat) (w : World) (hk : k < n) : (Instr.indexAt 22 (.slice (some ⟨b, o, none⟩) n cap) (.int .i64 (k : Int))).run Tryd.prog w = .ok (.pointer (some ⟨b, o + 2 * k, none⟩)) w := by
  have h2 : (k : Int) < (n : Int) := by omega
  have e : o + k * 2 = o + 2 * k := by omega
  go_simp
theorem fdF0 (b o : Nat) (w : World) : (Instr.fieldAt 54 (.pointer (some ⟨b, o, none⟩)) 0).run Tryd.prog w = .ok (.pointer (some ⟨b, o, none⟩)) w := by go_simp
theorem fdF1 (b o : Nat) (w : World) : (Instr.fieldAt 54 (.pointer (some ⟨b, o, none⟩)) 1).run Tryd.prog w = .ok (.pointer (some ⟨b, o + 1, none⟩)) w := by go_simp
theorem app_flW {u : World} {bo m co : Nat} {vs zs : List Value} {t : Int} {sl : Option Addr} {n c N cx : Nat} {ty : TypeId} (hc : CV u bo (vs ++ zs)) (hN : CV u N [.int .i64 t, .slice sl n c]) (hb : bo < u.heap.size) (hvl : vs.length = 2 * m) (hmc : m ≤ co) (hz : zs.length = 2 * (co - m)) (hl : m ≤ 1000000) :
    ∃ v u', (Builtin.append_ #[22, 22] ty #[.slice (some ⟨bo, 0, none⟩) m co, .slice (some ⟨N, 0, none⟩) 1 cx]).run Tryd.prog u = .ok v u' ∧ u.grownBy u' (some bo) ∧ PH u.heap.size bo 2 (m + 1) (vs ++ [.int .i64 t, .slice sl n c]) u' v := by
  obtain ⟨ti, hti, htm⟩ := Option.map_eq_some_iff.1 infoF
  simp only [Prod.mk.injEq] at htm
  obtain ⟨hzv, hsz, hby⟩ := htm
  obtain ⟨v', u', hr, hg, hp⟩ := run_app (P := Tryd.prog) u (ty := ty) Tryd.underlying22 hti hzv (by rw [hsz]; rfl) (base := u.heap.size) (n := m) (cap := co) (m := 1) (news := [.int .i64 t, .slice sl n c]) (y := .slice (some ⟨N, 0, none⟩) 1 cx) hc hb (by rw [hsz]; omega) (by rw [hsz]; omega) hmc (Nat.le_refl _) ⟨_, cx, rfl, .inr ⟨_, rfl, fun j v hj => by rw [Addr.add0]; exact (hN j v hj).1⟩⟩ (by rw [hsz]; rfl) (fun v hv => by simp at hv; rcases hv with h | h <;> (subst h; rfl)) (by rw [hby]; omega) (by omega)
  rw [hsz] at hp
  exact ⟨v', u', hr, hg, hp⟩
theorem opw_app {P : Program} {w w' : World} {ops : Array Oper} {o : Oper} {a : Act} {K : Act → World → Prop} {Q : Exit → Act → World → Prop} (hgd : o.guard = none) (s x : Operand) (t : TypeId) (ho : o.op = .call { callee := .builtin .append, args := #[s, x], argTypes := #[t, t] }) (vs vx v : Value) (hs : a.eval s = vs) (hx : a.eval x = vx) (hr : (Builtin.append_ #[t, t] o.type #[vs, vx]).run P w = .ok v w') (h : K (a.put o.dst v) w') : if Region.wanted o (yielded ops a.tmps) = true then Oper.wp P o a w K Q else K (a.put o.dst undef) w := by
  rw [if_pos (by simp [Region.wanted, hgd])]
  unfold Oper.wp execOp
  simp only [ho, resolve, invoke, builtin, Sem.run_bind, Sem.run_pure, Result.andThen_ok, List.map_toArray, List.map_cons, List.map_nil, hs, hx, hr]
  exact h
set_option maxRecDepth 100000 in
set_option maxHeartbeats 8000000 in
theorem cFew8_core (n gcap : Nat) (gsl : Option Addr) (tg : Nat → Int) (pS qS : Nat → List Nat) (lf : Nat → Nat) (mF : Nat → List FldI) (w : World)
    (hrow : Hid (0 < n → ∃ gl go, gsl = some ⟨gl, go, none⟩ ∧ gl < w.heap.size ∧ ∀ i, i < n → w.cell? ⟨gl, go + 2 * i, none⟩ = some (.int .i64 (tg i)) ∧ ∃ sv cv, w.cell? ⟨gl, go + 2 * i + 1, none⟩ = some (.slice sv (pS i).length cv) ∧ IN w w.heap.size (.slice sv (pS i).length cv) (pS i) ∧ (sv = none → cv = 0)))
    (hl0 : lf 0 = 12288) (hls : Hid (∀ i, lf (i + 1) = lf i - (qS i).length)) (hll : Hid (∀ i, lf i ≤ 12288)) (hq : Hid (∀ i, qS i = (pS i).take (min (min (pS i).length 4097) (lf i)))) (hm0 : Hid (mF 0 = [])) (hms : Hid (∀ i, mF (i + 1) = mF i ++ [(tg i, qS i)])) :
    Calls Tryd.prog 9 #[.slice gsl n gcap] w fun e w' => ∃ v, e = .returned v ∧ VFn w' v (mF (min n 257)) ∧ Below w.heap.size w w' := by
  have hbs := bs0f
  have hb1 := bs1f
  go_enter Tryd.func9, Tryd.ntmps9
  go_wp2_with fail
  go_loopw [5, 4, 3] (fun s5 s4 s3 wr => ∃ (i bo co : Nat) (vs zs : List Value), i ≤ n ∧ i ≤ 257 ∧ s5 = .int .i64 (i : Int) ∧ s4 = .int .i64 (lf i : Int) ∧ s3 = .slice (some ⟨bo, 0, none⟩) i co ∧ vs.length = 2 * i ∧ i ≤ co ∧ zs.length = 2 * (co - i) ∧ w.heap.size ≤ bo ∧ bo < wr.heap.size ∧ Hid (CV wr bo (vs ++ zs)) ∧ Hid (FW wr bo vs (mF i)) ∧ Below w.heap.size w wr) (fun s5 _ _ _ => 257 - (intOf s5).toNat)
  case atStart => exact ⟨0, w.heap.size, 0, [], [], by omega, by omega, rfl, by rw [hl0]; rfl, rfl, rfl, by omega, rfl, Nat.le_refl _, by simp, (fun j v h => by simp at h), (by rw [hm0.out]; exact FW.nil _ _), balloc (bself w) _⟩
  case round =>
    obtain ⟨i, bo, co, vs, zs, hi, hi7, rfl, rfl, rfl, hvl, hmc, hzl, hlo, hlt, Kv, hrw, HBr⟩ := hrel
    have hsw := HBr.size
    have hfin : (n ≤ i ∨ 257 ≤ i) → min n 257 = i := fun h => by omega
    by_cases hj : i < n
    · have hl2 : (i : Int) < (n : Int) := by omega
      have hl1 : decide ((i : Int) < (n : Int)) = true := by simp; omega
      by_cases hj2 : i < 257
      · have hl3 : decide ((i : Int) ≤ 256) = true := by simp; omega
        obtain ⟨gl, go, rfl, hgl, hcl⟩ := hrow.out (by omega)
        obtain ⟨hc1, sv, cv, hc2, hinp, hsn⟩ := hcl i hj
        have hd1 : wr.cell? ⟨gl, go + 2 * i, none⟩ = some (.int .i64 (tg i)) := (HBr.cell (p := ⟨gl, go + 2 * i, none⟩) hgl).trans hc1
        have hd2 : wr.cell? ⟨gl, go + 2 * i + 1, none⟩ = some (.slice sv (pS i).length cv) := (HBr.cell (p := ⟨gl, go + 2 * i + 1, none⟩) hgl).trans hc2
        have hqi := hq.out i
        have hls1 := hls.out i
        have hll1 := hll.out i
        have hM := hms.out i
        have hinw : IN wr wr.heap.size (.slice sv (pS i).length cv) (pS i) := (hinp.below HBr).mono HBr.size
        obtain ⟨k, ek⟩ : ∃ k, (pS i).length = k := ⟨_, rfl⟩
        obtain ⟨L, eL⟩ : ∃ L, lf i = L := ⟨_, rfl⟩
        obtain ⟨ps, eps⟩ : ∃ p, pS i = p := ⟨_, rfl⟩
        obtain ⟨q, eq⟩ : ∃ q, qS i = q := ⟨_, rfl⟩
        rw [ek] at hqi hd2
        rw [eps] at hinw ek
        rw [ek] at hinw
        rw [eL] at hqi hls1 hll1
        rw [eq] at hqi hls1 hM
        rw [eps] at hqi
        rw [eL]
        obtain ⟨k1, ek1⟩ : ∃ x, min k 4097 = x := ⟨_, rfl⟩
        obtain ⟨k2, ek2⟩ : ∃ x, min k1 L = x := ⟨_, rfl⟩
        rw [ek1, ek2] at hqi
        have hkc : k ≤ cv := IN_cap hinw
        have hk1 : k1 ≤ k := by omega
        have hk2 : k2 ≤ k1 := by omega
        have hk3 : k2 ≤ L := by omega
        have hmn1 : min (k : Int) 4097 = (k1 : Int) := by omega
        have hmn2 : min (k1 : Int) (L : Int) = (k2 : Int) := by omega
        have hql : q.length = k2 := by rw [hqi, List.length_take]; omega
        have hinq : Hid (IN wr wr.heap.size (.slice sv k2 cv) q) := IN_pre hinw hqi ek (by omega)
        rw [hql] at hls1
        have hgb2 : gl < wr.heap.size := Nat.lt_of_lt_of_le hgl hsw
        have HBz : Below wr.heap.size wr wr := Below.refl _ _
        have w2 : IntKind.i64.wrap ((i : Int) + 1) = ((i + 1 : Nat) : Int) := by rw [IntKind.wrap_i64]; omega
        replace hM : Hid _ := hM
        clear hcl hinp eL ek ek1 ek2 eps eq hinw hqi
        obtain ⟨t, et⟩ : ∃ t, tg i = t := ⟨_, rfl⟩
        rw [et] at hd1 hM
        clear et
        have K0_1 := Bk.nil (wr.heap.size) wr
        go_upto_region 4 with fail
        refine rgP K0_1 HBz HBz.size [] [] [(0, 8, .int .i64 ((i : Nat) : Int)), (1, 9, .slice (some ⟨gl, go, none⟩) n gcap), (2, 10, .int .i64 ((n : Nat) : Int)), (3, 11, .bool true), (4, 12, .bool true), (5, 13, .int .i64 ((i : Nat) : Int)), (6, 14, .bool true), (7, 15, .bool true)] [] [] [] ?_ ?_
        · refine oc g_mv ?_
          refine oc g_mv ?_
          refine oc (g_ln Tryd.underlying22) ?_
          refine oc (g_bn (fun uZ => lss_i _ _ (i : Int) (n : Int) _ uZ hl1)) ?_
          refine oc g_mv ?_
          refine oc g_mv ?_
          refine oc (g_bn (fun uZ => leq_iw _ _ (i : Int) 256 _ uZ hl3)) ?_
          exact oc g_pk on
        intro u1 HB1 sz1 K1
        simp only [fX, nK, nP, Wr.f, aK, pM] at K1
        simp only [setG, setN, List.set_cons_zero, List.set_cons_succ]
        go_upto_region 6 with fail
        refine rgP K1 HB1 HB1.size [] [] [(0, 18, .slice (some ⟨gl, go, none⟩) n gcap), (1, 19, .int .i64 ((i : Nat) : Int)), (2, 20, .pointer (some ⟨gl, go + 2 * i, none⟩)), (3, 21, .pointer (some ⟨gl, go + 2 * i + 1, none⟩)), (4, 22, .slice sv k cv), (5, 23, .slice sv k1 cv), (6, 6, .slice sv k1 cv)] [] [] [] ?_ ?_
        · refine oc g_mv ?_
          refine oc g_mv ?_
          refine oc (g_ix (fun uZ => ixF gl go n gcap i uZ hj)) ?_
          refine oc (g_fd (fun uZ => fdF1 gl (go + 2 * i) uZ)) ?_
          refine oc (g_lg gl (go + 2 * i + 1) lSl (hd2) (hgb2)) ?_
          refine oc (g_cb ent_seneschallaw08_short (fun uZ bZ => cShort8 sv k cv k1 uZ hmn1 hk1 hkc hsn)) ?_
          exact oc g_as on
        intro u2 HB2 sz2 K2
        simp only [fX, nK, nP, Wr.f, aK, pM] at K2
        simp only [setG, setN, List.set_cons_zero, List.set_cons_succ]
        clear K1 HB1
        go_upto_region 7 with fail
        refine rgP K2 HB2 HB2.size [] [] [(0, 24, .slice sv k1 cv), (1, 25, .slice sv k1 cv), (2, 26, .int .i64 ((k1 : Nat) : Int)), (3, 27, .int .i64 ((L : Nat) : Int)), (4, 28, .int .i64 ((k2 : Nat) : Int)), (5, 29, .slice sv k2 cv), (6, 6, .slice sv k2 cv)] [(6, 0), (6, 1)] [(6, 6)] [] ?_ ?_
        · refine oc g_mv ?_
          refine oc g_mv ?_
          refine oc (g_ln Tryd.underlying24) ?_
          refine oc g_mv ?_
          refine oc (g_mn hmn2) ?_
          refine oc (g_sl (fun uZ => slHB sv k1 cv k2 hk2 (by omega) hsn uZ)) ?_
          exact oc g_as on
        intro u3 HB3 sz3 K3
        simp only [fX, nK, nP, Wr.f, aK, pM] at K3
        simp only [setG, setN, List.set_cons_zero, List.set_cons_succ]
        clear K2 HB2
        go_upto_region 8 with fail
        refine rgP K3 HB3 HB3.size [] [] [(0, 30, .int .i64 ((L : Nat) : Int)), (1, 31, .slice sv k2 cv), (2, 32, .int .i64 ((k2 : Nat) : Int)), (3, 33, .int .i64 ((L - k2 : Nat) : Int)), (4, 4, .int .i64 ((L - k2 : Nat) : Int))] [(4, 0)] [(4, 4)] [] ?_ ?_
        · refine oc g_mv ?_
          refine oc g_mv ?_
          refine oc (g_ln Tryd.underlying24) ?_
          refine oc (g_bn (fun uZ => sub_i _ _ (L : Int) (k2 : Int) ((L - k2 : Nat) : Int) uZ (by omega) (by omega) (by omega))) ?_
          exact oc g_as on
        intro u4 HB4 sz4 K4
        simp only [fX, nK, nP, Wr.f, aK, pM] at K4
        simp only [setG, setN, List.set_cons_zero, List.set_cons_succ]
        clear K3 HB3
        have HBq : Below wr.heap.size wr u4 := HB4
        have hB2 : Below w.heap.size w u4 := bstep HBr HBq
        have hd1 : u4.cell? ⟨gl, go + i * 2, none⟩ = some (.int .i64 t) := by
          rw [Nat.mul_comm i 2]; exact (HBq.cell (p := ⟨gl, go + 2 * i, none⟩) hgb2).trans hd1
        clear hd2
        have Kq : Hid (CV u4 bo (vs ++ zs)) := Kv.out.below HBq hlt
        have hrq : Hid (FW u4 bo vs (mF i)) := hrw.out.below HBq
        have hltq : bo < u4.heap.size := Nat.lt_of_lt_of_le hlt HBq.size
        have hinu : Hid (IN u4 u4.heap.size (.slice sv k2 cv) q) := (hinq.out.below HBq).mono HBq.size
        have hglu : gl < u4.heap.size := Nat.lt_of_lt_of_le hgb2 HBq.size
        generalize u4 = uq at *
        clear Kv hrw HBq HBz hinq
        have hcb : ∀ u, Below uq.heap.size uq u → Calls Tryd.prog 17 #[.slice sv k2 cv] u fun e w' => ∃ v, e = .returned v ∧ (∃ b4 c4, v = .slice (some ⟨b4, 0, none⟩) k2 c4 ∧ INb w' bo v q) ∧ Below uq.heap.size uq w' := fun u hB => (cBytes q (.slice sv k2 cv) u (by omega) ((hinu.out.below hB).mono hB.size)).mono fun e w' ⟨v, e1, hpg, hBw⟩ => by
          have hnb := PG_inb (b := bo) hpg rfl (Nat.lt_of_lt_of_le hltq hB.size)
          obtain ⟨b4, c4, z4, e4, _⟩ := hpg
          rw [hql] at e4
          exact ⟨v, e1, ⟨b4, c4, e4, hnb⟩, bstep hB hBw⟩
        go_wp2_with fail
        refine wp_region_any (by kernel_rfl) ?_
        change wpAny _ _ _ _ _ _ _ (World.drew _)
        refine wpAny_take (i := 0) (v := .slice (some ⟨bo, 0, none⟩) i co) rfl (by kernel_rfl) (by kernel_rfl) (by kernel_rfl) (fun _ _ _ h => h) (Or.inl ⟨by rfl, fun w => by go_simp⟩) ?_
        refine wpAny_take (i := 1) (v := .slice (some ⟨gl, go, none⟩) n gcap) rfl (by kernel_rfl) (by kernel_rfl) (by kernel_rfl) (fun _ _ _ h => h) (Or.inl ⟨by rfl, fun w => by go_simp⟩) ?_
        refine wpAny_take (i := 2) (v := .int .i64 (i : Int)) rfl (by kernel_rfl) (by kernel_rfl) (by kernel_rfl) (fun _ _ _ h => h) (Or.inl ⟨by rfl, fun w => by go_simp⟩) ?_
        refine wpAny_take (i := 3) (v := .pointer (some ⟨gl, go + i * 2, none⟩)) rfl (by kernel_rfl) (by kernel_rfl) (by kernel_rfl) (fun _ _ _ h => h) (Or.inl ⟨by rfl, fun w => by go_simp⟩) ?_
        refine wpAny_take (i := 4) (v := .pointer (some ⟨gl, go + i * 2, none⟩)) rfl (by kernel_rfl) (by kernel_rfl) (by kernel_rfl) (fun _ _ _ h => h) (Or.inl ⟨by rfl, fun w => by go_simp⟩) ?_
        refine wpAny_take (i := 6) (v := .slice sv k2 cv) rfl (by kernel_rfl) (by kernel_rfl) (by kernel_rfl) (fun _ _ _ h => h) (Or.inl ⟨by rfl, fun w => by go_simp⟩) ?_
        refine wpAny_ready (rs := [5, 7]) (by kernel_rfl) (by simp) ?_
        refine AllReady.cons rfl (fun K hK => ?_) (AllReady.cons rfl (fun K hK => ?_) AllReady.nil)
        · go_simp
          refine hK _ _ ?_
          clear hK K
          refine wpAny_ready (rs := [7]) (by kernel_rfl) (by simp) ?_
          refine AllReady.cons rfl (fun K hK => ?_) AllReady.nil
          go_simp
          refine (hcb _ ?_).mono ?_
          exact (Below.refl _ _).drew
          rintro e ua ⟨v1, rfl, ⟨b4, c4, rfl, hnb⟩, hBa⟩
          have hd3 : ua.cell? ⟨gl, go + i * 2, none⟩ = some (.int .i64 t) := (hBa.cell (p := ⟨gl, go + i * 2, none⟩) hglu).trans hd1
          refine hK _ _ ?_
          clear hK K
          refine wpAny_take (i := 8) (v := .agg #[.int .i64 t, .slice (some ⟨b4, 0, none⟩) k2 c4]) rfl (by kernel_rfl) (by kernel_rfl) (by kernel_rfl) (fun _ _ _ h => h) (Or.inl ⟨by rfl, fun w => by go_simp⟩) ?_
          refine wpAny_ready (rs := [9]) (by kernel_rfl) (by simp) ?_
          refine AllReady.cons rfl (fun K hK => ?_) AllReady.nil
          go_simp
          refine hK _ _ ?_
          clear hK K
          refine wpAny_ready (rs := [10]) (by kernel_rfl) (by simp) ?_
          refine AllReady.cons rfl (fun K hK => ?_) AllReady.nil
          obtain ⟨v2, ub, r2, rg2, b5, c5, z5, rfl, f1, f2, f3, f4, f5⟩ := app_flW (u := (ua.alloc (.cells #[.int .i64 t, .slice (some ⟨b4, 0, none⟩) k2 c4] 54))) (N := ua.heap.size) (cx := 1) (ty := 22) (t := t) (sl := some ⟨b4, 0, none⟩) (n := k2) (c := c4) ((Kq.out.below hBa hltq).below (balloc (bself ua) _) (Nat.lt_of_lt_of_le hltq hBa.size)) (CV.new ua [.int .i64 t, .slice (some ⟨b4, 0, none⟩) k2 c4] 54) (Nat.lt_of_lt_of_le hltq (Nat.le_trans hBa.size (balloc (bself ua) (.cells #[.int .i64 t, .slice (some ⟨b4, 0, none⟩) k2 c4] 54)).size)) hvl hmc hzl (by omega)
          refine opw_app rfl _ _ 22 rfl _ _ _ rfl rfl r2 ?_
          refine hK _ _ ?_
          clear hK K r2
          refine wpAny_take (i := 11) (v := .slice (some ⟨b5, 0, none⟩) (i + 1) c5) rfl (by kernel_rfl) (by kernel_rfl) (by kernel_rfl) (fun _ _ _ h => h) (Or.inl ⟨by rfl, fun w => by go_simp⟩) ?_
          refine wpAny_done (by kernel_rfl) ?_ _
          have hBc : Below w.heap.size w (ua.alloc (.cells #[.int .i64 t, .slice (some ⟨b4, 0, none⟩) k2 c4] 54)) := balloc (bstep hB2 hBa) _
          have hBe : Below w.heap.size w ub := hBc.grown rg2 hBc.size (fun j e => by cases e; exact hlo)
          have hrn : Hid (FW ub b5 (vs ++ [.int .i64 t, .slice (some ⟨b4, 0, none⟩) k2 c4]) (mF (i + 1))) := by
            rw [hM.out]; exact (((hrq.out.below hBa).more (t := t) hnb).below (balloc (bself ua) (.cells #[.int .i64 t, .slice (some ⟨b4, 0, none⟩) k2 c4] 54))).grown rg2 f1
          have f5 : Hid (CV ub b5 ((vs ++ [.int .i64 t, .slice (some ⟨b4, 0, none⟩) k2 c4]) ++ z5)) := f5
          have hb5 : w.heap.size ≤ b5 := by
            have := hBc.size
            rcases f1 with h | h
            · omega
            · omega
          go_wp2
          refine ⟨⟨i + 1, b5, c5, vs ++ [.int .i64 t, .slice (some ⟨b4, 0, none⟩) k2 c4], z5, by omega, by omega, by simp, by rw [hls1], by simp, by rw [List.length_append, hvl]; simp; omega, f3, by omega, hb5, f2, f5, hrn, hBe⟩, ?_⟩
          simp [intOf]; omega
        · go_simp
          refine (hcb _ ?_).mono ?_
          exact (Below.refl _ _).drew
          rintro e ua ⟨v1, rfl, ⟨b4, c4, rfl, hnb⟩, hBa⟩
          have hd3 : ua.cell? ⟨gl, go + i * 2, none⟩ = some (.int .i64 t) := (hBa.cell (p := ⟨gl, go + i * 2, none⟩) hglu).trans hd1
          refine hK _ _ ?_
          clear hK K
          refine wpAny_ready (rs := [5]) (by kernel_rfl) (by simp) ?_
          refine AllReady.cons rfl (fun K hK => ?_) AllReady.nil
          go_simp
          refine hK _ _ ?_
          clear hK K
          refine wpAny_take (i := 8) (v := .agg #[.int .i64 t, .slice (some ⟨b4, 0, none⟩) k2 c4]) rfl (by kernel_rfl) (by kernel_rfl) (by kernel_rfl) (fun _ _ _ h => h) (Or.inl ⟨by rfl, fun w => by go_simp⟩) ?_
          refine wpAny_ready (rs := [9]) (by kernel_rfl) (by simp) ?_
          refine AllReady.cons rfl (fun K hK => ?_) AllReady.nil
          go_simp
          refine hK _ _ ?_
          clear hK K
          refine wpAny_ready (rs := [10]) (by kernel_rfl) (by simp) ?_
          refine AllReady.cons rfl (fun K hK => ?_) AllReady.nil
          obtain ⟨v2, ub, r2, rg2, b5, c5, z5, rfl, f1, f2, f3, f4, f5⟩ := app_flW (u := (ua.alloc (.cells #[.int .i64 t, .slice (some ⟨b4, 0, none⟩) k2 c4] 54))) (N := ua.heap.size) (cx := 1) (ty := 22) (t := t) (sl := some ⟨b4, 0, none⟩) (n := k2) (c := c4) ((Kq.out.below hBa hltq).below (balloc (bself ua) _) (Nat.lt_of_lt_of_le hltq hBa.size)) (CV.new ua [.int .i64 t, .slice (some ⟨b4, 0, none⟩) k2 c4] 54) (Nat.lt_of_lt_of_le hltq (Nat.le_trans hBa.size (balloc (bself ua) (.cells #[.int .i64 t, .slice (some ⟨b4, 0, none⟩) k2 c4] 54)).size)) hvl hmc hzl (by omega)
          refine opw_app rfl _ _ 22 rfl _ _ _ rfl rfl r2 ?_
          refine hK _ _ ?_
          clear hK K r2
          refine wpAny_take (i := 11) (v := .slice (some ⟨b5, 0, none⟩) (i + 1) c5) rfl (by kernel_rfl) (by kernel_rfl) (by kernel_rfl) (fun _ _ _ h => h) (Or.inl ⟨by rfl, fun w => by go_simp⟩) ?_
          refine wpAny_done (by kernel_rfl) ?_ _
          have hBc : Below w.heap.size w (ua.alloc (.cells #[.int .i64 t, .slice (some ⟨b4, 0, none⟩) k2 c4] 54)) := balloc (bstep hB2 hBa) _
          have hBe : Below w.heap.size w ub := hBc.grown rg2 hBc.size (fun j e => by cases e; exact hlo)
          have hrn : Hid (FW ub b5 (vs ++ [.int .i64 t, .slice (some ⟨b4, 0, none⟩) k2 c4]) (mF (i + 1))) := by
            rw [hM.out]; exact (((hrq.out.below hBa).more (t := t) hnb).below (balloc (bself ua) (.cells #[.int .i64 t, .slice (some ⟨b4, 0, none⟩) k2 c4] 54))).grown rg2 f1
          have f5 : Hid (CV ub b5 ((vs ++ [.int .i64 t, .slice (some ⟨b4, 0, none⟩) k2 c4]) ++ z5)) := f5
          have hb5 : w.heap.size ≤ b5 := by
            have := hBc.size
            rcases f1 with h | h
            · omega
            · omega
          go_wp2
          refine ⟨⟨i + 1, b5, c5, vs ++ [.int .i64 t, .slice (some ⟨b4, 0, none⟩) k2 c4], z5, by omega, by omega, by simp, by rw [hls1], by simp, by rw [List.length_append, hvl]; simp; omega, f3, by omega, hb5, f2, f5, hrn, hBe⟩, ?_⟩
          simp [intOf]; omega
      · have hl3 : ¬ (i : Int) ≤ 256 := by omega
        go_wp2
        exact bodyPost_ret (v := .slice (some ⟨bo, 0, none⟩) i co) (by simp [results, Tryd.results9, go_sem]) rfl ⟨_, rfl, (by rw [hfin (by omega)]; exact hrw.out.vfn Kv.out hvl hmc hlt), HBr⟩
    · have hl2 : ¬ (i : Int) < (n : Int) := by omega
      go_wp2
      exact bodyPost_ret (v := .slice (some ⟨bo, 0, none⟩) i co) (by simp [results, Tryd.results9, go_sem]) rfl ⟨_, rfl, (by rw [hfin (by omega)]; exact hrw.out.vfn Kv.out hvl hmc hlt), HBr⟩
end Go.Proofs.YtjekkdckjnlkcaaDoor
