/- The reference's keys of rounds, filled in. -/
import Derived.Test.YtlcjbnhfmcnnfaaDoorAR4
namespace Go.Proofs.YtlcjbnhfmcnnfaaDoor
open Go.RowKit
set_option linter.unusedVariables false
set_option linter.unusedSimpArgs false
section
variable {R : Rg} {P : Program} {ops : Array Oper} {Q : Exit → Act → World → Prop} {f : Nat → Bool} {t : Nat → Value} {u : World} {a : Act} {i : Nat} {o : Oper}
/-- A call, one of whose arguments is such a value, that answers a known one. -/
theorem g_cW (m : Nat) (p : World → Value → Prop) {N : FuncId} {j d : Nat} {args : List Operand} {tys : Array TypeId} {v : Value} (vs : Value → List Value) (hr : ∀ (vs : Array Value) (w : World), (callFunc N vs).run P w = .ok (.enter N vs) w)
    (hcall : ∀ (f : Nat → Bool) (u : World) (y : Value), KC f u R.lo R.base R.es → R.base ≤ u.heap.size → Below R.lo R.w u → p u y → Calls P N (vs y).toArray u fun e u' => e = .returned v ∧ Below u.heap.size u u') (hop : o.op = .call { callee := .value (.func N), args := args.toArray, argTypes := tys } := by rfl) (hm : R.E[m]? = some ⟨j, d, some i, p⟩ := by rfl) (hx : ∀ y, args.mapM (ev1 R i o d y) = some (vs y) := by intro y; rfl) (hd : (hasDep o j && R.S.contains d) = true := by rfl) (hv : some v = pickV i R.G := by rfl) (hc : R.chk ops i o = true := by rfl) : OG R P ops Q i o := fun f t u a X => by
  rw [Bool.and_eq_true, List.contains_iff_mem] at hd
  obtain ⟨h2, h4⟩ := hd
  have hy : p u (t d) := X.val hm h2 rfl
  exact X.go (chk_parts hc).choose_spec.2.2.2.2.2.2.2 fun K hK => wp_callF hop (evs1 X h4 (hx (t d))) hr (hcall f u (t d) X.I.2.1 X.I.1.sz X.I.1.bel hy) fun w' hB => hK _ _ (X.put hv hc (X.I.1.call hB) (X.I.2.1.below hB X.I.1.sz) hB)
end
theorem lsK_0 (w : List Nat) (n p : Nat) (h : n % 4 = 0) : lsK w n p 0 = sbT.getD (w.getD (4 * n + 13) 0) 0 ^^^ p := by
  unfold lsK; rw [if_pos h, if_pos rfl, show 4 * n + 12 + (0 + 1) % 4 = 4 * n + 13 by omega]
theorem lsK_1 (w : List Nat) (n p : Nat) (h : n % 4 = 0) : lsK w n p 1 = sbT.getD (w.getD (4 * n + 14) 0) 0 := by
  unfold lsK; rw [if_pos h, if_neg (by decide), Nat.xor_zero, show 4 * n + 12 + (1 + 1) % 4 = 4 * n + 14 by omega]
theorem lsK_2 (w : List Nat) (n p : Nat) (h : n % 4 = 0) : lsK w n p 2 = sbT.getD (w.getD (4 * n + 15) 0) 0 := by
  unfold lsK; rw [if_pos h, if_neg (by decide), Nat.xor_zero, show 4 * n + 12 + (2 + 1) % 4 = 4 * n + 15 by omega]
theorem lsK_3 (w : List Nat) (n p : Nat) (h : n % 4 = 0) : lsK w n p 3 = sbT.getD (w.getD (4 * n + 12) 0) 0 := by
  unfold lsK; rw [if_pos h, if_neg (by decide), Nat.xor_zero, show 4 * n + 12 + (3 + 1) % 4 = 4 * n + 12 by omega]
theorem lsK_n (w : List Nat) (n p k : Nat) (h : ¬ n % 4 = 0) : lsK w n p k = w.getD (4 * n + 12 + k) 0 := by
  unfold lsK; rw [if_neg h]
/-- The column that is xored. -/
def lsL (ks : List Nat) (n : Nat) : List Nat := [lsK (kw ks n) n (rcn ((n + 3) / 4)) 0, lsK (kw ks n) n (rcn ((n + 3) / 4)) 1, lsK (kw ks n) n (rcn ((n + 3) / 4)) 2, lsK (kw ks n) n (rcn ((n + 3) / 4)) 3]
def kwS (ks : List Nat) (n : Nat) : Nat → List Nat
  | 0 => kw ks n
  | k + 1 => kwS ks n k ++ [(kwS ks n k).getD (4 * n + k) 0 ^^^ (lsL ks n).getD k 0]
theorem lsL_B {ks : List Nat} (hk : BY 16 ks) (n : Nat) : BY 4 (lsL ks n) := BY_4 (lsK_lt (kw_B hk n) (rcn_lt _)) (lsK_lt (kw_B hk n) (rcn_lt _)) (lsK_lt (kw_B hk n) (rcn_lt _)) (lsK_lt (kw_B hk n) (rcn_lt _))
theorem BY_1 {x : Nat} (h : x < 256) : BY 1 [x] := ⟨rfl, fun j => by
  match j with
  | 0 => exact h
  | j + 1 => exact (by decide : 0 < 256)⟩
theorem kwS_B {ks : List Nat} (hk : BY 16 ks) (n : Nat) : ∀ k, BY (16 + 4 * n + k) (kwS ks n k)
  | 0 => kw_B hk n
  | k + 1 => (kwS_B hk n k).app (BY_1 (xr8 ((kwS_B hk n k).lt _) ((lsL_B hk n).lt _)))
theorem kwS_get {ks : List Nat} (hk : BY 16 ks) (n : Nat) {j : Nat} (h : j < 16 + 4 * n) : ∀ k, (kwS ks n k).getD j 0 = (kw ks n).getD j 0
  | 0 => rfl
  | k + 1 => by rw [kwS, gapp1 (by rw [(kwS_B hk n k).len]; omega)]; exact kwS_get hk n h k
theorem kwS_4 {ks : List Nat} (hk : BY 16 ks) (n : Nat) : kwS ks (n + 1) 0 = kwS ks n 4 := by
  have g := fun j (h : j < 16 + 4 * n) k => kwS_get hk n h k
  show kw ks (n + 1) = kwS ks n 3 ++ [(kwS ks n 3).getD (4 * n + 3) 0 ^^^ (lsL ks n).getD 3 0]
  rw [g (4 * n + 3) (by omega) 3, show kwS ks n 3 = kwS ks n 2 ++ [(kwS ks n 2).getD (4 * n + 2) 0 ^^^ (lsL ks n).getD 2 0] from rfl, g (4 * n + 2) (by omega) 2,
    show kwS ks n 2 = kwS ks n 1 ++ [(kwS ks n 1).getD (4 * n + 1) 0 ^^^ (lsL ks n).getD 1 0] from rfl, g (4 * n + 1) (by omega) 1,
    show kwS ks n 1 = kw ks n ++ [(kw ks n).getD (4 * n + 0) 0 ^^^ (lsL ks n).getD 0 0] from rfl, kw]
  simp only [List.append_assoc, List.cons_append, List.nil_append]
  rfl
theorem rcn_z : rcn ((0 + 3) / 4) = 1 := by decide
theorem rcn_next (n : Nat) : rcn ((n + 1 + 3) / 4) = if n % 4 = 0 then tm (rcn ((n + 3) / 4)) 2 else rcn ((n + 3) / 4) := by
  by_cases h : n % 4 = 0
  · rw [if_pos h, show (n + 1 + 3) / 4 = (n + 3) / 4 + 1 by omega, rcn]
  · rw [if_neg h, show (n + 1 + 3) / 4 = (n + 3) / 4 by omega]
theorem ky_kw {ks : List Nat} (hk : BY 16 ks) : kyX ks 10 = kw ks 40 := ext_n (kyX_B hk 10).len (kw_B hk 40).len fun i hi => by
  have e := kyX_at hk (i := i / 16) (j := i % 16) (Nat.mod_lt _ (by decide)) 10 (by omega)
  rw [rky_at ks (Nat.mod_lt _ (by decide)), show 16 * (i / 16) + i % 16 = i by omega] at e
  exact e
theorem sbT_lt (x : Nat) : sbT.getD x 0 < 256 := by
  by_cases h : x < 256
  · exact sb_lt x h
  · rw [List.getD_eq_getElem?_getD, List.getElem?_eq_none (by rw [show sbT.length = 256 by decide +kernel]; omega)]; decide
theorem cKeysBy (ks : List Nat) (vt v : Value) (w : World) (hT : IN w w.heap.size vt sbT) (hin : IN w w.heap.size v ks) (hx : ∀ x ∈ ks, x < 256) (hl : ks.length ≤ 1000) :
    Calls Tryd.prog 25 #[vt, v] w fun e w' => e = .returned (keyV ks) ∧ Below w.heap.size w w' := by
  have hin0 := hin
  have hS : sbT.length = 256 := by decide +kernel
  obtain ⟨ts, tc, tb, tp, rfl, t1, t2, t3, t4⟩ := hT
  have t2 := t2.resolve_left (by omega)
  subst t2
  obtain ⟨sl, cap, gb, go, rfl, h1, h2, h3, h4⟩ := hin
  unfold keyV
  rw [hS]
  by_cases hn : ks.length = 16
  · rw [if_pos hn]
    have hk := BY_of hn hx
    have h2 := h2.resolve_left (by omega)
    subst h2
    have e : flB 176 (fun i => (kw ks 40).getD i 0) 176 = kyX ks 10 := by
      rw [flB_all, ky_kw hk]
      exact ext_n (by simp) (kw_B hk 40).len fun i hi => by rw [rm_get 176 _ hi]
    rw [← e, hn]
    refine cKeysBy_s tb tp tc cap ⟨gb, go, none⟩ ks sbT (kwS ks) (lsL ks) (flB 176 fun i => (kw ks 40).getD i 0) (fun n => rcn ((n + 3) / 4)) w List.length_replicate t3 (fun x hx => t4 x (by omega)) sbT_lt rfl (kwS_4 hk) (fun _ _ => rfl) (fun n k => (kwS_B hk n k).len) (fun n k => (kwS_B hk n k).lt) (fun n => (lsL_B hk n).len) (fun n => (lsL_B hk n).lt) ?_ ?_ rcn_z rcn_next (fun n => rcn_lt _) (fun n u => cTimesR _ 2 u (rcn_lt _) (by decide)) rfl (fun _ => rfl) (flB_len 176 _) ?_
    · intro n h
      show [_, _, _, _] = _
      rw [lsK_0 _ _ _ h, lsK_1 _ _ _ h, lsK_2 _ _ _ h, lsK_3 _ _ _ h]
      rfl
    · intro n h
      show [_, _, _, _] = _
      rw [lsK_n _ _ _ _ h, lsK_n _ _ _ _ h, lsK_n _ _ _ _ h, lsK_n _ _ _ _ h]
      rfl
    · intro base u vs hB hs hv
      have h := app_PZ (ty := 24) hs (by omega) ((hin0.below hB).mono hB.size) hv
      rw [hn] at h
      exact h
  · rw [if_neg hn]
    exact cKeysBy_n _ cap tb tp tc sl w List.length_replicate (by simp; omega)
set_option maxRecDepth 100000 in
set_option maxHeartbeats 4000000 in
theorem cKeysR_core (vk : Value) (kx : List Nat) (ee : Int) (w : World) (hz176 : z176.length = 176) (hkx : kx.length = 176) (hTb : Hid (∀ u, Calls Tryd.prog 12 #[] u fun e u' => ∃ v, e = .returned v ∧ PS u.heap.size 256 (U8 (sbT)) u' v ∧ Below u.heap.size u u'))
    (hKB : Hid (∀ u y, Below w.heap.size w u → PS w.heap.size 256 (U8 sbT) u y → Calls Tryd.prog 25 #[y, vk] u fun e u' => e = .returned (.tuple #[.agg (U8 (kx)).toArray, .int .i64 ee]) ∧ Below u.heap.size u u')) :
    Calls Tryd.prog 20 #[vk] w fun e w' => e = .returned (.tuple #[.agg (U8 (kx)).toArray, .int .i64 ee]) ∧ Below w.heap.size w w' := by
  go_enter Tryd.func20, Tryd.ntmps20
  have HB0 : Below w.heap.size w w := Below.refl _ _
  have K0_1 := Bk.nil (w.heap.size) w
  go_upto_region 0 with fail
  refine rgP K0_1 HB0 HB0.size [] [(0, 2, U8 (z176), none)] [(1, 3, (Go.Value.int Go.IntKind.i64 0))] [] [] [] ?_ ?_
  · refine oc (g_al 0 al__11__16_uint8) ?_
    exact oc g_as on
  intro u1 b1_0 HB1 sz1 K1
  simp only [fX, nK, nP, Wr.f, aK, pM] at K1
  simp only [setG, setN, List.set_cons_zero, List.set_cons_succ]
  clear HB0
  go_upto_region 1 with fail
  refine rgF K1 HB1 HB1.size [.all 5 (U8 (kx))] [] [(1, 5, vk), (2, 6, .tuple #[.agg (U8 (kx)).toArray, .int .i64 ee]), (3, 7, .agg (U8 (kx)).toArray), (4, 8, .int .i64 ee), (6, 3, .int .i64 ee)] [] [] [⟨0, 4, some 2, PS w.heap.size 256 (U8 (sbT))⟩] [] (.cons (fun _ _ _ h1 h2 => h2.stab h1) <| Stab.nil) ?_ ?_
  · refine oc (g_cE 0 (PS w.heap.size 256 (U8 (sbT))) ent_seneschalref06_Table (fun u hB hs => (hTb.out u).mono fun e u2 ⟨v, e1, h1, h2⟩ => ⟨v, e1, h1.mono (Nat.le_trans HB1.size hs), h2⟩)) ?_
    refine oc g_mv ?_
    refine oc (g_cW 0 (PS w.heap.size 256 (U8 (sbT))) (fun y => [y, vk]) ent_seneschalref06_keysBy (fun fZ uZ y kZ sZ bZ hy => hKB.out uZ y bZ hy)) ?_
    refine oc g_ex ?_
    refine oc g_ex ?_
    refine oc (g_st 0 info__11__16_uint8 (h1 := U8_one _) (hm := by rw [U8_len, hkx]) (hl := by first | rw [U8_len, U8_len, hkx, show z176.length = 176 from hz176] | rfl)) ?_
    exact oc g_as on
  intro u2 v2_0 hv2_0 HB2 sz2 K2
  simp only [fX, nK, nP, Wr.f, aK, pM] at K2
  simp only [setG, setN, setE, List.set_cons_zero, List.set_cons_succ]
  clear K1 HB1
  go_wp2
  refine bodyPost_ret (res_ct Tryd.results20 rfl rfl (K2.cv 0) Tryd.underlying33 rfl (by rw [U8_len, hkx]; exact info__11__16_uint8)) rfl ⟨rfl, HB2⟩
theorem PS_inT {lo : Nat} {u : World} {y : Value} (h : PS lo 256 (U8 sbT) u y) : IN u u.heap.size y sbT := PS_in (by rw [show sbT.length = 256 by decide +kernel]; exact h)
theorem cKeysR (ks : List Nat) (v : Value) (w : World) (hin : IN w w.heap.size v ks) (hx : ∀ x ∈ ks, x < 256) (hl : ks.length ≤ 1000) : Calls Tryd.prog 20 #[v] w fun e w' => e = .returned (keyV ks) ∧ Below w.heap.size w w' := by
  have hK := fun u y (hB : Below w.heap.size w u) (hy : PS w.heap.size 256 (U8 sbT) u y) => cKeysBy ks y v u (PS_inT hy) ((hin.below hB).mono hB.size) hx hl
  unfold keyV at hK ⊢
  by_cases h : ks.length = 16
  · simp only [if_pos h] at hK ⊢
    exact cKeysR_core v _ 0 w List.length_replicate (kyX_B (BY_of h hx) 10).len (fun u => cTable u) hK
  · simp only [if_neg h] at hK ⊢
    exact cKeysR_core v _ 2 w List.length_replicate List.length_replicate (fun u => cTable u) hK
end Go.Proofs.YtlcjbnhfmcnnfaaDoor
