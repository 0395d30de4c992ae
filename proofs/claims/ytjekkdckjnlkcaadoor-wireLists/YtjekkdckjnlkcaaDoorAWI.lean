/- WireInts: walked. -/
import Derived.Test.YtjekkdckjnlkcaaDoorAWG
import Derived.Test.YtjekkdckjnlkcaaDoorWC
namespace Go.Proofs.YtjekkdckjnlkcaaDoor
open Go.RowKit
set_option linter.unusedVariables false
set_option linter.unusedSimpArgs false
section
variable {R : Rg} {P : Program} {ops : Array Oper} {Q : Exit → Act → World → Prop} {f : Nat → Bool} {t : Nat → Value} {u : World} {a : Act} {i : Nat} {o : Oper}
/-- A call, one of whose arguments is such a value, that answers a known one. -/
theorem g_cWw (m : Nat) (p : World → Value → Prop) {N : FuncId} {j d : Nat} {args : List Operand} {tys : Array TypeId} {v : Value} (vs : Value → List Value) (hr : ∀ (vs : Array Value) (w : World), (callFunc N vs).run P w = .ok (.enter N vs) w)
    (hcall : ∀ (f : Nat → Bool) (u : World) (y : Value), KC f u R.lo R.base R.es → R.base ≤ u.heap.size → Below R.lo R.w u → p u y → Calls P N (vs y).toArray u fun e u' => e = .returned v ∧ Below u.heap.size u u') (hop : o.op = .call { callee := .value (.func N), args := args.toArray, argTypes := tys } := by rfl) (hm : R.E[m]? = some ⟨j, d, some i, p⟩ := by rfl) (hx : ∀ y, args.mapM (ev1 R i o d y) = some (vs y) := by intro y; rfl) (hd : (hasDep o j && R.S.contains d) = true := by rfl) (hv : some v = pickV i R.G := by rfl) (hc : R.chk ops i o = true := by rfl) : OG R P ops Q i o := fun f t u a X => by
  rw [Bool.and_eq_true, List.contains_iff_mem] at hd
  obtain ⟨h2, h4⟩ := hd
  have hy : p u (t d) := X.val hm h2 rfl
  exact X.go (chk_parts hc).choose_spec.2.2.2.2.2.2.2 fun K hK => wp_callF hop (evs1 X h4 (hx (t d))) hr (hcall f u (t d) X.I.2.1 X.I.1.sz X.I.1.bel hy) fun w' hB => hK _ _ (X.put hv hc (X.I.1.call hB) (X.I.2.1.below hB X.I.1.sz) hB)
end
theorem eqw (T : TypeId) (hT : T = 3 ∨ T = 25) (p q : Operand) (x : Int) (w : World) : (do eqGuard .eql T p q (.int .i64 x) (.int .i64 x); binOp .eql T (.int .i64 x) (.int .i64 x) : Sem Value).run Tryd.prog w = .ok (.bool true) w := by
  rcases hT with rfl | rfl <;> go_simp
theorem geqw (p q : Operand) (x y : Int) (b : Bool) (w : World) (h : decide (y ≤ x) = b) : (do eqGuard .geq 3 p q (.int .i64 x) (.int .i64 y); binOp .geq 3 (.int .i64 x) (.int .i64 y) : Sem Value).run Tryd.prog w = .ok (.bool b) w := by
  subst h; go_simp
theorem lss8w (p q : Operand) (x y : Int) (b : Bool) (w : World) (h : decide (x < y) = b) : (do eqGuard .lss 5 p q (.int .u8 x) (.int .u8 y); binOp .lss 5 (.int .u8 x) (.int .u8 y) : Sem Value).run Tryd.prog w = .ok (.bool b) w := by
  subst h; go_simp
theorem eqbw (p q : Operand) (r : Bool) (w : World) : (do eqGuard .eql 4 p q (.bool r) (.bool r); binOp .eql 4 (.bool r) (.bool r) : Sem Value).run Tryd.prog w = .ok (.bool true) w := by
  cases r <;> go_simp
theorem slW8 (b : Nat) (w : World) : (Instr.sliceAt 50 (.pointer (some ⟨b, 0, none⟩)) none none none).run Tryd.prog w = .ok (.slice (some ⟨b, 0, none⟩) 8 8) w := by kernel_rfl
theorem ent_wire_Int (vs : Array Value) (w : World) : (callFunc 26 vs).run Tryd.prog w = .ok (.enter 26 vs) w := by kernel_rfl
theorem ent_SameBytesI (vs : Array Value) (w : World) : (callFunc 14 vs).run Tryd.prog w = .ok (.enter 14 vs) w := by kernel_rfl
theorem ixPV {nx : List Nat} {y0 : Nat} (hl : nx.length = 8) (e : nx.getD 0 0 = y0) (u : World) (vs : Value) (h : PIN nx u vs) : ∃ z, (Instr.indexAt 24 vs (.int .i64 0)).run Tryd.prog u = .ok z u ∧ PV (.int .u8 ((y0 : Nat) : Int)) u z := by
  obtain ⟨sg, cg, gg, og, rfl, t2, t3, t4, t5⟩ := h
  obtain rfl := t3.resolve_left (by omega)
  have hc := t5 0 (by omega)
  rw [e] at hc
  rw [hl]
  exact ⟨_, ixB gg og 8 cg 0 (by omega) u, gg, _, rfl, t4, hc⟩
set_option maxRecDepth 100000 in
set_option maxHeartbeats 4000000 in
theorem wireInts_core (n : Int) (b0 b1 b2 b3 b4 b5 b6 b7 : Nat) (w : World) (hn1 : -9223372036854775808 ≤ n) (hn2 : n ≤ 9223372036854775807) (hb : ∀ x ∈ [b0, b1, b2, b3, b4, b5, b6, b7], x < 256) (hN : Hid (WInt w)) (hI : Hid (WReadInt w)) (hW : Hid (WWorks w)) :
    Calls Tryd.prog 7 #[.int .i64 n, .agg #[.int .u8 (b0 : Int), .int .u8 (b1 : Int), .int .u8 (b2 : Int), .int .u8 (b3 : Int), .int .u8 (b4 : Int), .int .u8 (b5 : Int), .int .u8 (b6 : Int), .int .u8 (b7 : Int)]] w fun e w' => e = .returned (.bool true) ∧ Below w.heap.size w w' := by
  have hB0 : Below w.heap.size w (w.alloc (.cells #[.int .u8 (b0 : Int), .int .u8 (b1 : Int), .int .u8 (b2 : Int), .int .u8 (b3 : Int), .int .u8 (b4 : Int), .int .u8 (b5 : Int), .int .u8 (b6 : Int), .int .u8 (b7 : Int)] 50)) := balloc (bself w) _
  have hlt0 : w.heap.size < (w.alloc (.cells #[.int .u8 (b0 : Int), .int .u8 (b1 : Int), .int .u8 (b2 : Int), .int .u8 (b3 : Int), .int .u8 (b4 : Int), .int .u8 (b5 : Int), .int .u8 (b6 : Int), .int .u8 (b7 : Int)] 50)).heap.size := by simp
  have hK : CV (w.alloc (.cells #[.int .u8 (b0 : Int), .int .u8 (b1 : Int), .int .u8 (b2 : Int), .int .u8 (b3 : Int), .int .u8 (b4 : Int), .int .u8 (b5 : Int), .int .u8 (b6 : Int), .int .u8 (b7 : Int)] 50)) w.heap.size (U8 [b0, b1, b2, b3, b4, b5, b6, b7]) := CV.new w (U8 [b0, b1, b2, b3, b4, b5, b6, b7]) 50
  have h1 := hW.out _ hB0
  obtain ⟨r1, r2⟩ := rdI_int hn1 hn2
  obtain ⟨q1, q2, q3, q4⟩ := int_rdI (b := [b0, b1, b2, b3, b4, b5, b6, b7]) rfl hb
  have hnl := int8_len 8 (u64n n)
  have hnx := int8_lt 8 (u64n n)
  have hsg := sign_first hn1 hn2
  obtain ⟨nx, enx⟩ : ∃ x, int8 (u64n n) 8 = x := ⟨_, rfl⟩
  obtain ⟨k, ek⟩ : ∃ x, rdIX [b0, b1, b2, b3, b4, b5, b6, b7] = x := ⟨_, rfl⟩
  rw [enx] at r1 r2 hnl hnx hsg
  rw [ek] at q2 q3 q4
  have hin : ∀ u, Below (w.alloc (.cells #[.int .u8 (b0 : Int), .int .u8 (b1 : Int), .int .u8 (b2 : Int), .int .u8 (b3 : Int), .int .u8 (b4 : Int), .int .u8 (b5 : Int), .int .u8 (b6 : Int), .int .u8 (b7 : Int)] 50)).heap.size (w.alloc (.cells #[.int .u8 (b0 : Int), .int .u8 (b1 : Int), .int .u8 (b2 : Int), .int .u8 (b3 : Int), .int .u8 (b4 : Int), .int .u8 (b5 : Int), .int .u8 (b6 : Int), .int .u8 (b7 : Int)] 50)) u → IN u u.heap.size (.slice (some ⟨w.heap.size, 0, none⟩) 8 8) [b0, b1, b2, b3, b4, b5, b6, b7] := fun u hB => ⟨_, 8, w.heap.size, 0, rfl, by simp, .inr rfl, Nat.lt_of_lt_of_le hlt0 hB.size, fun j hj => by rw [Nat.zero_add]; exact ((hK.below hB hlt0) j _ (U8_get _ j hj)).1⟩
  have hbO : Hid (bytOk [b0, b1, b2, b3, b4, b5, b6, b7]) := ⟨by simp, hb⟩
  have hnO : Hid (bytOk nx) := ⟨by omega, hnx⟩
  obtain ⟨y0, ey0⟩ : ∃ x, nx.getD 0 0 = x := ⟨_, rfl⟩
  rw [ey0] at hsg
  have hy0 : y0 < 256 := by rw [← ey0]; exact getD_lt256 hnx 0
  have hin : Hid _ := hin
  clear hK hnx hb
  generalize hC : (w.alloc (.cells #[.int .u8 (b0 : Int), .int .u8 (b1 : Int), .int .u8 (b2 : Int), .int .u8 (b3 : Int), .int .u8 (b4 : Int), .int .u8 (b5 : Int), .int .u8 (b6 : Int), .int .u8 (b7 : Int)] 50)) = W0 at *
  go_enter Tryd.func7, Tryd.ntmps7
  go_wp2_with (first
    | (go_at_call 15; refine h1.mono ?_; clear h1; rintro e ua ⟨rfl, hBa⟩; have hBwa := bstep hB0 hBa; have h2 := hN.out ua n hBwa hn1 hn2; rw [enx] at h2)
    | (go_at_call 26; refine h2.mono ?_; clear h2; rintro e ub ⟨vb, rfl, hib, hBb⟩; have hBwb := bstep hBwa hBb; have h3 := hI.out ub vb nx hBwb hib hnO.out; rw [r1, r2] at h3)
    | (go_at_call 20; refine h3.mono ?_; clear h3; rintro e uc ⟨rfl, hBc⟩; have hBwc := bstep hBwb hBc; have hB0c := bstep (bstep hBa hBb) hBc; have h4 := hI.out uc _ _ hBwc (hin.out uc hB0c) hbO.out; rw [q1, ek] at h4)
    | (go_at_call 20; refine h4.mono ?_; clear h4; rintro e ud ⟨rfl, hBd⟩; have hBwd := bstep hBwc hBd; have hB0d := bstep hB0c hBd))
  have HBz : Below ud.heap.size ud ud := Below.refl _ _
  have hgb : decide (0 ≤ n) = decide ((y0 : Int) < 128) := by
    rw [hsg]; by_cases h3 : y0 < 128
    · rw [decide_eq_true h3, decide_eq_true (by omega)]
    · rw [decide_eq_false h3, decide_eq_false (by omega)]
  obtain ⟨gb, egb⟩ : ∃ g, decide (0 ≤ n) = g := ⟨_, rfl⟩
  rw [egb] at hgb
  have hgb := hgb.symm
  have hix := ixPV hnl ey0
  have K0_1 := Bk.nil (ud.heap.size) ud
  go_upto_region 5 with fail
  refine rgE K0_1 HBz HBz.size [] [] [(0, 22, .int .i64 n), (1, 23, .int .i64 n), (2, 24, .bool true), (3, 25, .bool true), (4, 26, .int .i64 0), (5, 27, .bool true), (6, 28, .bool true), (7, 29, .bool true), (8, 30, .int .i64 0), (9, 31, .bool true), (10, 32, .bool true), (11, 33, .bool true), (12, 34, .int .i64 k), (14, 36, .slice (some ⟨w.heap.size, 0, none⟩) 8 8), (15, 37, .bool true), (16, 38, .bool true), (17, 39, .bool true), (18, 40, .int .i64 n), (19, 41, .bool gb), (20, 42, .int .i64 n), (23, 45, .int .u8 ((y0 : Nat) : Int)), (24, 46, .bool gb), (25, 47, .bool true), (26, 48, .bool true), (27, 4, .bool true)] [] [] [⟨13, 35, some 15, PIN [b0, b1, b2, b3, b4, b5, b6, b7]⟩, ⟨21, 43, some 22, PIN nx⟩, ⟨22, 44, some 23, PV (.int .u8 ((y0 : Nat) : Int))⟩] [] (.cons (fun _ _ _ h1 h2 => h2.stab h1) <| .cons (fun _ _ _ h1 h2 => h2.stab h1) <| .cons (fun _ _ _ h1 h2 => h2.stab h1) <| Stab.nil) ?_ ?_
  · refine oc g_mv ?_
    refine oc g_mv ?_
    refine oc (g_bn (fun uZ => eqw 3 (.inl rfl) _ _ n uZ)) ?_
    refine oc g_mv ?_
    refine oc g_mv ?_
    refine oc (g_bn (fun uZ => eqw _ (.inr rfl) _ _ 0 uZ)) ?_
    refine oc g_pk ?_
    refine oc g_mv ?_
    refine oc g_mv ?_
    refine oc (g_bn (fun uZ => eqw _ (.inr rfl) _ _ 0 uZ)) ?_
    refine oc g_pk ?_
    refine oc g_mv ?_
    refine oc g_mv ?_
    refine oc (g_cE 0 (PIN [b0, b1, b2, b3, b4, b5, b6, b7]) ent_wire_Int (fun u hB hs => (hN.out u k (bstep hBwd hB) q3 q4).mono fun e u2 ⟨v, e1, h1, h2⟩ => ⟨v, e1, (by rw [q2] at h1; exact h1), h2⟩)) ?_
    refine oc (g_sl (fun uZ => slW8 w.heap.size uZ)) ?_
    refine oc (g_cWw 0 (PIN [b0, b1, b2, b3, b4, b5, b6, b7]) (fun y => [y, .slice (some ⟨w.heap.size, 0, none⟩) 8 8]) ent_SameBytesI (fun f u y kZ sZ bZ hy => cSameT hy (hin.out u (bstep hB0d bZ)) hbO.out.2)) ?_
    refine oc g_pk ?_
    refine oc g_mv ?_
    refine oc g_mv ?_
    refine oc (g_bn (fun uZ => geqw _ _ n 0 _ uZ egb)) ?_
    refine oc g_mv ?_
    refine oc (g_cE 1 (PIN nx) ent_wire_Int (fun u hB hs => (hN.out u n (bstep hBwd hB) hn1 hn2).mono fun e u2 ⟨v, e1, h1, h2⟩ => ⟨v, e1, (by rw [enx] at h1; exact h1), h2⟩)) ?_
    refine oc (g_iE 1 2 (PIN nx) (PV (.int .u8 ((y0 : Nat) : Int))) hix) ?_
    refine oc (g_dE 2 (PV (.int .u8 ((y0 : Nat) : Int))) ldV) ?_
    refine oc (g_bn (fun uZ => lss8w _ _ (y0 : Int) 128 _ uZ hgb)) ?_
    refine oc (g_bn (fun uZ => eqbw _ _ gb uZ)) ?_
    refine oc g_pk ?_
    exact oc g_as on
  intro u1 v1_13 hv1_13 v1_21 hv1_21 v1_22 hv1_22 HB1 sz1 K1
  simp only [fX, nK, nP, Wr.f, aK, pM] at K1
  simp only [setG, setN, setE, List.set_cons_zero, List.set_cons_succ]
  go_wp2
  exact bodyPost_ret (v := .bool true) (by simp [results, Tryd.results7, go_sem]) rfl ⟨rfl, bstep hBwd HB1⟩
end Go.Proofs.YtjekkdckjnlkcaaDoor
