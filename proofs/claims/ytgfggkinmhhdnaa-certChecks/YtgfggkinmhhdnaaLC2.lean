/- CertChecks: the walk. -/
import Derived.Test.YtgfggkinmhhdnaaRC
import Derived.Test.YtgfggkinmhhdnaaCTG
namespace Go.Proofs.Ytgfggkinmhhdnaa
open Go.RowKit
set_option linter.unusedVariables false
set_option linter.unusedSimpArgs false
section
variable {R : Rg} {P : Program} {ops : Array Oper} {Q : Exit → Act → World → Prop} {f : Nat → Bool} {t : Nat → Value} {u : World} {a : Act} {i : Nat} {o : Oper}
/-- A call that makes such a value, and asks for blocks that are tracked. -/
theorem g_cK (n : Nat) (p : World → Value → Prop) {N : FuncId} {args : List Operand} {tys : Array TypeId} {vs : List Value} (hr : ∀ (vs : Array Value) (w : World), (callFunc N vs).run P w = .ok (.enter N vs) w)
    (hcall : ∀ f w, KC f w R.lo R.base R.es → R.base ≤ w.heap.size → Calls P N vs.toArray w fun e w' => ∃ v, e = .returned v ∧ p w' v ∧ Below w.heap.size w w') (hop : o.op = .call { callee := .value (.func N), args := args.toArray, argTypes := tys } := by rfl) (hx : args.mapM (evR R i o) = some vs := by rfl) (hn : (R.E[n]?).map (·.p) = some p := by rfl) (hc : R.chkE ops n i o = true := by rfl) : OG R P ops Q i o := fun f t u a X => by
  obtain ⟨d, q, hd, hq, _, _, _, _, _, _, _, _, hw⟩ := chkE_parts hc
  exact X.go hw fun K hK => wp_callP hop (X.evs hx) hr (hcall f u X.I.2.1 X.I.1.sz) fun v w' hp hB => hK _ _ (X.putE hc (fun q hq => by rw [hq] at hn; cases hn; exact hp) hB)
end
theorem eqs4 (p q : Operand) (a b c d : Int) (w : World) : (do eqGuard .eql 24 p q (A4 a b c d) (A4 a b c d); binOp .eql 24 (A4 a b c d) (A4 a b c d) : Sem Value).run Try.prog w = .ok (.bool true) w := by
  rw [eql_w, (eq4_iff a b c d a b c d).2 ⟨rfl, rfl, rfl, rfl⟩]
theorem ent_seneschallaw03_works (vs : Array Value) (w : World) : (callFunc 13 vs).run Try.prog w = .ok (.enter 13 vs) w := by kernel_rfl
theorem cGroup_own (p q g h e : Int) (cs : List (Int × Int × Int)) (w : World) (y : Value) (lo : Nat) (hp : In p) (hq : In q) (hg : In g) (hh : In h) (hcs : cs.length ≤ 256) (hin : Hid (∀ j, j < cs.length → In (cat cs j).1 ∧ In (cat cs j).2.1 ∧ In (cat cs j).2.2)) (he : gpE p q g h cs = e) (hy : PS lo cs.length (flC cs) w y) :
    Calls Try.prog 17 #[GX p q g h, y] w fun en w' => en = .returned (.int .i64 e) ∧ Below w.heap.size w w' := by
  obtain ⟨b, cap, rfl, _, hlt, hcap, hcv⟩ := hy
  rw [← he]
  exact cGroup p q g h b cap cs w hp hq hg hh hcs hin hlt hcv hcap
theorem xGroup_is (p q g h e : Int) (b0 cap : Nat) (cs : List (Int × Int × Int)) (w : World) (hp : In p) (hq : In q) (hg : In g) (hh : In h) (hcs : cs.length ≤ 256) (hin : Hid (∀ j, j < cs.length → In (cat cs j).1 ∧ In (cat cs j).2.1 ∧ In (cat cs j).2.2)) (he : gpE p q g h cs = e) (hlt : b0 < w.heap.size) (hcv : CV w b0 (flC cs)) :
    Calls Try.prog 18 #[GX p q g h, .slice (some ⟨b0, 0, none⟩) cs.length cap] w fun en w' => en = .returned (.int .i64 e) ∧ Below w.heap.size w w' := by
  rw [← he]
  exact xGroup p q g h b0 cap cs w hp hq hg hh hcs hin hlt hcv
theorem few_own (cs : List (Int × Int × Int)) (b cap base : Nat) (w : World) (h12 : cs.length ≤ 12) (hcap : cs.length ≤ cap) (hs : base ≤ w.heap.size) (hlt : b < w.heap.size) (hcv : CV w b (flC cs)) :
    Calls Try.prog 14 #[.slice (some ⟨b, 0, none⟩) cs.length cap] w fun e w' => ∃ v, e = .returned v ∧ PS base cs.length (flC cs) w' v ∧ Below w.heap.size w w' :=
  (cFew (some ⟨b, 0, none⟩) cs.length cap b 0 cs w (by omega) hcap (fun e => by cases e) (.inr rfl) (.inr hlt) hcv.sct).mono fun e u2 ⟨v, e1, h1, h2⟩ => ⟨v, e1, h1.mono hs, h2⟩
set_option maxRecDepth 100000 in
set_option maxHeartbeats 4000000 in
theorem certChecks_false (p q g h e n : Int) (sl : Option Addr) (len cap gb go : Nat) (cs : List (Int × Int × Int)) (w : World) (hmin : min (len : Int) 12 = (cs.length : Int)) (hc : len ≤ cap) (hsn : sl = none → cap = 0) (hsl : cs = [] ∨ sl = some ⟨gb, go, none⟩) (hg0 : cs.length = 0 ∨ gb < w.heap.size) (hS : Hid (SCt w gb go cs)) (hin : Hid (∀ j, j < cs.length → In (cat cs j).1 ∧ In (cat cs j).2.1 ∧ In (cat cs j).2.2)) (hp : In p) (hq : In q) (hg : In g) (hh : In h) (he : gpE p q g h cs = e) (hb : cfB cs = false) (hlast : (cat cs (cs.length - 1)).1 = n) :
    Calls Try.prog 4 #[.slice sl len cap, GX p q g h] w fun e w' => e = .returned (.bool true) ∧ Below w.heap.size w w' := by
  have hcs : cs.length ≤ 256 := by omega
  have hc12 : cs.length ≤ 12 := by omega
  go_enter Try.func4, Try.ntmps4
  go_upto_region 1 with fail
  generalize hC : (w.alloc (.cells (GE (p) (q) (g) (h) : List Value).toArray 33)) = v0 at *
  have HB0 : Below w.heap.size w v0 := by rw [← hC]; exact balloc (bself w) _
  have K0 : Bk w.heap.size v0 [(true, w.heap.size, GE (p) (q) (g) (h))] := by rw [← hC]; exact (Bk.nil _ w).ad
  clear hC
  refine rgF K0 HB0 HB0.size [] [] [(0, 9, .slice sl len cap)] [(2, 0)] [(2, 0)] [⟨1, 10, some 2, PS v0.heap.size cs.length (flC cs)⟩, ⟨2, 0, none, PS v0.heap.size cs.length (flC cs)⟩] [] (.cons (fun _ _ _ h1 h2 => h2.stab h1) <| .cons (fun _ _ _ h1 h2 => h2.stab h1) <| Stab.nil) ?_ ?_
  · refine oc g_mv ?_
    refine oc (g_cE 0 (PS v0.heap.size cs.length (flC cs)) ent_seneschallaw03_few (fun u hB hs => (cFew sl len cap gb go cs u hmin hc hsn hsl (hg0.imp id (fun h => Nat.lt_of_lt_of_le h hB.size)) (hS.out.below2 hB hg0)).mono fun e u2 ⟨v, e1, h1, h2⟩ => ⟨v, e1, h1.mono hs, h2⟩)) ?_
    exact oc (g_sE 0 1 (PS v0.heap.size cs.length (flC cs))) on
  intro u1 v1_1 hv1_1 v1_2 hv1_2 HB1 sz1 K1
  simp only [fX, nK, nP, Wr.f, aK, pM] at K1
  simp only [setG, setN, setE, List.set_cons_zero, List.set_cons_succ]
  clear HB0
  obtain ⟨bO, cO, rfl, ho1, ho2, hcap, hoC⟩ := hv1_2 rfl
  have K1xoth := Bk.more3 K0 K1 ho1 ho2 hoC (by intro x hx; first | (simp at hx; done) | (simp at hx ⊢; omega))
  simp only [aK] at K1xoth
  clear K1
  go_upto_region 2 with fail
  refine rgF K1xoth HB1 HB1.size [] [(6, 5, L0s, some (7, [.int .u64 (0), .int .u64 (0), .int .u64 (0), .int .u64 (0)]))] [(0, 12, .slice (some ⟨bO, 0, none⟩) cs.length cO), (2, 14, .tuple #[A4 (0) (0) (0) (0), .int .i64 30]), (3, 11, .tuple #[A4 (0) (0) (0) (0), .int .i64 30]), (4, 15, A4 (0) (0) (0) (0)), (5, 16, .int .i64 30), (8, 6, .int .i64 30)] [(7, 6)] [] [⟨1, 13, some 2, PS u1.heap.size cs.length (flC cs)⟩] [] (.cons (fun _ _ _ h1 h2 => h2.stab h1) <| Stab.nil) ?_ ?_
  · refine oc g_mv ?_
    refine oc (g_cK 0 (PS u1.heap.size cs.length (flC cs)) ent_seneschallaw03_few (fun fZ uZ kZ sZ => few_own cs bO cO u1.heap.size uZ hc12 hcap sZ (kZ.lb sZ 1) (kZ.cv 1))) ?_
    refine oc (g_c1 0 (PS u1.heap.size cs.length (flC cs)) ent_cert_Check (fun uZ y _ h => cCheck_own_f cs uZ y u1.heap.size hb hcs hin h)) ?_
    refine oc g_mv ?_
    refine oc g_ex ?_
    refine oc g_ex ?_
    refine oc (g_al 0 aN) ?_
    refine oc (g_sn 0 iN) ?_
    exact oc g_as on
  intro u2 b2_6 v2_1 hv2_1 HB2 sz2 K2
  simp only [fX, nK, nP, Wr.f, aK, pM] at K2
  simp only [setG, setN, setE, List.set_cons_zero, List.set_cons_succ]
  clear HB1
  go_upto_region 3 with fail
  refine rgP K2 HB2 HB2.size [] [(5, 7, L0s, some (6, [.int .u64 (0), .int .u64 (0), .int .u64 (0), .int .u64 (0)]))] [(0, 18, .slice (some ⟨bO, 0, none⟩) cs.length cO), (1, 19, .tuple #[A4 (0) (0) (0) (0), .int .i64 30]), (2, 17, .tuple #[A4 (0) (0) (0) (0), .int .i64 30]), (3, 20, A4 (0) (0) (0) (0)), (4, 21, .int .i64 30), (7, 8, .int .i64 30)] [(6, 5)] [] [] ?_ ?_
  · refine oc g_mv ?_
    refine oc (g_ck ent_seneschalref03_Check (fun fZ uZ kZ sZ => xCheck cs n _ bO cO uZ hcs hin (kZ.lb sZ 1) (kZ.cv 1) hlast (fun _ => rfl) (fun e => by rw [hb] at e; cases e))) ?_
    refine oc g_mv ?_
    refine oc g_ex ?_
    refine oc g_ex ?_
    refine oc (g_al 0 aN) ?_
    refine oc (g_sn 0 iN) ?_
    exact oc g_as on
  intro u3 b3_5 HB3 sz3 K3
  simp only [fX, nK, nP, Wr.f, aK, pM] at K3
  simp only [setG, setN, List.set_cons_zero, List.set_cons_succ]
  clear K2 HB2
  go_upto_region 4 with fail
  refine rgE K3 HB3 HB3.size [] [] [(0, 22, .agg #[.int .u64 (0), .int .u64 (0), .int .u64 (0), .int .u64 (0)]), (1, 23, .agg #[.int .u64 (0), .int .u64 (0), .int .u64 (0), .int .u64 (0)]), (2, 24, .bool true), (3, 25, .bool true), (4, 26, .int .i64 30), (5, 27, .int .i64 30), (6, 28, .bool true), (7, 29, .bool true), (8, 30, .bool true), (9, 31, GX (p) (q) (g) (h)), (10, 32, .slice (some ⟨bO, 0, none⟩) cs.length cO), (12, 34, .int .i64 e), (13, 35, GX (p) (q) (g) (h)), (14, 36, .slice (some ⟨bO, 0, none⟩) cs.length cO), (15, 37, .int .i64 e), (16, 38, .bool true), (17, 39, .bool true), (18, 40, .bool true), (19, 41, .bool true), (20, 42, .bool true), (21, 4, .bool true)] [] [] [⟨11, 33, some 12, PS u3.heap.size cs.length (flC cs)⟩] [false, true, false, false] (.cons (fun _ _ _ h1 h2 => h2.stab h1) <| Stab.nil) ?_ ?_
  · refine oc (g_ld 2 uN iN) ?_
    refine oc (g_ld 3 uN iN) ?_
    refine oc (g_bn (fun uZ => eqs4 _ _ 0 0 0 0 uZ)) ?_
    refine oc g_mv ?_
    refine oc g_mv ?_
    refine oc g_mv ?_
    refine oc (g_bn (fun uZ => eql_i _ _ _ 30 30 _ uZ rfl)) ?_
    refine oc g_pk ?_
    refine oc g_mv ?_
    refine oc (g_ld 0 Try.underlying33 info_api_Group) ?_
    refine oc g_mv ?_
    refine oc (g_cK 0 (PS u3.heap.size cs.length (flC cs)) ent_seneschallaw03_few (fun fZ uZ kZ sZ => few_own cs bO cO u3.heap.size uZ hc12 hcap sZ (kZ.lb sZ 1) (kZ.cv 1))) ?_
    refine oc (g_c2 0 (PS u3.heap.size cs.length (flC cs)) ent_cert_Group (fun uZ y _ hy => cGroup_own p q g h e cs uZ y u3.heap.size hp hq hg hh hcs hin he hy)) ?_
    refine oc (g_ld 0 Try.underlying33 info_api_Group) ?_
    refine oc g_mv ?_
    refine oc (g_ck ent_seneschalref03_Group (fun fZ uZ kZ sZ => xGroup_is p q g h e bO cO cs uZ hp hq hg hh hcs hin he (kZ.lb sZ 1) (kZ.cv 1))) ?_
    refine oc (g_bn (fun uZ => eql_i _ _ _ e e _ uZ (beq_self_eq_true e))) ?_
    refine oc g_pk ?_
    refine oc g_mv ?_
    refine oc (g_cl ent_seneschallaw03_works (fun uZ => works3 uZ)) ?_
    refine oc g_pk ?_
    exact oc g_as on
  intro u4 v4_11 hv4_11 HB4 sz4 K4
  simp only [fX, nK, nP, Wr.f, aK, pM] at K4
  simp only [setG, setN, setE, List.set_cons_zero, List.set_cons_succ]
  clear K3 HB3
  go_wp2
  refine bodyPost_ret (v := .bool true) (by simp [results, Try.results4, go_sem, ]) rfl ⟨rfl, HB4⟩
set_option maxRecDepth 100000 in
set_option maxHeartbeats 4000000 in
theorem certChecks_true (p q g h e n : Int) (sl : Option Addr) (len cap gb go : Nat) (cs : List (Int × Int × Int)) (w : World) (hmin : min (len : Int) 12 = (cs.length : Int)) (hc : len ≤ cap) (hsn : sl = none → cap = 0) (hsl : cs = [] ∨ sl = some ⟨gb, go, none⟩) (hg0 : cs.length = 0 ∨ gb < w.heap.size) (hS : Hid (SCt w gb go cs)) (hin : Hid (∀ j, j < cs.length → In (cat cs j).1 ∧ In (cat cs j).2.1 ∧ In (cat cs j).2.2)) (hp : In p) (hq : In q) (hg : In g) (hh : In h) (he : gpE p q g h cs = e) (hb : cfB cs = true) (hlast : (cat cs (cs.length - 1)).1 = n) :
    Calls Try.prog 4 #[.slice sl len cap, GX p q g h] w fun e w' => e = .returned (.bool true) ∧ Below w.heap.size w w' := by
  have hcs : cs.length ≤ 256 := by omega
  have hc12 : cs.length ≤ 12 := by omega
  go_enter Try.func4, Try.ntmps4
  go_upto_region 1 with fail
  generalize hC : (w.alloc (.cells (GE (p) (q) (g) (h) : List Value).toArray 33)) = v0 at *
  have HB0 : Below w.heap.size w v0 := by rw [← hC]; exact balloc (bself w) _
  have K0 : Bk w.heap.size v0 [(true, w.heap.size, GE (p) (q) (g) (h))] := by rw [← hC]; exact (Bk.nil _ w).ad
  clear hC
  refine rgF K0 HB0 HB0.size [] [] [(0, 9, .slice sl len cap)] [(2, 0)] [(2, 0)] [⟨1, 10, some 2, PS v0.heap.size cs.length (flC cs)⟩, ⟨2, 0, none, PS v0.heap.size cs.length (flC cs)⟩] [] (.cons (fun _ _ _ h1 h2 => h2.stab h1) <| .cons (fun _ _ _ h1 h2 => h2.stab h1) <| Stab.nil) ?_ ?_
  · refine oc g_mv ?_
    refine oc (g_cE 0 (PS v0.heap.size cs.length (flC cs)) ent_seneschallaw03_few (fun u hB hs => (cFew sl len cap gb go cs u hmin hc hsn hsl (hg0.imp id (fun h => Nat.lt_of_lt_of_le h hB.size)) (hS.out.below2 hB hg0)).mono fun e u2 ⟨v, e1, h1, h2⟩ => ⟨v, e1, h1.mono hs, h2⟩)) ?_
    exact oc (g_sE 0 1 (PS v0.heap.size cs.length (flC cs))) on
  intro u1 v1_1 hv1_1 v1_2 hv1_2 HB1 sz1 K1
  simp only [fX, nK, nP, Wr.f, aK, pM] at K1
  simp only [setG, setN, setE, List.set_cons_zero, List.set_cons_succ]
  clear HB0
  obtain ⟨bO, cO, rfl, ho1, ho2, hcap, hoC⟩ := hv1_2 rfl
  have K1xoth := Bk.more3 K0 K1 ho1 ho2 hoC (by intro x hx; first | (simp at hx; done) | (simp at hx ⊢; omega))
  simp only [aK] at K1xoth
  clear K1
  go_upto_region 2 with fail
  refine rgF K1xoth HB1 HB1.size [] [(6, 5, L0s, some (7, LN n))] [(0, 12, .slice (some ⟨bO, 0, none⟩) cs.length cO), (2, 14, .tuple #[NV n, .int .i64 0]), (3, 11, .tuple #[NV n, .int .i64 0]), (4, 15, NV n), (5, 16, .int .i64 0), (8, 6, .int .i64 0)] [(7, 6)] [] [⟨1, 13, some 2, PS u1.heap.size cs.length (flC cs)⟩] [] (.cons (fun _ _ _ h1 h2 => h2.stab h1) <| Stab.nil) ?_ ?_
  · refine oc g_mv ?_
    refine oc (g_cK 0 (PS u1.heap.size cs.length (flC cs)) ent_seneschallaw03_few (fun fZ uZ kZ sZ => few_own cs bO cO u1.heap.size uZ hc12 hcap sZ (kZ.lb sZ 1) (kZ.cv 1))) ?_
    refine oc (g_c1 0 (PS u1.heap.size cs.length (flC cs)) ent_cert_Check (fun uZ y _ h => cCheck_own_p cs n uZ y u1.heap.size hb hlast hcs hin h)) ?_
    refine oc g_mv ?_
    refine oc g_ex ?_
    refine oc g_ex ?_
    refine oc (g_al 0 aN) ?_
    refine oc (g_sn 0 iN) ?_
    exact oc g_as on
  intro u2 b2_6 v2_1 hv2_1 HB2 sz2 K2
  simp only [fX, nK, nP, Wr.f, aK, pM] at K2
  simp only [setG, setN, setE, List.set_cons_zero, List.set_cons_succ]
  clear HB1
  go_upto_region 3 with fail
  refine rgP K2 HB2 HB2.size [] [(5, 7, L0s, some (6, LN n))] [(0, 18, .slice (some ⟨bO, 0, none⟩) cs.length cO), (1, 19, .tuple #[NV n, .int .i64 0]), (2, 17, .tuple #[NV n, .int .i64 0]), (3, 20, NV n), (4, 21, .int .i64 0), (7, 8, .int .i64 0)] [(6, 5)] [] [] ?_ ?_
  · refine oc g_mv ?_
    refine oc (g_ck ent_seneschalref03_Check (fun fZ uZ kZ sZ => xCheck cs n _ bO cO uZ hcs hin (kZ.lb sZ 1) (kZ.cv 1) hlast (fun e => by rw [hb] at e; cases e) (fun _ => rfl))) ?_
    refine oc g_mv ?_
    refine oc g_ex ?_
    refine oc g_ex ?_
    refine oc (g_al 0 aN) ?_
    refine oc (g_sn 0 iN) ?_
    exact oc g_as on
  intro u3 b3_5 HB3 sz3 K3
  simp only [fX, nK, nP, Wr.f, aK, pM] at K3
  simp only [setG, setN, List.set_cons_zero, List.set_cons_succ]
  clear K2 HB2
  go_upto_region 4 with fail
  refine rgE K3 HB3 HB3.size [] [] [(0, 22, NV n), (1, 23, NV n), (2, 24, .bool true), (3, 25, .bool true), (4, 26, .int .i64 0), (5, 27, .int .i64 0), (6, 28, .bool true), (7, 29, .bool true), (8, 30, .bool true), (9, 31, GX (p) (q) (g) (h)), (10, 32, .slice (some ⟨bO, 0, none⟩) cs.length cO), (12, 34, .int .i64 e), (13, 35, GX (p) (q) (g) (h)), (14, 36, .slice (some ⟨bO, 0, none⟩) cs.length cO), (15, 37, .int .i64 e), (16, 38, .bool true), (17, 39, .bool true), (18, 40, .bool true), (19, 41, .bool true), (20, 42, .bool true), (21, 4, .bool true)] [] [] [⟨11, 33, some 12, PS u3.heap.size cs.length (flC cs)⟩] [false, true, false, false] (.cons (fun _ _ _ h1 h2 => h2.stab h1) <| Stab.nil) ?_ ?_
  · refine oc (g_ld 2 uN iN) ?_
    refine oc (g_ld 3 uN iN) ?_
    refine oc (g_bn (fun uZ => eql_same _ _ (n) uZ)) ?_
    refine oc g_mv ?_
    refine oc g_mv ?_
    refine oc g_mv ?_
    refine oc (g_bn (fun uZ => eql_i _ _ _ 0 0 _ uZ rfl)) ?_
    refine oc g_pk ?_
    refine oc g_mv ?_
    refine oc (g_ld 0 Try.underlying33 info_api_Group) ?_
    refine oc g_mv ?_
    refine oc (g_cK 0 (PS u3.heap.size cs.length (flC cs)) ent_seneschallaw03_few (fun fZ uZ kZ sZ => few_own cs bO cO u3.heap.size uZ hc12 hcap sZ (kZ.lb sZ 1) (kZ.cv 1))) ?_
    refine oc (g_c2 0 (PS u3.heap.size cs.length (flC cs)) ent_cert_Group (fun uZ y _ hy => cGroup_own p q g h e cs uZ y u3.heap.size hp hq hg hh hcs hin he hy)) ?_
    refine oc (g_ld 0 Try.underlying33 info_api_Group) ?_
    refine oc g_mv ?_
    refine oc (g_ck ent_seneschalref03_Group (fun fZ uZ kZ sZ => xGroup_is p q g h e bO cO cs uZ hp hq hg hh hcs hin he (kZ.lb sZ 1) (kZ.cv 1))) ?_
    refine oc (g_bn (fun uZ => eql_i _ _ _ e e _ uZ (beq_self_eq_true e))) ?_
    refine oc g_pk ?_
    refine oc g_mv ?_
    refine oc (g_cl ent_seneschallaw03_works (fun uZ => works3 uZ)) ?_
    refine oc g_pk ?_
    exact oc g_as on
  intro u4 v4_11 hv4_11 HB4 sz4 K4
  simp only [fX, nK, nP, Wr.f, aK, pM] at K4
  simp only [setG, setN, setE, List.set_cons_zero, List.set_cons_succ]
  clear K3 HB3
  go_wp2
  refine bodyPost_ret (v := .bool true) (by simp [results, Try.results4, go_sem, ]) rfl ⟨rfl, HB4⟩
theorem certChecks_any (p q g h : Int) (sl : Option Addr) (len cap gb go : Nat) (cs : List (Int × Int × Int)) (w : World) (hmin : min (len : Int) 12 = (cs.length : Int)) (hc : len ≤ cap) (hsn : sl = none → cap = 0) (hsl : cs = [] ∨ sl = some ⟨gb, go, none⟩) (hg0 : cs.length = 0 ∨ gb < w.heap.size) (hS : Hid (SCt w gb go cs)) (hin : Hid (∀ j, j < cs.length → In (cat cs j).1 ∧ In (cat cs j).2.1 ∧ In (cat cs j).2.2)) (hp : In p) (hq : In q) (hg : In g) (hh : In h) :
    Calls Try.prog 4 #[.slice sl len cap, GX p q g h] w fun e w' => e = .returned (.bool true) ∧ Below w.heap.size w w' := by
  cases hb : cfB cs with
  | false => exact certChecks_false p q g h _ _ sl len cap gb go cs w hmin hc hsn hsl hg0 hS hin hp hq hg hh rfl hb rfl
  | true => exact certChecks_true p q g h _ _ sl len cap gb go cs w hmin hc hsn hsl hg0 hS hin hp hq hg hh rfl hb rfl
end Go.Proofs.Ytgfggkinmhhdnaa
