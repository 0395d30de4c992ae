/- The law AesField: its walk. -/
import Derived.Test.YtlcjbnhfmcnnfaaDoorAR2
import Derived.Test.YtlcjbnhfmcnnfaaDoorAL1
namespace Go.Proofs.YtlcjbnhfmcnnfaaDoor
open Go.RowKit
set_option linter.unusedVariables false
set_option linter.unusedSimpArgs false
theorem sbT_len : sbT.length = 256 := by decide +kernel
/-- A pointer to that value. -/
def PV (v : Value) (u : World) (y : Value) : Prop := ∃ b c, y = .pointer (some ⟨b, c, none⟩) ∧ b < u.heap.size ∧ u.cell? ⟨b, c, none⟩ = some v
theorem PV.stab {v : Value} {u u' : World} {x : Value} (hB : Below u.heap.size u u') (h : PV v u x) : PV v u' x := by
  obtain ⟨b, c, e, h1, h2⟩ := h
  exact ⟨b, c, e, Nat.lt_of_lt_of_le h1 hB.size, (hB.cell (p := ⟨b, c, none⟩) h1).trans h2⟩
section
variable {R : Rg} {P : Program} {ops : Array Oper} {Q : Exit → Act → World → Prop} {f : Nat → Bool} {t : Nat → Value} {u : World} {a : Act} {i : Nat} {o : Oper}
/-- The place in such a slice. -/
theorem g_iE (m n : Nat) (p p' : World → Value → Prop) {T : TypeId} {y : Operand} {vy : Value} {j d : Nat} {c : Option Nat} (hp : ∀ u vs, p u vs → ∃ z, (Instr.indexAt T vs vy).run P u = .ok z u ∧ p' u z) (hop : o.op = .indexAddr T (.tmp d) y := by rfl) (hm : R.E[m]? = some ⟨j, d, c, p⟩ := by rfl) (hcc : (c.all (· == i)) = true := by rfl) (hn0 : (R.E[n]?).map (·.p) = some p' := by rfl) (hy : evR R i o y = some vy := by rfl) (hd : (hasDep o j && R.S.contains d) = true := by rfl) (hc : R.chkE ops n i o = true := by rfl) : OG R P ops Q i o := fun f t u a X => by
  rw [Bool.and_eq_true, List.contains_iff_mem] at hd
  obtain ⟨h2, h4⟩ := hd
  obtain ⟨d', q', hd', hq', _, _, _, _, _, _, _, _, hw⟩ := chkE_parts hc
  obtain ⟨z, e1, hv⟩ := hp u (t d) (X.val2 hm h2 hcc)
  exact X.go hw fun K hK => wp_index hop (X.inS h4) (X.ev hy) e1 (hK _ _ (X.putE hc (fun q' hq' => by rw [hq'] at hn0; cases hn0; exact hv) (Below.refl _ _)))
/-- What lies there. -/
theorem g_dE (m : Nat) (p : World → Value → Prop) {T : TypeId} {j d : Nat} {c : Option Nat} {v : Value} (hp : ∀ u vs, p u vs → (Instr.loadAt T vs).run P u = .ok v u) (hop : o.op = .load T (.tmp d) := by rfl) (hm : R.E[m]? = some ⟨j, d, c, p⟩ := by rfl) (hcc : (c.all (· == i)) = true := by rfl) (hd : (hasDep o j && R.S.contains d) = true := by rfl) (hv : some v = pickV i R.G := by rfl) (hc : R.chk ops i o = true := by rfl) : OG R P ops Q i o :=
  g_pure hv hc fun f t u a X K hK => by
    rw [Bool.and_eq_true, List.contains_iff_mem] at hd
    obtain ⟨h2, h4⟩ := hd
    exact wp_load hop (X.inS h4) (hp u (t d) (X.val2 hm h2 hcc)) hK
end
theorem ldV {x : Int} (u : World) (y : Value) (h : PV (.int .u8 x) u y) : (Instr.loadAt 5 y).run Tryd.prog u = .ok (.int .u8 x) u := by
  obtain ⟨b, c, rfl, _, h2⟩ := h
  exact l8 u h2
set_option maxRecDepth 100000 in
set_option maxHeartbeats 4000000 in
theorem aesField_core (a b s r : Nat) (ts : List Nat) (w : World) (hS : Hid (∀ u, Below w.heap.size w u → Calls Tryd.prog 8 #[.int .u8 ((a : Nat) : Int)] u fun e u' => e = .returned (.int .u8 ((s : Nat) : Int)) ∧ Below u.heap.size u u')) (hSR : Hid (∀ u, Calls Tryd.prog 9 #[.int .u8 ((a : Nat) : Int)] u fun e u' => e = .returned (.int .u8 ((s : Nat) : Int)) ∧ Below u.heap.size u u')) (hT : Hid (∀ u, Calls Tryd.prog 10 #[.int .u8 ((a : Nat) : Int), .int .u8 ((b : Nat) : Int)] u fun e u' => e = .returned (.int .u8 ((r : Nat) : Int)) ∧ Below u.heap.size u u')) (hTR : Hid (∀ u, Calls Tryd.prog 11 #[.int .u8 ((a : Nat) : Int), .int .u8 ((b : Nat) : Int)] u fun e u' => e = .returned (.int .u8 ((r : Nat) : Int)) ∧ Below u.heap.size u u'))
    (hW : Hid (∀ u, Below w.heap.size w u → Calls Tryd.prog 13 #[] u fun e u' => e = .returned (.bool true) ∧ Below u.heap.size u u')) (hTb : Hid (∀ u, Calls Tryd.prog 12 #[] u fun e u' => ∃ v, e = .returned v ∧ PS u.heap.size 256 (U8 (ts)) u' v ∧ Below u.heap.size u u'))
    (hix : Hid (∀ u vs, PS w.heap.size 256 (U8 (ts)) u vs → ∃ z, (Instr.indexAt 24 vs (.int .u8 ((a : Nat) : Int))).run Tryd.prog u = .ok z u ∧ PV (.int .u8 ((s : Nat) : Int)) u z)) :
    Calls Tryd.prog 3 #[.int .u8 (a : Int), .int .u8 (b : Int)] w fun e w' => e = .returned (.bool true) ∧ Below w.heap.size w w' := by
  go_enter Tryd.func3, Tryd.ntmps3
  have HB0 : Below w.heap.size w w := Below.refl _ _
  have K0_1 := Bk.nil (w.heap.size) w
  go_upto_region 1 with fail
  refine rgE K0_1 HB0 HB0.size [] [] [(0, 5, .int .u8 ((a : Nat) : Int)), (1, 6, .int .u8 ((s : Nat) : Int)), (2, 7, .int .u8 ((a : Nat) : Int)), (3, 8, .int .u8 ((s : Nat) : Int)), (4, 9, .bool true), (5, 10, .bool true), (6, 11, .int .u8 ((a : Nat) : Int)), (7, 12, .int .u8 ((b : Nat) : Int)), (8, 13, .int .u8 ((r : Nat) : Int)), (9, 14, .int .u8 ((a : Nat) : Int)), (10, 15, .int .u8 ((b : Nat) : Int)), (11, 16, .int .u8 ((r : Nat) : Int)), (12, 17, .bool true), (13, 18, .bool true), (14, 19, .bool true), (16, 21, .int .u8 ((a : Nat) : Int)), (18, 23, .int .u8 ((s : Nat) : Int)), (19, 24, .int .u8 ((a : Nat) : Int)), (20, 25, .int .u8 ((s : Nat) : Int)), (21, 26, .bool true), (22, 27, .bool true), (23, 28, .bool true), (24, 29, .bool true), (25, 30, .bool true), (26, 4, .bool true)] [] [] [⟨15, 20, some 17, PS w.heap.size 256 (U8 (ts))⟩, ⟨17, 22, some 18, PV (.int .u8 ((s : Nat) : Int))⟩] [] (.cons (fun _ _ _ h1 h2 => h2.stab h1) <| .cons (fun _ _ _ h1 h2 => h2.stab h1) <| Stab.nil) ?_ ?_
  · refine oc g_mv ?_
    refine oc (g_cb ent_aes_Substitute (fun uZ bZ => hS.out uZ bZ)) ?_
    refine oc g_mv ?_
    refine oc (g_cl ent_seneschalref06_Substitute (fun uZ => hSR.out uZ)) ?_
    refine oc (g_bn (fun uZ => eql8 _ _ ((s : Nat) : Int) ((s : Nat) : Int) true uZ (by simp))) ?_
    refine oc g_mv ?_
    refine oc g_mv ?_
    refine oc g_mv ?_
    refine oc (g_cl ent_aes_Times (fun uZ => hT.out uZ)) ?_
    refine oc g_mv ?_
    refine oc g_mv ?_
    refine oc (g_cl ent_seneschalref06_Times (fun uZ => hTR.out uZ)) ?_
    refine oc (g_bn (fun uZ => eql8 _ _ ((r : Nat) : Int) ((r : Nat) : Int) true uZ (by simp))) ?_
    refine oc g_pk ?_
    refine oc g_mv ?_
    refine oc (g_cE 0 (PS w.heap.size 256 (U8 (ts))) ent_seneschalref06_Table (fun u hB hs => (hTb.out u).mono fun e u2 ⟨v, e1, h1, h2⟩ => ⟨v, e1, h1.mono hs, h2⟩)) ?_
    refine oc g_mv ?_
    refine oc (g_iE 0 1 (PS w.heap.size 256 (U8 (ts))) (PV (.int .u8 ((s : Nat) : Int))) hix.out) ?_
    refine oc (g_dE 1 (PV (.int .u8 ((s : Nat) : Int))) ldV) ?_
    refine oc g_mv ?_
    refine oc (g_cl ent_seneschalref06_Substitute (fun uZ => hSR.out uZ)) ?_
    refine oc (g_bn (fun uZ => eql8 _ _ ((s : Nat) : Int) ((s : Nat) : Int) true uZ (by simp))) ?_
    refine oc g_pk ?_
    refine oc g_mv ?_
    refine oc (g_cb ent_seneschallaw06_works (fun uZ bZ => hW.out uZ bZ)) ?_
    refine oc g_pk ?_
    exact oc g_as on
  intro u1 v1_15 hv1_15 v1_17 hv1_17 HB1 sz1 K1
  simp only [fX, nK, nP, Wr.f, aK, pM] at K1
  simp only [setG, setN, setE, List.set_cons_zero, List.set_cons_succ]
  clear HB0
  go_wp2
  refine bodyPost_ret (v := .bool true) (by simp [results, Tryd.results3, go_sem, ]) rfl ⟨rfl, HB1⟩
theorem aesField_any (a b : Nat) (w : World) (hV : GS6 w) (ha : a < 256) (hb : b < 256) :
    Calls Tryd.prog 3 #[.int .u8 (a : Int), .int .u8 (b : Int)] w fun e w' => e = .returned (.bool true) ∧ Below w.heap.size w w' :=
  aesField_core a b (sbT.getD a 0) (tm a b) sbT w (fun u hB => cSubst a u ha (hV.up hB)) (fun u => cSubstR a u ha) (fun u => cTimes a b u ha hb) (fun u => cTimesR a b u ha hb) (fun u hB => works6 u (hV.up hB)) (fun u => cTable u) (fun u vs h => by
    obtain ⟨bb, cap, rfl, _, h2, _, h4⟩ := h
    exact ⟨_, ixs8 bb 256 cap a u ha, bb, a, rfl, h2, (h4 a _ (U8_get sbT a (by rw [sbT_len]; exact ha))).1⟩)
end Go.Proofs.YtlcjbnhfmcnnfaaDoor
