/- SHA-256: what is put behind the bytes. -/

import Derived.Test.YtbgdcgboomdimaaDoorSH4
import Derived.Laws.MakeOwn
namespace Go.Proofs.YtbgdcgboomdimaaDoor
open Go.RowKit
set_option linter.unusedVariables false
set_option linter.unusedSimpArgs false
section
variable {R : Rg} {P : Program} {ops : Array Oper} {Q : Exit → Act → World → Prop} {f : Nat → Bool} {t : Nat → Value} {u : World} {a : Act} {i : Nat} {o : Oper}
theorem wp_ms {K : Act → World → Prop} {T : TypeId} {x y : Operand} {vx vy v : Value} {w' : World} (ho : o.op = .makeSlice T x y) (hx : a.eval x = vx) (hy : a.eval y = vy) (hr : (Instr.makeSlice T vx vy).run P u = .ok v w') (hk : K (a.put o.dst v) w') : o.wp P a u K Q :=
  wp_val (by
    unfold execOp; rw [ho]
    show Sem.run P (do pure (Next.value (← Instr.makeSlice T (a.eval x) (a.eval y)))) u = _
    rw [hx, hy, Sem.run_bind, hr, Result.andThen_ok, Sem.run_pure]) hk
/-- A new slice of noughts. -/
theorem g_ms (n : Nat) (p : World → Value → Prop) {T e : TypeId} {x y : Operand} {vx vy : Value} {m : Nat} {cs : List Value} (hr : ∀ w, (Instr.makeSlice T vx vy).run P w = .ok (.slice (some ⟨w.heap.size, 0, none⟩) m m) (w.alloc (.cells cs.toArray e))) (hp : ∀ u : World, R.base ≤ u.heap.size → p (u.alloc (.cells cs.toArray e)) (.slice (some ⟨u.heap.size, 0, none⟩) m m)) (hop : o.op = .makeSlice T x y := by rfl) (hx : evR R i o x = some vx := by rfl) (hy : evR R i o y = some vy := by rfl) (hn : (R.E[n]?).map (·.p) = some p := by rfl) (hc : R.chkE ops n i o = true := by rfl) : OG R P ops Q i o := fun f t u a X => by
  obtain ⟨d, q, hd, hq, _, _, _, _, _, _, _, _, hw⟩ := chkE_parts hc
  exact X.go hw fun K hK => wp_ms hop (X.ev hx) (X.ev hy) (hr u) (hK _ _ (X.putE hc (fun q hq => by rw [hq] at hn; cases hn; exact hp u X.I.1.sz) (balloc (bself u) _)))
end
theorem Bk.moreT {lo : Nat} {u0 u : World} {k0 ks : List Blk} {b : Nat} {l : List Value} (K0 : Bk lo u0 k0) (K : Bk lo u ks) (hlo : lo ≤ u0.heap.size) (hb : u0.heap.size ≤ b) (hlt : b < u.heap.size) (hc : CV u b l) (e : ∀ x ∈ ks.map (·.2.1), x ∈ k0.map (·.2.1)) : Bk lo u (aK ks [(true, b, l)]) := by
  rw [aK_eq]
  refine ⟨KA.app K.a (KA.o hlt (Nat.le_trans hlo hb) hc trivial), ?_⟩
  rw [List.map_append, List.nodup_append]
  refine ⟨K.n, by simp, fun x hx y hy h => ?_⟩
  have := K0.a.mem x (e x hx)
  simp at hy
  omega
/-- A slice of one's own, without room behind it. -/
def PF (lo n : Nat) (xs : List Value) (u : World) (v : Value) : Prop := ∃ b, v = .slice (some ⟨b, 0, none⟩) n n ∧ lo ≤ b ∧ b < u.heap.size ∧ CV u b xs
theorem PF.stab {lo n : Nat} {xs : List Value} {u v : World} {x : Value} (hB : Below u.heap.size u v) (h : PF lo n xs u x) : PF lo n xs v x := by
  obtain ⟨b, e, h1, h2, h5⟩ := h
  exact ⟨b, e, h1, Nat.lt_of_lt_of_le h2 hB.size, h5.below hB h2⟩
theorem PF.mono {lo lo' n : Nat} {xs : List Value} {u : World} {x : Value} (h : PF lo n xs u x) (hl : lo' ≤ lo) : PF lo' n xs u x := by
  obtain ⟨b, e, h1, h⟩ := h
  exact ⟨b, e, Nat.le_trans hl h1, h⟩
theorem PF.new (n : Nat) (xs : List Value) (t : TypeId) {lo : Nat} (u : World) (h : lo ≤ u.heap.size) : PF lo n xs (u.alloc (.cells xs.toArray t)) (.slice (some ⟨u.heap.size, 0, none⟩) n n) := ⟨_, rfl, h, by simp, CV.new u _ t⟩
theorem infoB : (Tryd.prog.info? 5).map (fun i => (i.zero, i.size, i.bytes)) = some (some (.int .u8 0), 1, 1) := by kernel_rfl
theorem mkB (k : IntKind) (m : Nat) (hm : m ≤ 1000000) (w : World) : (Instr.makeSlice 22 (.int k m) (.int k m)).run Tryd.prog w = .ok (.slice (some ⟨w.heap.size, 0, none⟩) m m) (w.alloc (.cells (U8 (List.replicate m 0)).toArray 5)) := by
  obtain ⟨i, hi, hi2⟩ := Option.map_eq_some_iff.1 infoB
  simp only [Prod.mk.injEq] at hi2
  obtain ⟨hz, hs, hb⟩ := hi2
  have := run_makeSlice (P := Tryd.prog) w 22 5 i (.int .u8 0) Tryd.underlying22 hi hz k k m m (by omega) (by omega) (by rw [hs]; omega) (by rw [hb]; omega) (by omega)
  rw [this, hs]
  simp only [Int.toNat_natCast, Nat.mul_one]
  congr 4
  apply Array.ext'
  simp [madeCells, U8, Value.cells]
  apply List.ext_getElem
  · simp
  · intro j h1 h2; simp [Nat.mod_one]
theorem add64 (p q : Operand) (a b c : Nat) (w : World) (h : a + b = c) (hc : c < 18446744073709551616) : (do eqGuard .add 27 p q (.int .u64 a) (.int .u64 b); binOp .add 27 (.int .u64 a) (.int .u64 b) : Sem Value).run Tryd.prog w = .ok (.int .u64 (c : Int)) w := by
  have e : IntKind.u64.wrap ((a : Int) + b) = (c : Int) := by simp [IntKind.wrap, IntKind.signed, IntKind.bits]; omega
  go_simp
theorem mul64 (p q : Operand) (a b c : Nat) (w : World) (h : a * b = c) (hc : c < 18446744073709551616) : (do eqGuard .mul 27 p q (.int .u64 a) (.int .u64 b); binOp .mul 27 (.int .u64 a) (.int .u64 b) : Sem Value).run Tryd.prog w = .ok (.int .u64 (c : Int)) w := by
  have h' : (a : Int) * b = (c : Int) := by exact_mod_cast h
  have e : IntKind.u64.wrap (c : Int) = (c : Int) := by simp [IntKind.wrap, IntKind.signed, IntKind.bits]; omega
  go_simp
theorem neg64 (a : Nat) (w : World) (h0 : 0 < a) (h : a < 18446744073709551616) : (Op.unary .neg (.int .u64 a)).run Tryd.prog w = .ok (.int .u64 ((18446744073709551616 - a : Nat) : Int)) w := by
  have e : IntKind.u64.wrap (-(a : Int)) = ((18446744073709551616 - a : Nat) : Int) := by simp [IntKind.wrap, IntKind.signed, IntKind.bits]; omega
  go_simp
theorem rem64 (p q : Operand) (x y : Nat) (w : World) (h1 : x < 18446744073709551616) (h2 : 0 < y) : (do eqGuard .rem 27 p q (.int .u64 x) (.int .u64 y); binOp .rem 27 (.int .u64 x) (.int .u64 y) : Sem Value).run Tryd.prog w = .ok (.int .u64 ((x % y : Nat) : Int)) w := by
  have e0 : ((x : Int)).tmod y = ((x % y : Nat) : Int) := by rw [Int.tmod_eq_emod_of_nonneg (Int.natCast_nonneg _)]; simp
  have hle : x % y ≤ x := Nat.mod_le _ _
  obtain ⟨z, hz⟩ : ∃ z, x % y = z := ⟨_, rfl⟩
  rw [hz] at e0 hle ⊢
  have e : IntKind.u64.wrap (z : Int) = (z : Int) := by simp [IntKind.wrap, IntKind.signed, IntKind.bits]; omega
  have hy : (y : Int) ≠ 0 := by omega
  have hy2 : ¬ y = 0 := by omega
  go_simp
theorem shr64i (p q : Operand) (a n : Nat) (w : World) (hn : n ≤ 64) : (do eqGuard .shr 27 p q (.int .u64 a) (.int .i64 n); binOp .shr 27 (.int .u64 a) (.int .i64 n) : Sem Value).run Tryd.prog w = .ok (.int .u64 ((a >>> n : Nat) : Int)) w := by
  have e : ((a : Int) / 2 ^ n) = (a : Int) >>> n := by rw [Int.shiftRight_eq_div_pow]; simp
  have e2 : min n 64 = n := by omega
  go_simp
  first | done | exact e
theorem cv648 {o : Oper} {ev : Operand → Value} {x : Operand} {n : Nat} (u : World) (ho : o.op = .convert 27 5 x) (hx : ev x = .int .u64 (n : Int)) : (execOp ev o).run Tryd.prog u = .ok (.value (.int .u8 ((n % 256 : Nat) : Int))) u := by
  have e1 : IntKind.u8.wrap (n : Int) = ((n % 256 : Nat) : Int) := by simp [IntKind.wrap, IntKind.signed, IntKind.bits]
  unfold execOp; rw [ho]; simp only [hx]; go_simp
theorem ixB (g o n cap j : Nat) (h : j < n) (w : World) : (Instr.indexAt 22 (.slice (some ⟨g, o, none⟩) n cap) (.int .i64 j)).run Tryd.prog w = .ok (.pointer (some ⟨g, o + j, none⟩)) w := by
  have h2 : (j : Int) < n := by omega
  go_simp
theorem slB8 (k : IntKind) (b m j : Nat) (h : j + 8 = m) (w : World) : (Instr.sliceAt 22 (.slice (some ⟨b, 0, none⟩) m m) (some (.int k j)) none none).run Tryd.prog w = .ok (.slice (some ⟨b, j, none⟩) 8 8) w := by
  subst h
  have h1 : (j : Int) ≤ (j + 8 : Nat) := by omega
  have h3 : j ≤ j + 8 := by omega
  have h5 : ¬ j + 8 = j := by omega
  have h6 : ¬ j + 8 - j = 0 := by omega
  have h7 : j + 8 - j = 8 := by omega
  simp [Instr.sliceAt, Instr.slice, go_sem, Tryd.underlying22, h1, h3, h5, h6, h7]
  try (intro h; omega)
theorem slB (k : IntKind) (b m j : Nat) (h : j < m) (w : World) : (Instr.sliceAt 22 (.slice (some ⟨b, 0, none⟩) m m) (some (.int k j)) none none).run Tryd.prog w = .ok (.slice (some ⟨b, j, none⟩) (m - j) (m - j)) w := by
  have h1 : (j : Int) ≤ m := by omega
  have h3 : j ≤ m := by omega
  have h5 : ¬ m = j := by omega
  have h6 : ¬ m - j = 0 := by omega
  simp [Instr.sliceAt, Instr.slice, go_sem, Tryd.underlying22, h1, h3, h5, h6]
/-- How many noughts, and what is put behind n bytes. -/
def nou (n : Nat) : Nat := (18446744073709551616 - (n + 9)) % 64
def enL (n : Nat) : Nat → List Nat
  | 0 => (List.replicate (nou n + 9) 0).set 0 128
  | i + 1 => (enL n i).set (nou n + 9 - 1 - i) ((n * 8) >>> (8 * i) % 256)
def ending (n : Nat) : List Nat := enL n 8
theorem BB_rep (m : Nat) : BB m (List.replicate m 0) := ⟨by simp, fun j => by
  simp only [List.getD_eq_getElem?_getD, List.getElem?_replicate]; split <;> decide⟩
theorem enL_B (n : Nat) : ∀ i, BB (nou n + 9) (enL n i)
  | 0 => (BB_rep _).set _ _ (by decide)
  | i + 1 => (enL_B n i).set _ _ (Nat.mod_lt _ (by decide))
theorem rem64x (p q : Operand) (x y z : Nat) (w : World) (h1 : x < 18446744073709551616) (h2 : 0 < y) (h : x % y = z) : (do eqGuard .rem 27 p q (.int .u64 x) (.int .u64 y); binOp .rem 27 (.int .u64 x) (.int .u64 y) : Sem Value).run Tryd.prog w = .ok (.int .u64 (z : Int)) w := by
  rw [← h]; exact rem64 p q x y w h1 h2
set_option maxRecDepth 100000 in
set_option maxHeartbeats 4000000 in
theorem cEnding_core (n no np n9 ng n1 m nb : Nat) (eL : Nat → List Nat) (w : World) (hn : n < 1152921504606846976) (hno : no < 64) (enp : n + 1 = np) (en9 : n + 9 = n9) (hng : ng < 18446744073709551616) (hneg : Hid (∀ u, (Op.unary .neg (.int .u64 (n9 : Int))).run Tryd.prog u = .ok (.int .u64 (ng : Int)) u)) (eno : ng % 64 = no) (en1 : no + 1 = n1) (em : n1 + 8 = m) (enb : n * 8 = nb) (hE0 : Hid (eL 0 = (List.replicate m 0).set 0 128)) (hEs : Hid (∀ i, eL (i + 1) = (eL i).set (m - 1 - i) (nb >>> (8 * i) % 256))) (hEB : Hid (∀ i, BB m (eL i))) :
    Calls Tryd.prog 41 #[.int .u64 ((n : Nat) : Int)] w fun e w' => ∃ v, e = .returned v ∧ PF w.heap.size m (U8 (eL 8)) w' v ∧ Below w.heap.size w w' := by
  have he0 : (U8 (List.replicate m 0))[0 + 0]? = some (.int .u8 ((0 : Nat) : Int)) := by
    have := U8_get (List.replicate m 0) 0 (by simp; omega)
    simpa [show 0 < m by omega] using this
  go_enter Tryd.func41, Tryd.ntmps41
  have HB0 : Below w.heap.size w w := Below.refl _ _
  have K0_1 := Bk.nil (w.heap.size) w
  go_upto_region 1 with fail
  refine rgP K0_1 HB0 HB0.size [] [] [(0, 7, .int .u64 ((n : Nat) : Int)), (1, 8, .int .u64 ((np : Nat) : Int)), (2, 9, .int .u64 ((n9 : Nat) : Int)), (3, 10, .int .u64 ((ng : Nat) : Int)), (4, 11, .int .u64 ((no : Nat) : Int)), (5, 3, .int .u64 ((no : Nat) : Int))] [] [] [] ?_ ?_
  · refine oc g_mv ?_
    refine oc (g_bn (fun uZ => add64 _ _ n 1 np uZ enp (by omega))) ?_
    refine oc (g_bn (fun uZ => add64 _ _ np 8 n9 uZ (by omega) (by omega))) ?_
    refine oc (g_un (fun uZ => hneg.out uZ)) ?_
    refine oc (g_bn (fun uZ => rem64x _ _ ng 64 no uZ (by omega) (by decide) eno)) ?_
    exact oc g_as on
  intro u1 HB1 sz1 K1
  simp only [fX, nK, nP, Wr.f, aK, pM] at K1
  simp only [setG, setN, List.set_cons_zero, List.set_cons_succ]
  clear HB0
  go_upto_region 2 with fail
  refine rgF K1 HB1 HB1.size [] [] [(0, 12, .int .u64 ((no : Nat) : Int)), (1, 13, .int .u64 ((n1 : Nat) : Int)), (2, 14, .int .u64 ((m : Nat) : Int))] [] [] [⟨3, 15, some 4, PF u1.heap.size m (U8 (List.replicate m 0))⟩, ⟨4, 4, none, PF u1.heap.size m (U8 (List.replicate m 0))⟩] [] (.cons (fun _ _ _ h1 h2 => h2.stab h1) <| .cons (fun _ _ _ h1 h2 => h2.stab h1) <| Stab.nil) ?_ ?_
  · refine oc g_mv ?_
    refine oc (g_bn (fun uZ => add64 _ _ 1 no n1 uZ (by omega) (by omega))) ?_
    refine oc (g_bn (fun uZ => add64 _ _ n1 8 m uZ em (by omega))) ?_
    refine oc (g_ms 0 (PF u1.heap.size m (U8 (List.replicate m 0))) (mkB .u64 m (by omega)) (fun u hu => PF.new m _ _ u hu)) ?_
    exact oc (g_sE 0 1 (PF u1.heap.size m (U8 (List.replicate m 0)))) on
  intro u2 v2_3 hv2_3 v2_4 hv2_4 HB2 sz2 K2
  simp only [fX, nK, nP, Wr.f, aK, pM] at K2
  simp only [setG, setN, setE, List.set_cons_zero, List.set_cons_succ]
  clear HB1
  obtain ⟨bE, rfl, ho1, ho2, hoC⟩ := hv2_4 rfl
  have K2xen := Bk.moreT K1 K2 (by omega) ho1 ho2 hoC (by intro x hx; first | (simp at hx; done) | (simp at hx ⊢; omega))
  simp only [aK] at K2xen
  clear K2
  have hbE : w.heap.size ≤ bE := by omega
  go_upto_region 3 with fail
  refine rgP K2xen HB2 HB2.size [.all 2 (U8 ((List.replicate m 0).set (0 + 0) 128))] [] [(0, 16, .slice (some ⟨bE, 0, none⟩) m m), (1, 17, .pointer (some ⟨bE, 0 + 0, none⟩))] [] [] [] ?_ ?_
  · refine oc g_mv ?_
    refine oc (g_ix (fun uZ => ixB bE 0 m m 0 (by omega) uZ)) ?_
    exact oc (g_sw 0 (0 + 0) s8 (he0) (U8_set _ _ _)) on
  intro u3 HB3 sz3 K3
  simp only [fX, nK, nP, Wr.f, aK, pM] at K3
  simp only [setG, setN, List.set_cons_zero, List.set_cons_succ]
  clear HB2
  go_upto_region 4 with fail
  refine rgP K3 HB3 HB3.size [] [] [(0, 18, .int .u64 ((n : Nat) : Int)), (1, 19, .int .u64 ((nb : Nat) : Int)), (2, 5, .int .u64 ((nb : Nat) : Int))] [] [] [] ?_ ?_
  · refine oc g_mv ?_
    refine oc (g_bn (fun uZ => mul64 _ _ n 8 nb uZ enb (by omega))) ?_
    exact oc g_as on
  intro u4 HB4 sz4 K4
  simp only [fX, nK, nP, Wr.f, aK, pM] at K4
  simp only [setG, setN, List.set_cons_zero, List.set_cons_succ]
  clear K3 HB3
  go_upto_region 5 with fail
  refine rgP K4 HB4 HB4.size [] [] [(0, 20, .slice (some ⟨bE, 0, none⟩) m m), (1, 21, .int .u64 ((no : Nat) : Int)), (2, 22, .int .u64 ((n1 : Nat) : Int)), (3, 23, .slice (some ⟨bE, n1, none⟩) 8 8), (4, 24, .int .i64 8), (5, 25, (Go.Value.int Go.IntKind.i64 0))] [] [] [] ?_ ?_
  · refine oc g_mv ?_
    refine oc g_mv ?_
    refine oc (g_bn (fun uZ => add64 _ _ 1 no n1 uZ (by omega) (by omega))) ?_
    refine oc (g_sl (fun uZ => slB8 .u64 bE m n1 em uZ)) ?_
    refine oc (g_ln Tryd.underlying22) ?_
    exact oc g_mv on
  intro u5 HB5 sz5 K5
  simp only [fX, nK, nP, Wr.f, aK, pM] at K5
  simp only [setG, setN, List.set_cons_zero, List.set_cons_succ]
  clear K4 HB4
  go_wp2_with fail
  go_loopw [25] (fun s25 wr => ∃ (i : Nat), i ≤ 8 ∧ s25 = .int .i64 (i : Int) ∧ Below w.heap.size w wr ∧ Hid (CV wr bE (U8 (eL i))) ∧ bE < wr.heap.size) (fun s25 _ => 8 - (intOf s25).toNat)
  case atStart => exact ⟨0, by omega, rfl, HB5, (by rw [hE0.out]; exact (K5.cv 0)), (K5.lt 0)⟩
  case round =>
    obtain ⟨i, hi, rfl, HBr, Ke, le⟩ := hrel
    clear HB5
    by_cases hj : i < 8
    · have hl1 : decide ((i : Int) < 8) = true := by simp; omega
      have hS := hEs.out i
      have hlen := (hEB.out i).len
      obtain ⟨es, ees⟩ : ∃ es, eL i = es := ⟨_, rfl⟩
      obtain ⟨q1, eq1⟩ : ∃ q1, m - 1 = q1 := ⟨_, rfl⟩
      obtain ⟨q2, eq2⟩ : ∃ q2, m - 1 - i = q2 := ⟨_, rfl⟩
      obtain ⟨q8, eq8⟩ : ∃ q8, 8 * i = q8 := ⟨_, rfl⟩
      rw [ees] at hS hlen Ke
      have gi := U8_get es q2 (by omega)
      rw [eq2, eq8] at hS
      obtain ⟨y, ey⟩ : ∃ y, es.getD q2 0 = y := ⟨_, rfl⟩
      rw [ey] at gi
      have hS : Hid _ := hS
      clear ees ey
      have K5_2 : Bk w.heap.size wr [(true, bE, U8 (es))] := ⟨.o le (K5.lo 0) Ke.out <| trivial, by simp⟩
      go_upto_region 6 with fail
      refine rgP K5_2 HBr HBr.size [] [] [(0, 26, .bool true)] [] [] [] ?_ ?_
      · exact oc (g_bn (fun uZ => lss_i _ _ (i : Int) 8 _ uZ hl1)) on
      intro u6 HB6 sz6 K6
      simp only [fX, nK, nP, Wr.f, aK, pM] at K6
      simp only [setG, setN, List.set_cons_zero, List.set_cons_succ]
      go_upto_region 7 with fail
      refine rgP K6 HB6 HB6.size [] [] [(0, 27, .int .i64 (i : Int)), (1, 6, .int .i64 (i : Int))] [] [] [] ?_ ?_
      · refine oc g_mv ?_
        exact oc g_as on
      intro u7 HB7 sz7 K7
      simp only [fX, nK, nP, Wr.f, aK, pM] at K7
      simp only [setG, setN, List.set_cons_zero, List.set_cons_succ]
      clear K6 HB6
      go_upto_region 8 with fail
      refine rgP K7 HB7 HB7.size [.all 12 (U8 (es.set (0 + q2) (nb >>> q8 % 256)))] [] [(0, 28, .slice (some ⟨bE, 0, none⟩) m m), (1, 29, .slice (some ⟨bE, 0, none⟩) m m), (2, 30, .int .i64 (m : Int)), (3, 31, .int .i64 (q1 : Int)), (4, 32, .int .i64 (i : Int)), (5, 33, .int .i64 (q2 : Int)), (6, 34, .int .u64 ((nb : Nat) : Int)), (7, 35, .int .i64 (i : Int)), (8, 36, .int .i64 (q8 : Int)), (9, 37, .int .u64 ((nb >>> q8 : Nat) : Int)), (10, 38, .int .u8 ((nb >>> q8 % 256 : Nat) : Int)), (11, 39, .pointer (some ⟨bE, 0 + q2, none⟩))] [] [] [] ?_ ?_
      · refine oc g_mv ?_
        refine oc g_mv ?_
        refine oc (g_ln Tryd.underlying22) ?_
        refine oc (g_bn (fun uZ => sub_i _ _ (m : Int) 1 (q1 : Int) uZ (by omega) (by omega) (by omega))) ?_
        refine oc g_mv ?_
        refine oc (g_bn (fun uZ => sub_i _ _ (q1 : Int) (i : Int) (q2 : Int) uZ (by omega) (by omega) (by omega))) ?_
        refine oc g_mv ?_
        refine oc g_mv ?_
        refine oc (g_bn (fun uZ => mul_i _ _ 8 (i : Int) (q8 : Int) uZ (by omega) (by omega) (by omega))) ?_
        refine oc (g_bn (fun uZ => shr64i _ _ nb q8 uZ (by omega))) ?_
        refine oc (g_op (fun ev uZ he => cv648 uZ rfl (he _ _ rfl))) ?_
        refine oc (g_ix (fun uZ => ixB bE 0 m m q2 (by omega) uZ)) ?_
        exact oc (g_sw 0 (0 + q2) s8 (by rw [Nat.zero_add]; exact gi) (U8_set _ _ _)) on
      intro u8 HB8 sz8 K8
      simp only [fX, nK, nP, Wr.f, aK, pM] at K8
      simp only [setG, setN, List.set_cons_zero, List.set_cons_succ]
      clear K7 HB7
      go_upto_region 9 with fail
      refine rgP K8 HB8 HB8.size [] [] [(0, 40, .int .i64 ((i + 1 : Nat) : Int)), (1, 25, .int .i64 ((i + 1 : Nat) : Int))] [(1, 0)] [(1, 25)] [] ?_ ?_
      · refine oc (g_bn (fun uZ => add_i _ _ (i : Int) 1 ((i + 1 : Nat) : Int) uZ (by omega) (by omega) (by omega))) ?_
        exact oc g_mv on
      intro u9 HB9 sz9 K9
      simp only [fX, nK, nP, Wr.f, aK, pM] at K9
      simp only [setG, setN, List.set_cons_zero, List.set_cons_succ]
      clear K8 HB8
      go_wp2
      refine ⟨⟨i + 1, by omega, rfl, HB9, (by rw [hS.out]; have := (K9.cv 0); rwa [Nat.zero_add] at this), (K9.lt 0)⟩, ?_⟩
      simp [intOf] <;> omega
    · have hl1 : decide ((i : Int) < 8) = false := by simp; omega
      have hi8 : i = 8 := by omega
      subst hi8
      have K5_2 : Bk w.heap.size wr [(false, bE, U8 (eL 8))] := ⟨.c le Ke.out <| trivial, by simp⟩
      go_upto_region 6 with fail
      refine rgP K5_2 HBr HBr.size [] [] [(0, 26, .bool false)] [] [] [] ?_ ?_
      · exact oc (g_bn (fun uZ => lss_i _ _ ((8 : Nat) : Int) 8 _ uZ hl1)) on
      intro u6 HB6 sz6 K6
      simp only [fX, nK, nP, Wr.f, aK, pM] at K6
      simp only [setG, setN, List.set_cons_zero, List.set_cons_succ]
      go_upto_region 10 with fail
      refine rgP K6 HB6 HB6.size [] [] [(0, 41, .slice (some ⟨bE, 0, none⟩) m m), (1, 2, .slice (some ⟨bE, 0, none⟩) m m)] [] [] [] ?_ ?_
      · refine oc g_mv ?_
        exact oc g_as on
      intro u7 HB7 sz7 K7
      simp only [fX, nK, nP, Wr.f, aK, pM] at K7
      simp only [setG, setN, List.set_cons_zero, List.set_cons_succ]
      clear K6 HB6
      go_wp2
      refine bodyPost_ret (v := .slice (some ⟨bE, 0, none⟩) m m) (by simp [results, Tryd.results41, go_sem]) rfl ⟨_, rfl, ⟨bE, rfl, hbE, K7.lt 0, K7.cv 0⟩, HB7⟩
theorem cEnding (n : Nat) (w : World) (hn : n < 1152921504606846976) : Calls Tryd.prog 41 #[.int .u64 ((n : Nat) : Int)] w fun e w' => ∃ v, e = .returned v ∧ PF w.heap.size (nou n + 9) (U8 (ending n)) w' v ∧ Below w.heap.size w w' :=
  cEnding_core n (nou n) _ _ (18446744073709551616 - (n + 9)) _ (nou n + 9) _ (enL n) w hn (Nat.mod_lt _ (by decide)) rfl rfl (by omega) (fun u => neg64 (n + 9) u (by omega) (by omega)) rfl rfl rfl rfl rfl (fun _ => rfl) (enL_B n)
end Go.Proofs.YtbgdcgboomdimaaDoor
