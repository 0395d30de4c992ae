/- Noughts appended; calls that know the blocks. -/
import Derived.Test.YtbgdcgboomdimaaDoorMP1
import Derived.Test.YtbgdcgboomdimaaDoorSR
import Derived.Lib.AppendZerosOnto
namespace Go.Proofs.YtbgdcgboomdimaaDoor
open Go.RowKit
set_option linter.unusedVariables false
set_option linter.unusedSimpArgs false
theorem zc8 (z : Nat) : Builtin.zeroCells (Value.int .u8 0).cells z = (U8 (List.replicate z 0)).toArray := by
  apply Array.ext'
  apply List.ext_getElem
  · rw [Array.length_toList, size_zeroCells]; simp [U8, Value.cells]
  · intro j h1 h2
    simp [Builtin.zeroCells, Value.cells, U8, Nat.mod_one]
theorem run_appZ (u : World) {ty : TypeId} {lo n z : Nat} {xs : List Value} {vs : Value} (hxl : xs.length = n) (h : PG lo 1 n xs u vs) (hlo : lo ≤ u.heap.size) (hb : n + z ≤ 1000000) :
    ∃ v u' b, (Builtin.append_ #[22, 3] ty #[vs, .int .i64 (z : Int)]).run Tryd.prog u = .ok v u' ∧ lo ≤ b ∧ u.grownBy u' (some b) ∧ PG lo 1 (n + z) (xs ++ U8 (List.replicate z 0)) u' v := by
  obtain ⟨b, cap, zs, rfl, h1, h2, h3, h4, h5⟩ := h
  obtain ⟨i, hi, hi2⟩ := Option.map_eq_some_iff.1 infoB
  simp only [Prod.mk.injEq] at hi2
  obtain ⟨hz, hs, hby⟩ := hi2
  rw [Nat.mul_one] at h4
  have hw : IntKind.i64.wrap (z : Int) = z := by rw [IntKind.wrap_i64]; omega
  have hneg : ¬ ((z : Int) < 0) := by omega
  have h48i : ¬ (281474976710656 < (z : Int)) := by omega
  have hul : (U8 (List.replicate z 0)).length = z := by rw [U8_len, List.length_replicate]
  by_cases hr : n + z ≤ cap
  · by_cases hz0 : z = 0
    · subst hz0
      refine ⟨.slice (some ⟨b, 0, none⟩) n cap, u, b, ?_, h1, World.grownBy.refl _ _, b, cap, zs, rfl, h1, h2, h3, by omega, by simpa [U8] using h5⟩
      have hw0 : IntKind.i64.wrap (0 : Int) = 0 := by rw [IntKind.wrap_i64]; omega
      simp [Builtin.append_, run_underlying Tryd.underlying22, run_underlying Tryd.underlying3, sizeOf, typeInfo, zeroValue, hi, hz, hs, hby, asInt, asIntOf, hw0, h3, storeCells]
    · have hst := run_storeCells_cells (P := Tryd.prog) b n (U8 (List.replicate z 0)) 0 u (fun j hj => by
        rw [Nat.add_zero, (h5 (n + j) _ (List.getElem?_eq_getElem (by rw [List.length_append]; omega))).1]; rfl) (fun j hj => by
        rw [Nat.add_zero]; exact (h5 (n + j) _ (List.getElem?_eq_getElem (by rw [List.length_append]; omega))).2) U8_mem
      rw [Nat.add_zero] at hst
      refine ⟨.slice (some ⟨b, 0, none⟩) (n + z) cap, u.setCells b n (U8 (List.replicate z 0)), b, ?_, h1, grown_setCells _ _ _ _, b, cap, zs.drop z, rfl, h1, by rw [size_setCells]; exact h2, hr, by rw [List.length_drop]; omega, ?_⟩
      · simp [Builtin.append_, run_underlying Tryd.underlying22, run_underlying Tryd.underlying3, sizeOf, typeInfo, zeroValue, hi, hz, hs, hby, asInt, asIntOf, hw, hneg, h48i, hr, hz0, zc8, Addr.add_lit, hst]
      · have h6 : CV u b (xs ++ zs.take z ++ zs.drop z) := by rw [List.append_assoc, List.take_append_drop]; exact h5
        exact h6.mid hxl (by rw [hul, List.length_take]; omega)
  · have hold := run_firstCells_some (P := Tryd.prog) u.drew i.size n ⟨b, 0, none⟩ n cap xs (by rw [hs]; omega) (fun j v hj => by
      rw [Addr.add0]
      have := (h5.pre2 j v hj).1
      simpa using this)
    have h := Lib.run_append_grow_zeros (P := Tryd.prog) u 22 3 ty 5 i (.int .u8 0) .i64 .i64 Tryd.underlying22 Tryd.underlying3 hi hz (some ⟨b, 0, none⟩) n cap xs hold z (by omega) (by omega) (by omega) (by omega) (by rw [hby]; omega) (growslice_fits (by omega) (by rw [hby]; omega))
    have hB : Below u.heap.size u (u.drew.alloc (.cells (xs.toArray ++ Builtin.zeroCells (Value.int .u8 0).cells z ++ Builtin.zeroCells (Value.int .u8 0).cells (grownCap u (n + z) cap 5 - (n + z))) 5)) := balloc (bself u).drew _
    refine ⟨_, _, u.heap.size, h, hlo, (below_grown hB).but _, u.heap.size, _, (Builtin.zeroCells (Value.int .u8 0).cells (grownCap u (n + z) cap 5 - (n + z))).toList, rfl, hlo, by simp, grownCap_ge u (n + z) cap 5, by rw [Array.length_toList, size_zeroCells]; simp [Value.cells], ?_⟩
    have e1 : xs.toArray ++ Builtin.zeroCells (Value.int .u8 0).cells z ++ Builtin.zeroCells (Value.int .u8 0).cells (grownCap u (n + z) cap 5 - (n + z)) = (xs ++ U8 (List.replicate z 0) ++ (Builtin.zeroCells (Value.int .u8 0).cells (grownCap u (n + z) cap 5 - (n + z))).toList).toArray := by
      rw [zc8 z]; apply Array.ext'; simp
    rw [e1]; exact CV.new u.drew _ 5
section
variable {R : Rg} {P : Program} {ops : Array Oper} {Q : Exit → Act → World → Prop} {f : Nat → Bool} {t : Nat → Value} {u : World} {a : Act} {i : Nat} {o : Oper}
theorem wp_app2 {K : Act → World → Prop} {s x : Operand} {T T2 : TypeId} {vs vx v : Value} {w' : World} (ho : o.op = .call { callee := .builtin .append, args := [s, x].toArray, argTypes := [T, T2].toArray }) (hs : a.eval s = vs) (hx : a.eval x = vx) (hr : (Builtin.append_ #[T, T2] o.type #[vs, vx]).run P u = .ok v w') (hk : K (a.put o.dst v) w') : o.wp P a u K Q := by
  unfold Oper.wp execOp
  simp only [ho, resolve, invoke, builtin, Sem.run_bind, Sem.run_pure, Result.andThen_ok, List.map_toArray, List.map_cons, List.map_nil, hs, hx, hr]
  exact hk
/-- An append onto such a value, that may write it, where there is nothing else new. -/
theorem g_aZ (m n : Nat) (p p' : World → Value → Prop) {T T2 : TypeId} {j d : Nat} {x : Operand} {vx : Value} (hp : ∀ (f : Nat → Bool) (u : World) (vs : Value), KC f u R.lo R.base R.es → Below R.lo R.w u → R.base ≤ u.heap.size → p u vs → ∃ v u' b, (Builtin.append_ #[T, T2] o.type #[vs, vx]).run P u = .ok v u' ∧ R.base ≤ b ∧ u.grownBy u' (some b) ∧ p' u' v) (hop : o.op = .call { callee := .builtin .append, args := [.tmp d, x].toArray, argTypes := [T, T2].toArray } := by rfl) (hm : R.E[m]? = some ⟨j, d, some i, p⟩ := by rfl) (hn0 : (R.E[n]?).map (·.p) = some p' := by rfl) (hx : evR R i o x = some vx := by rfl) (hw0 : R.nw = [] := by rfl)
    (hd : (hasDep o j && R.S.contains d && ((R.E.eraseIdx n).all (eGone R.O i o))) = true := by rfl) (hc : R.chkE ops n i o = true := by rfl) : OG R P ops Q i o := fun f t u a X => by
  rw [Bool.and_eq_true, Bool.and_eq_true, List.contains_iff_mem] at hd
  obtain ⟨⟨h2, h4⟩, h5⟩ := hd
  obtain ⟨d', q', hd', hq', ⟨e1, e2⟩, k1, k2, k3, k4, k5, k6, k7, hw⟩ := chkE_parts hc
  have hv : p u (t d) := X.val hm h2 rfl
  obtain ⟨v, u', b, hr, hb, hg, hn⟩ := hp f u (t d) X.I.2.1 X.I.1.bel X.I.1.sz hv
  refine X.go hw fun K hK => wp_app2 hop (X.inS h4) (X.ev hx) hr (hK _ _ ⟨updT t d' v, by rw [hd']; exact X.F.put X.parts.1 k3 v, ?_, KC.free k7 (KC.grown hg hb X.I.1.sz X.I.2.1), Gs.other k1 X.I.2.2.1, okO_spec k6 X.I.2.2.2.1 X.dep, Ns.step X.I.2.2.2.2.1 k2, ?_⟩)
  · have hM := X.I.1
    rw [hw0] at hM ⊢
    exact { bel := hM.bel.grown hg (Nat.le_trans hM.lo hM.sz) (fun k e => by cases e; exact Nat.le_trans hM.lo hb), lo := hM.lo, sz := Nat.le_trans hM.sz hg.size, ks := trivial, ex := trivial, nw := trivial, nd := trivial }
  · exact Es.last (O := R.O) (fun j hj => X.later (by unfold Rg.later; rw [hj]; simp)) X.dep (by rw [hq', ← e1, ← e2]) h5 (by rw [hq'] at hn0; cases hn0; exact hn)
/-- A call of a known value and such a value, that knows the blocks. -/
theorem g_cL (m : Nat) (p : World → Value → Prop) {N : FuncId} {j d : Nat} {x : Operand} {tys : Array TypeId} {vx v : Value} (hr : ∀ (vs : Array Value) (w : World), (callFunc N vs).run P w = .ok (.enter N vs) w)
    (hcall : ∀ (f : Nat → Bool) (w : World) (y : Value), KC f w R.lo R.base R.es → R.base ≤ w.heap.size → Below R.lo R.w w → p w y → Calls P N #[vx, y] w fun e w' => e = .returned v ∧ Below w.heap.size w w') (hop : o.op = .call { callee := .value (.func N), args := [x, .tmp d].toArray, argTypes := tys } := by rfl) (hm : R.E[m]? = some ⟨j, d, some i, p⟩ := by rfl) (hx : evR R i o x = some vx := by rfl) (hd : (hasDep o j && R.S.contains d) = true := by rfl) (hv : some v = pickV i R.G := by rfl) (hc : R.chk ops i o = true := by rfl) : OG R P ops Q i o := fun f t u a X => by
  rw [Bool.and_eq_true, List.contains_iff_mem] at hd
  obtain ⟨h2, h4⟩ := hd
  have hy : p u (t d) := X.val hm h2 rfl
  exact X.go (chk_parts hc).choose_spec.2.2.2.2.2.2.2 fun K hK => wp_callF (vs := [vx, t d]) hop (by rw [List.map_cons, List.map_cons, List.map_nil, X.ev hx, X.inS h4]) hr (hcall f u (t d) X.I.2.1 X.I.1.sz X.I.1.bel hy) fun w' hB => hK _ _ (X.put hv hc (X.I.1.call hB) (X.I.2.1.below hB X.I.1.sz) hB)
end
/-- Noughts behind a short key. -/
theorem whl_zeros (ks : List Nat) (z : Nat) (h : ks.length + z ≤ 64) : whl (ks ++ List.replicate z 0) = whl ks := by
  have e1 : whk (ks ++ List.replicate z 0) = ks ++ List.replicate z 0 := by unfold whk; rw [if_neg (by rw [List.length_append, List.length_replicate]; omega)]
  have e2 : whk ks = ks := by unfold whk; rw [if_neg (by omega)]
  unfold whl
  rw [e1, e2, List.length_append, List.length_replicate, List.append_assoc, List.replicate_append_replicate]
  congr 2
  omega
end Go.Proofs.YtbgdcgboomdimaaDoor
