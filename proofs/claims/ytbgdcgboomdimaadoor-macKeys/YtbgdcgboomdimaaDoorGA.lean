/- Appends onto a row of one's own, room or not: what comes of them. -/
import Derived.Test.YtbgdcgboomdimaaDoorGR
import Derived.Deep.Upon
namespace Go.Proofs.YtbgdcgboomdimaaDoor
open Go.RowKit
set_option linter.unusedVariables false
set_option linter.unusedSimpArgs false
theorem Addr.add0 (b j : Nat) : (⟨b, 0, none⟩ : Addr).add j = ⟨b, j, none⟩ := by unfold Addr.add; split <;> simp_all
theorem Addr.addo (b o j : Nat) : (⟨b, o, none⟩ : Addr).add j = ⟨b, o + j, none⟩ := by unfold Addr.add; split <;> simp_all
/-- A slice of m values whose cells are these. -/
def NW (m : Nat) (news : List Value) (u : World) (y : Value) : Prop := ∃ sl c, y = .slice sl m c ∧ (m = 0 ∨ ∃ ad, sl = some ad ∧ ∀ j v, news[j]? = some v → u.cell? (ad.add j) = some v)
/-- A row that is the old one, or a new one. -/
def PH (base b0 s n : Nat) (xs : List Value) (u : World) (v : Value) : Prop := ∃ b cap zs, v = .slice (some ⟨b, 0, none⟩) n cap ∧ (b = b0 ∨ base ≤ b) ∧ b < u.heap.size ∧ n ≤ cap ∧ zs.length = (cap - n) * s ∧ CV u b (xs ++ zs)
theorem PH.stab {base b0 s n : Nat} {xs : List Value} {u v : World} {x : Value} (hB : Below u.heap.size u v) (h : PH base b0 s n xs u x) : PH base b0 s n xs v x := by
  obtain ⟨b, cap, zs, e, h1, h2, h3, h4, h5⟩ := h
  exact ⟨b, cap, zs, e, h1, Nat.lt_of_lt_of_le h2 hB.size, h3, h4, h5.below hB h2⟩
theorem grown_setCells (u : World) (b o : Nat) (vs : List Value) : u.grownBy (u.setCells b o vs) (some b) := by
  have h : Below (min b u.heap.size) u (u.setCells b o vs) := below_setCells (Nat.min_le_left _ _) _ _ _ (Below.refl _ _)
  refine ⟨h.os, h.tape, h.output, by rw [size_setCells]; exact Nat.le_refl _, fun k hk hne => ?_⟩
  exact World.heap_setCells_other u b o vs hk (fun e => hne (by rw [e]))
section
variable {P : Program}
end
section
variable {R : Rg} {P : Program} {ops : Array Oper} {Q : Exit → Act → World → Prop} {f : Nat → Bool} {t : Nat → Value} {u : World} {a : Act} {i : Nat} {o : Oper}
theorem KC.grown {u u' : World} {lo base b : Nat} (hg : u.grownBy u' (some b)) (hb : base ≤ b) (hsz : base ≤ u.heap.size) : ∀ {es : List Ent}, KC f u lo base es → KC f u' lo base es
  | [], _ => trivial
  | y :: ys, h => ⟨⟨h.1.1, h.1.2.1, fun j x hj => by
      have hk : u'.heap[y.2.1]? = u.heap[y.2.1]? := hg.block _ (Nat.lt_of_lt_of_le h.1.1 hsz) (fun e => by cases e; have := h.1.1; omega)
      rw [World.cell?_of_block (a := ⟨y.2.1, j, none⟩) hk, World.frozen?_of_block (a := ⟨y.2.1, j, none⟩) hk]
      exact h.1.2.2 j x hj⟩, KC.grown hg hb hsz h.2⟩
/-- An operand, where one slot holds y. -/
def ev1 (R : Rg) (i : Nat) (o : Oper) (d : Nat) (y : Value) (x : Operand) : Option Value :=
  match x with
  | .tmp k => bif Nat.beq k d then some y else evR R i o (.tmp k)
  | x => evR R i o x
theorem ev1_spec (X : Xs R ops f t u a i o) {d : Nat} (h4 : d ∈ R.S) {x : Operand} {v : Value} (h : ev1 R i o d (t d) x = some v) : a.eval x = v := by
  unfold ev1 at h
  split at h
  · rename_i k
    cases e : Nat.beq k d with
    | true =>
      rw [e] at h
      have e := Nat.eq_of_beq_eq_true e
      subst e
      cases h
      exact X.inS h4
    | false => rw [e] at h; exact X.ev h
  · exact X.ev h
theorem evs1 (X : Xs R ops f t u a i o) {d : Nat} (h4 : d ∈ R.S) : ∀ {xs : List Operand} {vs : List Value}, xs.mapM (ev1 R i o d (t d)) = some vs → xs.map a.eval = vs
  | [], vs, h => by simp at h; subst h; rfl
  | x :: xs, vs, h => by
    simp only [List.mapM_cons, Option.bind_eq_bind, Option.bind_eq_some_iff, Option.pure_def, Option.some.injEq] at h
    obtain ⟨v, hv, vs', hvs, rfl⟩ := h
    rw [List.map_cons, ev1_spec X h4 hv, evs1 X h4 hvs]
/-- A slice built of values, one of which is such a value. -/
theorem g_bY (m n : Nat) (p p' : World → Value → Prop) {T e : TypeId} {j d k : Nat} {xs : List (Nat × Operand)} (ks : List Nat) (vs : Value → List Value) (hr : ∀ w y, p w y → (Instr.buildSlice T k (ks.zip (vs y)).toArray).run P w = .ok (.slice (some ⟨w.heap.size, 0, none⟩) k k) (w.alloc (.cells (vs y).toArray e))) (hp : ∀ (f : Nat → Bool) (u : World) (y : Value), KC f u R.lo R.base R.es → Below R.lo R.w u → R.base ≤ u.heap.size → p u y → p' (u.alloc (.cells (vs y).toArray e)) (.slice (some ⟨u.heap.size, 0, none⟩) k k)) (hop : o.op = .buildSlice T k xs.toArray := by rfl) (hks : xs.map Prod.fst = ks := by rfl) (hm : R.E[m]? = some ⟨j, d, some i, p⟩ := by rfl)
    (hx : ∀ y, (xs.map Prod.snd).mapM (ev1 R i o d y) = some (vs y) := by intro y; rfl) (hd : (hasDep o j && R.S.contains d) = true := by rfl) (hn : (R.E[n]?).map (·.p) = some p' := by rfl) (hc : R.chkE ops n i o = true := by rfl) : OG R P ops Q i o := fun f t u a X => by
  rw [Bool.and_eq_true, List.contains_iff_mem] at hd
  obtain ⟨h2, h4⟩ := hd
  obtain ⟨d', q, hd', hq, _, _, _, _, _, _, _, _, hw⟩ := chkE_parts hc
  have hv : p u (t d) := X.val hm h2 rfl
  exact X.go hw fun K hK => wp_bS hop (evs1 X h4 (hx (t d))) (by rw [hks]; exact hr u (t d) hv) (hK _ _ (X.putE hc (fun q hq => by rw [hq] at hn; cases hn; exact hp f u (t d) X.I.2.1 X.I.1.bel X.I.1.sz hv) (balloc (bself u) _)))
/-- A call that knows both the blocks and what came in. -/
theorem g_cK {N : FuncId} {args : List Operand} {tys : Array TypeId} {vs : List Value} {v : Value} (hr : ∀ (vs : Array Value) (w : World), (callFunc N vs).run P w = .ok (.enter N vs) w)
    (hcall : ∀ f w, KC f w R.lo R.base R.es → R.base ≤ w.heap.size → Below R.lo R.w w → Calls P N vs.toArray w fun e w' => e = .returned v ∧ Below w.heap.size w w') (hop : o.op = .call { callee := .value (.func N), args := args.toArray, argTypes := tys } := by rfl) (hx : args.mapM (evR R i o) = some vs := by rfl) (hv : some v = pickV i R.G := by rfl) (hc : R.chk ops i o = true := by rfl) : OG R P ops Q i o := fun f t u a X =>
  X.go (chk_parts hc).choose_spec.2.2.2.2.2.2.2 fun K hK => wp_callF hop (X.evs hx) hr (hcall f u X.I.2.1 X.I.1.sz X.I.1.bel) fun w' hB => hK _ _ (X.put hv hc (X.I.1.call hB) (X.I.2.1.below hB X.I.1.sz) hB)
end
end Go.Proofs.YtbgdcgboomdimaaDoor
namespace Go.Proofs.YtbgdcgboomdimaaDoor
open Go.RowKit
set_option linter.unusedVariables false
set_option linter.unusedSimpArgs false
/-- An append onto a row that is full: all there was stays as it was. -/
theorem run_appF {P : Program} (w : World) {T ty e : TypeId} {ti : TypeInfo} {z : Value} (ht : P.underlying T = some (.slice e)) (hi : P.info? e = some ti) (hz : ti.zero = some z) (hzs : z.cells.size = ti.size) {lo b n m : Nat} {xs news : List Value} {y : Value} (hcv : CV w b xs) (hlo : lo ≤ b) (hlo2 : lo ≤ w.heap.size) (hlt : b < w.heap.size) (hx : xs.length = n * ti.size) (hy : NW m news w y) (hl : news.length = m * ti.size) (hb : (n + m) * ti.bytes ≤ 140737488355328) (h63 : n + m ≤ 9223372036854775807) :
    ∃ v' w', (Builtin.append_ #[T, T] ty #[.slice (some ⟨b, 0, none⟩) n n, y]).run P w = .ok v' w' ∧ Below w.heap.size w w' ∧ PG lo ti.size (n + m) (xs ++ news) w' v' := by
  obtain ⟨sl, c, rfl, hy⟩ := hy
  by_cases hm : m = 0
  · subst hm
    have hn0 : news = [] := List.eq_nil_of_length_eq_zero (by omega)
    subst hn0
    refine ⟨.slice (some ⟨b, 0, none⟩) n n, w, ?_, Below.refl _ _, b, n, [], rfl, hlo, hlt, Nat.le_refl _, by simp, by simpa using hcv⟩
    have hf : (Builtin.firstCells ti.size 0 (.slice sl 0 c)).run P w = .ok #[] w := by
      cases sl with
      | none => exact run_firstCells_none (P := P) w ti.size 0 0 c
      | some ad => exact run_firstCells_some (P := P) w ti.size 0 ad 0 c [] (by simp) (fun j v h => by simp at h)
    simp [Builtin.append_, run_underlying ht, sizeOf, typeInfo, hi, Builtin.lenOf, hf, storeCells]
  · obtain ⟨ad, rfl, hnews⟩ := hy.resolve_left hm
    have h := run_append_grow (P := P) w T ty e ti z ht hi hz ⟨b, 0, none⟩ n n xs hx (fun j v hj => by rw [Addr.add0]; exact (hcv j v hj).1) ad m c news hl hnews (by omega) (by omega) (growslice_fits (by omega) hb)
    refine ⟨_, _, h, balloc (bself w).drew _, w.heap.size, _, (Builtin.zeroCells z.cells (grownCap w (n + m) n e - (n + m))).toList, rfl, hlo2, by simp, grownCap_ge w (n + m) n e, by rw [Array.length_toList, size_zeroCells, hzs], ?_⟩
    have e1 : xs.toArray ++ news.toArray ++ Builtin.zeroCells z.cells (grownCap w (n + m) n e - (n + m)) = (xs ++ news ++ (Builtin.zeroCells z.cells (grownCap w (n + m) n e - (n + m))).toList).toArray := by apply Array.ext'; simp
    rw [e1]; exact CV.new w.drew _ e
end Go.Proofs.YtbgdcgboomdimaaDoor
