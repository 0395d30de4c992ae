import Derived.Test.YtkpnjmfndgfogaaRC
import Derived.Laws.Append
import Derived.Laws.AppendOwn
/- Regions by one record: slices of numbers that came in. -/
namespace Go.Proofs.Ytkpnjmfndgfogaa
open Go.RowKit
set_option linter.unusedVariables false
set_option linter.unusedSimpArgs false
/-- The cells of numbers, one behind the other. -/
def flN : List Int → List Value
  | [] => []
  | n :: r => LN n ++ flN r
/-- The numbers ns lie from o on in block g. -/
def SN (w : World) (g o : Nat) (ns : List Int) : Prop := ∀ j v, (flN ns)[j]? = some v → w.cell? ⟨g, o + j, none⟩ = some v
theorem SN.below {w w' : World} {m g o : Nat} {ns : List Int} (h : SN w g o ns) (hb : Below m w w') (hg : g < m) : SN w' g o ns := fun j v hj => (hb.cell (p := ⟨g, o + j, none⟩) hg).trans (h j v hj)
theorem SN.empty {w : World} {g o : Nat} {ns : List Int} (h : ns.length = 0) : SN w g o ns := fun j v hj => by
  have e : ns = [] := List.eq_nil_of_length_eq_zero h
  subst e; simp [flN] at hj
theorem SN.below2 {w w' : World} {m g o : Nat} {ns : List Int} (h : SN w g o ns) (hb : Below m w w') (hg : ns.length = 0 ∨ g < m) : SN w' g o ns := by
  rcases hg with e | hg
  · exact SN.empty e
  · exact h.below hb hg
theorem flN_len : ∀ ns : List Int, (flN ns).length = 4 * ns.length
  | [] => rfl
  | n :: r => by rw [flN, List.length_append, flN_len r, List.length_cons]; simp; omega
theorem flN_get : ∀ (ns : List Int) (j c : Nat) (v : Value), j < ns.length → (LN (ns.getD j 0))[c]? = some v → (flN ns)[4 * j + c]? = some v
  | [], j, c, v, h, _ => by simp at h
  | n :: r, 0, c, v, h, e => by
    rw [flN, List.getElem?_append_left]
    · simpa using e
    · have := (List.getElem?_eq_some_iff.1 e).1
      simpa using this
  | n :: r, j + 1, c, v, h, e => by
    rw [flN, List.getElem?_append_right (by simp; omega)]
    have := flN_get r j c v (by simpa using h) (by simpa using e)
    simpa [show 4 * (j + 1) + c - 4 = 4 * j + c by omega] using this
theorem SN.at {w : World} {g o : Nat} {ns : List Int} (h : SN w g o ns) (j : Nat) (hj : j < ns.length) : w.rangeAt g (o + 4 * j) (LN (ns.getD j 0)) := fun c v hc => by
  have := h (4 * j + c) v (flN_get ns j c v hj hc)
  rwa [← Nat.add_assoc] at this
section
variable {R : Rg} {P : Program} {ops : Array Oper} {Q : Exit → Act → World → Prop} {i : Nat} {o : Oper}
/-- A load of a row that came in. -/
theorem g_lf {T : TypeId} {x : Operand} {b k : Nat} {cs : List Value} {dd : TypeDesc} (hc0 : R.w.rangeAt b k cs) (hb : b < R.lo) (hu : P.underlying T = some dd) (hi : (P.info? T).map (·.size) = some cs.length) (hop : o.op = .load T x := by rfl) (hx : evR R i o x = some (.pointer (some ⟨b, k, none⟩)) := by rfl)
    (hr : dd.isRow = true := by rfl) (hv : some (.agg cs.toArray) = pickV i R.G := by rfl) (hc : R.chk ops i o = true := by rfl) : OG R P ops Q i o :=
  g_pure hv hc fun f t u a X K hK => wp_load_mid T x hop b k (X.ev hx) cs dd (fun j v hj => (X.I.1.bel.cell (p := ⟨b, k + j, none⟩) hb).trans (hc0 j v hj)) hu hr hi hK
/-- A call that asks for what came in. -/
theorem g_cb {N : FuncId} {args : List Operand} {tys : Array TypeId} {vs : List Value} {v : Value} (hr : ∀ (vs : Array Value) (w : World), (callFunc N vs).run P w = .ok (.enter N vs) w)
    (hcall : ∀ w, Below R.lo R.w w → Calls P N vs.toArray w fun e w' => e = .returned v ∧ Below w.heap.size w w') (hop : o.op = .call { callee := .value (.func N), args := args.toArray, argTypes := tys } := by rfl) (hx : args.mapM (evR R i o) = some vs := by rfl) (hv : some v = pickV i R.G := by rfl) (hc : R.chk ops i o = true := by rfl) : OG R P ops Q i o := fun f t u a X =>
  X.go (chk_parts hc).choose_spec.2.2.2.2.2.2.2 fun K hK => wp_callF hop (X.evs hx) hr (hcall u X.I.1.bel) fun w' hB => hK _ _ (X.put hv hc (X.I.1.call hB) (X.I.2.1.below hB X.I.1.sz) hB)
/-- The length of a slice. -/
theorem g_ln {x : Operand} {T e : TypeId} {sl : Option Addr} {n cap : Nat} (hT : P.underlying T = some (.slice e)) (hop : o.op = .call { callee := .builtin .len, args := [x].toArray, argTypes := [T].toArray } := by rfl) (hx : evR R i o x = some (.slice sl n cap) := by rfl) (hv : some (.int .i64 (n : Int)) = pickV i R.G := by rfl) (hc : R.chk ops i o = true := by rfl) : OG R P ops Q i o :=
  g_pure hv hc fun f t u a X K hK => by
    have h := X.ev hx
    refine wp_val (v := .int .i64 (n : Int)) (w' := u) ?_ hK
    unfold execOp
    simp only [hop, resolve, invoke, builtin, Sem.run_bind, Sem.run_pure, Result.andThen_ok, List.map_toArray, List.map_cons, List.map_nil, h]
    cases sl <;> simp [Builtin.len_, goInt, run_underlying hT]
end
theorem ixS (g o n cap j : Nat) (h : j < n) (w : World) : (Instr.indexAt 39 (.slice (some ⟨g, o, none⟩) n cap) (.int .i64 j)).run Try.prog w = .ok (.pointer (some ⟨g, o + 4 * j, none⟩)) w := by
  have h2 : (j : Int) < n := by omega
  go_simp
end Go.Proofs.Ytkpnjmfndgfogaa

/- Regions by one record: copies of slices of numbers. -/
namespace Go.Proofs.Ytkpnjmfndgfogaa
open Go.RowKit
set_option linter.unusedVariables false
set_option linter.unusedSimpArgs false
theorem Es.get {f : Nat → Bool} {t : Nat → Value} {u : World} {q : En} : ∀ {E : List En} {n : Nat}, Es f t u E → E[n]? = some q → f q.i = true → (∀ c, q.c = some c → f c = false) → q.p u (t q.d)
  | [], n, _, h, _, _ => by simp at h
  | x :: r, 0, h, e, h1, h2 => by simp at e; subst e; exact h.1 h1 h2
  | x :: r, n + 1, h, e, h1, h2 => Es.get (E := r) (n := n) h.2 (by simpa using e) h1 h2
/-- It is used up, or is now. -/
def eGone (O : List (Nat × Nat)) (i : Nat) (o : Oper) (q : En) : Bool := q.i != i && ((match q.c with | some c => (c == i || hasDep o c) | none => false) || O.any fun p => p.1 == q.i && p.2 == i)
theorem Es.gone {O : List (Nat × Nat)} {f : Nat → Bool} {t : Nat → Value} {v : World} {i : Nat} {o : Oper} (hL : ∀ j, (O.any fun p => p.1 == j && p.2 == i) = true → f j = false) (dep : ∀ e ∈ o.after, Region.binds .any e = true → f e.on = true) : ∀ {E : List En}, (E.all (eGone O i o)) = true → Es (updF f i) t v E
  | [], _ => trivial
  | z :: r, h5 => by
    rw [List.all_cons, Bool.and_eq_true] at h5
    refine ⟨fun g1 g2 => ?_, Es.gone hL dep h5.2⟩
    exfalso
    have h5' := h5.1
    unfold eGone at h5'
    rw [Bool.and_eq_true] at h5'
    have hne : z.i ≠ i := by simpa using h5'.1
    rw [updF_ne hne] at g1
    have h6 := h5'.2
    rw [Bool.or_eq_true] at h6
    rcases h6 with h6 | h6
    rotate_left
    · rw [hL _ h6] at g1; cases g1
    cases hzc : z.c with
    | none => rw [hzc] at h6; simp at h6
    | some c =>
      rw [hzc] at h6
      have g3 := g2 c hzc
      simp only [Bool.or_eq_true, beq_iff_eq] at h6
      rcases h6 with e | e
      · subst e; rw [updF_eq] at g3; cases g3
      · by_cases ec : c = i
        · subst ec; rw [updF_eq] at g3; cases g3
        · rw [updF_ne ec, hasDep_spec e dep] at g3; cases g3
theorem Es.last {O : List (Nat × Nat)} {f : Nat → Bool} {t : Nat → Value} {v : World} {i d : Nat} {o : Oper} {x : Value} {c : Option Nat} {p : World → Value → Prop} (hL : ∀ j, (O.any fun p => p.1 == j && p.2 == i) = true → f j = false) (dep : ∀ e ∈ o.after, Region.binds .any e = true → f e.on = true) : ∀ {E : List En} {n : Nat}, E[n]? = some ⟨i, d, c, p⟩ → ((E.eraseIdx n).all (eGone O i o)) = true → p v x → Es (updF f i) (updT t d x) v E
  | [], n, h, _, _ => by simp at h
  | q :: r, 0, h, hx, hp => by
    simp at h; subst h
    simp only [List.eraseIdx_cons_zero] at hx
    exact ⟨fun _ _ => by simpa [updT] using hp, Es.gone hL dep hx⟩
  | q :: r, n + 1, h, hx, hp => by
    simp only [List.eraseIdx_cons_succ] at hx
    rw [List.all_cons, Bool.and_eq_true] at hx
    have g := Es.gone (t := updT t d x) (v := v) hL dep (E := [q]) (by rw [List.all_cons, hx.1]; rfl)
    exact ⟨g.1, Es.last hL dep (E := r) (n := n) (by simpa using h) hx.2 hp⟩
/-- Others are free of it. -/
def eOther (i d : Nat) (q : En) : Bool := q.i != i && q.d != d
theorem Es.new {f : Nat → Bool} {t : Nat → Value} {u v : World} {i d : Nat} {x : Value} (hB : Below u.heap.size u v) : ∀ {E : List En} {n : Nat} {c : Option Nat} {p : World → Value → Prop}, Stab E → E[n]? = some ⟨i, d, c, p⟩ → ((E.eraseIdx n).all (eOther i d)) = true → p v x → Es f t u E → Es (updF f i) (updT t d x) v E
  | [], n, c, p, _, h, _, _, _ => by simp at h
  | q :: r, 0, c, p, hs, e, hx, hp, h => by
    simp at e; subst e
    simp only [List.eraseIdx_cons_zero] at hx
    refine ⟨fun _ _ => by simpa [updT] using hp, Es.step hB (fun q hq => hs q (List.mem_cons_of_mem _ hq)) (by unfold eFree; exact hx) h.2⟩
  | q :: r, n + 1, c, p, hs, e, hx, hp, h => by
    simp only [List.eraseIdx_cons_succ, List.all_cons, Bool.and_eq_true] at hx
    have h1 := Es.step (E := [q]) (f := f) (t := t) (x := x) (i := i) (d := d) hB (fun q' hq => hs q' (by simp at hq; subst hq; exact List.mem_cons_self)) (by unfold eFree; simpa [eOther] using hx.1) ⟨h.1, trivial⟩
    exact ⟨h1.1, Es.new hB (E := r) (n := n) (fun q hq => hs q (List.mem_cons_of_mem _ hq)) (by simpa using e) hx.2 hp h.2⟩
/-- What is asked of an operation that makes such a value, the n-th. -/
def Rg.chkE (R : Rg) (ops : Array Oper) (n i : Nat) (o : Oper) : Bool :=
  (match o.dst, R.E[n]? with | some d, some q => q.i == i && q.d == d && owns i d R.G && apart i d R.Ns && R.S.contains d && (R.nw.all fun q => q.1 != i && q.2.1 != d && (match q.2.2.2 with | none => true | some p => p.1 != i)) && ((R.E.eraseIdx n).all (eOther i d)) | _, _ => false)
  && R.okO i o && (R.es.all fun q => q.2.2.2.free i) && (wants R ops o == some true)
section
variable {R : Rg} {P : Program} {ops : Array Oper} {Q : Exit → Act → World → Prop} {f : Nat → Bool} {t : Nat → Value} {u : World} {a : Act} {i : Nat} {o : Oper}
theorem chkE_parts {n : Nat} (h : R.chkE ops n i o = true) : ∃ d q, o.dst = some d ∧ R.E[n]? = some q ∧ (q.i = i ∧ q.d = d) ∧ owns i d R.G = true ∧ apart i d R.Ns = true ∧ d ∈ R.S ∧ (R.nw.all fun q => q.1 != i && q.2.1 != d && (match q.2.2.2 with | none => true | some p => p.1 != i)) = true ∧ ((R.E.eraseIdx n).all (eOther i d)) = true ∧ R.okO i o = true ∧ (R.es.all fun q => q.2.2.2.free i) = true ∧ wants R ops o = some true := by
  unfold Rg.chkE at h
  cases hd : o.dst with
  | none => rw [hd] at h; simp at h
  | some d =>
    cases hq : R.E[n]? with
    | none => rw [hd, hq] at h; simp at h
    | some q =>
      rw [hd, hq] at h
      rw [Bool.and_eq_true, Bool.and_eq_true, Bool.and_eq_true, Bool.and_eq_true, Bool.and_eq_true, Bool.and_eq_true, Bool.and_eq_true, Bool.and_eq_true, Bool.and_eq_true, List.contains_iff_mem, beq_iff_eq, beq_iff_eq, beq_iff_eq] at h
      obtain ⟨⟨⟨⟨⟨⟨⟨⟨⟨a1, a2⟩, a3⟩, a4⟩, a5⟩, a6⟩, a7⟩, a8⟩, a9⟩, a10⟩ := h
      exact ⟨d, q, rfl, rfl, ⟨a1, a2⟩, a3, a4, a5, a6, a7, a8, a9, a10⟩
theorem Xs.putE (X : Xs R ops f t u a i o) {n : Nat} {v : Value} {u' : World} (hc : R.chkE ops n i o = true) (hp : ∀ q, R.E[n]? = some q → q.p u' v) (hB : Below u.heap.size u u') :
    ∃ t', Fr R.fr R.S (a.put o.dst v) t' ∧ Inv R (updF f i) t' u' := by
  obtain ⟨d, q, hd, hq, ⟨e1, e2⟩, h1, h2, h3, h4, h5, h6, h7, _⟩ := chkE_parts hc
  have hq' : R.E[n]? = some ⟨i, d, q.c, q.p⟩ := by rw [hq, ← e1, ← e2]
  refine ⟨updT t d v, by rw [hd]; exact X.F.put X.parts.1 h3 v, ?_, (X.I.2.1.below hB X.I.1.sz).free h7, Gs.other h1 X.I.2.2.1, okO_spec h6 X.I.2.2.2.1 X.dep, Ns.step X.I.2.2.2.2.1 h2, Es.new hB X.st hq' h5 (hp q hq) X.I.2.2.2.2.2⟩
  rw [nwF_free h4]; exact X.I.1.call hB
theorem Xs.val (X : Xs R ops f t u a i o) {n : Nat} {q : En} (hq : R.E[n]? = some q) (hi : hasDep o q.i = true) (hc : q.c = some i) : q.p u (t q.d) :=
  X.I.2.2.2.2.2.get hq (hasDep_spec hi X.dep) (fun c e => by rw [hc] at e; cases e; exact X.fi)
theorem wp_bs {K : Act → World → Prop} {T : TypeId} {v : Value} {w' : World} (ho : o.op = .buildSlice T 0 ([] : List (Nat × Operand)).toArray) (hr : (Instr.buildSlice T 0 #[]).run P u = .ok v w') (hk : K (a.put o.dst v) w') : o.wp P a u K Q :=
  wp_val (by
    unfold execOp; rw [ho]
    show Sem.run P (do pure (Next.value (← Instr.buildSlice T 0 (([] : List (Nat × Operand)).toArray.map fun (i, x) => (i, a.eval x))))) u = _
    rw [List.map_toArray, List.map_nil, Sem.run_bind, hr, Result.andThen_ok, Sem.run_pure]) hk
/-- An empty slice. -/
theorem g_bs (n : Nat) (p : World → Value → Prop) {T e : TypeId} (hr : ∀ w, (Instr.buildSlice T 0 #[]).run P w = .ok (.slice (some ⟨w.heap.size, 0, none⟩) 0 0) (w.alloc (.cells #[] e))) (hp : ∀ u : World, R.base ≤ u.heap.size → p (u.alloc (.cells #[] e)) (.slice (some ⟨u.heap.size, 0, none⟩) 0 0)) (hop : o.op = .buildSlice T 0 ([] : List (Nat × Operand)).toArray := by rfl) (hn : (R.E[n]?).map (·.p) = some p := by rfl) (hc : R.chkE ops n i o = true := by rfl) : OG R P ops Q i o := fun f t u a X => by
  obtain ⟨d, q, hd, hq, _, _, _, _, _, _, _, _, hw⟩ := chkE_parts hc
  exact X.go hw fun K hK => wp_bs hop (hr u) (hK _ _ (X.putE hc (fun q hq => by rw [hq] at hn; cases hn; exact hp u X.I.1.sz) (balloc (bself u) _)))
theorem wp_app {K : Act → World → Prop} {s x : Operand} {T : TypeId} {vs vx v : Value} {w' : World} (ho : o.op = .call { callee := .builtin .append, args := [s, x].toArray, argTypes := [T, T].toArray }) (hs : a.eval s = vs) (hx : a.eval x = vx) (hr : (Builtin.append_ #[T, T] o.type #[vs, vx]).run P u = .ok v w') (hk : K (a.put o.dst v) w') : o.wp P a u K Q := by
  unfold Oper.wp execOp
  simp only [ho, resolve, invoke, builtin, Sem.run_bind, Sem.run_pure, Result.andThen_ok, List.map_toArray, List.map_cons, List.map_nil, hs, hx, hr]
  exact hk
/-- An append onto such a value, that leaves all there was as it was. -/
theorem g_a1 (m n : Nat) (p p' : World → Value → Prop) {T : TypeId} {j d : Nat} {x : Operand} {vx : Value} (hp : ∀ (u : World) (vs : Value), Below R.lo R.w u → R.base ≤ u.heap.size → p u vs → ∃ v u', (Builtin.append_ #[T, T] o.type #[vs, vx]).run P u = .ok v u' ∧ Below u.heap.size u u' ∧ p' u' v) (hop : o.op = .call { callee := .builtin .append, args := [.tmp d, x].toArray, argTypes := [T, T].toArray } := by rfl) (hm : R.E[m]? = some ⟨j, d, some i, p⟩ := by rfl) (hn0 : (R.E[n]?).map (·.p) = some p' := by rfl) (hx : evR R i o x = some vx := by rfl)
    (hd : (hasDep o j && R.S.contains d) = true := by rfl) (hc : R.chkE ops n i o = true := by rfl) : OG R P ops Q i o := fun f t u a X => by
  rw [Bool.and_eq_true, List.contains_iff_mem] at hd
  obtain ⟨h2, h4⟩ := hd
  obtain ⟨d', q', hd', hq', _, _, _, _, _, _, _, _, hw⟩ := chkE_parts hc
  have hv : p u (t d) := X.val hm h2 rfl
  obtain ⟨v, u', hr, hB, hn⟩ := hp u (t d) X.I.1.bel X.I.1.sz hv
  exact X.go hw fun K hK => wp_app hop (X.inS h4) (X.ev hx) hr (hK _ _ (X.putE hc (fun q hq => by rw [hq] at hn0; cases hn0; exact hn) hB))
/-- An append onto such a value, that may write it, where there is nothing else new. -/
theorem g_a2 (m n : Nat) (p p' : World → Value → Prop) {T : TypeId} {j d : Nat} {x : Operand} {vx : Value} (hp : ∀ (u : World) (vs : Value), Below R.lo R.w u → R.base ≤ u.heap.size → p u vs → ∃ v u' b, (Builtin.append_ #[T, T] o.type #[vs, vx]).run P u = .ok v u' ∧ R.base ≤ b ∧ u.grownBy u' (some b) ∧ p' u' v) (hop : o.op = .call { callee := .builtin .append, args := [.tmp d, x].toArray, argTypes := [T, T].toArray } := by rfl) (hm : R.E[m]? = some ⟨j, d, some i, p⟩ := by rfl) (hn0 : (R.E[n]?).map (·.p) = some p' := by rfl) (hx : evR R i o x = some vx := by rfl) (hw0 : R.nw = [] := by rfl)
    (hd : (hasDep o j && R.S.contains d && ((R.E.eraseIdx n).all (eGone R.O i o))) = true := by rfl) (hc : R.chkE ops n i o = true := by rfl) : OG R P ops Q i o := fun f t u a X => by
  rw [Bool.and_eq_true, Bool.and_eq_true, List.contains_iff_mem] at hd
  obtain ⟨⟨h2, h4⟩, h5⟩ := hd
  obtain ⟨d', q', hd', hq', ⟨e1, e2⟩, k1, k2, k3, k4, k5, k6, k7, hw⟩ := chkE_parts hc
  have hv : p u (t d) := X.val hm h2 rfl
  obtain ⟨v, u', b, hr, hb, hg, hn⟩ := hp u (t d) X.I.1.bel X.I.1.sz hv
  refine X.go hw fun K hK => wp_app hop (X.inS h4) (X.ev hx) hr (hK _ _ ⟨updT t d' v, by rw [hd']; exact X.F.put X.parts.1 k3 v, ?_, ?_, Gs.other k1 X.I.2.2.1, okO_spec k6 X.I.2.2.2.1 X.dep, Ns.step X.I.2.2.2.2.1 k2, ?_⟩)
  · have hM := X.I.1
    rw [hw0] at hM ⊢
    exact { bel := hM.bel.grown hg (Nat.le_trans hM.lo hM.sz) (fun k e => by cases e; exact Nat.le_trans hM.lo hb), lo := hM.lo, sz := Nat.le_trans hM.sz hg.size, ks := trivial, ex := trivial, nw := trivial, nd := trivial }
  · refine KC.free k7 ?_
    have := X.I.2.1
    revert this
    have hsz := X.I.1.sz
    generalize R.es = es
    induction es with
    | nil => intro _; trivial
    | cons y ys ih =>
      refine fun h => ⟨⟨h.1.1, h.1.2.1, fun j x hj => ?_⟩, ih h.2⟩
      have hk : u'.heap[y.2.1]? = u.heap[y.2.1]? := hg.block _ (Nat.lt_of_lt_of_le h.1.1 hsz) (fun e => by cases e; have := h.1.1; omega)
      rw [World.cell?_of_block (a := ⟨y.2.1, j, none⟩) hk, World.frozen?_of_block (a := ⟨y.2.1, j, none⟩) hk]
      exact h.1.2.2 j x hj
  · exact Es.last (O := R.O) (fun j hj => X.later (by unfold Rg.later; rw [hj]; simp)) X.dep (by rw [hq', ← e1, ← e2]) h5 (by rw [hq'] at hn0; cases hn0; exact hn)
/-- Such a value goes into another slot. -/
theorem g_ae (m n : Nat) (p : World → Value → Prop) {j d : Nat} (hop : o.op = .assign (.tmp d) := by rfl) (hm : R.E[m]? = some ⟨j, d, some i, p⟩ := by rfl) (hn0 : (R.E[n]?).map (·.p) = some p := by rfl) (hd : (hasDep o j && R.S.contains d) = true := by rfl) (hc : R.chkE ops n i o = true := by rfl) : OG R P ops Q i o := fun f t u a X => by
  rw [Bool.and_eq_true, List.contains_iff_mem] at hd
  obtain ⟨h2, h4⟩ := hd
  obtain ⟨d', q', hd', hq', _, _, _, _, _, _, _, _, hw⟩ := chkE_parts hc
  have hv : p u (t d) := X.val hm h2 rfl
  exact X.go hw fun K hK => wp_assign hop (X.inS h4) (hK _ _ (X.putE hc (fun q' hq' => by rw [hq'] at hn0; cases hn0; exact hv) (Below.refl _ _)))
/-- A call whose second argument is such a value. -/
theorem g_c2 (m : Nat) (p : World → Value → Prop) {N : FuncId} {j d : Nat} {x : Operand} {tys : Array TypeId} {vx v : Value} (hr : ∀ (vs : Array Value) (w : World), (callFunc N vs).run P w = .ok (.enter N vs) w)
    (hcall : ∀ (w : World) (y : Value), Below R.lo R.w w → p w y → Calls P N #[vx, y] w fun e w' => e = .returned v ∧ Below w.heap.size w w') (hop : o.op = .call { callee := .value (.func N), args := [x, .tmp d].toArray, argTypes := tys } := by rfl) (hm : R.E[m]? = some ⟨j, d, some i, p⟩ := by rfl) (hx : evR R i o x = some vx := by rfl) (hd : (hasDep o j && R.S.contains d) = true := by rfl) (hv : some v = pickV i R.G := by rfl) (hc : R.chk ops i o = true := by rfl) : OG R P ops Q i o := fun f t u a X => by
  rw [Bool.and_eq_true, List.contains_iff_mem] at hd
  obtain ⟨h2, h4⟩ := hd
  have hy : p u (t d) := X.val hm h2 rfl
  exact X.go (chk_parts hc).choose_spec.2.2.2.2.2.2.2 fun K hK => wp_callF (vs := [vx, t d]) hop (by rw [List.map_cons, List.map_cons, List.map_nil, X.ev hx, X.inS h4]) hr (hcall u (t d) X.I.1.bel hy) fun w' hB => hK _ _ (X.put hv hc (X.I.1.call hB) (X.I.2.1.below hB X.I.1.sz) hB)
end
end Go.Proofs.Ytkpnjmfndgfogaa

/- Copies of slices of numbers: what is known of them. -/
namespace Go.Proofs.Ytkpnjmfndgfogaa
open Go.RowKit
set_option linter.unusedVariables false
set_option linter.unusedSimpArgs false
theorem infoN : (Try.prog.info? 25).map (fun i => (i.zero, i.size, i.bytes)) = some (some (A4 0 0 0 0), 4, 32) := by kernel_rfl
/-- An empty slice of one's own. -/
def PE (base : Nat) (u : World) (v : Value) : Prop := ∃ b, v = .slice (some ⟨b, 0, none⟩) 0 0 ∧ base ≤ b ∧ u.heap[b]? = some (.cells #[] 25 (0, 0))
/-- A slice of one's own that holds the numbers ns. -/
def PO (base : Nat) (ns : List Int) (u : World) (v : Value) : Prop := (∃ b c, v = .slice (some ⟨b, 0, none⟩) ns.length c) ∧ u.ownsRow base 25 4 v ns.length (flN ns)
theorem PE.stab {base : Nat} {u v : World} {x : Value} (hB : Below u.heap.size u v) (h : PE base u x) : PE base v x := by
  obtain ⟨b, e, h1, h2⟩ := h
  exact ⟨b, e, h1, by rw [hB.block b (Array.getElem?_eq_some_iff.1 h2).1]; exact h2⟩
theorem below_grown {u v : World} (hB : Below u.heap.size u v) : u.grownBy v none := ⟨hB.os, hB.tape, hB.output, hB.size, fun k hk _ => hB.block k hk⟩
theorem PO.stab {base : Nat} {ns : List Int} {u v : World} {x : Value} (hB : Below u.heap.size u v) (h : PO base ns u x) : PO base ns v x := by
  obtain ⟨⟨b, c, rfl⟩, h2⟩ := h
  exact ⟨⟨b, c, rfl⟩, h2.kept (below_grown hB) (.inr (by simp [Value.ownBlock]))⟩
theorem PO.at {base : Nat} {ns : List Int} {u : World} {x : Value} (h : PO base ns u x) : ∃ b c, x = .slice (some ⟨b, 0, none⟩) ns.length c ∧ b < u.heap.size ∧ SN u b 0 ns := by
  obtain ⟨⟨b, c, rfl⟩, h2⟩ := h
  have hl := h2.lt b rfl
  refine ⟨b, c, rfl, hl.2, fun j v hj => ?_⟩
  have := h2.cells (g := b) rfl j v hj
  have e : (⟨b, 0, none⟩ : Addr).add j = ⟨b, j, none⟩ := by unfold Addr.add; split <;> simp_all
  rw [e] at this
  rw [Nat.zero_add]; exact this
theorem SN.news {u : World} {g o : Nat} {ns : List Int} (h : SN u g o ns) : ∀ j v, (flN ns)[j]? = some v → u.cell? ((⟨g, o, none⟩ : Addr).add j) = some v := fun j v hj => by
  have e : (⟨g, o, none⟩ : Addr).add j = ⟨g, o + j, none⟩ := by unfold Addr.add; split <;> simp_all
  rw [e]; exact h j v hj
theorem flN_one : ∀ {ns : List Int}, ∀ v ∈ flN ns, v.oneCell' = true
  | [], v, h => by cases h
  | n :: r, v, h => by
    rw [flN] at h
    rcases List.mem_append.1 h with h | h
    · simp only [List.mem_cons, List.not_mem_nil, or_false] at h
      rcases h with rfl | rfl | rfl | rfl <;> rfl
    · exact flN_one v h
theorem flN_app : ∀ (a b : List Int), flN (a ++ b) = flN a ++ flN b
  | [], _ => rfl
  | n :: r, b => by rw [List.cons_append, flN, flN, flN_app r b, List.append_assoc]
/-- Nothing is put behind. -/
theorem app_none (u : World) (ty : TypeId) (b n cap : Nat) (sl : Option Addr) (c : Nat) (hn : n ≤ cap) : (Builtin.append_ #[39, 39] ty #[.slice (some ⟨b, 0, none⟩) n cap, .slice sl 0 c]).run Try.prog u = .ok (.slice (some ⟨b, 0, none⟩) n cap) u := by
  obtain ⟨i, hi, hm⟩ := Option.map_eq_some_iff.1 infoN
  cases sl <;> simp [Builtin.append_, run_underlying Try.underlying39, sizeOf, typeInfo, hi, Builtin.lenOf, Builtin.firstCells, loadCells, loadCellsFrom, hn, storeCells]
theorem app_empty (base : Nat) (u : World) (ty : TypeId) (vs : Value) (sl : Option Addr) (g o c : Nat) (ns : List Int) (hu : base ≤ u.heap.size) (hl : ns.length ≤ 50) (hsl : ns = [] ∨ sl = some ⟨g, o, none⟩) (hS : SN u g o ns) (h : PE base u vs) :
    ∃ v u', (Builtin.append_ #[39, 39] ty #[vs, .slice sl ns.length c]).run Try.prog u = .ok v u' ∧ Below u.heap.size u u' ∧ PO base ns u' v := by
  obtain ⟨b, rfl, h1, h2⟩ := h
  obtain ⟨i, hi, hm⟩ := Option.map_eq_some_iff.1 infoN
  simp only [Prod.mk.injEq] at hm
  obtain ⟨hz, hsz, hby⟩ := hm
  by_cases hn : ns = []
  · subst hn
    refine ⟨_, _, app_none u ty b 0 0 sl c (Nat.le_refl _), Below.refl _ _, ⟨b, 0, rfl⟩, rfl, .inr ⟨b, 0, #[], rfl, h1, h2, Nat.le_refl _, by simp [maxLen], rfl, rfl⟩⟩
  · have hp : 0 < ns.length := List.length_pos_iff.2 hn
    have hs := hsl.resolve_left hn
    subst hs
    have hr := run_append_grow (P := Try.prog) u 39 ty 25 i (A4 0 0 0 0) Try.underlying39 hi hz ⟨b, 0, none⟩ 0 0 [] (by simp) (by simp) ⟨g, o, none⟩ ns.length c (flN ns) (by rw [flN_len, hsz]; omega) hS.news (by omega) (by omega) (growslice_fits (by omega) (by rw [hby]; omega))
    refine ⟨_, _, hr, balloc (bself u).drew _, ⟨_, _, by rw [Nat.zero_add]⟩, ?_⟩
    have hge := grownCap_ge u (0 + ns.length) 0 25
    have hcm : grownCap u (0 + ns.length) 0 25 ≤ maxLen := grownCap_le_maxLen u (0 + ns.length) 0 25 (by simp [maxLen]; omega)
    rw [Nat.zero_add] at hge hcm ⊢
    refine ⟨by rw [flN_len]; omega, .inr ⟨u.heap.size, _, _, rfl, hu, heap_alloc_new u.drew _, hge, hcm, ?_, ?_⟩⟩
    · simp only [Array.size_append, List.size_toArray, size_zeroCells, flN_len]
      have e4 : (A4 0 0 0 0).cells.size = 4 := rfl
      rw [e4]
      simp only [List.length_nil]
      omega
    · simp only [Array.toList_append, List.append_assoc]
      rw [show ns.length * 4 = (flN ns).length by rw [flN_len]; omega]
      simp
theorem app_more (base : Nat) (u : World) (ty : TypeId) (vs : Value) (sl : Option Addr) (g o c : Nat) (n1 n2 : List Int) (hu : base ≤ u.heap.size) (hl : n1.length + n2.length ≤ 50) (hsl : n2 = [] ∨ sl = some ⟨g, o, none⟩) (hS : SN u g o n2) (h : PO base n1 u vs) :
    ∃ v u' b, (Builtin.append_ #[39, 39] ty #[vs, .slice sl n2.length c]).run Try.prog u = .ok v u' ∧ base ≤ b ∧ u.grownBy u' (some b) ∧ PO base (n1 ++ n2) u' v := by
  obtain ⟨⟨b, cap, rfl⟩, h2⟩ := h
  have hlt := h2.lt b rfl
  obtain ⟨i, hi, hm⟩ := Option.map_eq_some_iff.1 infoN
  simp only [Prod.mk.injEq] at hm
  obtain ⟨hz, hsz, hby⟩ := hm
  by_cases hn : n2 = []
  · subst hn
    rw [List.append_nil]
    have hcap : n1.length ≤ cap := by
      rcases h2.2 with ⟨e, _⟩ | ⟨g', cap', cur, e, _, _, hc, _⟩
      · cases e
      · cases e; exact hc
    exact ⟨_, _, b, app_none u ty b _ cap sl c hcap, hlt.1, ⟨rfl, rfl, rfl, Nat.le_refl _, fun _ _ _ => rfl⟩, ⟨b, cap, rfl⟩, h2⟩
  · have hs := hsl.resolve_left hn
    subst hs
    obtain ⟨v', u', hr, ho, hg, hnil⟩ := run_append_own (P := Try.prog) u base 39 ty 25 i (A4 0 0 0 0) 4 32 Try.underlying39 hi hz hsz hby rfl (by omega) (.slice (some ⟨b, 0, none⟩) n1.length cap) n1.length (flN n1) h2 ⟨g, o, none⟩ n2.length c (flN n2) (by rw [flN_len]; omega) hS.news flN_one (by simp [maxLen]; omega) (by omega) hu
    refine ⟨v', u', b, hr, hlt.1, hg, ?_, ?_⟩
    · rcases ho.2 with ⟨e, _⟩ | ⟨g', cap', cur, e, _⟩
      · exact absurd (hnil.1 e).1 (by simp)
      · rw [List.length_append]; exact ⟨g', cap', e⟩
    · rw [List.length_append, flN_app]; exact ho
theorem Stab.cons {i d : Nat} {c : Option Nat} {p : World → Value → Prop} {E : List En} (h : ∀ u v x, Below u.heap.size u v → p u x → p v x) (r : Stab E) : Stab (⟨i, d, c, p⟩ :: E) := fun q hq => by
  rcases List.mem_cons.1 hq with rfl | hq
  · exact h
  · exact r q hq
theorem bsN (w : World) : (Instr.buildSlice 39 0 #[]).run Try.prog w = .ok (.slice (some ⟨w.heap.size, 0, none⟩) 0 0) (w.alloc (.cells #[] 25)) := by kernel_rfl
theorem PE.new {base : Nat} {u : World} (h : base ≤ u.heap.size) : PE base (u.alloc (.cells #[] 25)) (.slice (some ⟨u.heap.size, 0, none⟩) 0 0) := ⟨_, rfl, h, heap_alloc_new u _⟩
theorem PO.cv {base : Nat} {ns : List Int} {u : World} {x : Value} (h : PO base ns u x) : ∃ b c, x = .slice (some ⟨b, 0, none⟩) ns.length c ∧ base ≤ b ∧ b < u.heap.size ∧ CV u b (flN ns) := by
  obtain ⟨⟨b, c, rfl⟩, h2⟩ := h
  have hl := h2.lt b rfl
  refine ⟨b, c, rfl, hl.1, hl.2, fun j v hj => ⟨?_, ?_⟩⟩
  · have := h2.cells (g := b) rfl j v hj
    have e : (⟨b, 0, none⟩ : Addr).add j = ⟨b, j, none⟩ := by unfold Addr.add; split <;> simp_all
    rw [e] at this; exact this
  · rcases h2.2 with ⟨e, _⟩ | ⟨g', cap', cur, e, _, hh, _⟩
    · cases e
    · cases e; simp [World.frozen?, hh]
theorem CV.sn {u : World} {b : Nat} {ns : List Int} (h : CV u b (flN ns)) : SN u b 0 ns := fun j v hj => by rw [Nat.zero_add]; exact (h j v hj).1
theorem Bk.more {lo : Nat} {u0 u : World} {k0 ks : List Blk} {b : Nat} {l : List Value} (K0 : Bk lo u0 k0) (K : Bk lo u ks) (hb : u0.heap.size ≤ b) (hlt : b < u.heap.size) (hc : CV u b l) (e : ks.map (·.2.1) = k0.map (·.2.1) := by rfl) : Bk lo u (aK ks [(false, b, l)]) := by
  rw [aK_eq]
  refine ⟨KA.app K.a (KA.c hlt hc trivial), ?_⟩
  rw [List.map_append, List.nodup_append]
  refine ⟨K.n, by simp, fun x hx y hy h => ?_⟩
  rw [e] at hx
  have := K0.a.mem x hx
  simp at hy
  omega
theorem slH (sl : Option Addr) (n cap k : Nat) (h : k ≤ n) (hc : n ≤ cap) (hn : sl = none → cap = 0) (w : World) : (Instr.sliceAt 39 (.slice sl n cap) none (some (.int .i64 k)) none).run Try.prog w = .ok (.slice sl k cap) w := by
  cases sl with
  | none =>
    have e0 := hn rfl
    have e1 : n = 0 := by omega
    have e2 : k = 0 := by omega
    subst e0 e1 e2
    show (Instr.sliceAt 39 (.slice none 0 0) none (some (.int .i64 0)) none).run Try.prog w = _
    kernel_rfl
  | some a =>
    have h3 : k ≤ cap := by omega
    simp [Instr.sliceAt, Instr.slice, go_sem, Try.underlying39, h3]
end Go.Proofs.Ytkpnjmfndgfogaa
