import Derived.Test.YtgfggkinmhhdnaaRC
import Derived.Laws.Append
import Derived.Laws.AppendOwn
/- Regions by one record: slices of numbers that came in. -/
namespace Go.Proofs.Ytgfggkinmhhdnaa
open Go.RowKit
set_option linter.unusedVariables false
set_option linter.unusedSimpArgs false
/-- The cells of numbers, one behind the other. -/
def flN : List Int → List Value
  | [] => []
  | n :: r => LN n ++ flN r
/-- The numbers ns lie from o on in block g. -/
def SN (w : World) (g o : Nat) (ns : List Int) : Prop := ∀ j v, (flN ns)[j]? = some v → w.cell? ⟨g, o + j, none⟩ = some v
theorem SN.below {w w' : World} {m g o : Nat} {ns : List Int} (h : SN w g o ns) (hb : Below m w w') (hg : g < m) : SN w' g o ns := fun j v hj => (hb.cell (p := ⟨g, o + j, none⟩) hg).trans (h j v hj)
theorem SN.empty {w : World} {g o : Nat} {ns : List Int} (h : ns.length = 0) : SN w g o ns := fun j v hj => by
  have e : ns = [] := List.eq_nil_of_length_eq_zero h
  subst e; simp [flN] at hj
theorem SN.below2 {w w' : World} {m g o : Nat} {ns : List Int} (h : SN w g o ns) (hb : Below m w w') (hg : ns.length = 0 ∨ g < m) : SN w' g o ns := by
  rcases hg with e | hg
  · exact SN.empty e
  · exact h.below hb hg
theorem flN_get : ∀ (ns : List Int) (j c : Nat) (v : Value), j < ns.length → (LN (ns.getD j 0))[c]? = some v → (flN ns)[4 * j + c]? = some v
  | [], j, c, v, h, _ => by simp at h
  | n :: r, 0, c, v, h, e => by
    rw [flN, List.getElem?_append_left]
    · simpa using e
    · have := (List.getElem?_eq_some_iff.1 e).1
      simpa using this
  | n :: r, j + 1, c, v, h, e => by
    rw [flN, List.getElem?_append_right (by simp; omega)]
    have := flN_get r j c v (by simpa using h) (by simpa using e)
    simpa [show 4 * (j + 1) + c - 4 = 4 * j + c by omega] using this
theorem SN.at {w : World} {g o : Nat} {ns : List Int} (h : SN w g o ns) (j : Nat) (hj : j < ns.length) : w.rangeAt g (o + 4 * j) (LN (ns.getD j 0)) := fun c v hc => by
  have := h (4 * j + c) v (flN_get ns j c v hj hc)
  rwa [← Nat.add_assoc] at this
section
variable {R : Rg} {P : Program} {ops : Array Oper} {Q : Exit → Act → World → Prop} {i : Nat} {o : Oper}
/-- A load of a row that came in. -/
theorem g_lf {T : TypeId} {x : Operand} {b k : Nat} {cs : List Value} {dd : TypeDesc} (hc0 : R.w.rangeAt b k cs) (hb : b < R.lo) (hu : P.underlying T = some dd) (hi : (P.info? T).map (·.size) = some cs.length) (hop : o.op = .load T x := by rfl) (hx : evR R i o x = some (.pointer (some ⟨b, k, none⟩)) := by rfl)
    (hr : dd.isRow = true := by rfl) (hv : some (.agg cs.toArray) = pickV i R.G := by rfl) (hc : R.chk ops i o = true := by rfl) : OG R P ops Q i o :=
  g_pure hv hc fun f t u a X K hK => wp_load_mid T x hop b k (X.ev hx) cs dd (fun j v hj => (X.I.1.bel.cell (p := ⟨b, k + j, none⟩) hb).trans (hc0 j v hj)) hu hr hi hK
/-- A call that asks for what came in. -/
theorem g_cb {N : FuncId} {args : List Operand} {tys : Array TypeId} {vs : List Value} {v : Value} (hr : ∀ (vs : Array Value) (w : World), (callFunc N vs).run P w = .ok (.enter N vs) w)
    (hcall : ∀ w, Below R.lo R.w w → Calls P N vs.toArray w fun e w' => e = .returned v ∧ Below w.heap.size w w') (hop : o.op = .call { callee := .value (.func N), args := args.toArray, argTypes := tys } := by rfl) (hx : args.mapM (evR R i o) = some vs := by rfl) (hv : some v = pickV i R.G := by rfl) (hc : R.chk ops i o = true := by rfl) : OG R P ops Q i o := fun f t u a X =>
  X.go (chk_parts hc).choose_spec.2.2.2.2.2.2.2 fun K hK => wp_callF hop (X.evs hx) hr (hcall u X.I.1.bel) fun w' hB => hK _ _ (X.put hv hc (X.I.1.call hB) (X.I.2.1.below hB X.I.1.sz) hB)
/-- The length of a slice. -/
theorem g_ln {x : Operand} {T e : TypeId} {sl : Option Addr} {n cap : Nat} (hT : P.underlying T = some (.slice e)) (hop : o.op = .call { callee := .builtin .len, args := [x].toArray, argTypes := [T].toArray } := by rfl) (hx : evR R i o x = some (.slice sl n cap) := by rfl) (hv : some (.int .i64 (n : Int)) = pickV i R.G := by rfl) (hc : R.chk ops i o = true := by rfl) : OG R P ops Q i o :=
  g_pure hv hc fun f t u a X K hK => by
    have h := X.ev hx
    refine wp_val (v := .int .i64 (n : Int)) (w' := u) ?_ hK
    unfold execOp
    simp only [hop, resolve, invoke, builtin, Sem.run_bind, Sem.run_pure, Result.andThen_ok, List.map_toArray, List.map_cons, List.map_nil, h]
    cases sl <;> simp [Builtin.len_, goInt, run_underlying hT]
end
theorem ixS (g o n cap j : Nat) (h : j < n) (w : World) : (Instr.indexAt 72 (.slice (some ⟨g, o, none⟩) n cap) (.int .i64 j)).run Try.prog w = .ok (.pointer (some ⟨g, o + 4 * j, none⟩)) w := by
  have h2 : (j : Int) < n := by omega
  go_simp
end Go.Proofs.Ytgfggkinmhhdnaa
/- Regions by one record: copies of slices of numbers. -/
namespace Go.Proofs.Ytgfggkinmhhdnaa
open Go.RowKit
set_option linter.unusedVariables false
set_option linter.unusedSimpArgs false
theorem Es.get {f : Nat → Bool} {t : Nat → Value} {u : World} {q : En} : ∀ {E : List En} {n : Nat}, Es f t u E → E[n]? = some q → f q.i = true → (∀ c, q.c = some c → f c = false) → q.p u (t q.d)
  | [], n, _, h, _, _ => by simp at h
  | x :: r, 0, h, e, h1, h2 => by simp at e; subst e; exact h.1 h1 h2
  | x :: r, n + 1, h, e, h1, h2 => Es.get (E := r) (n := n) h.2 (by simpa using e) h1 h2
/-- It is used up, or is now. -/
def eGone (O : List (Nat × Nat)) (i : Nat) (o : Oper) (q : En) : Bool := q.i != i && ((match q.c with | some c => (c == i || hasDep o c) | none => false) || O.any fun p => p.1 == q.i && p.2 == i)
theorem Es.gone {O : List (Nat × Nat)} {f : Nat → Bool} {t : Nat → Value} {v : World} {i : Nat} {o : Oper} (hL : ∀ j, (O.any fun p => p.1 == j && p.2 == i) = true → f j = false) (dep : ∀ e ∈ o.after, Region.binds .any e = true → f e.on = true) : ∀ {E : List En}, (E.all (eGone O i o)) = true → Es (updF f i) t v E
  | [], _ => trivial
  | z :: r, h5 => by
    rw [List.all_cons, Bool.and_eq_true] at h5
    refine ⟨fun g1 g2 => ?_, Es.gone hL dep h5.2⟩
    exfalso
    have h5' := h5.1
    unfold eGone at h5'
    rw [Bool.and_eq_true] at h5'
    have hne : z.i ≠ i := by simpa using h5'.1
    rw [updF_ne hne] at g1
    have h6 := h5'.2
    rw [Bool.or_eq_true] at h6
    rcases h6 with h6 | h6
    rotate_left
    · rw [hL _ h6] at g1; cases g1
    cases hzc : z.c with
    | none => rw [hzc] at h6; simp at h6
    | some c =>
      rw [hzc] at h6
      have g3 := g2 c hzc
      simp only [Bool.or_eq_true, beq_iff_eq] at h6
      rcases h6 with e | e
      · subst e; rw [updF_eq] at g3; cases g3
      · by_cases ec : c = i
        · subst ec; rw [updF_eq] at g3; cases g3
        · rw [updF_ne ec, hasDep_spec e dep] at g3; cases g3
/-- Others are free of it. -/
def eOther (i d : Nat) (q : En) : Bool := q.i != i && q.d != d
theorem Es.new {f : Nat → Bool} {t : Nat → Value} {u v : World} {i d : Nat} {x : Value} (hB : Below u.heap.size u v) : ∀ {E : List En} {n : Nat} {c : Option Nat} {p : World → Value → Prop}, Stab E → E[n]? = some ⟨i, d, c, p⟩ → ((E.eraseIdx n).all (eOther i d)) = true → p v x → Es f t u E → Es (updF f i) (updT t d x) v E
  | [], n, c, p, _, h, _, _, _ => by simp at h
  | q :: r, 0, c, p, hs, e, hx, hp, h => by
    simp at e; subst e
    simp only [List.eraseIdx_cons_zero] at hx
    refine ⟨fun _ _ => by simpa [updT] using hp, Es.step hB (fun q hq => hs q (List.mem_cons_of_mem _ hq)) (by unfold eFree; exact hx) h.2⟩
  | q :: r, n + 1, c, p, hs, e, hx, hp, h => by
    simp only [List.eraseIdx_cons_succ, List.all_cons, Bool.and_eq_true] at hx
    have h1 := Es.step (E := [q]) (f := f) (t := t) (x := x) (i := i) (d := d) hB (fun q' hq => hs q' (by simp at hq; subst hq; exact List.mem_cons_self)) (by unfold eFree; simpa [eOther] using hx.1) ⟨h.1, trivial⟩
    exact ⟨h1.1, Es.new hB (E := r) (n := n) (fun q hq => hs q (List.mem_cons_of_mem _ hq)) (by simpa using e) hx.2 hp h.2⟩
/-- What is asked of an operation that makes such a value, the n-th. -/
def Rg.chkE (R : Rg) (ops : Array Oper) (n i : Nat) (o : Oper) : Bool :=
  (match o.dst, R.E[n]? with | some d, some q => q.i == i && q.d == d && owns i d R.G && apart i d R.Ns && R.S.contains d && (R.nw.all fun q => q.1 != i && q.2.1 != d && (match q.2.2.2 with | none => true | some p => p.1 != i)) && ((R.E.eraseIdx n).all (eOther i d)) | _, _ => false)
  && R.okO i o && (R.es.all fun q => q.2.2.2.free i) && (wants R ops o == some true)
section
variable {R : Rg} {P : Program} {ops : Array Oper} {Q : Exit → Act → World → Prop} {f : Nat → Bool} {t : Nat → Value} {u : World} {a : Act} {i : Nat} {o : Oper}
theorem chkE_parts {n : Nat} (h : R.chkE ops n i o = true) : ∃ d q, o.dst = some d ∧ R.E[n]? = some q ∧ (q.i = i ∧ q.d = d) ∧ owns i d R.G = true ∧ apart i d R.Ns = true ∧ d ∈ R.S ∧ (R.nw.all fun q => q.1 != i && q.2.1 != d && (match q.2.2.2 with | none => true | some p => p.1 != i)) = true ∧ ((R.E.eraseIdx n).all (eOther i d)) = true ∧ R.okO i o = true ∧ (R.es.all fun q => q.2.2.2.free i) = true ∧ wants R ops o = some true := by
  unfold Rg.chkE at h
  cases hd : o.dst with
  | none => rw [hd] at h; simp at h
  | some d =>
    cases hq : R.E[n]? with
    | none => rw [hd, hq] at h; simp at h
    | some q =>
      rw [hd, hq] at h
      rw [Bool.and_eq_true, Bool.and_eq_true, Bool.and_eq_true, Bool.and_eq_true, Bool.and_eq_true, Bool.and_eq_true, Bool.and_eq_true, Bool.and_eq_true, Bool.and_eq_true, List.contains_iff_mem, beq_iff_eq, beq_iff_eq, beq_iff_eq] at h
      obtain ⟨⟨⟨⟨⟨⟨⟨⟨⟨a1, a2⟩, a3⟩, a4⟩, a5⟩, a6⟩, a7⟩, a8⟩, a9⟩, a10⟩ := h
      exact ⟨d, q, rfl, rfl, ⟨a1, a2⟩, a3, a4, a5, a6, a7, a8, a9, a10⟩
theorem Xs.putE (X : Xs R ops f t u a i o) {n : Nat} {v : Value} {u' : World} (hc : R.chkE ops n i o = true) (hp : ∀ q, R.E[n]? = some q → q.p u' v) (hB : Below u.heap.size u u') :
    ∃ t', Fr R.fr R.S (a.put o.dst v) t' ∧ Inv R (updF f i) t' u' := by
  obtain ⟨d, q, hd, hq, ⟨e1, e2⟩, h1, h2, h3, h4, h5, h6, h7, _⟩ := chkE_parts hc
  have hq' : R.E[n]? = some ⟨i, d, q.c, q.p⟩ := by rw [hq, ← e1, ← e2]
  refine ⟨updT t d v, by rw [hd]; exact X.F.put X.parts.1 h3 v, ?_, (X.I.2.1.below hB X.I.1.sz).free h7, Gs.other h1 X.I.2.2.1, okO_spec h6 X.I.2.2.2.1 X.dep, Ns.step X.I.2.2.2.2.1 h2, Es.new hB X.st hq' h5 (hp q hq) X.I.2.2.2.2.2⟩
  rw [nwF_free h4]; exact X.I.1.call hB
theorem Xs.val (X : Xs R ops f t u a i o) {n : Nat} {q : En} (hq : R.E[n]? = some q) (hi : hasDep o q.i = true) (hc : q.c = some i) : q.p u (t q.d) :=
  X.I.2.2.2.2.2.get hq (hasDep_spec hi X.dep) (fun c e => by rw [hc] at e; cases e; exact X.fi)
theorem wp_bs {K : Act → World → Prop} {T : TypeId} {v : Value} {w' : World} (ho : o.op = .buildSlice T 0 ([] : List (Nat × Operand)).toArray) (hr : (Instr.buildSlice T 0 #[]).run P u = .ok v w') (hk : K (a.put o.dst v) w') : o.wp P a u K Q :=
  wp_val (by
    unfold execOp; rw [ho]
    show Sem.run P (do pure (Next.value (← Instr.buildSlice T 0 (([] : List (Nat × Operand)).toArray.map fun (i, x) => (i, a.eval x))))) u = _
    rw [List.map_toArray, List.map_nil, Sem.run_bind, hr, Result.andThen_ok, Sem.run_pure]) hk
/-- An empty slice. -/
theorem g_bs (n : Nat) (p : World → Value → Prop) {T e : TypeId} (hr : ∀ w, (Instr.buildSlice T 0 #[]).run P w = .ok (.slice (some ⟨w.heap.size, 0, none⟩) 0 0) (w.alloc (.cells #[] e))) (hp : ∀ u : World, R.base ≤ u.heap.size → p (u.alloc (.cells #[] e)) (.slice (some ⟨u.heap.size, 0, none⟩) 0 0)) (hop : o.op = .buildSlice T 0 ([] : List (Nat × Operand)).toArray := by rfl) (hn : (R.E[n]?).map (·.p) = some p := by rfl) (hc : R.chkE ops n i o = true := by rfl) : OG R P ops Q i o := fun f t u a X => by
  obtain ⟨d, q, hd, hq, _, _, _, _, _, _, _, _, hw⟩ := chkE_parts hc
  exact X.go hw fun K hK => wp_bs hop (hr u) (hK _ _ (X.putE hc (fun q hq => by rw [hq] at hn; cases hn; exact hp u X.I.1.sz) (balloc (bself u) _)))
theorem wp_app {K : Act → World → Prop} {s x : Operand} {T : TypeId} {vs vx v : Value} {w' : World} (ho : o.op = .call { callee := .builtin .append, args := [s, x].toArray, argTypes := [T, T].toArray }) (hs : a.eval s = vs) (hx : a.eval x = vx) (hr : (Builtin.append_ #[T, T] o.type #[vs, vx]).run P u = .ok v w') (hk : K (a.put o.dst v) w') : o.wp P a u K Q := by
  unfold Oper.wp execOp
  simp only [ho, resolve, invoke, builtin, Sem.run_bind, Sem.run_pure, Result.andThen_ok, List.map_toArray, List.map_cons, List.map_nil, hs, hx, hr]
  exact hk
/-- An append onto such a value, that leaves all there was as it was. -/
theorem g_a1 (m n : Nat) (p p' : World → Value → Prop) {T : TypeId} {j d : Nat} {x : Operand} {vx : Value} (hp : ∀ (u : World) (vs : Value), Below R.lo R.w u → R.base ≤ u.heap.size → p u vs → ∃ v u', (Builtin.append_ #[T, T] o.type #[vs, vx]).run P u = .ok v u' ∧ Below u.heap.size u u' ∧ p' u' v) (hop : o.op = .call { callee := .builtin .append, args := [.tmp d, x].toArray, argTypes := [T, T].toArray } := by rfl) (hm : R.E[m]? = some ⟨j, d, some i, p⟩ := by rfl) (hn0 : (R.E[n]?).map (·.p) = some p' := by rfl) (hx : evR R i o x = some vx := by rfl)
    (hd : (hasDep o j && R.S.contains d) = true := by rfl) (hc : R.chkE ops n i o = true := by rfl) : OG R P ops Q i o := fun f t u a X => by
  rw [Bool.and_eq_true, List.contains_iff_mem] at hd
  obtain ⟨h2, h4⟩ := hd
  obtain ⟨d', q', hd', hq', _, _, _, _, _, _, _, _, hw⟩ := chkE_parts hc
  have hv : p u (t d) := X.val hm h2 rfl
  obtain ⟨v, u', hr, hB, hn⟩ := hp u (t d) X.I.1.bel X.I.1.sz hv
  exact X.go hw fun K hK => wp_app hop (X.inS h4) (X.ev hx) hr (hK _ _ (X.putE hc (fun q hq => by rw [hq] at hn0; cases hn0; exact hn) hB))
/-- A call whose second argument is such a value. -/
theorem g_c2 (m : Nat) (p : World → Value → Prop) {N : FuncId} {j d : Nat} {x : Operand} {tys : Array TypeId} {vx v : Value} (hr : ∀ (vs : Array Value) (w : World), (callFunc N vs).run P w = .ok (.enter N vs) w)
    (hcall : ∀ (w : World) (y : Value), Below R.lo R.w w → p w y → Calls P N #[vx, y] w fun e w' => e = .returned v ∧ Below w.heap.size w w') (hop : o.op = .call { callee := .value (.func N), args := [x, .tmp d].toArray, argTypes := tys } := by rfl) (hm : R.E[m]? = some ⟨j, d, some i, p⟩ := by rfl) (hx : evR R i o x = some vx := by rfl) (hd : (hasDep o j && R.S.contains d) = true := by rfl) (hv : some v = pickV i R.G := by rfl) (hc : R.chk ops i o = true := by rfl) : OG R P ops Q i o := fun f t u a X => by
  rw [Bool.and_eq_true, List.contains_iff_mem] at hd
  obtain ⟨h2, h4⟩ := hd
  have hy : p u (t d) := X.val hm h2 rfl
  exact X.go (chk_parts hc).choose_spec.2.2.2.2.2.2.2 fun K hK => wp_callF (vs := [vx, t d]) hop (by rw [List.map_cons, List.map_cons, List.map_nil, X.ev hx, X.inS h4]) hr (hcall u (t d) X.I.1.bel hy) fun w' hB => hK _ _ (X.put hv hc (X.I.1.call hB) (X.I.2.1.below hB X.I.1.sz) hB)
end
end Go.Proofs.Ytgfggkinmhhdnaa
/- Slices built on the way: what is known of them; bools. -/
namespace Go.Proofs.Ytgfggkinmhhdnaa
open Go.RowKit
set_option linter.unusedVariables false
set_option linter.unusedSimpArgs false
section
variable {R : Rg} {P : Program} {ops : Array Oper} {Q : Exit → Act → World → Prop} {f : Nat → Bool} {t : Nat → Value} {u : World} {a : Act} {i : Nat} {o : Oper}
theorem map_pairs (g : Operand → Value) : ∀ xs : List (Nat × Operand), xs.map (fun q => (q.1, g q.2)) = (xs.map Prod.fst).zip ((xs.map Prod.snd).map g)
  | [] => rfl
  | x :: r => by simp only [List.map_cons, List.zip_cons_cons, map_pairs g r]
theorem wp_bS {K : Act → World → Prop} {T : TypeId} {n : Nat} {xs : List (Nat × Operand)} {vs : List Value} {v : Value} {w' : World} (ho : o.op = .buildSlice T n xs.toArray) (hx : (xs.map Prod.snd).map a.eval = vs) (hr : (Instr.buildSlice T n ((xs.map Prod.fst).zip vs).toArray).run P u = .ok v w') (hk : K (a.put o.dst v) w') : o.wp P a u K Q :=
  wp_val (by
    unfold execOp; rw [ho]
    show Sem.run P (do pure (Next.value (← Instr.buildSlice T n (xs.toArray.map fun (i, x) => (i, a.eval x))))) u = _
    rw [List.map_toArray]
    show Sem.run P (do pure (Next.value (← Instr.buildSlice T n (xs.map (fun q => (q.1, a.eval q.2))).toArray))) u = _
    rw [map_pairs, hx, Sem.run_bind, hr, Result.andThen_ok, Sem.run_pure]) hk
/-- A slice of so many values. -/
theorem g_bS (n : Nat) (p : World → Value → Prop) (ks : List Nat) (vs : List Value) {T e : TypeId} {m : Nat} {xs : List (Nat × Operand)} (hr : ∀ w, (Instr.buildSlice T m (ks.zip vs).toArray).run P w = .ok (.slice (some ⟨w.heap.size, 0, none⟩) m m) (w.alloc (.cells vs.toArray e))) (hp : ∀ u : World, p (u.alloc (.cells vs.toArray e)) (.slice (some ⟨u.heap.size, 0, none⟩) m m)) (hop : o.op = .buildSlice T m xs.toArray := by rfl) (hks : xs.map Prod.fst = ks := by rfl) (hx : (xs.map Prod.snd).mapM (evR R i o) = some vs := by rfl) (hn : (R.E[n]?).map (·.p) = some p := by rfl) (hc : R.chkE ops n i o = true := by rfl) : OG R P ops Q i o := fun f t u a X => by
  obtain ⟨d, q, hd, hq, _, _, _, _, _, _, _, _, hw⟩ := chkE_parts hc
  exact X.go hw fun K hK => wp_bS hop (X.evs hx) (by rw [hks]; exact hr u) (hK _ _ (X.putE hc (fun q hq => by rw [hq] at hn; cases hn; exact hp u) (balloc (bself u) _)))
/-- A call whose only argument is such a value. -/
theorem g_c1 (m : Nat) (p : World → Value → Prop) {N : FuncId} {j d : Nat} {tys : Array TypeId} {v : Value} (hr : ∀ (vs : Array Value) (w : World), (callFunc N vs).run P w = .ok (.enter N vs) w)
    (hcall : ∀ (w : World) (y : Value), Below R.lo R.w w → p w y → Calls P N #[y] w fun e w' => e = .returned v ∧ Below w.heap.size w w') (hop : o.op = .call { callee := .value (.func N), args := [.tmp d].toArray, argTypes := tys } := by rfl) (hm : R.E[m]? = some ⟨j, d, some i, p⟩ := by rfl) (hd : (hasDep o j && R.S.contains d) = true := by rfl) (hv : some v = pickV i R.G := by rfl) (hc : R.chk ops i o = true := by rfl) : OG R P ops Q i o := fun f t u a X => by
  rw [Bool.and_eq_true, List.contains_iff_mem] at hd
  obtain ⟨h2, h4⟩ := hd
  have hy : p u (t d) := X.val hm h2 rfl
  exact X.go (chk_parts hc).choose_spec.2.2.2.2.2.2.2 fun K hK => wp_callF (vs := [t d]) hop (by rw [List.map_cons, List.map_nil, X.inS h4]) hr (hcall u (t d) X.I.1.bel hy) fun w' hB => hK _ _ (X.put hv hc (X.I.1.call hB) (X.I.2.1.below hB X.I.1.sz) hB)
/-- A load of a row that lies in a block's midst. -/
theorem g_lo (k c : Nat) {T : TypeId} {x : Operand} {b m : Nat} {l : List Value} {dd : TypeDesc} (hu : P.underlying T = some dd) (hi : (P.info? T).map (·.size) = some m) (hop : o.op = .load T x := by rfl) (hk : R.cur i k = some (b, l) := by rfl) (hx : evR R i o x = some (.pointer (some ⟨b, c, none⟩)) := by rfl)
    (hr : dd.isRow = true := by rfl) (hm : ((l.drop c).take m).length = m := by rfl) (hv : some (.agg ((l.drop c).take m).toArray) = pickV i R.G := by rfl) (hc : R.chk ops i o = true := by rfl) : OG R P ops Q i o :=
  g_pure hv hc fun f t u a X K hK => wp_load_mid T x hop b c (X.ev hx) ((l.drop c).take m) dd (fun j v hj => by
    have hj : (l.drop c)[j]? = some v := by
      have hlt : j < m := by rw [← hm]; exact (List.getElem?_eq_some_iff.1 hj).1
      rw [List.getElem?_take_of_lt hlt] at hj; exact hj
    rw [List.getElem?_drop] at hj
    exact ((X.cur hk).1 (c + j) v hj).1) hu hr (by rw [hm]; exact hi) hK
end
/-- The cells of a step, and its value. -/
abbrev CE (n f a : Int) : List Value := [.int .u64 (D0 n), .int .u64 (D1 n), .int .u64 (D2 n), .int .u64 (D3 n), .int .u64 (D0 f), .int .u64 (D1 f), .int .u64 (D2 f), .int .u64 (D3 f), .int .u64 (D0 a), .int .u64 (D1 a), .int .u64 (D2 a), .int .u64 (D3 a)]
abbrev CX (n f a : Int) : Value := .agg #[.int .u64 (D0 n), .int .u64 (D1 n), .int .u64 (D2 n), .int .u64 (D3 n), .int .u64 (D0 f), .int .u64 (D1 f), .int .u64 (D2 f), .int .u64 (D3 f), .int .u64 (D0 a), .int .u64 (D1 a), .int .u64 (D2 a), .int .u64 (D3 a)]
theorem info_api_Cert : (Try.prog.info? 26).map (·.size) = some 12 := by kernel_rfl
theorem fdC0 (b : Nat) (w : World) : (Instr.fieldAt 26 (.pointer (some ⟨b, 0, none⟩)) 0).run Try.prog w = .ok (.pointer (some ⟨b, 0, none⟩)) w := by go_simp
theorem fdC1 (b : Nat) (w : World) : (Instr.fieldAt 26 (.pointer (some ⟨b, 0, none⟩)) 1).run Try.prog w = .ok (.pointer (some ⟨b, 4, none⟩)) w := by go_simp
theorem fdC2 (b : Nat) (w : World) : (Instr.fieldAt 26 (.pointer (some ⟨b, 0, none⟩)) 2).run Try.prog w = .ok (.pointer (some ⟨b, 8, none⟩)) w := by go_simp
/-- A slice that holds the bools bs. -/
def PBo (bs : List Bool) (u : World) (v : Value) : Prop := ∃ b c, v = .slice (some ⟨b, 0, none⟩) bs.length c ∧ b < u.heap.size ∧ CV u b (bs.map Value.bool)
theorem PBo.stab {bs : List Bool} {u v : World} {x : Value} (hB : Below u.heap.size u v) (h : PBo bs u x) : PBo bs v x := by
  obtain ⟨b, c, e, h1, h2⟩ := h
  exact ⟨b, c, e, Nat.lt_of_lt_of_le h1 hB.size, h2.below hB h1⟩
theorem PBo.new (bs : List Bool) (t : TypeId) (m : Nat) (hm : m = bs.length) (u : World) : PBo bs (u.alloc (.cells (bs.map Value.bool).toArray t)) (.slice (some ⟨u.heap.size, 0, none⟩) m m) := by
  subst hm
  exact ⟨_, _, rfl, by simp, CV.new u _ t⟩
theorem ld_bool (w : World) (b k : Nat) (v : Bool) (h : w.cell? ⟨b, k, none⟩ = some (.bool v)) : (Instr.loadAt 4 (.pointer (some ⟨b, k, none⟩))).run Try.prog w = .ok (.bool v) w := by
  go_simp
theorem lB {b c : Nat} {v : Bool} (w : World) (h : w.cell? ⟨b, c, none⟩ = some (.bool v)) : (Instr.loadAt 4 (.pointer (some ⟨b, c, none⟩))).run Try.prog w = .ok (.bool v) w := ld_bool w b c v h
end Go.Proofs.Ytgfggkinmhhdnaa
/- Values of which only a property is known: calls that make one, and what is taken out of one. -/
namespace Go.Proofs.Ytgfggkinmhhdnaa
open Go.RowKit
set_option linter.unusedVariables false
set_option linter.unusedSimpArgs false
section
variable {R : Rg} {P : Program} {ops : Array Oper} {Q : Exit → Act → World → Prop} {f : Nat → Bool} {t : Nat → Value} {u : World} {a : Act} {i : Nat} {o : Oper}
theorem wp_callP {K : Act → World → Prop} {N : FuncId} {args : List Operand} {tys : Array TypeId} {vs : List Value} {p : World → Value → Prop} (ho : o.op = .call { callee := .value (.func N), args := args.toArray, argTypes := tys }) (hv : args.map a.eval = vs)
    (hr : ∀ (vs : Array Value) (w : World), (callFunc N vs).run P w = .ok (.enter N vs) w)
    (hc : Calls P N vs.toArray u fun e w' => ∃ v, e = .returned v ∧ p w' v ∧ Below u.heap.size u w') (hk : ∀ v w', p w' v → Below u.heap.size u w' → K (a.put o.dst v) w') : o.wp P a u K Q := by
  have h : (execOp a.eval o).run P u = .ok (.enter N vs.toArray) u := by
    unfold execOp; rw [ho]
    show Sem.run P (do let d ← (Deferred.ofValue (.func (.func N) #[] #[]) (args.toArray.map a.eval)); invoke d.target d.args) u = _
    rw [List.map_toArray, hv]
    show Sem.run P (do let d ← (pure { target := .fn (.func N) #[], args := #[] ++ vs.toArray } : Sem Deferred); invoke d.target d.args) u = _
    rw [Sem.run_bind, Sem.run_pure, Result.andThen_ok]
    show Sem.run P (callFunc N (#[] ++ vs.toArray ++ #[])) u = _
    rw [show (#[] ++ vs.toArray ++ #[] : Array Value) = vs.toArray by simp, hr]
  unfold Oper.wp; rw [h, Oper.upon_enter]
  refine hc.mono ?_
  rintro e w' ⟨v, rfl, hp, hB⟩
  exact hk v w' hp hB
/-- A call with known arguments that makes such a value. -/
theorem g_cE (n : Nat) (p : World → Value → Prop) {N : FuncId} {args : List Operand} {tys : Array TypeId} {vs : List Value} (hr : ∀ (vs : Array Value) (w : World), (callFunc N vs).run P w = .ok (.enter N vs) w)
    (hcall : ∀ w, Below R.lo R.w w → R.base ≤ w.heap.size → Calls P N vs.toArray w fun e w' => ∃ v, e = .returned v ∧ p w' v ∧ Below w.heap.size w w') (hop : o.op = .call { callee := .value (.func N), args := args.toArray, argTypes := tys } := by rfl) (hx : args.mapM (evR R i o) = some vs := by rfl) (hn : (R.E[n]?).map (·.p) = some p := by rfl) (hc : R.chkE ops n i o = true := by rfl) : OG R P ops Q i o := fun f t u a X => by
  obtain ⟨d, q, hd, hq, _, _, _, _, _, _, _, _, hw⟩ := chkE_parts hc
  exact X.go hw fun K hK => wp_callP hop (X.evs hx) hr (hcall u X.I.1.bel X.I.1.sz) fun v w' hp hB => hK _ _ (X.putE hc (fun q hq => by rw [hq] at hn; cases hn; exact hp) hB)
theorem Xs.val2 (X : Xs R ops f t u a i o) {n j d : Nat} {c : Option Nat} {p : World → Value → Prop} (hq : R.E[n]? = some ⟨j, d, c, p⟩) (hi : hasDep o j = true) (hc : (c.all (· == i)) = true) : p u (t d) :=
  X.I.2.2.2.2.2.get hq (hasDep_spec hi X.dep) (fun x e => by cases e; simp at hc; rw [hc]; exact X.fi)
/-- Such a value goes into another slot. -/
theorem g_mE (m n : Nat) (p : World → Value → Prop) {j d : Nat} {c : Option Nat} (hop : o.op = .move (.tmp d) := by rfl) (hm : R.E[m]? = some ⟨j, d, c, p⟩ := by rfl) (hcc : (c.all (· == i)) = true := by rfl) (hn0 : (R.E[n]?).map (·.p) = some p := by rfl) (hd : (hasDep o j && R.S.contains d) = true := by rfl) (hc : R.chkE ops n i o = true := by rfl) : OG R P ops Q i o := fun f t u a X => by
  rw [Bool.and_eq_true, List.contains_iff_mem] at hd
  obtain ⟨h2, h4⟩ := hd
  obtain ⟨d', q', hd', hq', _, _, _, _, _, _, _, _, hw⟩ := chkE_parts hc
  have hv : p u (t d) := X.val2 hm h2 hcc
  exact X.go hw fun K hK => wp_move hop (X.inS h4) (hK _ _ (X.putE hc (fun q' hq' => by rw [hq'] at hn0; cases hn0; exact hv) (Below.refl _ _)))
theorem g_sE (m n : Nat) (p : World → Value → Prop) {j d : Nat} {c : Option Nat} (hop : o.op = .assign (.tmp d) := by rfl) (hm : R.E[m]? = some ⟨j, d, c, p⟩ := by rfl) (hcc : (c.all (· == i)) = true := by rfl) (hn0 : (R.E[n]?).map (·.p) = some p := by rfl) (hd : (hasDep o j && R.S.contains d) = true := by rfl) (hc : R.chkE ops n i o = true := by rfl) : OG R P ops Q i o := fun f t u a X => by
  rw [Bool.and_eq_true, List.contains_iff_mem] at hd
  obtain ⟨h2, h4⟩ := hd
  obtain ⟨d', q', hd', hq', _, _, _, _, _, _, _, _, hw⟩ := chkE_parts hc
  have hv : p u (t d) := X.val2 hm h2 hcc
  exact X.go hw fun K hK => wp_assign hop (X.inS h4) (hK _ _ (X.putE hc (fun q' hq' => by rw [hq'] at hn0; cases hn0; exact hv) (Below.refl _ _)))
/-- Such a value out of such a tuple. -/
theorem g_xE (m n : Nat) (p p' : World → Value → Prop) {j d k : Nat} {c : Option Nat} (hp : ∀ u vs, p u vs → ∃ cs v, vs = .tuple cs ∧ cs[k]? = some v ∧ p' u v) (hop : o.op = .extract (.tmp d) k := by rfl) (hm : R.E[m]? = some ⟨j, d, c, p⟩ := by rfl) (hcc : (c.all (· == i)) = true := by rfl) (hn0 : (R.E[n]?).map (·.p) = some p' := by rfl) (hd : (hasDep o j && R.S.contains d) = true := by rfl) (hc : R.chkE ops n i o = true := by rfl) : OG R P ops Q i o := fun f t u a X => by
  rw [Bool.and_eq_true, List.contains_iff_mem] at hd
  obtain ⟨h2, h4⟩ := hd
  obtain ⟨d', q', hd', hq', _, _, _, _, _, _, _, _, hw⟩ := chkE_parts hc
  obtain ⟨cs, v, e1, e2, hv⟩ := hp u (t d) (X.val2 hm h2 hcc)
  exact X.go hw fun K hK => wp_extract hop ((X.inS h4).trans e1) e2 (hK _ _ (X.putE hc (fun q' hq' => by rw [hq'] at hn0; cases hn0; exact hv) (Below.refl _ _)))
/-- A known value out of such a tuple. -/
theorem g_xV (m : Nat) (p : World → Value → Prop) {j d k : Nat} {c : Option Nat} {v : Value} (hp : ∀ u vs, p u vs → ∃ cs, vs = .tuple cs ∧ cs[k]? = some v) (hop : o.op = .extract (.tmp d) k := by rfl) (hm : R.E[m]? = some ⟨j, d, c, p⟩ := by rfl) (hcc : (c.all (· == i)) = true := by rfl) (hd : (hasDep o j && R.S.contains d) = true := by rfl) (hv : some v = pickV i R.G := by rfl) (hc : R.chk ops i o = true := by rfl) : OG R P ops Q i o :=
  g_pure hv hc fun f t u a X K hK => by
    rw [Bool.and_eq_true, List.contains_iff_mem] at hd
    obtain ⟨h2, h4⟩ := hd
    obtain ⟨cs, e1, e2⟩ := hp u (t d) (X.val2 hm h2 hcc)
    exact wp_extract hop ((X.inS h4).trans e1) e2 hK
/-- An append that has room. -/
theorem run_append_in (w : World) {T ty e : TypeId} {ti : TypeInfo} (ht : P.underlying T = some (.slice e)) (hi : P.info? e = some ti) {b n cap : Nat} {l news : List Value} (hcv : CV w b l) {ad : Addr} {m c : Nat} (hl : news.length = m * ti.size) (hnews : ∀ j v, news[j]? = some v → w.cell? (ad.add j) = some v) (h1 : ∀ v ∈ news, v.oneCell' = true) (hroom : n + m ≤ cap) (hfit : n * ti.size + news.length ≤ l.length) :
    (Builtin.append_ #[T, T] ty #[.slice (some ⟨b, 0, none⟩) n cap, .slice (some ad) m c]).run P w = .ok (.slice (some ⟨b, 0, none⟩) (n + m) cap) (w.setCells b (n * ti.size) news) := by
  have hf := run_firstCells_some (P := P) w ti.size m ad m c news hl hnews
  have hst := run_storeCells_cells (P := P) b (n * ti.size) news 0 w (fun j hj => by
    rw [Nat.add_zero, (hcv (n * ti.size + j) _ (List.getElem?_eq_getElem (by omega))).1]; rfl) (fun j hj => by
    rw [Nat.add_zero]; exact (hcv (n * ti.size + j) _ (List.getElem?_eq_getElem (by omega))).2) h1
  rw [Nat.add_zero] at hst
  simp [Builtin.append_, run_underlying ht, sizeOf, typeInfo, hi, Builtin.lenOf, hroom, hf, Addr.add_lit, hst]
theorem CV.mid {w : World} {b o : Nat} {xs ys zs news : List Value} (h : CV w b (xs ++ ys ++ zs)) (ho : xs.length = o) (hl : ys.length = news.length) : CV (w.setCells b o news) b (xs ++ news ++ zs) := fun j x hj => by
  subst ho
  rw [World.frozen?_setCells]
  have hlen : j < (xs ++ news ++ zs).length := (List.getElem?_eq_some_iff.1 hj).1
  have hlen' : j < (xs ++ ys ++ zs).length := by simp only [List.length_append] at hlen ⊢; omega
  have hold := h j _ (List.getElem?_eq_getElem hlen')
  refine ⟨?_, hold.2⟩
  by_cases h1 : j < xs.length
  · rw [World.cell?_setCells_out b _ _ _ _ (fun _ _ => Or.inl (by simpa using h1)), hold.1, ← List.getElem?_eq_getElem hlen', ← hj, List.append_assoc, List.append_assoc, List.getElem?_append_left h1, List.getElem?_append_left h1]
  · by_cases h2 : j < xs.length + news.length
    · have hin := World.cell?_setCells_in b news xs.length w (fun i hi => by
        rw [(h (xs.length + i) _ (List.getElem?_eq_getElem (by simp only [List.length_append]; omega))).1]; rfl) (j - xs.length) (by omega)
      rw [show xs.length + (j - xs.length) = j by omega] at hin
      rw [hin, ← hj, List.append_assoc, List.getElem?_append_right (by omega), List.getElem?_append_left (by omega), List.getElem?_eq_getElem]
    · rw [World.cell?_setCells_out b _ _ _ _ (fun _ _ => Or.inr (by show xs.length + news.length ≤ j; omega)), hold.1, ← List.getElem?_eq_getElem hlen', ← hj, List.getElem?_append_right (by simp only [List.length_append]; omega), List.getElem?_append_right (by simp only [List.length_append]; omega)]
      simp only [List.length_append, hl]
theorem Chg.cellsAt (u : World) (b o : Nat) (vs : List Value) : Chg b u (u.setCells b o vs) where
  size := by rw [size_setCells]
  oth := fun n l hn h => h.cells hn _ _
/-- An append onto a row of one's own that has room; what is put behind it is such a value. -/
theorem g_pI (k m : Nat) (p : World → Value → Prop) {T e : TypeId} {ti : TypeInfo} {x : Operand} {j d b n cap : Nat} {xs ys zs news : List Value} (ht : P.underlying T = some (.slice e)) (hi : P.info? e = some ti)
    (hp : ∀ u y, p u y → ∃ ad c, y = .slice (some ad) 1 c ∧ ∀ j v, news[j]? = some v → u.cell? (ad.add j) = some v) (h1 : ∀ v ∈ news, v.oneCell' = true) (hl : news.length = ti.size) (hxl : xs.length = n * ti.size) (hyl : ys.length = news.length) (hroom : n + 1 ≤ cap)
    (hop : o.op = .call { callee := .builtin .append, args := [x, .tmp d].toArray, argTypes := [T, T].toArray } := by rfl) (hn : R.es[k]? = some (true, b, xs ++ ys ++ zs, .all i (xs ++ news ++ zs)) := by rfl) (hx : evR R i o x = some (.slice (some ⟨b, 0, none⟩) n cap) := by rfl) (hm : R.E[m]? = some ⟨j, d, some i, p⟩ := by rfl) (hd : (hasDep o j && R.S.contains d) = true := by rfl) (hv : some (.slice (some ⟨b, 0, none⟩) (n + 1) cap) = pickV i R.G := by rfl)
    (hw : R.nw = [] := by rfl) (hE : (R.E.all (eGone R.O i o)) = true := by rfl) (hc : ((match o.dst with | some d => ownsA i d R.G && apart i d R.Ns && R.S.contains d | none => false) && R.okO i o && ((R.es.eraseIdx k).all fun q => q.2.2.2.free i) && (wants R ops o == some true)) = true := by rfl) : OG R P ops Q i o := fun f t u a X => by
  rw [Bool.and_eq_true, List.contains_iff_mem] at hd
  obtain ⟨h2, h4⟩ := hd
  cases hdd : o.dst with
  | none => rw [hdd] at hc; simp at hc
  | some d' =>
    rw [hdd] at hc
    simp only [Bool.and_eq_true, List.contains_iff_mem, beq_iff_eq] at hc
    obtain ⟨q1, q2, q3⟩ := X.I.2.1.get hn
    have q3 : CV u b (bif f i then xs ++ news ++ zs else xs ++ ys ++ zs) := q3
    rw [X.fi] at q3
    have q3 : CV u b (xs ++ ys ++ zs) := q3
    have hy : p u (t d) := X.val hm h2 rfl
    obtain ⟨ad, c, ey, hnews⟩ := hp u (t d) hy
    have hr := run_append_in (P := P) u (ty := o.type) ht hi q3 (m := 1) (c := c) (by omega) hnews h1 hroom (by simp only [List.length_append]; omega)
    have cc := Chg.cellsAt u b (n * ti.size) news
    refine X.go hc.2 fun K hK => wp_app hop (X.ev hx) ((X.inS h4).trans ey) hr (hK _ _ ⟨updT t d' _, by rw [hdd]; exact X.F.put X.parts.1 hc.1.1.1.2 _, ?_, ?_, Gs.stepA X.I.2.2.1 hc.1.1.1.1.1 hv.symm, okO_spec hc.1.1.2 X.I.2.2.2.1 X.dep, Ns.step X.I.2.2.2.2.1 hc.1.1.1.1.2, ?_⟩)
    · have hM := X.I.1
      rw [hw] at hM ⊢
      exact { bel := below_setCells (q2 rfl) _ _ _ hM.bel, lo := hM.lo, sz := by rw [size_setCells]; exact hM.sz, ks := trivial, ex := trivial, nw := trivial, nd := trivial }
    · exact KC.put cc X.I.2.1 hn X.nd hc.1.2 (by simp only [Wr.val, updF_eq, cond_true]; exact q3.mid hxl hyl)
    · exact Es.gone (O := R.O) (fun j hj => X.later (by unfold Rg.later; rw [hj]; simp)) X.dep hE
/-- A row of one's own, with what lies behind it. -/
def PG (lo s n : Nat) (xs : List Value) (u : World) (v : Value) : Prop := ∃ b cap zs, v = .slice (some ⟨b, 0, none⟩) n cap ∧ lo ≤ b ∧ b < u.heap.size ∧ n ≤ cap ∧ zs.length = (cap - n) * s ∧ CV u b (xs ++ zs)
theorem PG.stab {lo s n : Nat} {xs : List Value} {u v : World} {x : Value} (hB : Below u.heap.size u v) (h : PG lo s n xs u x) : PG lo s n xs v x := by
  obtain ⟨b, cap, zs, e, h1, h2, h3, h4, h5⟩ := h
  exact ⟨b, cap, zs, e, h1, Nat.lt_of_lt_of_le h2 hB.size, h3, h4, h5.below hB h2⟩
theorem PG.mono {lo lo' s n : Nat} {xs : List Value} {u : World} {x : Value} (h : PG lo s n xs u x) (hl : lo' ≤ lo) : PG lo' s n xs u x := by
  obtain ⟨b, cap, zs, e, h1, h⟩ := h
  exact ⟨b, cap, zs, e, Nat.le_trans hl h1, h⟩
/-- A full row, or none. -/
def Full (u : World) (s n : Nat) (xs : List Value) (v : Value) : Prop := xs.length = n * s ∧ ((v = .slice none 0 0 ∧ n = 0) ∨ ∃ b, v = .slice (some ⟨b, 0, none⟩) n n ∧ CV u b xs)
theorem run_append_full (w : World) {T ty e : TypeId} {ti : TypeInfo} {z : Value} (ht : P.underlying T = some (.slice e)) (hi : P.info? e = some ti) (hz : ti.zero = some z) (hzs : z.cells.size = ti.size) {lo n : Nat} {xs news : List Value} {v : Value} (hf : Full w ti.size n xs v) {ad : Addr} {c : Nat} (hl : news.length = ti.size) (hnews : ∀ j v, news[j]? = some v → w.cell? (ad.add j) = some v) (hlo : lo ≤ w.heap.size) (hb : (n + 1) * ti.bytes ≤ 140737488355328) (h63 : n + 1 ≤ 9223372036854775807) :
    ∃ v' w', (Builtin.append_ #[T, T] ty #[v, .slice (some ad) 1 c]).run P w = .ok v' w' ∧ Below w.heap.size w w' ∧ PG lo ti.size (n + 1) (xs ++ news) w' v' := by
  obtain ⟨hx, hf⟩ := hf
  rcases hf with ⟨rfl, rfl⟩ | ⟨b, rfl, hcv⟩
  · have hxs : xs = [] := List.eq_nil_of_length_eq_zero (by omega)
    subst hxs
    have hr := run_append_nil (P := P) w T ty e ti z ht hi hz ad 1 c news (by omega) hnews (by omega) (by omega) (by omega)
    refine ⟨_, _, hr, balloc (bself w).drew _, w.heap.size, _, (Builtin.zeroCells z.cells (grownCap w 1 0 e - 1)).toList, rfl, hlo, by simp, grownCap_ge w 1 0 e, by rw [Array.length_toList, size_zeroCells, hzs], ?_⟩
    have e1 : news.toArray ++ Builtin.zeroCells z.cells (grownCap w 1 0 e - 1) = (news ++ (Builtin.zeroCells z.cells (grownCap w 1 0 e - 1)).toList).toArray := by apply Array.ext'; simp
    rw [e1, List.nil_append]; exact CV.new w.drew _ e
  · have hr := run_append_grow (P := P) w T ty e ti z ht hi hz ⟨b, 0, none⟩ n n xs hx (fun j v hj => by
      have e1 : (⟨b, 0, none⟩ : Addr).add j = ⟨b, j, none⟩ := by unfold Addr.add; split <;> simp_all
      rw [e1]; exact (hcv j v hj).1) ad 1 c news (by omega) hnews (by omega) (by omega) (growslice_fits (by omega) hb)
    refine ⟨_, _, hr, balloc (bself w).drew _, w.heap.size, _, (Builtin.zeroCells z.cells (grownCap w (n + 1) n e - (n + 1))).toList, rfl, hlo, by simp, grownCap_ge w (n + 1) n e, by rw [Array.length_toList, size_zeroCells, hzs], ?_⟩
    have e1 : xs.toArray ++ news.toArray ++ Builtin.zeroCells z.cells (grownCap w (n + 1) n e - (n + 1)) = (xs ++ news ++ (Builtin.zeroCells z.cells (grownCap w (n + 1) n e - (n + 1))).toList).toArray := by apply Array.ext'; simp
    rw [e1]; exact CV.new w.drew _ e
/-- An append of such a value onto a row that is full, or none. -/
theorem g_pG (m n' : Nat) (p : World → Value → Prop) {T e : TypeId} {ti : TypeInfo} {z : Value} {x : Operand} {j d n : Nat} {xs news : List Value} {vs : Value} (ht : P.underlying T = some (.slice e)) (hi : P.info? e = some ti) (hz : ti.zero = some z) (hzs : z.cells.size = ti.size)
    (hp : ∀ u y, p u y → ∃ ad c, y = .slice (some ad) 1 c ∧ ∀ j v, news[j]? = some v → u.cell? (ad.add j) = some v) (hl : news.length = ti.size) (hf : ∀ f u, KC f u R.lo R.base R.es → Full u ti.size n xs vs) (hb : (n + 1) * ti.bytes ≤ 140737488355328) (h63 : n + 1 ≤ 9223372036854775807)
    (hop : o.op = .call { callee := .builtin .append, args := [x, .tmp d].toArray, argTypes := [T, T].toArray } := by rfl) (hx : evR R i o x = some vs := by rfl) (hm : R.E[m]? = some ⟨j, d, some i, p⟩ := by rfl) (hd : (hasDep o j && R.S.contains d) = true := by rfl) (hn0 : (R.E[n']?).map (·.p) = some (PG R.base ti.size (n + 1) (xs ++ news)) := by rfl) (hc : R.chkE ops n' i o = true := by rfl) : OG R P ops Q i o := fun f t u a X => by
  rw [Bool.and_eq_true, List.contains_iff_mem] at hd
  obtain ⟨h2, h4⟩ := hd
  obtain ⟨d', q', hd', hq', _, _, _, _, _, _, _, _, hw⟩ := chkE_parts hc
  have hy : p u (t d) := X.val hm h2 rfl
  obtain ⟨ad, c, ey, hnews⟩ := hp u (t d) hy
  obtain ⟨v', w', hr, hB, hg⟩ := run_append_full (P := P) (lo := R.base) u (ty := o.type) ht hi hz hzs (hf f u X.I.2.1) (c := c) hl hnews X.I.1.sz hb h63
  exact X.go hw fun K hK => wp_app hop (X.ev hx) ((X.inS h4).trans ey) hr (hK _ _ (X.putE hc (fun q hq => by rw [hq] at hn0; simp only [Option.map_some, Option.some.injEq] at hn0; rw [hn0]; exact hg) hB))
/-- A slice of so many values, each of some cells. -/
theorem g_bR (n : Nat) (p : World → Value → Prop) (ks : List Nat) (vs cs : List Value) {T e : TypeId} {m : Nat} {xs : List (Nat × Operand)} (hr : ∀ w, (Instr.buildSlice T m (ks.zip vs).toArray).run P w = .ok (.slice (some ⟨w.heap.size, 0, none⟩) m m) (w.alloc (.cells cs.toArray e))) (hp : ∀ u : World, R.base ≤ u.heap.size → p (u.alloc (.cells cs.toArray e)) (.slice (some ⟨u.heap.size, 0, none⟩) m m)) (hop : o.op = .buildSlice T m xs.toArray := by rfl) (hks : xs.map Prod.fst = ks := by rfl) (hx : (xs.map Prod.snd).mapM (evR R i o) = some vs := by rfl) (hn : (R.E[n]?).map (·.p) = some p := by rfl) (hc : R.chkE ops n i o = true := by rfl) : OG R P ops Q i o := fun f t u a X => by
  obtain ⟨d, q, hd, hq, _, _, _, _, _, _, _, _, hw⟩ := chkE_parts hc
  exact X.go hw fun K hK => wp_bS hop (X.evs hx) (by rw [hks]; exact hr u) (hK _ _ (X.putE hc (fun q hq => by rw [hq] at hn; cases hn; exact hp u X.I.1.sz) (balloc (bself u) _)))
/-- A load of a row that lies somewhere in a block. -/
theorem g_lR (k c : Nat) {T : TypeId} {x : Operand} {b : Nat} {l cs : List Value} {dd : TypeDesc} (hs : ∀ j v, cs[j]? = some v → l[c + j]? = some v) (hu : P.underlying T = some dd) (hi : (P.info? T).map (·.size) = some cs.length) (hop : o.op = .load T x := by rfl) (hk : R.cur i k = some (b, l) := by rfl) (hx : evR R i o x = some (.pointer (some ⟨b, c, none⟩)) := by rfl)
    (hr : dd.isRow = true := by rfl) (hv : some (.agg cs.toArray) = pickV i R.G := by rfl) (hc : R.chk ops i o = true := by rfl) : OG R P ops Q i o :=
  g_pure hv hc fun f t u a X K hK => wp_load_mid T x hop b c (X.ev hx) cs dd (fun j v hj => ((X.cur hk).1 (c + j) v (hs j v hj)).1) hu hr hi hK
end
/-- A slice that holds one value, of these cells. -/
def P1 (news : List Value) (u : World) (v : Value) : Prop := ∃ b c, v = .slice (some ⟨b, 0, none⟩) 1 c ∧ b < u.heap.size ∧ CV u b news
theorem P1.stab {news : List Value} {u v : World} {x : Value} (hB : Below u.heap.size u v) (h : P1 news u x) : P1 news v x := by
  obtain ⟨b, c, e, h1, h2⟩ := h
  exact ⟨b, c, e, Nat.lt_of_lt_of_le h1 hB.size, h2.below hB h1⟩
theorem P1.new (news : List Value) (t : TypeId) (u : World) : P1 news (u.alloc (.cells news.toArray t)) (.slice (some ⟨u.heap.size, 0, none⟩) 1 1) := ⟨_, _, rfl, by simp, CV.new u _ t⟩
theorem P1.at {news : List Value} (u : World) (y : Value) (h : P1 news u y) : ∃ ad c, y = .slice (some ad) 1 c ∧ ∀ j v, news[j]? = some v → u.cell? (ad.add j) = some v := by
  obtain ⟨b, c, e, h1, h2⟩ := h
  refine ⟨_, c, e, fun j v hj => ?_⟩
  have e : (⟨b, 0, none⟩ : Addr).add j = ⟨b, j, none⟩ := by unfold Addr.add; split <;> simp_all
  rw [e]; exact (h2 j v hj).1
/-- A slice of one's own with these cells. -/
def PS (lo n : Nat) (xs : List Value) (u : World) (v : Value) : Prop := ∃ b cap, v = .slice (some ⟨b, 0, none⟩) n cap ∧ lo ≤ b ∧ b < u.heap.size ∧ n ≤ cap ∧ CV u b xs
theorem PS.stab {lo n : Nat} {xs : List Value} {u v : World} {x : Value} (hB : Below u.heap.size u v) (h : PS lo n xs u x) : PS lo n xs v x := by
  obtain ⟨b, cap, e, h1, h2, h3, h5⟩ := h
  exact ⟨b, cap, e, h1, Nat.lt_of_lt_of_le h2 hB.size, h3, h5.below hB h2⟩
theorem PS.mono {lo lo' n : Nat} {xs : List Value} {u : World} {x : Value} (h : PS lo n xs u x) (hl : lo' ≤ lo) : PS lo' n xs u x := by
  obtain ⟨b, cap, e, h1, h⟩ := h
  exact ⟨b, cap, e, Nat.le_trans hl h1, h⟩
theorem PS.new (n : Nat) (xs : List Value) (t : TypeId) {lo : Nat} (u : World) (h : lo ≤ u.heap.size) : PS lo n xs (u.alloc (.cells xs.toArray t)) (.slice (some ⟨u.heap.size, 0, none⟩) n n) := ⟨_, _, rfl, h, by simp, Nat.le_refl _, CV.new u _ t⟩
/-- Such a slice, and a number, as a tuple. -/
def PT (e : Int) (lo n : Nat) (xs : List Value) (u : World) (v : Value) : Prop := ∃ y, v = .tuple #[y, .int .i64 e] ∧ PS lo n xs u y
theorem PT.stab {e : Int} {lo n : Nat} {xs : List Value} {u v : World} {x : Value} (hB : Below u.heap.size u v) (h : PT e lo n xs u x) : PT e lo n xs v x := by
  obtain ⟨y, e1, h1⟩ := h
  exact ⟨y, e1, h1.stab hB⟩
theorem PT.mono {e : Int} {lo lo' n : Nat} {xs : List Value} {u : World} {x : Value} (h : PT e lo n xs u x) (hl : lo' ≤ lo) : PT e lo' n xs u x := by
  obtain ⟨y, e1, h1⟩ := h
  exact ⟨y, e1, h1.mono hl⟩
theorem PT.fst {e : Int} {lo n : Nat} {xs : List Value} (u : World) (v : Value) (h : PT e lo n xs u v) : ∃ cs y, v = .tuple cs ∧ cs[0]? = some y ∧ PS lo n xs u y := by
  obtain ⟨y, e1, h1⟩ := h
  exact ⟨_, y, e1, rfl, h1⟩
theorem PT.snd {e : Int} {lo n : Nat} {xs : List Value} (u : World) (v : Value) (h : PT e lo n xs u v) : ∃ cs, v = .tuple cs ∧ cs[1]? = some (.int .i64 e) := by
  obtain ⟨y, e1, h1⟩ := h
  exact ⟨_, e1, rfl⟩
theorem Bk.more3 {lo : Nat} {u0 u : World} {k0 ks : List Blk} {b : Nat} {l : List Value} (K0 : Bk lo u0 k0) (K : Bk lo u ks) (hb : u0.heap.size ≤ b) (hlt : b < u.heap.size) (hc : CV u b l) (e : ∀ x ∈ ks.map (·.2.1), x ∈ k0.map (·.2.1)) : Bk lo u (aK ks [(false, b, l)]) := by
  rw [aK_eq]
  refine ⟨KA.app K.a (KA.c hlt hc trivial), ?_⟩
  rw [List.map_append, List.nodup_append]
  refine ⟨K.n, by simp, fun x hx y hy h => ?_⟩
  have := K0.a.mem x (e x hx)
  simp at hy
  omega
theorem CV.pre2 {u : World} {b : Nat} {xs ys : List Value} (h : CV u b (xs ++ ys)) : CV u b xs := fun j v hj => h j v (by
  rw [List.getElem?_append_left (List.getElem?_eq_some_iff.1 hj).1]; exact hj)
end Go.Proofs.Ytgfggkinmhhdnaa
/- Copies of slices of numbers: what is known of them. -/
namespace Go.Proofs.Ytgfggkinmhhdnaa
open Go.RowKit
set_option linter.unusedVariables false
set_option linter.unusedSimpArgs false
/-- An empty slice of one's own. -/
def PE (base : Nat) (u : World) (v : Value) : Prop := ∃ b, v = .slice (some ⟨b, 0, none⟩) 0 0 ∧ base ≤ b ∧ u.heap[b]? = some (.cells #[] 24 (0, 0))
/-- A slice of one's own that holds the numbers ns. -/
def PO (base : Nat) (ns : List Int) (u : World) (v : Value) : Prop := (∃ b c, v = .slice (some ⟨b, 0, none⟩) ns.length c) ∧ u.ownsRow base 24 4 v ns.length (flN ns)
theorem PE.stab {base : Nat} {u v : World} {x : Value} (hB : Below u.heap.size u v) (h : PE base u x) : PE base v x := by
  obtain ⟨b, e, h1, h2⟩ := h
  exact ⟨b, e, h1, by rw [hB.block b (Array.getElem?_eq_some_iff.1 h2).1]; exact h2⟩
theorem below_grown {u v : World} (hB : Below u.heap.size u v) : u.grownBy v none := ⟨hB.os, hB.tape, hB.output, hB.size, fun k hk _ => hB.block k hk⟩
theorem PO.stab {base : Nat} {ns : List Int} {u v : World} {x : Value} (hB : Below u.heap.size u v) (h : PO base ns u x) : PO base ns v x := by
  obtain ⟨⟨b, c, rfl⟩, h2⟩ := h
  exact ⟨⟨b, c, rfl⟩, h2.kept (below_grown hB) (.inr (by simp [Value.ownBlock]))⟩
theorem PO.at {base : Nat} {ns : List Int} {u : World} {x : Value} (h : PO base ns u x) : ∃ b c, x = .slice (some ⟨b, 0, none⟩) ns.length c ∧ b < u.heap.size ∧ SN u b 0 ns := by
  obtain ⟨⟨b, c, rfl⟩, h2⟩ := h
  have hl := h2.lt b rfl
  refine ⟨b, c, rfl, hl.2, fun j v hj => ?_⟩
  have := h2.cells (g := b) rfl j v hj
  have e : (⟨b, 0, none⟩ : Addr).add j = ⟨b, j, none⟩ := by unfold Addr.add; split <;> simp_all
  rw [e] at this
  rw [Nat.zero_add]; exact this
theorem SN.news {u : World} {g o : Nat} {ns : List Int} (h : SN u g o ns) : ∀ j v, (flN ns)[j]? = some v → u.cell? ((⟨g, o, none⟩ : Addr).add j) = some v := fun j v hj => by
  have e : (⟨g, o, none⟩ : Addr).add j = ⟨g, o + j, none⟩ := by unfold Addr.add; split <;> simp_all
  rw [e]; exact h j v hj
theorem Stab.cons {i d : Nat} {c : Option Nat} {p : World → Value → Prop} {E : List En} (h : ∀ u v x, Below u.heap.size u v → p u x → p v x) (r : Stab E) : Stab (⟨i, d, c, p⟩ :: E) := fun q hq => by
  rcases List.mem_cons.1 hq with rfl | hq
  · exact h
  · exact r q hq
theorem PE.new {base : Nat} {u : World} (h : base ≤ u.heap.size) : PE base (u.alloc (.cells #[] 24)) (.slice (some ⟨u.heap.size, 0, none⟩) 0 0) := ⟨_, rfl, h, heap_alloc_new u _⟩
theorem PO.cv {base : Nat} {ns : List Int} {u : World} {x : Value} (h : PO base ns u x) : ∃ b c, x = .slice (some ⟨b, 0, none⟩) ns.length c ∧ base ≤ b ∧ b < u.heap.size ∧ CV u b (flN ns) := by
  obtain ⟨⟨b, c, rfl⟩, h2⟩ := h
  have hl := h2.lt b rfl
  refine ⟨b, c, rfl, hl.1, hl.2, fun j v hj => ⟨?_, ?_⟩⟩
  · have := h2.cells (g := b) rfl j v hj
    have e : (⟨b, 0, none⟩ : Addr).add j = ⟨b, j, none⟩ := by unfold Addr.add; split <;> simp_all
    rw [e] at this; exact this
  · rcases h2.2 with ⟨e, _⟩ | ⟨g', cap', cur, e, _, hh, _⟩
    · cases e
    · cases e; simp [World.frozen?, hh]
end Go.Proofs.Ytgfggkinmhhdnaa
