import Derived.Test.YtgfggkinmhhdnaaRS
/- Regions by one record: what lies where, what each operation yields; the rest is reckoned. -/
namespace Go.Proofs.Ytgfggkinmhhdnaa
open Go.RowKit
set_option linter.unusedVariables false
set_option linter.unusedSimpArgs false
/-- What a region writes into a block: nothing, the whole by one operation, cells by some. -/
inductive Wr where
  | no
  | all (i : Nat) (post : List Value)
  | cs (l : List (Nat × Nat × Value))
def cellsF (f : Nat → Bool) : List (Nat × Nat × Value) → List Value → List Value
  | [], l => l
  | q :: r, l => cellsF f r (bif f q.2.1 then l.set q.1 q.2.2 else l)
def Wr.val (f : Nat → Bool) (l : List Value) : Wr → List Value
  | .no => l
  | .all i p => bif f i then p else l
  | .cs c => cellsF f c l
def Wr.free (i : Nat) : Wr → Bool
  | .no => true
  | .all j _ => j != i
  | .cs c => c.all fun q => q.2.1 != i
def Wr.f (l : List Value) : Wr → List Value
  | .no => l
  | .all _ p => p
  | .cs c => c.foldl (fun l q => l.set q.1 q.2.2) l
/-- All operations that it names are among the first n. -/
def Wr.upto (n : Nat) : Wr → Bool
  | .no => true
  | .all j _ => decide (j < n)
  | .cs c => c.all fun q => decide (q.2.1 < n)
theorem updF_ne {f : Nat → Bool} {i j : Nat} (h : j ≠ i) : updF f i j = f j := by simp [updF, h]
theorem updF_eq {f : Nat → Bool} {i : Nat} : updF f i i = true := by simp [updF]
theorem cellsF_free {f : Nat → Bool} {i : Nat} : ∀ {c : List (Nat × Nat × Value)} {l : List Value}, (c.all fun q => q.2.1 != i) = true → cellsF (updF f i) c l = cellsF f c l
  | [], _, _ => rfl
  | q :: r, l, h => by
    simp only [List.all_cons, Bool.and_eq_true, bne_iff_ne, ne_eq] at h
    rw [cellsF, cellsF, updF_ne h.1]
    exact cellsF_free (by simpa using h.2)
theorem Wr.val_free {f : Nat → Bool} {i : Nat} {l : List Value} {x : Wr} (h : x.free i = true) : x.val (updF f i) l = x.val f l := by
  cases x with
  | no => rfl
  | all j p => simp only [Wr.free, bne_iff_ne, ne_eq] at h; simp only [Wr.val, updF_ne h]
  | cs c => exact cellsF_free h
theorem cellsF_all {f : Nat → Bool} {n : Nat} (hf : ∀ i, i < n → f i = true) : ∀ {c : List (Nat × Nat × Value)} {l : List Value}, (c.all fun q => decide (q.2.1 < n)) = true → cellsF f c l = c.foldl (fun l q => l.set q.1 q.2.2) l
  | [], _, _ => rfl
  | q :: r, l, h => by
    simp only [List.all_cons, Bool.and_eq_true, decide_eq_true_eq] at h
    rw [cellsF, hf _ h.1, List.foldl_cons]
    exact cellsF_all hf h.2
theorem Wr.val_all {f : Nat → Bool} {n : Nat} (hf : ∀ i, i < n → f i = true) {l : List Value} {x : Wr} (h : x.upto n = true) : x.val f l = x.f l := by
  cases x with
  | no => rfl
  | all j p => simp only [Wr.upto, decide_eq_true_eq] at h; simp only [Wr.val, Wr.f, hf _ h, cond_true]
  | cs c => exact cellsF_all hf h
theorem cellsF_none : ∀ {c : List (Nat × Nat × Value)} {l : List Value}, cellsF (fun _ => false) c l = l
  | [], _ => rfl
  | q :: r, l => by rw [cellsF]; exact cellsF_none
theorem Wr.val_none {l : List Value} {x : Wr} : x.val (fun _ => false) l = l := by
  cases x with
  | no => rfl
  | all j p => rfl
  | cs c => exact cellsF_none
abbrev Blk := Bool × Nat × List Value
abbrev Ent := Bool × Nat × List Value × Wr
/-- The blocks of a list lie in the world; those that are one's own are not below lo. -/
def KA (lo : Nat) (u : World) : List Blk → Prop
  | [] => True
  | q :: r => (q.2.1 < u.heap.size ∧ (q.1 = true → lo ≤ q.2.1) ∧ CV u q.2.1 q.2.2) ∧ KA lo u r
structure Bk (lo : Nat) (u : World) (ks : List Blk) : Prop where
  a : KA lo u ks
  n : (ks.map (·.2.1)).Nodup
def KC (f : Nat → Bool) (u : World) (lo base : Nat) : List Ent → Prop
  | [] => True
  | q :: r => (q.2.1 < base ∧ (q.1 = true → lo ≤ q.2.1) ∧ CV u q.2.1 (q.2.2.2.val f q.2.2.1)) ∧ KC f u lo base r
def withX : List Blk → List Wr → List Ent
  | [], _ => []
  | q :: r, [] => (q.1, q.2.1, q.2.2, .no) :: withX r []
  | q :: r, x :: xs => (q.1, q.2.1, q.2.2, x) :: withX r xs
def fX : List Blk → List Wr → List Blk
  | [], _ => []
  | q :: r, [] => q :: fX r []
  | q :: r, x :: xs => (q.1, q.2.1, x.f q.2.2) :: fX r xs
theorem withX_map : ∀ (ks : List Blk) (xs : List Wr), (withX ks xs).map (·.2.1) = ks.map (·.2.1)
  | [], _ => rfl
  | q :: r, [] => by simp only [withX, List.map_cons, withX_map r []]
  | q :: r, x :: xs => by simp only [withX, List.map_cons, withX_map r xs]
theorem fX_map : ∀ (ks : List Blk) (xs : List Wr), (fX ks xs).map (·.2.1) = ks.map (·.2.1)
  | [], _ => rfl
  | q :: r, [] => by simp only [fX, List.map_cons, fX_map r []]
  | q :: r, x :: xs => by simp only [fX, List.map_cons, fX_map r xs]
theorem KA.start {lo : Nat} {u : World} : ∀ {ks : List Blk} (xs : List Wr), KA lo u ks → KC (fun _ => false) u lo u.heap.size (withX ks xs)
  | [], _, _ => trivial
  | q :: r, [], h => ⟨⟨h.1.1, h.1.2.1, h.1.2.2⟩, KA.start [] h.2⟩
  | q :: r, x :: xs, h => ⟨⟨h.1.1, h.1.2.1, by rw [Wr.val_none]; exact h.1.2.2⟩, KA.start xs h.2⟩
theorem KC.fin {f : Nat → Bool} {u : World} {lo base n : Nat} (hf : ∀ i, i < n → f i = true) (hb : base ≤ u.heap.size) : ∀ {ks : List Blk} (xs : List Wr), (xs.all (Wr.upto n)) = true → KC f u lo base (withX ks xs) → KA lo u (fX ks xs)
  | [], _, _, _ => trivial
  | q :: r, [], hx, h => ⟨⟨Nat.lt_of_lt_of_le h.1.1 hb, h.1.2.1, h.1.2.2⟩, KC.fin hf hb [] rfl h.2⟩
  | q :: r, x :: xs, hx, h => by
    simp only [List.all_cons, Bool.and_eq_true] at hx
    have h1 := h.1.2.2
    have h1 : CV u q.2.1 (x.val f q.2.2) := h1
    rw [Wr.val_all hf hx.1] at h1
    exact ⟨⟨Nat.lt_of_lt_of_le h.1.1 hb, h.1.2.1, h1⟩, KC.fin hf hb xs hx.2 h.2⟩
theorem KC.below {f : Nat → Bool} {u v : World} {lo base m : Nat} (hB : Below m u v) (hm : base ≤ m) : ∀ {es : List Ent}, KC f u lo base es → KC f v lo base es
  | [], _ => trivial
  | q :: r, h => ⟨⟨h.1.1, h.1.2.1, h.1.2.2.below hB (Nat.lt_of_lt_of_le h.1.1 hm)⟩, KC.below hB hm h.2⟩
theorem KC.free {f : Nat → Bool} {u : World} {lo base i : Nat} : ∀ {es : List Ent}, (es.all fun q => q.2.2.2.free i) = true → KC f u lo base es → KC (updF f i) u lo base es
  | [], _, _ => trivial
  | q :: r, hx, h => by
    simp only [List.all_cons, Bool.and_eq_true] at hx
    exact ⟨⟨h.1.1, h.1.2.1, by rw [Wr.val_free hx.1]; exact h.1.2.2⟩, KC.free hx.2 h.2⟩
theorem KC.get {f : Nat → Bool} {u : World} {lo base : Nat} {q : Ent} : ∀ {es : List Ent} {k : Nat}, KC f u lo base es → es[k]? = some q → q.2.1 < base ∧ (q.1 = true → lo ≤ q.2.1) ∧ CV u q.2.1 (q.2.2.2.val f q.2.2.1)
  | [], k, _, h => by simp at h
  | x :: r, 0, h, e => by simp at e; subst e; exact h.1
  | x :: r, k + 1, h, e => KC.get (es := r) (k := k) h.2 (by simpa using e)
theorem KA.get {u : World} {lo : Nat} {q : Blk} : ∀ {ks : List Blk} {k : Nat}, KA lo u ks → ks[k]? = some q → q.2.1 < u.heap.size ∧ (q.1 = true → lo ≤ q.2.1) ∧ CV u q.2.1 q.2.2
  | [], k, _, h => by simp at h
  | x :: r, 0, h, e => by simp at e; subst e; exact h.1
  | x :: r, k + 1, h, e => KA.get (ks := r) (k := k) h.2 (by simpa using e)
theorem Bk.cv {lo : Nat} {u : World} {ks : List Blk} {o : Bool} {b : Nat} {l : List Value} (h : Bk lo u ks) (k : Nat) (e : ks[k]? = some (o, b, l) := by rfl) : CV u b l := (h.a.get e).2.2
theorem Bk.lt {lo : Nat} {u : World} {ks : List Blk} {o : Bool} {b : Nat} {l : List Value} (h : Bk lo u ks) (k : Nat) (e : ks[k]? = some (o, b, l) := by rfl) : b < u.heap.size := (h.a.get e).1
theorem Bk.lo {lo : Nat} {u : World} {ks : List Blk} {b : Nat} {l : List Value} (h : Bk lo u ks) (k : Nat) (e : ks[k]? = some (true, b, l) := by rfl) : lo ≤ b := (h.a.get e).2.1 rfl
/-- One block turns, by the operation i. -/
theorem KC.put {f : Nat → Bool} {u v : World} {lo base i b : Nat} (c : Chg b u v) : ∀ {es : List Ent} {k : Nat} {o : Bool} {l : List Value} {x : Wr}, KC f u lo base es → es[k]? = some (o, b, l, x) → (es.map (·.2.1)).Nodup →
    ((es.eraseIdx k).all fun q => q.2.2.2.free i) = true → CV v b (x.val (updF f i) l) → KC (updF f i) v lo base es
  | [], k, _, _, _, _, h, _, _, _ => by simp at h
  | q :: r, 0, o, l, x, h, e, n, hx, hv => by
    simp at e; subst e
    simp only [List.map_cons, List.nodup_cons] at n
    simp only [List.eraseIdx_cons_zero] at hx
    refine ⟨⟨h.1.1, h.1.2.1, hv⟩, ?_⟩
    have hr : ∀ {es : List Ent}, b ∉ es.map (·.2.1) → (es.all fun q => q.2.2.2.free i) = true → KC f u lo base es → KC (updF f i) v lo base es := by
      intro es
      induction es with
      | nil => intros; trivial
      | cons y ys ih =>
        intro hb hy hk
        simp only [List.map_cons, List.mem_cons, not_or] at hb
        simp only [List.all_cons, Bool.and_eq_true] at hy
        exact ⟨⟨hk.1.1, hk.1.2.1, by rw [Wr.val_free hy.1]; exact c.oth _ _ (fun e => hb.1 e.symm) hk.1.2.2⟩, ih hb.2 hy.2 hk.2⟩
    exact hr n.1 hx h.2
  | q :: r, k + 1, o, l, x, h, e, n, hx, hv => by
    simp only [List.map_cons, List.nodup_cons] at n
    simp only [List.eraseIdx_cons_succ, List.all_cons, Bool.and_eq_true] at hx
    have e' : r[k]? = some (o, b, l, x) := by simpa using e
    have hne : q.2.1 ≠ b := fun hq => n.1 (by rw [hq]; exact List.mem_map.2 ⟨_, List.mem_of_getElem? e', rfl⟩)
    exact ⟨⟨h.1.1, h.1.2.1, by rw [Wr.val_free hx.1]; exact c.oth _ _ hne h.1.2.2⟩, KC.put c (es := r) (k := k) h.2 e' n.2 hx.2 hv⟩
theorem Chg.cells (u : World) (b : Nat) (vs : List Value) : Chg b u (u.setCells b 0 vs) where
  size := by rw [size_setCells]
  oth := fun n l hn h => h.cells hn _ _
/-- A value that an operation makes, whatever it is: the operation, its slot, the operation that uses it up, and what is known of it till then. -/
structure En where
  i : Nat
  d : Nat
  c : Option Nat
  p : World → Value → Prop
def Es (f : Nat → Bool) (t : Nat → Value) (u : World) : List En → Prop
  | [] => True
  | q :: r => (f q.i = true → (∀ c, q.c = some c → f c = false) → q.p u (t q.d)) ∧ Es f t u r
def Stab (E : List En) : Prop := ∀ q ∈ E, ∀ u v x, Below u.heap.size u v → q.p u x → q.p v x
def eFree (i d : Nat) (E : List En) : Bool := E.all fun q => q.i != i && q.d != d
theorem Es.step {f : Nat → Bool} {t : Nat → Value} {u v : World} {i d : Nat} {x : Value} (hB : Below u.heap.size u v) : ∀ {E : List En}, Stab E → eFree i d E = true → Es f t u E → Es (updF f i) (updT t d x) v E
  | [], _, _, _ => trivial
  | q :: r, hs, he, h => by
    unfold eFree at he
    simp only [List.all_cons, Bool.and_eq_true, bne_iff_ne, ne_eq] at he
    refine ⟨fun h1 h2 => ?_, Es.step hB (fun q hq => hs q (List.mem_cons_of_mem _ hq)) (by unfold eFree; simpa using he.2) h.2⟩
    rw [updF_ne he.1.1] at h1
    have := h.1 h1 (fun c hc => by
      have h3 := h2 c hc
      by_cases e : c = i
      · subst e; rw [updF_eq] at h3; cases h3
      · rwa [updF_ne e] at h3)
    simp only [updT, if_neg he.1.2]
    exact hs q List.mem_cons_self _ _ _ hB this
/-- A region. -/
structure Rg where
  fr : List Value
  S : List Nat
  lo : Nat
  w : World
  base : Nat
  es : List Ent
  nw : List (Nat × Nat × List Value × Option (Nat × List Value))
  G : List (Nat × Nat × Value)
  O : List (Nat × Nat)
  N : List (Nat × Nat)
  E : List En
def nwF (f : Nat → Bool) (t : Nat → Value) : List (Nat × Nat × List Value × Option (Nat × List Value)) → List (Bool × Bool × Value × List Value × List Value)
  | [] => []
  | (i, d, pre, none) :: r => (f i, false, t d, pre, pre) :: nwF f t r
  | (i, d, pre, some (s, post)) :: r => (f i, f s, t d, pre, post) :: nwF f t r
def Rg.Ns (R : Rg) : List (Nat × Nat × Value) := R.N.map fun q => (q.1, q.2, R.fr.getD q.2 undef)
def Inv (R : Rg) (f : Nat → Bool) (t : Nat → Value) (u : World) : Prop :=
  MR R.lo R.w R.base [] [] (nwF f t R.nw) u ∧ KC f u R.lo R.base R.es ∧ Gs f t R.G ∧ Os f R.O ∧ Ns f t R.Ns ∧ Es f t u R.E
def Rg.ok (R : Rg) : Bool := decide R.S.Nodup && (R.S.all fun s => decide (s < R.fr.length)) && (R.G.all fun q => R.S.contains q.2.1) && (R.N.all fun q => R.S.contains q.2)
structure Xs (R : Rg) (ops : Array Oper) (f : Nat → Bool) (t : Nat → Value) (u : World) (a : Act) (i : Nat) (o : Oper) : Prop where
  ok : R.ok = true
  nd : (R.es.map (·.2.1)).Nodup
  st : Stab R.E
  F : Fr R.fr R.S a t
  I : Inv R f t u
  ho : ops[i]? = some o
  fi : f i = false
  dep : ∀ e ∈ o.after, Region.binds .any e = true → f e.on = true
/-- An operation of the region is right. -/
def OG (R : Rg) (P : Program) (ops : Array Oper) (Q : Exit → Act → World → Prop) (i : Nat) (o : Oper) : Prop :=
  ∀ f t u a, Xs R ops f t u a i o → wpOp P ops Q i (fun a' u' => ∃ t', Fr R.fr R.S a' t' ∧ Inv R (updF f i) t' u') a u
def hasDep (o : Oper) (n : Nat) : Bool := o.after.toList.any fun e => e.on == n && Region.binds .any e
theorem hasDep_spec {o : Oper} {n : Nat} {f : Nat → Bool} (h : hasDep o n = true) (dep : ∀ e ∈ o.after, Region.binds .any e = true → f e.on = true) : f n = true := by
  unfold hasDep at h
  rw [List.any_eq_true] at h
  obtain ⟨e, he, h⟩ := h
  rw [Array.mem_toList_iff] at he
  simp only [Bool.and_eq_true, beq_iff_eq] at h
  rw [← h.1]; exact dep e he h.2
/-- What an operand holds when operation i comes up. -/
def evR (R : Rg) (i : Nat) (o : Oper) : Operand → Option Value
  | .tmp s => match R.N.find? (fun q => q.2 == s && (q.1 == i || R.O.any fun p => p.1 == q.1 && p.2 == i)) with
    | some _ => some (R.fr.getD s undef)
    | none => match R.G.find? (fun q => q.2.1 == s) with
      | some q => if hasDep o q.1 then some q.2.2 else none
      | none => if R.S.contains s then none else some (R.fr.getD s undef)
  | .const v => some v
  | .global g => some (.pointer (some ⟨g, 0, none⟩))
  | .func f => some (.func (.func f) #[] #[])
theorem Ns.get {f : Nat → Bool} {t : Nat → Value} {q : Nat × Nat × Value} : ∀ {l : List (Nat × Nat × Value)}, Ns f t l → q ∈ l → f q.1 = false → t q.2.1 = q.2.2
  | [], _, h, _ => by cases h
  | x :: r, h, hq, hf => by
    rcases List.mem_cons.1 hq with rfl | hq
    · exact h.1 hf
    · exact Ns.get h.2 hq hf
theorem Gs.get {f : Nat → Bool} {t : Nat → Value} {q : Nat × Nat × Value} : ∀ {l : List (Nat × Nat × Value)}, Gs f t l → q ∈ l → f q.1 = true → t q.2.1 = q.2.2
  | [], _, h, _ => by cases h
  | x :: r, h, hq, hf => by
    rcases List.mem_cons.1 hq with rfl | hq
    · exact h.1 hf
    · exact Gs.get h.2 hq hf
theorem Os.get {f : Nat → Bool} {q : Nat × Nat} : ∀ {l : List (Nat × Nat)}, Os f l → q ∈ l → f q.1 = true → f q.2 = true
  | [], _, h, _ => by cases h
  | x :: r, h, hq, hf => by
    rcases List.mem_cons.1 hq with rfl | hq
    · exact h.1 hf
    · exact Os.get h.2 hq hf
section
variable {R : Rg} {P : Program} {ops : Array Oper} {Q : Exit → Act → World → Prop} {f : Nat → Bool} {t : Nat → Value} {u : World} {a : Act} {i : Nat} {o : Oper}
theorem Xs.parts (X : Xs R ops f t u a i o) : R.S.Nodup ∧ (∀ s ∈ R.S, s < R.fr.length) ∧ (∀ q ∈ R.G, q.2.1 ∈ R.S) ∧ (∀ q ∈ R.N, q.2 ∈ R.S) := by
  have := X.ok
  unfold Rg.ok at this
  simp only [Bool.and_eq_true, decide_eq_true_eq, List.all_eq_true, List.contains_iff_mem] at this
  exact ⟨this.1.1.1, this.1.1.2, this.1.2, this.2⟩
theorem Xs.inS (X : Xs R ops f t u a i o) {s : Nat} (hs : s ∈ R.S) : a.eval (.tmp s) = t s := X.F.evs X.parts.1 rfl X.parts.2.1 s hs
theorem Xs.ev (X : Xs R ops f t u a i o) {x : Operand} {v : Value} (h : evR R i o x = some v) : a.eval x = v := by
  cases x with
  | const v' => simp only [evR, Option.some.injEq] at h; subst h; rfl
  | global g => simp only [evR, Option.some.injEq] at h; subst h; rfl
  | func g => simp only [evR, Option.some.injEq] at h; subst h; rfl
  | tmp s =>
    simp only [evR] at h
    split at h
    · rename_i q hq
      simp only [Option.some.injEq] at h
      have hm := List.mem_of_find?_eq_some hq
      have hp := List.find?_some hq
      simp only [Bool.and_eq_true, beq_iff_eq, Bool.or_eq_true, List.any_eq_true] at hp
      have hf : f q.1 = false := by
        rcases hp.2 with e | ⟨p, hpm, e1, e2⟩
        · rw [e]; exact X.fi
        · have := X.I.2.2.2.1.get hpm
          rw [e1, e2] at this
          exact Os.not this X.fi
      have hn := X.I.2.2.2.2.1.get (q := (q.1, q.2, R.fr.getD q.2 undef)) (List.mem_map.2 ⟨q, hm, rfl⟩) hf
      rw [← hp.1] at h ⊢
      rw [X.inS (X.parts.2.2.2 q hm)]
      exact hn.trans h
    · split at h
      · rename_i q hq
        have hm := List.mem_of_find?_eq_some hq
        have hp := List.find?_some hq
        simp only [beq_iff_eq] at hp
        split at h
        · rename_i hd
          simp only [Option.some.injEq] at h
          rw [← hp, X.inS (X.parts.2.2.1 q hm), X.I.2.2.1.get hm (hasDep_spec hd X.dep), h]
        · cases h
      · split at h
        · cases h
        · rename_i hs
          simp only [Option.some.injEq] at h
          rw [X.F.out s (by simpa using hs), h]
theorem Xs.evs (X : Xs R ops f t u a i o) : ∀ {xs : List Operand} {vs : List Value}, xs.mapM (evR R i o) = some vs → xs.map a.eval = vs
  | [], vs, h => by simp at h; subst h; rfl
  | x :: r, vs, h => by
    simp only [List.mapM_cons, Option.bind_eq_bind, Option.bind_eq_some_iff, Option.pure_def, Option.some.injEq] at h
    obtain ⟨v, hv, l, hl, rfl⟩ := h
    rw [List.map_cons, X.ev hv, X.evs hl]
/-- Does the guard let it? -/
def wants (R : Rg) (ops : Array Oper) (o : Oper) : Option Bool :=
  match o.guard with
  | none => some true
  | some (g, b) => match ops[g]?.bind (fun x => x.dst), R.G.find? (fun q => q.1 == g) with
    | some s, some (_, s', .bool c) => if s == s' && hasDep o g then some (c == b) else none
    | some s, some (_, s', .tuple _) => if s == s' && hasDep o g then some false else none
    | _, _ => none
theorem Xs.wanted (X : Xs R ops f t u a i o) {c : Bool} (h : wants R ops o = some c) : Region.wanted o (yielded ops a.tmps) = c := by
  unfold wants at h
  split at h
  · rename_i hg
    simp only [Option.some.injEq] at h; subst h
    unfold Region.wanted; rw [hg]
  · rename_i g b hg
    split at h
    · rename_i s q0 s' c' hs hq
      have hm := List.mem_of_find?_eq_some hq
      have hp := List.find?_some hq
      simp only [beq_iff_eq] at hp
      split at h
      · rename_i hd
        simp only [Bool.and_eq_true, beq_iff_eq] at hd
        simp only [Option.some.injEq] at h
        obtain ⟨rfl, hd⟩ := hd
        have hin := X.parts.2.2.1 _ hm
        have ht : a.tmps[s]? = some (.bool c') := by
          have h1 := X.F.tmps X.parts.1 rfl s hin (X.parts.2.1 s hin)
          have h2 := X.I.2.2.1.get hm (by rw [hp]; exact hasDep_spec hd X.dep)
          rw [h1, h2]
        by_cases e : c' = b
        · subst e
          rw [wanted_of hg hs ht, ← h]; simp
        · have e2 : c' = !b := by cases c' <;> cases b <;> simp_all
          have h3 := unwanted_of hg hs ht e2
          rw [← h]
          have : (c' == b) = false := by simpa using e
          rw [this]; simpa using h3
      · cases h
    · rename_i s q0 s' vs hs hq
      have hm := List.mem_of_find?_eq_some hq
      have hp := List.find?_some hq
      simp only [beq_iff_eq] at hp
      split at h
      · rename_i hd
        simp only [Bool.and_eq_true, beq_iff_eq] at hd
        simp only [Option.some.injEq] at h
        obtain ⟨rfl, hd⟩ := hd
        have hin := X.parts.2.2.1 _ hm
        have ht : a.tmps[s]? = some (.tuple vs) := by
          have h1 := X.F.tmps X.parts.1 rfl s hin (X.parts.2.1 s hin)
          have h2 := X.I.2.2.1.get hm (by rw [hp]; exact hasDep_spec hd X.dep)
          rw [h1, h2]
        rw [← h]
        unfold Region.wanted yielded
        rw [hg]
        simp only [hs, Option.bind_some, ht]
        rfl
      · cases h
    · cases h
theorem Xs.go (X : Xs R ops f t u a i o) {K : Act → World → Prop} (hw : wants R ops o = some true) (h : ∀ K' : Act → World → Prop, (∀ a w, K a w → K' a w) → Oper.wp P o a u K' Q) : wpOp P ops Q i K a u :=
  wpOp_step X.ho fun K' hK => by rw [if_pos (X.wanted hw)]; exact h K' hK
end
end Go.Proofs.Ytgfggkinmhhdnaa
/- Regions by one record: the operations, one by one. -/
namespace Go.Proofs.Ytgfggkinmhhdnaa
open Go.RowKit
set_option linter.unusedVariables false
set_option linter.unusedSimpArgs false
def Rg.okO (R : Rg) (i : Nat) (o : Oper) : Bool := R.O.all fun p => p.1 != i || hasDep o p.2 || R.O.any fun q => q.2 == p.2 && hasDep o q.1
def Rg.nwfree (R : Rg) (i d : Nat) : Bool := (R.nw.all fun q => q.1 != i && q.2.1 != d && (match q.2.2.2 with | none => true | some p => p.1 != i)) && eFree i d R.E
/-- All that is asked of an operation that yields a value. -/
def Rg.chk (R : Rg) (ops : Array Oper) (i : Nat) (o : Oper) : Bool :=
  (match o.dst with | some d => ownsA i d R.G && apart i d R.Ns && R.nwfree i d && R.S.contains d | none => false) && R.okO i o && (R.es.all fun q => q.2.2.2.free i) && (wants R ops o == some true)
theorem nwF_free {f : Nat → Bool} {t : Nat → Value} {i d : Nat} {v : Value} : ∀ {nw : List (Nat × Nat × List Value × Option (Nat × List Value))}, (nw.all fun q => q.1 != i && q.2.1 != d && (match q.2.2.2 with | none => true | some p => p.1 != i)) = true → nwF (updF f i) (updT t d v) nw = nwF f t nw
  | [], _ => rfl
  | (j, e, pre, none) :: r, h => by
    simp only [List.all_cons, Bool.and_eq_true, bne_iff_ne, ne_eq, Bool.true_eq, and_true] at h
    rw [nwF, nwF, updF_ne h.1.1, nwF_free (nw := r) (by simpa using h.2)]
    simp only [updT, if_neg h.1.2]
  | (j, e, pre, some (s, post)) :: r, h => by
    simp only [List.all_cons, Bool.and_eq_true, bne_iff_ne, ne_eq] at h
    rw [nwF, nwF, updF_ne h.1.1.1, updF_ne h.1.2, nwF_free (nw := r) (by simpa using h.2)]
    simp only [updT, if_neg h.1.1.2]
theorem nwF_free0 {f : Nat → Bool} {t : Nat → Value} {i : Nat} : ∀ {nw : List (Nat × Nat × List Value × Option (Nat × List Value))}, (nw.all fun q => q.1 != i && (match q.2.2.2 with | none => true | some p => p.1 != i)) = true → nwF (updF f i) t nw = nwF f t nw
  | [], _ => rfl
  | (j, e, pre, none) :: r, h => by
    simp only [List.all_cons, Bool.and_eq_true, bne_iff_ne, ne_eq, Bool.true_eq, and_true] at h
    rw [nwF, nwF, updF_ne h.1, nwF_free0 (nw := r) (by simpa using h.2)]
  | (j, e, pre, some (s, post)) :: r, h => by
    simp only [List.all_cons, Bool.and_eq_true, bne_iff_ne, ne_eq] at h
    rw [nwF, nwF, updF_ne h.1.1, updF_ne h.1.2, nwF_free0 (nw := r) (by simpa using h.2)]
theorem okO_spec {R : Rg} {f : Nat → Bool} {i : Nat} {o : Oper} (h : R.okO i o = true) (hO : Os f R.O) (dep : ∀ e ∈ o.after, Region.binds .any e = true → f e.on = true) : Os (updF f i) R.O :=
  hO.step fun p hp e => by
    unfold Rg.okO at h
    have := List.all_eq_true.1 h p hp
    simp only [Bool.or_eq_true, bne_iff_ne, ne_eq, List.any_eq_true, Bool.and_eq_true, beq_iff_eq] at this
    rcases this with (h1 | h1) | ⟨q, hq, h1, h2⟩
    · exact absurd e h1
    · exact hasDep_spec h1 dep
    · rw [← h1]; exact hO.get hq (hasDep_spec h2 dep)
section
variable {R : Rg} {P : Program} {ops : Array Oper} {Q : Exit → Act → World → Prop} {f : Nat → Bool} {t : Nat → Value} {u : World} {a : Act} {i : Nat} {o : Oper}
theorem chk_parts (h : R.chk ops i o = true) : ∃ d, o.dst = some d ∧ ownsA i d R.G = true ∧ apart i d R.Ns = true ∧ ((R.nw.all fun q => q.1 != i && q.2.1 != d && (match q.2.2.2 with | none => true | some p => p.1 != i)) = true ∧ eFree i d R.E = true) ∧ d ∈ R.S ∧ R.okO i o = true ∧ (R.es.all fun q => q.2.2.2.free i) = true ∧ wants R ops o = some true := by
  unfold Rg.chk at h
  cases hd : o.dst with
  | none => rw [hd] at h; simp at h
  | some d =>
    rw [hd] at h
    rw [Bool.and_eq_true, Bool.and_eq_true, Bool.and_eq_true, Bool.and_eq_true, Bool.and_eq_true, Bool.and_eq_true, List.contains_iff_mem, beq_iff_eq] at h
    have h3 := h.1.1.1.1.2
    unfold Rg.nwfree at h3
    rw [Bool.and_eq_true] at h3
    exact ⟨d, rfl, h.1.1.1.1.1.1, h.1.1.1.1.1.2, h3, h.1.1.1.2, h.1.1.2, h.1.2, h.2⟩
theorem Xs.put (X : Xs R ops f t u a i o) {v : Value} {u' : World} (hv : some v = pickV i R.G) (hc : R.chk ops i o = true) (hM : MR R.lo R.w R.base [] [] (nwF f t R.nw) u') (hK : KC f u' R.lo R.base R.es) (hB : Below u.heap.size u u') :
    ∃ t', Fr R.fr R.S (a.put o.dst v) t' ∧ Inv R (updF f i) t' u' := by
  obtain ⟨d, hd, h1, h2, h3, h4, h5, h6, h7⟩ := chk_parts hc
  refine ⟨updT t d v, by rw [hd]; exact X.F.put X.parts.1 h4 v, ?_, hK.free h6, Gs.stepA X.I.2.2.1 h1 hv.symm, okO_spec h5 X.I.2.2.2.1 X.dep, Ns.step X.I.2.2.2.2.1 h2, Es.step hB X.st h3.2 X.I.2.2.2.2.2⟩
  rw [nwF_free h3.1]; exact hM
/-- An operation that yields a value and touches nothing. -/
theorem g_pure {v : Value} (hv : some v = pickV i R.G) (hc : R.chk ops i o = true) (h : ∀ f t u a, Xs R ops f t u a i o → ∀ K : Act → World → Prop, K (a.put o.dst v) u → Oper.wp P o a u K Q) : OG R P ops Q i o := fun f t u a X =>
  X.go (chk_parts hc).choose_spec.2.2.2.2.2.2.2 fun K hK => h f t u a X K (hK _ _ (X.put hv hc X.I.1 X.I.2.1 (Below.refl _ _)))
theorem g_mv {x : Operand} {v : Value} (hop : o.op = .move x := by rfl) (hx : evR R i o x = some v := by rfl) (hv : some v = pickV i R.G := by rfl) (hc : R.chk ops i o = true := by rfl) : OG R P ops Q i o :=
  g_pure hv hc fun f t u a X K hK => wp_move hop (X.ev hx) hK
theorem g_as {x : Operand} {v : Value} (hop : o.op = .assign x := by rfl) (hx : evR R i o x = some v := by rfl) (hv : some v = pickV i R.G := by rfl) (hc : R.chk ops i o = true := by rfl) : OG R P ops Q i o :=
  g_pure hv hc fun f t u a X K hK => wp_assign hop (X.ev hx) hK
theorem g_ex {x : Operand} {k : Nat} {cs : Array Value} {v : Value} (hop : o.op = .extract x k := by rfl) (hx : evR R i o x = some (.tuple cs) := by rfl) (hk : cs[k]? = some v := by rfl) (hv : some v = pickV i R.G := by rfl) (hc : R.chk ops i o = true := by rfl) : OG R P ops Q i o :=
  g_pure hv hc fun f t u a X K hK => wp_extract hop (X.ev hx) hk hK
theorem g_pk {c x y : Operand} {b : Bool} {v : Value} (hop : o.op = .pick c x y := by rfl) (hb : evR R i o c = some (.bool b) := by rfl) (hx : evR R i o (bif b then x else y) = some v := by rfl) (hv : some v = pickV i R.G := by rfl) (hc : R.chk ops i o = true := by rfl) : OG R P ops Q i o :=
  g_pure hv hc fun f t u a X K hK => wp_pick hop (X.ev hb) (by have := X.ev hx; cases b <;> exact this) hK
theorem g_bn {op : BinOp} {T T2 : TypeId} {x y : Operand} {vx vy v : Value} (hr : ∀ w, (do eqGuard op T x y vx vy; binOp op T vx vy : Sem Value).run P w = .ok v w) (hop : o.op = .binOp op T x y T2 := by rfl) (hx : evR R i o x = some vx := by rfl) (hy : evR R i o y = some vy := by rfl) (hv : some v = pickV i R.G := by rfl) (hc : R.chk ops i o = true := by rfl) : OG R P ops Q i o :=
  g_pure hv hc fun f t u a X K hK => wp_bin hop (X.ev hx) (X.ev hy) (hr u) hK
theorem g_un {op : UnOp} {T : TypeId} {x : Operand} {vx v : Value} (hr : ∀ w, (Op.unary op vx).run P w = .ok v w) (hop : o.op = .unOp op T x := by rfl) (hx : evR R i o x = some vx := by rfl) (hv : some v = pickV i R.G := by rfl) (hc : R.chk ops i o = true := by rfl) : OG R P ops Q i o :=
  g_pure hv hc fun f t u a X K hK => wp_un hop (X.ev hx) (hr u) hK
theorem g_ix {T : TypeId} {x y : Operand} {vx vy v : Value} (hr : ∀ w, (Instr.indexAt T vx vy).run P w = .ok v w) (hop : o.op = .indexAddr T x y := by rfl) (hx : evR R i o x = some vx := by rfl) (hy : evR R i o y = some vy := by rfl) (hv : some v = pickV i R.G := by rfl) (hc : R.chk ops i o = true := by rfl) : OG R P ops Q i o :=
  g_pure hv hc fun f t u a X K hK => wp_index hop (X.ev hx) (X.ev hy) (hr u) hK
theorem g_nl {x : Operand} {p : Addr} (hop : o.op = .nilCheck x := by rfl) (hx : evR R i o x = some (.pointer (some p)) := by rfl) (hv : some (.pointer (some p)) = pickV i R.G := by rfl) (hc : R.chk ops i o = true := by rfl) : OG R P ops Q i o :=
  g_pure hv hc fun f t u a X K hK => wp_nil hop (X.ev hx) hK
theorem g_fd {T : TypeId} {x : Operand} {k : Nat} {vx v : Value} (hr : ∀ w, (Instr.fieldAt T vx k).run P w = .ok v w) (hop : o.op = .fieldAddr T x k := by rfl) (hx : evR R i o x = some vx := by rfl) (hv : some v = pickV i R.G := by rfl) (hc : R.chk ops i o = true := by rfl) : OG R P ops Q i o :=
  g_pure hv hc fun f t u a X K hK => wp_field hop (X.ev hx) (hr u) hK
theorem g_sp {T : TypeId} {x : Operand} {vx v : Value} (hr : ∀ w, (Instr.arrayAt T vx).run P w = .ok v w) (hop : o.op = .sliceToArrayPointer T x := by rfl) (hx : evR R i o x = some vx := by rfl) (hv : some v = pickV i R.G := by rfl) (hc : R.chk ops i o = true := by rfl) : OG R P ops Q i o :=
  g_pure hv hc fun f t u a X K hK => wp_sap hop (X.ev hx) (hr u) hK
def evO (R : Rg) (i : Nat) (o : Oper) : Option Operand → Option (Option Value)
  | none => some none
  | some x => (evR R i o x).map some
theorem Xs.evO (X : Xs R ops f t u a i o) {x : Option Operand} {v : Option Value} (h : evO R i o x = some v) : x.map a.eval = v := by
  cases x with
  | none => simp only [Go.Proofs.Ytgfggkinmhhdnaa.evO, Option.some.injEq] at h; subst h; rfl
  | some x =>
    simp only [Go.Proofs.Ytgfggkinmhhdnaa.evO, Option.map_eq_some_iff] at h
    obtain ⟨y, hy, rfl⟩ := h
    rw [Option.map_some, X.ev hy]
theorem g_sl {T : TypeId} {x : Operand} {lo hi mx : Option Operand} {vx v : Value} {vl vh vm : Option Value} (hr : ∀ w, (Instr.sliceAt T vx vl vh vm).run P w = .ok v w) (hop : o.op = .slice T x lo hi mx := by rfl) (hx : evR R i o x = some vx := by rfl) (hl : evO R i o lo = some vl := by rfl) (hh : evO R i o hi = some vh := by rfl) (hm : evO R i o mx = some vm := by rfl) (hv : some v = pickV i R.G := by rfl) (hc : R.chk ops i o = true := by rfl) : OG R P ops Q i o :=
  g_pure hv hc fun f t u a X K hK => wp_slice hop (X.ev hx) (X.evO hl) (X.evO hh) (X.evO hm) (hr u) hK
theorem g_mk {fn : Fn} {first cap : List Operand} {vf : List Value} {v : Value} (hr : ∀ w, (Instr.makeFunc fn vf.toArray #[]).run P w = .ok v w) (hop : o.op = .makeFunc fn first.toArray cap.toArray := by rfl) (hf : first.mapM (evR R i o) = some vf := by rfl) (h0 : cap = [] := by rfl) (hv : some v = pickV i R.G := by rfl) (hc : R.chk ops i o = true := by rfl) : OG R P ops Q i o :=
  g_pure hv hc fun f t u a X K hK => wp_make hop (X.evs hf) h0 (hr u) hK
theorem wp_buildR {K : Act → World → Prop} {w : World} {T : TypeId} {parts : List (Nat × Operand)} {vps : List (Nat × Value)} {v : Value} (ho : o.op = .build T parts.toArray) (hp : parts.map (fun (i, x) => (i, a.eval x)) = vps)
    (hr : (Instr.build T vps.toArray).run P w = .ok v w) (hk : K (a.put o.dst v) w) : o.wp P a w K Q :=
  wp_val (by
    unfold execOp; rw [ho]
    show Sem.run P (do pure (Next.value (← Instr.build T (parts.toArray.map fun (i, x) => (i, a.eval x))))) w = _
    rw [List.map_toArray, hp, Sem.run_bind, hr, Result.andThen_ok, Sem.run_pure]) hk
def evP (R : Rg) (i : Nat) (o : Oper) : List (Nat × Operand) → Option (List (Nat × Value))
  | [] => some []
  | q :: r => match evR R i o q.2, evP R i o r with
    | some v, some l => some ((q.1, v) :: l)
    | _, _ => none
theorem Xs.evP (X : Xs R ops f t u a i o) : ∀ {xs : List (Nat × Operand)} {vs : List (Nat × Value)}, evP R i o xs = some vs → xs.map (fun (i, x) => (i, a.eval x)) = vs
  | [], vs, h => by simp only [Go.Proofs.Ytgfggkinmhhdnaa.evP, Option.some.injEq] at h; subst h; rfl
  | q :: r, vs, h => by
    simp only [Go.Proofs.Ytgfggkinmhhdnaa.evP] at h
    split at h
    · rename_i v l hv hl
      simp only [Option.some.injEq] at h; subst h
      rw [List.map_cons, X.evP hl]
      show (q.1, a.eval q.2) :: _ = _
      rw [X.ev hv]
    · cases h
theorem g_bd {T : TypeId} {parts : List (Nat × Operand)} {vps : List (Nat × Value)} {v : Value} (hr : ∀ w, (Instr.build T vps.toArray).run P w = .ok v w) (hop : o.op = .build T parts.toArray := by rfl) (hp : evP R i o parts = some vps := by rfl) (hv : some v = pickV i R.G := by rfl) (hc : R.chk ops i o = true := by rfl) : OG R P ops Q i o :=
  g_pure hv hc fun f t u a X K hK => wp_buildR hop (X.evP hp) (hr u) hK
theorem g_ce {N : FuncId} {args : List Operand} {tys : Array TypeId} {vs : List Value} {v : Value} (hr : ∀ w, (callFunc N vs.toArray).run P w = .ok (.value v) w) (hop : o.op = .call { callee := .value (.func N), args := args.toArray, argTypes := tys } := by rfl) (hx : args.mapM (evR R i o) = some vs := by rfl) (hv : some v = pickV i R.G := by rfl) (hc : R.chk ops i o = true := by rfl) : OG R P ops Q i o :=
  g_pure hv hc fun f t u a X K hK => wp_callE hop (X.evs hx) (hr u) hK
/-- The guard does not let it. -/
def Rg.chk0 (R : Rg) (ops : Array Oper) (i : Nat) (o : Oper) : Bool :=
  (match o.dst with | some d => ownsA i d R.G && apart i d R.Ns && R.nwfree i d && R.S.contains d | none => false) && R.okO i o && (R.es.all fun q => q.2.2.2.free i) && (wants R ops o == some false)
theorem g_sk (hv : some undef = pickV i R.G := by rfl) (hc : R.chk0 ops i o = true := by rfl) : OG R P ops Q i o := fun f t u a X => by
  unfold Rg.chk0 at hc
  cases hd : o.dst with
  | none => rw [hd] at hc; simp at hc
  | some d =>
    rw [hd] at hc
    rw [Bool.and_eq_true, Bool.and_eq_true, Bool.and_eq_true, Bool.and_eq_true, Bool.and_eq_true, Bool.and_eq_true, List.contains_iff_mem, beq_iff_eq] at hc
    have h3 := hc.1.1.1.1.2
    unfold Rg.nwfree at h3
    rw [Bool.and_eq_true] at h3
    refine wpOp_step X.ho fun K hK => ?_
    rw [if_neg (by rw [X.wanted hc.2]; simp)]
    refine hK _ _ ⟨updT t d undef, by rw [hd]; exact X.F.put X.parts.1 hc.1.1.1.2 undef, ?_, X.I.2.1.free hc.1.2, Gs.stepA X.I.2.2.1 hc.1.1.1.1.1.1 hv.symm, okO_spec hc.1.1.2 X.I.2.2.2.1 X.dep, Ns.step X.I.2.2.2.2.1 hc.1.1.1.1.1.2, Es.step (Below.refl _ _) X.st h3.2 X.I.2.2.2.2.2⟩
    rw [nwF_free h3.1]; exact X.I.1
/-- A call. -/
theorem g_cl {N : FuncId} {args : List Operand} {tys : Array TypeId} {vs : List Value} {v : Value} (hr : ∀ (vs : Array Value) (w : World), (callFunc N vs).run P w = .ok (.enter N vs) w)
    (hcall : ∀ w, Calls P N vs.toArray w fun e w' => e = .returned v ∧ Below w.heap.size w w') (hop : o.op = .call { callee := .value (.func N), args := args.toArray, argTypes := tys } := by rfl) (hx : args.mapM (evR R i o) = some vs := by rfl) (hv : some v = pickV i R.G := by rfl) (hc : R.chk ops i o = true := by rfl) : OG R P ops Q i o := fun f t u a X =>
  X.go (chk_parts hc).choose_spec.2.2.2.2.2.2.2 fun K hK => wp_callF hop (X.evs hx) hr (hcall u) fun w' hB => hK _ _ (X.put hv hc (X.I.1.call hB) (X.I.2.1.below hB X.I.1.sz) hB)
/-- A call that asks for blocks. -/
theorem g_ck {N : FuncId} {args : List Operand} {tys : Array TypeId} {vs : List Value} {v : Value} (hr : ∀ (vs : Array Value) (w : World), (callFunc N vs).run P w = .ok (.enter N vs) w)
    (hcall : ∀ f w, KC f w R.lo R.base R.es → R.base ≤ w.heap.size → Calls P N vs.toArray w fun e w' => e = .returned v ∧ Below w.heap.size w w') (hop : o.op = .call { callee := .value (.func N), args := args.toArray, argTypes := tys } := by rfl) (hx : args.mapM (evR R i o) = some vs := by rfl) (hv : some v = pickV i R.G := by rfl) (hc : R.chk ops i o = true := by rfl) : OG R P ops Q i o := fun f t u a X =>
  X.go (chk_parts hc).choose_spec.2.2.2.2.2.2.2 fun K hK => wp_callF hop (X.evs hx) hr (hcall f u X.I.2.1 X.I.1.sz) fun w' hB => hK _ _ (X.put hv hc (X.I.1.call hB) (X.I.2.1.below hB X.I.1.sz) hB)
/-- A call of a function value. -/
theorem g_cv {N : FuncId} {c : Operand} {args : List Operand} {tys : Array TypeId} {first vs : List Value} {v : Value} (hr : ∀ (vs : Array Value) (w : World), (callFunc N vs).run P w = .ok (.enter N vs) w)
    (hcall : ∀ f w, KC f w R.lo R.base R.es → R.base ≤ w.heap.size → Calls P N (first ++ vs).toArray w fun e w' => e = .returned v ∧ Below w.heap.size w w') (hop : o.op = .call { callee := .value c, args := args.toArray, argTypes := tys } := by rfl) (hk : evR R i o c = some (.func (.func N) first.toArray #[]) := by rfl) (hx : args.mapM (evR R i o) = some vs := by rfl) (hv : some v = pickV i R.G := by rfl) (hc : R.chk ops i o = true := by rfl) : OG R P ops Q i o := fun f t u a X =>
  X.go (chk_parts hc).choose_spec.2.2.2.2.2.2.2 fun K hK => wp_callV hop (X.ev hk) (X.evs hx) hr (hcall f u X.I.2.1 X.I.1.sz) fun w' hB => hK _ _ (X.put hv hc (X.I.1.call hB) (X.I.2.1.below hB X.I.1.sz) hB)
theorem KC.cv {f : Nat → Bool} {u : World} {lo base : Nat} {es : List Ent} {o : Bool} {b : Nat} {l : List Value} (h : KC f u lo base es) (k : Nat) (e : es[k]? = some (o, b, l, .no) := by rfl) : CV u b l := (h.get e).2.2
theorem KC.lb {f : Nat → Bool} {u : World} {lo base : Nat} {es : List Ent} {o : Bool} {b : Nat} {l : List Value} {x : Wr} (h : KC f u lo base es) (hs : base ≤ u.heap.size) (k : Nat) (e : es[k]? = some (o, b, l, x) := by rfl) : b < u.heap.size := Nat.lt_of_lt_of_le (h.get e).1 hs
/-- What a block holds when operation i comes up. -/
def Rg.later (R : Rg) (i j : Nat) : Bool := j == i || R.O.any fun p => p.1 == j && p.2 == i
def Rg.cur (R : Rg) (i k : Nat) : Option (Nat × List Value) :=
  match R.es[k]? with
  | some (_, b, l, .no) => some (b, l)
  | some (_, b, l, .all j _) => if R.later i j then some (b, l) else none
  | some (_, b, l, .cs c) => if c.all (fun q => R.later i q.2.1) then some (b, l) else none
  | none => none
theorem Xs.later (X : Xs R ops f t u a i o) {j : Nat} (h : R.later i j = true) : f j = false := by
  unfold Rg.later at h
  simp only [Bool.or_eq_true, beq_iff_eq, List.any_eq_true, Bool.and_eq_true] at h
  rcases h with e | ⟨p, hp, e1, e2⟩
  · rw [e]; exact X.fi
  · have := X.I.2.2.2.1.get hp
    rw [e1, e2] at this
    exact Os.not this X.fi
theorem cellsF_later {f : Nat → Bool} : ∀ {c : List (Nat × Nat × Value)} {l : List Value}, (∀ q ∈ c, f q.2.1 = false) → cellsF f c l = l
  | [], _, _ => rfl
  | q :: r, l, h => by rw [cellsF, h q (List.mem_cons_self)]; exact cellsF_later fun q hq => h q (List.mem_cons_of_mem _ hq)
theorem Xs.cur (X : Xs R ops f t u a i o) {k b : Nat} {l : List Value} (h : R.cur i k = some (b, l)) : CV u b l ∧ b < R.base := by
  unfold Rg.cur at h
  split at h
  · rename_i o' b' l' e
    simp only [Option.some.injEq, Prod.mk.injEq] at h
    obtain ⟨rfl, rfl⟩ := h
    have := X.I.2.1.get e
    exact ⟨this.2.2, this.1⟩
  · rename_i o' b' l' j p e
    split at h
    · rename_i hl
      simp only [Option.some.injEq, Prod.mk.injEq] at h
      obtain ⟨rfl, rfl⟩ := h
      have := X.I.2.1.get e
      have h2 := this.2.2
      simp only [Wr.val, X.later hl, cond_false] at h2
      exact ⟨h2, this.1⟩
    · cases h
  · rename_i o' b' l' c e
    split at h
    · rename_i hl
      simp only [Option.some.injEq, Prod.mk.injEq] at h
      obtain ⟨rfl, rfl⟩ := h
      have := X.I.2.1.get e
      have h2 := this.2.2
      simp only [Wr.val] at h2
      rw [cellsF_later (fun q hq => X.later (List.all_eq_true.1 hl q hq))] at h2
      exact ⟨h2, this.1⟩
    · cases h
  · cases h
theorem CV.take {w : World} {b : Nat} {l : List Value} (h : CV w b l) (m : Nat) : CV w b (l.take m) := fun j v hj => h j v (by
  rw [List.getElem?_take] at hj
  split at hj
  · exact hj
  · cases hj)
/-- A load of a row. -/
theorem g_ld (k : Nat) {T : TypeId} {x : Operand} {b m : Nat} {l : List Value} {dd : TypeDesc} (hu : P.underlying T = some dd) (hi : (P.info? T).map (·.size) = some m) (hop : o.op = .load T x := by rfl) (hk : R.cur i k = some (b, l) := by rfl) (hx : evR R i o x = some (.pointer (some ⟨b, 0, none⟩)) := by rfl)
    (hr : dd.isRow = true := by rfl) (hm : (l.take m).length = m := by rfl) (hv : some (.agg (l.take m).toArray) = pickV i R.G := by rfl) (hc : R.chk ops i o = true := by rfl) : OG R P ops Q i o :=
  g_pure hv hc fun f t u a X K hK => wp_load_mid T x hop b 0 (X.ev hx) (l.take m) dd ((X.cur hk).1.take m).range hu hr (by rw [hm]; exact hi) hK
/-- A load of a cell. -/
def Rg.curC (R : Rg) (i k c : Nat) : Option (Nat × Value) :=
  match R.es[k]? with
  | some (_, b, l, .no) => (l[c]?).map fun v => (b, v)
  | some (_, b, l, .all j _) => if R.later i j then (l[c]?).map fun v => (b, v) else none
  | some (_, b, l, .cs cs) => if cs.all (fun q => q.1 != c || R.later i q.2.1) then (l[c]?).map fun v => (b, v) else none
  | none => none
theorem cellsF_get {f : Nat → Bool} {c : Nat} : ∀ {cs : List (Nat × Nat × Value)} {l : List Value}, (∀ q ∈ cs, q.1 ≠ c ∨ f q.2.1 = false) → (cellsF f cs l)[c]? = l[c]?
  | [], _, _ => rfl
  | q :: r, l, h => by
    rw [cellsF, cellsF_get fun q hq => h q (List.mem_cons_of_mem _ hq)]
    rcases h q (List.mem_cons_self) with h1 | h1
    · cases f q.2.1
      · rfl
      · rw [cond_true, List.getElem?_set_ne h1]
    · rw [h1]; rfl
theorem Xs.curC (X : Xs R ops f t u a i o) {k c b : Nat} {v : Value} (h : R.curC i k c = some (b, v)) : u.cell? ⟨b, c, none⟩ = some v := by
  unfold Rg.curC at h
  split at h
  · rename_i o' b' l' e
    simp only [Option.map_eq_some_iff, Prod.mk.injEq] at h
    obtain ⟨v', hv, rfl, rfl⟩ := h
    exact ((X.I.2.1.get e).2.2 c _ hv).1
  · rename_i o' b' l' j p e
    split at h
    · rename_i hl
      simp only [Option.map_eq_some_iff, Prod.mk.injEq] at h
      obtain ⟨v', hv, rfl, rfl⟩ := h
      have h2 := (X.I.2.1.get e).2.2
      simp only [Wr.val, X.later hl, cond_false] at h2
      exact (h2 c _ hv).1
    · cases h
  · rename_i o' b' l' cs e
    split at h
    · rename_i hl
      simp only [Option.map_eq_some_iff, Prod.mk.injEq] at h
      obtain ⟨v', hv, rfl, rfl⟩ := h
      have h2 := (X.I.2.1.get e).2.2
      simp only [Wr.val] at h2
      refine (h2 c _ ?_).1
      rw [cellsF_get (fun q hq => ?_)]
      · exact hv
      · have := List.all_eq_true.1 hl q hq
        simp only [Bool.or_eq_true, bne_iff_ne, ne_eq] at this
        rcases this with h1 | h1
        · exact .inl h1
        · exact .inr (X.later h1)
    · cases h
  · cases h
theorem g_lc (k c : Nat) {T : TypeId} {x : Operand} {b : Nat} {v : Value} (hr : ∀ w, w.cell? ⟨b, c, none⟩ = some v → (Instr.loadAt T (.pointer (some ⟨b, c, none⟩))).run P w = .ok v w) (hop : o.op = .load T x := by rfl) (hk : R.curC i k c = some (b, v) := by rfl) (hx : evR R i o x = some (.pointer (some ⟨b, c, none⟩)) := by rfl) (hv : some v = pickV i R.G := by rfl) (hc : R.chk ops i o = true := by rfl) : OG R P ops Q i o :=
  g_pure hv hc fun f t u a X K hK => wp_load hop (X.ev hx) (hr u (X.curC hk)) hK
theorem g_lv (k c : Nat) {T : TypeId} {x : Operand} {b : Nat} {v : Value} {l : List Value} {ow : Bool} (hr : ∀ w, w.cell? ⟨b, c, none⟩ = some v → (Instr.loadAt T (.pointer (some ⟨b, c, none⟩))).run P w = .ok v w) (hl : l[c]? = some v) (hop : o.op = .load T x := by rfl) (hk : R.es[k]? = some (ow, b, l, .no) := by rfl) (hx : evR R i o x = some (.pointer (some ⟨b, c, none⟩)) := by rfl) (hv : some v = pickV i R.G := by rfl) (hc : R.chk ops i o = true := by rfl) : OG R P ops Q i o :=
  g_pure hv hc fun f t u a X K hK => wp_load hop (X.ev hx) (hr u ((X.I.2.1.cv k hk) c _ hl).1) hK
end
end Go.Proofs.Ytgfggkinmhhdnaa
/- Regions by one record: stores, new blocks, and the whole. -/
namespace Go.Proofs.Ytgfggkinmhhdnaa
open Go.RowKit
set_option linter.unusedVariables false
set_option linter.unusedSimpArgs false
abbrev Nw := Nat × Nat × List Value × Option (Nat × List Value)
def nwf0 (i : Nat) (q : Nw) : Bool := q.1 != i && (match q.2.2.2 with | none => true | some p => p.1 != i)
def nwf (i d : Nat) (q : Nw) : Bool := q.1 != i && q.2.1 != d && (match q.2.2.2 with | none => true | some p => p.1 != i)
def stF (f : Nat → Bool) : Option (Nat × List Value) → Bool
  | none => false
  | some p => f p.1
def stP (pre : List Value) : Option (Nat × List Value) → List Value
  | none => pre
  | some p => p.2
theorem nwF_get {f : Nat → Bool} {t : Nat → Value} {j d : Nat} {pre : List Value} {s : Option (Nat × List Value)} : ∀ {nw : List Nw} {n : Nat}, nw[n]? = some (j, d, pre, s) → (nwF f t nw)[n]? = some (f j, stF f s, t d, pre, stP pre s)
  | [], n, h => by simp at h
  | q :: r, 0, h => by
    simp at h; subst h
    cases s with
    | none => rfl
    | some p => rfl
  | (j', d', pre', none) :: r, n + 1, h => by rw [nwF, List.getElem?_cons_succ]; exact nwF_get (by simpa using h)
  | (j', d', pre', some p) :: r, n + 1, h => by rw [nwF, List.getElem?_cons_succ]; exact nwF_get (by simpa using h)
theorem nwF_store {f : Nat → Bool} {t : Nat → Value} {i j d : Nat} {pre post : List Value} (hji : j ≠ i) : ∀ {nw : List Nw} {n : Nat}, nw[n]? = some (j, d, pre, some (i, post)) → ((nw.eraseIdx n).all (nwf0 i)) = true → nwF (updF f i) t nw = (nwF f t nw).set n (f j, true, t d, pre, post)
  | [], n, h, _ => by simp at h
  | q :: r, 0, h, hx => by
    simp at h; subst h
    simp only [List.eraseIdx_cons_zero] at hx
    rw [nwF, nwF, List.set_cons_zero, updF_ne hji, updF_eq, nwF_free0 hx]
  | (j', d', pre', none) :: r, n + 1, h, hx => by
    simp only [List.eraseIdx_cons_succ, List.all_cons, Bool.and_eq_true] at hx
    have h1 := hx.1
    simp only [nwf0, Bool.and_eq_true, bne_iff_ne, ne_eq, and_true] at h1
    rw [nwF, nwF, List.set_cons_succ, updF_ne h1, nwF_store hji (by simpa using h) hx.2]
  | (j', d', pre', some p) :: r, n + 1, h, hx => by
    simp only [List.eraseIdx_cons_succ, List.all_cons, Bool.and_eq_true] at hx
    have h1 := hx.1
    simp only [nwf0, Bool.and_eq_true, bne_iff_ne, ne_eq] at h1
    rw [nwF, nwF, List.set_cons_succ, updF_ne h1.1, updF_ne h1.2, nwF_store hji (by simpa using h) hx.2]
theorem nwF_new {f : Nat → Bool} {t : Nat → Value} {i d : Nat} {pre : List Value} {s : Option (Nat × List Value)} {v : Value} (hs : ∀ p, s = some p → p.1 ≠ i) : ∀ {nw : List Nw} {n : Nat}, nw[n]? = some (i, d, pre, s) → ((nw.eraseIdx n).all (nwf i d)) = true →
    nwF (updF f i) (updT t d v) nw = (nwF f t nw).set n (true, stF f s, v, pre, stP pre s)
  | [], n, h, _ => by simp at h
  | q :: r, 0, h, hx => by
    simp at h; subst h
    simp only [List.eraseIdx_cons_zero] at hx
    have hv : updT t d v d = v := by simp [updT]
    cases s with
    | none => rw [nwF, nwF, List.set_cons_zero, updF_eq, hv, nwF_free hx]; rfl
    | some p => rw [nwF, nwF, List.set_cons_zero, updF_eq, updF_ne (hs p rfl), hv, nwF_free hx]; rfl
  | (j', d', pre', none) :: r, n + 1, h, hx => by
    simp only [List.eraseIdx_cons_succ, List.all_cons, Bool.and_eq_true] at hx
    have h1 := hx.1
    simp only [nwf, Bool.and_eq_true, bne_iff_ne, ne_eq, and_true] at h1
    rw [nwF, nwF, List.set_cons_succ, updF_ne h1.1, nwF_new hs (by simpa using h) hx.2]
    simp only [updT, if_neg h1.2]
  | (j', d', pre', some p) :: r, n + 1, h, hx => by
    simp only [List.eraseIdx_cons_succ, List.all_cons, Bool.and_eq_true] at hx
    have h1 := hx.1
    simp only [nwf, Bool.and_eq_true, bne_iff_ne, ne_eq] at h1
    rw [nwF, nwF, List.set_cons_succ, updF_ne h1.1.1, updF_ne h1.2, nwF_new hs (by simpa using h) hx.2]
    simp only [updT, if_neg h1.1.2]
/-- All such values are used up. -/
def eDone (i : Nat) (o : Oper) (E : List En) : Bool := E.all fun q => q.i != i && (match q.c with | some c => hasDep o c && c != i | none => false)
theorem Es.done {f : Nat → Bool} {t : Nat → Value} {v : World} {i : Nat} {o : Oper} (dep : ∀ e ∈ o.after, Region.binds .any e = true → f e.on = true) : ∀ {E : List En}, eDone i o E = true → Es (updF f i) t v E
  | [], _ => trivial
  | q :: r, he => by
    unfold eDone at he
    simp only [List.all_cons, Bool.and_eq_true] at he
    refine ⟨fun _ h2 => ?_, Es.done dep (by unfold eDone; simpa using he.2)⟩
    have h3 := he.1.2
    cases hc : q.c with
    | none => rw [hc] at h3; cases h3
    | some c =>
      rw [hc] at h3
      simp only [Bool.and_eq_true, bne_iff_ne, ne_eq] at h3
      have := h2 c hc
      rw [updF_ne h3.2, hasDep_spec h3.1 dep] at this
      cases this
def Rg.chkS (R : Rg) (ops : Array Oper) (i : Nat) (o : Oper) : Bool := (match o.dst with | none => true | some _ => false) && lacks i R.G && (R.okO i o && eDone i o R.E) && (wants R ops o == some true)
section
variable {R : Rg} {P : Program} {ops : Array Oper} {Q : Exit → Act → World → Prop} {f : Nat → Bool} {t : Nat → Value} {u : World} {a : Act} {i : Nat} {o : Oper}
theorem chkS_parts (h : R.chkS ops i o = true) : o.dst = none ∧ lacks i R.G = true ∧ (R.okO i o = true ∧ eDone i o R.E = true) ∧ wants R ops o = some true := by
  unfold Rg.chkS at h
  cases hd : o.dst with
  | some d => rw [hd] at h; simp at h
  | none =>
    rw [hd] at h
    simp only [Bool.true_and] at h
    rw [Bool.and_eq_true, Bool.and_eq_true, Bool.and_eq_true, beq_iff_eq] at h
    exact ⟨rfl, h.1.1, h.1.2, h.2⟩
theorem Xs.put0 (X : Xs R ops f t u a i o) {v : Value} {u' : World} (hc : R.chkS ops i o = true) (hM : MR R.lo R.w R.base [] [] (nwF (updF f i) t R.nw) u') (hK : KC (updF f i) u' R.lo R.base R.es) :
    ∃ t', Fr R.fr R.S (a.put o.dst v) t' ∧ Inv R (updF f i) t' u' := by
  obtain ⟨hd, h1, ⟨h5, h6⟩, _⟩ := chkS_parts hc
  exact ⟨t, by rw [hd]; exact X.F, hM, hK, Gs.idle h1 X.I.2.2.1, okO_spec h5 X.I.2.2.2.1 X.dep, Ns.idle X.I.2.2.2.2.1, Es.done X.dep h6⟩
/-- A new block is written. -/
theorem g_sn (n : Nat) {T : TypeId} {y : Operand} {j d : Nat} {pre post : List Value} {m : Nat} (hi : (P.info? T).map (·.size) = some m) (hop : o.op = .store T (.tmp d) y := by rfl) (hn : R.nw[n]? = some (j, d, pre, some (i, post)) := by rfl) (hy : evR R i o y = some (.agg post.toArray) := by rfl) (h1 : allOne post = true := by rfl)
    (hm : post.length = m := by rfl) (hl : post.length = pre.length := by rfl) (hx : (hasDep o j && (j != i) && ((R.nw.eraseIdx n).all (nwf0 i)) && (R.es.all fun q => q.2.2.2.free i) && R.S.contains d) = true := by rfl) (hc : R.chkS ops i o = true := by rfl) : OG R P ops Q i o := fun f t u a X => by
  simp only [Bool.and_eq_true, bne_iff_ne, ne_eq, List.contains_iff_mem] at hx
  obtain ⟨⟨⟨⟨x1, x2⟩, x3⟩, x4⟩, x5⟩ := hx
  have hM := X.I.1
  have fj : f j = true := hasDep_spec x1 X.dep
  have hg := nwF_get (f := f) (t := t) hn
  obtain ⟨b, e, b1, b2, b3⟩ := hM.nw.get hg fj
  have e : t d = .pointer (some ⟨b, 0, none⟩) := e
  have b3 : CV u b (bif f i then post else pre) := b3
  rw [X.fi] at b3
  refine X.go (chkS_parts hc).2.2.2 fun K hK => wp_store_mid T _ y hop b 0 post.toArray (by rw [X.inS x5, e]) (X.ev hy) (by rw [List.size_toArray, hl]; exact CV.there b3) (by rw [List.size_toArray, hm]; exact hi) (all_one h1) ?_
  refine hK _ _ (X.put0 hc ?_ ?_)
  · rw [nwF_store x2 hn x3]
    exact MR.putF n hM hg fj e b1 hl
  · have hK2 : KC f (u.setCells b 0 post) R.lo R.base R.es := by
      have := X.I.2.1
      revert this
      generalize R.es = es
      induction es with
      | nil => intro _; trivial
      | cons q r ih => exact fun h => ⟨⟨h.1.1, h.1.2.1, h.1.2.2.cells (by have := h.1.1; omega) _ _⟩, ih h.2⟩
    exact hK2.free x4
/-- A new block. -/
theorem g_al (n : Nat) {T : TypeId} {d : Nat} {pre : List Value} {s : Option (Nat × List Value)} (hr : ∀ w, (Instr.alloc T true (.tuple #[])).run P w = .ok (.pointer (some ⟨w.heap.size, 0, none⟩)) (w.alloc (.cells pre.toArray T))) (hop : o.op = .alloc T := by rfl) (hd : o.dst = some d := by rfl) (hn : R.nw[n]? = some (i, d, pre, s) := by rfl)
    (hx : ((match s with | none => true | some p => p.1 != i && R.later i p.1) && ((R.nw.eraseIdx n).all (nwf i d)) && (R.es.all fun q => q.2.2.2.free i) && R.S.contains d && owns i d R.G && apart i d R.Ns && R.okO i o && (wants R ops o == some true) && eFree i d R.E) = true := by rfl) : OG R P ops Q i o := fun f t u a X => by
  rw [Bool.and_eq_true, Bool.and_eq_true, Bool.and_eq_true, Bool.and_eq_true, Bool.and_eq_true, Bool.and_eq_true, Bool.and_eq_true, Bool.and_eq_true, List.contains_iff_mem, beq_iff_eq] at hx
  obtain ⟨⟨⟨⟨⟨⟨⟨⟨x1, x3⟩, x4⟩, x5⟩, x6⟩, x7⟩, x8⟩, x9⟩, x10⟩ := hx
  have hM := X.I.1
  have hs : ∀ p, s = some p → p.1 ≠ i := fun p e => by subst e; simp only [Bool.and_eq_true, bne_iff_ne, ne_eq] at x1; exact x1.1
  have hg := nwF_get (f := f) (t := t) hn
  refine X.go x9 fun K hK => wp_alloc hop (hr u) (hK _ _ ⟨updT t d (.pointer (some ⟨u.heap.size, 0, none⟩)), ?_, ?_, ?_, Gs.other x6 X.I.2.2.1, okO_spec x8 X.I.2.2.2.1 X.dep, Ns.step X.I.2.2.2.2.1 x7, Es.step (balloc (bself u) _) X.st x10 X.I.2.2.2.2.2⟩)
  · rw [hd]; exact X.F.put X.parts.1 x5 _
  · rw [nwF_new hs hn x3]
    refine MR.newF n hM hg X.fi ?_
    cases s with
    | none => rfl
    | some p =>
      simp only [Bool.and_eq_true] at x1
      exact X.later x1.2
  · exact (X.I.2.1.below (balloc (bself u) _) X.I.1.sz).free x4
theorem MR.wr {lo base b : Nat} {w u v : World} {nw : List (Bool × Bool × Value × List Value × List Value)} (h : MR lo w base [] [] nw u) (hB : Below lo w v) (c : Chg b u v) (hb : b < base) : MR lo w base [] [] nw v :=
  { bel := hB, lo := h.lo, sz := by rw [c.size]; exact h.sz, ks := trivial, ex := trivial, nw := h.nw.chg c (h.nw.lo hb), nd := h.nd }
/-- A block is written whole. -/
theorem g_st (k : Nat) {T : TypeId} {x y : Operand} {b : Nat} {l post : List Value} {m : Nat} (hi : (P.info? T).map (·.size) = some m) (hop : o.op = .store T x y := by rfl) (hn : R.es[k]? = some (true, b, l, .all i post) := by rfl) (hx : evR R i o x = some (.pointer (some ⟨b, 0, none⟩)) := by rfl) (hy : evR R i o y = some (.agg post.toArray) := by rfl) (h1 : allOne post = true := by rfl)
    (hm : post.length = m := by rfl) (hl : post.length = l.length := by rfl) (hf : (((R.es.eraseIdx k).all fun q => q.2.2.2.free i) && (R.nw.all (nwf0 i))) = true := by rfl) (hc : R.chkS ops i o = true := by rfl) : OG R P ops Q i o := fun f t u a X => by
  simp only [Bool.and_eq_true] at hf
  obtain ⟨q1, q2, q3⟩ := X.I.2.1.get hn
  have q3 : CV u b (bif f i then post else l) := q3
  rw [X.fi] at q3
  have q3 : CV u b l := q3
  have c := Chg.cells u b post
  refine X.go (chkS_parts hc).2.2.2 fun K hK => wp_store_mid T x y hop b 0 post.toArray (X.ev hx) (X.ev hy) (by rw [List.size_toArray, hl]; exact q3.there) (by rw [List.size_toArray, hm]; exact hi) (all_one h1) (hK _ _ (X.put0 hc ?_ ?_))
  · rw [nwF_free0 hf.2]
    exact X.I.1.wr (below_setCells (q2 rfl) _ _ _ X.I.1.bel) c q1
  · exact KC.put c X.I.2.1 hn X.nd hf.1 (by simp only [Wr.val, updF_eq, cond_true]; exact q3.put hl)
theorem cellsF_set {f : Nat → Bool} {c : Nat} {v : Value} : ∀ {cs : List (Nat × Nat × Value)} {l : List Value}, (∀ q ∈ cs, q.1 ≠ c) → cellsF f cs (l.set c v) = (cellsF f cs l).set c v
  | [], _, _ => rfl
  | q :: r, l, h => by
    rw [cellsF, cellsF, ← cellsF_set (fun q hq => h q (List.mem_cons_of_mem _ hq))]
    congr 1
    cases f q.2.1
    · rfl
    · simp only [cond_true]; rw [List.set_comm _ _ (fun e => h q List.mem_cons_self e.symm)]
theorem cellsF_put {f : Nat → Bool} {i c : Nat} {v : Value} (hi : f i = false) : ∀ {cs : List (Nat × Nat × Value)} {m : Nat} {l : List Value}, cs[m]? = some (c, i, v) → ((cs.eraseIdx m).all fun q => q.1 != c && q.2.1 != i) = true → cellsF (updF f i) cs l = (cellsF f cs l).set c v
  | [], m, _, h, _ => by simp at h
  | q :: r, 0, l, h, hx => by
    simp at h; subst h
    simp only [List.eraseIdx_cons_zero] at hx
    have hne : ∀ q ∈ r, q.1 ≠ c := fun q hq => by have := List.all_eq_true.1 hx q hq; simp at this; exact this.1
    have hfr : (r.all fun q => q.2.1 != i) = true := List.all_eq_true.2 fun q hq => by have := List.all_eq_true.1 hx q hq; simp at this ⊢; exact this.2
    rw [cellsF, cellsF, updF_eq, hi, cellsF_free hfr, cond_true, cond_false, cellsF_set hne]
  | q :: r, m + 1, l, h, hx => by
    simp only [List.eraseIdx_cons_succ, List.all_cons, Bool.and_eq_true, bne_iff_ne, ne_eq] at hx
    rw [cellsF, cellsF, updF_ne hx.1.2, cellsF_put hi (cs := r) (m := m) (by simpa using h) (by simpa using hx.2)]
/-- A cell of a block is written. -/
theorem g_sc (k m : Nat) {T : TypeId} {x y : Operand} {b c : Nat} {l : List Value} {cs : List (Nat × Nat × Value)} {v0 v : Value} (hr : ∀ w, w.cell? ⟨b, c, none⟩ = some v0 → w.frozen? ⟨b, c, none⟩ = false → (Instr.storeAt T (.pointer (some ⟨b, c, none⟩)) v).run P w = .ok () (w.setCell ⟨b, c, none⟩ v))
    (hop : o.op = .store T x y := by rfl) (hn : R.es[k]? = some (true, b, l, .cs cs) := by rfl) (hm : cs[m]? = some (c, i, v) := by rfl) (h0 : l[c]? = some v0 := by rfl) (hx : evR R i o x = some (.pointer (some ⟨b, c, none⟩)) := by rfl) (hy : evR R i o y = some v := by rfl)
    (hf : (((R.es.eraseIdx k).all fun q => q.2.2.2.free i) && (R.nw.all (nwf0 i)) && ((cs.eraseIdx m).all fun q => q.1 != c && q.2.1 != i)) = true := by rfl) (hc : R.chkS ops i o = true := by rfl) : OG R P ops Q i o := fun f t u a X => by
  simp only [Bool.and_eq_true] at hf
  obtain ⟨q1, q2, q3⟩ := X.I.2.1.get hn
  have q3 : CV u b (cellsF f cs l) := q3
  have hcell : (cellsF f cs l)[c]? = some v0 := by
    rw [cellsF_get (fun q hq => ?_)]
    · exact h0
    · obtain ⟨j, hj⟩ := List.mem_iff_getElem?.1 hq
      by_cases e : j = m
      · subst e; rw [hm] at hj; cases hj; exact .inr X.fi
      · left
        have hmem : q ∈ cs.eraseIdx m := by
          rw [List.mem_eraseIdx_iff_getElem?]
          exact ⟨j, e, hj⟩
        have := List.all_eq_true.1 hf.2 q hmem
        simp at this; exact this.1
  have cc := Chg.cell u b c v
  have hlt : c < (cellsF f cs l).length := (List.getElem?_eq_some_iff.1 hcell).1
  refine X.go (chkS_parts hc).2.2.2 fun K hK => wp_store hop (X.ev hx) (X.ev hy) (hr u (q3 c _ hcell).1 (q3 c _ hcell).2) (hK _ _ (X.put0 hc ?_ ?_))
  · rw [nwF_free0 hf.1.2]
    exact X.I.1.wr (X.I.1.bel.setCell (q2 rfl) _) cc q1
  · refine KC.put cc X.I.2.1 hn X.nd hf.1.1 ?_
    simp only [Wr.val]
    rw [cellsF_put X.fi hm hf.2]
    exact q3.setC c hlt v
/-- All of them lie below b. -/
def LtB (b : Nat) : List Ent → Prop
  | [] => True
  | q :: r => q.2.1 < b ∧ LtB b r
theorem KC.putB {f : Nat → Bool} {u v : World} {lo base i b : Nat} (hB : Below b u v) : ∀ {es : List Ent} {k : Nat} {o : Bool} {l : List Value} {x : Wr}, KC f u lo base es → es[k]? = some (o, b, l, x) → LtB b (es.eraseIdx k) →
    ((es.eraseIdx k).all fun q => q.2.2.2.free i) = true → CV v b (x.val (updF f i) l) → KC (updF f i) v lo base es
  | [], k, _, _, _, _, h, _, _, _ => by simp at h
  | q :: r, 0, o, l, x, h, e, n, hx, hv => by
    simp at e; subst e
    simp only [List.eraseIdx_cons_zero] at hx n
    refine ⟨⟨h.1.1, h.1.2.1, hv⟩, ?_⟩
    have hr : ∀ {es : List Ent}, LtB b es → (es.all fun q => q.2.2.2.free i) = true → KC f u lo base es → KC (updF f i) v lo base es := by
      intro es
      induction es with
      | nil => intros; trivial
      | cons y ys ih =>
        intro hb hy hk
        simp only [List.all_cons, Bool.and_eq_true] at hy
        exact ⟨⟨hk.1.1, hk.1.2.1, by rw [Wr.val_free hy.1]; exact hk.1.2.2.below hB hb.1⟩, ih hb.2 hy.2 hk.2⟩
    exact hr n hx h.2
  | q :: r, k + 1, o, l, x, h, e, n, hx, hv => by
    simp only [List.eraseIdx_cons_succ] at n hx
    simp only [List.all_cons, Bool.and_eq_true] at hx
    have e' : r[k]? = some (o, b, l, x) := by simpa using e
    exact ⟨⟨h.1.1, h.1.2.1, by rw [Wr.val_free hx.1]; exact h.1.2.2.below hB n.1⟩, KC.putB hB (es := r) (k := k) h.2 e' n.2 hx.2 hv⟩
/-- A call that writes a block. -/
theorem g_cx (k : Nat) {N : FuncId} {args : List Operand} {tys : Array TypeId} {vs : List Value} {v : Value} {b : Nat} {l post : List Value} (hr : ∀ (vs : Array Value) (w : World), (callFunc N vs).run P w = .ok (.enter N vs) w)
    (hcall : ∀ f w, KC f w R.lo R.base R.es → R.base ≤ w.heap.size → CV w b l → Calls P N vs.toArray w fun e w' => e = .returned v ∧ Below b w w' ∧ CV w' b post) (hlt : LtB b (R.es.eraseIdx k)) (hop : o.op = .call { callee := .value (.func N), args := args.toArray, argTypes := tys } := by rfl) (hn : R.es[k]? = some (true, b, l, .all i post) := by rfl) (hx : args.mapM (evR R i o) = some vs := by rfl) (hv : some v = pickV i R.G := by rfl)
    (hw : R.nw = [] := by rfl) (hE : R.E = [] := by rfl) (hc : ((match o.dst with | some d => ownsA i d R.G && apart i d R.Ns && R.S.contains d | none => false) && R.okO i o && ((R.es.eraseIdx k).all fun q => q.2.2.2.free i) && (wants R ops o == some true)) = true := by rfl) : OG R P ops Q i o := fun f t u a X => by
  cases hd : o.dst with
  | none => rw [hd] at hc; simp at hc
  | some d =>
    rw [hd] at hc
    simp only [Bool.and_eq_true, List.contains_iff_mem, beq_iff_eq] at hc
    obtain ⟨q1, q2, q3⟩ := X.I.2.1.get hn
    have q3 : CV u b (bif f i then post else l) := q3
    rw [X.fi] at q3
    have q3 : CV u b l := q3
    refine X.go hc.2 fun K hK => wp_callX hop (X.evs hx) hr (B := fun w' => Below b u w' ∧ CV w' b post) ((hcall f u X.I.2.1 X.I.1.sz q3)) fun w' hB => hK _ _ ⟨updT t d v, by rw [hd]; exact X.F.put X.parts.1 hc.1.1.1.2 v, ?_, ?_, Gs.stepA X.I.2.2.1 hc.1.1.1.1.1 hv.symm, okO_spec hc.1.1.2 X.I.2.2.2.1 X.dep, Ns.step X.I.2.2.2.2.1 hc.1.1.1.1.2, by rw [hE]; trivial⟩
    · have hM := X.I.1
      rw [hw] at hM ⊢
      exact { bel := hM.bel.trans (hB.1.mono (q2 rfl)), lo := hM.lo, sz := Nat.le_trans hM.sz hB.1.size, ks := trivial, ex := trivial, nw := trivial, nd := trivial }
    · exact KC.putB hB.1 X.I.2.1 hn hlt hc.1.2 (by simp only [Wr.val, updF_eq, cond_true]; exact hB.2)
end
/-- All operations of the region. -/
def OpsAll (R : Rg) (P : Program) (ops : Array Oper) (Q : Exit → Act → World → Prop) : Nat → List Oper → Prop
  | _, [] => True
  | i, o :: r => OG R P ops Q i o ∧ OpsAll R P ops Q (i + 1) r
theorem OpsAll.get {R : Rg} {P : Program} {ops : Array Oper} {Q : Exit → Act → World → Prop} {o : Oper} : ∀ {l : List Oper} {i n : Nat}, OpsAll R P ops Q i l → l[n]? = some o → OG R P ops Q (i + n) o
  | [], i, n, _, h => by simp at h
  | x :: r, i, 0, h, e => by simp at e; subst e; exact h.1
  | x :: r, i, n + 1, h, e => by
    have := OpsAll.get (l := r) (i := i + 1) (n := n) h.2 (by simpa using e)
    rwa [show i + 1 + n = i + (n + 1) by omega] at this
theorem oc {R : Rg} {P : Program} {ops : Array Oper} {Q : Exit → Act → World → Prop} {i : Nat} {o : Oper} {r : List Oper} (h : OG R P ops Q i o) (k : OpsAll R P ops Q (i + 1) r) : OpsAll R P ops Q i (o :: r) := ⟨h, k⟩
theorem on {R : Rg} {P : Program} {ops : Array Oper} {Q : Exit → Act → World → Prop} {i : Nat} : OpsAll R P ops Q i [] := trivial
def AllNew : List Nw → (List Nat → Prop) → Prop
  | [], p => p []
  | _ :: r, p => ∀ b, AllNew r fun bs => p (b :: bs)
theorem AllNew.app : ∀ {nw : List Nw} {bs : List Nat} {p : List Nat → Prop}, bs.length = nw.length → AllNew nw p → p bs
  | [], [], _, _, h => h
  | [], _ :: _, _, e, _ => by simp at e
  | _ :: _, [], _, e, _ => by simp at e
  | _ :: r, b :: bs, p, e, h => AllNew.app (nw := r) (bs := bs) (p := fun bs => p (b :: bs)) (by simpa using e) (h b)
def nP : Nw → List Value
  | (_, _, pre, none) => pre
  | (_, _, _, some p) => p.2
def nK : List Nat → List Nw → List Blk
  | b :: bs, q :: r => (true, b, nP q) :: nK bs r
  | _, _ => []
@[go_sem] def setG : List Value → List (Nat × Nat × Value) → List Value
  | fr, [] => fr
  | fr, q :: r => setG (fr.set q.2.1 q.2.2) r
@[go_sem] def setN : List Value → List Nat → List Nw → List Value
  | fr, b :: bs, q :: r => setN (fr.set q.2.1 (.pointer (some ⟨b, 0, none⟩))) bs r
  | fr, _, _ => fr
theorem ovr_app (t : Nat → Value) : ∀ (S T : List Nat) (fr : List Value), ovr fr (S ++ T) t = ovr (ovr fr S t) T t
  | [], _, _ => rfl
  | s :: S, T, fr => by rw [List.cons_append, ovr, ovr, ovr_app t S T]
theorem ovr_G {t : Nat → Value} : ∀ {G : List (Nat × Nat × Value)} {fr : List Value}, AllEq t G → ovr fr (G.map (·.2.1)) t = setG fr G
  | [], _, _ => rfl
  | q :: r, fr, h => by rw [List.map_cons, ovr, setG, h.1]; exact ovr_G h.2
def nwUp (n : Nat) (q : Nw) : Bool := decide (q.1 < n) && (match q.2.2.2 with | none => true | some p => decide (p.1 < n))
theorem news_of {f : Nat → Bool} {t : Nat → Value} {u : World} {base n : Nat} (hf : ∀ i, i < n → f i = true) : ∀ {nw : List Nw}, (nw.all (nwUp n)) = true → NwP u base (nwF f t nw) → NdP (nwF f t nw) →
    ∃ bs : List Nat, bs.length = nw.length ∧ (∀ lo, lo ≤ base → KA lo u (nK bs nw)) ∧ (∀ b ∈ bs, base ≤ b) ∧ bs.Nodup ∧ (nK bs nw).map (·.2.1) = bs ∧ (∀ fr, ovr fr (nw.map (·.2.1)) t = setN fr bs nw) ∧ (∀ b ∈ bs, NeP (.pointer (some ⟨b, 0, none⟩)) (nwF f t nw) → False)
  | [], _, _, _ => ⟨[], rfl, fun _ _ => trivial, by simp, by simp, rfl, fun _ => rfl, by simp⟩
  | q :: r, hq, hw, hd => by
    simp only [List.all_cons, Bool.and_eq_true] at hq
    obtain ⟨j, d, pre, s⟩ := q
    cases s with
    | none =>
      have hj : f j = true := hf j (by have := hq.1; simp only [nwUp, Bool.and_eq_true, decide_eq_true_eq] at this; exact this.1)
      rw [nwF] at hw hd
      obtain ⟨b, e, b1, b2, b3⟩ := hw.1 hj
      have e : t d = .pointer (some ⟨b, 0, none⟩) := e
      have b3 : CV u b pre := b3
      obtain ⟨bs, l1, l2, l3, l4, l5, l6, l7⟩ := news_of hf hq.2 hw.2 hd.2
      have hne := hd.1 hj
      rw [show (f j, false, t d, pre, pre).2.2.1 = t d from rfl, e] at hne
      refine ⟨b :: bs, by simp [l1], fun lo hlo => ⟨⟨b2, fun _ => Nat.le_trans hlo b1, b3⟩, l2 lo hlo⟩, ?_, ?_, by rw [nK, List.map_cons, l5], fun fr => by rw [List.map_cons, ovr, setN, e]; exact l6 _, ?_⟩
      · intro x hx; rcases List.mem_cons.1 hx with rfl | hx
        · exact b1
        · exact l3 x hx
      · exact List.nodup_cons.2 ⟨fun hm => l7 b hm hne, l4⟩
      · intro x hx hn
        rw [nwF] at hn
        rcases List.mem_cons.1 hx with rfl | hx
        · exact hn.1 hj e
        · exact l7 x hx hn.2
    | some p =>
      have hup := hq.1
      simp only [nwUp, Bool.and_eq_true, decide_eq_true_eq] at hup
      have hj : f j = true := hf j hup.1
      have hp : f p.1 = true := hf p.1 hup.2
      rw [nwF] at hw hd
      obtain ⟨b, e, b1, b2, b3⟩ := hw.1 hj
      have e : t d = .pointer (some ⟨b, 0, none⟩) := e
      have b3 : CV u b (bif f p.1 then p.2 else pre) := b3
      rw [hp] at b3
      have b3 : CV u b p.2 := b3
      obtain ⟨bs, l1, l2, l3, l4, l5, l6, l7⟩ := news_of hf hq.2 hw.2 hd.2
      have hne := hd.1 hj
      rw [show (f j, f p.1, t d, pre, p.2).2.2.1 = t d from rfl, e] at hne
      refine ⟨b :: bs, by simp [l1], fun lo hlo => ⟨⟨b2, fun _ => Nat.le_trans hlo b1, b3⟩, l2 lo hlo⟩, ?_, ?_, by rw [nK, List.map_cons, l5], fun fr => by rw [List.map_cons, ovr, setN, e]; exact l6 _, ?_⟩
      · intro x hx; rcases List.mem_cons.1 hx with rfl | hx
        · exact b1
        · exact l3 x hx
      · exact List.nodup_cons.2 ⟨fun hm => l7 b hm hne, l4⟩
      · intro x hx hn
        rw [nwF] at hn
        rcases List.mem_cons.1 hx with rfl | hx
        · exact hn.1 hj e
        · exact l7 x hx hn.2
theorem KA.app {lo : Nat} {u : World} : ∀ {k1 k2 : List Blk}, KA lo u k1 → KA lo u k2 → KA lo u (k1 ++ k2)
  | [], _, _, h => h
  | _ :: r, _, h1, h2 => ⟨h1.1, KA.app h1.2 h2⟩
def aK : List Blk → List Blk → List Blk
  | [], l => l
  | q :: r, l => q :: aK r l
theorem aK_eq : ∀ (k l : List Blk), aK k l = k ++ l
  | [], _ => rfl
  | q :: r, l => by rw [aK, aK_eq r l]; rfl
/-- Those that are kept. -/
def pM : List Bool → List Blk → List Blk
  | true :: m, q :: r => q :: pM m r
  | false :: m, _ :: r => pM m r
  | [], l => l
  | _ :: _, [] => []
theorem pM_sub : ∀ (m : List Bool) (l : List Blk), (pM m l).Sublist l
  | true :: m, q :: r => (pM_sub m r).cons_cons q
  | false :: m, q :: r => (pM_sub m r).cons q
  | [], l => List.Sublist.refl l
  | true :: _, [] => List.Sublist.refl []
  | false :: _, [] => List.Sublist.refl []
theorem KA.pick {lo : Nat} {u : World} : ∀ (m : List Bool) {l : List Blk}, KA lo u l → KA lo u (pM m l)
  | true :: m, q :: r, h => ⟨h.1, KA.pick m h.2⟩
  | false :: m, q :: r, h => KA.pick m h.2
  | [], l, h => h
  | true :: _, [], _ => trivial
  | false :: _, [], _ => trivial
theorem Bk.pick {lo : Nat} {u : World} {l : List Blk} (m : List Bool) (h : Bk lo u l) : Bk lo u (pM m l) := ⟨h.a.pick m, ((pM_sub m l).map _).nodup h.n⟩
def mkR (fr : List Value) (lo : Nat) (w : World) (base : Nat) (ks : List Blk) (X : List Wr) (nw : List Nw) (G : List (Nat × Nat × Value)) (O N : List (Nat × Nat)) (E : List En) : Rg := ⟨fr, G.map (·.2.1) ++ (nw.map (·.2.1) ++ E.map (·.d)), lo, w, base, withX ks X, nw, G, O, N, E⟩
def fits (n : Nat) (X : List Wr) (nw : List Nw) (G : List (Nat × Nat × Value)) (E : List En) : Bool := X.all (Wr.upto n) && nw.all (nwUp n) && (G.all fun q => decide (q.1 < n)) && E.all fun q => decide (q.i < n)
def AllE (u : World) : List En → (List Value → Prop) → Prop
  | [], p => p []
  | q :: r, p => ∀ v, (q.c = none → q.p u v) → AllE u r fun vs => p (v :: vs)
@[go_sem] def setE : List Value → List Value → List En → List Value
  | fr, v :: vs, q :: r => setE (fr.set q.d v) vs r
  | fr, _, _ => fr
theorem setE_ovr {t : Nat → Value} : ∀ {E : List En} {fr : List Value}, ovr fr (E.map (·.d)) t = setE fr (E.map fun q => t q.d) E
  | [], _ => rfl
  | q :: r, fr => by rw [List.map_cons, ovr, List.map_cons, setE]; exact setE_ovr
theorem AllE.app {t : Nat → Value} {u : World} : ∀ {E : List En} {p : List Value → Prop}, (∀ q ∈ E, q.c = none → q.p u (t q.d)) → AllE u E p → p (E.map fun q => t q.d)
  | [], _, _, h => h
  | q :: r, p, hq, h => AllE.app (E := r) (p := fun vs => p (t q.d :: vs)) (fun x hx => hq x (List.mem_cons_of_mem _ hx)) (h _ (hq q List.mem_cons_self))
theorem Es.all {f : Nat → Bool} {t : Nat → Value} {u : World} {n : Nat} (hf : ∀ i, i < n → f i = true) : ∀ {E : List En}, (E.all fun q => decide (q.i < n)) = true → Es f t u E → ∀ q ∈ E, q.c = none → q.p u (t q.d)
  | [], _, _, q, hq, _ => by cases hq
  | x :: r, he, h, q, hq, hc => by
    simp only [List.all_cons, Bool.and_eq_true, decide_eq_true_eq] at he
    rcases List.mem_cons.1 hq with rfl | hq
    · exact h.1 (hf _ he.1) (fun c e => by rw [hc] at e; cases e)
    · exact Es.all hf he.2 h.2 q hq hc
theorem Es.none {t : Nat → Value} {u : World} : ∀ {E : List En}, Es (fun _ => false) t u E
  | [] => trivial
  | _ :: _ => ⟨fun e => (by cases e), Es.none⟩
theorem NwP.none {t : Nat → Value} {u : World} {base : Nat} : ∀ {nw : List Nw}, NwP u base (nwF (fun _ => false) t nw)
  | [] => trivial
  | (_, _, _, Option.none) :: r => ⟨fun e => (by cases e), NwP.none⟩
  | (_, _, _, some _) :: r => ⟨fun e => (by cases e), NwP.none⟩
theorem NdP.none {t : Nat → Value} : ∀ {nw : List Nw}, NdP (nwF (fun _ => false) t nw)
  | [] => trivial
  | (_, _, _, Option.none) :: r => ⟨fun e => (by cases e), NdP.none⟩
  | (_, _, _, some _) :: r => ⟨fun e => (by cases e), NdP.none⟩
theorem Ns.start {fr : List Value} : ∀ {l : List (Nat × Nat)}, Ns (fun _ => false) (fun s => fr.getD s undef) (l.map fun q => (q.1, q.2, fr.getD q.2 undef))
  | [] => trivial
  | _ :: _ => ⟨fun _ => rfl, Ns.start⟩
theorem KA.lts {lo : Nat} {u : World} {n : Nat} : ∀ {f : Nat → Bool} {es : List Ent}, KC f u lo n es → ∀ x ∈ es.map (·.2.1), x < n
  | _, [], _, x, hx => by cases hx
  | f, q :: r, h, x, hx => by
    rw [List.map_cons] at hx
    rcases List.mem_cons.1 hx with rfl | hx
    · exact h.1.1
    · exact KA.lts h.2 x hx
section
variable {P : Program} {ops : Array Oper} {Q : Exit → Act → World → Prop} {id : Nat} {w0 w : World} {fr : List Value} {lo : Nat} {ks : List Blk}
theorem Inv.start {v : World} (hv : Below lo w v) (hs : v.heap.size = w0.heap.size) (hK : KA lo v ks) (hlo : lo ≤ w0.heap.size) (X : List Wr) (nw : List Nw) (G : List (Nat × Nat × Value)) (O N : List (Nat × Nat)) (E : List En) :
    Inv (mkR fr lo w w0.heap.size ks X nw G O N E) (fun _ => false) (fun s => fr.getD s undef) v := by
  refine ⟨{ bel := hv, lo := hlo, sz := by rw [hs]; exact Nat.le_refl _, ks := trivial, ex := trivial, nw := NwP.none, nd := NdP.none }, ?_, Gs.none _ _, Os.none _, Ns.start, Es.none⟩
  have := hK.start X
  rw [hs] at this; exact this
theorem Inv.end {X : List Wr} {nw : List Nw} {G : List (Nat × Nat × Value)} {O N : List (Nat × Nat)} {E : List En} {M : List Bool} {f : Nat → Bool} {t : Nat → Value} {u : World} (hI : Inv (mkR fr lo w w0.heap.size ks X nw G O N E) f t u) (hf : ∀ i, i < ops.size → f i = true) (hfit : fits ops.size X nw G E = true) (hnd : (ks.map (·.2.1)).Nodup)
    (hend : ∀ u', AllNew nw fun bs => AllE u' E fun vs => Below lo w u' → w0.heap.size ≤ u'.heap.size → Bk lo u' (pM M (aK (fX ks X) (nK bs nw))) → Q .normal ⟨(setE (setN (setG fr G) bs nw) vs E).toArray, []⟩ u') : Q .normal ⟨(ovr fr (mkR fr lo w w0.heap.size ks X nw G O N E).S t).toArray, []⟩ u := by
  obtain ⟨hM, hK, hG, hO, hN, hE⟩ := hI
  unfold fits at hfit
  simp only [Bool.and_eq_true] at hfit
  have hAll : AllEq t G := Gs.all ops.size hf hG hfit.1.2
  obtain ⟨bs, l1, l2, l3, l4, l5, l6, _⟩ := news_of hf hfit.1.1.2 hM.nw hM.nd
  have he := ((hend u).app l1).app (Es.all hf hfit.2 hE) hM.bel hM.sz (Bk.pick M ⟨by rw [aK_eq]; exact KA.app (KC.fin hf hM.sz X hfit.1.1.1 hK) (l2 lo hM.lo), ?_⟩)
  · show Q .normal ⟨(ovr fr (G.map (·.2.1) ++ (nw.map (·.2.1) ++ E.map (·.d))) t).toArray, []⟩ u
    rw [ovr_app, ovr_app, ovr_G hAll, l6, setE_ovr]; exact he
  · rw [aK_eq, List.map_append, l5, fX_map, List.nodup_append]
    refine ⟨hnd, l4, fun x hx y hy e => ?_⟩
    subst e
    have h1 := KA.lts hK x (by show x ∈ (withX ks X).map (·.2.1); rw [withX_map]; exact hx)
    have h2 := l3 x hy
    have h1 : x < w0.heap.size := h1
    have h2 : w0.heap.size ≤ x := h2
    omega
/-- A region in the order of its text. -/
theorem rgF (K : Bk lo w0 ks) (HB : Below lo w w0) (hlo : lo ≤ w0.heap.size) (X : List Wr) (nw : List Nw) (G : List (Nat × Nat × Value)) (O N : List (Nat × Nat)) (E : List En) (M : List Bool) (hst : Stab E) (hops : OpsAll (mkR fr lo w w0.heap.size ks X nw G O N E) P ops Q 0 ops.toList)
    (hend : ∀ u', AllNew nw fun bs => AllE u' E fun vs => Below lo w u' → w0.heap.size ≤ u'.heap.size → Bk lo u' (pM M (aK (fX ks X) (nK bs nw))) → Q .normal ⟨(setE (setN (setG fr G) bs nw) vs E).toArray, []⟩ u')
    (hb : backs .any ops = true := by kernel_rfl) (hok : (mkR fr lo w w0.heap.size ks X nw G O N E).ok = true := by kernel_rfl) (hfit : fits ops.size X nw G E = true := by kernel_rfl) : (Code.region id ops false).wp P Q ⟨fr.toArray, []⟩ w0 := by
  refine region_plain (mkR fr lo w w0.heap.size ks X nw G O N E).S (Inv (mkR fr lo w w0.heap.size ks X nw G O N E)) hb (Inv.start HB rfl K.a hlo X nw G O N E) ?_ ?_
  · intro f t u i o a hF hI ho hfi hdep
    have := hops.get (n := i) (o := o) (by rw [Array.getElem?_toList]; exact ho)
    rw [Nat.zero_add] at this
    exact this f t u a ⟨hok, by show ((withX ks X).map (·.2.1)).Nodup; rw [withX_map]; exact K.n, hst, hF, hI, ho, hfi, hdep⟩
  · intro f t u hI hall
    exact hI.end hall hfit K.n hend
/-- A region that draws its order. -/
theorem rgE (K : Bk lo w0 ks) (HB : Below lo w w0) (hlo : lo ≤ w0.heap.size) (X : List Wr) (nw : List Nw) (G : List (Nat × Nat × Value)) (O N : List (Nat × Nat)) (E : List En) (M : List Bool) (hst : Stab E) (hops : OpsAll (mkR fr lo w w0.heap.size ks X nw G O N E) P ops Q 0 ops.toList)
    (hend : ∀ u', AllNew nw fun bs => AllE u' E fun vs => Below lo w u' → w0.heap.size ≤ u'.heap.size → Bk lo u' (pM M (aK (fX ks X) (nK bs nw))) → Q .normal ⟨(setE (setN (setG fr G) bs nw) vs E).toArray, []⟩ u')
    (hm : P.follows .mixedOrders = true := by kernel_rfl) (hb : backs .any ops = true := by kernel_rfl) (hok : (mkR fr lo w w0.heap.size ks X nw G O N E).ok = true := by kernel_rfl) (hfit : fits ops.size X nw G E = true := by kernel_rfl) : (Code.region id ops true).wp P Q ⟨fr.toArray, []⟩ w0 := by
  have hKd : KA lo w0.drew ks := by
    have := K.a
    revert this
    clear hend hops K hok
    induction ks with
    | nil => intro _; trivial
    | cons q r ih => exact fun h => ⟨⟨h.1.1, h.1.2.1, h.1.2.2.drew⟩, ih h.2⟩
  refine region_drawn (mkR fr lo w w0.heap.size ks X nw G O N E).S (Inv (mkR fr lo w w0.heap.size ks X nw G O N E)) hm hb (Inv.start HB.drew rfl hKd hlo X nw G O N E) ?_ ?_
  · intro f t u i o a hF hI ho hfi hdep
    have := hops.get (n := i) (o := o) (by rw [Array.getElem?_toList]; exact ho)
    rw [Nat.zero_add] at this
    exact this f t u a ⟨hok, by show ((withX ks X).map (·.2.1)).Nodup; rw [withX_map]; exact K.n, hst, hF, hI, ho, hfi, hdep⟩
  · intro f t u hI hall
    exact hI.end hall hfit K.n hend
theorem Stab.nil : Stab [] := fun q h => by cases h
theorem rgP (K : Bk lo w0 ks) (HB : Below lo w w0) (hlo : lo ≤ w0.heap.size) (X : List Wr) (nw : List Nw) (G : List (Nat × Nat × Value)) (O N : List (Nat × Nat)) (M : List Bool) (hops : OpsAll (mkR fr lo w w0.heap.size ks X nw G O N []) P ops Q 0 ops.toList)
    (hend : ∀ u', AllNew nw fun bs => Below lo w u' → w0.heap.size ≤ u'.heap.size → Bk lo u' (pM M (aK (fX ks X) (nK bs nw))) → Q .normal ⟨(setN (setG fr G) bs nw).toArray, []⟩ u')
    (hb : backs .any ops = true := by kernel_rfl) (hok : (mkR fr lo w w0.heap.size ks X nw G O N []).ok = true := by kernel_rfl) (hfit : fits ops.size X nw G [] = true := by kernel_rfl) : (Code.region id ops false).wp P Q ⟨fr.toArray, []⟩ w0 :=
  rgF K HB hlo X nw G O N [] M Stab.nil hops hend hb hok hfit
theorem rgD (K : Bk lo w0 ks) (HB : Below lo w w0) (hlo : lo ≤ w0.heap.size) (X : List Wr) (nw : List Nw) (G : List (Nat × Nat × Value)) (O N : List (Nat × Nat)) (M : List Bool) (hops : OpsAll (mkR fr lo w w0.heap.size ks X nw G O N []) P ops Q 0 ops.toList)
    (hend : ∀ u', AllNew nw fun bs => Below lo w u' → w0.heap.size ≤ u'.heap.size → Bk lo u' (pM M (aK (fX ks X) (nK bs nw))) → Q .normal ⟨(setN (setG fr G) bs nw).toArray, []⟩ u')
    (hm : P.follows .mixedOrders = true := by kernel_rfl) (hb : backs .any ops = true := by kernel_rfl) (hok : (mkR fr lo w w0.heap.size ks X nw G O N []).ok = true := by kernel_rfl) (hfit : fits ops.size X nw G [] = true := by kernel_rfl) : (Code.region id ops true).wp P Q ⟨fr.toArray, []⟩ w0 :=
  rgE K HB hlo X nw G O N [] M Stab.nil hops hend hm hb hok hfit
end
end Go.Proofs.Ytgfggkinmhhdnaa
/- Regions by one record: rows and words of this program. -/
namespace Go.Proofs.Ytgfggkinmhhdnaa
open Go.RowKit
set_option linter.unusedVariables false
set_option linter.unusedSimpArgs false
theorem uN : Try.prog.underlying 24 = some (.array 4 22) := Try.underlying24
theorem uW : Try.prog.underlying 45 = some (.array 8 22) := Try.underlying45
theorem iN : (Try.prog.info? 24).map (·.size) = some 4 := info_api_Nat
theorem iW : (Try.prog.info? 45).map (·.size) = some 8 := info_api_Wide
theorem aN (w : World) : (Instr.alloc 24 true (.tuple #[])).run Try.prog w = .ok (.pointer (some ⟨w.heap.size, 0, none⟩)) (w.alloc (.cells L0s.toArray 24)) := al_api_Nat w
theorem aW (w : World) : (Instr.alloc 45 true (.tuple #[])).run Try.prog w = .ok (.pointer (some ⟨w.heap.size, 0, none⟩)) (w.alloc (.cells L0w.toArray 45)) := al_api_Wide w
theorem zN (w : World) : (Instr.build 24 [].toArray).run Try.prog w = .ok (A4 0 0 0 0) w := by kernel_rfl
theorem lU {b c : Nat} {v : Int} (w : World) (h : w.cell? ⟨b, c, none⟩ = some (.int .u64 v)) : (Instr.loadAt 22 (.pointer (some ⟨b, c, none⟩))).run Try.prog w = .ok (.int .u64 v) w := ld_u64 w b c v h
theorem sU {b c : Nat} {v x : Int} (w : World) (h : w.cell? ⟨b, c, none⟩ = some (.int .u64 v)) (hf : w.frozen? ⟨b, c, none⟩ = false) : (Instr.storeAt 22 (.pointer (some ⟨b, c, none⟩)) (.int .u64 x)).run Try.prog w = .ok () (w.setCell ⟨b, c, none⟩ (.int .u64 x)) := st_u64 w b c v x h hf
theorem jN {b : Nat} (k : Nat) (w : World) (h : k < 4 := by decide) : (Instr.indexAt 24 (.pointer (some ⟨b, 0, none⟩)) (.int .i64 k)).run Try.prog w = .ok (.pointer (some ⟨b, k, none⟩)) w := ix_nat w b k h
theorem jW {b : Nat} (k : Nat) (w : World) (h : k < 8 := by decide) : (Instr.indexAt 45 (.pointer (some ⟨b, 0, none⟩)) (.int .i64 k)).run Try.prog w = .ok (.pointer (some ⟨b, k, none⟩)) w := ix_wide w b k h
theorem KA.c {lo : Nat} {u : World} {ks : List Blk} {b : Nat} {l : List Value} (h1 : b < u.heap.size) (h2 : CV u b l) (h : KA lo u ks) : KA lo u ((false, b, l) :: ks) := ⟨⟨h1, fun e => (by cases e), h2⟩, h⟩
theorem KA.o {lo : Nat} {u : World} {ks : List Blk} {b : Nat} {l : List Value} (h1 : b < u.heap.size) (h3 : lo ≤ b) (h2 : CV u b l) (h : KA lo u ks) : KA lo u ((true, b, l) :: ks) := ⟨⟨h1, fun _ => h3, h2⟩, h⟩
theorem Bk.nil (lo : Nat) (w : World) : Bk lo w [] := ⟨trivial, by simp⟩
theorem KA.alloc {lo : Nat} {u : World} (ob : Obj) : ∀ {ks : List Blk}, KA lo u ks → KA lo (u.alloc ob) ks
  | [], _ => trivial
  | q :: r, h => ⟨⟨Nat.lt_of_lt_of_le h.1.1 (by simp), h.1.2.1, h.1.2.2.alloc h.1.1 ob⟩, KA.alloc ob h.2⟩
theorem KA.mem {lo : Nat} {u : World} : ∀ {ks : List Blk}, KA lo u ks → ∀ x ∈ ks.map (·.2.1), x < u.heap.size
  | [], _, x, hx => by cases hx
  | q :: r, h, x, hx => by
    rw [List.map_cons] at hx
    rcases List.mem_cons.1 hx with rfl | hx
    · exact h.1.1
    · exact KA.mem h.2 x hx
/-- A block more. -/
theorem Bk.ad {lo : Nat} {u : World} {ks : List Blk} {n : Nat} {l : List Value} {T : TypeId} (h : Bk lo u ks) (hn : n = u.heap.size := by simp) (hlo : lo ≤ n := by omega) : Bk lo (u.alloc (.cells l.toArray T)) (ks ++ [(true, n, l)]) := by
  subst hn
  refine ⟨KA.app (h.a.alloc _) ⟨⟨by simp, fun _ => hlo, CV.new u l T⟩, trivial⟩, ?_⟩
  rw [List.map_append, List.nodup_append]
  refine ⟨h.n, by simp, fun x hx y hy e => ?_⟩
  have := h.a.mem x hx
  simp at hy
  omega
end Go.Proofs.Ytgfggkinmhhdnaa
