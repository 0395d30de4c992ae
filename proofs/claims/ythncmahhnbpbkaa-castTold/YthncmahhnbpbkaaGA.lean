/- Appends onto a row of one's own, room or not: what comes of them. -/
import Derived.Test.YthncmahhnbpbkaaGR
import Derived.Deep.Upon
namespace Go.Proofs.Ythncmahhnbpbkaa
open Go.RowKit
set_option linter.unusedVariables false
set_option linter.unusedSimpArgs false
theorem Addr.add0 (b j : Nat) : (⟨b, 0, none⟩ : Addr).add j = ⟨b, j, none⟩ := by unfold Addr.add; split <;> simp_all
theorem Addr.addo (b o j : Nat) : (⟨b, o, none⟩ : Addr).add j = ⟨b, o + j, none⟩ := by unfold Addr.add; split <;> simp_all
/-- A slice of m values whose cells are these. -/
def NW (m : Nat) (news : List Value) (u : World) (y : Value) : Prop := ∃ sl c, y = .slice sl m c ∧ (m = 0 ∨ ∃ ad, sl = some ad ∧ ∀ j v, news[j]? = some v → u.cell? (ad.add j) = some v)
/-- A row that is the old one, or a new one. -/
def PH (base b0 s n : Nat) (xs : List Value) (u : World) (v : Value) : Prop := ∃ b cap zs, v = .slice (some ⟨b, 0, none⟩) n cap ∧ (b = b0 ∨ base ≤ b) ∧ b < u.heap.size ∧ n ≤ cap ∧ zs.length = (cap - n) * s ∧ CV u b (xs ++ zs)
theorem PH.stab {base b0 s n : Nat} {xs : List Value} {u v : World} {x : Value} (hB : Below u.heap.size u v) (h : PH base b0 s n xs u x) : PH base b0 s n xs v x := by
  obtain ⟨b, cap, zs, e, h1, h2, h3, h4, h5⟩ := h
  exact ⟨b, cap, zs, e, h1, Nat.lt_of_lt_of_le h2 hB.size, h3, h4, h5.below hB h2⟩
theorem grown_setCells (u : World) (b o : Nat) (vs : List Value) : u.grownBy (u.setCells b o vs) (some b) := by
  have h : Below (min b u.heap.size) u (u.setCells b o vs) := below_setCells (Nat.min_le_left _ _) _ _ _ (Below.refl _ _)
  refine ⟨h.os, h.tape, h.output, by rw [size_setCells]; exact Nat.le_refl _, fun k hk hne => ?_⟩
  exact World.heap_setCells_other u b o vs hk (fun e => hne (by rw [e]))
section
variable {P : Program}
theorem run_app (w : World) {T ty e : TypeId} {ti : TypeInfo} {z : Value} (ht : P.underlying T = some (.slice e)) (hi : P.info? e = some ti) (hz : ti.zero = some z) (hzs : z.cells.size = ti.size) {base b n cap m : Nat} {xs zs news : List Value} {y : Value} (hcv : CV w b (xs ++ zs)) (hlt : b < w.heap.size) (hx : xs.length = n * ti.size) (hzl : zs.length = (cap - n) * ti.size) (hnc : n ≤ cap) (hbase : base ≤ w.heap.size) (hy : NW m news w y) (hl : news.length = m * ti.size) (h1 : ∀ v ∈ news, v.oneCell' = true) (hb : (n + m) * ti.bytes ≤ 140737488355328) (h63 : n + m ≤ 9223372036854775807) :
    ∃ v' w', (Builtin.append_ #[T, T] ty #[.slice (some ⟨b, 0, none⟩) n cap, y]).run P w = .ok v' w' ∧ w.grownBy w' (some b) ∧ PH base b ti.size (n + m) (xs ++ news) w' v' := by
  obtain ⟨sl, c, rfl, hy⟩ := hy
  by_cases hm : m = 0
  · subst hm
    have hn0 : news = [] := List.eq_nil_of_length_eq_zero (by omega)
    subst hn0
    refine ⟨.slice (some ⟨b, 0, none⟩) n cap, w, ?_, World.grownBy.refl _ _, b, cap, zs, rfl, .inl rfl, hlt, hnc, hzl, by simpa using hcv⟩
    have hf : (Builtin.firstCells ti.size 0 (.slice sl 0 c)).run P w = .ok #[] w := by
      cases sl with
      | none => exact run_firstCells_none (P := P) w ti.size 0 0 c
      | some ad => exact run_firstCells_some (P := P) w ti.size 0 ad 0 c [] (by simp) (fun j v h => by simp at h)
    simp [Builtin.append_, run_underlying ht, sizeOf, typeInfo, hi, Builtin.lenOf, hnc, hf, storeCells]
  · obtain ⟨ad, rfl, hnews⟩ := hy.resolve_left hm
    have hmul : (n + m) * ti.size = n * ti.size + m * ti.size := Nat.add_mul _ _ _
    by_cases hr : n + m ≤ cap
    · have hk : (cap - n) * ti.size = m * ti.size + (cap - (n + m)) * ti.size := by rw [← Nat.add_mul]; congr 1; omega
      have h := run_append_in (P := P) w (ty := ty) ht hi hcv (m := m) (c := c) hl hnews h1 hr (by rw [List.length_append]; omega)
      refine ⟨_, _, h, grown_setCells _ _ _ _, b, cap, zs.drop news.length, rfl, .inl rfl, by rw [size_setCells]; exact hlt, hr, by rw [List.length_drop]; omega, ?_⟩
      have hcv2 : CV w b (xs ++ zs.take news.length ++ zs.drop news.length) := by rw [List.append_assoc, List.take_append_drop]; exact hcv
      exact hcv2.mid hx (by rw [List.length_take]; omega)
    · have h := run_append_grow (P := P) w T ty e ti z ht hi hz ⟨b, 0, none⟩ n cap xs hx (fun j v hj => by rw [Addr.add0]; exact (hcv.pre2 j v hj).1) ad m c news hl hnews (by omega) (by omega) (growslice_fits (by omega) hb)
      have hB : Below w.heap.size w (w.drew.alloc (.cells (xs.toArray ++ news.toArray ++ Builtin.zeroCells z.cells (grownCap w (n + m) cap e - (n + m))) e)) := balloc (bself w).drew _
      refine ⟨_, _, h, (below_grown hB).but _, w.heap.size, _, (Builtin.zeroCells z.cells (grownCap w (n + m) cap e - (n + m))).toList, rfl, .inr hbase, by simp, grownCap_ge w (n + m) cap e, by rw [Array.length_toList, size_zeroCells, hzs], ?_⟩
      have e1 : xs.toArray ++ news.toArray ++ Builtin.zeroCells z.cells (grownCap w (n + m) cap e - (n + m)) = (xs ++ news ++ (Builtin.zeroCells z.cells (grownCap w (n + m) cap e - (n + m))).toList).toArray := by apply Array.ext'; simp
      rw [e1]; exact CV.new w.drew _ e
end
/-- The tracked blocks when one of them has turned into nothing known. -/
theorem KC.putG {f : Nat → Bool} {u v : World} {lo base i b : Nat} (hg : u.grownBy v (some b)) (hs : base ≤ u.heap.size) : ∀ {es : List Ent} {k : Nat} {o : Bool} {l : List Value}, KC f u lo base es → es[k]? = some (o, b, l, .all i []) → (es.map (·.2.1)).Nodup → ((es.eraseIdx k).all fun q => q.2.2.2.free i) = true → KC (updF f i) v lo base es := by
  have oth : ∀ {n : Nat} {l : List Value}, n < base → n ≠ b → CV u n l → CV v n l := fun {n l} hn hne h j x hj => by
    have hk : v.heap[n]? = u.heap[n]? := hg.block _ (by omega) (fun e => hne (by cases e; rfl))
    rw [World.cell?_of_block (a := ⟨n, j, none⟩) hk, World.frozen?_of_block (a := ⟨n, j, none⟩) hk]
    exact h j x hj
  have hr : ∀ {es : List Ent}, b ∉ es.map (·.2.1) → (es.all fun q => q.2.2.2.free i) = true → KC f u lo base es → KC (updF f i) v lo base es := by
    intro es
    induction es with
    | nil => intros; trivial
    | cons y ys ih =>
      intro hb ha h
      simp only [List.map_cons, List.mem_cons, not_or] at hb
      simp only [List.all_cons, Bool.and_eq_true] at ha
      have hfr := KC.free (i := i) (es := [y]) (by simp [ha.1]) (show KC f u lo base [y] from ⟨h.1, trivial⟩)
      exact ⟨⟨h.1.1, h.1.2.1, oth h.1.1 (fun e => hb.1 e.symm) hfr.1.2.2⟩, ih hb.2 ha.2 h.2⟩
  intro es
  induction es with
  | nil => intro k o l _ e; simp at e
  | cons q r ih =>
    intro k o l h e n hx
    simp only [List.map_cons, List.nodup_cons] at n
    cases k with
    | zero =>
      simp at e; subst e
      simp only [List.eraseIdx_cons_zero] at hx
      refine ⟨⟨h.1.1, h.1.2.1, ?_⟩, hr n.1 hx h.2⟩
      intro j x hj
      simp [Wr.val, updF] at hj
    | succ k =>
      simp only [List.getElem?_cons_succ] at e
      simp only [List.eraseIdx_cons_succ, List.all_cons, Bool.and_eq_true] at hx
      have hm : b ∈ r.map (·.2.1) := by
        have := List.mem_of_getElem? e
        exact List.mem_map.2 ⟨_, this, rfl⟩
      have hfr := KC.free (i := i) (es := [q]) (by simp [hx.1]) (show KC f u lo base [q] from ⟨h.1, trivial⟩)
      exact ⟨⟨h.1.1, h.1.2.1, oth h.1.1 (fun e => n.1 (e ▸ hm)) hfr.1.2.2⟩, ih h.2 e n.2 hx.2⟩
/-- What is asked of an append onto the k-th block that makes the n-th such value. -/
def Rg.chkG (R : Rg) (ops : Array Oper) (n k i : Nat) (o : Oper) : Bool :=
  (match o.dst, R.E[n]? with | some d, some q => q.i == i && q.d == d && owns i d R.G && apart i d R.Ns && R.S.contains d | _, _ => false)
  && R.okO i o && ((R.es.eraseIdx k).all fun q => q.2.2.2.free i) && ((R.E.eraseIdx n).all (eGone R.O i o)) && (wants R ops o == some true)
section
variable {R : Rg} {P : Program} {ops : Array Oper} {Q : Exit → Act → World → Prop} {f : Nat → Bool} {t : Nat → Value} {u : World} {a : Act} {i : Nat} {o : Oper}
theorem chkG_parts {n k : Nat} (h : R.chkG ops n k i o = true) : ∃ d q, o.dst = some d ∧ R.E[n]? = some q ∧ (q.i = i ∧ q.d = d) ∧ owns i d R.G = true ∧ apart i d R.Ns = true ∧ d ∈ R.S ∧ R.okO i o = true ∧ ((R.es.eraseIdx k).all fun q => q.2.2.2.free i) = true ∧ ((R.E.eraseIdx n).all (eGone R.O i o)) = true ∧ wants R ops o = some true := by
  unfold Rg.chkG at h
  cases hd : o.dst with
  | none => rw [hd] at h; simp at h
  | some d =>
    cases hq : R.E[n]? with
    | none => rw [hd, hq] at h; simp at h
    | some q =>
      rw [hd, hq] at h
      rw [Bool.and_eq_true, Bool.and_eq_true, Bool.and_eq_true, Bool.and_eq_true, Bool.and_eq_true, Bool.and_eq_true, Bool.and_eq_true, Bool.and_eq_true, List.contains_iff_mem, beq_iff_eq, beq_iff_eq, beq_iff_eq] at h
      obtain ⟨⟨⟨⟨⟨⟨⟨⟨a1, a2⟩, a3⟩, a4⟩, a5⟩, a6⟩, a7⟩, a8⟩, a9⟩ := h
      exact ⟨d, q, rfl, rfl, ⟨a1, a2⟩, a3, a4, a5, a6, a7, a8, a9⟩
theorem Xs.putG {n k b : Nat} {l : List Value} {p : World → Value → Prop} {v : Value} {u' : World} (X : Xs R ops f t u a i o) (hg : u.grownBy u' (some b)) (hn : R.es[k]? = some (true, b, l, .all i [])) (hw0 : R.nw = []) (hc : R.chkG ops n k i o = true) (hn0 : (R.E[n]?).map (·.p) = some p) (hp : p u' v) : ∃ t', Fr R.fr R.S (a.put o.dst v) t' ∧ Inv R (updF f i) t' u' := by
  obtain ⟨d', q', hd', hq', ⟨e1, e2⟩, k1, k2, k3, k6, k7, k8, hw⟩ := chkG_parts hc
  obtain ⟨_, q2, _⟩ := X.I.2.1.get hn
  refine ⟨updT t d' v, by rw [hd']; exact X.F.put X.parts.1 k3 v, ?_, KC.putG hg X.I.1.sz X.I.2.1 hn X.nd k7, Gs.other k1 X.I.2.2.1, okO_spec k6 X.I.2.2.2.1 X.dep, Ns.step X.I.2.2.2.2.1 k2, ?_⟩
  · have hM := X.I.1
    rw [hw0] at hM ⊢
    exact { bel := hM.bel.grown hg (Nat.le_trans hM.lo hM.sz) (fun k e => by cases e; exact q2 rfl), lo := hM.lo, sz := Nat.le_trans hM.sz hg.size, ks := trivial, ex := trivial, nw := trivial, nd := trivial }
  · exact Es.last (O := R.O) (fun j hj => X.later (by unfold Rg.later; rw [hj]; simp)) X.dep (by rw [hq', ← e1, ← e2]) k8 (by rw [hq'] at hn0; cases hn0; exact hp)
/-- An append of a value onto a row of one's own, room or not: the row is a new value, whose block is the old one or a new one. -/
theorem g_pE (k m n' : Nat) (p : World → Value → Prop) {T e : TypeId} {ti : TypeInfo} {z : Value} {x : Operand} {j d b n q cap : Nat} {l : List Value} (xs zs news : List Value) (ht : P.underlying T = some (.slice e)) (hi : P.info? e = some ti) (hz : ti.zero = some z) (hzs : z.cells.size = ti.size) (hl : l = xs ++ zs) (hp : ∀ u y, p u y → NW q news u y) (h1 : ∀ v ∈ news, v.oneCell' = true) (hnl : news.length = q * ti.size) (hxl : xs.length = n * ti.size) (hzl : zs.length = (cap - n) * ti.size) (hnc : n ≤ cap) (hb : (n + q) * ti.bytes ≤ 140737488355328) (h63 : n + q ≤ 9223372036854775807)
    (hop : o.op = .call { callee := .builtin .append, args := [x, .tmp d].toArray, argTypes := [T, T].toArray } := by rfl) (hn : R.es[k]? = some (true, b, l, .all i []) := by rfl) (hx : evR R i o x = some (.slice (some ⟨b, 0, none⟩) n cap) := by rfl) (hm : R.E[m]? = some ⟨j, d, some i, p⟩ := by rfl) (hd : (hasDep o j && R.S.contains d) = true := by rfl) (hn0 : (R.E[n']?).map (·.p) = some (PH R.base b ti.size (n + q) (xs ++ news)) := by rfl)
    (hw : R.nw = [] := by rfl) (hc : R.chkG ops n' k i o = true := by rfl) : OG R P ops Q i o := fun f t u a X => by
  rw [Bool.and_eq_true, List.contains_iff_mem] at hd
  obtain ⟨h2, h4⟩ := hd
  obtain ⟨d', q', hd', hq', _, _, _, _, _, _, _, hwt⟩ := chkG_parts hc
  obtain ⟨q1, q2, q3⟩ := X.I.2.1.get hn
  have q3 : CV u b (bif f i then [] else l) := q3
  rw [X.fi] at q3
  have q3 : CV u b l := q3
  rw [hl] at q3
  have hy : p u (t d) := X.val hm h2 rfl
  obtain ⟨v', w', hr, hg, hph⟩ := run_app (P := P) u (ty := o.type) ht hi hz hzs (base := R.base) q3 (Nat.lt_of_lt_of_le q1 X.I.1.sz) hxl hzl hnc X.I.1.sz (hp u (t d) hy) hnl h1 hb h63
  exact X.go hwt fun K hK => wp_app hop (X.ev hx) (X.inS h4) hr (hK _ _ (X.putG hg hn hw hc hn0 hph))
/-- The same, of a slice that is known. -/
theorem g_pV (k n' : Nat) {T e : TypeId} {ti : TypeInfo} {z vy : Value} {x y : Operand} {b n q cap : Nat} {l : List Value} (xs zs news : List Value) (ht : P.underlying T = some (.slice e)) (hi : P.info? e = some ti) (hz : ti.zero = some z) (hzs : z.cells.size = ti.size) (hl : l = xs ++ zs) (hp : ∀ f u, KC f u R.lo R.base R.es → Below R.lo R.w u → NW q news u vy) (h1 : ∀ v ∈ news, v.oneCell' = true) (hnl : news.length = q * ti.size) (hxl : xs.length = n * ti.size) (hzl : zs.length = (cap - n) * ti.size) (hnc : n ≤ cap) (hb : (n + q) * ti.bytes ≤ 140737488355328) (h63 : n + q ≤ 9223372036854775807)
    (hop : o.op = .call { callee := .builtin .append, args := [x, y].toArray, argTypes := [T, T].toArray } := by rfl) (hn : R.es[k]? = some (true, b, l, .all i []) := by rfl) (hx : evR R i o x = some (.slice (some ⟨b, 0, none⟩) n cap) := by rfl) (hy : evR R i o y = some vy := by rfl) (hn0 : (R.E[n']?).map (·.p) = some (PH R.base b ti.size (n + q) (xs ++ news)) := by rfl)
    (hw : R.nw = [] := by rfl) (hc : R.chkG ops n' k i o = true := by rfl) : OG R P ops Q i o := fun f t u a X => by
  obtain ⟨d', q', hd', hq', _, _, _, _, _, _, _, hwt⟩ := chkG_parts hc
  obtain ⟨q1, q2, q3⟩ := X.I.2.1.get hn
  have q3 : CV u b (bif f i then [] else l) := q3
  rw [X.fi] at q3
  have q3 : CV u b l := q3
  rw [hl] at q3
  obtain ⟨v', w', hr, hg, hph⟩ := run_app (P := P) u (ty := o.type) ht hi hz hzs (base := R.base) q3 (Nat.lt_of_lt_of_le q1 X.I.1.sz) hxl hzl hnc X.I.1.sz (hp f u X.I.2.1 X.I.1.bel) hnl h1 hb h63
  exact X.go hwt fun K hK => wp_app hop (X.ev hx) (X.ev hy) hr (hK _ _ (X.putG hg hn hw hc hn0 hph))
theorem KC.grown {u u' : World} {lo base b : Nat} (hg : u.grownBy u' (some b)) (hb : base ≤ b) (hsz : base ≤ u.heap.size) : ∀ {es : List Ent}, KC f u lo base es → KC f u' lo base es
  | [], _ => trivial
  | y :: ys, h => ⟨⟨h.1.1, h.1.2.1, fun j x hj => by
      have hk : u'.heap[y.2.1]? = u.heap[y.2.1]? := hg.block _ (Nat.lt_of_lt_of_le h.1.1 hsz) (fun e => by cases e; have := h.1.1; omega)
      rw [World.cell?_of_block (a := ⟨y.2.1, j, none⟩) hk, World.frozen?_of_block (a := ⟨y.2.1, j, none⟩) hk]
      exact h.1.2.2 j x hj⟩, KC.grown hg hb hsz h.2⟩
/-- An append onto such a value, that may write it, of a slice that is known, where there is nothing else new. -/
theorem g_a3 (m n : Nat) (p p' : World → Value → Prop) {T : TypeId} {j d : Nat} {x : Operand} {vx : Value} (hp : ∀ (f : Nat → Bool) (u : World) (vs : Value), KC f u R.lo R.base R.es → Below R.lo R.w u → R.base ≤ u.heap.size → p u vs → ∃ v u' b, (Builtin.append_ #[T, T] o.type #[vs, vx]).run P u = .ok v u' ∧ R.base ≤ b ∧ u.grownBy u' (some b) ∧ p' u' v) (hop : o.op = .call { callee := .builtin .append, args := [.tmp d, x].toArray, argTypes := [T, T].toArray } := by rfl) (hm : R.E[m]? = some ⟨j, d, some i, p⟩ := by rfl) (hn0 : (R.E[n]?).map (·.p) = some p' := by rfl) (hx : evR R i o x = some vx := by rfl) (hw0 : R.nw = [] := by rfl)
    (hd : (hasDep o j && R.S.contains d && ((R.E.eraseIdx n).all (eGone R.O i o))) = true := by rfl) (hc : R.chkE ops n i o = true := by rfl) : OG R P ops Q i o := fun f t u a X => by
  rw [Bool.and_eq_true, Bool.and_eq_true, List.contains_iff_mem] at hd
  obtain ⟨⟨h2, h4⟩, h5⟩ := hd
  obtain ⟨d', q', hd', hq', ⟨e1, e2⟩, k1, k2, k3, k4, k5, k6, k7, hw⟩ := chkE_parts hc
  have hv : p u (t d) := X.val hm h2 rfl
  obtain ⟨v, u', b, hr, hb, hg, hn⟩ := hp f u (t d) X.I.2.1 X.I.1.bel X.I.1.sz hv
  refine X.go hw fun K hK => wp_app hop (X.inS h4) (X.ev hx) hr (hK _ _ ⟨updT t d' v, by rw [hd']; exact X.F.put X.parts.1 k3 v, ?_, KC.free k7 (KC.grown hg hb X.I.1.sz X.I.2.1), Gs.other k1 X.I.2.2.1, okO_spec k6 X.I.2.2.2.1 X.dep, Ns.step X.I.2.2.2.2.1 k2, ?_⟩)
  · have hM := X.I.1
    rw [hw0] at hM ⊢
    exact { bel := hM.bel.grown hg (Nat.le_trans hM.lo hM.sz) (fun k e => by cases e; exact Nat.le_trans hM.lo hb), lo := hM.lo, sz := Nat.le_trans hM.sz hg.size, ks := trivial, ex := trivial, nw := trivial, nd := trivial }
  · exact Es.last (O := R.O) (fun j hj => X.later (by unfold Rg.later; rw [hj]; simp)) X.dep (by rw [hq', ← e1, ← e2]) h5 (by rw [hq'] at hn0; cases hn0; exact hn)
/-- An operand, where one slot holds y. -/
def ev1 (R : Rg) (i : Nat) (o : Oper) (d : Nat) (y : Value) (x : Operand) : Option Value :=
  match x with
  | .tmp k => bif Nat.beq k d then some y else evR R i o (.tmp k)
  | x => evR R i o x
theorem ev1_spec (X : Xs R ops f t u a i o) {d : Nat} (h4 : d ∈ R.S) {x : Operand} {v : Value} (h : ev1 R i o d (t d) x = some v) : a.eval x = v := by
  unfold ev1 at h
  split at h
  · rename_i k
    cases e : Nat.beq k d with
    | true =>
      rw [e] at h
      have e := Nat.eq_of_beq_eq_true e
      subst e
      cases h
      exact X.inS h4
    | false => rw [e] at h; exact X.ev h
  · exact X.ev h
theorem evs1 (X : Xs R ops f t u a i o) {d : Nat} (h4 : d ∈ R.S) : ∀ {xs : List Operand} {vs : List Value}, xs.mapM (ev1 R i o d (t d)) = some vs → xs.map a.eval = vs
  | [], vs, h => by simp at h; subst h; rfl
  | x :: xs, vs, h => by
    simp only [List.mapM_cons, Option.bind_eq_bind, Option.bind_eq_some_iff, Option.pure_def, Option.some.injEq] at h
    obtain ⟨v, hv, vs', hvs, rfl⟩ := h
    rw [List.map_cons, ev1_spec X h4 hv, evs1 X h4 hvs]
/-- A slice built of values, one of which is such a value. -/
theorem g_bY (m n : Nat) (p p' : World → Value → Prop) {T e : TypeId} {j d k : Nat} {xs : List (Nat × Operand)} (ks : List Nat) (vs : Value → List Value) (hr : ∀ w y, p w y → (Instr.buildSlice T k (ks.zip (vs y)).toArray).run P w = .ok (.slice (some ⟨w.heap.size, 0, none⟩) k k) (w.alloc (.cells (vs y).toArray e))) (hp : ∀ (f : Nat → Bool) (u : World) (y : Value), KC f u R.lo R.base R.es → Below R.lo R.w u → R.base ≤ u.heap.size → p u y → p' (u.alloc (.cells (vs y).toArray e)) (.slice (some ⟨u.heap.size, 0, none⟩) k k)) (hop : o.op = .buildSlice T k xs.toArray := by rfl) (hks : xs.map Prod.fst = ks := by rfl) (hm : R.E[m]? = some ⟨j, d, some i, p⟩ := by rfl)
    (hx : ∀ y, (xs.map Prod.snd).mapM (ev1 R i o d y) = some (vs y) := by intro y; rfl) (hd : (hasDep o j && R.S.contains d) = true := by rfl) (hn : (R.E[n]?).map (·.p) = some p' := by rfl) (hc : R.chkE ops n i o = true := by rfl) : OG R P ops Q i o := fun f t u a X => by
  rw [Bool.and_eq_true, List.contains_iff_mem] at hd
  obtain ⟨h2, h4⟩ := hd
  obtain ⟨d', q, hd', hq, _, _, _, _, _, _, _, _, hw⟩ := chkE_parts hc
  have hv : p u (t d) := X.val hm h2 rfl
  exact X.go hw fun K hK => wp_bS hop (evs1 X h4 (hx (t d))) (by rw [hks]; exact hr u (t d) hv) (hK _ _ (X.putE hc (fun q hq => by rw [hq] at hn; cases hn; exact hp f u (t d) X.I.2.1 X.I.1.bel X.I.1.sz hv) (balloc (bself u) _)))
/-- A call that knows both the blocks and what came in. -/
theorem g_cK {N : FuncId} {args : List Operand} {tys : Array TypeId} {vs : List Value} {v : Value} (hr : ∀ (vs : Array Value) (w : World), (callFunc N vs).run P w = .ok (.enter N vs) w)
    (hcall : ∀ f w, KC f w R.lo R.base R.es → R.base ≤ w.heap.size → Below R.lo R.w w → Calls P N vs.toArray w fun e w' => e = .returned v ∧ Below w.heap.size w w') (hop : o.op = .call { callee := .value (.func N), args := args.toArray, argTypes := tys } := by rfl) (hx : args.mapM (evR R i o) = some vs := by rfl) (hv : some v = pickV i R.G := by rfl) (hc : R.chk ops i o = true := by rfl) : OG R P ops Q i o := fun f t u a X =>
  X.go (chk_parts hc).choose_spec.2.2.2.2.2.2.2 fun K hK => wp_callF hop (X.evs hx) hr (hcall f u X.I.2.1 X.I.1.sz X.I.1.bel) fun w' hB => hK _ _ (X.put hv hc (X.I.1.call hB) (X.I.2.1.below hB X.I.1.sz) hB)
end
end Go.Proofs.Ythncmahhnbpbkaa
namespace Go.Proofs.Ythncmahhnbpbkaa
open Go.RowKit
set_option linter.unusedVariables false
set_option linter.unusedSimpArgs false
/-- An append onto a row that is full: all there was stays as it was. -/
theorem run_appF {P : Program} (w : World) {T ty e : TypeId} {ti : TypeInfo} {z : Value} (ht : P.underlying T = some (.slice e)) (hi : P.info? e = some ti) (hz : ti.zero = some z) (hzs : z.cells.size = ti.size) {lo b n m : Nat} {xs news : List Value} {y : Value} (hcv : CV w b xs) (hlo : lo ≤ b) (hlo2 : lo ≤ w.heap.size) (hlt : b < w.heap.size) (hx : xs.length = n * ti.size) (hy : NW m news w y) (hl : news.length = m * ti.size) (hb : (n + m) * ti.bytes ≤ 140737488355328) (h63 : n + m ≤ 9223372036854775807) :
    ∃ v' w', (Builtin.append_ #[T, T] ty #[.slice (some ⟨b, 0, none⟩) n n, y]).run P w = .ok v' w' ∧ Below w.heap.size w w' ∧ PG lo ti.size (n + m) (xs ++ news) w' v' := by
  obtain ⟨sl, c, rfl, hy⟩ := hy
  by_cases hm : m = 0
  · subst hm
    have hn0 : news = [] := List.eq_nil_of_length_eq_zero (by omega)
    subst hn0
    refine ⟨.slice (some ⟨b, 0, none⟩) n n, w, ?_, Below.refl _ _, b, n, [], rfl, hlo, hlt, Nat.le_refl _, by simp, by simpa using hcv⟩
    have hf : (Builtin.firstCells ti.size 0 (.slice sl 0 c)).run P w = .ok #[] w := by
      cases sl with
      | none => exact run_firstCells_none (P := P) w ti.size 0 0 c
      | some ad => exact run_firstCells_some (P := P) w ti.size 0 ad 0 c [] (by simp) (fun j v h => by simp at h)
    simp [Builtin.append_, run_underlying ht, sizeOf, typeInfo, hi, Builtin.lenOf, hf, storeCells]
  · obtain ⟨ad, rfl, hnews⟩ := hy.resolve_left hm
    have h := run_append_grow (P := P) w T ty e ti z ht hi hz ⟨b, 0, none⟩ n n xs hx (fun j v hj => by rw [Addr.add0]; exact (hcv j v hj).1) ad m c news hl hnews (by omega) (by omega) (growslice_fits (by omega) hb)
    refine ⟨_, _, h, balloc (bself w).drew _, w.heap.size, _, (Builtin.zeroCells z.cells (grownCap w (n + m) n e - (n + m))).toList, rfl, hlo2, by simp, grownCap_ge w (n + m) n e, by rw [Array.length_toList, size_zeroCells, hzs], ?_⟩
    have e1 : xs.toArray ++ news.toArray ++ Builtin.zeroCells z.cells (grownCap w (n + m) n e - (n + m)) = (xs ++ news ++ (Builtin.zeroCells z.cells (grownCap w (n + m) n e - (n + m))).toList).toArray := by apply Array.ext'; simp
    rw [e1]; exact CV.new w.drew _ e
section
variable {R : Rg} {P : Program} {ops : Array Oper} {Q : Exit → Act → World → Prop} {f : Nat → Bool} {t : Nat → Value} {u : World} {a : Act} {i : Nat} {o : Oper}
/-- A call that knows the blocks, and yields a value of which a property is known. -/
theorem g_cM (n : Nat) (p : World → Value → Prop) {N : FuncId} {args : List Operand} {tys : Array TypeId} {vs : List Value} (hr : ∀ (vs : Array Value) (w : World), (callFunc N vs).run P w = .ok (.enter N vs) w)
    (hcall : ∀ f w, KC f w R.lo R.base R.es → R.base ≤ w.heap.size → Below R.lo R.w w → Calls P N vs.toArray w fun e w' => ∃ v, e = .returned v ∧ p w' v ∧ Below w.heap.size w w') (hop : o.op = .call { callee := .value (.func N), args := args.toArray, argTypes := tys } := by rfl) (hx : args.mapM (evR R i o) = some vs := by rfl) (hn : (R.E[n]?).map (·.p) = some p := by rfl) (hc : R.chkE ops n i o = true := by rfl) : OG R P ops Q i o := fun f t u a X => by
  obtain ⟨d, q, hd, hq, _, _, _, _, _, _, _, _, hw⟩ := chkE_parts hc
  exact X.go hw fun K hK => wp_callP hop (X.evs hx) hr (hcall f u X.I.2.1 X.I.1.sz X.I.1.bel) fun v w' hp hB => hK _ _ (X.putE hc (fun q hq => by rw [hq] at hn; cases hn; exact hp) hB)
end
end Go.Proofs.Ythncmahhnbpbkaa
