import Derived.Test.YtgfggkinmhhdnaaD0
/- Memory within a region, whatever its order: blocks that are kept, blocks that are written once, blocks that are made and written once. -/
namespace Go.Proofs.Ytgfggkinmhhdnaa
open Go.RowKit
set_option linter.unusedVariables false
/-- The values l lie in block b, from its beginning on, and may be written. -/
def CV (w : World) (b : Nat) (l : List Value) : Prop := ∀ j v, l[j]? = some v → w.cell? ⟨b, j, none⟩ = some v ∧ w.frozen? ⟨b, j, none⟩ = false
theorem CV.below {w w' : World} {m n : Nat} {l : List Value} (h : CV w n l) (hb : Below m w w') (hn : n < m) : CV w' n l := fun j x hj => by
  rw [hb.cell (p := ⟨n, j, none⟩) hn, hb.frozen (p := ⟨n, j, none⟩) hn]; exact h j x hj
theorem CV.drew {w : World} {n : Nat} {l : List Value} (h : CV w n l) : CV w.drew n l := h
theorem CV.cells {w : World} {n b : Nat} {l : List Value} (h : CV w n l) (hn : n ≠ b) (o : Nat) (vs : List Value) : CV (w.setCells b o vs) n l := fun j x hj => by
  rw [World.frozen?_setCells, World.cell?_setCells_out b vs o w _ (fun e => absurd e hn)]
  exact h j x hj
theorem CV.there {w : World} {b : Nat} {l : List Value} (h : CV w b l) : w.there b 0 l.length := fun j hj => by
  have := h j _ (List.getElem?_eq_getElem hj)
  rw [Nat.zero_add, this.1]; exact ⟨rfl, this.2⟩
theorem CV.put {w : World} {b : Nat} {l vs : List Value} (h : CV w b l) (hl : vs.length = l.length) : CV (w.setCells b 0 vs) b vs := fun j x hj => by
  have ht := h.there
  have hv : j < vs.length := (List.getElem?_eq_some_iff.1 hj).1
  rw [World.frozen?_setCells]
  have h1 := World.cell?_setCells_in b vs 0 w (fun i hi => (ht i (by omega)).1) j hv
  have h2 := (ht j (by omega)).2
  simp only [Nat.zero_add] at h1 h2
  refine ⟨?_, h2⟩
  rw [h1]
  obtain ⟨_, rfl⟩ := List.getElem?_eq_some_iff.1 hj
  simp
theorem CV.new (w : World) (l : List Value) (t : TypeId) : CV (w.alloc (.cells l.toArray t)) w.heap.size l := fun j x hj => by
  have hf : (w.alloc (.cells l.toArray t)).frozen? ⟨w.heap.size, j, none⟩ = false := by simp [go_sem]
  refine ⟨?_, hf⟩
  rw [cell_of_row _ w.heap.size j _ t (0, 0) (heap_alloc_new _ _)]
  simp [hj]
theorem CV.alloc {w : World} {n : Nat} {l : List Value} (h : CV w n l) (hn : n < w.heap.size) (o : Obj) : CV (w.alloc o) n l :=
  h.below (m := w.heap.size) ((Below.refl _ _).alloc (Nat.le_refl _) o) hn
theorem CV.newAt (w : World) (l : List Value) (t : TypeId) (n : Nat) (hn : n = w.heap.size) : CV (w.alloc (.cells l.toArray t)) n l := by
  subst hn; exact CV.new w l t
theorem CV.range {w : World} {b : Nat} {l : List Value} (h : CV w b l) : w.rangeAt b 0 l := fun j v hj => by
  rw [Nat.zero_add]; exact (h j v hj).1
/-- Blocks that are kept. -/
def KsP (u : World) (base : Nat) : List (Nat × List Value) → Prop
  | [] => True
  | q :: r => (q.1 < base ∧ CV u q.1 q.2) ∧ KsP u base r
theorem KsP.below {u v : World} {base m : Nat} (hb : Below m u v) (hm : base ≤ m) : ∀ {ks : List (Nat × List Value)}, KsP u base ks → KsP v base ks
  | [], _ => trivial
  | q :: r, h => ⟨⟨h.1.1, h.1.2.below hb (by have := h.1.1; omega)⟩, KsP.below hb hm h.2⟩
/-- None of them is b. -/
def AllNe (b : Nat) : List (Nat × List Value) → Prop
  | [] => True
  | q :: r => q.1 ≠ b ∧ AllNe b r
theorem KsP.ne {u : World} {base b : Nat} (hb : base ≤ b) : ∀ {ks : List (Nat × List Value)}, KsP u base ks → AllNe b ks
  | [], _ => trivial
  | q :: r, h => ⟨by have := h.1.1; omega, KsP.ne hb h.2⟩
theorem KsP.cells {u : World} {base b : Nat} (o : Nat) (vs : List Value) : ∀ {ks : List (Nat × List Value)}, KsP u base ks → AllNe b ks → KsP (u.setCells b o vs) base ks
  | [], _, _ => trivial
  | q :: r, h, n => ⟨⟨h.1.1, h.1.2.cells n.1 _ _⟩, KsP.cells o vs h.2 n.2⟩
/-- Blocks that are written once: the block, whether it is written, what lay there, what lies there then. -/
def ExP (u : World) (lo base : Nat) : List (Nat × Bool × List Value × List Value) → Prop
  | [] => True
  | q :: r => (lo ≤ q.1 ∧ q.1 < base ∧ q.2.2.2.length = q.2.2.1.length ∧ CV u q.1 (bif q.2.1 then q.2.2.2 else q.2.2.1)) ∧ ExP u lo base r
theorem ExP.below {u v : World} {lo base m : Nat} (hb : Below m u v) (hm : base ≤ m) : ∀ {ks : List (Nat × Bool × List Value × List Value)}, ExP u lo base ks → ExP v lo base ks
  | [], _ => trivial
  | q :: r, h => ⟨⟨h.1.1, h.1.2.1, h.1.2.2.1, h.1.2.2.2.below hb (by have := h.1.2.1; omega)⟩, ExP.below hb hm h.2⟩
def AllNeX (b : Nat) : List (Nat × Bool × List Value × List Value) → Prop
  | [] => True
  | q :: r => q.1 ≠ b ∧ AllNeX b r
theorem ExP.ne {u : World} {lo base b : Nat} (hb : base ≤ b) : ∀ {ks : List (Nat × Bool × List Value × List Value)}, ExP u lo base ks → AllNeX b ks
  | [], _ => trivial
  | q :: r, h => ⟨by have := h.1.2.1; omega, ExP.ne hb h.2⟩
theorem ExP.cells {u : World} {lo base b : Nat} (o : Nat) (vs : List Value) : ∀ {ks : List (Nat × Bool × List Value × List Value)}, ExP u lo base ks → AllNeX b ks → ExP (u.setCells b o vs) lo base ks
  | [], _, _ => trivial
  | q :: r, h, n => ⟨⟨h.1.1, h.1.2.1, h.1.2.2.1, h.1.2.2.2.cells n.1 _ _⟩, ExP.cells o vs h.2 n.2⟩
theorem ExP.put {u : World} {lo base b : Nat} {f : Bool} {pre post : List Value} {l2 : List (Nat × Bool × List Value × List Value)} :
    ∀ {l1 : List (Nat × Bool × List Value × List Value)}, ExP u lo base (l1 ++ (b, f, pre, post) :: l2) → AllNeX b l1 → AllNeX b l2 → ExP (u.setCells b 0 post) lo base (l1 ++ (b, true, pre, post) :: l2)
  | [], h, _, n => ⟨⟨h.1.1, h.1.2.1, h.1.2.2.1, h.1.2.2.2.put (by cases f <;> simp [h.1.2.2.1])⟩, ExP.cells _ _ h.2 n⟩
  | q :: r, h, n, m => ⟨⟨h.1.1, h.1.2.1, h.1.2.2.1, h.1.2.2.2.cells n.1 _ _⟩, ExP.put (l1 := r) h.2 n.2 m⟩
/-- Blocks that are made and written once: whether made, whether written, the pointer, what lay there first, what lies there then. -/
def NwP (u : World) (base : Nat) : List (Bool × Bool × Value × List Value × List Value) → Prop
  | [] => True
  | q :: r => (q.1 = true → ∃ b, q.2.2.1 = .pointer (some ⟨b, 0, none⟩) ∧ base ≤ b ∧ b < u.heap.size ∧ CV u b (bif q.2.1 then q.2.2.2.2 else q.2.2.2.1)) ∧ NwP u base r
theorem NwP.below {u v : World} {base : Nat} (hb : Below u.heap.size u v) : ∀ {ks : List (Bool × Bool × Value × List Value × List Value)}, NwP u base ks → NwP v base ks
  | [], _ => trivial
  | q :: r, h => ⟨fun e => by
      obtain ⟨b, h1, h2, h3, h4⟩ := h.1 e
      exact ⟨b, h1, h2, by have := hb.size; omega, h4.below hb h3⟩, NwP.below hb h.2⟩
/-- None of them is at p. -/
def NeP (p : Value) : List (Bool × Bool × Value × List Value × List Value) → Prop
  | [] => True
  | q :: r => (q.1 = true → q.2.2.1 ≠ p) ∧ NeP p r
theorem NwP.cells {u : World} {base b : Nat} (o : Nat) (vs : List Value) : ∀ {ks : List (Bool × Bool × Value × List Value × List Value)}, NwP u base ks → NeP (.pointer (some ⟨b, 0, none⟩)) ks → NwP (u.setCells b o vs) base ks
  | [], _, _ => trivial
  | q :: r, h, n => ⟨fun e => by
      obtain ⟨b', h1, h2, h3, h4⟩ := h.1 e
      exact ⟨b', h1, h2, by rw [size_setCells]; exact h3, h4.cells (fun e' => n.1 e (by rw [h1, e'])) _ _⟩, NwP.cells o vs h.2 n.2⟩
theorem NwP.far {u : World} {base : Nat} : ∀ {ks : List (Bool × Bool × Value × List Value × List Value)}, NwP u base ks → NeP (.pointer (some ⟨u.heap.size, 0, none⟩)) ks
  | [], _ => trivial
  | q :: r, h => ⟨fun e e' => by
      obtain ⟨b', h1, h2, h3, h4⟩ := h.1 e
      rw [h1] at e'; injection e' with e'; injection e' with e'; injection e' with e'; omega, NwP.far h.2⟩
theorem NwP.lo {u : World} {base b : Nat} (hb : b < base) : ∀ {ks : List (Bool × Bool × Value × List Value × List Value)}, NwP u base ks → NeP (.pointer (some ⟨b, 0, none⟩)) ks
  | [], _ => trivial
  | q :: r, h => ⟨fun e e' => by
      obtain ⟨b', h1, h2, h3, h4⟩ := h.1 e
      rw [h1] at e'; injection e' with e'; injection e' with e'; injection e' with e'; omega, NwP.lo hb h.2⟩
/-- No two of them are the same. -/
def NdP : List (Bool × Bool × Value × List Value × List Value) → Prop
  | [] => True
  | q :: r => (q.1 = true → NeP q.2.2.1 r) ∧ NdP r
theorem NeP.turn {p v v' : Value} {a a' f f' : Bool} {pre post : List Value} {l2 : List (Bool × Bool × Value × List Value × List Value)} (hv : a' = true → v' ≠ p) :
    ∀ {l1 : List (Bool × Bool × Value × List Value × List Value)}, NeP p (l1 ++ (a, f, v, pre, post) :: l2) → NeP p (l1 ++ (a', f', v', pre, post) :: l2)
  | [], h => ⟨hv, h.2⟩
  | q :: r, h => ⟨h.1, NeP.turn hv (l1 := r) h.2⟩
theorem NeP.at {p v : Value} {f : Bool} {pre post : List Value} {l2 : List (Bool × Bool × Value × List Value × List Value)} :
    ∀ {l1 : List (Bool × Bool × Value × List Value × List Value)}, NeP p (l1 ++ (true, f, v, pre, post) :: l2) → v ≠ p
  | [], h => h.1 rfl
  | q :: r, h => NeP.at (l1 := r) h.2
theorem NwP.put {u : World} {base b : Nat} {f : Bool} {pre post : List Value} {l2 : List (Bool × Bool × Value × List Value × List Value)} (hl : post.length = pre.length) :
    ∀ {l1 : List (Bool × Bool × Value × List Value × List Value)}, NwP u base (l1 ++ (true, f, .pointer (some ⟨b, 0, none⟩), pre, post) :: l2) → NdP (l1 ++ (true, f, .pointer (some ⟨b, 0, none⟩), pre, post) :: l2) →
      NwP (u.setCells b 0 post) base (l1 ++ (true, true, .pointer (some ⟨b, 0, none⟩), pre, post) :: l2)
  | [], h, n => ⟨fun e => by
      obtain ⟨b', h1, h2, h3, h4⟩ := h.1 rfl
      injection h1 with h1; injection h1 with h1; injection h1 with h1; subst h1
      exact ⟨b, rfl, h2, by rw [size_setCells]; exact h3, h4.put (by cases f <;> simp [hl])⟩, NwP.cells _ _ h.2 (n.1 rfl)⟩
  | q :: r, h, n => ⟨fun e => by
      obtain ⟨b', h1, h2, h3, h4⟩ := h.1 e
      have hne := NeP.at (n.1 e)
      exact ⟨b', h1, h2, by rw [size_setCells]; exact h3, h4.cells (fun e' => hne (by rw [h1, e'])) _ _⟩, NwP.put hl (l1 := r) h.2 n.2⟩
theorem NdP.put {v : Value} {f f' : Bool} {pre post : List Value} {l2 : List (Bool × Bool × Value × List Value × List Value)} :
    ∀ {l1 : List (Bool × Bool × Value × List Value × List Value)}, NdP (l1 ++ (true, f, v, pre, post) :: l2) → NdP (l1 ++ (true, f', v, pre, post) :: l2)
  | [], h => ⟨h.1, h.2⟩
  | q :: r, h => ⟨fun e => NeP.turn (fun _ => NeP.at (h.1 e)) (h.1 e), NdP.put (l1 := r) h.2⟩
theorem NwP.new {u : World} {base : Nat} {v : Value} {f : Bool} {pre post : List Value} {t : TypeId} (hb : base ≤ u.heap.size) {l2 : List (Bool × Bool × Value × List Value × List Value)} :
    ∀ {l1 : List (Bool × Bool × Value × List Value × List Value)}, NwP (u.alloc (.cells pre.toArray t)) base (l1 ++ (false, false, v, pre, post) :: l2) → NwP (u.alloc (.cells pre.toArray t)) base (l1 ++ (true, false, .pointer (some ⟨u.heap.size, 0, none⟩), pre, post) :: l2)
  | [], h => ⟨fun _ => ⟨_, rfl, hb, by simp, CV.new u pre t⟩, h.2⟩
  | q :: r, h => ⟨h.1, NwP.new hb (f := f) (l1 := r) h.2⟩
theorem NdP.new {u : World} {base : Nat} {v : Value} {pre post : List Value} {l2 : List (Bool × Bool × Value × List Value × List Value)} :
    ∀ {l1 : List (Bool × Bool × Value × List Value × List Value)}, NwP u base (l1 ++ (false, false, v, pre, post) :: l2) → NdP (l1 ++ (false, false, v, pre, post) :: l2) → NdP (l1 ++ (true, false, .pointer (some ⟨u.heap.size, 0, none⟩), pre, post) :: l2)
  | [], w, h => ⟨fun _ => NwP.far w.2, h.2⟩
  | q :: r, w, h => ⟨fun e => NeP.turn (fun _ e' => by
      obtain ⟨b', h1, h2, h3, h4⟩ := w.1 e
      rw [h1] at e'; injection e' with e'; injection e' with e'; injection e' with e'; omega) (h.1 e), NdP.new (l1 := r) w.2 h.2⟩
structure MR (l0 : Nat) (w : World) (base : Nat) (lk : List (Nat × List Value)) (lx : List (Nat × Bool × List Value × List Value)) (ln : List (Bool × Bool × Value × List Value × List Value)) (u : World) : Prop where
  bel : Below l0 w u
  lo : l0 ≤ base
  sz : base ≤ u.heap.size
  ks : KsP u base lk
  ex : ExP u l0 base lx
  nw : NwP u base ln
  nd : NdP ln
variable {lo : Nat} {w u v : World} {base : Nat} {ks : List (Nat × List Value)} {ex : List (Nat × Bool × List Value × List Value)} {nw : List (Bool × Bool × Value × List Value × List Value)}
theorem MR.call (h : MR lo w base ks ex nw u) (hB : Below u.heap.size u v) : MR lo w base ks ex nw v :=
  { bel := h.bel.trans (hB.mono (Nat.le_trans h.lo h.sz)), lo := h.lo, sz := Nat.le_trans h.sz hB.size, ks := h.ks.below hB h.sz, ex := h.ex.below hB h.sz, nw := h.nw.below hB, nd := h.nd }
theorem MR.new {t : TypeId} {p : Value} {pre post : List Value} {l1 l2 : List (Bool × Bool × Value × List Value × List Value)} (h : MR lo w base ks ex (l1 ++ (false, false, p, pre, post) :: l2) u) :
    MR lo w base ks ex (l1 ++ (true, false, .pointer (some ⟨u.heap.size, 0, none⟩), pre, post) :: l2) (u.alloc (.cells pre.toArray t)) :=
  have k := h.call (balloc (bself u) (.cells pre.toArray t))
  { k with nw := NwP.new (f := false) h.sz k.nw, nd := NdP.new h.nw h.nd }
theorem MR.putN {b : Nat} {f : Bool} {pre post : List Value} {l1 l2 : List (Bool × Bool × Value × List Value × List Value)} (h : MR lo w base ks ex (l1 ++ (true, f, .pointer (some ⟨b, 0, none⟩), pre, post) :: l2) u) (hb : base ≤ b) (hl : post.length = pre.length) :
    MR lo w base ks ex (l1 ++ (true, true, .pointer (some ⟨b, 0, none⟩), pre, post) :: l2) (u.setCells b 0 post) :=
  { bel := below_setCells (Nat.le_trans h.lo hb) _ _ _ h.bel, lo := h.lo, sz := by rw [size_setCells]; exact h.sz, ks := h.ks.cells _ _ (h.ks.ne hb), ex := h.ex.cells _ _ (h.ex.ne hb), nw := NwP.put hl h.nw h.nd, nd := NdP.put h.nd }
theorem ExP.at {lo' b : Nat} {f : Bool} {pre post : List Value} {l2 : List (Nat × Bool × List Value × List Value)} :
    ∀ {l1 : List (Nat × Bool × List Value × List Value)}, ExP u lo' base (l1 ++ (b, f, pre, post) :: l2) → lo' ≤ b ∧ b < base
  | [], h => ⟨h.1.1, h.1.2.1⟩
  | q :: r, h => ExP.at (l1 := r) h.2
theorem MR.putX {b : Nat} {f : Bool} {pre post : List Value} {l1 l2 : List (Nat × Bool × List Value × List Value)} (h : MR lo w base ks (l1 ++ (b, f, pre, post) :: l2) nw u) (n1 : AllNe b ks) (n2 : AllNeX b l1) (n3 : AllNeX b l2) :
    MR lo w base ks (l1 ++ (b, true, pre, post) :: l2) nw (u.setCells b 0 post) :=
  { bel := below_setCells (ExP.at h.ex).1 _ _ _ h.bel, lo := h.lo, sz := by rw [size_setCells]; exact h.sz, ks := h.ks.cells _ _ n1, ex := ExP.put h.ex n2 n3, nw := h.nw.cells _ _ (h.nw.lo (ExP.at h.ex).2), nd := h.nd }
/-- A world in which one block has turned. -/
structure Chg (b : Nat) (u v : World) : Prop where
  size : v.heap.size = u.heap.size
  oth : ∀ n l, n ≠ b → CV u n l → CV v n l
theorem Chg.cell (u : World) (b k : Nat) (x : Value) : Chg b u (u.setCell ⟨b, k, none⟩ x) where
  size := by simp
  oth := fun n l hn h j y hj => by
    have hb : (u.setCell ⟨b, k, none⟩ x).heap[n]? = u.heap[n]? := Below.heap_setCell u ⟨b, k, none⟩ x n hn
    have c : (u.setCell ⟨b, k, none⟩ x).cell? ⟨n, j, none⟩ = u.cell? ⟨n, j, none⟩ := World.cell?_of_block (w := u) hb
    have f : (u.setCell ⟨b, k, none⟩ x).frozen? ⟨n, j, none⟩ = u.frozen? ⟨n, j, none⟩ := World.frozen?_of_block (w := u) hb
    rw [c, f]; exact h j y hj
theorem CV.setC {w : World} {n : Nat} {l : List Value} (h : CV w n l) (k : Nat) (hk : k < l.length) (v : Value) : CV (w.setCell ⟨n, k, none⟩ v) n (l.set k v) := fun j x hj => by
  rw [World.frozen?_setCell]
  obtain ⟨hc, hf⟩ := h k l[k] (List.getElem?_eq_getElem hk)
  by_cases e : j = k
  · subst e
    rw [List.getElem?_set_self (by omega)] at hj
    cases hj
    refine ⟨?_, hf⟩
    simp [go_sem, hc]
  · rw [List.getElem?_set_ne (by omega)] at hj
    obtain ⟨hc', hf'⟩ := h j x hj
    refine ⟨?_, hf'⟩
    rw [World.cell?_setCell_other _ _ _ _ (by simp <;> omega)]
    exact hc'
theorem KsP.chg {b : Nat} (c : Chg b u v) : ∀ {ks : List (Nat × List Value)}, KsP u base ks → AllNe b ks → KsP v base ks
  | [], _, _ => trivial
  | q :: r, h, n => ⟨⟨h.1.1, c.oth _ _ n.1 h.1.2⟩, KsP.chg c h.2 n.2⟩
theorem ExP.chg {lo' b : Nat} (c : Chg b u v) : ∀ {ks : List (Nat × Bool × List Value × List Value)}, ExP u lo' base ks → AllNeX b ks → ExP v lo' base ks
  | [], _, _ => trivial
  | q :: r, h, n => ⟨⟨h.1.1, h.1.2.1, h.1.2.2.1, c.oth _ _ n.1 h.1.2.2.2⟩, ExP.chg c h.2 n.2⟩
theorem NwP.chg {b : Nat} (c : Chg b u v) : ∀ {ks : List (Bool × Bool × Value × List Value × List Value)}, NwP u base ks → NeP (.pointer (some ⟨b, 0, none⟩)) ks → NwP v base ks
  | [], _, _ => trivial
  | q :: r, h, n => ⟨fun e => by
      obtain ⟨b', h1, h2, h3, h4⟩ := h.1 e
      exact ⟨b', h1, h2, by rw [c.size]; exact h3, c.oth _ _ (fun e' => n.1 e (by rw [h1, e'])) h4⟩, NwP.chg c h.2 n.2⟩
theorem KsP.up {b c : Nat} (hb : b ≤ c) : ∀ {ks : List (Nat × List Value)}, KsP u b ks → KsP u c ks
  | [], _ => trivial
  | q :: r, h => ⟨⟨Nat.lt_of_lt_of_le h.1.1 hb, h.1.2⟩, KsP.up hb h.2⟩
theorem ExP.up {lo' b c : Nat} (hb : b ≤ c) : ∀ {ks : List (Nat × Bool × List Value × List Value)}, ExP u lo' b ks → ExP u lo' c ks
  | [], _ => trivial
  | q :: r, h => ⟨⟨h.1.1, Nat.lt_of_lt_of_le h.1.2.1 hb, h.1.2.2⟩, ExP.up hb h.2⟩
theorem ExP.len {lo' b : Nat} {f : Bool} {pre post : List Value} {l2 : List (Nat × Bool × List Value × List Value)} :
    ∀ {l1 : List (Nat × Bool × List Value × List Value)}, ExP u lo' base (l1 ++ (b, f, pre, post) :: l2) → post.length = pre.length
  | [], h => h.1.2.2.1
  | q :: r, h => ExP.len (l1 := r) h.2
theorem ExP.joins {lo' : Nat} {q : Nat × Bool × List Value × List Value} {l2 : List (Nat × Bool × List Value × List Value)} : ∀ {l1 : List (Nat × Bool × List Value × List Value)}, ExP v lo' base l1 → (lo' ≤ q.1 ∧ q.1 < base ∧ q.2.2.2.length = q.2.2.1.length ∧ CV v q.1 (bif q.2.1 then q.2.2.2 else q.2.2.1)) → ExP v lo' base l2 → ExP v lo' base (l1 ++ q :: l2)
  | [], _, hq, h2 => ⟨hq, h2⟩
  | p :: r, h, hq, h2 => ⟨h.1, ExP.joins (l1 := r) h.2 hq h2⟩
/-- A call that writes one of the blocks, and nothing below it but that. -/
theorem MR.callX {b : Nat} {pre post : List Value} {l1 l2 : List (Nat × Bool × List Value × List Value)} (h : MR lo w base ks (l1 ++ (b, false, pre, post) :: l2) [] u) (hB : Below b u v) (hp : CV v b post) (n1 : KsP u b ks) (n2 : ExP u lo b l1) (n3 : ExP u lo b l2) :
    MR lo w base ks (l1 ++ (b, true, pre, post) :: l2) [] v where
  bel := h.bel.trans (hB.mono (ExP.at h.ex).1)
  lo := h.lo
  sz := Nat.le_trans h.sz hB.size
  ks := (n1.below hB (Nat.le_refl _)).up (Nat.le_of_lt (ExP.at h.ex).2)
  ex := ExP.joins ((n2.below hB (Nat.le_refl _)).up (Nat.le_of_lt (ExP.at h.ex).2)) ⟨(ExP.at h.ex).1, (ExP.at h.ex).2, ExP.len h.ex, hp⟩ ((n3.below hB (Nat.le_refl _)).up (Nat.le_of_lt (ExP.at h.ex).2))
  nw := trivial
  nd := trivial
theorem split_at {α : Type} {x : α} : ∀ {l : List α} {n : Nat}, l[n]? = some x → ∃ l1 l2, l = l1 ++ x :: l2 ∧ (∀ y, l.set n y = l1 ++ y :: l2) ∧ l1 = l.take n ∧ l2 = l.drop (n + 1)
  | [], n, h => by simp at h
  | a :: r, 0, h => by simp at h; subst h; exact ⟨[], r, rfl, fun _ => rfl, rfl, rfl⟩
  | a :: r, n + 1, h => by
    simp at h
    obtain ⟨l1, l2, h1, h2, h3, h4⟩ := split_at h
    exact ⟨a :: l1, l2, by rw [List.cons_append, ← h1], fun y => by rw [List.set_cons_succ, h2, List.cons_append], by rw [h3]; rfl, by rw [h4]; rfl⟩
/-- A new block, the n-th. -/
theorem MR.newF {t : TypeId} {fa fs : Bool} {p : Value} {pre post : List Value} (n : Nat) (h : MR lo w base ks ex nw u) (hn : nw[n]? = some (fa, fs, p, pre, post)) (ha : fa = false) (hs : fs = false) :
    MR lo w base ks ex (nw.set n (true, fs, .pointer (some ⟨u.heap.size, 0, none⟩), pre, post)) (u.alloc (.cells pre.toArray t)) := by
  subst ha hs
  obtain ⟨l1, l2, h1, h2, _, _⟩ := split_at hn
  rw [h2]
  rw [h1] at h
  exact h.new
/-- The n-th new block is written. -/
theorem MR.putF {fa fs : Bool} {p : Value} {b : Nat} {pre post : List Value} (n : Nat) (h : MR lo w base ks ex nw u) (hn : nw[n]? = some (fa, fs, p, pre, post)) (ha : fa = true) (hp : p = .pointer (some ⟨b, 0, none⟩)) (hb : base ≤ b) (hl : post.length = pre.length) :
    MR lo w base ks ex (nw.set n (fa, true, p, pre, post)) (u.setCells b 0 post) := by
  subst ha hp
  obtain ⟨l1, l2, h1, h2, _, _⟩ := split_at hn
  rw [h2]
  rw [h1] at h
  exact h.putN hb hl
/-- None of the others is b. -/
def AllNeI (b : Nat) : Nat → List (Nat × Bool × List Value × List Value) → Prop
  | _, [] => True
  | 0, _ :: r => AllNeX b r
  | n + 1, q :: r => q.1 ≠ b ∧ AllNeI b n r
theorem AllNeI.parts {b : Nat} : ∀ {n : Nat} {l : List (Nat × Bool × List Value × List Value)}, AllNeI b n l → n < l.length → AllNeX b (l.take n) ∧ AllNeX b (l.drop (n + 1))
  | 0, [], _, h => by simp at h
  | 0, _ :: r, h, _ => ⟨trivial, h⟩
  | n + 1, [], _, h => by simp at h
  | n + 1, q :: r, h, hl => by
    have := AllNeI.parts (n := n) (l := r) h.2 (by simpa using hl)
    exact ⟨⟨h.1, this.1⟩, this.2⟩
/-- The n-th block that is written. -/
theorem MR.putXF {b : Nat} {f : Bool} {pre post : List Value} (n : Nat) (h : MR lo w base ks ex nw u) (hn : ex[n]? = some (b, f, pre, post)) (n1 : AllNe b ks) (n2 : AllNeI b n ex) :
    MR lo w base ks (ex.set n (b, true, pre, post)) nw (u.setCells b 0 post) := by
  have hp := AllNeI.parts n2 (List.getElem?_eq_some_iff.1 hn).1
  obtain ⟨l1, l2, h1, h2, h3, h4⟩ := split_at hn
  rw [h2]
  rw [h1] at h
  rw [← h3, ← h4] at hp
  exact h.putX n1 hp.1 hp.2
/-- A region in the order of its text. -/
theorem wp_region_seq {P : Program} {ops : Array Oper} {Q : Exit → Act → World → Prop} {id : Nat} {a : Act} {w : World} (I : (Nat → Bool) → Act → World → Prop) (hb : backs .any ops = true)
    (h0 : I (fun _ => false) a w)
    (hs : ∀ f a u i o, I f a u → ops[i]? = some o → f i = false → (∀ e ∈ o.after, Region.binds .any e = true → f e.on = true) → wpOp P ops Q i (fun a' u' => I (fun j => if j = i then true else f j) a' u') a u)
    (hd : ∀ f a u, I f a u → (∀ i, i < ops.size → f i = true) → Q .normal a u) : (Code.region id ops false).wp P Q a w := by
  refine wp_region ?_
  have key : ∀ (n k : Nat) (a : Act) (u : World), k + n = ops.size → I (fun j => decide (j < k)) a u → wpOps P ops Q (List.range' k n) a u := by
    intro n
    induction n with
    | zero => intro k a u hk hI; exact hd _ a u hI (fun i hi => by simp; omega)
    | succ n ih =>
      intro k a u hk hI
      rw [List.range'_succ, wpOps_cons]
      have hlt : k < ops.size := by omega
      refine wpOp_mono (fun a' u' h => ih (k + 1) a' u' (by omega) ?_) (hs _ a u k ops[k] hI (Array.getElem?_eq_getElem hlt) (by simp) (fun e he hbi => by
        have := backs_spec hb k _ (Array.getElem?_eq_getElem hlt) e he hbi
        simp; omega))
      refine cast ?_ h
      congr 1
      funext j
      by_cases hji : j = k
      · subst hji; simp
      · rw [if_neg hji]; simp <;> omega
  have := key ops.size 0 a w (by omega) (cast (by congr 1) h0)
  rwa [← List.range_eq_range'] at this
end Go.Proofs.Ytgfggkinmhhdnaa
/- A region, whatever its order: one condition on which operations have come up, on the slots that they write, and on memory. -/
namespace Go.Proofs.Ytgfggkinmhhdnaa
open Go.RowKit
set_option linter.unusedVariables false
/-- A frame in which the slots S hold what t says. -/
def ovr (fr : List Value) : List Nat → (Nat → Value) → List Value
  | [], _ => fr
  | s :: S, t => ovr (fr.set s (t s)) S t
theorem set_same {fr : List Value} {s : Nat} : fr.set s (fr.getD s undef) = fr := by
  induction fr generalizing s with
  | nil => rfl
  | cons x r ih =>
    cases s with
    | zero => rfl
    | succ s => simp only [List.set_cons_succ]; congr 1; simpa using ih (s := s)
theorem ovr_same (fr : List Value) : ∀ S : List Nat, ovr fr S (fun s => fr.getD s undef) = fr
  | [] => rfl
  | s :: S => by rw [ovr, set_same]; exact ovr_same fr S
def updF (f : Nat → Bool) (i : Nat) : Nat → Bool := fun j => if j = i then true else f j
def updT (t : Nat → Value) (d : Nat) (v : Value) : Nat → Value := fun s => if s = d then v else t s
theorem ovr_comm (t : Nat → Value) (d : Nat) (v : Value) : ∀ (S : List Nat) (fr : List Value), d ∉ S → (ovr fr S t).set d v = ovr (fr.set d v) S t
  | [], _, _ => rfl
  | s :: S, fr, h => by
    simp only [List.mem_cons, not_or] at h
    rw [ovr, ovr, ovr_comm t d v S _ h.2, List.set_comm _ _ (fun e => h.1 e.symm)]
theorem ovr_eq (t : Nat → Value) (d : Nat) (v : Value) : ∀ (S : List Nat) (fr : List Value), d ∉ S → ovr fr S (updT t d v) = ovr fr S t
  | [], _, _ => rfl
  | s :: S, fr, h => by
    simp only [List.mem_cons, not_or] at h
    rw [ovr, ovr, ovr_eq t d v S _ h.2]
    simp only [updT, if_neg (fun e => h.1 (Eq.symm e))]
theorem ovr_put (t : Nat → Value) (d : Nat) (v : Value) : ∀ (S : List Nat) (fr : List Value), S.Nodup → d ∈ S → (ovr fr S t).set d v = ovr fr S (updT t d v)
  | [], _, _, h => by cases h
  | s :: S, fr, n, h => by
    have n' := List.nodup_cons.1 n
    by_cases e : d = s
    · subst e
      rw [ovr, ovr, ovr_comm _ _ _ _ _ n'.1, ovr_eq _ _ _ _ _ n'.1, List.set_set]
      simp only [updT, if_pos]
    · have h' : d ∈ S := by simpa [e] using h
      rw [ovr, ovr, ovr_put t d v S _ n'.2 h']
      simp only [updT, if_neg (fun x => e (Eq.symm x))]
theorem ovr_out (t : Nat → Value) (d : Nat) : ∀ (S : List Nat) (fr : List Value), d ∉ S → (ovr fr S t)[d]? = fr[d]?
  | [], _, _ => rfl
  | s :: S, fr, h => by
    simp only [List.mem_cons, not_or] at h
    rw [ovr, ovr_out t d S _ h.2, List.getElem?_set_ne (fun e => h.1 e.symm)]
theorem ovr_in (t : Nat → Value) (d : Nat) : ∀ (S : List Nat) (fr : List Value), S.Nodup → d ∈ S → d < fr.length → (ovr fr S t)[d]? = some (t d)
  | [], _, _, h, _ => by cases h
  | s :: S, fr, n, h, l => by
    have n' := List.nodup_cons.1 n
    by_cases e : d = s
    · subst e
      rw [ovr, ovr_out _ _ _ _ n'.1, List.getElem?_set_self l]
    · have h' : d ∈ S := by simpa [e] using h
      rw [ovr, ovr_in t d S _ n'.2 h' (by simpa using l)]
/-- A frame in which the slots S hold what t says, and the others what fr holds. -/
def Fr (fr : List Value) (S : List Nat) (a : Act) (t : Nat → Value) : Prop := a = ⟨(ovr fr S t).toArray, []⟩
theorem Fr.ev {fr : List Value} {S : List Nat} {a : Act} {t : Nat → Value} {N : Nat} (h : Fr fr S a t) (n : S.Nodup) (hl : fr.length = N) (s : Nat) (hs : s ∈ S) (hN : s < N) : a.eval (.tmp s) = t s := by
  rw [h]
  show (ovr fr S t).toArray.getD s undef = _
  have := ovr_in t s S fr n hs (by omega)
  simp [Array.getD_eq_getD_getElem?, this]
theorem Fr.evs {fr : List Value} {S : List Nat} {a : Act} {t : Nat → Value} {N : Nat} (h : Fr fr S a t) (n : S.Nodup) (hl : fr.length = N) (hN : ∀ s ∈ S, s < N) (s : Nat) (hs : s ∈ S) : a.eval (.tmp s) = t s := h.ev n hl s hs (hN s hs)
theorem Fr.out {fr : List Value} {S : List Nat} {a : Act} {t : Nat → Value} (h : Fr fr S a t) (s : Nat) (hs : s ∉ S) : a.eval (.tmp s) = fr.getD s undef := by
  rw [h]
  show (ovr fr S t).toArray.getD s undef = _
  have := ovr_out t s S fr hs
  simp [Array.getD_eq_getD_getElem?, this]
theorem Fr.put {fr : List Value} {S : List Nat} {a : Act} {t : Nat → Value} (h : Fr fr S a t) (n : S.Nodup) {d : Nat} (hd : d ∈ S) (v : Value) : Fr fr S (a.put (some d) v) (updT t d v) := by
  rw [h]
  show Act.mk ((ovr fr S t).toArray.setIfInBounds d v) [] = _
  rw [List.setIfInBounds_toArray, ovr_put _ _ _ _ _ n hd]
section
variable {P : Program} {ops : Array Oper} {Q : Exit → Act → World → Prop} {id : Nat} {w : World} {fr : List Value}
theorem region_drawn (S : List Nat) (I : (Nat → Bool) → (Nat → Value) → World → Prop) (hm : P.follows .mixedOrders = true) (hb : backs .any ops = true)
    (h0 : I (fun _ => false) (fun s => fr.getD s undef) w.drew)
    (hs : ∀ f t u i o a, Fr fr S a t → I f t u → ops[i]? = some o → f i = false → (∀ e ∈ o.after, Region.binds .any e = true → f e.on = true) → wpOp P ops Q i (fun a' u' => ∃ t', Fr fr S a' t' ∧ I (updF f i) t' u') a u)
    (hd : ∀ f t u, I f t u → (∀ i, i < ops.size → f i = true) → Q .normal ⟨(ovr fr S t).toArray, []⟩ u) : (Code.region id ops true).wp P Q ⟨fr.toArray, []⟩ w := by
  refine wp_region_inv (fun f a u => ∃ t, Fr fr S a t ∧ I f t u) hm hb ⟨_, by unfold Fr; rw [ovr_same], h0⟩ ?_ ?_
  · rintro f a u i o ⟨t, hF, hI⟩ ho hf hdep
    exact hs f t u i o a hF hI ho hf hdep
  · rintro f a u ⟨t, rfl, hI⟩ hall
    exact hd f t u hI hall
theorem region_plain (S : List Nat) (I : (Nat → Bool) → (Nat → Value) → World → Prop) (hb : backs .any ops = true)
    (h0 : I (fun _ => false) (fun s => fr.getD s undef) w)
    (hs : ∀ f t u i o a, Fr fr S a t → I f t u → ops[i]? = some o → f i = false → (∀ e ∈ o.after, Region.binds .any e = true → f e.on = true) → wpOp P ops Q i (fun a' u' => ∃ t', Fr fr S a' t' ∧ I (updF f i) t' u') a u)
    (hd : ∀ f t u, I f t u → (∀ i, i < ops.size → f i = true) → Q .normal ⟨(ovr fr S t).toArray, []⟩ u) : (Code.region id ops false).wp P Q ⟨fr.toArray, []⟩ w := by
  refine wp_region_seq (fun f a u => ∃ t, Fr fr S a t ∧ I f t u) hb ⟨_, by unfold Fr; rw [ovr_same], h0⟩ ?_ ?_
  · rintro f a u i o ⟨t, hF, hI⟩ ho hf hdep
    exact hs f t u i o a hF hI ho hf hdep
  · rintro f a u ⟨t, rfl, hI⟩ hall
    exact hd f t u hI hall
end
theorem op_plain {P : Program} {ops : Array Oper} {Q : Exit → Act → World → Prop} {i : Nat} {o : Oper} {K : Act → World → Prop} {a : Act} {w : World} (ho : ops[i]? = some o) (hg : o.guard = none) (h : ∀ K' : Act → World → Prop, (∀ a w, K a w → K' a w) → Oper.wp P o a w K' Q) : wpOp P ops Q i K a w :=
  wpOp_step ho fun K' hK => by rw [if_pos (by unfold Region.wanted; rw [hg])]; exact h K' hK
/-- What the slots hold of the operations that have come up: the operation, its slot, its value. -/
def Gs (f : Nat → Bool) (t : Nat → Value) : List (Nat × Nat × Value) → Prop
  | [] => True
  | q :: r => (f q.1 = true → t q.2.1 = q.2.2) ∧ Gs f t r
theorem Gs.none (t : Nat → Value) : ∀ l : List (Nat × Nat × Value), Gs (fun _ => false) t l
  | [] => trivial
  | q :: r => ⟨fun e => (by cases e), Gs.none t r⟩
/-- Each operation has a slot of its own. -/
def owns (i d : Nat) : List (Nat × Nat × Value) → Bool
  | [] => true
  | q :: r => (decide (q.1 ≠ i) && decide (q.2.1 ≠ d)) && owns i d r
theorem Gs.other {f : Nat → Bool} {t : Nat → Value} {i d : Nat} {v : Value} : ∀ {l : List (Nat × Nat × Value)}, owns i d l = true → Gs f t l → Gs (updF f i) (updT t d v) l
  | [], _, _ => trivial
  | q :: r, ho, h => by
    simp only [owns, Bool.and_eq_true, decide_eq_true_eq] at ho
    refine ⟨fun e => ?_, Gs.other ho.2 h.2⟩
    simp only [updF, if_neg ho.1.1] at e
    simp only [updT, if_neg ho.1.2]
    exact h.1 e
theorem Gs.step {f : Nat → Bool} {t : Nat → Value} {i d : Nat} {v : Value} {l2 : List (Nat × Nat × Value)} : ∀ {l1 : List (Nat × Nat × Value)}, Gs f t (l1 ++ (i, d, v) :: l2) → owns i d l1 = true → owns i d l2 = true → Gs (updF f i) (updT t d v) (l1 ++ (i, d, v) :: l2)
  | [], h, _, o2 => ⟨fun _ => by simp [updT], Gs.other o2 h.2⟩
  | q :: r, h, o1, o2 => by
    simp only [owns, Bool.and_eq_true, decide_eq_true_eq] at o1
    refine ⟨fun e => ?_, Gs.step (l1 := r) h.2 o1.2 o2⟩
    simp only [updF, if_neg o1.1.1] at e
    simp only [updT, if_neg o1.1.2]
    exact h.1 e
/-- The value of operation i. -/
def pickV (i : Nat) : List (Nat × Nat × Value) → Option Value
  | [] => none
  | q :: r => if q.1 = i then some q.2.2 else pickV i r
def ownsA (i d : Nat) : List (Nat × Nat × Value) → Bool
  | [] => false
  | q :: r => if q.1 = i then decide (q.2.1 = d) && owns i d r else decide (q.2.1 ≠ d) && ownsA i d r
theorem Gs.stepA {f : Nat → Bool} {t : Nat → Value} {i d : Nat} {v : Value} : ∀ {l : List (Nat × Nat × Value)}, Gs f t l → ownsA i d l = true → pickV i l = some v → Gs (updF f i) (updT t d v) l
  | [], _, o, _ => by cases o
  | q :: r, h, o, hv => by
    by_cases hq : q.1 = i
    · simp only [ownsA, if_pos hq, Bool.and_eq_true, decide_eq_true_eq] at o
      simp only [pickV, if_pos hq, Option.some.injEq] at hv
      refine ⟨fun _ => ?_, Gs.other o.2 h.2⟩
      simp only [updT, if_pos o.1]; exact hv.symm
    · simp only [ownsA, if_neg hq, Bool.and_eq_true, decide_eq_true_eq] at o
      simp only [pickV, if_neg hq] at hv
      refine ⟨fun e => ?_, Gs.stepA h.2 o.2 hv⟩
      simp only [updF, if_neg hq] at e
      simp only [updT, if_neg o.1]
      exact h.1 e
/-- An operation that writes no slot. -/
def lacks (i : Nat) : List (Nat × Nat × Value) → Bool
  | [] => true
  | q :: r => decide (q.1 ≠ i) && lacks i r
theorem Gs.idle {f : Nat → Bool} {t : Nat → Value} {i : Nat} : ∀ {l : List (Nat × Nat × Value)}, lacks i l = true → Gs f t l → Gs (updF f i) t l
  | [], _, _ => trivial
  | q :: r, ho, h => by
    simp only [lacks, Bool.and_eq_true, decide_eq_true_eq] at ho
    refine ⟨fun e => ?_, Gs.idle ho.2 h.2⟩
    simp only [updF, if_neg ho.1] at e
    exact h.1 e
/-- What the slots hold of the operations that have not come up. -/
def Ns (f : Nat → Bool) (t : Nat → Value) : List (Nat × Nat × Value) → Prop
  | [] => True
  | q :: r => (f q.1 = false → t q.2.1 = q.2.2) ∧ Ns f t r
def apart (i d : Nat) : List (Nat × Nat × Value) → Bool
  | [] => true
  | q :: r => (decide (q.1 = i) || decide (q.2.1 ≠ d)) && apart i d r
theorem Ns.step {f : Nat → Bool} {t : Nat → Value} {i d : Nat} {v : Value} : ∀ {l : List (Nat × Nat × Value)}, Ns f t l → apart i d l = true → Ns (updF f i) (updT t d v) l
  | [], _, _ => trivial
  | q :: r, h, o => by
    simp only [apart, Bool.and_eq_true, Bool.or_eq_true, decide_eq_true_eq] at o
    refine ⟨fun e => ?_, Ns.step h.2 o.2⟩
    simp only [updF] at e
    by_cases hq : q.1 = i
    · rw [if_pos hq] at e; cases e
    · rw [if_neg hq] at e
      simp only [updT, if_neg (o.1.resolve_left hq)]
      exact h.1 e
theorem Ns.idle {f : Nat → Bool} {t : Nat → Value} {i : Nat} : ∀ {l : List (Nat × Nat × Value)}, Ns f t l → Ns (updF f i) t l
  | [], _ => trivial
  | q :: r, h => by
    refine ⟨fun e => ?_, Ns.idle h.2⟩
    simp only [updF] at e
    by_cases hq : q.1 = i
    · rw [if_pos hq] at e; cases e
    · rw [if_neg hq] at e; exact h.1 e
/-- A store comes behind the loads. -/
def Os (f : Nat → Bool) : List (Nat × Nat) → Prop
  | [] => True
  | q :: r => (f q.1 = true → f q.2 = true) ∧ Os f r
theorem Os.none : ∀ l : List (Nat × Nat), Os (fun _ => false) l
  | [] => trivial
  | q :: r => ⟨fun e => (by cases e), Os.none r⟩
theorem Os.step {f : Nat → Bool} {i : Nat} : ∀ {l : List (Nat × Nat)}, Os f l → (∀ q ∈ l, q.1 = i → f q.2 = true) → Os (updF f i) l
  | [], _, _ => trivial
  | q :: r, h, k => by
    refine ⟨fun e => ?_, Os.step h.2 (fun q' hq => k q' (List.mem_cons_of_mem _ hq))⟩
    simp only [updF] at e ⊢
    split
    · rfl
    · by_cases h1 : q.1 = i
      · exact k q (List.mem_cons_self) h1
      · rw [if_neg h1] at e; exact h.1 e
theorem Os.not {f : Nat → Bool} {s i : Nat} (h : f s = true → f i = true) (hi : f i = false) : f s = false := by
  cases hg : f s
  · rfl
  · have := h hg; rw [hi] at this; cases this
abbrev LN (n : Int) : List Value := [.int .u64 (D0 n), .int .u64 (D1 n), .int .u64 (D2 n), .int .u64 (D3 n)]
abbrev LW (n : Int) : List Value := [.int .u64 (D0 n), .int .u64 (D1 n), .int .u64 (D2 n), .int .u64 (D3 n), .int .u64 (D0 (D4 n)), .int .u64 (D1 (D4 n)), .int .u64 (D2 (D4 n)), .int .u64 (D3 (D4 n))]
abbrev L0s : List Value := [.int .u64 0, .int .u64 0, .int .u64 0, .int .u64 0]
abbrev L0w : List Value := [.int .u64 0, .int .u64 0, .int .u64 0, .int .u64 0, .int .u64 0, .int .u64 0, .int .u64 0, .int .u64 0]
end Go.Proofs.Ytgfggkinmhhdnaa
/- Operations, one by one, as rules. -/
namespace Go.Proofs.Ytgfggkinmhhdnaa
open Go.RowKit
set_option linter.unusedVariables false
section
variable {P : Program} {o : Oper} {a : Act} {w : World} {K : Act → World → Prop} {Q : Exit → Act → World → Prop}
theorem wp_val {v : Value} {w' : World} (h : (execOp a.eval o).run P w = .ok (.value v) w') (hk : K (a.put o.dst v) w') : o.wp P a w K Q := by
  unfold Oper.wp; rw [h]; exact hk
theorem wp_move {x : Operand} {v : Value} (ho : o.op = .move x) (hx : a.eval x = v) (hk : K (a.put o.dst v) w) : o.wp P a w K Q :=
  wp_val (by unfold execOp; rw [ho]; show Sem.run P (pure (Next.value (a.eval x))) w = _; rw [hx]; rfl) hk
theorem wp_assign {x : Operand} {v : Value} (ho : o.op = .assign x) (hx : a.eval x = v) (hk : K (a.put o.dst v) w) : o.wp P a w K Q :=
  wp_val (by unfold execOp; rw [ho]; show Sem.run P (pure (Next.value (a.eval x))) w = _; rw [hx]; rfl) hk
theorem wp_extract {x : Operand} {k : Nat} {cs : Array Value} {v : Value} (ho : o.op = .extract x k) (hx : a.eval x = .tuple cs) (hv : cs[k]? = some v) (hk : K (a.put o.dst v) w) : o.wp P a w K Q :=
  wp_val (by
    unfold execOp; rw [ho]
    show Sem.run P (do pure (Next.value (← Instr.extract (a.eval x) k))) w = _
    rw [hx]
    simp only [Instr.extract, hv, Sem.run_bind, Sem.run_pure, Result.andThen_ok]) hk
theorem wp_alloc {T : TypeId} {v : Value} {w' : World} (ho : o.op = .alloc T) (hr : (Instr.alloc T true (.tuple #[])).run P w = .ok v w') (hk : K (a.put o.dst v) w') : o.wp P a w K Q :=
  wp_val (by
    unfold execOp; rw [ho]
    show Sem.run P (do pure (Next.value (← Instr.alloc T true (.tuple #[])))) w = _
    simp only [hr, Sem.run_bind, Sem.run_pure, Result.andThen_ok]) hk
theorem wp_enter {f : FuncId} {vs : Array Value} {R : Value} (h : (execOp a.eval o).run P w = .ok (.enter f vs) w)
    (hc : Calls P f vs w fun e w' => e = .returned R ∧ Below w.heap.size w w') (hk : ∀ w', Below w.heap.size w w' → K (a.put o.dst R) w') : o.wp P a w K Q := by
  unfold Oper.wp; rw [h, Oper.upon_enter]
  refine hc.mono ?_
  rintro e w' ⟨rfl, hB⟩
  exact hk w' hB
theorem wp_callF {N : FuncId} {args : List Operand} {tys : Array TypeId} {vs : List Value} {R : Value} (ho : o.op = .call { callee := .value (.func N), args := args.toArray, argTypes := tys }) (hv : args.map a.eval = vs)
    (hr : ∀ (vs : Array Value) (w : World), (callFunc N vs).run P w = .ok (.enter N vs) w)
    (hc : Calls P N vs.toArray w fun e w' => e = .returned R ∧ Below w.heap.size w w') (hk : ∀ w', Below w.heap.size w w' → K (a.put o.dst R) w') : o.wp P a w K Q :=
  wp_enter (by
    unfold execOp; rw [ho]
    show Sem.run P (do let d ← (Deferred.ofValue (.func (.func N) #[] #[]) (args.toArray.map a.eval)); invoke d.target d.args) w = _
    rw [List.map_toArray, hv]
    show Sem.run P (do let d ← (pure { target := .fn (.func N) #[], args := #[] ++ vs.toArray } : Sem Deferred); invoke d.target d.args) w = _
    rw [Sem.run_bind, Sem.run_pure, Result.andThen_ok]
    show Sem.run P (callFunc N (#[] ++ vs.toArray ++ #[])) w = _
    rw [show (#[] ++ vs.toArray ++ #[] : Array Value) = vs.toArray by simp, hr]) hc hk
theorem wp_bin {op : BinOp} {T T2 : TypeId} {x y : Operand} {vx vy v : Value} (ho : o.op = .binOp op T x y T2) (hx : a.eval x = vx) (hy : a.eval y = vy)
    (hr : (do eqGuard op T x y vx vy; binOp op T vx vy : Sem Value).run P w = .ok v w) (hk : K (a.put o.dst v) w) : o.wp P a w K Q :=
  wp_val (by
    unfold execOp; rw [ho]
    show Sem.run P (do pure (Next.value (← (do eqGuard op T x y (a.eval x) (a.eval y); binOp op T (a.eval x) (a.eval y) : Sem Value)))) w = _
    rw [hx, hy, Sem.run_bind, hr, Result.andThen_ok, Sem.run_pure]) hk
theorem wp_un {op : UnOp} {T : TypeId} {x : Operand} {vx v : Value} (ho : o.op = .unOp op T x) (hx : a.eval x = vx)
    (hr : (Op.unary op vx).run P w = .ok v w) (hk : K (a.put o.dst v) w) : o.wp P a w K Q :=
  wp_val (by
    unfold execOp; rw [ho]
    show Sem.run P (do pure (Next.value (← Op.unary op (a.eval x)))) w = _
    rw [hx, Sem.run_bind, hr, Result.andThen_ok, Sem.run_pure]) hk
theorem wp_pick {c x y : Operand} {b : Bool} {v : Value} (ho : o.op = .pick c x y) (hc : a.eval c = .bool b) (hv : (if b then a.eval x else a.eval y) = v) (hk : K (a.put o.dst v) w) : o.wp P a w K Q :=
  wp_val (by
    unfold execOp; rw [ho]
    show Sem.run P (do pure (Next.value (if ← asBool (a.eval c) then a.eval x else a.eval y))) w = _
    rw [hc, ← hv]; rfl) hk
theorem wp_index {T : TypeId} {x ix : Operand} {vx vi v : Value} (ho : o.op = .indexAddr T x ix) (hx : a.eval x = vx) (hi : a.eval ix = vi)
    (hr : (Instr.indexAt T vx vi).run P w = .ok v w) (hk : K (a.put o.dst v) w) : o.wp P a w K Q :=
  wp_val (by
    unfold execOp; rw [ho]
    show Sem.run P (do pure (Next.value (← Instr.indexAt T (a.eval x) (a.eval ix)))) w = _
    rw [hx, hi, Sem.run_bind, hr, Result.andThen_ok, Sem.run_pure]) hk
theorem wp_load {T : TypeId} {x : Operand} {vx v : Value} (ho : o.op = .load T x) (hx : a.eval x = vx)
    (hr : (Instr.loadAt T vx).run P w = .ok v w) (hk : K (a.put o.dst v) w) : o.wp P a w K Q :=
  wp_val (by
    unfold execOp; rw [ho]
    show Sem.run P (do pure (Next.value (← Instr.loadAt T (a.eval x)))) w = _
    rw [hx, Sem.run_bind, hr, Result.andThen_ok, Sem.run_pure]) hk
theorem wp_store {T : TypeId} {x y : Operand} {vx vy : Value} {w' : World} (ho : o.op = .store T x y) (hx : a.eval x = vx) (hy : a.eval y = vy)
    (hr : (Instr.storeAt T vx vy).run P w = .ok () w') (hk : K (a.put o.dst undef) w') : o.wp P a w K Q := by
  unfold Oper.wp execOp; rw [ho]
  show o.upon P a K Q (Sem.run P (do Instr.storeAt T (a.eval x) (a.eval y); pure Next.skip) w)
  rw [hx, hy, Sem.run_bind, hr, Result.andThen_ok, Sem.run_pure]
  exact hk
theorem wp_callE {N : FuncId} {args : List Operand} {tys : Array TypeId} {vs : List Value} {v : Value} (ho : o.op = .call { callee := .value (.func N), args := args.toArray, argTypes := tys }) (hv : args.map a.eval = vs)
    (hr : (callFunc N vs.toArray).run P w = .ok (.value v) w) (hk : K (a.put o.dst v) w) : o.wp P a w K Q :=
  wp_val (by
    unfold execOp; rw [ho]
    show Sem.run P (do let d ← (Deferred.ofValue (.func (.func N) #[] #[]) (args.toArray.map a.eval)); invoke d.target d.args) w = _
    rw [List.map_toArray, hv]
    show Sem.run P (do let d ← (pure { target := .fn (.func N) #[], args := #[] ++ vs.toArray } : Sem Deferred); invoke d.target d.args) w = _
    rw [Sem.run_bind, Sem.run_pure, Result.andThen_ok]
    show Sem.run P (callFunc N (#[] ++ vs.toArray ++ #[])) w = _
    rw [show (#[] ++ vs.toArray ++ #[] : Array Value) = vs.toArray by simp, hr]) hk
theorem wp_callV {N : FuncId} {c : Operand} {args : List Operand} {tys : Array TypeId} {first vs : List Value} {R : Value} (ho : o.op = .call { callee := .value c, args := args.toArray, argTypes := tys }) (hc : a.eval c = .func (.func N) first.toArray #[]) (hv : args.map a.eval = vs)
    (hr : ∀ (vs : Array Value) (w : World), (callFunc N vs).run P w = .ok (.enter N vs) w)
    (hC : Calls P N (first ++ vs).toArray w fun e w' => e = .returned R ∧ Below w.heap.size w w') (hk : ∀ w', Below w.heap.size w w' → K (a.put o.dst R) w') : o.wp P a w K Q :=
  wp_enter (by
    unfold execOp; rw [ho]
    show Sem.run P (do let d ← (Deferred.ofValue (a.eval c) (args.toArray.map a.eval)); invoke d.target d.args) w = _
    rw [List.map_toArray, hv, hc]
    show Sem.run P (do let d ← (pure { target := .fn (.func N) #[], args := first.toArray ++ vs.toArray } : Sem Deferred); invoke d.target d.args) w = _
    rw [Sem.run_bind, Sem.run_pure, Result.andThen_ok]
    show Sem.run P (callFunc N (first.toArray ++ vs.toArray ++ #[])) w = _
    rw [show (first.toArray ++ vs.toArray ++ #[] : Array Value) = (first ++ vs).toArray by simp, hr]) hC hk
theorem wp_callX {N : FuncId} {args : List Operand} {tys : Array TypeId} {vs : List Value} {R : Value} {B : World → Prop} (ho : o.op = .call { callee := .value (.func N), args := args.toArray, argTypes := tys }) (hv : args.map a.eval = vs)
    (hr : ∀ (vs : Array Value) (w : World), (callFunc N vs).run P w = .ok (.enter N vs) w)
    (hc : Calls P N vs.toArray w fun e w' => e = .returned R ∧ B w') (hk : ∀ w', B w' → K (a.put o.dst R) w') : o.wp P a w K Q := by
  have h : (execOp a.eval o).run P w = .ok (.enter N vs.toArray) w := by
    unfold execOp; rw [ho]
    show Sem.run P (do let d ← (Deferred.ofValue (.func (.func N) #[] #[]) (args.toArray.map a.eval)); invoke d.target d.args) w = _
    rw [List.map_toArray, hv]
    show Sem.run P (do let d ← (pure { target := .fn (.func N) #[], args := #[] ++ vs.toArray } : Sem Deferred); invoke d.target d.args) w = _
    rw [Sem.run_bind, Sem.run_pure, Result.andThen_ok]
    show Sem.run P (callFunc N (#[] ++ vs.toArray ++ #[])) w = _
    rw [show (#[] ++ vs.toArray ++ #[] : Array Value) = vs.toArray by simp, hr]
  unfold Oper.wp; rw [h, Oper.upon_enter]
  refine hc.mono ?_
  rintro e w' ⟨rfl, hB⟩
  exact hk w' hB
theorem wp_nil {x : Operand} {p : Addr} (ho : o.op = .nilCheck x) (hx : a.eval x = .pointer (some p)) (hk : K (a.put o.dst (.pointer (some p))) w) : o.wp P a w K Q :=
  wp_val (by unfold execOp; rw [ho]; simp only [hx]; rfl) hk
theorem wp_field {T : TypeId} {x : Operand} {k : Nat} {vx v : Value} (ho : o.op = .fieldAddr T x k) (hx : a.eval x = vx) (hr : (Instr.fieldAt T vx k).run P w = .ok v w) (hk : K (a.put o.dst v) w) : o.wp P a w K Q :=
  wp_val (by
    unfold execOp; rw [ho]
    show Sem.run P (do pure (Next.value (← Instr.fieldAt T (a.eval x) k))) w = _
    rw [hx, Sem.run_bind, hr, Result.andThen_ok, Sem.run_pure]) hk
def allOne : List Value → Bool
  | [] => true
  | v :: r => v.oneCell' && allOne r
theorem all_one : ∀ {l : List Value}, allOne l = true → l.toArray.all (·.oneCell') = true
  | l, h => by
    rw [List.all_toArray]
    induction l with
    | nil => rfl
    | cons v r ih =>
      simp only [allOne, Bool.and_eq_true] at h
      simp [h.1, ih h.2]
end
/-- A step of a region, told to the condition. -/
theorem tell {fr : List Value} {S : List Nat} {a : Act} {t : Nat → Value} {d : Nat} {v : Value} {u : World} {I : (Nat → Value) → World → Prop} {K : Act → World → Prop} (hK : ∀ a u, (∃ t', Fr fr S a t' ∧ I t' u) → K a u) (hF : Fr fr S a t) (n : S.Nodup) (h : d ∈ S) (hI : I (updT t d v) u) : K (a.put (some d) v) u :=
  hK _ _ ⟨_, hF.put n h v, hI⟩
theorem tell0 {fr : List Value} {S : List Nat} {a : Act} {t : Nat → Value} {v : Value} {u : World} {I : (Nat → Value) → World → Prop} {K : Act → World → Prop} (hK : ∀ a u, (∃ t', Fr fr S a t' ∧ I t' u) → K a u) (hF : Fr fr S a t) (hI : I t u) : K (a.put none v) u :=
  hK _ _ ⟨t, hF, hI⟩
end Go.Proofs.Ytgfggkinmhhdnaa
namespace Go.Proofs.Ytgfggkinmhhdnaa
open Go.RowKit
set_option linter.unusedVariables false
section
variable {P : Program} {ops : Array Oper} {Q : Exit → Act → World → Prop} {i : Nat} {o : Oper} {a : Act} {w : World} {fr : List Value} {S : List Nat} {t : Nat → Value} {I : (Nat → Value) → World → Prop} {d : Nat} {v : Value}
theorem t_move {x : Operand} (hx : a.eval x = v) (hF : Fr fr S a t) (n : S.Nodup) (ho : ops[i]? = some o) (hg : o.guard = none) (hop : o.op = .move x) (hd : o.dst = some d) (h : d ∈ S) (hI : I (updT t d v) w) : wpOp P ops Q i (fun a' u' => ∃ t', Fr fr S a' t' ∧ I t' u') a w :=
  op_plain ho hg fun K hK => wp_move hop hx (by rw [hd]; exact tell hK hF n h hI)
theorem t_extract {x : Operand} {k : Nat} {cs : Array Value} (hx : a.eval x = .tuple cs) (hF : Fr fr S a t) (n : S.Nodup) (ho : ops[i]? = some o) (hg : o.guard = none) (hop : o.op = .extract x k) (hv : cs[k]? = some v) (hd : o.dst = some d) (h : d ∈ S) (hI : I (updT t d v) w) : wpOp P ops Q i (fun a' u' => ∃ t', Fr fr S a' t' ∧ I t' u') a w :=
  op_plain ho hg fun K hK => wp_extract hop hx hv (by rw [hd]; exact tell hK hF n h hI)
theorem t_load {T : TypeId} {x : Operand} {b : Nat} {cs : List Value} {dd : TypeDesc} (hx : a.eval x = .pointer (some ⟨b, 0, none⟩)) (hc : CV w b cs) (hu : P.underlying T = some dd) (hi : (P.info? T).map (·.size) = some cs.length) (hF : Fr fr S a t) (n : S.Nodup) (ho : ops[i]? = some o) (hg : o.guard = none) (hop : o.op = .load T x) (hr : dd.isRow = true) (hd : o.dst = some d) (h : d ∈ S) (hI : I (updT t d (.agg cs.toArray)) w) : wpOp P ops Q i (fun a' u' => ∃ t', Fr fr S a' t' ∧ I t' u') a w :=
  op_plain ho hg fun K hK => wp_load_mid T x hop b 0 hx cs dd hc.range hu hr hi (by rw [hd]; exact tell hK hF n h hI)
theorem t_call {N : FuncId} {args : List Operand} {tys : Array TypeId} {vs : List Value} {R : Value} (hv : args.map a.eval = vs)
    (hr : ∀ (vs : Array Value) (w : World), (callFunc N vs).run P w = .ok (.enter N vs) w) (hc : Calls P N vs.toArray w fun e w' => e = .returned R ∧ Below w.heap.size w w') (hF : Fr fr S a t) (n : S.Nodup) (ho : ops[i]? = some o) (hg : o.guard = none) (hop : o.op = .call { callee := .value (.func N), args := args.toArray, argTypes := tys }) (hd : o.dst = some d) (h : d ∈ S)
    (hI : ∀ v, Below w.heap.size w v → I (updT t d R) v) : wpOp P ops Q i (fun a' u' => ∃ t', Fr fr S a' t' ∧ I t' u') a w :=
  op_plain ho hg fun K hK => wp_callF hop hv hr hc fun v hB => by rw [hd]; exact tell hK hF n h (hI v hB)
end
theorem NwP.get {u : World} {base : Nat} {q : Bool × Bool × Value × List Value × List Value} : ∀ {nw : List (Bool × Bool × Value × List Value × List Value)} {n : Nat}, NwP u base nw → nw[n]? = some q → q.1 = true → ∃ b, q.2.2.1 = .pointer (some ⟨b, 0, none⟩) ∧ base ≤ b ∧ b < u.heap.size ∧ CV u b (bif q.2.1 then q.2.2.2.2 else q.2.2.2.1)
  | [], n, _, h, _ => by simp at h
  | x :: r, 0, h, e, k => by simp at e; subst e; exact h.1 k
  | x :: r, n + 1, h, e, k => NwP.get (nw := r) (n := n) h.2 (by simpa using e) k
section
variable {P : Program} {ops : Array Oper} {Q : Exit → Act → World → Prop} {i : Nat} {o : Oper} {a : Act} {fr : List Value} {S : List Nat} {t : Nat → Value} {I : (Nat → Value) → World → Prop} {d : Nat} {lo base : Nat} {w u : World} {ks : List (Nat × List Value)} {ex : List (Nat × Bool × List Value × List Value)} {nw : List (Bool × Bool × Value × List Value × List Value)}
end
/-- All of them. -/
def AllEq (t : Nat → Value) : List (Nat × Nat × Value) → Prop
  | [] => True
  | q :: r => t q.2.1 = q.2.2 ∧ AllEq t r
theorem Gs.all {f : Nat → Bool} {t : Nat → Value} (N : Nat) (hall : ∀ i, i < N → f i = true) : ∀ {l : List (Nat × Nat × Value)}, Gs f t l → (l.all fun q => decide (q.1 < N)) = true → AllEq t l
  | [], _, _ => trivial
  | q :: r, h, k => by
    simp only [List.all_cons, Bool.and_eq_true, decide_eq_true_eq] at k
    exact ⟨h.1 (hall _ k.1), Gs.all N hall h.2 k.2⟩
theorem Os.keep {f : Nat → Bool} {i : Nat} : ∀ {l : List (Nat × Nat)}, Os f l → (l.all fun q => decide (q.1 ≠ i)) = true → Os (updF f i) l := fun h hk => h.step fun q hq e => by
  have := List.all_eq_true.1 hk q hq
  simp only [decide_eq_true_eq] at this
  exact absurd e this
theorem Jm {A : Prop} {f : Nat → Bool} {t : Nat → Value} {i d : Nat} {v : Value} {l n : List (Nat × Nat × Value)} {o : List (Nat × Nat)} (hM : A) (hG : Gs f t l) (hO : Os f o) (hN : Ns f t n) (h1 : ownsA i d l = true := by rfl) (h2 : pickV i l = some v := by rfl) (h3 : (o.all fun q => decide (q.1 ≠ i)) = true := by rfl) (h4 : apart i d n = true := by rfl) : A ∧ Gs (updF f i) (updT t d v) l ∧ Os (updF f i) o ∧ Ns (updF f i) (updT t d v) n := ⟨hM, Gs.stepA hG h1 h2, hO.keep h3, Ns.step hN h4⟩
theorem Jt {A : Prop} {f : Nat → Bool} {t : Nat → Value} {i d : Nat} {v : Value} {l n : List (Nat × Nat × Value)} (hM : A) (hG : Gs f t l) (hN : Ns f t n) (h1 : ownsA i d l = true := by rfl) (h2 : pickV i l = some v := by rfl) (h4 : apart i d n = true := by rfl) : A ∧ Gs (updF f i) (updT t d v) l ∧ True ∧ Ns (updF f i) (updT t d v) n := ⟨hM, Gs.stepA hG h1 h2, trivial, Ns.step hN h4⟩
theorem cZ2 {α : Type} {ops : Array α} {i : Nat} {o : α} (ho : ops[i]? = some o) (h : ops.size = 2 := by rfl) : i = 0 ∨ i = 1 := by
  have := (Array.getElem?_eq_some_iff.1 ho).1
  omega
theorem cZ3 {α : Type} {ops : Array α} {i : Nat} {o : α} (ho : ops[i]? = some o) (h : ops.size = 3 := by rfl) : i = 0 ∨ i = 1 ∨ i = 2 := by
  have := (Array.getElem?_eq_some_iff.1 ho).1
  omega
theorem cZ4 {α : Type} {ops : Array α} {i : Nat} {o : α} (ho : ops[i]? = some o) (h : ops.size = 4 := by rfl) : i = 0 ∨ i = 1 ∨ i = 2 ∨ i = 3 := by
  have := (Array.getElem?_eq_some_iff.1 ho).1
  omega
theorem cZ10 {α : Type} {ops : Array α} {i : Nat} {o : α} (ho : ops[i]? = some o) (h : ops.size = 10 := by rfl) : i = 0 ∨ i = 1 ∨ i = 2 ∨ i = 3 ∨ i = 4 ∨ i = 5 ∨ i = 6 ∨ i = 7 ∨ i = 8 ∨ i = 9 := by
  have := (Array.getElem?_eq_some_iff.1 ho).1
  omega
theorem Fr.two {fr : List Value} {S : List Nat} {a : Act} {t : Nat → Value} (h : Fr fr S a t) (N : Nat) (n : S.Nodup) (hl : fr.length = N) (hN : ∀ s ∈ S, s < N) : S.Nodup ∧ ∀ s, s ∈ S → a.eval (.tmp s) = t s := ⟨n, fun s hs => h.evs n hl hN s hs⟩
theorem dd (n : Nat) {f : Nat → Bool} {l : Array Edge} {m : Region.Mode} (hdep : ∀ e ∈ l, Region.binds m e = true → f e.on = true) (h1 : (⟨n, .data⟩ : Edge) ∈ l := by simp) (h2 : Region.binds m ⟨n, .data⟩ = true := by rfl) : f n = true := hdep _ h1 h2
theorem ve {a : Act} {t : Nat → Value} {S : List Nat} {v : Value} (s : Nat) (hV : ∀ s, s ∈ S → a.eval (.tmp s) = t s) (e : t s = v) (h : s ∈ S := by decide) : a.eval (.tmp s) = v := (hV s h).trans e
end Go.Proofs.Ytgfggkinmhhdnaa
/- Which functions are entered, and what a new variable holds. -/
namespace Go.Proofs.Ytgfggkinmhhdnaa
theorem ent_limb_Add (vs : Array Value) (w : World) : (callFunc 70 vs).run Try.prog w = .ok (.enter 70 vs) w := by kernel_rfl
theorem ent_limb_Sub (vs : Array Value) (w : World) : (callFunc 45 vs).run Try.prog w = .ok (.enter 45 vs) w := by kernel_rfl
theorem ent_limb_Mul (vs : Array Value) (w : World) : (callFunc 80 vs).run Try.prog w = .ok (.enter 80 vs) w := by kernel_rfl
theorem ent_limb_Divide (vs : Array Value) (w : World) : (callFunc 46 vs).run Try.prog w = .ok (.enter 46 vs) w := by kernel_rfl
theorem ent_limb_Widen (vs : Array Value) (w : World) : (callFunc 47 vs).run Try.prog w = .ok (.enter 47 vs) w := by kernel_rfl
theorem ent_limb_Of (vs : Array Value) (w : World) : (callFunc 31 vs).run Try.prog w = .ok (.enter 31 vs) w := by kernel_rfl
theorem ent_limb_Length (vs : Array Value) (w : World) : (callFunc 60 vs).run Try.prog w = .ok (.enter 60 vs) w := by kernel_rfl
theorem ent_limb_Bit (vs : Array Value) (w : World) : (callFunc 52 vs).run Try.prog w = .ok (.enter 52 vs) w := by kernel_rfl
theorem ent_mod_Sub (vs : Array Value) (w : World) : (callFunc 49 vs).run Try.prog w = .ok (.enter 49 vs) w := by kernel_rfl
theorem ent_mod_Mul (vs : Array Value) (w : World) : (callFunc 85 vs).run Try.prog w = .ok (.enter 85 vs) w := by kernel_rfl
theorem ent_mod_Reduce (vs : Array Value) (w : World) : (callFunc 69 vs).run Try.prog w = .ok (.enter 69 vs) w := by kernel_rfl
theorem ent_mod_Exp (vs : Array Value) (w : World) : (callFunc 48 vs).run Try.prog w = .ok (.enter 48 vs) w := by kernel_rfl
theorem ent_mod_Inverse (vs : Array Value) (w : World) : (callFunc 84 vs).run Try.prog w = .ok (.enter 84 vs) w := by kernel_rfl
theorem ent_mod_Gcd (vs : Array Value) (w : World) : (callFunc 51 vs).run Try.prog w = .ok (.enter 51 vs) w := by kernel_rfl
theorem ent_mod_divide (vs : Array Value) (w : World) : (callFunc 71 vs).run Try.prog w = .ok (.enter 71 vs) w := by kernel_rfl
theorem ent_mod_low (vs : Array Value) (w : World) : (callFunc 79 vs).run Try.prog w = .ok (.enter 79 vs) w := by kernel_rfl
theorem ent_mod_euclid (vs : Array Value) (w : World) : (callFunc 92 vs).run Try.prog w = .ok (.enter 92 vs) w := by kernel_rfl
theorem ent_mod_split (vs : Array Value) (w : World) : (callFunc 64 vs).run Try.prog w = .ok (.enter 64 vs) w := by kernel_rfl
theorem ent_mod_raise (vs : Array Value) (w : World) : (callFunc 65 vs).run Try.prog w = .ok (.enter 65 vs) w := by kernel_rfl
theorem ent_mod_lowProduct (vs : Array Value) (w : World) : (callFunc 66 vs).run Try.prog w = .ok (.enter 66 vs) w := by kernel_rfl
theorem ent_mod_powerOfOdd (vs : Array Value) (w : World) : (callFunc 67 vs).run Try.prog w = .ok (.enter 67 vs) w := by kernel_rfl
theorem ent_mod_join (vs : Array Value) (w : World) : (callFunc 68 vs).run Try.prog w = .ok (.enter 68 vs) w := by kernel_rfl
theorem ent_mod_minusInverse (vs : Array Value) (w : World) : (callFunc 81 vs).run Try.prog w = .ok (.enter 81 vs) w := by kernel_rfl
theorem ent_mod_lifted (vs : Array Value) (w : World) : (callFunc 82 vs).run Try.prog w = .ok (.enter 82 vs) w := by kernel_rfl
theorem ent_mod_addMultiple (vs : Array Value) (w : World) : (callFunc 91 vs).run Try.prog w = .ok (.enter 91 vs) w := by kernel_rfl
theorem ent___mod_oddModulus__product (vs : Array Value) (w : World) : (callFunc 83 vs).run Try.prog w = .ok (.enter 83 vs) w := by kernel_rfl
theorem ent_seneschalref01_Add (vs : Array Value) (w : World) : (callFunc 28 vs).run Try.prog w = .ok (.enter 28 vs) w := by kernel_rfl
theorem ent_seneschalref01_Sub (vs : Array Value) (w : World) : (callFunc 29 vs).run Try.prog w = .ok (.enter 29 vs) w := by kernel_rfl
theorem ent_seneschalref01_Mul (vs : Array Value) (w : World) : (callFunc 24 vs).run Try.prog w = .ok (.enter 24 vs) w := by kernel_rfl
theorem ent_seneschalref01_Divide (vs : Array Value) (w : World) : (callFunc 21 vs).run Try.prog w = .ok (.enter 21 vs) w := by kernel_rfl
theorem ent_seneschalref01_Widen (vs : Array Value) (w : World) : (callFunc 22 vs).run Try.prog w = .ok (.enter 22 vs) w := by kernel_rfl
theorem ent_seneschalref01_Length (vs : Array Value) (w : World) : (callFunc 54 vs).run Try.prog w = .ok (.enter 54 vs) w := by kernel_rfl
theorem ent_seneschalref01_Bit (vs : Array Value) (w : World) : (callFunc 56 vs).run Try.prog w = .ok (.enter 56 vs) w := by kernel_rfl
theorem ent_seneschalref02_Sub (vs : Array Value) (w : World) : (callFunc 34 vs).run Try.prog w = .ok (.enter 34 vs) w := by kernel_rfl
theorem ent_seneschalref02_Mul (vs : Array Value) (w : World) : (callFunc 55 vs).run Try.prog w = .ok (.enter 55 vs) w := by kernel_rfl
theorem ent_seneschalref02_Reduce (vs : Array Value) (w : World) : (callFunc 53 vs).run Try.prog w = .ok (.enter 53 vs) w := by kernel_rfl
theorem ent_seneschalref02_Exp (vs : Array Value) (w : World) : (callFunc 33 vs).run Try.prog w = .ok (.enter 33 vs) w := by kernel_rfl
theorem ent_seneschalref02_Gcd (vs : Array Value) (w : World) : (callFunc 35 vs).run Try.prog w = .ok (.enter 35 vs) w := by kernel_rfl
theorem al_api_Nat (w : World) : (Instr.alloc 24 true (.tuple #[])).run Try.prog w = .ok (.pointer (some ⟨w.heap.size, 0, none⟩)) (w.alloc (.cells L0s.toArray 24)) := by kernel_rfl
theorem al_api_Wide (w : World) : (Instr.alloc 45 true (.tuple #[])).run Try.prog w = .ok (.pointer (some ⟨w.heap.size, 0, none⟩)) (w.alloc (.cells L0w.toArray 45)) := by kernel_rfl
theorem info_api_Nat : (Try.prog.info? 24).map (·.size) = some 4 := by kernel_rfl
theorem info_api_Wide : (Try.prog.info? 45).map (·.size) = some 8 := by kernel_rfl
end Go.Proofs.Ytgfggkinmhhdnaa
