/- Cast: many nodes, what waits, and what holds at each step. -/
import Derived.Test.YthncmahhnbpbkaaKP1
namespace Go.Proofs.Ythncmahhnbpbkaa
set_option linter.unusedVariables false
set_option linter.unusedSimpArgs false
abbrev Mg := Int × Int × ByteArray
/-- Nodes, by their numbers; what waits, and for whom; how many echoes and readies each sent. -/
structure Wd where
  nd : Nat → Nd
  wait : List (Nat × Mg)
  sent : Nat → Int
def upN {α : Type} (f : Nat → α) (i : Nat) (a : α) : Nat → α := fun j => if j = i then a else f j
theorem upN_self {α : Type} (f : Nat → α) (i : Nat) (a : α) : upN f i a i = a := if_pos rfl
theorem upN_ne {α : Type} (f : Nat → α) {i j : Nat} (a : α) (h : j ≠ i) : upN f i a j = f j := if_neg h
/-- For all that are not corrupt. -/
def bc (bad n : Nat) (m : Mg) : List (Nat × Mg) := (List.range (n - bad)).map fun j => (bad + 1 + j, m)
theorem mem_bc {bad n : Nat} {m : Mg} {q : Nat × Mg} : q ∈ bc bad n m ↔ (bad < q.1 ∧ q.1 ≤ n) ∧ q.2 = m := by
  unfold bc
  rw [List.mem_map]
  constructor
  · rintro ⟨j, hj, rfl⟩
    rw [List.mem_range] at hj
    exact ⟨⟨by show bad < bad + 1 + j; omega, by show bad + 1 + j ≤ n; omega⟩, rfl⟩
  · rintro ⟨⟨h1, h2⟩, h3⟩
    exact ⟨q.1 - bad - 1, List.mem_range.2 (by omega), by rw [show bad + 1 + (q.1 - bad - 1) = q.1 by omega, ← h3]⟩
def sentN (s : Nat → Int) : Option Mg → Nat → Int
  | none => s
  | some m => if 1 < m.1 then upN s (2 * m.2.1 + m.1 - 2).toNat (s (2 * m.2.1 + m.1 - 2).toNat + 1) else s
def Wd.all (bad n : Nat) (W : Wd) : Option Mg → Wd
  | none => W
  | some m => { W with wait := W.wait ++ bc bad n m, sent := sentN W.sent (some m) }
/-- A message comes to a node. -/
def Wd.step (bad n : Nat) (W : Wd) (i : Nat) (m : Mg) : Wd := ({ W with nd := upN W.nd i ((W.nd i).take m.1 m.2.1 m.2.2).1 }).all bad n ((W.nd i).take m.1 m.2.1 m.2.2).2
/-- What may wait. -/
def Val (bad n dl : Nat) (vl : Option ByteArray) (nd : Nat → Nd) (m : Mg) : Prop :=
  m.2.2.size ≤ 4096 ∧ ((m.1 = 1 ∧ m.2.1 = dl ∧ bad < dl ∧ vl = some m.2.2) ∨ ∃ f : Nat, (bad < f ∧ f ≤ n) ∧ m.2.1 = f ∧ ((m.1 = 2 ∧ (nd f).e = some m.2.2) ∨ (m.1 = 3 ∧ (nd f).r = some m.2.2)))
structure InvB (t bad n dl : Nat) (vl : Option ByteArray) (W : Wd) (L : List (Nat × Mg)) : Prop where
  dr : 1 ≤ dl ∧ dl ≤ n
  num : ∀ i, 1 ≤ i → i ≤ n → (W.nd i).n = n ∧ (W.nd i).t = t ∧ (W.nd i).me = i ∧ (W.nd i).dl = dl ∧ NWF (W.nd i)
  wt : ∀ q ∈ L, (bad < q.1 ∧ q.1 ≤ n) ∧ Val bad n dl vl W.nd q.2
  ec : ∀ i, bad < i → i ≤ n → ∀ (g : Nat) v, bad < g → ((g : Int), v) ∈ (W.nd i).ec → (W.nd g).e = some v
  rd : ∀ i, bad < i → i ≤ n → ∀ (g : Nat) v, bad < g → ((g : Int), v) ∈ (W.nd i).rd → (W.nd g).r = some v
  rq : ∀ i, bad < i → i ≤ n → ∀ v, (W.nd i).r = some v → ∃ j, (bad < j ∧ j ≤ n) ∧ (n : Int) + t < 2 * cnt (W.nd j).ec v
  dq : ∀ i, bad < i → i ≤ n → ∀ v, (W.nd i).d = some v → 2 * (t : Int) < cnt (W.nd i).rd v
  te : ∀ f, bad < f → f ≤ n → ∀ v, (W.nd f).e = some v → ∀ i, bad < i → i ≤ n → ((f : Int), v) ∈ (W.nd i).ec ∨ (i, 2, (f : Int), v) ∈ L
  tr : ∀ f, bad < f → f ≤ n → ∀ v, (W.nd f).r = some v → ∀ i, bad < i → i ≤ n → ((f : Int), v) ∈ (W.nd i).rd ∨ (i, 3, (f : Int), v) ∈ L
  s2 : ∀ i, bad < i → i ≤ n → W.sent (2 * i) = if (W.nd i).e.isSome then 1 else 0
  s3 : ∀ i, bad < i → i ≤ n → W.sent (2 * i + 1) = if (W.nd i).r.isSome then 1 else 0
  vs : bad < dl → ∀ i, bad < i → i ≤ n → ∀ v, (W.nd i).e = some v → vl = some v
  ts : bad < dl → ∀ v, vl = some v → ∀ i, bad < i → i ≤ n → (W.nd i).e.isSome = true ∨ (i, 1, (dl : Int), v) ∈ L
/-- A step keeps it. -/
theorem InvB.step {t bad n dl : Nat} {vl : Option ByteArray} {W : Wd} {L : List (Nat × Mg)} (h : InvB t bad n dl vl W L) (hb : bad ≤ t) {i : Nat} (hi : bad < i) (hin : i ≤ n) (k f : Int) (v : ByteArray) (hv : v.size ≤ 4096)
    (hm : (1 ≤ f ∧ f ≤ bad) ∨ Val bad n dl vl W.nd (k, f, v)) (hL1 : ∀ q ∈ W.wait, q ∈ L) (hL2 : ∀ q ∈ L, q ∈ W.wait ∨ q = (i, k, f, v)) : InvB t bad n dl vl (W.step bad n i (k, f, v)) (W.step bad n i (k, f, v)).wait := by
  obtain ⟨en, et, eme, edl, hwf⟩ := h.num i (by omega) hin
  have S := take_stp hwf k f v
  have hst : W.step bad n i (k, f, v) = ({ W with nd := upN W.nd i ((W.nd i).take k f v).1 } : Wd).all bad n ((W.nd i).take k f v).2 := rfl
  rw [hst]
  clear hst
  generalize ((W.nd i).take k f v).1 = y at *
  generalize ((W.nd i).take k f v).2 = o at *
  -- what is new
  have hnd : (({ W with nd := upN W.nd i y } : Wd).all bad n o).nd = upN W.nd i y := by cases o <;> rfl
  have hwa : ∀ q, q ∈ (({ W with nd := upN W.nd i y } : Wd).all bad n o).wait ↔ q ∈ W.wait ∨ ∃ m, o = some m ∧ (bad < q.1 ∧ q.1 ≤ n) ∧ q.2 = m := by
    intro q
    cases o with
    | none => simp [Wd.all]
    | some m =>
      simp only [Wd.all, List.mem_append, mem_bc]
      simp
  have hse : (({ W with nd := upN W.nd i y } : Wd).all bad n o).sent = sentN W.sent o := by cases o <;> rfl
  generalize (({ W with nd := upN W.nd i y } : Wd).all bad n o) = W' at *
  have gi : W'.nd i = y := by rw [hnd, upN_self]
  have go : ∀ j, j ≠ i → W'.nd j = W.nd j := fun j hj => by rw [hnd, upN_ne _ _ hj]
  clear hnd
  have em : ∀ j v, (W.nd j).e = some v → (W'.nd j).e = some v := fun j u hu => by
    by_cases hj : j = i
    · subst hj
      rw [gi]
      rcases S.o with ⟨_, e, _⟩ | ⟨_, e, _⟩ | ⟨_, e, _⟩
      · rw [e]; exact hu
      · rw [e] at hu; cases hu
      · rw [e]; exact hu
    · rw [go j hj]; exact hu
  have rm : ∀ j v, (W.nd j).r = some v → (W'.nd j).r = some v := fun j u hu => by
    by_cases hj : j = i
    · subst hj
      rw [gi]
      rcases S.o with ⟨_, _, e, _⟩ | ⟨_, _, _, e, _⟩ | ⟨_, _, e, _⟩
      · rw [e]; exact hu
      · rw [e]; exact hu
      · rw [e] at hu; cases hu
    · rw [go j hj]; exact hu
  have cm : ∀ j, ∃ r, (W'.nd j).ec = (W.nd j).ec ++ r := fun j => by
    by_cases hj : j = i
    · subst hj
      rw [gi]
      rcases S.ec with ⟨e, _⟩ | ⟨_, _, _, e⟩
      · exact ⟨[], by rw [e]; simp⟩
      · exact ⟨_, e⟩
    · exact ⟨[], by rw [go j hj]; simp⟩
  have dm : ∀ j, ∃ r, (W'.nd j).rd = (W.nd j).rd ++ r := fun j => by
    by_cases hj : j = i
    · subst hj
      rw [gi]
      rcases S.rd with ⟨e, _⟩ | ⟨_, _, _, e⟩
      · exact ⟨[], by rw [e]; simp⟩
      · exact ⟨_, e⟩
    · exact ⟨[], by rw [go j hj]; simp⟩
  have cmm : ∀ j q, q ∈ (W.nd j).ec → q ∈ (W'.nd j).ec := fun j q hq => by
    obtain ⟨r, e⟩ := cm j
    rw [e]; exact List.mem_append_left _ hq
  have dmm : ∀ j q, q ∈ (W.nd j).rd → q ∈ (W'.nd j).rd := fun j q hq => by
    obtain ⟨r, e⟩ := dm j
    rw [e]; exact List.mem_append_left _ hq
  -- who of those that are not corrupt is counted
  have ecO : ∀ j, bad < j → j ≤ n → ∀ (g : Nat) u, bad < g → ((g : Int), u) ∈ (W'.nd j).ec → (W.nd g).e = some u := fun j hj hjn g u hg hq => by
    by_cases hji : j = i
    · subst hji
      rw [gi] at hq
      rcases S.ec with ⟨e, _⟩ | ⟨k2, hmb, _, e⟩
      · rw [e] at hq; exact h.ec j hj hjn g u hg hq
      · rw [e, List.mem_append, List.mem_singleton] at hq
        rcases hq with hq | hq
        · exact h.ec j hj hjn g u hg hq
        · obtain ⟨e1, e2⟩ := Prod.mk.inj hq
          rcases hm with hm | ⟨_, ⟨m1, _⟩ | ⟨f', hf', m1, ⟨m2, m3⟩ | ⟨m2, _⟩⟩⟩
          · omega
          · have m1 : k = 1 := m1; omega
          · have m1 : f = f' := m1
            obtain rfl : f' = g := by omega
            rw [e2]; exact m3
          · have m2 : k = 3 := m2; omega
    · rw [go j hji] at hq; exact h.ec j hj hjn g u hg hq
  have rdO : ∀ j, bad < j → j ≤ n → ∀ (g : Nat) u, bad < g → ((g : Int), u) ∈ (W'.nd j).rd → (W.nd g).r = some u := fun j hj hjn g u hg hq => by
    by_cases hji : j = i
    · subst hji
      rw [gi] at hq
      rcases S.rd with ⟨e, _⟩ | ⟨k3, hmb, _, e⟩
      · rw [e] at hq; exact h.rd j hj hjn g u hg hq
      · rw [e, List.mem_append, List.mem_singleton] at hq
        rcases hq with hq | hq
        · exact h.rd j hj hjn g u hg hq
        · obtain ⟨e1, e2⟩ := Prod.mk.inj hq
          rcases hm with hm | ⟨_, ⟨m1, _⟩ | ⟨f', hf', m1, ⟨m2, _⟩ | ⟨m2, m3⟩⟩⟩
          · omega
          · have m1 : k = 1 := m1; omega
          · have m2 : k = 2 := m2; omega
          · have m1 : f = f' := m1
            obtain rfl : f' = g := by omega
            rw [e2]; exact m3
    · rw [go j hji] at hq; exact h.rd j hj hjn g u hg hq
  have hnum : ∀ j, 1 ≤ j → j ≤ n → (W'.nd j).n = n ∧ (W'.nd j).t = t ∧ (W'.nd j).me = j ∧ (W'.nd j).dl = dl ∧ NWF (W'.nd j) := fun j h1 h2 => by
    by_cases hj : j = i
    · subst hj
      rw [gi]; exact ⟨S.n.trans en, S.t.trans et, S.me.trans eme, S.dl.trans edl, S.wf⟩
    · rw [go j hj]; exact h.num j h1 h2
  have rqO : ∀ j, bad < j → j ≤ n → ∀ u, (W.nd j).r = some u → ∃ j', (bad < j' ∧ j' ≤ n) ∧ (n : Int) + t < 2 * cnt (W'.nd j').ec u := fun j hj hjn u hu => by
    obtain ⟨j', h1, h2⟩ := h.rq j hj hjn u hu
    have := cnt_mono (cm j') u
    exact ⟨j', h1, by omega⟩
  have mb_ok : ∀ k' : Int, (k' = 2 ∨ k' = 3 ∨ (k' = 1 ∧ f = dl)) → 1 ≤ f → f ≤ n → mb (W.nd i) k' f v = true := fun k' hk h1 h2 => by
    simp only [mb, decide_eq_true_eq, en, edl]
    exact ⟨by omega, h1, h2, hv⟩
  have fran : (1 ≤ f ∧ f ≤ n) ∨ (k = 1 ∧ f = dl ∧ bad < dl ∧ vl = some v) := by
    rcases hm with hm | ⟨_, ⟨m1, m2, m3, m4⟩ | ⟨f', hf', m1, _⟩⟩
    · exact .inl ⟨hm.1, by omega⟩
    · exact .inr ⟨m1, m2, m3, m4⟩
    · have m1 : f = f' := m1
      exact .inl ⟨by omega, by omega⟩
  constructor
  · exact h.dr
  · exact hnum
  · intro q hq
    rw [hwa] at hq
    rcases hq with hq | ⟨m, ho, h1, h2⟩
    · obtain ⟨h1, h2, h3⟩ := h.wt q (hL1 q hq)
      refine ⟨h1, h2, h3.imp id ?_⟩
      rintro ⟨f', a, b, c⟩
      exact ⟨f', a, b, c.imp (fun x => ⟨x.1, em _ _ x.2⟩) (fun x => ⟨x.1, rm _ _ x.2⟩)⟩
    · refine ⟨h1, ?_⟩
      rw [h2]
      rcases S.o with ⟨e, _⟩ | ⟨e, _, e2, _⟩ | ⟨e, _, _, e2, _⟩
      · rw [ho] at e; cases e
      · rw [ho] at e; cases e
        exact ⟨hv, .inr ⟨i, ⟨hi, hin⟩, eme, .inl ⟨rfl, by rw [gi]; exact e2⟩⟩⟩
      · rw [ho] at e; cases e
        exact ⟨hv, .inr ⟨i, ⟨hi, hin⟩, eme, .inr ⟨rfl, by rw [gi]; exact e2⟩⟩⟩
  · exact fun j hj hjn g u hg hq => em _ _ (ecO j hj hjn g u hg hq)
  · exact fun j hj hjn g u hg hq => rm _ _ (rdO j hj hjn g u hg hq)
  · intro j hj hjn u hu
    by_cases hji : j = i
    · subst hji
      rw [gi] at hu
      rcases S.o with ⟨_, _, e, _⟩ | ⟨_, _, _, e, _⟩ | ⟨_, _, e1, e2, _, e3⟩
      · rw [e] at hu; exact rqO j hj hjn u hu
      · rw [e] at hu; exact rqO j hj hjn u hu
      · rw [e2] at hu
        cases hu
        rw [en, et] at e3
        rcases e3 with e3 | e3
        · exact ⟨j, ⟨hj, hjn⟩, by rw [gi]; exact e3⟩
        · have hso := (hnum j (by omega) hjn)
          rw [gi] at hso
          obtain ⟨g, ⟨g1, g2⟩, g3⟩ := one_of hso.2.2.2.2.o2 (b := bad) (v := v) (by omega)
          rw [hso.1] at g2
          have g4 := rdO j hj hjn g v g1 (by rw [gi]; exact g3)
          exact rqO g g1 (by omega) v g4
    · rw [go j hji] at hu; exact rqO j hj hjn u hu
  · intro j hj hjn u hu
    by_cases hji : j = i
    · subst hji
      rw [gi] at hu ⊢
      rcases S.d with e | ⟨_, e, e2⟩
      · rw [e] at hu
        have h1 := h.dq j hj hjn u hu
        have h2 := cnt_mono (dm j) u
        rw [gi] at h2
        omega
      · rw [e] at hu; cases hu
        rw [et] at e2; exact e2
    · rw [go j hji] at hu ⊢; exact h.dq j hj hjn u hu
  · intro g hg hgn u hu j hj hjn
    have old : (W.nd g).e = some u → ((g : Int), u) ∈ (W'.nd j).ec ∨ (j, 2, (g : Int), u) ∈ W'.wait := fun hu => by
      rcases h.te g hg hgn u hu j hj hjn with h1 | h1
      · exact .inl (cmm j _ h1)
      · rcases hL2 _ h1 with h2 | h2
        · exact .inr ((hwa _).2 (.inl h2))
        · obtain ⟨a1, c2⟩ := Prod.mk.inj h2
          obtain ⟨a2, c3⟩ := Prod.mk.inj c2
          obtain ⟨a3, a4⟩ := Prod.mk.inj c3
          subst a1
          subst a4
          left
          rw [gi]
          have hmb := mb_ok 2 (.inl rfl) (by omega) (by omega)
          rcases S.ec with ⟨e, e2⟩ | ⟨_, _, _, e⟩
          · have e3 := e2 a2.symm hmb
            unfold fs at e3
            obtain ⟨⟨f1, u1⟩, b1, b2⟩ := List.mem_map.1 e3
            have b2 : f1 = f := b2
            rw [b2, ← a3] at b1
            have b3 := h.ec j hj hjn g u1 hg b1
            rw [hu] at b3
            cases b3
            rw [e]; exact b1
          · rw [e, List.mem_append, a3]; exact .inr (by simp)
    by_cases hgi : g = i
    · subst hgi
      rw [gi] at hu
      rcases S.o with ⟨_, e, _⟩ | ⟨e, _, e2, _⟩ | ⟨_, e, _⟩
      · rw [e] at hu; exact old hu
      · rw [e2] at hu; cases hu
        exact .inr ((hwa _).2 (.inr ⟨_, e, ⟨hj, hjn⟩, by rw [eme]⟩))
      · rw [e] at hu; exact old hu
    · rw [go g hgi] at hu; exact old hu
  · intro g hg hgn u hu j hj hjn
    have old : (W.nd g).r = some u → ((g : Int), u) ∈ (W'.nd j).rd ∨ (j, 3, (g : Int), u) ∈ W'.wait := fun hu => by
      rcases h.tr g hg hgn u hu j hj hjn with h1 | h1
      · exact .inl (dmm j _ h1)
      · rcases hL2 _ h1 with h2 | h2
        · exact .inr ((hwa _).2 (.inl h2))
        · obtain ⟨a1, c2⟩ := Prod.mk.inj h2
          obtain ⟨a2, c3⟩ := Prod.mk.inj c2
          obtain ⟨a3, a4⟩ := Prod.mk.inj c3
          subst a1
          subst a4
          left
          rw [gi]
          have hmb := mb_ok 3 (.inr (.inl rfl)) (by omega) (by omega)
          rcases S.rd with ⟨e, e2⟩ | ⟨_, _, _, e⟩
          · have e3 := e2 a2.symm hmb
            unfold fs at e3
            obtain ⟨⟨f1, u1⟩, b1, b2⟩ := List.mem_map.1 e3
            have b2 : f1 = f := b2
            rw [b2, ← a3] at b1
            have b3 := h.rd j hj hjn g u1 hg b1
            rw [hu] at b3
            cases b3
            rw [e]; exact b1
          · rw [e, List.mem_append, a3]; exact .inr (by simp)
    by_cases hgi : g = i
    · subst hgi
      rw [gi] at hu
      rcases S.o with ⟨_, _, e, _⟩ | ⟨_, _, _, e, _⟩ | ⟨e, _, _, e2, _⟩
      · rw [e] at hu; exact old hu
      · rw [e] at hu; exact old hu
      · rw [e2] at hu; cases hu
        exact .inr ((hwa _).2 (.inr ⟨_, e, ⟨hj, hjn⟩, by rw [eme]⟩))
    · rw [go g hgi] at hu; exact old hu
  · intro j hj hjn
    have h2 := h.s2 j hj hjn
    rw [hse]
    rcases S.o with ⟨e, e1, _⟩ | ⟨e, e0, e1, _⟩ | ⟨e, e1, _⟩
    · rw [e]
      simp only [sentN]
      by_cases hji : j = i
      · subst hji; rw [gi, e1]; exact h2
      · rw [go j hji]; exact h2
    · rw [e, eme]
      simp only [sentN, show (1 : Int) < 2 by decide, if_true]
      have ek : (2 * (i : Int) + 2 - 2).toNat = 2 * i := by omega
      rw [ek]
      by_cases hji : j = i
      · subst hji
        rw [upN_self, gi, e1, h2, e0]; rfl
      · rw [upN_ne _ _ (by omega), go j hji]; exact h2
    · rw [e, eme]
      simp only [sentN, show (1 : Int) < 3 by decide, if_true]
      have ek : (2 * (i : Int) + 3 - 2).toNat = 2 * i + 1 := by omega
      rw [ek, upN_ne _ _ (by omega)]
      by_cases hji : j = i
      · subst hji; rw [gi, e1]; exact h2
      · rw [go j hji]; exact h2
  · intro j hj hjn
    have h2 := h.s3 j hj hjn
    rw [hse]
    rcases S.o with ⟨e, _, e1, _⟩ | ⟨e, _, _, e1, _⟩ | ⟨e, _, e0, e1, _⟩
    · rw [e]
      simp only [sentN]
      by_cases hji : j = i
      · subst hji; rw [gi, e1]; exact h2
      · rw [go j hji]; exact h2
    · rw [e, eme]
      simp only [sentN, show (1 : Int) < 2 by decide, if_true]
      have ek : (2 * (i : Int) + 2 - 2).toNat = 2 * i := by omega
      rw [ek, upN_ne _ _ (by omega)]
      by_cases hji : j = i
      · subst hji; rw [gi, e1]; exact h2
      · rw [go j hji]; exact h2
    · rw [e, eme]
      simp only [sentN, show (1 : Int) < 3 by decide, if_true]
      have ek : (2 * (i : Int) + 3 - 2).toNat = 2 * i + 1 := by omega
      rw [ek]
      by_cases hji : j = i
      · subst hji
        rw [upN_self, gi, e1, h2, e0]; rfl
      · rw [upN_ne _ _ (by omega), go j hji]; exact h2
  · intro hdl j hj hjn u hu
    by_cases hji : j = i
    · subst hji
      rw [gi] at hu
      rcases S.o with ⟨_, e, _⟩ | ⟨_, _, e2, _, k1, hmb⟩ | ⟨_, e, _⟩
      · rw [e] at hu; exact h.vs hdl j hj hjn u hu
      · rw [e2] at hu; cases hu
        have hmb2 := (mb_of hmb).1
        rw [edl] at hmb2
        have hfd : f = dl := by omega
        rcases hm with hm | ⟨_, ⟨_, _, _, m4⟩ | ⟨f', hf', _, ⟨m2, _⟩ | ⟨m2, _⟩⟩⟩
        · omega
        · exact m4
        · have m2 : k = 2 := m2; omega
        · have m2 : k = 3 := m2; omega
      · rw [e] at hu; exact h.vs hdl j hj hjn u hu
    · rw [go j hji] at hu; exact h.vs hdl j hj hjn u hu
  · intro hdl u hvl j hj hjn
    have old : (W.nd j).e.isSome = true → (W'.nd j).e.isSome = true := fun h1 => by
      obtain ⟨u', hu'⟩ := Option.isSome_iff_exists.1 h1
      rw [em j u' hu']; rfl
    rcases h.ts hdl u hvl j hj hjn with h1 | h1
    · exact .inl (old h1)
    · rcases hL2 _ h1 with h2 | h2
      · exact .inr ((hwa _).2 (.inl h2))
      · obtain ⟨a1, c2⟩ := Prod.mk.inj h2
        obtain ⟨a2, c3⟩ := Prod.mk.inj c2
        obtain ⟨a3, a4⟩ := Prod.mk.inj c3
        subst a1
        left
        rcases S.o with ⟨_, e1, _, e2⟩ | ⟨_, _, e1, _⟩ | ⟨_, _, _, _, k1, _⟩
        · have hdn := h.dr
          have hmb := mb_ok 1 (.inr (.inr ⟨rfl, a3.symm⟩)) (by omega) (by omega)
          rw [gi, e1]; exact e2 a2.symm hmb
        · rw [gi, e1]; rfl
        · omega
end Go.Proofs.Ythncmahhnbpbkaa
