/- Memory within a region that draws its order: some blocks of words that are kept, and two new ones that are filled. -/
import Derived.Test.YtajpjbhppjlehaaD0
namespace Go.Proofs.Ytajpjbhppjlehaa
open Go.RowKit
set_option linter.unusedVariables false
structure M2 (w : World) (base : Nat) (ks : List (Nat × List Int)) (l8 l9 : List Int) (a8f a9f s8f s9f : Bool) (t8 t9 : Value) (u : World) : Prop where
  bel : Below w.heap.size w u
  wb : w.heap.size ≤ base
  sz : base < u.heap.size
  ks : ∀ q ∈ ks, q.1 ≤ base ∧ CL u q.1 q.2
  a8 : a8f = true → ∃ b, t8 = .pointer (some ⟨b, 0, none⟩) ∧ base < b ∧ b < u.heap.size ∧ u.there b 0 l8.length ∧ (s8f = true → CL u b l8)
  a9 : a9f = true → ∃ b, t9 = .pointer (some ⟨b, 0, none⟩) ∧ base < b ∧ b < u.heap.size ∧ u.there b 0 l9.length ∧ (s9f = true → CL u b l9)
  ne : a8f = true → a9f = true → t8 ≠ t9
  o8 : s8f = true → a8f = true
  o9 : s9f = true → a9f = true
variable {w u v : World} {base : Nat} {ks : List (Nat × List Int)} {l8 l9 : List Int} {a8f a9f s8f s9f : Bool} {t8 t9 : Value}
theorem M2.start (hb : Below w.heap.size w u) (wb : w.heap.size ≤ base) (sz : base < u.heap.size) (hk : ∀ q ∈ ks, q.1 ≤ base ∧ CL u q.1 q.2) : M2 w base ks l8 l9 false false false false t8 t9 u :=
  { bel := hb, wb := wb, sz := sz, ks := hk, a8 := fun e => (by cases e), a9 := fun e => (by cases e), ne := fun e => (by cases e), o8 := fun e => e, o9 := fun e => e }
theorem M2.kept (h : M2 w base ks l8 l9 a8f a9f s8f s9f t8 t9 u) (b : Nat) (l : List Int) (hm : (b, l) ∈ ks) : CL u b l := (h.ks (b, l) hm).2
theorem M2.call (h : M2 w base ks l8 l9 a8f a9f s8f s9f t8 t9 u) (hB : Below u.heap.size u v) : M2 w base ks l8 l9 a8f a9f s8f s9f t8 t9 v := by
  have hs := hB.size
  have hz := h.sz
  refine { h with bel := bstep h.bel hB, sz := by omega, ks := fun q hq => ⟨(h.ks q hq).1, (h.ks q hq).2.below hB (by have := (h.ks q hq).1; omega)⟩, a8 := fun hf => ?_, a9 := fun hf => ?_ }
  · obtain ⟨b, e, h1, h2, h3, h4⟩ := h.a8 hf
    exact ⟨b, e, h1, by omega, there_below h3 hB h2, fun hg => (h4 hg).below hB h2⟩
  · obtain ⟨b, e, h1, h2, h3, h4⟩ := h.a9 hf
    exact ⟨b, e, h1, by omega, there_below h3 hB h2, fun hg => (h4 hg).below hB h2⟩
theorem M2.new8 (h : M2 w base ks l8 l9 a8f a9f s8f s9f t8 t9 u) (h7 : a8f = false) (cs : Array Value) (hc : cs.size = l8.length) (t : TypeId) :
    M2 w base ks l8 l9 true a9f s8f s9f (.pointer (some ⟨u.heap.size, 0, none⟩)) t9 (u.alloc (.cells cs t)) := by
  have k := h.call (balloc (bself u) (.cells cs t))
  refine { k with a8 := fun _ => ⟨_, rfl, h.sz, by simp, there_alloc u cs t _ hc.symm, fun e => absurd (h.o8 e) (by rw [h7]; simp)⟩, ne := fun _ hf e => ?_, o8 := fun _ => rfl }
  obtain ⟨b, e9, _, h2, _⟩ := h.a9 hf
  rw [e9] at e; injection e with e; injection e with e; injection e with e; omega
theorem M2.new9 (h : M2 w base ks l8 l9 a8f a9f s8f s9f t8 t9 u) (h8 : a9f = false) (cs : Array Value) (hc : cs.size = l9.length) (t : TypeId) :
    M2 w base ks l8 l9 a8f true s8f s9f t8 (.pointer (some ⟨u.heap.size, 0, none⟩)) (u.alloc (.cells cs t)) := by
  have k := h.call (balloc (bself u) (.cells cs t))
  refine { k with a9 := fun _ => ⟨_, rfl, h.sz, by simp, there_alloc u cs t _ hc.symm, fun e => absurd (h.o9 e) (by rw [h8]; simp)⟩, ne := fun hf _ e => ?_, o9 := fun _ => rfl }
  obtain ⟨b, e8, _, h2, _⟩ := h.a8 hf
  rw [e8] at e; injection e with e; injection e with e; injection e with e; omega
theorem M2.put8 {b : Nat} (h : M2 w base ks l8 l9 a8f a9f s8f s9f (.pointer (some ⟨b, 0, none⟩)) t9 u) (h7 : a8f = true) :
    M2 w base ks l8 l9 a8f a9f true s9f (.pointer (some ⟨b, 0, none⟩)) t9 (u.setCells b 0 (l8.map (Value.int .u64))) := by
  obtain ⟨b', e, h1, h2, h3, h4⟩ := h.a8 h7
  injection e with e; injection e with e; injection e with e; subst e
  have hwb := h.wb
  refine { h with bel := below_setCells (by omega) _ _ _ h.bel, sz := by rw [size_setCells]; exact h.sz, ks := fun q hq => ⟨(h.ks q hq).1, (h.ks q hq).2.cells (by have := (h.ks q hq).1; omega) _ _⟩, a8 := fun _ => ⟨b, rfl, h1, by rw [size_setCells]; exact h2, World.there_setCells h3 _ _ _, fun _ => CL.cells_same (by rw [List.length_map]; exact h3) rfl⟩, o8 := fun _ => h7, a9 := fun hf => ?_ }
  obtain ⟨b9, e9, g1, g2, g3, g4⟩ := h.a9 hf
  have hne : b9 ≠ b := fun e => h.ne h7 hf (by rw [e9, e])
  exact ⟨b9, e9, g1, by rw [size_setCells]; exact g2, World.there_setCells g3 _ _ _, fun hg => (g4 hg).cells hne _ _⟩
theorem M2.put9 {b : Nat} (h : M2 w base ks l8 l9 a8f a9f s8f s9f t8 (.pointer (some ⟨b, 0, none⟩)) u) (h7 : a9f = true) :
    M2 w base ks l8 l9 a8f a9f s8f true t8 (.pointer (some ⟨b, 0, none⟩)) (u.setCells b 0 (l9.map (Value.int .u64))) := by
  obtain ⟨b', e, h1, h2, h3, h4⟩ := h.a9 h7
  injection e with e; injection e with e; injection e with e; subst e
  have hwb := h.wb
  refine { h with bel := below_setCells (by omega) _ _ _ h.bel, sz := by rw [size_setCells]; exact h.sz, ks := fun q hq => ⟨(h.ks q hq).1, (h.ks q hq).2.cells (by have := (h.ks q hq).1; omega) _ _⟩, a9 := fun _ => ⟨b, rfl, h1, by rw [size_setCells]; exact h2, World.there_setCells h3 _ _ _, fun _ => CL.cells_same (by rw [List.length_map]; exact h3) rfl⟩, o9 := fun _ => h7, a8 := fun hf => ?_ }
  obtain ⟨b9, e9, g1, g2, g3, g4⟩ := h.a8 hf
  have hne : b9 ≠ b := fun e => h.ne hf h7 (by rw [e9, e])
  exact ⟨b9, e9, g1, by rw [size_setCells]; exact g2, World.there_setCells g3 _ _ _, fun hg => (g4 hg).cells hne _ _⟩
theorem CL4 {n : Nat} {p q r s : Int} (h : C4 u n p q r s) : CL u n [p, q, r, s] := fun j x hj => by
  obtain ⟨⟨h0, h1, h2, h3⟩, g0, g1, g2, g3⟩ := h
  match j, hj with
  | 0, hj => cases hj; exact ⟨h0, g0⟩
  | 1, hj => cases hj; exact ⟨h1, g1⟩
  | 2, hj => cases hj; exact ⟨h2, g2⟩
  | 3, hj => cases hj; exact ⟨h3, g3⟩
theorem C4L {n : Nat} {p q r s : Int} (h : CL u n [p, q, r, s]) : C4 u n p q r s :=
  ⟨⟨(h 0 _ rfl).1, (h 1 _ rfl).1, (h 2 _ rfl).1, (h 3 _ rfl).1⟩, (h 0 _ rfl).2, (h 1 _ rfl).2, (h 2 _ rfl).2, (h 3 _ rfl).2⟩
end Go.Proofs.Ytajpjbhppjlehaa
