/- Cast: many nodes are made: what holds meanwhile. -/
import Derived.Test.YthncmahhnbpbkaaKW9
namespace Go.Proofs.Ythncmahhnbpbkaa
open Go.RowKit
set_option linter.unusedVariables false
set_option linter.unusedSimpArgs false
set_option maxRecDepth 100000 in
theorem infoPn : (Try.prog.info? 23).map (fun i => (i.zero, i.size, i.bytes)) = some (some (.pointer none), 1, 8) := by kernel_rfl
/-- k of the nodes are made. -/
structure ML (lo n t bad dl k : Nat) (bs : Nat → Nat) (nb : Nat) (v : Value) (u : World) : Prop where
  cw : CV u (lo + 1) [.int .i64 n, .int .i64 t, .int .i64 bad, v, nilS, nilS, .slice (some ⟨lo, 0, none⟩) (2 * n + 2) (2 * n + 2)]
  sr : CV u lo (List.replicate (2 * n + 2) (.int .i64 0))
  on : OR lo 1 k ((List.range k).map fun j => pN (bs (j + 1))) nb u v
  nm : ∀ i, 1 ≤ i → i ≤ k → NM u (bs i) (Nd.new n t i dl)
  b1 : ∀ i, 1 ≤ i → i ≤ k → lo + 2 ≤ bs i ∧ bs i + 7 ≤ u.heap.size
  d1 : v ≠ nilS → lo + 2 ≤ nb
  d2 : ∀ i, 1 ≤ i → i ≤ k → v ≠ nilS → nb < bs i ∨ bs i + 7 ≤ nb
  d3 : ∀ i j, 1 ≤ i → i ≤ k → 1 ≤ j → j ≤ k → i ≠ j → bs i + 7 ≤ bs j ∨ bs j + 7 ≤ bs i
  sz : lo + 2 ≤ u.heap.size
theorem ML.ex {lo n t bad dl k nb : Nat} {bs : Nat → Nat} {v : Value} {u u2 : World} (h : ML lo n t bad dl k bs nb v u) (hB : Below u.heap.size u u2) : ML lo n t bad dl k bs nb v u2 := by
  have hs := hB.size
  have hz := h.sz
  have hE : Ex (fun _ => False) u u2 := Ex.of_bel hB
  exact ⟨h.cw.ex hE (by omega) id, h.sr.ex hE (by omega) id, h.on.up (fun _ hb => hB.block _ hb) hs, fun i i1 i2 => (h.nm i i1 i2).ex hE fun _ _ _ => id, fun i i1 i2 => ⟨(h.b1 i i1 i2).1, by have := (h.b1 i i1 i2).2; omega⟩, h.d1, h.d2, h.d3, by omega⟩
/-- One more. -/
theorem ML.add {lo n t bad dl k nb s : Nat} {bs : Nat → Nat} {v : Value} {u : World} {ty : TypeId} (h : ML lo n t bad dl k bs nb v u) (hk : k ≤ 100) (hN : NM u s (Nd.new n t (k + 1) dl)) (h1 : lo + 2 ≤ s) (h2 : s + 7 ≤ u.heap.size) (h3 : ∀ i, 1 ≤ i → i ≤ k → bs i + 7 ≤ s) (h4 : v ≠ nilS → nb < s) :
    ∃ v' u' b', (Builtin.append_ #[52, 52] ty #[v, .slice (some ⟨u.heap.size, 0, none⟩) 1 1]).run Try.prog (u.alloc (.cells #[pN s] 23)) = .ok v' u' ∧ u'.cell? ⟨lo + 1, 3, none⟩ = some v ∧ u'.frozen? ⟨lo + 1, 3, none⟩ = false ∧ ML lo n t bad dl (k + 1) (upN bs (k + 1) s) b' v' (u'.setCell ⟨lo + 1, 3, none⟩ v') ∧ Below lo u (u'.setCell ⟨lo + 1, 3, none⟩ v') := by
  obtain ⟨ub, eub⟩ : ∃ ub, Hid (ub = u.alloc (.cells #[pN s] 23)) := ⟨_, rfl⟩
  have hBb : Below u.heap.size u ub := by rw [eub.out]; exact balloc (bself u) _
  have hcb : CV ub u.heap.size [pN s] := by rw [eub.out]; exact CV.new u [pN s] _
  have hzb : ub.heap.size = u.heap.size + 1 := by rw [eub.out]; exact World.size_alloc _ _
  rw [← eub.out]
  have hb := h.ex hBb
  have hNb : NM ub s (Nd.new n t (k + 1) dl) := hN.ex (Ex.of_bel (A := fun _ => False) hBb) fun _ _ _ => id
  have hz := h.sz
  obtain ⟨v', u', b', hr, hO, hne, hd⟩ := app_or (u := ub) (lo := lo) (sz := 1) (bt := 8) (m := k) (b := nb) (news := [pN s]) (T := 52) (E := 23) (ty := ty) (y := .slice (some ⟨u.heap.size, 0, none⟩) 1 1) Try.underlying52 infoPn rfl (by omega) hb.on (by omega) (by omega) rfl (by simp; rfl) ⟨_, 1, rfl, .inr ⟨_, rfl, fun j x hj => by
    have := (hcb j x hj).1
    cases j with
    | zero => simpa [Addr.add] using this
    | succ j => simp at hj⟩⟩
  have hE1 : Ex (fun j => v ≠ nilS ∧ j = nb) ub u' := by
    rcases hd with ⟨_, hB, _⟩ | ⟨hv, hg, _⟩
    · exact Ex.of_bel hB
    · exact Ex.of_grown hg ⟨hv, rfl⟩
  have hnb : b' = nb ∧ v ≠ nilS ∨ ub.heap.size ≤ b' := by
    rcases hd with ⟨_, _, e⟩ | ⟨hv, _, e | e⟩
    · exact .inr e
    · exact .inl ⟨e, hv⟩
    · exact .inr e
  have hw1 : ¬ (v ≠ nilS ∧ lo + 1 = nb) := fun e => by have := h.d1 e.1; omega
  have hw0 : ¬ (v ≠ nilS ∧ lo = nb) := fun e => by have := h.d1 e.1; omega
  have hcw := hb.cw.ex hE1 (by omega) hw1
  have hE2 : Ex (fun j => (v ≠ nilS ∧ j = nb) ∨ j = lo + 1) ub (u'.setCell ⟨lo + 1, 3, none⟩ v') := (hE1.wide fun _ e => .inl e).cell (p := ⟨lo + 1, 3, none⟩) (.inr rfl) v'
  have hs2 := hE2.size
  have hb'l : lo + 2 ≤ b' := by
    rcases hnb with ⟨e, hv⟩ | e
    · have := h.d1 hv; omega
    · omega
  refine ⟨v', u', b', hr, (hcw 3 _ rfl).1, (hcw 3 _ rfl).2, ⟨hcw.setC 3 (by simp) v', hb.sr.ex hE2 (by omega) (fun e => by rcases e with e | e; exact hw0 e; omega), ?_, fun i i1 i2 => ?_, fun i i1 i2 => ?_, fun _ => hb'l, fun i i1 i2 _ => ?_, fun i j i1 i2 j1 j2 hij => ?_, by omega⟩, ?_⟩
  · have e1 : ((List.range (k + 1)).map fun j => pN (upN bs (k + 1) s (j + 1))) = ((List.range k).map fun j => pN (bs (j + 1))) ++ [pN s] := by
      rw [List.range_succ, List.map_append, List.map_singleton, upN_self]
      congr 1
      refine List.map_congr_left fun j hj => ?_
      rw [List.mem_range] at hj
      rw [upN_ne _ _ (by omega)]
    rw [e1]
    exact hO.up (fun _ _ => Below.heap_setCell u' ⟨lo + 1, 3, none⟩ v' b' (by show b' ≠ lo + 1; omega)) (by rw [World.size_setCell]; exact Nat.le_refl _)
  · by_cases e : i = k + 1
    · subst e
      rw [upN_self]
      exact hNb.ex hE2 fun j j1 j2 e => by
        rcases e with ⟨e1, e2⟩ | e
        · have := h4 e1; omega
        · omega
    · rw [upN_ne _ _ e]
      have hbi := h.b1 i i1 (by omega)
      exact (hb.nm i i1 (by omega)).ex hE2 fun j j1 j2 e => by
        rcases e with ⟨e1, e2⟩ | e
        · have := h.d2 i i1 (by omega) e1; omega
        · omega
  · by_cases e : i = k + 1
    · subst e
      rw [upN_self]; exact ⟨h1, by omega⟩
    · rw [upN_ne _ _ e]
      have hbi := h.b1 i i1 (by omega)
      exact ⟨hbi.1, by omega⟩
  · by_cases e : i = k + 1
    · subst e
      rw [upN_self]
      rcases hnb with ⟨e, hv⟩ | e
      · have := h4 hv; omega
      · omega
    · rw [upN_ne _ _ e]
      have hbi := h.b1 i i1 (by omega)
      rcases hnb with ⟨e, hv⟩ | e
      · have := h.d2 i i1 (by omega) hv; omega
      · omega
  · by_cases e : i = k + 1
    · subst e
      rw [upN_self, upN_ne _ _ (fun e => hij e.symm)]
      have := h3 j j1 (by omega); omega
    · rw [upN_ne _ _ e]
      by_cases e2 : j = k + 1
      · subst e2
        rw [upN_self]
        have := h3 i i1 (by omega); omega
      · rw [upN_ne _ _ e2]
        exact h.d3 i j i1 (by omega) j1 (by omega) hij
  · refine (hBb.mono (by omega)).trans (hE2.bel (fun j e => ?_) (by omega))
    rcases e with ⟨e1, e2⟩ | e
    · have := h.d1 e1; omega
    · omega
def W0 (n t dl : Nat) : Wd := ⟨fun i => Nd.new n t i dl, [], fun _ => 0⟩
/-- All are made: a world in order. -/
theorem ML.wi {lo n t bad dl nb : Nat} {bs : Nat → Nat} {v : Value} {u : World} (h : ML lo n t bad dl n bs nb v u) (hn : n = 3 * t + 1) (ht : t ≤ 2) (hb : bad ≤ t) (hd : 1 ≤ dl ∧ dl ≤ n) :
    ∃ p : Pl, p.wb = lo + 1 ∧ p.lo = lo ∧ WI p t bad n dl none 100 u (W0 n t dl) := by
  have hz := h.sz
  rcases h.on.2 with ⟨e, _⟩ | ⟨hv, hnl, cn, zs, rfl, hnz, hcn, hzs, hcv⟩
  · omega
  refine ⟨⟨lo, lo + 1, nb, cn, lo, bs⟩, rfl, rfl, ⟨⟨0, 0, nilS, nilS, ?_⟩, ?_, ?_, ?_⟩⟩
  · have hd1 := h.d1 hv
    refine ⟨⟨⟨by show lo ≤ lo + 1; omega, by show lo + 1 < _; omega⟩, ⟨hnl, hnz⟩, ⟨Nat.le_refl _, by show lo < _; omega⟩, fun i i1 i2 => ⟨by show lo ≤ bs i; have := (h.b1 i i1 i2).1; omega, (h.b1 i i1 i2).2⟩, ⟨by show lo + 1 ≠ nb; omega, by show lo + 1 ≠ lo; omega, by show nb ≠ lo; omega⟩, fun i i1 i2 => ?_, h.d3, hcn⟩, h.cw, fun j hj => ?_, fun j hj => ?_, ⟨rfl, .inl ⟨rfl, rfl⟩⟩, ⟨rfl, .inl ⟨rfl, rfl⟩⟩, fun i i1 i2 => h.nm i i1 i2, fun e => absurd rfl e, fun e => absurd rfl e, fun e => absurd rfl e⟩
    · have := (h.b1 i i1 i2).1
      exact ⟨.inl (by show lo + 1 < bs i; omega), h.d2 i i1 i2 hv, .inl (by show lo < bs i; omega)⟩
    · exact (hcv.pre j _ (by rw [List.getElem?_map, List.getElem?_range hj]; rfl)).1
    · exact h.sr j _ (by rw [List.getElem?_replicate, if_pos hj]; rfl)
  · have hok : ∀ i : Nat, 1 ≤ i → i ≤ n → okM n t i dl = true := fun i i1 i2 => by simp only [okM, decide_eq_true_eq]; omega
    refine ⟨hd, fun i i1 i2 => ⟨rfl, rfl, rfl, rfl, NWF.new (hok i i1 i2)⟩, ?_, ?_, ?_, ?_, ?_, ?_, ?_, ?_, ?_, ?_, ?_⟩
    · intro q hq; exact absurd hq (by simp [W0])
    · intro i _ _ g x _ hq; exact absurd hq (by simp [W0, Nd.new])
    · intro i _ _ g x _ hq; exact absurd hq (by simp [W0, Nd.new])
    · intro i _ _ x hq; exact absurd hq (by simp [W0, Nd.new])
    · intro i _ _ x hq; exact absurd hq (by simp [W0, Nd.new])
    · intro i _ _ x hq; exact absurd hq (by simp [W0, Nd.new])
    · intro i _ _ x hq; exact absurd hq (by simp [W0, Nd.new])
    · intro i _ _; rfl
    · intro i _ _; rfl
    · intro _ i _ _ x hq; exact absurd hq (by simp [W0, Nd.new])
    · intro _ x hq; exact absurd hq (by simp)
  · have h1 := sumN_le (f := fun j => un ((W0 n t dl).nd (bad + 1 + j))) (c := 2) (fun j => un_le _) (n - bad)
    have h2 : (n - bad) * sumN (fun j => un ((W0 n t dl).nd (bad + 1 + j))) (n - bad) ≤ 7 * 14 := Nat.mul_le_mul (by omega) (by omega)
    show 0 + _ ≤ 100
    omega
  · show lo ≤ _; omega
end Go.Proofs.Ythncmahhnbpbkaa
