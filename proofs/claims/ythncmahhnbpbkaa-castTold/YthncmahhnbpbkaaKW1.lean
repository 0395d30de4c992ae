/- Cast: a message more waits: the states of that statement. -/
import Derived.Test.YthncmahhnbpbkaaKW0
namespace Go.Proofs.Ythncmahhnbpbkaa
open Go.RowKit
set_option linter.unusedVariables false
set_option linter.unusedSimpArgs false
/-- A slice of one new thing. -/
def FS (w u : World) (y : Value) (news : List Value) : Prop := ∃ b, w.heap.size ≤ b ∧ b < u.heap.size ∧ y = .slice (some ⟨b, 0, none⟩) 1 1 ∧ CV u b news
theorem FS.ex {A : Nat → Prop} {w u u2 : World} {y : Value} {news : List Value} (h : FS w u y news) (hk : Ex A u u2) (hA : ∀ k, A k → k < w.heap.size) : FS w u2 y news := by
  obtain ⟨b, h1, h2, h3, h4⟩ := h
  have := hk.size
  exact ⟨b, h1, by omega, h3, h4.ex hk h2 fun ha => by have := hA b ha; omega⟩
theorem FS.nw {w u : World} {y : Value} {news : List Value} (h : FS w u y news) : NW 1 news u y := by
  obtain ⟨b, h1, h2, h3, h4⟩ := h
  exact ⟨_, 1, h3, .inr ⟨_, rfl, fun j v hj => by rw [Addr.add0]; exact (h4 j v hj).1⟩⟩
section
variable (p : Pl) (n tb mb : Nat) (vt vm : Value) (xs ys : List Value) (k : Nat) (m : Mg) (L : Nat) (w : World)
def R1 (u : World) (v60 : Value) : Prop := ∃ tb', OR p.lo 1 (L + 1) (xs ++ [.int .i64 (k : Int)]) tb' u v60 ∧ v60 ≠ nilS ∧ ((vt ≠ nilS ∧ tb' = tb) ∨ w.heap.size ≤ tb') ∧ tb' < u.heap.size
def R2 (u : World) (v60 v70 : Value) : Prop := ∃ tb' mb', (OR p.lo 1 (L + 1) (xs ++ [.int .i64 (k : Int)]) tb' u v60 ∧ v60 ≠ nilS ∧ ((vt ≠ nilS ∧ tb' = tb) ∨ w.heap.size ≤ tb') ∧ tb' < u.heap.size) ∧ (OR p.lo 3 (L + 1) (ys ++ mC m) mb' u v70 ∧ v70 ≠ nilS ∧ ((vm ≠ nilS ∧ mb' = mb) ∨ w.heap.size ≤ mb') ∧ mb' < u.heap.size) ∧ tb' ≠ mb'
structure CA (f7 f8 f17 f18 f21 f24 : Bool) (v59 v60 v69 v70 : Value) (u : World) (cs : Value → Value → List Value) : Prop where
  sz : w.heap.size ≤ u.heap.size
  a0 : f8 = false → Below w.heap.size w u
  y1 : f7 = true → f8 = false → FS w u v59 [.int .i64 (k : Int)]
  a1 : f8 = true → f18 = false → Ex (fun j => vt ≠ nilS ∧ j = tb) w u ∧ R1 p tb vt xs k L w u v60
  y2 : f17 = true → f18 = false → FS w u v69 (mC m)
  a2 : f18 = true → f21 = false → Ex (fun j => (vt ≠ nilS ∧ j = tb) ∨ (vm ≠ nilS ∧ j = mb)) w u ∧ R2 p tb mb vt vm xs ys k m L w u v60 v70
  a3 : f21 = true → f24 = false → Ex (fun j => ((vt ≠ nilS ∧ j = tb) ∨ (vm ≠ nilS ∧ j = mb)) ∨ j = p.wb) w u ∧ R2 p tb mb vt vm xs ys k m L w u v60 v70 ∧ CV u p.wb (cs v60 vm)
  a4 : f24 = true → Ex (fun j => ((vt ≠ nilS ∧ j = tb) ∨ (vm ≠ nilS ∧ j = mb)) ∨ j = p.wb) w u ∧ R2 p tb mb vt vm xs ys k m L w u v60 v70 ∧ CV u p.wb (cs v60 v70)
end
section
variable {p : Pl} {n tb mb : Nat} {vt vm : Value} {xs ys : List Value} {k : Nat} {m : Mg} {L : Nat} {w : World} {f7 f8 f17 f18 f21 f24 : Bool} {v59 v60 v69 v70 : Value} {u : World} {cs : Value → Value → List Value}
theorem R1.ex {A : Nat → Prop} {u2 : World} (h : R1 p tb vt xs k L w u v60) (hk : Ex A u u2) (hA : ∀ j, A j → j < w.heap.size ∧ (vt ≠ nilS → j ≠ tb)) : R1 p tb vt xs k L w u2 v60 := by
  obtain ⟨tb', h1, h2, h3, h4⟩ := h
  have := hk.size
  refine ⟨tb', h1.up (fun _ hb => hk.block _ hb fun ha => ?_) hk.size, h2, h3, by omega⟩
  obtain ⟨q1, q2⟩ := hA tb' ha
  rcases h3 with ⟨h5, h6⟩ | h6
  · exact q2 h5 h6
  · omega
theorem R2.ex {A : Nat → Prop} {u2 : World} (h : R2 p tb mb vt vm xs ys k m L w u v60 v70) (hk : Ex A u u2) (hA : ∀ j, A j → j < w.heap.size ∧ (vt ≠ nilS → j ≠ tb) ∧ (vm ≠ nilS → j ≠ mb)) : R2 p tb mb vt vm xs ys k m L w u2 v60 v70 := by
  obtain ⟨tb', mb', ⟨h1, h2, h3, h4⟩, ⟨g1, g2, g3, g4⟩, hne⟩ := h
  have := hk.size
  refine ⟨tb', mb', ⟨h1.up (fun _ hb => hk.block _ hb fun ha => ?_) hk.size, h2, h3, by omega⟩, ⟨g1.up (fun _ hb => hk.block _ hb fun ha => ?_) hk.size, g2, g3, by omega⟩, hne⟩
  · obtain ⟨q1, q2, _⟩ := hA tb' ha
    rcases h3 with ⟨h5, h6⟩ | h6
    · exact q2 h5 h6
    · omega
  · obtain ⟨q1, _, q2⟩ := hA mb' ha
    rcases g3 with ⟨h5, h6⟩ | h6
    · exact q2 h5 h6
    · omega
theorem FS.new (w u : World) (news : List Value) (E : TypeId) (h : w.heap.size ≤ u.heap.size) : FS w (u.alloc (.cells news.toArray E)) (.slice (some ⟨u.heap.size, 0, none⟩) 1 1) news := ⟨u.heap.size, h, by simp, rfl, CV.new u news E⟩
/-- Something new, while no message waits yet. -/
theorem CA.grow7 (h : CA p tb mb vt vm xs ys k m L w f7 false f17 false false false v59 v60 v69 v70 u cs) (E : TypeId) : CA p tb mb vt vm xs ys k m L w true false f17 false false false (.slice (some ⟨u.heap.size, 0, none⟩) 1 1) v60 v69 v70 (u.alloc (.cells #[.int .i64 (k : Int)] E)) cs := by
  have hB : Below u.heap.size u (u.alloc (.cells #[.int .i64 (k : Int)] E)) := balloc (bself u) _
  refine ⟨Nat.le_trans h.sz hB.size, fun _ => bstep (h.a0 rfl) hB, fun _ _ => FS.new w u [.int .i64 (k : Int)] E h.sz, nofun, fun e1 e2 => ?_, nofun, nofun, nofun⟩
  exact (h.y2 e1 e2).ex (Ex.of_bel (A := fun _ => False) hB) fun _ e => e.elim
theorem CA.grow17 (h : CA p tb mb vt vm xs ys k m L w f7 f8 f17 false false false v59 v60 v69 v70 u cs) (hl : vt ≠ nilS → tb < w.heap.size) (E : TypeId) : CA p tb mb vt vm xs ys k m L w f7 f8 true false false false v59 v60 (.slice (some ⟨u.heap.size, 0, none⟩) 1 1) v70 (u.alloc (.cells (mC m).toArray E)) cs := by
  have hB : Below u.heap.size u (u.alloc (.cells (mC m).toArray E)) := balloc (bself u) _
  refine ⟨Nat.le_trans h.sz hB.size, fun e => bstep (h.a0 e) hB, fun e1 e2 => (h.y1 e1 e2).ex (Ex.of_bel (A := fun _ => False) hB) fun _ e => e.elim, fun e1 e2 => ?_, fun e1 e2 => FS.new w u (mC m) E h.sz, nofun, nofun, nofun⟩
  obtain ⟨q1, q2⟩ := h.a1 e1 e2
  exact ⟨q1.trans (Ex.of_bel hB), q2.ex (Ex.of_bel (A := fun _ => False) hB) fun _ e => e.elim⟩
/-- The first append. -/
theorem CA.app8 {ty : TypeId} (h : CA p tb mb vt vm xs ys k m L w true false f17 false false false v59 v60 v69 v70 u cs) (hl : vt ≠ nilS → tb < w.heap.size) (hlo : p.lo ≤ w.heap.size) (hL : L ≤ 1000) (ht : OR p.lo 1 L xs tb w vt) :
    ∃ v u', (Builtin.append_ #[53, 53] ty #[vt, v59]).run Try.prog u = .ok v u' ∧ CA p tb mb vt vm xs ys k m L w true true f17 false false false v59 v v69 v70 u' cs := by
  have hB := h.a0 rfl
  have hO : OR p.lo 1 L xs tb u vt := ht.up (fun hv _ => hB.block _ (hl hv)) hB.size
  obtain ⟨v, u', b', hr, h1, h2, h3⟩ := app_or (T := 53) (E := 3) (bt := 8) (z := .int .i64 0) (ty := ty) (news := [.int .i64 (k : Int)]) Try.underlying53 (by kernel_rfl) rfl (by omega) hO (Nat.le_trans hlo h.sz) (by omega) rfl (fun v hv => by simp at hv; subst hv; rfl) (h.y1 rfl rfl).nw
  have hE : Ex (fun j => vt ≠ nilS ∧ j = tb) u u' := by
    rcases h3 with ⟨_, g1, _⟩ | ⟨g0, g1, _⟩
    · exact Ex.of_bel g1
    · exact Ex.of_grown g1 ⟨g0, rfl⟩
  have hA : ∀ j, (vt ≠ nilS ∧ j = tb) → j < w.heap.size := fun j hj => by rw [hj.2]; exact hl hj.1
  refine ⟨v, u', hr, Nat.le_trans h.sz hE.size, nofun, (fun _ => nofun), fun _ _ => ⟨(Ex.of_bel hB).trans hE, b', h1, h2, ?_, (h1.lt h2).2⟩, fun e1 e2 => (h.y2 e1 e2).ex hE hA, nofun, nofun, nofun⟩
  have := h.sz
  rcases h3 with ⟨_, _, g3⟩ | ⟨g0, _, g3⟩
  · exact .inr (by omega)
  · rcases g3 with g3 | g3
    · exact .inl ⟨g0, g3⟩
    · exact .inr (by omega)
/-- The second one. -/
theorem CA.app18 {ty : TypeId} (h : CA p tb mb vt vm xs ys k m L w f7 true true false false false v59 v60 v69 v70 u cs) (hl : vt ≠ nilS → tb < w.heap.size) (hm : vm ≠ nilS → mb < w.heap.size) (htm : vt ≠ nilS → vm ≠ nilS → tb ≠ mb) (hlo : p.lo ≤ w.heap.size) (hL : L ≤ 1000) (hom : OR p.lo 3 L ys mb w vm) :
    ∃ v u', (Builtin.append_ #[22, 22] ty #[vm, v69]).run Try.prog u = .ok v u' ∧ CA p tb mb vt vm xs ys k m L w f7 true true true false false v59 v60 v69 v u' cs := by
  obtain ⟨hE0, hR⟩ := h.a1 rfl rfl
  have hO : OR p.lo 3 L ys mb u vm := hom.up (fun hv _ => hE0.block _ (hm hv) fun ha => htm ha.1 hv ha.2.symm) hE0.size
  obtain ⟨v, u', b', hr, h1, h2, h3⟩ := app_or (T := 22) (E := 32) (bt := 32) (z := .agg #[.int .i64 0, .int .i64 0, .string noS]) (ty := ty) (news := mC m) Try.underlying22 (by kernel_rfl) rfl (by omega) hO (Nat.le_trans hlo h.sz) (by omega) rfl (fun v hv => by simp at hv; rcases hv with e | e | e <;> (subst e; rfl)) (h.y2 rfl rfl).nw
  have hE : Ex (fun j => vm ≠ nilS ∧ j = mb) u u' := by
    rcases h3 with ⟨_, g1, _⟩ | ⟨g0, g1, _⟩
    · exact Ex.of_bel g1
    · exact Ex.of_grown g1 ⟨g0, rfl⟩
  have hR' : R1 p tb vt xs k L w u' v60 := hR.ex hE fun j hj => ⟨by rw [hj.2]; exact hm hj.1, fun hv e => htm hv hj.1 (by rw [← e, hj.2])⟩
  obtain ⟨tb', t1, t2, t3, t4⟩ := hR'
  have t5 : tb' < u.heap.size := by
    obtain ⟨tb2, q1, q2, q3, q4⟩ := hR
    rcases t1.2 with ⟨_, e⟩ | ⟨_, _, co, zs, e, _⟩
    · exact absurd e t2
    · rcases q1.2 with ⟨_, e2⟩ | ⟨_, _, co2, zs2, e2, _⟩
      · exact absurd e2 q2
      · rw [e] at e2
        injection e2 with e3
        injection e3 with e3
        injection e3 with e3
        rw [e3]; exact q4
  refine ⟨v, u', hr, Nat.le_trans h.sz hE.size, nofun, (fun _ => nofun), (fun _ => nofun), (fun _ => nofun), fun _ _ => ⟨(hE0.wide fun j hj => .inl hj).trans (hE.wide fun j hj => .inr hj), tb', b', ⟨t1, t2, t3, t4⟩, ⟨h1, h2, ?_, (h1.lt h2).2⟩, ?_⟩, nofun, nofun⟩
  · have := h.sz
    rcases h3 with ⟨_, _, g3⟩ | ⟨g0, _, g3⟩
    · exact .inr (by omega)
    · rcases g3 with g3 | g3
      · exact .inl ⟨g0, g3⟩
      · exact .inr (by omega)
  · have := h.sz
    rcases h3 with ⟨_, _, g3⟩ | ⟨g0, _, g3⟩
    · omega
    · rcases g3 with g3 | g3
      · rw [g3]
        rcases t3 with ⟨t6, t7⟩ | t7
        · rw [t7]; exact htm t6 g0
        · have := hm g0; omega
      · omega
end
end Go.Proofs.Ythncmahhnbpbkaa
