/- Cast: a message more waits: what is stored, what is read, what comes of it. -/
import Derived.Test.YthncmahhnbpbkaaKW1
namespace Go.Proofs.Ythncmahhnbpbkaa
open Go.RowKit
set_option linter.unusedVariables false
set_option linter.unusedSimpArgs false
theorem stSi {b c n cap : Nat} {sl : Option Addr} {v0 : Value} (w : World) (h : w.cell? ⟨b, c, none⟩ = some v0) (hf : w.frozen? ⟨b, c, none⟩ = false) : (Instr.storeAt 53 (.pointer (some ⟨b, c, none⟩)) (.slice sl n cap)).run Try.prog w = .ok () (w.setCell ⟨b, c, none⟩ (.slice sl n cap)) := by go_simp
theorem stSm {b c n cap : Nat} {sl : Option Addr} {v0 : Value} (w : World) (h : w.cell? ⟨b, c, none⟩ = some v0) (hf : w.frozen? ⟨b, c, none⟩ = false) : (Instr.storeAt 22 (.pointer (some ⟨b, c, none⟩)) (.slice sl n cap)).run Try.prog w = .ok () (w.setCell ⟨b, c, none⟩ (.slice sl n cap)) := by go_simp
theorem bS1i (x : Int) (w : World) : (Instr.buildSlice 53 1 ([0].zip [Value.int .i64 x]).toArray).run Try.prog w = .ok (.slice (some ⟨w.heap.size, 0, none⟩) 1 1) (w.alloc (.cells #[.int .i64 x] 3)) := by go_simp
theorem bS1m (m : Mg) (w : World) : (Instr.buildSlice 22 1 ([0].zip [MX m.1 m.2.1 m.2.2]).toArray).run Try.prog w = .ok (.slice (some ⟨w.heap.size, 0, none⟩) 1 1) (w.alloc (.cells (mC m).toArray 32)) := by go_simp
section
variable {p : Pl} {t bad n tb mb : Nat} {vt vm : Value} {xs ys : List Value} {k : Nat} {m : Mg} {L : Nat} {w : World} {f7 f8 f17 f18 f21 f24 : Bool} {v59 v60 v69 v70 : Value} {u : World}
theorem CA.st21 (h : CA p tb mb vt vm xs ys k m L w f7 f8 f17 true false false v59 v60 v69 v70 u (wC n t bad p.nb p.cn p.sb)) (hc : CV w p.wb (wC n t bad p.nb p.cn p.sb vt vm)) (hw : p.wb < w.heap.size) (h1 : vt ≠ nilS → p.wb ≠ tb) (h2 : vm ≠ nilS → p.wb ≠ mb) (f8e : f8 = true) :
    (Instr.storeAt 53 (.pointer (some ⟨p.wb, 4, none⟩)) v60).run Try.prog u = .ok () (u.setCell ⟨p.wb, 4, none⟩ v60) ∧ CA p tb mb vt vm xs ys k m L w f7 f8 f17 true true false v59 v60 v69 v70 (u.setCell ⟨p.wb, 4, none⟩ v60) (wC n t bad p.nb p.cn p.sb) := by
  subst f8e
  obtain ⟨hE, hR⟩ := h.a2 rfl rfl
  have hcu : CV u p.wb (wC n t bad p.nb p.cn p.sb vt vm) := hc.ex hE hw fun ha => by
    rcases ha with ⟨a1, a2⟩ | ⟨a1, a2⟩
    · exact h1 a1 a2
    · exact h2 a1 a2
  have hR0 := hR
  obtain ⟨tb', mb', ⟨t1, t2, t3, t4⟩, ⟨g1, g2, g3, g4⟩, hne⟩ := hR
  obtain ⟨sl, c, e, _⟩ := t1.sl
  have hE2 : Ex (fun j => j = p.wb) u (u.setCell ⟨p.wb, 4, none⟩ v60) := Ex.cell (A := fun j => j = p.wb) (Ex.refl _ u) (p := ⟨p.wb, 4, none⟩) rfl _
  refine ⟨by rw [e]; exact stSi u (hcu 4 _ rfl).1 (hcu 4 _ rfl).2, Nat.le_trans h.sz hE2.size, nofun, fun _ => nofun, fun _ => nofun, fun _ => nofun, fun _ => nofun, fun _ _ => ⟨(hE.wide fun j hj => .inl hj).trans (hE2.wide fun j hj => .inr hj), hR0.ex hE2 fun j hj => ?_, ?_⟩, nofun⟩
  · have hj : j = p.wb := hj
    rw [hj]; exact ⟨hw, h1, h2⟩
  · exact hcu.setC 4 (by simp) v60
theorem CA.st24 (h : CA p tb mb vt vm xs ys k m L w f7 f8 f17 f18 true false v59 v60 v69 v70 u (wC n t bad p.nb p.cn p.sb)) (hw : p.wb < w.heap.size) (h1 : vt ≠ nilS → p.wb ≠ tb) (h2 : vm ≠ nilS → p.wb ≠ mb) (f8e : f8 = true) (f18e : f18 = true) :
    (Instr.storeAt 22 (.pointer (some ⟨p.wb, 5, none⟩)) v70).run Try.prog u = .ok () (u.setCell ⟨p.wb, 5, none⟩ v70) ∧ CA p tb mb vt vm xs ys k m L w f7 f8 f17 f18 true true v59 v60 v69 v70 (u.setCell ⟨p.wb, 5, none⟩ v70) (wC n t bad p.nb p.cn p.sb) := by
  subst f8e
  subst f18e
  obtain ⟨hE, hR, hcu⟩ := h.a3 rfl rfl
  have hR0 := hR
  obtain ⟨tb', mb', ⟨t1, t2, t3, t4⟩, ⟨g1, g2, g3, g4⟩, hne⟩ := hR
  obtain ⟨sl, c, e, _⟩ := g1.sl
  have hE2 : Ex (fun j => j = p.wb) u (u.setCell ⟨p.wb, 5, none⟩ v70) := Ex.cell (A := fun j => j = p.wb) (Ex.refl _ u) (p := ⟨p.wb, 5, none⟩) rfl _
  refine ⟨by rw [e]; exact stSm u (hcu 5 _ rfl).1 (hcu 5 _ rfl).2, Nat.le_trans h.sz hE2.size, nofun, fun _ => nofun, fun _ => nofun, fun _ => nofun, fun _ => nofun, fun _ => nofun, fun _ => ⟨hE.trans (hE2.wide fun j hj => .inr hj), hR0.ex hE2 fun j hj => ?_, ?_⟩⟩
  · have hj : j = p.wb := hj
    rw [hj]; exact ⟨hw, h1, h2⟩
  · exact hcu.setC 5 (by simp) v70
/-- What is read ahead of the second append. -/
theorem CA.early (h : CA p tb mb vt vm xs ys k m L w f7 f8 f17 false f21 f24 v59 v60 v69 v70 u (wC n t bad p.nb p.cn p.sb)) : Ex (fun j => vt ≠ nilS ∧ j = tb) w u := by
  cases f8 with
  | false => exact Ex.of_bel (h.a0 rfl)
  | true => exact (h.a1 rfl rfl).1
theorem CA.last (h : CA p tb mb vt vm xs ys k m L w f7 f8 f17 f18 f21 true v59 v60 v69 v70 u (wC n t bad p.nb p.cn p.sb)) {W : Wd} (hQ : WQ p t bad n tb mb vt vm w W) (hxs : xs = W.wait.map fun q => Value.int .i64 (q.1 : Int)) (hys : ys = W.wait.flatMap fun q => mC q.2) (hL : L = W.wait.length) : ∃ tb' mb' vt' vm', WQ p t bad n tb' mb' vt' vm' u { W with wait := W.wait ++ [(k, m)] } ∧ ∀ lb, lb < w.heap.size → (vt ≠ nilS → lb ≠ tb) → (vm ≠ nilS → lb ≠ mb) → lb ≠ tb' ∧ lb ≠ mb' := by
  obtain ⟨hE, ⟨tb', mb', ⟨t1, t2, t3, t4⟩, ⟨g1, g2, g3, g4⟩, hne⟩, hcu⟩ := h.a4 rfl
  have hs := hE.size
  have hA : ∀ j, (((vt ≠ nilS ∧ j = tb) ∨ (vm ≠ nilS ∧ j = mb)) ∨ j = p.wb) → j ≠ p.nb ∧ j ≠ p.sb ∧ ∀ i, 1 ≤ i → i ≤ n → j < p.bs i ∨ p.bs i + 7 ≤ j := fun j hj => by
    rcases hj with (⟨a1, rfl⟩ | ⟨a1, rfl⟩) | rfl
    · exact (hQ.dt a1).2
    · exact (hQ.dm a1).2
    · exact ⟨hQ.ok.d1.1, hQ.ok.d1.2.1, fun i i1 i2 => (hQ.ok.d2 i i1 i2).1⟩
  have off : ∀ b v (b' : Nat), (v ≠ nilS → p.off n b) → ((v ≠ nilS ∧ b' = b) ∨ w.heap.size ≤ b') → p.off n b' := fun b v b' h1 h2 => by
    rcases h2 with ⟨h2, rfl⟩ | h2
    · exact h1 h2
    · refine ⟨by have := hQ.ok.w1.2; omega, by have := hQ.ok.n1.2; omega, by have := hQ.ok.s1.2; omega, fun i i1 i2 => by have := (hQ.ok.b1 i i1 i2).2; omega⟩
  refine ⟨tb', mb', v60, v70, ⟨⟨⟨hQ.ok.w1.1, by have := hQ.ok.w1.2; omega⟩, ⟨hQ.ok.n1.1, by have := hQ.ok.n1.2; omega⟩, ⟨hQ.ok.s1.1, by have := hQ.ok.s1.2; omega⟩, fun i i1 i2 => ⟨(hQ.ok.b1 i i1 i2).1, by have := (hQ.ok.b1 i i1 i2).2; omega⟩, hQ.ok.d1, hQ.ok.d2, hQ.ok.d3, hQ.ok.c1⟩, hcu, fun j hj => ?_, fun j hj => ?_, ?_, ?_, fun i i1 i2 => (hQ.nm i i1 i2).ex hE fun j j1 j2 ha => ?_, fun _ => off tb vt tb' hQ.dt t3, fun _ => off mb vm mb' hQ.dm g3, fun _ _ => hne⟩, fun lb l1 l2 l3 => ⟨by rcases t3 with ⟨a1, rfl⟩ | a1; exact l2 a1; omega, by rcases g3 with ⟨a1, rfl⟩ | a1; exact l3 a1; omega⟩⟩
  · rw [World.cell?_of_block (w := w) (hE.block _ hQ.ok.n1.2 fun ha => (hA _ ha).1 rfl)]; exact hQ.nr j hj
  · have e := hE.block _ hQ.ok.s1.2 fun ha => (hA _ ha).2.1 rfl
    rw [World.cell?_of_block (w := w) e, World.frozen?_of_block (w := w) e]; exact hQ.sr j hj
  · rw [List.length_append, List.map_append]
    rw [hL, hxs] at t1
    exact t1
  · rw [List.length_append, List.flatMap_append]
    rw [hL, hys] at g1
    simpa using g1
  · have := (hA j ha).2.2 i i1 i2; omega
end
theorem lSiv {b c n cap : Nat} {sl : Option Addr} {v : Value} (w : World) (hv : v = .slice sl n cap) (h : w.cell? ⟨b, c, none⟩ = some v) : (Instr.loadAt 53 (.pointer (some ⟨b, c, none⟩))).run Try.prog w = .ok v w := by rw [hv] at h ⊢; exact lSi w h
theorem lSmv {b c n cap : Nat} {sl : Option Addr} {v : Value} (w : World) (hv : v = .slice sl n cap) (h : w.cell? ⟨b, c, none⟩ = some v) : (Instr.loadAt 22 (.pointer (some ⟨b, c, none⟩))).run Try.prog w = .ok v w := by rw [hv] at h ⊢; exact lSm w h
theorem ixM0 (b : Nat) (w : World) : (Instr.indexAt 22 (.slice (some ⟨b, 0, none⟩) 1 1) (.int .i64 0)).run Try.prog w = .ok (.pointer (some ⟨b, 0, none⟩)) w := by go_simp
end Go.Proofs.Ythncmahhnbpbkaa
