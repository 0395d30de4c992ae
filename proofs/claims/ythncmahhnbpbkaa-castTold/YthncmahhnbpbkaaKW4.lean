/- Cast: one of what waits is taken out: the states of that statement. -/
import Derived.Test.YthncmahhnbpbkaaKW3
namespace Go.Proofs.Ythncmahhnbpbkaa
open Go.RowKit
set_option linter.unusedVariables false
set_option linter.unusedSimpArgs false
theorem slHii (gb len cap k : Nat) (h1 : k ≤ len) (hc : len ≤ cap) (w : World) : (Instr.sliceAt 53 (.slice (some ⟨gb, 0, none⟩) len cap) none (some (.int .i64 (k : Int))) none).run Try.prog w = .ok (.slice (some ⟨gb, 0, none⟩) k cap) w := by
  have h3 : (k : Int) ≤ cap := by omega
  have h5 : k ≤ cap := by omega
  by_cases e : cap = 0
  · obtain rfl : k = 0 := by omega
    simp [Instr.sliceAt, Instr.slice, go_sem, Try.underlying53, h1, h3, h5, hc, e]
  · simp [Instr.sliceAt, Instr.slice, go_sem, Try.underlying53, h1, h3, h5, hc, e]
theorem slLoi (gb len cap d : Nat) (h1 : d ≤ len) (hc : len ≤ cap) : ∃ o, (len - d = 0 ∨ o = d * 1) ∧ ∀ w, (Instr.sliceAt 53 (.slice (some ⟨gb, 0, none⟩) len cap) (some (.int .i64 (d : Int))) none none).run Try.prog w = .ok (.slice (some ⟨gb, o, none⟩) (len - d) (cap - d)) w := by
  have h3 : (d : Int) ≤ len := by omega
  have h4 : (len : Int) ≤ cap := by omega
  have h5 : d ≤ cap := by omega
  by_cases e : cap = d
  · refine ⟨0, .inl (by omega), fun w => ?_⟩
    simp [Instr.sliceAt, Instr.slice, go_sem, Try.underlying53, h1, h3, h4, h5, hc, e]
  · refine ⟨d * 1, .inr rfl, fun w => ?_⟩
    simp [Instr.sliceAt, Instr.slice, go_sem, Try.underlying53, h1, h3, h4, h5, hc, e]
    <;> omega
theorem slHim (gb len cap k : Nat) (h1 : k ≤ len) (hc : len ≤ cap) (w : World) : (Instr.sliceAt 22 (.slice (some ⟨gb, 0, none⟩) len cap) none (some (.int .i64 (k : Int))) none).run Try.prog w = .ok (.slice (some ⟨gb, 0, none⟩) k cap) w := by
  have h3 : (k : Int) ≤ cap := by omega
  have h5 : k ≤ cap := by omega
  by_cases e : cap = 0
  · obtain rfl : k = 0 := by omega
    simp [Instr.sliceAt, Instr.slice, go_sem, Try.underlying22, h1, h3, h5, hc, e]
  · simp [Instr.sliceAt, Instr.slice, go_sem, Try.underlying22, h1, h3, h5, hc, e]
theorem slLom (gb len cap d : Nat) (h1 : d ≤ len) (hc : len ≤ cap) : ∃ o, (len - d = 0 ∨ o = d * 3) ∧ ∀ w, (Instr.sliceAt 22 (.slice (some ⟨gb, 0, none⟩) len cap) (some (.int .i64 (d : Int))) none none).run Try.prog w = .ok (.slice (some ⟨gb, o, none⟩) (len - d) (cap - d)) w := by
  have h3 : (d : Int) ≤ len := by omega
  have h4 : (len : Int) ≤ cap := by omega
  have h5 : d ≤ cap := by omega
  by_cases e : cap = d
  · refine ⟨0, .inl (by omega), fun w => ?_⟩
    simp [Instr.sliceAt, Instr.slice, go_sem, Try.underlying22, h1, h3, h4, h5, hc, e]
  · refine ⟨d * 3, .inr rfl, fun w => ?_⟩
    simp [Instr.sliceAt, Instr.slice, go_sem, Try.underlying22, h1, h3, h4, h5, hc, e]
    <;> omega
theorem bS0i (w : World) : (Instr.buildSlice 53 0 (([] : List Nat).zip ([] : List Value)).toArray).run Try.prog w = .ok (.slice (some ⟨w.heap.size, 0, none⟩) 0 0) (w.alloc (.cells #[] 3)) := by go_simp
theorem bS0m (w : World) : (Instr.buildSlice 22 0 (([] : List Nat).zip ([] : List Value)).toArray).run Try.prog w = .ok (.slice (some ⟨w.heap.size, 0, none⟩) 0 0) (w.alloc (.cells #[] 32)) := by go_simp
/-- A new row of these. -/
def FR (w : World) (sz n : Nat) (xs : List Value) (u : World) (v : Value) : Prop := ∃ b co zs, w.heap.size ≤ b ∧ b < u.heap.size ∧ v = .slice (some ⟨b, 0, none⟩) n co ∧ n ≤ co ∧ zs.length = (co - n) * sz ∧ xs.length = n * sz ∧ CV u b (xs ++ zs)
theorem FR.new (w u : World) (sz : Nat) (E : TypeId) (h : w.heap.size ≤ u.heap.size) : FR w sz 0 [] (u.alloc (.cells #[] E)) (.slice (some ⟨u.heap.size, 0, none⟩) 0 0) := ⟨u.heap.size, 0, [], h, by simp, rfl, Nat.le_refl _, by simp, by simp, fun j v hj => by simp at hj⟩
theorem FR.ex {A : Nat → Prop} {w u u2 : World} {sz n : Nat} {xs : List Value} {v : Value} (h : FR w sz n xs u v) (hk : Ex A u u2) (hA : ∀ k, A k → k < w.heap.size) : FR w sz n xs u2 v := by
  obtain ⟨b, co, zs, h1, h2, h3, h4, h5, h6, h7⟩ := h
  have := hk.size
  exact ⟨b, co, zs, h1, by omega, h3, h4, h5, h6, h7.ex hk h2 fun ha => by have := hA b ha; omega⟩
theorem FR.or {w u : World} {sz n lo : Nat} {xs : List Value} {v : Value} (h : FR w sz n xs u v) (hlo : lo ≤ w.heap.size) : ∃ b, w.heap.size ≤ b ∧ OR lo sz n xs b u v ∧ v ≠ nilS := by
  obtain ⟨b, co, zs, h1, h2, h3, h4, h5, h6, h7⟩ := h
  exact ⟨b, h1, ⟨h6, .inr ⟨by rw [h3]; simp, by omega, co, zs, h3, h2, h4, h5, h7⟩⟩, by rw [h3]; simp⟩
theorem app_fr {w u : World} {sz bt n m : Nat} {xs news : List Value} {v z y : Value} {T E ty : TypeId} (ht : Try.prog.underlying T = some (.slice E)) (hi : (Try.prog.info? E).map (fun i => (i.zero, i.size, i.bytes)) = some (some z, sz, bt)) (hz : z.cells.size = sz) (hbt : bt ≤ 1000) (h : FR w sz n xs u v) (hB : Below w.heap.size w u) (hl : n + m ≤ 100000) (hn : news.length = m * sz) (h1 : ∀ v ∈ news, v.oneCell' = true) (hy : NW m news u y) :
    ∃ v' u', (Builtin.append_ #[T, T] ty #[v, y]).run Try.prog u = .ok v' u' ∧ FR w sz (n + m) (xs ++ news) u' v' ∧ Below w.heap.size w u' ∧ u.heap.size ≤ u'.heap.size := by
  obtain ⟨ti, hti, htm⟩ := Option.map_eq_some_iff.1 hi
  simp only [Prod.mk.injEq] at htm
  obtain ⟨hzv, hsz, hby⟩ := htm
  have hmb : (n + m) * bt ≤ 100000000 := Nat.le_trans (Nat.mul_le_mul hl hbt) (by decide)
  obtain ⟨b, co, zs, g1, g2, rfl, g3, g4, g5, g6⟩ := h
  obtain ⟨v', u', hr, hg, b', cap, zs', rfl, k1, k2, k3, k4, k5⟩ := run_app (P := Try.prog) u (ty := ty) ht hti hzv (by rw [hsz]; exact hz) (base := u.heap.size) (n := n) (cap := co) (m := m) (news := news) (y := y) g6 g2 (by rw [hsz]; exact g5) (by rw [hsz]; exact g4) g3 (Nat.le_refl _) hy (by rw [hsz]; exact hn) h1 (by rw [hby]; omega) (by omega)
  rw [hsz] at k4
  have hs := hB.size
  refine ⟨_, u', hr, ⟨b', cap, zs', by rcases k1 with e | e <;> omega, k2, rfl, k3, k4, by rw [List.length_append, hn, g5, Nat.add_mul], k5⟩, ?_, hg.size⟩
  exact hB.grown hg hB.size fun k e => by cases e; exact g1
section
variable (w : World) (sz L k : Nat) (xs : List Value) (wb c : Nat) (cells : List Value)
structure CB (f1 f8 f16 f19 : Bool) (v35 v42 v50 : Value) (u : World) : Prop where
  s0 : w.heap.size ≤ u.heap.size
  b0 : f19 = false → Below w.heap.size w u
  e1 : f1 = true → f8 = false → FR w sz 0 [] u v35
  e8 : f8 = true → f16 = false → FR w sz k (xs.take (k * sz)) u v42
  e16 : f16 = true → f19 = false → FR w sz (L - 1) (xs.take (k * sz) ++ xs.drop ((k + 1) * sz)) u v50
  e19 : f19 = true → Ex (fun j => j = wb) w u ∧ FR w sz (L - 1) (xs.take (k * sz) ++ xs.drop ((k + 1) * sz)) u v50 ∧ CV u wb (cells.set c v50)
end
section
variable {w : World} {sz L k : Nat} {xs : List Value} {wb c : Nat} {cells : List Value} {f1 f8 f16 f19 : Bool} {v35 v42 v50 : Value} {u : World}
theorem CB.new (h : CB w sz L k xs wb c cells f1 false false false v35 v42 v50 u) (E : TypeId) : CB w sz L k xs wb c cells true false false false (.slice (some ⟨u.heap.size, 0, none⟩) 0 0) v42 v50 (u.alloc (.cells #[] E)) := by
  have hB : Below u.heap.size u (u.alloc (.cells #[] E)) := balloc (bself u) _
  exact ⟨Nat.le_trans h.s0 hB.size, fun _ => bstep (h.b0 rfl) hB, fun _ _ => FR.new w u sz E h.s0, nofun, nofun, nofun⟩
theorem CB.app8 {bt b co : Nat} {z : Value} {T E ty : TypeId} (ht : Try.prog.underlying T = some (.slice E)) (hi : (Try.prog.info? E).map (fun i => (i.zero, i.size, i.bytes)) = some (some z, sz, bt)) (hz : z.cells.size = sz) (hbt : bt ≤ 1000) (h : CB w sz L k xs wb c cells true false false false v35 v42 v50 u) (hk : k < L) (hL : L ≤ 1000) (hxl : xs.length = L * sz) (hc : CV w b xs) (hb : b < w.heap.size) (h1 : ∀ v ∈ xs, v.oneCell' = true) :
    ∃ v' u', (Builtin.append_ #[T, T] ty #[v35, .slice (some ⟨b, 0, none⟩) k co]).run Try.prog u = .ok v' u' ∧ CB w sz L k xs wb c cells true true false false v35 v' v50 u' := by
  have hB := h.b0 rfl
  have hks : k * sz ≤ L * sz := Nat.mul_le_mul (by omega) (Nat.le_refl _)
  obtain ⟨v', u', hr, hF, hB', hs⟩ := app_fr (T := T) (ty := ty) (news := xs.take (k * sz)) (m := k) ht hi hz hbt (h.e1 rfl rfl) hB (by omega) (by rw [List.length_take]; omega) (fun v hv => h1 v (List.mem_of_mem_take hv)) ⟨_, co, rfl, .inr ⟨_, rfl, fun j v hj => by
    rw [Addr.add0]
    exact ((hc.below hB hb).take _ j v hj).1⟩⟩
  rw [Nat.zero_add, List.nil_append] at hF
  exact ⟨v', u', hr, hB'.size, fun _ => hB', fun _ => nofun, fun _ _ => hF, nofun, nofun⟩
theorem CB.app16 {bt b co o : Nat} {z : Value} {T E ty : TypeId} (ht : Try.prog.underlying T = some (.slice E)) (hi : (Try.prog.info? E).map (fun i => (i.zero, i.size, i.bytes)) = some (some z, sz, bt)) (hz : z.cells.size = sz) (hbt : bt ≤ 1000) (h : CB w sz L k xs wb c cells f1 true false false v35 v42 v50 u) (hk : k < L) (hL : L ≤ 1000) (hxl : xs.length = L * sz) (hc : CV w b xs) (hb : b < w.heap.size) (h1 : ∀ v ∈ xs, v.oneCell' = true) (ho : L - (k + 1) = 0 ∨ o = (k + 1) * sz) :
    ∃ v' u', (Builtin.append_ #[T, T] ty #[v42, .slice (some ⟨b, o, none⟩) (L - (k + 1)) co]).run Try.prog u = .ok v' u' ∧ CB w sz L k xs wb c cells f1 true true false v35 v42 v' u' := by
  have hB := h.b0 rfl
  have hks : (k + 1) * sz ≤ L * sz := Nat.mul_le_mul (by omega) (Nat.le_refl _)
  have hcu := hc.below hB hb
  have hNW : NW (L - (k + 1)) (xs.drop ((k + 1) * sz)) u (.slice (some ⟨b, o, none⟩) (L - (k + 1)) co) := by
    refine ⟨some ⟨b, o, none⟩, co, rfl, ?_⟩
    rcases ho with h0 | h0
    · exact .inl h0
    · refine .inr ⟨⟨b, o, none⟩, rfl, fun j v hj => ?_⟩
      rw [Addr.addo, h0]
      rw [List.getElem?_drop] at hj
      exact (hcu _ v hj).1
  obtain ⟨v', u', hr, hF, hB', hs⟩ := app_fr (T := T) (ty := ty) (news := xs.drop ((k + 1) * sz)) (m := L - (k + 1)) ht hi hz hbt (h.e8 rfl rfl) hB (by omega) (by rw [List.length_drop, hxl, ← Nat.sub_mul]) (fun v hv => h1 v (List.mem_of_mem_drop hv)) hNW
  rw [show k + (L - (k + 1)) = L - 1 by omega] at hF
  exact ⟨v', u', hr, hB'.size, fun _ => hB', fun _ => nofun, fun _ => nofun, fun _ _ => hF, nofun⟩
theorem CB.st19 (h : CB w sz L k xs wb c cells f1 f8 true false v35 v42 v50 u) (f8e : f8 = true) (hc : CV w wb cells) (hw : wb < w.heap.size) (hcl : c < cells.length) {v0 : Value} (hv0 : cells[c]? = some v0) :
    (u.cell? ⟨wb, c, none⟩ = some v0 ∧ u.frozen? ⟨wb, c, none⟩ = false ∧ ∃ sl n co, v50 = .slice sl n co) ∧ CB w sz L k xs wb c cells f1 f8 true true v35 v42 v50 (u.setCell ⟨wb, c, none⟩ v50) := by
  subst f8e
  have hB := h.b0 rfl
  have hF := h.e16 rfl rfl
  have hcu := hc.below hB hw
  have hF0 := hF
  obtain ⟨b, co, zs, g1, g2, g3, _⟩ := hF
  have hE2 : Ex (fun j => j = wb) u (u.setCell ⟨wb, c, none⟩ v50) := Ex.cell (A := fun j => j = wb) (Ex.refl _ u) (p := ⟨wb, c, none⟩) rfl _
  refine ⟨⟨(hcu c _ hv0).1, (hcu c _ hv0).2, _, _, _, g3⟩, Nat.le_trans h.s0 hE2.size, nofun, fun _ => nofun, fun _ => nofun, fun _ => nofun, fun _ => ⟨(Ex.of_bel hB).trans hE2, hF0.ex hE2 fun j e => ?_, hcu.setC c hcl v50⟩⟩
  have e : j = wb := e
  rw [e]; exact hw
end
end Go.Proofs.Ythncmahhnbpbkaa
