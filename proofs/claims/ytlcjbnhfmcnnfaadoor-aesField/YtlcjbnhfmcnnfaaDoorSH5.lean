/- SHA-256: what is put behind the bytes. -/

import Derived.Test.YtlcjbnhfmcnnfaaDoorSH4
import Derived.Laws.MakeOwn
namespace Go.Proofs.YtlcjbnhfmcnnfaaDoor
open Go.RowKit
set_option linter.unusedVariables false
set_option linter.unusedSimpArgs false
section
variable {R : Rg} {P : Program} {ops : Array Oper} {Q : Exit → Act → World → Prop} {f : Nat → Bool} {t : Nat → Value} {u : World} {a : Act} {i : Nat} {o : Oper}
theorem wp_ms {K : Act → World → Prop} {T : TypeId} {x y : Operand} {vx vy v : Value} {w' : World} (ho : o.op = .makeSlice T x y) (hx : a.eval x = vx) (hy : a.eval y = vy) (hr : (Instr.makeSlice T vx vy).run P u = .ok v w') (hk : K (a.put o.dst v) w') : o.wp P a u K Q :=
  wp_val (by
    unfold execOp; rw [ho]
    show Sem.run P (do pure (Next.value (← Instr.makeSlice T (a.eval x) (a.eval y)))) u = _
    rw [hx, hy, Sem.run_bind, hr, Result.andThen_ok, Sem.run_pure]) hk
/-- A new slice of noughts. -/
theorem g_ms (n : Nat) (p : World → Value → Prop) {T e : TypeId} {x y : Operand} {vx vy : Value} {m : Nat} {cs : List Value} (hr : ∀ w, (Instr.makeSlice T vx vy).run P w = .ok (.slice (some ⟨w.heap.size, 0, none⟩) m m) (w.alloc (.cells cs.toArray e))) (hp : ∀ u : World, R.base ≤ u.heap.size → p (u.alloc (.cells cs.toArray e)) (.slice (some ⟨u.heap.size, 0, none⟩) m m)) (hop : o.op = .makeSlice T x y := by rfl) (hx : evR R i o x = some vx := by rfl) (hy : evR R i o y = some vy := by rfl) (hn : (R.E[n]?).map (·.p) = some p := by rfl) (hc : R.chkE ops n i o = true := by rfl) : OG R P ops Q i o := fun f t u a X => by
  obtain ⟨d, q, hd, hq, _, _, _, _, _, _, _, _, hw⟩ := chkE_parts hc
  exact X.go hw fun K hK => wp_ms hop (X.ev hx) (X.ev hy) (hr u) (hK _ _ (X.putE hc (fun q hq => by rw [hq] at hn; cases hn; exact hp u X.I.1.sz) (balloc (bself u) _)))
end
theorem Bk.moreT {lo : Nat} {u0 u : World} {k0 ks : List Blk} {b : Nat} {l : List Value} (K0 : Bk lo u0 k0) (K : Bk lo u ks) (hlo : lo ≤ u0.heap.size) (hb : u0.heap.size ≤ b) (hlt : b < u.heap.size) (hc : CV u b l) (e : ∀ x ∈ ks.map (·.2.1), x ∈ k0.map (·.2.1)) : Bk lo u (aK ks [(true, b, l)]) := by
  rw [aK_eq]
  refine ⟨KA.app K.a (KA.o hlt (Nat.le_trans hlo hb) hc trivial), ?_⟩
  rw [List.map_append, List.nodup_append]
  refine ⟨K.n, by simp, fun x hx y hy h => ?_⟩
  have := K0.a.mem x (e x hx)
  simp at hy
  omega
/-- A slice of one's own, without room behind it. -/
def PF (lo n : Nat) (xs : List Value) (u : World) (v : Value) : Prop := ∃ b, v = .slice (some ⟨b, 0, none⟩) n n ∧ lo ≤ b ∧ b < u.heap.size ∧ CV u b xs
theorem PF.stab {lo n : Nat} {xs : List Value} {u v : World} {x : Value} (hB : Below u.heap.size u v) (h : PF lo n xs u x) : PF lo n xs v x := by
  obtain ⟨b, e, h1, h2, h5⟩ := h
  exact ⟨b, e, h1, Nat.lt_of_lt_of_le h2 hB.size, h5.below hB h2⟩
theorem PF.mono {lo lo' n : Nat} {xs : List Value} {u : World} {x : Value} (h : PF lo n xs u x) (hl : lo' ≤ lo) : PF lo' n xs u x := by
  obtain ⟨b, e, h1, h⟩ := h
  exact ⟨b, e, Nat.le_trans hl h1, h⟩
theorem PF.new (n : Nat) (xs : List Value) (t : TypeId) {lo : Nat} (u : World) (h : lo ≤ u.heap.size) : PF lo n xs (u.alloc (.cells xs.toArray t)) (.slice (some ⟨u.heap.size, 0, none⟩) n n) := ⟨_, rfl, h, by simp, CV.new u _ t⟩
theorem infoB : (Tryd.prog.info? 5).map (fun i => (i.zero, i.size, i.bytes)) = some (some (.int .u8 0), 1, 1) := by kernel_rfl
theorem mkB (k : IntKind) (m : Nat) (hm : m ≤ 1000000) (w : World) : (Instr.makeSlice 24 (.int k m) (.int k m)).run Tryd.prog w = .ok (.slice (some ⟨w.heap.size, 0, none⟩) m m) (w.alloc (.cells (U8 (List.replicate m 0)).toArray 5)) := by
  obtain ⟨i, hi, hi2⟩ := Option.map_eq_some_iff.1 infoB
  simp only [Prod.mk.injEq] at hi2
  obtain ⟨hz, hs, hb⟩ := hi2
  have := run_makeSlice (P := Tryd.prog) w 24 5 i (.int .u8 0) Tryd.underlying24 hi hz k k m m (by omega) (by omega) (by rw [hs]; omega) (by rw [hb]; omega) (by omega)
  rw [this, hs]
  simp only [Int.toNat_natCast, Nat.mul_one]
  congr 4
  apply Array.ext'
  simp [madeCells, U8, Value.cells]
  apply List.ext_getElem
  · simp
  · intro j h1 h2; simp [Nat.mod_one]
theorem neg64 (a : Nat) (w : World) (h0 : 0 < a) (h : a < 18446744073709551616) : (Op.unary .neg (.int .u64 a)).run Tryd.prog w = .ok (.int .u64 ((18446744073709551616 - a : Nat) : Int)) w := by
  have e : IntKind.u64.wrap (-(a : Int)) = ((18446744073709551616 - a : Nat) : Int) := by simp [IntKind.wrap, IntKind.signed, IntKind.bits]; omega
  go_simp
theorem ixB (g o n cap j : Nat) (h : j < n) (w : World) : (Instr.indexAt 24 (.slice (some ⟨g, o, none⟩) n cap) (.int .i64 j)).run Tryd.prog w = .ok (.pointer (some ⟨g, o + j, none⟩)) w := by
  have h2 : (j : Int) < n := by omega
  go_simp
theorem slB8 (k : IntKind) (b m j : Nat) (h : j + 8 = m) (w : World) : (Instr.sliceAt 24 (.slice (some ⟨b, 0, none⟩) m m) (some (.int k j)) none none).run Tryd.prog w = .ok (.slice (some ⟨b, j, none⟩) 8 8) w := by
  subst h
  have h1 : (j : Int) ≤ (j + 8 : Nat) := by omega
  have h3 : j ≤ j + 8 := by omega
  have h5 : ¬ j + 8 = j := by omega
  have h6 : ¬ j + 8 - j = 0 := by omega
  have h7 : j + 8 - j = 8 := by omega
  simp [Instr.sliceAt, Instr.slice, go_sem, Tryd.underlying24, h1, h3, h5, h6, h7]
  try (intro h; omega)
theorem slB (k : IntKind) (b m j : Nat) (h : j < m) (w : World) : (Instr.sliceAt 24 (.slice (some ⟨b, 0, none⟩) m m) (some (.int k j)) none none).run Tryd.prog w = .ok (.slice (some ⟨b, j, none⟩) (m - j) (m - j)) w := by
  have h1 : (j : Int) ≤ m := by omega
  have h3 : j ≤ m := by omega
  have h5 : ¬ m = j := by omega
  have h6 : ¬ m - j = 0 := by omega
  simp [Instr.sliceAt, Instr.slice, go_sem, Tryd.underlying24, h1, h3, h5, h6]
/-- How many noughts, and what is put behind n bytes. -/
def nou (n : Nat) : Nat := (18446744073709551616 - (n + 9)) % 64
def enL (n : Nat) : Nat → List Nat
  | 0 => (List.replicate (nou n + 9) 0).set 0 128
  | i + 1 => (enL n i).set (nou n + 9 - 1 - i) ((n * 8) >>> (8 * i) % 256)
def ending (n : Nat) : List Nat := enL n 8
theorem BB_rep (m : Nat) : BB m (List.replicate m 0) := ⟨by simp, fun j => by
  simp only [List.getD_eq_getElem?_getD, List.getElem?_replicate]; split <;> decide⟩
theorem enL_B (n : Nat) : ∀ i, BB (nou n + 9) (enL n i)
  | 0 => (BB_rep _).set _ _ (by decide)
  | i + 1 => (enL_B n i).set _ _ (Nat.mod_lt _ (by decide))
end Go.Proofs.YtlcjbnhfmcnnfaaDoor
