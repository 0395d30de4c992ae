/- Cast: many nodes in memory: rows that grow, what lies where. -/
import Derived.Test.YthncmahhnbpbkaaKP3
import Derived.Test.YthncmahhnbpbkaaKB4
namespace Go.Proofs.Ythncmahhnbpbkaa
open Go.RowKit
set_option linter.unusedVariables false
set_option linter.unusedSimpArgs false
abbrev nilS : Value := .slice none 0 0
/-- m things of sz cells each, in a row of one's own, or none. -/
def OR (lo sz m : Nat) (xs : List Value) (b : Nat) (u : World) (v : Value) : Prop := xs.length = m * sz ∧ ((m = 0 ∧ v = nilS) ∨ (v ≠ nilS ∧ lo ≤ b ∧ ∃ co zs, v = .slice (some ⟨b, 0, none⟩) m co ∧ b < u.heap.size ∧ m ≤ co ∧ zs.length = (co - m) * sz ∧ CV u b (xs ++ zs)))
theorem OR.up {lo sz m b : Nat} {xs : List Value} {u u2 : World} {v : Value} (h : OR lo sz m xs b u v) (hb : v ≠ nilS → b < u.heap.size → u2.heap[b]? = u.heap[b]?) (hs : u.heap.size ≤ u2.heap.size) : OR lo sz m xs b u2 v := by
  obtain ⟨h1, h3⟩ := h
  refine ⟨h1, h3.imp id ?_⟩
  rintro ⟨h0, h2, co, zs, e, g1, g2, g3, g4⟩
  refine ⟨h0, h2, co, zs, e, Nat.lt_of_lt_of_le g1 hs, g2, g3, fun j w hj => ?_⟩
  have e := hb h0 g1
  rw [World.cell?_of_block (a := ⟨b, j, none⟩) e, World.frozen?_of_block (a := ⟨b, j, none⟩) e]
  exact g4 j w hj
theorem OR.lt {lo sz m b : Nat} {xs : List Value} {u : World} {v : Value} (h : OR lo sz m xs b u v) (hv : v ≠ nilS) : lo ≤ b ∧ b < u.heap.size := by
  rcases h.2 with ⟨_, e⟩ | ⟨_, h2, _, _, _, h3, _⟩
  · exact absurd e hv
  · exact ⟨h2, h3⟩
theorem OR.sl {lo sz m b : Nat} {xs : List Value} {u : World} {v : Value} (h : OR lo sz m xs b u v) : ∃ sl c, v = .slice sl m c ∧ m ≤ c ∧ (0 < m → sl = some ⟨b, 0, none⟩ ∧ lo ≤ b ∧ b < u.heap.size ∧ CV u b xs) := by
  rcases h.2 with ⟨h1, h2⟩ | ⟨_, h2, co, zs, e, g1, g2, g3, g4⟩
  · exact ⟨none, 0, by rw [h2, h1], by omega, fun h => by omega⟩
  · exact ⟨_, co, e, g2, fun _ => ⟨rfl, h2, g1, g4.pre⟩⟩
/-- One more, out of a slice of one thing. -/
theorem app_or {u : World} {lo sz bt m b : Nat} {xs news : List Value} {v z y : Value} {T E ty : TypeId} (ht : Try.prog.underlying T = some (.slice E)) (hi : (Try.prog.info? E).map (fun i => (i.zero, i.size, i.bytes)) = some (some z, sz, bt)) (hz : z.cells.size = sz) (hbt : bt ≤ 1000) (h : OR lo sz m xs b u v) (hlo : lo ≤ u.heap.size) (hl : m ≤ 100000) (hn : news.length = sz) (h1 : ∀ v ∈ news, v.oneCell' = true) (hy : NW 1 news u y) :
    ∃ v' u' b', (Builtin.append_ #[T, T] ty #[v, y]).run Try.prog u = .ok v' u' ∧ OR lo sz (m + 1) (xs ++ news) b' u' v' ∧ v' ≠ nilS ∧ ((v = nilS ∧ Below u.heap.size u u' ∧ u.heap.size ≤ b') ∨ (v ≠ nilS ∧ u.grownBy u' (some b) ∧ (b' = b ∨ u.heap.size ≤ b'))) := by
  obtain ⟨ti, hti, htm⟩ := Option.map_eq_some_iff.1 hi
  simp only [Prod.mk.injEq] at htm
  obtain ⟨hzv, hsz, hby⟩ := htm
  have hmb : (m + 1) * bt ≤ 101000000 := Nat.le_trans (Nat.mul_le_mul (show m + 1 ≤ 101000 by omega) hbt) (by decide)
  obtain ⟨h0, h3⟩ := h
  have hxl : (xs ++ news).length = (m + 1) * sz := by rw [List.length_append, hn, h0, Nat.add_mul, Nat.one_mul]
  rcases h3 with ⟨rfl, rfl⟩ | ⟨hv, h2, co, zs, rfl, g1, g2, g3, g4⟩
  · obtain rfl : xs = [] := List.eq_nil_of_length_eq_zero (by simpa using h0)
    obtain ⟨sl, c, rfl, hy2⟩ := hy
    obtain ⟨ad, rfl, hy3⟩ := hy2.resolve_left (by omega)
    obtain ⟨v', w', hr, hB, b', cap, zs, rfl, k1, k2, k3, k4, k5⟩ := run_append_full (P := Try.prog) u (ty := ty) ht hti hzv (by rw [hsz]; exact hz) (lo := u.heap.size) (n := 0) (xs := []) (news := news) (v := nilS) ⟨by simp, .inl ⟨rfl, rfl⟩⟩ (ad := ad) (c := c) (by rw [hsz]; exact hn) hy3 (Nat.le_refl _) (by rw [hby]; omega) (by omega)
    rw [hsz] at k4
    exact ⟨_, w', b', hr, ⟨hxl, .inr ⟨by simp, by omega, cap, zs, rfl, k2, k3, by rw [k4], k5⟩⟩, by simp, .inl ⟨rfl, hB, k1⟩⟩
  · obtain ⟨v', u', hr, hg, b', cap, zs', rfl, k1, k2, k3, k4, k5⟩ := run_app (P := Try.prog) u (ty := ty) ht hti hzv (by rw [hsz]; exact hz) (base := u.heap.size) (n := m) (cap := co) (m := 1) (news := news) (y := y) g4 g1 (by rw [hsz]; exact h0) (by rw [hsz]; exact g3) g2 (Nat.le_refl _) hy (by rw [hsz, hn, Nat.one_mul]) h1 (by rw [hby]; omega) (by omega)
    rw [hsz] at k4
    exact ⟨_, u', b', hr, ⟨hxl, .inr ⟨by simp, by omega, cap, zs', rfl, k2, k3, k4, k5⟩⟩, by simp, .inr ⟨hv, hg, k1⟩⟩
/-- Nothing has changed but these. -/
structure Ex (A : Nat → Prop) (w u : World) : Prop where
  os : u.os = w.os
  tape : u.tape = w.tape
  output : u.output = w.output
  size : w.heap.size ≤ u.heap.size
  block : ∀ k, k < w.heap.size → ¬ A k → u.heap[k]? = w.heap[k]?
theorem Ex.refl (A : Nat → Prop) (w : World) : Ex A w w := ⟨rfl, rfl, rfl, Nat.le_refl _, fun _ _ _ => rfl⟩
theorem Ex.trans {A : Nat → Prop} {a b c : World} (h : Ex A a b) (k : Ex A b c) : Ex A a c := ⟨k.os.trans h.os, k.tape.trans h.tape, k.output.trans h.output, Nat.le_trans h.size k.size, fun j hj hh => (k.block j (Nat.lt_of_lt_of_le hj h.size) hh).trans (h.block j hj hh)⟩
theorem Ex.wide {A B : Nat → Prop} {a b : World} (h : Ex A a b) (hh : ∀ k, A k → B k) : Ex B a b := ⟨h.os, h.tape, h.output, h.size, fun k hk hb => h.block k hk fun ha => hb (hh k ha)⟩
theorem Ex.of_bel {A : Nat → Prop} {a b : World} (h : Below a.heap.size a b) : Ex A a b := ⟨h.os, h.tape, h.output, h.size, fun k hk _ => h.block k hk⟩
theorem Ex.of_grown {A : Nat → Prop} {a b : World} {r : Nat} (h : a.grownBy b (some r)) (ha : A r) : Ex A a b := ⟨h.os, h.tape, h.output, h.size, fun k hk hb => h.block k hk fun e => hb (by cases e; exact ha)⟩
theorem Ex.of_kp {A : Nat → Prop} {a b : World} {lo hi : Nat} (h : Kp lo hi a b) (ha : ∀ k, lo ≤ k → k < hi → A k) : Ex A a b := ⟨h.os, h.tape, h.output, h.size, fun k hk hb => h.block k hk (by
  by_cases h1 : k < lo
  · exact .inl h1
  · by_cases h2 : hi ≤ k
    · exact .inr h2
    · exact absurd (ha k (by omega) (by omega)) hb)⟩
theorem Ex.cell {A : Nat → Prop} {a b : World} (h : Ex A a b) {p : Addr} (hp : A p.block) (v : Value) : Ex A a (b.setCell p v) := by
  have hb : Below (min p.block b.heap.size) b (b.setCell p v) := (Below.refl _ _).setCell (Nat.min_le_left _ _) v
  exact h.trans ⟨hb.os, hb.tape, hb.output, hb.size, fun k hk hh => Below.heap_setCell b p v k (fun e => hh (e ▸ hp))⟩
theorem Ex.bel {A : Nat → Prop} {a b : World} {lo : Nat} (h : Ex A a b) (ha : ∀ k, A k → lo ≤ k) (hl : lo ≤ a.heap.size) : Below lo a b := ⟨h.os, h.tape, h.output, h.size, fun k hk => h.block k (by omega) fun hh => by have := ha k hh; omega⟩
theorem CV.ex {A : Nat → Prop} {a b : World} {n : Nat} {l : List Value} (h : CV a n l) (hk : Ex A a b) (hn : n < a.heap.size) (hh : ¬ A n) : CV b n l := fun j v hj => by
  have e := hk.block n hn hh
  rw [World.cell?_of_block (a := ⟨n, j, none⟩) e, World.frozen?_of_block (a := ⟨n, j, none⟩) e]
  exact h j v hj
theorem NM.ex {A : Nat → Prop} {a b : World} {s : Nat} {x : Nd} (h : NM a s x) (hk : Ex A a b) (hh : ∀ k, s ≤ k → k < s + 7 → ¬ A k) : NM b s x :=
  ⟨h.c.ex hk (h.c.lt (by simp)) (hh _ (by omega) (by omega)), h.h1.same (hk.block _ h.h1.lt (hh _ (by omega) (by omega))), h.m1.same (hk.block _ h.m1.lt (hh _ (by omega) (by omega))), h.h2.same (hk.block _ h.h2.lt (hh _ (by omega) (by omega))), h.m2.same (hk.block _ h.m2.lt (hh _ (by omega) (by omega)))⟩
abbrev mC (m : Mg) : List Value := [.int .i64 m.1, .int .i64 m.2.1, .string m.2.2]
abbrev pW (wb : Nat) : Value := .pointer (some ⟨wb, 0, none⟩)
abbrev wC (n t bad nb cn sb : Nat) (vt vm : Value) : List Value := [.int .i64 n, .int .i64 t, .int .i64 bad, .slice (some ⟨nb, 0, none⟩) n cn, vt, vm, .slice (some ⟨sb, 0, none⟩) (2 * n + 2) (2 * n + 2)]
/-- Where things lie: the world's cells, its nodes' row, how many each sent, the nodes. -/
structure Pl where
  lo : Nat
  wb : Nat
  nb : Nat
  cn : Nat
  sb : Nat
  bs : Nat → Nat
/-- A block that is none of the world's own. -/
def Pl.off (p : Pl) (n k : Nat) : Prop := k ≠ p.wb ∧ k ≠ p.nb ∧ k ≠ p.sb ∧ ∀ i, 1 ≤ i → i ≤ n → k < p.bs i ∨ p.bs i + 7 ≤ k
/-- They lie apart. -/
structure Pl.ok (p : Pl) (n : Nat) (u : World) : Prop where
  w1 : p.lo ≤ p.wb ∧ p.wb < u.heap.size
  n1 : p.lo ≤ p.nb ∧ p.nb < u.heap.size
  s1 : p.lo ≤ p.sb ∧ p.sb < u.heap.size
  b1 : ∀ i, 1 ≤ i → i ≤ n → p.lo ≤ p.bs i ∧ p.bs i + 7 ≤ u.heap.size
  d1 : p.wb ≠ p.nb ∧ p.wb ≠ p.sb ∧ p.nb ≠ p.sb
  d2 : ∀ i, 1 ≤ i → i ≤ n → (p.wb < p.bs i ∨ p.bs i + 7 ≤ p.wb) ∧ (p.nb < p.bs i ∨ p.bs i + 7 ≤ p.nb) ∧ (p.sb < p.bs i ∨ p.bs i + 7 ≤ p.sb)
  d3 : ∀ i j, 1 ≤ i → i ≤ n → 1 ≤ j → j ≤ n → i ≠ j → p.bs i + 7 ≤ p.bs j ∨ p.bs j + 7 ≤ p.bs i
  c1 : n ≤ p.cn
/-- The world in memory. -/
structure WQ (p : Pl) (t bad n : Nat) (tb mb : Nat) (vt vm : Value) (u : World) (W : Wd) : Prop where
  ok : p.ok n u
  cw : CV u p.wb (wC n t bad p.nb p.cn p.sb vt vm)
  nr : ∀ j, j < n → u.cell? ⟨p.nb, j, none⟩ = some (pN (p.bs (j + 1)))
  sr : ∀ j, j < 2 * n + 2 → u.cell? ⟨p.sb, j, none⟩ = some (.int .i64 (W.sent j)) ∧ u.frozen? ⟨p.sb, j, none⟩ = false
  ot : OR p.lo 1 W.wait.length (W.wait.map fun q => Value.int .i64 (q.1 : Int)) tb u vt
  om : OR p.lo 3 W.wait.length (W.wait.flatMap fun q => mC q.2) mb u vm
  nm : ∀ i, 1 ≤ i → i ≤ n → NM u (p.bs i) (W.nd i)
  dt : vt ≠ nilS → p.off n tb
  dm : vm ≠ nilS → p.off n mb
  tm : vt ≠ nilS → vm ≠ nilS → tb ≠ mb
def WM (p : Pl) (t bad n : Nat) (u : World) (W : Wd) : Prop := ∃ tb mb vt vm, WQ p t bad n tb mb vt vm u W
/-- Nothing of the world has changed. -/
theorem WQ.ex {p : Pl} {t bad n tb mb : Nat} {vt vm : Value} {u u2 : World} {W : Wd} {A : Nat → Prop} (h : WQ p t bad n tb mb vt vm u W) (hk : Ex A u u2) (hA : ∀ k, A k → k < u.heap.size → p.off n k ∧ (vt ≠ nilS → k ≠ tb) ∧ (vm ≠ nilS → k ≠ mb)) : WQ p t bad n tb mb vt vm u2 W := by
  have h1 : ∀ k, k < u.heap.size → ¬ p.off n k → ¬ A k := fun k hk' h2 h3 => h2 (hA k h3 hk').1
  have ow : ¬ A p.wb := h1 _ h.ok.w1.2 fun o => o.1 rfl
  have on : ¬ A p.nb := h1 _ h.ok.n1.2 fun o => o.2.1 rfl
  have os : ¬ A p.sb := h1 _ h.ok.s1.2 fun o => o.2.2.1 rfl
  have hs := hk.size
  refine ⟨⟨⟨h.ok.w1.1, by have := h.ok.w1.2; omega⟩, ⟨h.ok.n1.1, by have := h.ok.n1.2; omega⟩, ⟨h.ok.s1.1, by have := h.ok.s1.2; omega⟩, fun i i1 i2 => ⟨(h.ok.b1 i i1 i2).1, by have := (h.ok.b1 i i1 i2).2; omega⟩, h.ok.d1, h.ok.d2, h.ok.d3, h.ok.c1⟩, h.cw.ex hk h.ok.w1.2 ow, fun j hj => ?_, fun j hj => ?_, h.ot.up (fun hv hb => hk.block _ hb fun ha => (hA _ ha hb).2.1 hv rfl) hs, h.om.up (fun hv hb => hk.block _ hb fun ha => (hA _ ha hb).2.2 hv rfl) hs, fun i i1 i2 => (h.nm i i1 i2).ex hk fun k k1 k2 => h1 k (by have := (h.ok.b1 i i1 i2).2; omega) fun o => by have := o.2.2.2 i i1 i2; omega, h.dt, h.dm, h.tm⟩
  · rw [World.cell?_of_block (w := u) (hk.block _ h.ok.n1.2 on)]; exact h.nr j hj
  · have e := hk.block _ h.ok.s1.2 os
    rw [World.cell?_of_block (w := u) e, World.frozen?_of_block (w := u) e]; exact h.sr j hj
end Go.Proofs.Ythncmahhnbpbkaa
