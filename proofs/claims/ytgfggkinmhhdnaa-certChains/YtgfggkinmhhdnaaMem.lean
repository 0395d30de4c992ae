/- Small facts on words that lie in a block of their own. -/
import Derived.WalkKit
import Derived.WalkSmall
import Derived.Handy
namespace Go.Proofs.Ytgfggkinmhhdnaa
open Go.RowKit
/-- Four words in a block. -/
def C4 (w : World) (n : Nat) (p q r s : Int) : Prop :=
  (w.cell? ⟨n, 0, none⟩ = some (.int .u64 p) ∧ w.cell? ⟨n, 1, none⟩ = some (.int .u64 q) ∧ w.cell? ⟨n, 2, none⟩ = some (.int .u64 r) ∧ w.cell? ⟨n, 3, none⟩ = some (.int .u64 s)) ∧
  (w.frozen? ⟨n, 0, none⟩ = false ∧ w.frozen? ⟨n, 1, none⟩ = false ∧ w.frozen? ⟨n, 2, none⟩ = false ∧ w.frozen? ⟨n, 3, none⟩ = false)
theorem C4.below {w w' : World} {m n : Nat} {p q r s : Int} (h : C4 w n p q r s) (hb : Below m w w') (hn : n < m) : C4 w' n p q r s := by
  unfold C4 at *
  rw [hb.cell (p := ⟨n, 0, none⟩) hn, hb.cell (p := ⟨n, 1, none⟩) hn, hb.cell (p := ⟨n, 2, none⟩) hn, hb.cell (p := ⟨n, 3, none⟩) hn,
    hb.frozen (p := ⟨n, 0, none⟩) hn, hb.frozen (p := ⟨n, 1, none⟩) hn, hb.frozen (p := ⟨n, 2, none⟩) hn, hb.frozen (p := ⟨n, 3, none⟩) hn]
  exact h
theorem C4.drewN {w : World} {n : Nat} {p q r s : Int} (h : C4 w n p q r s) (k : Nat) : C4 (w.drewN k) n p q r s := h
theorem C4.drew {w : World} {n : Nat} {p q r s : Int} (h : C4 w n p q r s) : C4 w.drew n p q r s := h
theorem C4.alloc {w : World} {n : Nat} {p q r s : Int} (h : C4 w n p q r s) (hn : n < w.heap.size) (o : Obj) : C4 (w.alloc o) n p q r s :=
  h.below (m := w.heap.size) ((Below.refl _ _).alloc (Nat.le_refl _) o) hn
theorem C4.new (w : World) (p q r s : Int) (t : TypeId) : C4 (w.alloc (.cells #[.int .u64 p, .int .u64 q, .int .u64 r, .int .u64 s] t)) w.heap.size p q r s := by
  unfold C4; simp [go_sem]
theorem C4.other {w : World} {n : Nat} {p q r s : Int} (h : C4 w n p q r s) (a : Addr) (ha : n ≠ a.block) (v : Value) : C4 (w.setCell a v) n p q r s := by
  have hb : (w.setCell a v).heap[n]? = w.heap[n]? := Below.heap_setCell w a v n ha
  have c : ∀ o, (w.setCell a v).cell? ⟨n, o, none⟩ = w.cell? ⟨n, o, none⟩ := fun o => World.cell?_of_block (w := w) hb
  have f : ∀ o, (w.setCell a v).frozen? ⟨n, o, none⟩ = w.frozen? ⟨n, o, none⟩ := fun o => World.frozen?_of_block (w := w) hb
  unfold C4 at *
  rw [c, c, c, c, f, f, f, f]
  exact h
theorem C4.set0 {w : World} {n : Nat} {p q r s : Int} (h : C4 w n p q r s) (v : Int) : C4 (w.setCell ⟨n, 0, none⟩ (.int .u64 v)) n v q r s := by
  obtain ⟨⟨h1, h2, h3, h4⟩, h5, h6, h7, h8⟩ := h
  unfold C4; simp [go_sem, *]
theorem C4.set1 {w : World} {n : Nat} {p q r s : Int} (h : C4 w n p q r s) (v : Int) : C4 (w.setCell ⟨n, 1, none⟩ (.int .u64 v)) n p v r s := by
  obtain ⟨⟨h1, h2, h3, h4⟩, h5, h6, h7, h8⟩ := h
  unfold C4; simp [go_sem, *]
theorem C4.set2 {w : World} {n : Nat} {p q r s : Int} (h : C4 w n p q r s) (v : Int) : C4 (w.setCell ⟨n, 2, none⟩ (.int .u64 v)) n p q v s := by
  obtain ⟨⟨h1, h2, h3, h4⟩, h5, h6, h7, h8⟩ := h
  unfold C4; simp [go_sem, *]
theorem C4.set3 {w : World} {n : Nat} {p q r s : Int} (h : C4 w n p q r s) (v : Int) : C4 (w.setCell ⟨n, 3, none⟩ (.int .u64 v)) n p q r v := by
  obtain ⟨⟨h1, h2, h3, h4⟩, h5, h6, h7, h8⟩ := h
  unfold C4; simp [go_sem, *]
theorem bstep {w v v' : World} (h : Below w.heap.size w v) (k : Below v.heap.size v v') : Below w.heap.size w v' := h.trans (k.mono h.size)
theorem balloc {w v : World} (h : Below w.heap.size w v) (o : Obj) : Below w.heap.size w (v.alloc o) := h.alloc h.size o
theorem bself (w : World) : Below w.heap.size w w := Below.refl _ _
theorem bcell {W w1 : World} (hb : Below W.heap.size W w1) : (∀ b o, b < W.heap.size → w1.cell? ⟨b, o, none⟩ = W.cell? ⟨b, o, none⟩) ∧ (∀ b o, b < W.heap.size → w1.frozen? ⟨b, o, none⟩ = W.frozen? ⟨b, o, none⟩) ∧ W.heap.size ≤ w1.heap.size :=
  ⟨fun b o h => hb.cell (p := ⟨b, o, none⟩) h, fun b o h => hb.frozen (p := ⟨b, o, none⟩) h, hb.size⟩
/-- Four words that are read alone. -/
abbrev K4 (w : World) (n : Nat) (p q r s : Int) : Prop :=
  w.cell? ⟨n, 0, none⟩ = some (.int .u64 p) ∧ w.cell? ⟨n, 1, none⟩ = some (.int .u64 q) ∧ w.cell? ⟨n, 2, none⟩ = some (.int .u64 r) ∧ w.cell? ⟨n, 3, none⟩ = some (.int .u64 s)
theorem K4.below {w w' : World} {m n : Nat} {p q r s : Int} (h : K4 w n p q r s) (hb : Below m w w') (hn : n < m) : K4 w' n p q r s := by
  unfold K4 at *
  rw [hb.cell (p := ⟨n, 0, none⟩) hn, hb.cell (p := ⟨n, 1, none⟩) hn, hb.cell (p := ⟨n, 2, none⟩) hn, hb.cell (p := ⟨n, 3, none⟩) hn]
  exact h
theorem keep1 {u u1 : World} {n0 m : Nat} {p0 q0 r0 s0 : Int} (hB : Below u.heap.size u u1) (l0 : n0 ≤ m) (h : K4 u n0 p0 q0 r0 s0 ∧ m < u.heap.size) : K4 u1 n0 p0 q0 r0 s0 ∧ m < u1.heap.size := by
  obtain ⟨h0, hm⟩ := h
  have hs := hB.size
  exact ⟨h0.below hB (by omega), by omega⟩
theorem keep2 {u u1 : World} {n0 n1 m : Nat} {p0 q0 r0 s0 p1 q1 r1 s1 : Int} (hB : Below u.heap.size u u1) (l0 : n0 ≤ m) (l1 : n1 ≤ m) (h : K4 u n0 p0 q0 r0 s0 ∧ K4 u n1 p1 q1 r1 s1 ∧ m < u.heap.size) : K4 u1 n0 p0 q0 r0 s0 ∧ K4 u1 n1 p1 q1 r1 s1 ∧ m < u1.heap.size := by
  obtain ⟨h0, h1, hm⟩ := h
  have hs := hB.size
  exact ⟨h0.below hB (by omega), h1.below hB (by omega), by omega⟩
theorem keep3 {u u1 : World} {n0 n1 n2 m : Nat} {p0 q0 r0 s0 p1 q1 r1 s1 p2 q2 r2 s2 : Int} (hB : Below u.heap.size u u1) (l0 : n0 ≤ m) (l1 : n1 ≤ m) (l2 : n2 ≤ m) (h : K4 u n0 p0 q0 r0 s0 ∧ K4 u n1 p1 q1 r1 s1 ∧ K4 u n2 p2 q2 r2 s2 ∧ m < u.heap.size) : K4 u1 n0 p0 q0 r0 s0 ∧ K4 u1 n1 p1 q1 r1 s1 ∧ K4 u1 n2 p2 q2 r2 s2 ∧ m < u1.heap.size := by
  obtain ⟨h0, h1, h2, hm⟩ := h
  have hs := hB.size
  exact ⟨h0.below hB (by omega), h1.below hB (by omega), h2.below hB (by omega), by omega⟩
theorem keep4 {u u1 : World} {n0 n1 n2 n3 m : Nat} {p0 q0 r0 s0 p1 q1 r1 s1 p2 q2 r2 s2 p3 q3 r3 s3 : Int} (hB : Below u.heap.size u u1) (l0 : n0 ≤ m) (l1 : n1 ≤ m) (l2 : n2 ≤ m) (l3 : n3 ≤ m) (h : K4 u n0 p0 q0 r0 s0 ∧ K4 u n1 p1 q1 r1 s1 ∧ K4 u n2 p2 q2 r2 s2 ∧ K4 u n3 p3 q3 r3 s3 ∧ m < u.heap.size) : K4 u1 n0 p0 q0 r0 s0 ∧ K4 u1 n1 p1 q1 r1 s1 ∧ K4 u1 n2 p2 q2 r2 s2 ∧ K4 u1 n3 p3 q3 r3 s3 ∧ m < u1.heap.size := by
  obtain ⟨h0, h1, h2, h3, hm⟩ := h
  have hs := hB.size
  exact ⟨h0.below hB (by omega), h1.below hB (by omega), h2.below hB (by omega), h3.below hB (by omega), by omega⟩
theorem keep5 {u u1 : World} {n0 n1 n2 n3 n4 m : Nat} {p0 q0 r0 s0 p1 q1 r1 s1 p2 q2 r2 s2 p3 q3 r3 s3 p4 q4 r4 s4 : Int} (hB : Below u.heap.size u u1) (l0 : n0 ≤ m) (l1 : n1 ≤ m) (l2 : n2 ≤ m) (l3 : n3 ≤ m) (l4 : n4 ≤ m) (h : K4 u n0 p0 q0 r0 s0 ∧ K4 u n1 p1 q1 r1 s1 ∧ K4 u n2 p2 q2 r2 s2 ∧ K4 u n3 p3 q3 r3 s3 ∧ K4 u n4 p4 q4 r4 s4 ∧ m < u.heap.size) : K4 u1 n0 p0 q0 r0 s0 ∧ K4 u1 n1 p1 q1 r1 s1 ∧ K4 u1 n2 p2 q2 r2 s2 ∧ K4 u1 n3 p3 q3 r3 s3 ∧ K4 u1 n4 p4 q4 r4 s4 ∧ m < u1.heap.size := by
  obtain ⟨h0, h1, h2, h3, h4, hm⟩ := h
  have hs := hB.size
  exact ⟨h0.below hB (by omega), h1.below hB (by omega), h2.below hB (by omega), h3.below hB (by omega), h4.below hB (by omega), by omega⟩
theorem keep6 {u u1 : World} {n0 n1 n2 n3 n4 n5 m : Nat} {p0 q0 r0 s0 p1 q1 r1 s1 p2 q2 r2 s2 p3 q3 r3 s3 p4 q4 r4 s4 p5 q5 r5 s5 : Int} (hB : Below u.heap.size u u1) (l0 : n0 ≤ m) (l1 : n1 ≤ m) (l2 : n2 ≤ m) (l3 : n3 ≤ m) (l4 : n4 ≤ m) (l5 : n5 ≤ m) (h : K4 u n0 p0 q0 r0 s0 ∧ K4 u n1 p1 q1 r1 s1 ∧ K4 u n2 p2 q2 r2 s2 ∧ K4 u n3 p3 q3 r3 s3 ∧ K4 u n4 p4 q4 r4 s4 ∧ K4 u n5 p5 q5 r5 s5 ∧ m < u.heap.size) : K4 u1 n0 p0 q0 r0 s0 ∧ K4 u1 n1 p1 q1 r1 s1 ∧ K4 u1 n2 p2 q2 r2 s2 ∧ K4 u1 n3 p3 q3 r3 s3 ∧ K4 u1 n4 p4 q4 r4 s4 ∧ K4 u1 n5 p5 q5 r5 s5 ∧ m < u1.heap.size := by
  obtain ⟨h0, h1, h2, h3, h4, h5, hm⟩ := h
  have hs := hB.size
  exact ⟨h0.below hB (by omega), h1.below hB (by omega), h2.below hB (by omega), h3.below hB (by omega), h4.below hB (by omega), h5.below hB (by omega), by omega⟩
theorem keep7 {u u1 : World} {n0 n1 n2 n3 n4 n5 n6 m : Nat} {p0 q0 r0 s0 p1 q1 r1 s1 p2 q2 r2 s2 p3 q3 r3 s3 p4 q4 r4 s4 p5 q5 r5 s5 p6 q6 r6 s6 : Int} (hB : Below u.heap.size u u1) (l0 : n0 ≤ m) (l1 : n1 ≤ m) (l2 : n2 ≤ m) (l3 : n3 ≤ m) (l4 : n4 ≤ m) (l5 : n5 ≤ m) (l6 : n6 ≤ m) (h : K4 u n0 p0 q0 r0 s0 ∧ K4 u n1 p1 q1 r1 s1 ∧ K4 u n2 p2 q2 r2 s2 ∧ K4 u n3 p3 q3 r3 s3 ∧ K4 u n4 p4 q4 r4 s4 ∧ K4 u n5 p5 q5 r5 s5 ∧ K4 u n6 p6 q6 r6 s6 ∧ m < u.heap.size) : K4 u1 n0 p0 q0 r0 s0 ∧ K4 u1 n1 p1 q1 r1 s1 ∧ K4 u1 n2 p2 q2 r2 s2 ∧ K4 u1 n3 p3 q3 r3 s3 ∧ K4 u1 n4 p4 q4 r4 s4 ∧ K4 u1 n5 p5 q5 r5 s5 ∧ K4 u1 n6 p6 q6 r6 s6 ∧ m < u1.heap.size := by
  obtain ⟨h0, h1, h2, h3, h4, h5, h6, hm⟩ := h
  have hs := hB.size
  exact ⟨h0.below hB (by omega), h1.below hB (by omega), h2.below hB (by omega), h3.below hB (by omega), h4.below hB (by omega), h5.below hB (by omega), h6.below hB (by omega), by omega⟩
end Go.Proofs.Ytgfggkinmhhdnaa
