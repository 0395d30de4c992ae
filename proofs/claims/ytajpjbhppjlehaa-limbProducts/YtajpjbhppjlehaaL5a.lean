/- What LimbProducts calls, in its words. -/
import Derived.Test.YtajpjbhppjlehaaL0
import Derived.Test.YtajpjbhppjlehaaY1
namespace Go.Proofs.Ytajpjbhppjlehaa
open Go.RowKit
set_option linter.unusedSimpArgs false
set_option linter.unusedVariables false
set_option maxRecDepth 100000 in
set_option maxHeartbeats 1000000 in
theorem rDivide_0 (a b c d e f g h : Int) (w : World) :
    Calls Try.prog 19 #[A8 a b c d e f g h, A4 0 0 0 0] w fun en w' => en = .returned (.tuple #[A8 0 0 0 0 0 0 0 0, A4 0 0 0 0, .int .i64 10]) ∧ Below w.heap.size w w' := by
  go_enter Try.func19, Try.ntmps19
  go_wp2
  refine bodyPost_ret (v := .tuple #[A8 0 0 0 0 0 0 0 0, A4 0 0 0 0, .int .i64 10]) (by simp [results, Try.results19, go_sem]) rfl ⟨rfl, ?_⟩
  repeat' (first | (with_reducible exact Below.refl _ _) | (with_reducible assumption) | (with_reducible refine below_drewN ?_ _) | (with_reducible refine Below.drew ?_) | (with_reducible refine Below.setCell ?_ ?_ _) | (with_reducible refine Below.alloc ?_ ?_ _) | go_size)
theorem div_both (a b c d e f g h m0 m1 m2 m3 : Int) (ha : W64 a) (hb : W64 b) (hc : W64 c) (hd : W64 d) (he : W64 e) (hf : W64 f) (hg : W64 g) (hh : W64 h) (h0 : W64 m0) (h1 : W64 m1) (h2 : W64 m2) (h3 : W64 m3) :
    ∃ q0 q1 q2 q3 q4 q5 q6 q7 r0 r1 r2 r3 ec : Int,
      (∀ u, Calls Try.prog 18 #[A8 a b c d e f g h, A4 m0 m1 m2 m3] u fun en u' => en = .returned (.tuple #[A8 q0 q1 q2 q3 q4 q5 q6 q7, A4 r0 r1 r2 r3, .int .i64 ec]) ∧ Below u.heap.size u u') ∧
      (∀ u, Calls Try.prog 19 #[A8 a b c d e f g h, A4 m0 m1 m2 m3] u fun en u' => en = .returned (.tuple #[A8 q0 q1 q2 q3 q4 q5 q6 q7, A4 r0 r1 r2 r3, .int .i64 ec]) ∧ Below u.heap.size u u') := by
  by_cases hM : V m0 m1 m2 m3 = 0
  · have hz := (eq4_V m0 m1 m2 m3 0 0 0 0 h0 h1 h2 h3 W_0 W_0 W_0 W_0).2 hM
    rw [eq4_iff] at hz
    obtain ⟨rfl, rfl, rfl, rfl⟩ := hz
    exact ⟨0, 0, 0, 0, 0, 0, 0, 0, 0, 0, 0, 0, 10, fun u => Divide_0 a b c d e f g h u, fun u => rDivide_0 a b c d e f g h u⟩
  · exact ⟨_, _, _, _, _, _, _, _, _, _, _, _, _, fun u => Divide_1 a b c d e f g h m0 m1 m2 m3 u ha hb hc hd he hf hg hh h0 h1 h2 h3 hM, fun u => rDivide_1 a b c d e f g h m0 m1 m2 m3 u ha hb hc hd he hf hg hh h0 h1 h2 h3 hM⟩
theorem mul_both (a b c d x y z t : Int) (ha : W64 a) (hb : W64 b) (hc : W64 c) (hd : W64 d) (hx : W64 x) (hy : W64 y) (hz : W64 z) (ht : W64 t) :
    ∃ p0 p1 p2 p3 p4 p5 p6 p7 : Int,
      (∀ u, Calls Try.prog 20 #[A4 a b c d, A4 x y z t] u fun en u' => en = .returned (A8 p0 p1 p2 p3 p4 p5 p6 p7) ∧ Below u.heap.size u u') ∧
      (∀ u, Calls Try.prog 21 #[A4 a b c d, A4 x y z t] u fun en u' => en = .returned (A8 p0 p1 p2 p3 p4 p5 p6 p7) ∧ Below u.heap.size u u') :=
  ⟨_, _, _, _, _, _, _, _, fun u => Mul_any a b c d x y z t u ha hb hc hd hx hy hz ht, fun u => rMul_any a b c d x y z t u ha hb hc hd hx hy hz ht⟩
/-- Eight words that are read alone. -/
abbrev K8 (w : World) (n : Nat) (q0 q1 q2 q3 q4 q5 q6 q7 : Int) : Prop :=
  w.cell? ⟨n, 0, none⟩ = some (.int .u64 q0) ∧ w.cell? ⟨n, 1, none⟩ = some (.int .u64 q1) ∧ w.cell? ⟨n, 2, none⟩ = some (.int .u64 q2) ∧ w.cell? ⟨n, 3, none⟩ = some (.int .u64 q3) ∧ w.cell? ⟨n, 4, none⟩ = some (.int .u64 q4) ∧ w.cell? ⟨n, 5, none⟩ = some (.int .u64 q5) ∧ w.cell? ⟨n, 6, none⟩ = some (.int .u64 q6) ∧ w.cell? ⟨n, 7, none⟩ = some (.int .u64 q7)
theorem K8.below {w w' : World} {m n : Nat} {q0 q1 q2 q3 q4 q5 q6 q7 : Int} (h : K8 w n q0 q1 q2 q3 q4 q5 q6 q7) (hb : Below m w w') (hn : n < m) : K8 w' n q0 q1 q2 q3 q4 q5 q6 q7 := by
  unfold K8 at *
  rw [hb.cell (p := ⟨n, 0, none⟩) hn, hb.cell (p := ⟨n, 1, none⟩) hn, hb.cell (p := ⟨n, 2, none⟩) hn, hb.cell (p := ⟨n, 3, none⟩) hn, hb.cell (p := ⟨n, 4, none⟩) hn, hb.cell (p := ⟨n, 5, none⟩) hn, hb.cell (p := ⟨n, 6, none⟩) hn, hb.cell (p := ⟨n, 7, none⟩) hn]
  exact h
theorem keepP {u u1 : World} {n0 n1 n2 n3 n4 n5 m : Nat} {a b c d x y z t q0 q1 q2 q3 q4 q5 q6 q7 r0 r1 r2 r3 p0 p1 p2 p3 p4 p5 p6 p7 s0 s1 s2 s3 : Int} (hB : Below u.heap.size u u1) (l0 : n0 ≤ m) (l1 : n1 ≤ m) (l2 : n2 ≤ m) (l3 : n3 ≤ m) (l4 : n4 ≤ m) (l5 : n5 ≤ m)
    (h : K4 u n0 a b c d ∧ K4 u n1 x y z t ∧ K8 u n2 q0 q1 q2 q3 q4 q5 q6 q7 ∧ K4 u n3 r0 r1 r2 r3 ∧ K8 u n4 p0 p1 p2 p3 p4 p5 p6 p7 ∧ K4 u n5 s0 s1 s2 s3 ∧ m < u.heap.size) :
    K4 u1 n0 a b c d ∧ K4 u1 n1 x y z t ∧ K8 u1 n2 q0 q1 q2 q3 q4 q5 q6 q7 ∧ K4 u1 n3 r0 r1 r2 r3 ∧ K8 u1 n4 p0 p1 p2 p3 p4 p5 p6 p7 ∧ K4 u1 n5 s0 s1 s2 s3 ∧ m < u1.heap.size := by
  obtain ⟨h0, h1, h2, h3, h4, h5, hm⟩ := h
  have hs := hB.size
  exact ⟨h0.below hB (by omega), h1.below hB (by omega), h2.below hB (by omega), h3.below hB (by omega), h4.below hB (by omega), h5.below hB (by omega), by omega⟩
theorem K4_of {u : World} {n : Nat} {a b c d : Int} (h : CL u n [a, b, c, d]) : K4 u n a b c d := ⟨(h 0 _ rfl).1, (h 1 _ rfl).1, (h 2 _ rfl).1, (h 3 _ rfl).1⟩
theorem K8_of {u : World} {n : Nat} {q0 q1 q2 q3 q4 q5 q6 q7 : Int} (h : CL u n [q0, q1, q2, q3, q4, q5, q6, q7]) : K8 u n q0 q1 q2 q3 q4 q5 q6 q7 := ⟨(h 0 _ rfl).1, (h 1 _ rfl).1, (h 2 _ rfl).1, (h 3 _ rfl).1, (h 4 _ rfl).1, (h 5 _ rfl).1, (h 6 _ rfl).1, (h 7 _ rfl).1⟩
end Go.Proofs.Ytajpjbhppjlehaa
