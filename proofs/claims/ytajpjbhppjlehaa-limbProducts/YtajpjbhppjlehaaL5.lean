/- LimbProducts: the walk. -/
import Derived.Test.YtajpjbhppjlehaaL5a
import Derived.Test.YtajpjbhppjlehaaRM
namespace Go.Proofs.Ytajpjbhppjlehaa
open Go.RowKit
set_option linter.unusedSimpArgs false
set_option linter.unusedVariables false

set_option maxRecDepth 100000 in
set_option maxHeartbeats 8000000 in
theorem limbProducts_any (a b c d x y z t g0 g1 g2 g3 g4 g5 g6 g7 : Int) (w : World) (ha : W64 a) (hb : W64 b) (hc : W64 c) (hd : W64 d) (hx : W64 x) (hy : W64 y) (hz : W64 z) (ht : W64 t) (hg0 : W64 g0) (hg1 : W64 g1) (hg2 : W64 g2) (hg3 : W64 g3) (hg4 : W64 g4) (hg5 : W64 g5) (hg6 : W64 g6) (hg7 : W64 g7) :
    Calls Try.prog 4 #[A4 a b c d, A4 x y z t, A8 g0 g1 g2 g3 g4 g5 g6 g7] w fun e w' => e = .returned (.bool true) ∧ Below w.heap.size w w' := by
  obtain ⟨q0, q1, q2, q3, q4, q5, q6, q7, r0, r1, r2, r3, ec, div, rdiv⟩ := div_both g0 g1 g2 g3 g4 g5 g6 g7 a b c d hg0 hg1 hg2 hg3 hg4 hg5 hg6 hg7 ha hb hc hd
  obtain ⟨p0, p1, p2, p3, p4, p5, p6, p7, mul, rmul⟩ := mul_both a b c d x y z t ha hb hc hd hx hy hz ht
  go_enter Try.func4, Try.ntmps4
  go_wp2_with fail
  refine (div _).mono ?_
  rintro en v1 ⟨rfl, hB1⟩
  have s1 := hB1.size
  simp only [World.size_alloc] at s1
  have kA : CL v1 (w.heap.size) [a, b, c, d] := (((CL.new w [a, b, c, d] 24).alloc (by simp) _).alloc (by simp <;> omega) _).below hB1 (by simp <;> omega)
  have kX : CL v1 (w.heap.size + 1) [x, y, z, t] := ((CL.newAt (w.alloc _) [x, y, z, t] 24 _ (by simp)).alloc (by simp) _).below hB1 (by simp <;> omega)
  have kG : CL v1 (w.heap.size + 1 + 1) [g0, g1, g2, g3, g4, g5, g6, g7] := (CL.newAt ((w.alloc _).alloc _) [g0, g1, g2, g3, g4, g5, g6, g7] 29 _ (by simp)).below hB1 (by simp <;> omega)
  have b1 : Below w.heap.size w v1 := bstep (balloc (balloc (balloc (bself w) _) _) _) hB1
  clear hB1 div
  have ca0 := (kA 0 _ rfl).1
  have ca1 := (kA 1 _ rfl).1
  have ca2 := (kA 2 _ rfl).1
  have ca3 := (kA 3 _ rfl).1
  have cg0 := (kG 0 _ rfl).1
  have cg1 := (kG 1 _ rfl).1
  have cg2 := (kG 2 _ rfl).1
  have cg3 := (kG 3 _ rfl).1
  have cg4 := (kG 4 _ rfl).1
  have cg5 := (kG 5 _ rfl).1
  have cg6 := (kG 6 _ rfl).1
  have cg7 := (kG 7 _ rfl).1
  have la : w.heap.size < v1.heap.size := by omega
  have lg : w.heap.size + 1 + 1 < v1.heap.size := by omega
  have la2 : w.heap.size < v1.heap.size + 1 := by omega
  have lg2 : w.heap.size + 1 + 1 < v1.heap.size + 1 := by omega
  go_wp2_with fail
  refine (rdiv _).mono ?_
  rintro en v2 ⟨rfl, hB2⟩
  have s2 := hB2.size
  simp only [World.size_alloc] at s2
  clear ca0 ca1 ca2 ca3 cg0 cg1 cg2 cg3 cg4 cg5 cg6 cg7
  have hb : Below v1.heap.size v1 v2 := bstep (balloc (balloc (bself v1) _) _) hB2
  have nA := kA.below hb la
  have nX := kX.below hb (by omega)
  have nQ : CL v2 v1.heap.size [q0, q1, q2, q3, q4, q5, q6, q7] := ((CL.new v1 [q0, q1, q2, q3, q4, q5, q6, q7] 29).alloc (by simp) _).below hB2 (by simp <;> omega)
  have nR : CL v2 (v1.heap.size + 1) [r0, r1, r2, r3] := (CL.newAt (v1.alloc _) [r0, r1, r2, r3] 24 _ (by simp)).below hB2 (by simp <;> omega)
  have b2 : Below w.heap.size w v2 := bstep b1 hb
  clear hb hB2 b1 kA kX kG la lg la2 lg2 rdiv
  go_wp2_with fail
  have b3 : Below w.heap.size w ((v2.alloc (.cells #[.int .u64 q0, .int .u64 q1, .int .u64 q2, .int .u64 q3, .int .u64 q4, .int .u64 q5, .int .u64 q6, .int .u64 q7] 29)).alloc (.cells #[.int .u64 r0, .int .u64 r1, .int .u64 r2, .int .u64 r3] 24)) := balloc (balloc b2 _) _
  have st : Hid (K4 ((v2.alloc (.cells #[.int .u64 q0, .int .u64 q1, .int .u64 q2, .int .u64 q3, .int .u64 q4, .int .u64 q5, .int .u64 q6, .int .u64 q7] 29)).alloc (.cells #[.int .u64 r0, .int .u64 r1, .int .u64 r2, .int .u64 r3] 24)) w.heap.size a b c d ∧ K4 ((v2.alloc (.cells #[.int .u64 q0, .int .u64 q1, .int .u64 q2, .int .u64 q3, .int .u64 q4, .int .u64 q5, .int .u64 q6, .int .u64 q7] 29)).alloc (.cells #[.int .u64 r0, .int .u64 r1, .int .u64 r2, .int .u64 r3] 24)) (w.heap.size + 1) x y z t ∧ K8 ((v2.alloc (.cells #[.int .u64 q0, .int .u64 q1, .int .u64 q2, .int .u64 q3, .int .u64 q4, .int .u64 q5, .int .u64 q6, .int .u64 q7] 29)).alloc (.cells #[.int .u64 r0, .int .u64 r1, .int .u64 r2, .int .u64 r3] 24)) v1.heap.size q0 q1 q2 q3 q4 q5 q6 q7 ∧ K4 ((v2.alloc (.cells #[.int .u64 q0, .int .u64 q1, .int .u64 q2, .int .u64 q3, .int .u64 q4, .int .u64 q5, .int .u64 q6, .int .u64 q7] 29)).alloc (.cells #[.int .u64 r0, .int .u64 r1, .int .u64 r2, .int .u64 r3] 24)) (v1.heap.size + 1) r0 r1 r2 r3 ∧ K8 ((v2.alloc (.cells #[.int .u64 q0, .int .u64 q1, .int .u64 q2, .int .u64 q3, .int .u64 q4, .int .u64 q5, .int .u64 q6, .int .u64 q7] 29)).alloc (.cells #[.int .u64 r0, .int .u64 r1, .int .u64 r2, .int .u64 r3] 24)) v2.heap.size q0 q1 q2 q3 q4 q5 q6 q7 ∧ K4 ((v2.alloc (.cells #[.int .u64 q0, .int .u64 q1, .int .u64 q2, .int .u64 q3, .int .u64 q4, .int .u64 q5, .int .u64 q6, .int .u64 q7] 29)).alloc (.cells #[.int .u64 r0, .int .u64 r1, .int .u64 r2, .int .u64 r3] 24)) (v2.heap.size + 1) r0 r1 r2 r3 ∧ v2.heap.size + 1 < ((v2.alloc (.cells #[.int .u64 q0, .int .u64 q1, .int .u64 q2, .int .u64 q3, .int .u64 q4, .int .u64 q5, .int .u64 q6, .int .u64 q7] 29)).alloc (.cells #[.int .u64 r0, .int .u64 r1, .int .u64 r2, .int .u64 r3] 24)).heap.size) :=
    ⟨K4_of ((nA.alloc (by omega) _).alloc (by simp <;> omega) _), K4_of ((nX.alloc (by omega) _).alloc (by simp <;> omega) _), K8_of ((nQ.alloc (by omega) _).alloc (by simp <;> omega) _), K4_of ((nR.alloc (by omega) _).alloc (by simp <;> omega) _), K8_of ((CL.new v2 [q0, q1, q2, q3, q4, q5, q6, q7] 29).alloc (by simp) _), K4_of (CL.newAt (v2.alloc _) [r0, r1, r2, r3] 24 _ (by simp)), by simp⟩
  clear nA nX nQ nR b2
  generalize ((v2.alloc (.cells #[.int .u64 q0, .int .u64 q1, .int .u64 q2, .int .u64 q3, .int .u64 q4, .int .u64 q5, .int .u64 q6, .int .u64 q7] 29)).alloc (.cells #[.int .u64 r0, .int .u64 r1, .int .u64 r2, .int .u64 r3] 24)) = u at *
  obtain ⟨nv, hnv⟩ : ∃ nv, v1.heap.size = nv := ⟨_, rfl⟩
  obtain ⟨nw, hnw⟩ : ∃ nw, v2.heap.size = nw := ⟨_, rfl⟩
  rw [hnv] at st s1 s2 ⊢
  rw [hnw] at st s2 ⊢
  clear hnv hnw
  go_region_held3 (fun u' => K4 u' w.heap.size a b c d ∧ K4 u' (w.heap.size + 1) x y z t ∧ K8 u' nv q0 q1 q2 q3 q4 q5 q6 q7 ∧ K4 u' (nv + 1) r0 r1 r2 r3 ∧ K8 u' nw q0 q1 q2 q3 q4 q5 q6 q7 ∧ K4 u' (nw + 1) r0 r1 r2 r3 ∧ nw + 1 < u'.heap.size)
    (first | exact keepP hB (by omega) (by omega) (by omega) (by omega) (by omega) (by omega) (by assumption) | exact st.out | assumption)
    (first
      | (go_at_call 20; refine (mul _).mono ?_; rintro e u1 ⟨rfl, hB⟩)
      | (go_at_call 21; refine (rmul _).mono ?_; rintro e u1 ⟨rfl, hB⟩)
      | (go_at_call 17; refine (works_any _).mono ?_; rintro e u1 ⟨rfl, hB⟩))
  go_wp2
  go_ret
  refine ⟨rfl, ?_⟩
  refine bstep ?_ hB
  refine bstep ?_ (by assumption)
  refine bstep ?_ (by assumption)
  exact Below.drew b3
end Go.Proofs.Ytajpjbhppjlehaa
