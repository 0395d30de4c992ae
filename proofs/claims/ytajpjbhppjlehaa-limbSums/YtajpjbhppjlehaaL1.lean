/- LimbSums: the walk. -/
import Derived.Test.YtajpjbhppjlehaaW2
import Derived.Test.YtajpjbhppjlehaaW3
import Derived.Test.YtajpjbhppjlehaaWk
import Derived.Test.YtajpjbhppjlehaaW7
namespace Go.Proofs.Ytajpjbhppjlehaa
open Go.RowKit
set_option linter.unusedSimpArgs false
set_option linter.unusedVariables false

set_option maxRecDepth 100000 in
set_option maxHeartbeats 4000000 in
theorem limbSums_any (a b c d x y z t : Int) (w : World) (ha : W64 a) (hb : W64 b) (hc : W64 c) (hd : W64 d) (hx : W64 x) (hy : W64 y) (hz : W64 z) (ht : W64 t) :
    Calls Try.prog 3 #[A4 a b c d, A4 x y z t] w fun e w' => e = .returned (.bool true) ∧ Below w.heap.size w w' := by
  go_enter Try.func3, Try.ntmps3
  go_wp2_with fail
  refine (Add_any a b c d x y z t _ ha hb hc hd hx hy hz ht).mono ?_
  rintro e v1 ⟨rfl, hB1⟩
  have A : C4 v1 w.heap.size a b c d := C4.below (by unfold C4; simp [go_sem]) hB1 (by simp; omega)
  have X : C4 v1 (w.heap.size + 1) x y z t := C4.below (by unfold C4; simp [go_sem]) hB1 (by simp)
  have q1 : Below w.heap.size w v1 := bstep (balloc (balloc (bself w) _) _) hB1
  have s1 := hB1.size
  simp only [World.size_alloc] at s1
  clear hB1
  have A' := A
  obtain ⟨⟨Ac0, Ac1, Ac2, Ac3⟩, Af0, Af1, Af2, Af3⟩ := A'
  have X' := X
  obtain ⟨⟨Xc0, Xc1, Xc2, Xc3⟩, Xf0, Xf1, Xf2, Xf3⟩ := X'
  have Al : w.heap.size < v1.heap.size := by omega
  have Xl : (w.heap.size + 1) < v1.heap.size := by omega
  go_wp2_with fail
  refine (rAdd_any a b c d x y z t _ ha hb hc hd hx hy hz ht).mono ?_
  rintro e v2 ⟨rfl, hB2⟩
  have s2 := hB2.size
  simp only [World.size_alloc] at s2
  have An : C4 v2 w.heap.size a b c d := (A.alloc (by omega) _).below hB2 (by simp; omega)
  have Xn : C4 v2 (w.heap.size + 1) x y z t := (X.alloc (by omega) _).below hB2 (by simp; omega)
  have R1 : C4 v2 v1.heap.size (D0 (V a b c d + V x y z t)) (D1 (V a b c d + V x y z t)) (D2 (V a b c d + V x y z t)) (D3 (V a b c d + V x y z t)) := (C4.new v1 _ _ _ _ 24).below hB2 (by simp)
  have q2 : Below w.heap.size w v2 := bstep (balloc q1 _) hB2
  clear Ac0 Af0 Ac1 Af1 Ac2 Af2 Ac3 Af3 Xc0 Xf0 Xc1 Xf1 Xc2 Xf2 Xc3 Xf3
  clear Al Xl
  clear hB2 q1 A X
  have A := An
  clear An
  have X := Xn
  clear Xn
  have A' := A
  obtain ⟨⟨Ac0, Ac1, Ac2, Ac3⟩, Af0, Af1, Af2, Af3⟩ := A'
  have X' := X
  obtain ⟨⟨Xc0, Xc1, Xc2, Xc3⟩, Xf0, Xf1, Xf2, Xf3⟩ := X'
  have R1' := R1
  obtain ⟨⟨R1c0, R1c1, R1c2, R1c3⟩, R1f0, R1f1, R1f2, R1f3⟩ := R1'
  have Al : w.heap.size < v2.heap.size := by omega
  have Xl : (w.heap.size + 1) < v2.heap.size := by omega
  have R1l : v1.heap.size < v2.heap.size := by omega
  go_wp2_with fail
  refine (Sub_any a b c d x y z t _ ha hb hc hd hx hy hz ht).mono ?_
  rintro e v3 ⟨rfl, hB3⟩
  have s3 := hB3.size
  simp only [World.size_alloc] at s3
  have An : C4 v3 w.heap.size a b c d := (A.alloc (by omega) _).below hB3 (by simp; omega)
  have Xn : C4 v3 (w.heap.size + 1) x y z t := (X.alloc (by omega) _).below hB3 (by simp; omega)
  have R1n : C4 v3 v1.heap.size (D0 (V a b c d + V x y z t)) (D1 (V a b c d + V x y z t)) (D2 (V a b c d + V x y z t)) (D3 (V a b c d + V x y z t)) := (R1.alloc (by omega) _).below hB3 (by simp; omega)
  have R2 : C4 v3 v2.heap.size (D0 (V a b c d + V x y z t)) (D1 (V a b c d + V x y z t)) (D2 (V a b c d + V x y z t)) (D3 (V a b c d + V x y z t)) := (C4.new v2 _ _ _ _ 24).below hB3 (by simp)
  have q3 : Below w.heap.size w v3 := bstep (balloc q2 _) hB3
  clear Ac0 Af0 Ac1 Af1 Ac2 Af2 Ac3 Af3 Xc0 Xf0 Xc1 Xf1 Xc2 Xf2 Xc3 Xf3 R1c0 R1f0 R1c1 R1f1 R1c2 R1f2 R1c3 R1f3
  clear Al Xl R1l
  clear hB3 q2 A X R1
  have A := An
  clear An
  have X := Xn
  clear Xn
  have R1 := R1n
  clear R1n
  have A' := A
  obtain ⟨⟨Ac0, Ac1, Ac2, Ac3⟩, Af0, Af1, Af2, Af3⟩ := A'
  have X' := X
  obtain ⟨⟨Xc0, Xc1, Xc2, Xc3⟩, Xf0, Xf1, Xf2, Xf3⟩ := X'
  have R1' := R1
  obtain ⟨⟨R1c0, R1c1, R1c2, R1c3⟩, R1f0, R1f1, R1f2, R1f3⟩ := R1'
  have R2' := R2
  obtain ⟨⟨R2c0, R2c1, R2c2, R2c3⟩, R2f0, R2f1, R2f2, R2f3⟩ := R2'
  have Al : w.heap.size < v3.heap.size := by omega
  have Xl : (w.heap.size + 1) < v3.heap.size := by omega
  have R1l : v1.heap.size < v3.heap.size := by omega
  have R2l : v2.heap.size < v3.heap.size := by omega
  go_wp2_with fail
  refine (rSub_any a b c d x y z t _ ha hb hc hd hx hy hz ht).mono ?_
  rintro e v4 ⟨rfl, hB4⟩
  have s4 := hB4.size
  simp only [World.size_alloc] at s4
  have An : C4 v4 w.heap.size a b c d := (A.alloc (by omega) _).below hB4 (by simp; omega)
  have Xn : C4 v4 (w.heap.size + 1) x y z t := (X.alloc (by omega) _).below hB4 (by simp; omega)
  have R1n : C4 v4 v1.heap.size (D0 (V a b c d + V x y z t)) (D1 (V a b c d + V x y z t)) (D2 (V a b c d + V x y z t)) (D3 (V a b c d + V x y z t)) := (R1.alloc (by omega) _).below hB4 (by simp; omega)
  have R2n : C4 v4 v2.heap.size (D0 (V a b c d + V x y z t)) (D1 (V a b c d + V x y z t)) (D2 (V a b c d + V x y z t)) (D3 (V a b c d + V x y z t)) := (R2.alloc (by omega) _).below hB4 (by simp; omega)
  have R3 : C4 v4 v3.heap.size (D0 (V a b c d - V x y z t)) (D1 (V a b c d - V x y z t)) (D2 (V a b c d - V x y z t)) (D3 (V a b c d - V x y z t)) := (C4.new v3 _ _ _ _ 24).below hB4 (by simp)
  have q4 : Below w.heap.size w v4 := bstep (balloc q3 _) hB4
  clear Ac0 Af0 Ac1 Af1 Ac2 Af2 Ac3 Af3 Xc0 Xf0 Xc1 Xf1 Xc2 Xf2 Xc3 Xf3 R1c0 R1f0 R1c1 R1f1 R1c2 R1f2 R1c3 R1f3 R2c0 R2f0 R2c1 R2f1 R2c2 R2f2 R2c3 R2f3
  clear Al Xl R1l R2l
  clear hB4 q3 A X R1 R2
  have A := An
  clear An
  have X := Xn
  clear Xn
  have R1 := R1n
  clear R1n
  have R2 := R2n
  clear R2n
  have A' := A
  obtain ⟨⟨Ac0, Ac1, Ac2, Ac3⟩, Af0, Af1, Af2, Af3⟩ := A'
  have X' := X
  obtain ⟨⟨Xc0, Xc1, Xc2, Xc3⟩, Xf0, Xf1, Xf2, Xf3⟩ := X'
  have R1' := R1
  obtain ⟨⟨R1c0, R1c1, R1c2, R1c3⟩, R1f0, R1f1, R1f2, R1f3⟩ := R1'
  have R2' := R2
  obtain ⟨⟨R2c0, R2c1, R2c2, R2c3⟩, R2f0, R2f1, R2f2, R2f3⟩ := R2'
  have R3' := R3
  obtain ⟨⟨R3c0, R3c1, R3c2, R3c3⟩, R3f0, R3f1, R3f2, R3f3⟩ := R3'
  have Al : w.heap.size < v4.heap.size := by omega
  have Xl : (w.heap.size + 1) < v4.heap.size := by omega
  have R1l : v1.heap.size < v4.heap.size := by omega
  have R2l : v2.heap.size < v4.heap.size := by omega
  have R3l : v3.heap.size < v4.heap.size := by omega
  go_wp2
  have An : C4 (v4.alloc (.cells #[.int .u64 (D0 (V a b c d - V x y z t)), .int .u64 (D1 (V a b c d - V x y z t)), .int .u64 (D2 (V a b c d - V x y z t)), .int .u64 (D3 (V a b c d - V x y z t))] 24)) w.heap.size a b c d := A.alloc Al _
  have Xn : C4 (v4.alloc (.cells #[.int .u64 (D0 (V a b c d - V x y z t)), .int .u64 (D1 (V a b c d - V x y z t)), .int .u64 (D2 (V a b c d - V x y z t)), .int .u64 (D3 (V a b c d - V x y z t))] 24)) (w.heap.size + 1) x y z t := X.alloc Xl _
  have R1n : C4 (v4.alloc (.cells #[.int .u64 (D0 (V a b c d - V x y z t)), .int .u64 (D1 (V a b c d - V x y z t)), .int .u64 (D2 (V a b c d - V x y z t)), .int .u64 (D3 (V a b c d - V x y z t))] 24)) v1.heap.size (D0 (V a b c d + V x y z t)) (D1 (V a b c d + V x y z t)) (D2 (V a b c d + V x y z t)) (D3 (V a b c d + V x y z t)) := R1.alloc R1l _
  have R2n : C4 (v4.alloc (.cells #[.int .u64 (D0 (V a b c d - V x y z t)), .int .u64 (D1 (V a b c d - V x y z t)), .int .u64 (D2 (V a b c d - V x y z t)), .int .u64 (D3 (V a b c d - V x y z t))] 24)) v2.heap.size (D0 (V a b c d + V x y z t)) (D1 (V a b c d + V x y z t)) (D2 (V a b c d + V x y z t)) (D3 (V a b c d + V x y z t)) := R2.alloc R2l _
  have R3n : C4 (v4.alloc (.cells #[.int .u64 (D0 (V a b c d - V x y z t)), .int .u64 (D1 (V a b c d - V x y z t)), .int .u64 (D2 (V a b c d - V x y z t)), .int .u64 (D3 (V a b c d - V x y z t))] 24)) v3.heap.size (D0 (V a b c d - V x y z t)) (D1 (V a b c d - V x y z t)) (D2 (V a b c d - V x y z t)) (D3 (V a b c d - V x y z t)) := R3.alloc R3l _
  have R4n : C4 (v4.alloc (.cells #[.int .u64 (D0 (V a b c d - V x y z t)), .int .u64 (D1 (V a b c d - V x y z t)), .int .u64 (D2 (V a b c d - V x y z t)), .int .u64 (D3 (V a b c d - V x y z t))] 24)) v4.heap.size (D0 (V a b c d - V x y z t)) (D1 (V a b c d - V x y z t)) (D2 (V a b c d - V x y z t)) (D3 (V a b c d - V x y z t)) := C4.new v4 _ _ _ _ 24
  have q5 : Below w.heap.size w (v4.alloc (.cells #[.int .u64 (D0 (V a b c d - V x y z t)), .int .u64 (D1 (V a b c d - V x y z t)), .int .u64 (D2 (V a b c d - V x y z t)), .int .u64 (D3 (V a b c d - V x y z t))] 24)) := balloc q4 _
  have s5 : v4.heap.size < (v4.alloc (.cells #[.int .u64 (D0 (V a b c d - V x y z t)), .int .u64 (D1 (V a b c d - V x y z t)), .int .u64 (D2 (V a b c d - V x y z t)), .int .u64 (D3 (V a b c d - V x y z t))] 24)).heap.size := by simp
  clear Ac0 Af0 Ac1 Af1 Ac2 Af2 Ac3 Af3 Xc0 Xf0 Xc1 Xf1 Xc2 Xf2 Xc3 Xf3 R1c0 R1f0 R1c1 R1f1 R1c2 R1f2 R1c3 R1f3 R2c0 R2f0 R2c1 R2f1 R2c2 R2f2 R2c3 R2f3 R3c0 R3f0 R3c1 R3f1 R3c2 R3f2 R3c3 R3f3
  clear q4 A X R1 R2 R3
  generalize v4.alloc (.cells #[.int .u64 (D0 (V a b c d - V x y z t)), .int .u64 (D1 (V a b c d - V x y z t)), .int .u64 (D2 (V a b c d - V x y z t)), .int .u64 (D3 (V a b c d - V x y z t))] 24) = u at *
  have st : Hid (K4 u w.heap.size a b c d ∧ K4 u (w.heap.size + 1) x y z t ∧ K4 u v1.heap.size (D0 (V a b c d + V x y z t)) (D1 (V a b c d + V x y z t)) (D2 (V a b c d + V x y z t)) (D3 (V a b c d + V x y z t)) ∧ K4 u v2.heap.size (D0 (V a b c d + V x y z t)) (D1 (V a b c d + V x y z t)) (D2 (V a b c d + V x y z t)) (D3 (V a b c d + V x y z t)) ∧ K4 u v3.heap.size (D0 (V a b c d - V x y z t)) (D1 (V a b c d - V x y z t)) (D2 (V a b c d - V x y z t)) (D3 (V a b c d - V x y z t)) ∧ K4 u v4.heap.size (D0 (V a b c d - V x y z t)) (D1 (V a b c d - V x y z t)) (D2 (V a b c d - V x y z t)) (D3 (V a b c d - V x y z t)) ∧ v4.heap.size < u.heap.size) := ⟨An.1, Xn.1, R1n.1, R2n.1, R3n.1, R4n.1, s5⟩
  clear An Xn R1n R2n R3n R4n
  go_region_held3 (fun u' => K4 u' w.heap.size a b c d ∧ K4 u' (w.heap.size + 1) x y z t ∧ K4 u' v1.heap.size (D0 (V a b c d + V x y z t)) (D1 (V a b c d + V x y z t)) (D2 (V a b c d + V x y z t)) (D3 (V a b c d + V x y z t)) ∧ K4 u' v2.heap.size (D0 (V a b c d + V x y z t)) (D1 (V a b c d + V x y z t)) (D2 (V a b c d + V x y z t)) (D3 (V a b c d + V x y z t)) ∧ K4 u' v3.heap.size (D0 (V a b c d - V x y z t)) (D1 (V a b c d - V x y z t)) (D2 (V a b c d - V x y z t)) (D3 (V a b c d - V x y z t)) ∧ K4 u' v4.heap.size (D0 (V a b c d - V x y z t)) (D1 (V a b c d - V x y z t)) (D2 (V a b c d - V x y z t)) (D3 (V a b c d - V x y z t)) ∧ v4.heap.size < u'.heap.size)
    (first | exact keep6 hB (by omega) (by omega) (by omega) (by omega) (by omega) (by omega) (by assumption) | exact st.out)
    (first
      | (go_at_call 13; refine (Compare_any a b c d x y z t _ ha hb hc hd hx hy hz ht).mono ?_; rintro e u1 ⟨rfl, hB⟩)
      | (go_at_call 14; refine (rCompare_any a b c d x y z t _ ha hb hc hd hx hy hz ht).mono ?_; rintro e u1 ⟨rfl, hB⟩)
      | (go_at_call 15; refine (Widen_any a b c d _).mono ?_; rintro e u1 ⟨rfl, hB⟩)
      | (go_at_call 16; refine (rWiden_any a b c d _ ha hb hc hd).mono ?_; rintro e u1 ⟨rfl, hB⟩)
      | (go_at_call 17; refine (works_any _).mono ?_; rintro e u1 ⟨rfl, hB⟩))
  go_wp2
  go_ret
  refine ⟨rfl, ?_⟩
  refine bstep ?_ hB
  refine bstep ?_ (by assumption)
  refine bstep ?_ (by assumption)
  refine bstep ?_ (by assumption)
  refine bstep ?_ (by assumption)
  exact Below.drew q5
end Go.Proofs.Ytajpjbhppjlehaa
