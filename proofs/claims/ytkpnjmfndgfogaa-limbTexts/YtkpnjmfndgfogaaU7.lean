/- LimbReads: the walk. -/
import Derived.Test.YtkpnjmfndgfogaaU4
import Derived.Test.YtkpnjmfndgfogaaU5
import Derived.Test.YtkpnjmfndgfogaaU6
import Derived.Test.YtkpnjmfndgfogaaWk
import Derived.Test.YtkpnjmfndgfogaaEqs
namespace Go.Proofs.Ytkpnjmfndgfogaa
open Go.RowKit
set_option linter.unusedSimpArgs false
set_option linter.unusedVariables false
/-- The beginning of a text. -/
theorem str_cut (cs : List Int) (m : Nat) : (strOfNums cs).extract 0 m = strOfNums (cs.take m) := by
  apply ByteArray.ext
  simp [strOfNums, ByteArray.data_extract, List.map_take]
set_option maxRecDepth 100000 in
set_option maxHeartbeats 4000000 in
theorem limbReads_core (sl : Option Addr) (len m cap n : Nat) (S S' : ByteArray) (r0 r1 r2 r3 e p0 p1 p2 p3 f : Int) (w : World)
    (hm : (min (len : Int) 100).toNat = m) (hc : len ≤ cap) (hsn : sl = none → cap = 0) (hS : S.size = n) (hE : S.extract 0 (min (n : Int) 200).toNat = S')
    (kB : Hid (∀ W, Below w.heap.size w W → Calls Try.prog 14 #[.slice sl m cap] W fun en W' => ∃ b c, en = .returned (.slice (some ⟨b, 0, none⟩) m c) ∧ Below W.heap.size W W' ∧ Calls Try.prog 13 #[.slice (some ⟨b, 0, none⟩) m c] W' fun en W2 => en = .returned (.tuple #[A4 r0 r1 r2 r3, .int .i64 e]) ∧ Below W'.heap.size W' W2))
    (kR : Hid (∀ W, Below w.heap.size w W → Calls Try.prog 15 #[.slice sl m cap] W fun en W' => en = .returned (.tuple #[A4 r0 r1 r2 r3, .int .i64 e]) ∧ Below W.heap.size W W'))
    (kP : Hid (∀ W, Calls Try.prog 16 #[.string S'] W fun en W' => en = .returned (.tuple #[A4 p0 p1 p2 p3, .int .i64 f]) ∧ Below W.heap.size W W'))
    (kQ : Hid (∀ W, Calls Try.prog 17 #[.string S'] W fun en W' => en = .returned (.tuple #[A4 p0 p1 p2 p3, .int .i64 f]) ∧ Below W.heap.size W W')) :
    Calls Try.prog 3 #[.slice sl len cap, .string S] w fun en w' => en = .returned (.bool true) ∧ Below w.heap.size w w' := by
  have hc' : (min (len : Int) 100) ≤ cap := by omega
  go_enter Try.func3, Try.ntmps3
  go_wp2_with fail
  go_region
  try simp only [hm, hE]
  go_wp2_with fail
  refine (kB.out _ (Below.refl _ _).drew).mono ?_
  rintro en w1 ⟨b, c, rfl, hB1, hR⟩
  have q1 : Below w.heap.size w w1 := bstep (Below.refl _ _).drew hB1
  clear hB1
  have HR : Hid _ := hR
  clear hR
  go_wp2_with fail
  refine Calls.mono HR.out ?_
  rintro en w2 ⟨rfl, hB2⟩
  have q2 : Below w.heap.size w w2 := bstep q1 hB2
  clear HR hB2 q1
  go_wp2_with fail
  have q2a : Below w.heap.size w (w2.alloc (.cells #[.int .u64 r0, .int .u64 r1, .int .u64 r2, .int .u64 r3] 25)) := balloc q2 _
  refine (kR.out _ q2a).mono ?_
  rintro en w3 ⟨rfl, hB3⟩
  have q3 : Below w.heap.size w w3 := bstep q2a hB3
  have A : C4 w3 w2.heap.size r0 r1 r2 r3 := C4.below (C4.new w2 r0 r1 r2 r3 25) hB3 (by simp)
  have sA : w2.heap.size < w3.heap.size := by have := hB3.size; simp at this; omega
  clear hB3 q2a q2
  go_wp2_with fail
  refine (kP.out _).mono ?_
  rintro en w4 ⟨rfl, hB4⟩
  have q4 : Below w.heap.size w w4 := bstep (balloc q3 _) hB4
  have A4' : C4 w4 w2.heap.size r0 r1 r2 r3 := (A.alloc sA _).below hB4 (by simp; omega)
  have B4' : C4 w4 w3.heap.size r0 r1 r2 r3 := C4.below (C4.new w3 r0 r1 r2 r3 25) hB4 (by simp)
  have sz4 : w3.heap.size < w4.heap.size := by have := hB4.size; simp at this; omega
  clear hB4 q3 A
  go_wp2_with fail
  refine (kQ.out _).mono ?_
  rintro en w5 ⟨rfl, hB5⟩
  have q5 : Below w.heap.size w w5 := bstep (balloc q4 _) hB5
  have A5 : C4 w5 w2.heap.size r0 r1 r2 r3 := (A4'.alloc (by omega) _).below hB5 (by simp; omega)
  have B5 : C4 w5 w3.heap.size r0 r1 r2 r3 := (B4'.alloc (by omega) _).below hB5 (by simp; omega)
  have D5 : C4 w5 w4.heap.size p0 p1 p2 p3 := C4.below (C4.new w4 p0 p1 p2 p3 25) hB5 (by simp)
  have sz5 : w4.heap.size < w5.heap.size := by have := hB5.size; simp at this; omega
  have l2 : w2.heap.size < w5.heap.size := by omega
  have l3 : w3.heap.size < w5.heap.size := by omega
  clear hB5 q4 A4' B4'
  obtain ⟨⟨a0, a1, a2, a3⟩, _⟩ := A5
  obtain ⟨⟨b0, b1, b2, b3⟩, _⟩ := B5
  obtain ⟨⟨d0, d1, d2, d3⟩, _⟩ := D5
  go_wp2_with fail
  refine (works_any _).mono ?_
  rintro en w6 ⟨rfl, hB6⟩
  have q6 : Below w.heap.size w w6 := bstep (balloc q5 _) hB6
  clear hB6
  go_wp2
  go_ret
  exact ⟨rfl, q6⟩
end Go.Proofs.Ytkpnjmfndgfogaa
