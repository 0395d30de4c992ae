/- LimbTexts: the walk. -/
import Derived.Test.YtkpnjmfndgfogaaU9
import Derived.Test.YtkpnjmfndgfogaaU7
namespace Go.Proofs.Ytkpnjmfndgfogaa
open Go.RowKit
set_option linter.unusedSimpArgs false
set_option linter.unusedVariables false
set_option maxRecDepth 100000 in
set_option maxHeartbeats 4000000 in
theorem limbTexts_core (a b c d : Int) (n : Nat) (S S' T : ByteArray) (p0 p1 p2 p3 f : Int) (w : World) (ha : W64 a) (hb : W64 b) (hc : W64 c) (hd : W64 d)
    (hS : S.size = n) (hE : S.extract 0 (min (n : Int) 200).toNat = S')
    (kB : Hid (∀ W, Calls Try.prog 19 #[A4 a b c d] W fun en W' => ∃ g, en = .returned (.slice (some ⟨g, 0, none⟩) 32 32) ∧ Below W.heap.size W W' ∧ Calls Try.prog 13 #[.slice (some ⟨g, 0, none⟩) 32 32] W' fun en W2 => en = .returned (.tuple #[A4 a b c d, .int .i64 0]) ∧ Below W'.heap.size W' W2))
    (kT : Hid (∀ W, Calls Try.prog 20 #[A4 a b c d] W fun en W' => en = .returned (.string T) ∧ Below W.heap.size W W'))
    (kR : Hid (∀ W, Calls Try.prog 16 #[.string T] W fun en W' => en = .returned (.tuple #[A4 a b c d, .int .i64 0]) ∧ Below W.heap.size W W'))
    (kP : Hid (∀ W, Calls Try.prog 16 #[.string S'] W fun en W' => en = .returned (.tuple #[A4 p0 p1 p2 p3, .int .i64 f]) ∧ Below W.heap.size W W'))
    (hf : f ≠ 0 ∨ (f = 0 ∧ Hid (∀ W, Calls Try.prog 20 #[A4 p0 p1 p2 p3] W fun en W' => en = .returned (.string S') ∧ Below W.heap.size W W'))) :
    Calls Try.prog 4 #[A4 a b c d, .string S] w fun en w' => en = .returned (.bool true) ∧ Below w.heap.size w w' := by
  go_enter Try.func4, Try.ntmps4
  go_wp2_with fail
  refine (works_any _).mono ?_
  rintro en v1 ⟨rfl, hB1⟩
  have A : C4 v1 w.heap.size a b c d := C4.below (C4.new w a b c d 25) hB1 (by simp)
  have q1 : Below w.heap.size w v1 := bstep (balloc (bself w) _) hB1
  have s1 : w.heap.size < v1.heap.size := by have := hB1.size; simp at this; omega
  clear hB1
  have A' := A
  obtain ⟨⟨a0, a1, a2, a3⟩, _⟩ := A'
  go_wp2_with fail
  refine (kB.out _).mono ?_
  rintro en v2 ⟨g, rfl, hB2, hR⟩
  have q2 : Below w.heap.size w v2 := bstep q1 hB2
  have A2 : C4 v2 w.heap.size a b c d := A.below hB2 s1
  have s2 : w.heap.size < v2.heap.size := by have := hB2.size; omega
  have HR : Hid _ := hR
  clear hB2 hR A a0 a1 a2 a3 q1 s1
  go_wp2_with fail
  refine Calls.mono HR.out ?_
  rintro en v3 ⟨rfl, hB3⟩
  have q3 : Below w.heap.size w v3 := bstep q2 hB3
  have A3 : C4 v3 w.heap.size a b c d := A2.below hB3 s2
  have s3 : w.heap.size < v3.heap.size := by have := hB3.size; omega
  clear HR hB3 A2 q2 s2
  have A' := A3
  obtain ⟨⟨a0, a1, a2, a3⟩, _⟩ := A'
  go_wp2_with fail
  refine (kT.out _).mono ?_
  rintro en v4 ⟨rfl, hB4⟩
  have q4 : Below w.heap.size w v4 := bstep (balloc q3 _) hB4
  have A4' : C4 v4 w.heap.size a b c d := (A3.alloc s3 _).below hB4 (by simp; omega)
  have X4 : C4 v4 v3.heap.size a b c d := C4.below (C4.new v3 a b c d 25) hB4 (by simp)
  have s4 : v3.heap.size < v4.heap.size := by have := hB4.size; simp at this; omega
  clear hB4 A3 q3 a0 a1 a2 a3
  go_wp2_with fail
  refine (kR.out _).mono ?_
  rintro en v5 ⟨rfl, hB5⟩
  have q5 : Below w.heap.size w v5 := bstep q4 hB5
  have A5 : C4 v5 w.heap.size a b c d := A4'.below hB5 (by omega)
  have X5 : C4 v5 v3.heap.size a b c d := X4.below hB5 (by omega)
  have s5 : v4.heap.size ≤ v5.heap.size := hB5.size
  clear hB5 A4' X4 q4
  go_wp2_with fail
  refine (kP.out _).mono ?_
  rintro en v6 ⟨rfl, hB6⟩
  have q6 : Below w.heap.size w v6 := bstep (balloc q5 _) hB6
  have A6 : C4 v6 w.heap.size a b c d := (A5.alloc (by omega) _).below hB6 (by simp; omega)
  have X6 : C4 v6 v3.heap.size a b c d := (X5.alloc (by omega) _).below hB6 (by simp; omega)
  have Y6 : C4 v6 v5.heap.size a b c d := C4.below (C4.new v5 a b c d 25) hB6 (by simp)
  have s6 : v5.heap.size < v6.heap.size := by have := hB6.size; simp at this; omega
  have l1 : w.heap.size < v6.heap.size := by omega
  have l2 : v3.heap.size < v6.heap.size := by omega
  clear hB6 A5 X5 q5
  obtain ⟨⟨a0, a1, a2, a3⟩, _⟩ := A6
  obtain ⟨⟨x0, x1, x2, x3⟩, _⟩ := X6
  obtain ⟨⟨y0, y1, y2, y3⟩, _⟩ := Y6
  rcases hf with hf | ⟨rfl, kZ⟩
  · go_wp2
    go_ret
    exact ⟨rfl, balloc q6 _⟩
  · go_wp2_with fail
    refine (kZ.out _).mono ?_
    rintro en v7 ⟨rfl, hB7⟩
    have q7 : Below w.heap.size w v7 := bstep (balloc q6 _) hB7
    clear hB7 kZ
    go_wp2
    go_ret
    exact ⟨rfl, q7⟩
theorem limbTexts_any (a b c d : Int) (cs : List Int) (w : World) (ha : W64 a) (hb : W64 b) (hc : W64 c) (hd : W64 d) (hcs : Bytes8 cs) :
    Calls Try.prog 4 #[A4 a b c d, .string (strOfNums cs)] w fun en w' => en = .returned (.bool true) ∧ Below w.heap.size w w' := by
  have c8 : Bytes8 (cs.take (min (cs.length : Int) 200).toNat) := fun x hx => hcs x (List.mem_of_mem_take hx)
  have cl : (cs.take (min (cs.length : Int) 200).toNat).length ≤ 200 := by rw [List.length_take]; omega
  obtain ⟨n1, n2, n3⟩ := nd_lo a b c d ha hb hc hd
  have kB : Hid (∀ W, Calls Try.prog 19 #[A4 a b c d] W fun en W' => ∃ g, en = .returned (.slice (some ⟨g, 0, none⟩) 32 32) ∧ Below W.heap.size W W' ∧ Calls Try.prog 13 #[.slice (some ⟨g, 0, none⟩) 32 32] W' fun en W2 => en = .returned (.tuple #[A4 a b c d, .int .i64 0]) ∧ Below W'.heap.size W' W2) := fun W => by
    refine (Bytes_any a b c d W ha hb hc hd).mono ?_
    rintro en W' ⟨g, rfl, hC, h1, h2, hB⟩
    have k := Read_any g 0 32 (bys a b c d) W' (by rw [bys_len]; omega) (bys_8 a b c d) h2 (bys_SB hC)
    rw [bys_len, bys_Tk a b c d 0 (by omega) ha hb hc hd, bys_Tk a b c d 1 (by omega) ha hb hc hd, bys_Tk a b c d 2 (by omega) ha hb hc hd, bys_Tk a b c d 3 (by omega) ha hb hc hd] at k
    exact ⟨g, rfl, hB, k⟩
  have kT : Hid (∀ W, _) := fun W => Text_any a b c d W ha hb hc hd
  have kR : Hid (∀ W, _) := fun W => Parse_all _ (txl_8 a b c d (nd a b c d)) (by rw [txl_len]; omega) W
  rw [PR_txl a b c d ha hb hc hd] at kR
  have kP : Hid (∀ W, _) := fun W => Parse_all _ c8 cl W
  obtain ⟨cs', e'⟩ : ∃ l, cs.take (min (cs.length : Int) 200).toNat = l := ⟨_, rfl⟩
  have he := str_cut cs (min (cs.length : Int) 200).toNat
  rw [e'] at kP he
  by_cases h : isT cs' = true
  · by_cases hl : 64 < cs'.length
    · have hp : PR cs' = .tuple #[A4 0 0 0 0, .int .i64 3] := by unfold PR; rw [if_pos h, if_pos hl]
      rw [hp] at kP
      exact limbTexts_core a b c d cs.length _ _ _ 0 0 0 0 3 w ha hb hc hd (strOfNums_size cs) he kB kT kR kP (.inl (by omega))
    · have hp : PR cs' = .tuple #[A4 (Uk (cs'.map ixv) 0 cs'.length) (Uk (cs'.map ixv) 1 cs'.length) (Uk (cs'.map ixv) 2 cs'.length) (Uk (cs'.map ixv) 3 cs'.length), .int .i64 0] := by unfold PR; rw [if_pos h, if_neg hl]
      rw [hp] at kP
      have hD := isT_digs h
      have kZ : Hid (∀ W, _) := fun W => Text_any _ _ _ _ W (Uk_W (cs'.map ixv) hD 0 cs'.length) (Uk_W (cs'.map ixv) hD 1 cs'.length) (Uk_W (cs'.map ixv) hD 2 cs'.length) (Uk_W (cs'.map ixv) hD 3 cs'.length)
      rw [txl_of cs' h (by omega)] at kZ
      exact limbTexts_core a b c d cs.length _ _ _ _ _ _ _ 0 w ha hb hc hd (strOfNums_size cs) he kB kT kR kP (.inr ⟨rfl, kZ⟩)
  · have hp : PR cs' = .tuple #[A4 0 0 0 0, .int .i64 2] := by unfold PR; rw [if_neg h]
    rw [hp] at kP
    exact limbTexts_core a b c d cs.length _ _ _ 0 0 0 0 2 w ha hb hc hd (strOfNums_size cs) he kB kT kR kP (.inl (by omega))
end Go.Proofs.Ytkpnjmfndgfogaa
