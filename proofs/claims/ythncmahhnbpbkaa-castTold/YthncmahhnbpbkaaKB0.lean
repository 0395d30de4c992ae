/- Cast: Take of whatever comes; Make; Start. -/
import Derived.Test.YthncmahhnbpbkaaKA9
namespace Go.Proofs.Ythncmahhnbpbkaa
open Go.RowKit Go.ChangeMaps Go.Maps Go.WideMaps
set_option linter.unusedVariables false
set_option linter.unusedSimpArgs false
theorem wfI {n : Int} (h : -9223372036854775808 ≤ n ∧ n ≤ 9223372036854775807) : (Lit.int .i64 n).wf = true := by
  simp [Lit.wf, IntKind.min, IntKind.max, IntKind.signed, IntKind.bits]; omega
theorem cTake (s : Nat) (x : Nd) (k f : Int) (v : ByteArray) (w : World) (hv : v.size ≤ maxLen) (hw : NW0 x) (h : NM w s x) :
    Calls Try.prog 14 #[pN s, MX k f v] w fun e' w' => ∃ r, e' = .returned r ∧ Kp s (s + 7) w w' ∧ NM w' s (x.take k f v).1 ∧ OutM w.heap.size w' r (x.take k f v).2 := by
  have hn := hw.n
  cases hb : mb x k f v with
  | false =>
    have e : x.take k f v = (x, none) := by unfold Nd.take; rw [hb]; rfl
    rw [e]
    refine (cTake_no s x k f v w hv hw h hb).mono ?_
    rintro e w1 ⟨rfl, hB⟩
    exact ⟨_, rfl, hB.kp, h.kp (lo := s + 7) (hi := s + 7) hB.kp (.inl (Nat.le_refl _)), rfl⟩
  | true =>
    have hb2 := hb
    simp only [mb, decide_eq_true_eq] at hb2
    obtain ⟨hk, h1, h2, h3⟩ := hb2
    have hf := wfI (n := f) (by omega)
    rcases hk with ⟨rfl, _⟩ | rfl | rfl
    · have e : x.take 1 f v = x.tkE v := by unfold Nd.take; rw [hb]; rfl
      rw [e]; exact cTake1 s x f v w hv hw h hb
    · have e : x.take 2 f v = if f ∈ fs x.ec then (x, none) else (x.addE f v).tkC v := by unfold Nd.take; rw [hb]; rfl
      exact cTake2 s x f v w hf hv hw h hb _ e
    · have e : x.take 3 f v = if f ∈ fs x.rd then (x, none) else ((x.addR f v).tkD v).tkC v := by unfold Nd.take; rw [hb]; rfl
      exact cTake3 s x f v w hf hv hw h hb _ e
/-- A node as it is made. -/
def Nd.new (n t me dl : Int) : Nd := ⟨n, t, me, dl, false, [], [], none, none, none⟩
def okM (n t me dl : Int) : Bool := decide ((0 ≤ t ∧ t ≤ 5) ∧ (3 * t + 1 ≤ n ∧ n ≤ 16) ∧ (1 ≤ me ∧ me ≤ n) ∧ 1 ≤ dl ∧ dl ≤ n)
set_option maxHeartbeats 600000 in
theorem cMake_ok (n t me dl : Int) (w : World) (h : okM n t me dl = true) :
    Calls Try.prog 9 #[.int .i64 n, .int .i64 t, .int .i64 me, .int .i64 dl] w fun e' w' => e' = .returned (.tuple #[pN w.heap.size, .int .i64 0]) ∧ Below w.heap.size w w' ∧ w'.heap.size = w.heap.size + 7 ∧ NM w' w.heap.size (Nd.new n t me dl) := by
  simp only [okM, decide_eq_true_eq] at h
  obtain ⟨⟨h1, h2⟩, ⟨h3, h4⟩, ⟨h5, h6⟩, h7, h8⟩ := h
  have e1 := wr64 (n := 3 * t) (by omega)
  have e2 := wr64 (n := 3 * t + 1) (by omega)
  have i1 : ∀ u, Calls Try.prog 26 #[.int .i64 n, .int .i64 me] u fun e u' => e = .returned (.bool true) ∧ u' = u := fun u => by
    have := cIsNode n me u
    rw [decide_eq_true ⟨h5, h6⟩] at this; exact this
  have i2 : ∀ u, Calls Try.prog 26 #[.int .i64 n, .int .i64 dl] u fun e u' => e = .returned (.bool true) ∧ u' = u := fun u => by
    have := cIsNode n dl u
    rw [decide_eq_true ⟨h7, h8⟩] at this; exact this
  have q1 := cNoCounts w
  go_enter Try.func9, Try.ntmps9
  go_upto_region 6 with (first | (go_at_call_of 26 (Value.int IntKind.i64 me); refine (i1 _).mono ?_; rintro e w1 ⟨rfl, hu⟩; rw [hu]; clear hu) | (go_at_call_of 26 (Value.int IntKind.i64 dl); refine (i2 _).mono ?_; rintro e w1 ⟨rfl, hu⟩; rw [hu]; clear hu))
  go_wp2_with (first | (go_at_call 27; refine q1.mono ?_; rintro e w1 ⟨rfl, hB1, z1, p1, p2⟩; clear q1; have q2 := cNoCounts w1; rw [z1] at q2) | (go_at_call 27; refine q2.mono ?_; rintro e w2 ⟨rfl, hB2, z2, p3, p4⟩))
  have hz2 : w2.heap.size = w.heap.size + 6 := by omega
  have hB : Below w.heap.size w w2 := bstep hB1 (z1 ▸ hB2)
  have r1 : w2.heap[w.heap.size + 1]? = some (.map #[] 0) := (hB2.block _ (by omega)).trans p1
  have r2 : w2.heap[w.heap.size + 2]? = some (.map #[] 0) := (hB2.block _ (by omega)).trans p2
  have hcv : CV (w2.alloc (.cells (nC w.heap.size (Nd.new n t me dl)).toArray 68)) (w.heap.size + 6) (nC w.heap.size (Nd.new n t me dl)) := CV.newAt w2 (nC w.heap.size (Nd.new n t me dl)) _ _ hz2.symm
  refine bodyPost_ret (v := .tuple #[pN w.heap.size, .int .i64 0]) (by simp [results, Try.results9, go_sem]) rfl ⟨rfl, balloc hB _, by rw [World.size_alloc]; omega, ?_⟩
  exact ⟨hcv, HM.new ((Below.heap_alloc _ _ _ (by omega)).trans r1), MM.new ((Below.heap_alloc _ _ _ (by omega)).trans r2), HM.new ((Below.heap_alloc _ _ _ (by omega)).trans p3), MM.new ((Below.heap_alloc _ _ _ (by omega)).trans p4)⟩
set_option maxHeartbeats 2000000 in
theorem cMake_no (n t me dl : Int) (w : World) (h : okM n t me dl = false) (hn : (-9223372036854775808 ≤ n ∧ n ≤ 9223372036854775807) ∧ -9223372036854775808 ≤ t ∧ t ≤ 9223372036854775807) :
    Calls Try.prog 9 #[.int .i64 n, .int .i64 t, .int .i64 me, .int .i64 dl] w fun e' w' => e' = .returned (.tuple #[.pointer none, .int .i64 2]) ∧ Below w.heap.size w w' := by
  simp only [okM, decide_eq_false_iff_not] at h
  by_cases a1 : 0 ≤ t
  · by_cases a2 : t ≤ 5
    · have e1 := wr64 (n := 3 * t) (by omega)
      have e2 := wr64 (n := 3 * t + 1) (by omega)
      by_cases a3 : 3 * t + 1 ≤ n
      · by_cases a4 : n ≤ 16
        · by_cases a5 : 1 ≤ me ∧ me ≤ n
          · have a6 : ¬ (1 ≤ dl ∧ dl ≤ n) := fun h2 => h ⟨⟨a1, a2⟩, ⟨a3, a4⟩, a5, h2⟩
            have i1 : ∀ u, Calls Try.prog 26 #[.int .i64 n, .int .i64 me] u fun e u' => e = .returned (.bool true) ∧ u' = u := fun u => by
              have := cIsNode n me u
              rw [decide_eq_true a5] at this; exact this
            have i2 : ∀ u, Calls Try.prog 26 #[.int .i64 n, .int .i64 dl] u fun e u' => e = .returned (.bool false) ∧ u' = u := fun u => by
              have := cIsNode n dl u
              rw [decide_eq_false a6] at this; exact this
            clear a5 a6 h
            go_enter Try.func9, Try.ntmps9
            go_wp2_with (first | (go_at_call_of 26 (Value.int IntKind.i64 me); refine (i1 _).mono ?_; rintro e w1 ⟨rfl, hu⟩; rw [hu]; clear hu) | (go_at_call_of 26 (Value.int IntKind.i64 dl); refine (i2 _).mono ?_; rintro e w1 ⟨rfl, hu⟩; rw [hu]; clear hu))
            refine bodyPost_ret (v := .tuple #[.pointer none, .int .i64 2]) (by simp [results, Try.results9, go_sem]) rfl ⟨rfl, bself w⟩
          · have i1 : ∀ u, Calls Try.prog 26 #[.int .i64 n, .int .i64 me] u fun e u' => e = .returned (.bool false) ∧ u' = u := fun u => by
              have := cIsNode n me u
              rw [decide_eq_false a5] at this; exact this
            clear a5 h
            go_enter Try.func9, Try.ntmps9
            go_wp2_with (first | (go_at_call_of 26 (Value.int IntKind.i64 me); refine (i1 _).mono ?_; rintro e w1 ⟨rfl, hu⟩; rw [hu]; clear hu))
            refine bodyPost_ret (v := .tuple #[.pointer none, .int .i64 2]) (by simp [results, Try.results9, go_sem]) rfl ⟨rfl, bself w⟩
        · clear h
          go_enter Try.func9, Try.ntmps9
          go_wp2
          refine bodyPost_ret (v := .tuple #[.pointer none, .int .i64 2]) (by simp [results, Try.results9, go_sem]) rfl ⟨rfl, bself w⟩
      · clear h
        go_enter Try.func9, Try.ntmps9
        go_wp2
        refine bodyPost_ret (v := .tuple #[.pointer none, .int .i64 2]) (by simp [results, Try.results9, go_sem]) rfl ⟨rfl, bself w⟩
    · clear h
      go_enter Try.func9, Try.ntmps9
      go_wp2
      refine bodyPost_ret (v := .tuple #[.pointer none, .int .i64 2]) (by simp [results, Try.results9, go_sem]) rfl ⟨rfl, bself w⟩
  · clear h
    go_enter Try.func9, Try.ntmps9
    go_wp2
    refine bodyPost_ret (v := .tuple #[.pointer none, .int .i64 2]) (by simp [results, Try.results9, go_sem]) rfl ⟨rfl, bself w⟩
end Go.Proofs.Ythncmahhnbpbkaa
