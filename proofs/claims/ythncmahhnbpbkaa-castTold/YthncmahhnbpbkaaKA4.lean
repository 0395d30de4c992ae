/- Cast: counting a message. -/
import Derived.Test.YthncmahhnbpbkaaKA3
namespace Go.Proofs.Ythncmahhnbpbkaa
open Go.RowKit Go.ChangeMaps Go.Maps Go.WideMaps
set_option linter.unusedVariables false
set_option linter.unusedSimpArgs false
theorem fs_app (l : List (Int × ByteArray)) (f : Int) (v : ByteArray) : fs (l ++ [(f, v)]) = fs l ++ [f] := by simp [fs]
theorem cnt_nil (v : ByteArray) : cnt [] v = 0 := rfl
theorem cnt_app (l : List (Int × ByteArray)) (f : Int) (v : ByteArray) : cnt (l ++ [(f, v)]) = up1 (cnt l) v (cnt l v + 1) := by
  funext y
  unfold cnt up1
  by_cases h : y = v
  · subst h; simp
  · have : ¬ v = y := fun e => h e.symm
    simp [h, this]
theorem cnt_le (l : List (Int × ByteArray)) (v : ByteArray) : 0 ≤ cnt l v ∧ cnt l v ≤ l.length := by
  unfold cnt
  have := List.length_filter_le (fun x : Int × ByteArray => decide (x.2 = v)) l
  omega
/-- An echo is counted, if it is its sender's first. -/
def Nd.addE (x : Nd) (f : Int) (v : ByteArray) : Nd := if f ∈ fs x.ec then x else { x with ec := x.ec ++ [(f, v)] }
def Nd.addR (x : Nd) (f : Int) (v : ByteArray) : Nd := if f ∈ fs x.rd then x else { x with rd := x.rd ++ [(f, v)] }
theorem ent_addC (vs : Array Value) (w : World) : (callFunc 38 vs).run Try.prog w = .ok (.enter 38 vs) w := by kernel_rfl
set_option maxHeartbeats 1000000 in
theorem cCount2 (s : Nat) (x : Nd) (f : Int) (v : ByteArray) (w : World) (hf : (Lit.int .i64 f).wf = true) (hv : v.size ≤ maxLen) (hl : x.ec.length ≤ 100) (h : NM w s x) (bb : Bool) (ebb : decide (f ∉ fs x.ec) = bb) :
    Calls Try.prog 30 #[pN s, MX 2 f v] w fun e' w' => e' = .returned (.bool bb) ∧ Kp s (s + 7) w w' ∧ NM w' s (x.addE f v) := by
  go_enter Try.func30, Try.ntmps30
  go_upto_region 1 with fail
  have hB0 : Below w.heap.size w (w.alloc (.cells #[.int .i64 2, .int .i64 f, .string v] 32)) := balloc (bself w) _
  have hm : CV (w.alloc (.cells #[.int .i64 2, .int .i64 f, .string v] 32)) w.heap.size [.int .i64 2, .int .i64 f, .string v] := CV.new w [.int .i64 2, .int .i64 f, .string v] _
  have ls := h.c.lt (by simp)
  have hx := h.kp (lo := s + 7) (hi := s + 7) hB0.kp (.inl (Nat.le_refl _))
  generalize (w.alloc (.cells #[.int .i64 2, .int .i64 f, .string v] 32)) = v0 at *
  have m0 := (hm 0 _ rfl).1
  have m1 := (hm 1 _ rfl).1
  have m2 := (hm 2 _ rfl).1
  have hxc := hx.c
  have x5 := (hxc 5 _ rfl).1
  have x6 := (hxc 6 _ rfl).1
  have hb := cnt_le x.ec v
  have hA := cAdd (s + 1) (s + 2) (by omega) (fs x.ec) (cnt x.ec) f v v0.drew hf hv hx.h1 hx.m1 ⟨hb.1, by omega⟩
  rw [ebb] at hA
  go_upto_region 3 with fail
  go_region_with (go_at_call 38; refine hA.mono ?_; rintro e w1 ⟨rfl, hk, g1, g2⟩)
  all_goals
    go_wp2
    have hk7 : Kp s (s + 7) w w1 := hB0.kp.drew.trans (Kp.wide (lo' := s) (hi' := s + 7) hk (by omega) (by omega))
    refine bodyPost_ret (v := .bool bb) (by simp [results, Try.results30, go_sem]) rfl ⟨rfl, hk7, ?_⟩
    have hc6 : CV w1 (s + 6) (nC s x) := hxc.drew.kp hk (Nat.lt_of_lt_of_le ls hB0.size) (.inr (by omega))
    have g4 : HM w1 (s + 4) (fs x.rd) := hx.h2.same (hk.block _ hx.h2.lt (by omega))
    have g5 : MM w1 (s + 5) (cnt x.rd) := hx.m2.same (hk.block _ hx.m2.lt (by omega))
    unfold Nd.addE
    by_cases hm : f ∈ fs x.ec
    · rw [if_pos hm]
      exact ⟨hc6, (g1 hm).1, (g1 hm).2, g4, g5⟩
    · rw [if_neg hm]
      refine ⟨hc6, ?_, ?_, g4, g5⟩
      · rw [fs_app]; exact (g2 hm).1
      · rw [cnt_app]; exact (g2 hm).2
set_option maxHeartbeats 1000000 in
theorem cCount3 (s : Nat) (x : Nd) (f : Int) (v : ByteArray) (w : World) (hf : (Lit.int .i64 f).wf = true) (hv : v.size ≤ maxLen) (hl : x.rd.length ≤ 100) (h : NM w s x) (bb : Bool) (ebb : decide (f ∉ fs x.rd) = bb) :
    Calls Try.prog 30 #[pN s, MX 3 f v] w fun e' w' => e' = .returned (.bool bb) ∧ Kp s (s + 7) w w' ∧ NM w' s (x.addR f v) := by
  go_enter Try.func30, Try.ntmps30
  go_upto_region 1 with fail
  have hB0 : Below w.heap.size w (w.alloc (.cells #[.int .i64 3, .int .i64 f, .string v] 32)) := balloc (bself w) _
  have hm : CV (w.alloc (.cells #[.int .i64 3, .int .i64 f, .string v] 32)) w.heap.size [.int .i64 3, .int .i64 f, .string v] := CV.new w [.int .i64 3, .int .i64 f, .string v] _
  have ls := h.c.lt (by simp)
  have hx := h.kp (lo := s + 7) (hi := s + 7) hB0.kp (.inl (Nat.le_refl _))
  generalize (w.alloc (.cells #[.int .i64 3, .int .i64 f, .string v] 32)) = v0 at *
  have m0 := (hm 0 _ rfl).1
  have m1 := (hm 1 _ rfl).1
  have m2 := (hm 2 _ rfl).1
  have hxc := hx.c
  have x5 := (hxc 7 _ rfl).1
  have x6 := (hxc 8 _ rfl).1
  have hb := cnt_le x.rd v
  have hA := cAdd (s + 4) (s + 5) (by omega) (fs x.rd) (cnt x.rd) f v v0.drew hf hv hx.h2 hx.m2 ⟨hb.1, by omega⟩
  rw [ebb] at hA
  go_upto_region 5 with fail
  go_region_with (go_at_call 38; refine hA.mono ?_; rintro e w1 ⟨rfl, hk, g1, g2⟩)
  all_goals
    go_wp2
    have hk7 : Kp s (s + 7) w w1 := hB0.kp.drew.trans (Kp.wide (lo' := s) (hi' := s + 7) hk (by omega) (by omega))
    refine bodyPost_ret (v := .bool bb) (by simp [results, Try.results30, go_sem]) rfl ⟨rfl, hk7, ?_⟩
    have hc6 : CV w1 (s + 6) (nC s x) := hxc.drew.kp hk (Nat.lt_of_lt_of_le ls hB0.size) (.inr (by omega))
    have g4 : HM w1 (s + 1) (fs x.ec) := hx.h1.same (hk.block _ hx.h1.lt (by omega))
    have g5 : MM w1 (s + 2) (cnt x.ec) := hx.m1.same (hk.block _ hx.m1.lt (by omega))
    unfold Nd.addR
    by_cases hm : f ∈ fs x.rd
    · rw [if_pos hm]
      exact ⟨hc6, g4, g5, (g1 hm).1, (g1 hm).2⟩
    · rw [if_neg hm]
      refine ⟨hc6, g4, g5, ?_, ?_⟩
      · rw [fs_app]; exact (g2 hm).1
      · rw [cnt_app]; exact (g2 hm).2
set_option maxHeartbeats 1000000 in
theorem cCount1 (s : Nat) (x : Nd) (f : Int) (v : ByteArray) (w : World) (h : CV w (s + 6) (nC s x)) :
    Calls Try.prog 30 #[pN s, MX 1 f v] w fun e' w' => e' = .returned (.bool (!x.e.isSome)) ∧ Below w.heap.size w w' := by
  go_enter Try.func30, Try.ntmps30
  go_upto_region 1 with fail
  have hB0 : Below w.heap.size w (w.alloc (.cells #[.int .i64 1, .int .i64 f, .string v] 32)) := balloc (bself w) _
  have hm : CV (w.alloc (.cells #[.int .i64 1, .int .i64 f, .string v] 32)) w.heap.size [.int .i64 1, .int .i64 f, .string v] := CV.new w [.int .i64 1, .int .i64 f, .string v] _
  have hxc := h.below hB0 (h.lt (by simp))
  generalize (w.alloc (.cells #[.int .i64 1, .int .i64 f, .string v] 32)) = v0 at *
  have m0 := (hm 0 _ rfl).1
  have x10 := (hxc 10 _ rfl).1
  go_wp2
  refine bodyPost_ret (v := .bool (!x.e.isSome)) (by simp [results, Try.results30, go_sem]) rfl ⟨rfl, hB0⟩
end Go.Proofs.Ythncmahhnbpbkaa
