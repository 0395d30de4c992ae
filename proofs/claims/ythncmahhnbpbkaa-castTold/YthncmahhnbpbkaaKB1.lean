/- Cast: Start. -/
import Derived.Test.YthncmahhnbpbkaaKB0
namespace Go.Proofs.Ythncmahhnbpbkaa
open Go.RowKit Go.ChangeMaps Go.Maps Go.WideMaps
set_option linter.unusedVariables false
set_option linter.unusedSimpArgs false
/-- It began. -/
def Nd.beg (x : Nd) : Nd := { x with bg := true }
theorem msg3 {u : World} {b : Nat} {a0 a1 a2 : Value} (h : CV u b [a0, a1, a2]) (v0 v1 v2 : Value) : CV (((u.setCell ⟨b, 0, none⟩ v0).setCell ⟨b, 1, none⟩ v1).setCell ⟨b, 2, none⟩ v2) b [v0, v1, v2] := ((h.setC 0 (by simp) v0).setC 1 (by simp) v1).setC 2 (by simp) v2
theorem msg3_kp {u : World} {b : Nat} (v0 v1 v2 : Value) : Kp b (b + 1) u (((u.setCell ⟨b, 0, none⟩ v0).setCell ⟨b, 1, none⟩ v1).setCell ⟨b, 2, none⟩ v2) :=
  (((Kp.refl b (b + 1) u).cell (p := ⟨b, 0, none⟩) (by simp) (by simp) _).cell (p := ⟨b, 1, none⟩) (by simp) (by simp) _).cell (p := ⟨b, 2, none⟩) (by simp) (by simp) _
set_option maxHeartbeats 2000000 in
theorem cStart_nil (v : ByteArray) (w : World) : Calls Try.prog 12 #[.pointer none, .string v] w fun e' w' => e' = .returned (.tuple #[MX 0 0 noS, .int .i64 1]) ∧ Below w.heap.size w w' := by
  go_enter Try.func12, Try.ntmps12
  go_wp2_with (first | (go_at_call 28; refine (cIsMade0 _).mono ?_; rintro e w1 ⟨rfl, hu⟩; rw [hu]; clear hu))
  refine bodyPost_ret (v := .tuple #[MX 0 0 noS, .int .i64 1]) (by simp [results, Try.results12, go_sem]) rfl ⟨rfl, balloc (bself w) _⟩
set_option maxHeartbeats 2000000 in
theorem cStart_zero (b : Nat) (v : ByteArray) (w : World) (h0 : w.cell? ⟨b, 0, none⟩ = some (.int .i64 0)) : Calls Try.prog 12 #[.pointer (some ⟨b, 0, none⟩), .string v] w fun e' w' => e' = .returned (.tuple #[MX 0 0 noS, .int .i64 1]) ∧ Below w.heap.size w w' := by
  have hb := World.block_lt_of_cell? w _ h0
  have h1 : (w.alloc (.cells #[.int .i64 0, .int .i64 0, .string noS] 32)).cell? ⟨b, 0, none⟩ = some (.int .i64 0) := by rw [(balloc (bself w) _).cell (by exact hb)]; exact h0
  have hc := cIsMade b 0 _ h1
  rw [decide_eq_false (by omega)] at hc
  go_enter Try.func12, Try.ntmps12
  go_wp2_with (first | (go_at_call 28; refine hc.mono ?_; rintro e w1 ⟨rfl, hu⟩; rw [hu]; clear hu))
  refine bodyPost_ret (v := .tuple #[MX 0 0 noS, .int .i64 1]) (by simp [results, Try.results12, go_sem]) rfl ⟨rfl, balloc (bself w) _⟩
set_option maxHeartbeats 2000000 in
theorem cStart_cast (s : Nat) (x : Nd) (v : ByteArray) (w : World) (h : NM w s x) (hn : 0 < x.n) (hv : v.size ≤ maxLen) (h1 : x.me ≠ x.dl) : Calls Try.prog 12 #[pN s, .string v] w fun e' w' => e' = .returned (.tuple #[MX 0 0 noS, .int .i64 150]) ∧ Below w.heap.size w w' := by
  have hB0 : Below w.heap.size w (w.alloc (.cells #[.int .i64 0, .int .i64 0, .string noS] 32)) := balloc (bself w) _
  have hN := h.kp (lo := s + 7) (hi := s + 7) hB0.kp (.inl (Nat.le_refl _))
  have hc := hN.c
  have hr : CV (w.alloc (.cells #[.int .i64 0, .int .i64 0, .string noS] 32)) w.heap.size [.int .i64 0, .int .i64 0, .string noS] := CV.new w [.int .i64 0, .int .i64 0, .string noS] _
  have ls := h.c.lt (by simp)
  go_enter Try.func12, Try.ntmps12
  go_upto_region 1 with fail
  generalize (w.alloc (.cells #[.int .i64 0, .int .i64 0, .string noS] 32)) = v0 at *
  have x0 := (hc 0 _ rfl).1
  have x2 := (hc 2 _ rfl).1
  have x3 := (hc 3 _ rfl).1
  have x4 := (hc 4 _ rfl).1
  have f4 := (hc 4 _ rfl).2
  have r0 := (hr 0 _ rfl).1
  have r1 := (hr 1 _ rfl).1
  have r2 := (hr 2 _ rfl).1
  have g0 := (hr 0 _ rfl).2
  have g1 := (hr 1 _ rfl).2
  have g2 := (hr 2 _ rfl).2
  have hi := cIsMade (s + 6) x.n v0 x0
  rw [decide_eq_true hn] at hi
  have es : ((v.size : Nat) : Int) = (v.size : Int) := rfl
  go_upto_region 3 with (first | (go_at_call 28; refine hi.mono ?_; rintro e w1 ⟨rfl, hu⟩; rw [hu]; clear hu))
  go_quiet (fail)
  go_wp2
  have hf := msg3 (show CV (v0.drewN nq) w.heap.size _ from hr) (.int .i64 0) (.int .i64 0) (.string noS)
  have hk := msg3_kp (u := (v0.drewN nq)) (b := w.heap.size) (.int .i64 0) (.int .i64 0) (.string noS)
  generalize ((((v0.drewN nq).setCell ⟨w.heap.size, 0, none⟩ (.int .i64 0)).setCell ⟨w.heap.size, 1, none⟩ (.int .i64 0)).setCell ⟨w.heap.size, 2, none⟩ (.string noS)) = U at *
  have k0 := (hf 0 _ rfl).1
  have k1 := (hf 1 _ rfl).1
  have k2 := (hf 2 _ rfl).1
  refine bodyPost_ret (v := .tuple #[MX 0 0 noS, .int .i64 150]) (by simp [results, Try.results12, go_sem, k0, k1, k2]) rfl ⟨rfl, ?_⟩
  exact (bdN hB0 nq).trans (hk.bel (Nat.le_refl _) (bdN hB0 nq).size)
set_option maxHeartbeats 2000000 in
theorem cStart_long (s : Nat) (x : Nd) (v : ByteArray) (w : World) (h : NM w s x) (hn : 0 < x.n) (hv : v.size ≤ maxLen) (h1 : x.me = x.dl) (h2 : 4096 < v.size) : Calls Try.prog 12 #[pN s, .string v] w fun e' w' => e' = .returned (.tuple #[MX 0 0 noS, .int .i64 3]) ∧ Below w.heap.size w w' := by
  have hB0 : Below w.heap.size w (w.alloc (.cells #[.int .i64 0, .int .i64 0, .string noS] 32)) := balloc (bself w) _
  have hN := h.kp (lo := s + 7) (hi := s + 7) hB0.kp (.inl (Nat.le_refl _))
  have hc := hN.c
  have hr : CV (w.alloc (.cells #[.int .i64 0, .int .i64 0, .string noS] 32)) w.heap.size [.int .i64 0, .int .i64 0, .string noS] := CV.new w [.int .i64 0, .int .i64 0, .string noS] _
  have ls := h.c.lt (by simp)
  go_enter Try.func12, Try.ntmps12
  go_upto_region 1 with fail
  generalize (w.alloc (.cells #[.int .i64 0, .int .i64 0, .string noS] 32)) = v0 at *
  have x0 := (hc 0 _ rfl).1
  have x2 := (hc 2 _ rfl).1
  have x3 := (hc 3 _ rfl).1
  have x4 := (hc 4 _ rfl).1
  have f4 := (hc 4 _ rfl).2
  have r0 := (hr 0 _ rfl).1
  have r1 := (hr 1 _ rfl).1
  have r2 := (hr 2 _ rfl).1
  have g0 := (hr 0 _ rfl).2
  have g1 := (hr 1 _ rfl).2
  have g2 := (hr 2 _ rfl).2
  have hi := cIsMade (s + 6) x.n v0 x0
  rw [decide_eq_true hn] at hi
  have es : ((v.size : Nat) : Int) = (v.size : Int) := rfl
  go_upto_region 3 with (first | (go_at_call 28; refine hi.mono ?_; rintro e w1 ⟨rfl, hu⟩; rw [hu]; clear hu))
  go_quiet (fail)
  go_wp2
  have hf := msg3 (show CV (v0.drewN nq) w.heap.size _ from hr) (.int .i64 0) (.int .i64 0) (.string noS)
  have hk := msg3_kp (u := (v0.drewN nq)) (b := w.heap.size) (.int .i64 0) (.int .i64 0) (.string noS)
  generalize ((((v0.drewN nq).setCell ⟨w.heap.size, 0, none⟩ (.int .i64 0)).setCell ⟨w.heap.size, 1, none⟩ (.int .i64 0)).setCell ⟨w.heap.size, 2, none⟩ (.string noS)) = U at *
  have k0 := (hf 0 _ rfl).1
  have k1 := (hf 1 _ rfl).1
  have k2 := (hf 2 _ rfl).1
  refine bodyPost_ret (v := .tuple #[MX 0 0 noS, .int .i64 3]) (by simp [results, Try.results12, go_sem, k0, k1, k2]) rfl ⟨rfl, ?_⟩
  exact (bdN hB0 nq).trans (hk.bel (Nat.le_refl _) (bdN hB0 nq).size)
set_option maxHeartbeats 2000000 in
theorem cStart_same (s : Nat) (x : Nd) (v : ByteArray) (w : World) (h : NM w s x) (hn : 0 < x.n) (hv : v.size ≤ maxLen) (h1 : x.me = x.dl) (h2 : v.size ≤ 4096) (h3 : x.bg = true) : Calls Try.prog 12 #[pN s, .string v] w fun e' w' => e' = .returned (.tuple #[MX 0 0 noS, .int .i64 6]) ∧ Below w.heap.size w w' := by
  have hB0 : Below w.heap.size w (w.alloc (.cells #[.int .i64 0, .int .i64 0, .string noS] 32)) := balloc (bself w) _
  have hN := h.kp (lo := s + 7) (hi := s + 7) hB0.kp (.inl (Nat.le_refl _))
  have hc := hN.c
  have hr : CV (w.alloc (.cells #[.int .i64 0, .int .i64 0, .string noS] 32)) w.heap.size [.int .i64 0, .int .i64 0, .string noS] := CV.new w [.int .i64 0, .int .i64 0, .string noS] _
  have ls := h.c.lt (by simp)
  go_enter Try.func12, Try.ntmps12
  go_upto_region 1 with fail
  generalize (w.alloc (.cells #[.int .i64 0, .int .i64 0, .string noS] 32)) = v0 at *
  have x0 := (hc 0 _ rfl).1
  have x2 := (hc 2 _ rfl).1
  have x3 := (hc 3 _ rfl).1
  have x4 := (hc 4 _ rfl).1
  have f4 := (hc 4 _ rfl).2
  have r0 := (hr 0 _ rfl).1
  have r1 := (hr 1 _ rfl).1
  have r2 := (hr 2 _ rfl).1
  have g0 := (hr 0 _ rfl).2
  have g1 := (hr 1 _ rfl).2
  have g2 := (hr 2 _ rfl).2
  have hi := cIsMade (s + 6) x.n v0 x0
  rw [decide_eq_true hn] at hi
  have es : ((v.size : Nat) : Int) = (v.size : Int) := rfl
  go_upto_region 3 with (first | (go_at_call 28; refine hi.mono ?_; rintro e w1 ⟨rfl, hu⟩; rw [hu]; clear hu))
  go_quiet (fail)
  go_wp2
  have hf := msg3 (show CV (v0.drewN nq) w.heap.size _ from hr) (.int .i64 0) (.int .i64 0) (.string noS)
  have hk := msg3_kp (u := (v0.drewN nq)) (b := w.heap.size) (.int .i64 0) (.int .i64 0) (.string noS)
  generalize ((((v0.drewN nq).setCell ⟨w.heap.size, 0, none⟩ (.int .i64 0)).setCell ⟨w.heap.size, 1, none⟩ (.int .i64 0)).setCell ⟨w.heap.size, 2, none⟩ (.string noS)) = U at *
  have k0 := (hf 0 _ rfl).1
  have k1 := (hf 1 _ rfl).1
  have k2 := (hf 2 _ rfl).1
  refine bodyPost_ret (v := .tuple #[MX 0 0 noS, .int .i64 6]) (by simp [results, Try.results12, go_sem, k0, k1, k2]) rfl ⟨rfl, ?_⟩
  exact (bdN hB0 nq).trans (hk.bel (Nat.le_refl _) (bdN hB0 nq).size)
set_option maxHeartbeats 2000000 in
theorem cStart_ok (s : Nat) (x : Nd) (v : ByteArray) (w : World) (h : NM w s x) (hn : 0 < x.n) (hv : v.size ≤ maxLen) (h1 : x.me = x.dl) (h2 : v.size ≤ 4096) (h3 : x.bg = false) : Calls Try.prog 12 #[pN s, .string v] w fun e' w' => e' = .returned (.tuple #[MX 1 x.dl v, .int .i64 0]) ∧ Kp s (s + 7) w w' ∧ NM w' s x.beg := by
  have hB0 : Below w.heap.size w (w.alloc (.cells #[.int .i64 0, .int .i64 0, .string noS] 32)) := balloc (bself w) _
  have hN := h.kp (lo := s + 7) (hi := s + 7) hB0.kp (.inl (Nat.le_refl _))
  have hc := hN.c
  have hr : CV (w.alloc (.cells #[.int .i64 0, .int .i64 0, .string noS] 32)) w.heap.size [.int .i64 0, .int .i64 0, .string noS] := CV.new w [.int .i64 0, .int .i64 0, .string noS] _
  have ls := h.c.lt (by simp)
  go_enter Try.func12, Try.ntmps12
  go_upto_region 1 with fail
  generalize (w.alloc (.cells #[.int .i64 0, .int .i64 0, .string noS] 32)) = v0 at *
  have x0 := (hc 0 _ rfl).1
  have x2 := (hc 2 _ rfl).1
  have x3 := (hc 3 _ rfl).1
  have x4 := (hc 4 _ rfl).1
  have f4 := (hc 4 _ rfl).2
  have r0 := (hr 0 _ rfl).1
  have r1 := (hr 1 _ rfl).1
  have r2 := (hr 2 _ rfl).1
  have g0 := (hr 0 _ rfl).2
  have g1 := (hr 1 _ rfl).2
  have g2 := (hr 2 _ rfl).2
  have hi := cIsMade (s + 6) x.n v0 x0
  rw [decide_eq_true hn] at hi
  have es : ((v.size : Nat) : Int) = (v.size : Int) := rfl
  go_upto_region 3 with (first | (go_at_call 28; refine hi.mono ?_; rintro e w1 ⟨rfl, hu⟩; rw [hu]; clear hu))
  go_quiet (fail)
  have hr2 : CV (((v0.drewN nq)).setCell ⟨s + 6, 4, none⟩ (.bool true)) w.heap.size _ := CV.kp (show CV (v0.drewN nq) w.heap.size _ from hr) ((Kp.refl s (s + 7) (v0.drewN nq)).cell (p := ⟨s + 6, 4, none⟩) (by simp) (by simp) _) (hr.lt (by simp)) (.inr (by omega))
  have hc2 : CV ((v0.drewN nq).setCell ⟨s + 6, 4, none⟩ (.bool true)) (s + 6) (nC s x.beg) := (show CV (v0.drewN nq) (s + 6) (nC s x) from hc).setC 4 (by simp) (.bool true)
  have hN2 : NM ((v0.drewN nq).setCell ⟨s + 6, 4, none⟩ (.bool true)) s x.beg := NM.mid (w := v0.drewN nq) ⟨hN.c, hN.h1, hN.m1, hN.h2, hN.m2⟩ hc2 rfl rfl fun k _ hk => Below.heap_setCell _ _ _ _ hk
  have hk2 : Kp s (s + 7) w ((v0.drewN nq).setCell ⟨s + 6, 4, none⟩ (.bool true)) := (hB0.kp.drewN nq).cell (p := ⟨s + 6, 4, none⟩) (by simp) (by simp) _
  have y2 : ((v0.drewN nq).setCell ⟨s + 6, 4, none⟩ (.bool true)).cell? ⟨s + 6, 2, none⟩ = some (.int .i64 x.dl) := by rw [← h1]; exact (hc2 2 _ rfl).1
  have t0 := hr2 0 _ rfl
  have t1 := hr2 1 _ rfl
  have t2 := hr2 2 _ rfl
  go_upto_region 10 with fail
  generalize ((v0.drewN nq).setCell ⟨s + 6, 4, none⟩ (.bool true)) = u1 at *
  have a0 := t0.1
  have a1 := t1.1
  have a2 := t2.1
  have b0 := t0.2
  have b1 := t1.2
  have b2 := t2.2
  go_wp2
  have hf := msg3 hr2 (.int .i64 1) (.int .i64 x.dl) (.string v)
  have hk := msg3_kp (u := u1) (b := w.heap.size) (.int .i64 1) (.int .i64 x.dl) (.string v)
  generalize (((u1.setCell ⟨w.heap.size, 0, none⟩ (.int .i64 1)).setCell ⟨w.heap.size, 1, none⟩ (.int .i64 x.dl)).setCell ⟨w.heap.size, 2, none⟩ (.string v)) = U at *
  have k0 := (hf 0 _ rfl).1
  have k1 := (hf 1 _ rfl).1
  have k2 := (hf 2 _ rfl).1
  refine bodyPost_ret (v := .tuple #[MX 1 x.dl v, .int .i64 0]) (by simp [results, Try.results12, go_sem, k0, k1, k2]) rfl ⟨rfl, ?_⟩
  have hk3 := hk2.size
  have hsz := hr2.lt (by simp)
  exact ⟨⟨hk.os.trans hk2.os, hk.tape.trans hk2.tape, hk.output.trans hk2.output, Nat.le_trans hk2.size hk.size, fun j hj hh => (hk.block j (by omega) (by omega)).trans (hk2.block j hj hh)⟩, hN2.kp hk (.inl (by omega))⟩
end Go.Proofs.Ythncmahhnbpbkaa
