/- Cast: all is handed on; how many delivered; moves. -/
import Derived.Test.YthncmahhnbpbkaaKW7
import Derived.Deep.QuietTactic
import Derived.BigQuiet
namespace Go.Proofs.Ythncmahhnbpbkaa
open Go.RowKit
set_option linter.unusedVariables false
set_option linter.unusedSimpArgs false
set_option maxRecDepth 100000
/-- A world in memory, in order. -/
structure WI (p : Pl) (t bad n dl : Nat) (vl : Option ByteArray) (pot : Nat) (u : World) (W : Wd) : Prop where
  m : WM p t bad n u W
  i : InvB t bad n dl vl W W.wait
  l : W.pot bad n ≤ pot
  lo : p.lo ≤ u.heap.size
structure WN (t bad n pot : Nat) : Prop where
  b : bad ≤ t
  n : bad ≤ n ∧ n ≤ 16
  p : pot ≤ 800
section
variable {p : Pl} {t bad n dl pot : Nat} {vl : Option ByteArray} {W : Wd} {u0 : World}
theorem WI.wl (h : WI p t bad n dl vl pot u0 W) (g : WN t bad n pot) : W.wait.length + (n - bad) ≤ 900 := by
  have h1 := h.l
  have h2 := g.p
  have h3 := g.n
  unfold Wd.pot at h1
  generalize (n - bad) * sumN _ _ = z at h1
  omega
theorem WI.below {u1 : World} (h : WI p t bad n dl vl pot u0 W) (hB : Below u0.heap.size u0 u1) : WI p t bad n dl vl pot u1 W := ⟨h.m.below hB, h.i, h.l, Nat.le_trans h.lo hB.size⟩
set_option maxHeartbeats 4000000 in
theorem cHand (at' : Int) (h : WI p t bad n dl vl pot u0 W) (g : WN t bad n pot) :
    Calls Try.prog 37 #[pW p.wb, .int .i64 at'] u0 fun e' u' => e' = .returned (.tuple #[]) ∧ ∃ W', WI p t bad n dl vl pot u' W' ∧ Below p.lo u0 u' ∧ ((W.wait = [] ∧ W' = W ∧ u' = u0) ∨ (0 < W.wait.length ∧ W'.pot bad n + 1 = W.pot bad n)) := by
  have hwl := h.wl g
  by_cases hw : 0 < W.wait.length
  · obtain ⟨tb, mb, vt, vm, hQ⟩ := h.m
    refine (cHand_core p t bad n dl vl W tb mb vt vm u0 at' hQ h.i g.b g.n hwl h.lo hw).mono ?_
    rintro e u' ⟨rfl, W', h1, h2, h3, h4⟩
    have := h.l
    exact ⟨rfl, W', ⟨h1, h2, by omega, Nat.le_trans h.lo h4.size⟩, h4, .inr ⟨hw, h3⟩⟩
  · have hw0 : W.wait = [] := List.eq_nil_of_length_eq_zero (by omega)
    obtain ⟨tb, mb, vt, vm, hQ⟩ := h.m
    have hom := hQ.om
    rw [hw0] at hom
    obtain ⟨sl, c, e, _⟩ := hom.sl
    have e : vm = .slice sl 0 c := e
    have c5 := (hQ.cw 5 _ rfl).1
    rw [e] at c5
    go_enter Try.func37, Try.ntmps37
    go_wp2
    refine bodyPost_ret (v := .tuple #[]) (by simp [results, Try.results37, go_sem]) rfl ⟨rfl, W, h, Below.refl _ _, .inl ⟨hw0, rfl, rfl⟩⟩
set_option maxHeartbeats 4000000 in
theorem cFinish (h : WI p t bad n dl vl pot u0 W) (g : WN t bad n pot) :
    Calls Try.prog 23 #[pW p.wb] u0 fun e' u' => e' = .returned (.tuple #[]) ∧ ∃ W', WI p t bad n dl vl pot u' W' ∧ Below p.lo u0 u' ∧ W'.wait = [] := by
  have gp := g.p
  go_enter Try.func23, Try.ntmps23
  go_wp2_with fail
  go_loopw [2] (fun s2 wr => ∃ (i : Nat) (W' : Wd), s2 = .int .i64 (i : Int) ∧ WI p t bad n dl vl pot wr W' ∧ Below p.lo u0 wr ∧ W'.pot bad n + i ≤ pot) (fun s2 _ => 5000 - (intOf s2).toNat)
  case atStart => exact ⟨0, W, rfl, h, Below.refl _ _, h.l⟩
  case round =>
    obtain ⟨i, W', rfl, hW, hB, hp⟩ := hrel
    have hi : (i : Int) < 5000 := by omega
    have hH := cHand 0 hW g
    obtain ⟨tb, mb, vt, vm, hQ⟩ := hW.m
    obtain ⟨sl, c, e, _⟩ := hQ.om.sl
    have c5 := (hQ.cw 5 _ rfl).1
    rw [e] at c5
    have ew := wr64 (n := (i : Int) + 1) (by omega)
    by_cases hw : 0 < W'.wait.length
    · have hwc : (0 : Int) < (W'.wait.length : Int) := by omega
      go_wp2_with (first | (go_at_call 37; refine hH.mono ?_; rintro e w1 ⟨rfl, W2, h1, h2, h3⟩))
      rcases h3 with ⟨h3, _⟩ | ⟨_, h3⟩
      · rw [h3] at hw; simp at hw
      · exact ⟨⟨i + 1, W2, by simp, h1, hB.trans h2, by omega⟩, by simp [intOf]; omega⟩
    · have hwc : ¬ (0 : Int) < (W'.wait.length : Int) := by omega
      have hw0 : W'.wait = [] := List.eq_nil_of_length_eq_zero (by omega)
      go_wp2
      refine bodyPost_end (v := .tuple #[]) (by simp [results, Try.results23, go_sem]) rfl ⟨rfl, W', hW, hB, hw0⟩
set_option maxHeartbeats 4000000 in
/-- All delivered, or none. -/
theorem cDelivered (y : Bool) (h : WI p t bad n dl vl pot u0 W) (g : WN t bad n pot) (hy : ∀ j, bad < j → j ≤ n → (W.nd j).d.isSome = y) :
    Calls Try.prog 24 #[pW p.wb] u0 fun e' u' => e' = .returned (.int .i64 (if y then ((n - bad : Nat) : Int) else 0)) ∧ Below u0.heap.size u0 u' := by
  have gn := g.n
  have hW := h.m
  have hI := h.i
  obtain ⟨c0, c2, c3, hcells⟩ := hW.cells
  go_enter Try.func24, Try.ntmps24
  go_wp2_with fail
  go_loopw [4, 3] (fun s4 s3 wr => ∃ j : Nat, bad ≤ j ∧ j ≤ n ∧ s4 = .int .i64 (j : Int) ∧ s3 = .int .i64 (if y then ((j - bad : Nat) : Int) else 0) ∧ Below u0.heap.size u0 wr) (fun s4 _ _ => n - (intOf s4).toNat)
  case atStart => exact ⟨bad, by omega, gn.1, rfl, by cases y <;> simp, bself u0⟩
  case round =>
    obtain ⟨j, hj1, hj2, rfl, rfl, hB⟩ := hrel
    obtain ⟨c0, c2, c3, hcells⟩ := (hW.below hB).cells
    by_cases hjn : j < n
    · have hjc : (j : Int) < (n : Int) := by omega
      obtain ⟨d0, d1, d2, d3⟩ := hcells j hjn
      have hok := (hW.below hB).ok
      have hcn := hok.c1
      have hnum := hI.num (j + 1) (by omega) (by omega)
      have hV := cValue (p.bs (j + 1) + 6) _ _ _ wr d1 d2 d3 (by have := hnum.1; omega)
      have ew := wr64 (n := (j : Int) + 1) (by omega)
      have hjx : (0 : Int) ≤ (j : Int) := by omega
      rw [hy (j + 1) (by omega) (by omega)] at hV
      clear hcells d1 d2 d3
      cases y with
      | false =>
        go_wp2_with (first | (go_at_call 16; refine hV.mono ?_; rintro e w1 ⟨rfl, hB1⟩))
        exact ⟨⟨j + 1, by omega, by omega, by simp, by simp, bstep hB hB1⟩, by simp [intOf]; omega⟩
      | true =>
        have ew3 := wr64 (n := ((j - bad : Nat) : Int) + 1) (by omega)
        go_wp2_with (first | (go_at_call 16; refine hV.mono ?_; rintro e w1 ⟨rfl, hB1⟩))
        exact ⟨⟨j + 1, by omega, by omega, by simp, by simp; omega, bstep hB hB1⟩, by simp [intOf]; omega⟩
    · have hjc : ¬ (j : Int) < (n : Int) := by omega
      obtain rfl : j = n := by omega
      clear hcells
      cases y with
      | false =>
        go_wp2
        refine bodyPost_ret (v := .int .i64 0) (by simp [results, Try.results24, go_sem]) rfl ⟨rfl, hB⟩
      | true =>
        go_wp2
        refine bodyPost_ret (v := .int .i64 ((j - bad : Nat) : Int)) (by simp [results, Try.results24, go_sem]) rfl ⟨rfl, hB⟩
end
end Go.Proofs.Ythncmahhnbpbkaa
