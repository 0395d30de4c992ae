/- Cast: do all agree; all is handed on; how many delivered. -/
import Derived.Test.YthncmahhnbpbkaaKW6
namespace Go.Proofs.Ythncmahhnbpbkaa
open Go.RowKit
set_option linter.unusedVariables false
set_option linter.unusedSimpArgs false
set_option maxRecDepth 100000
theorem WM.below {p : Pl} {t bad n : Nat} {u u2 : World} {W : Wd} (h : WM p t bad n u W) (hB : Below u.heap.size u u2) : WM p t bad n u2 W := by
  obtain ⟨tb, mb, vt, vm, hQ⟩ := h
  exact ⟨tb, mb, vt, vm, hQ.ex (Ex.of_bel (A := fun _ => False) hB) (fun _ e => e.elim)⟩
theorem WM.ok {p : Pl} {t bad n : Nat} {u : World} {W : Wd} (h : WM p t bad n u W) : p.ok n u := by
  obtain ⟨tb, mb, vt, vm, hQ⟩ := h
  exact hQ.ok
/-- What of a world its cells tell. -/
theorem WM.cells {p : Pl} {t bad n : Nat} {u : World} {W : Wd} (h : WM p t bad n u W) : u.cell? ⟨p.wb, 0, none⟩ = some (.int .i64 (n : Int)) ∧ u.cell? ⟨p.wb, 2, none⟩ = some (.int .i64 (bad : Int)) ∧ u.cell? ⟨p.wb, 3, none⟩ = some (.slice (some ⟨p.nb, 0, none⟩) n p.cn) ∧ ∀ i, i < n → u.cell? ⟨p.nb, i, none⟩ = some (.pointer (some ⟨p.bs (i + 1) + 6, 0, none⟩)) ∧ u.cell? ⟨p.bs (i + 1) + 6, 0, none⟩ = some (.int .i64 (W.nd (i + 1)).n) ∧ u.cell? ⟨p.bs (i + 1) + 6, 13, none⟩ = some (.string ((W.nd (i + 1)).d.getD noS)) ∧ u.cell? ⟨p.bs (i + 1) + 6, 14, none⟩ = some (.bool (W.nd (i + 1)).d.isSome) := by
  obtain ⟨tb, mb, vt, vm, hQ⟩ := h
  have hc := hQ.cw
  refine ⟨(hc 0 _ rfl).1, (hc 2 _ rfl).1, (hc 3 _ rfl).1, fun i hi => ?_⟩
  have hN := (hQ.nm (i + 1) (by omega) (by omega)).c
  exact ⟨hQ.nr i hi, (hN 0 _ rfl).1, (hN 13 _ rfl).1, (hN 14 _ rfl).1⟩
set_option maxHeartbeats 4000000 in
theorem cAgree (p : Pl) (t bad n dl : Nat) (vl : Option ByteArray) (W : Wd) (u0 : World) (hW : WM p t bad n u0 W) (hI : InvB t bad n dl vl W W.wait) (hb : bad ≤ t) (hn : bad ≤ n ∧ n ≤ 16) :
    Calls Try.prog 25 #[pW p.wb] u0 fun e' u' => e' = .returned (.bool true) ∧ Below u0.heap.size u0 u' := by
  obtain ⟨c0, c2, c3, hcells⟩ := hW.cells
  go_enter Try.func25, Try.ntmps25
  go_wp2_with fail
  go_loopw [5, 3, 4] (fun s5 s3 s4 wr => ∃ j : Nat, bad ≤ j ∧ j ≤ n ∧ s5 = .int .i64 (j : Int) ∧ (∃ v b, s3 = .string v ∧ s4 = .bool b ∧ (b = true → ∃ i, (bad < i ∧ i ≤ n) ∧ (W.nd i).d = some v)) ∧ Below u0.heap.size u0 wr) (fun s5 _ _ _ => n - (intOf s5).toNat)
  case atStart => exact ⟨bad, by omega, hn.1, rfl, ⟨_, _, rfl, rfl, nofun⟩, bself u0⟩
  case round =>
    obtain ⟨j, hj1, hj2, rfl, ⟨v, b, rfl, rfl, hvb⟩, hB⟩ := hrel
    obtain ⟨c0, c2, c3, hcells⟩ := (hW.below hB).cells
    by_cases hjn : j < n
    · have hjc : (j : Int) < (n : Int) := by omega
      obtain ⟨d0, d1, d2, d3⟩ := hcells j hjn
      have hok := (hW.below hB).ok
      have hcn := hok.c1
      have hnum := hI.num (j + 1) (by omega) (by omega)
      have hV := cValue (p.bs (j + 1) + 6) _ _ _ wr d1 d2 d3 (by have := hnum.1; omega)
      have ew := wr64 (n := (j : Int) + 1) (by omega)
      have hjx : (0 : Int) ≤ (j : Int) := by omega
      cases hd : (W.nd (j + 1)).d with
      | none =>
        rw [hd] at hV
        have hV : Calls Try.prog 16 #[.pointer (some ⟨p.bs (j + 1) + 6, 0, none⟩)] wr fun e' w' => e' = .returned (.tuple #[.string noS, .bool false]) ∧ Below wr.heap.size wr w' := hV
        clear hcells d1 d2 d3
        go_wp2_with (first | (go_at_call 16; refine hV.mono ?_; rintro e w1 ⟨rfl, hB1⟩))
        exact ⟨⟨j + 1, by omega, by omega, by simp, ⟨_, _, rfl, rfl, hvb⟩, bstep hB hB1⟩, by simp [intOf]; omega⟩
      | some u =>
        rw [hd] at hV
        have hV : Calls Try.prog 16 #[.pointer (some ⟨p.bs (j + 1) + 6, 0, none⟩)] wr fun e' w' => e' = .returned (.tuple #[.string u, .bool true]) ∧ Below wr.heap.size wr w' := hV
        have hnew : ∃ i, (bad < i ∧ i ≤ n) ∧ (W.nd i).d = some u := ⟨j + 1, ⟨by omega, by omega⟩, hd⟩
        clear hcells d1 d2 d3
        cases b with
        | false =>
          go_wp2_with (first | (go_at_call 16; refine hV.mono ?_; rintro e w1 ⟨rfl, hB1⟩))
          exact ⟨⟨j + 1, by omega, by omega, by simp, ⟨_, _, rfl, rfl, fun _ => hnew⟩, bstep hB hB1⟩, by simp [intOf]; omega⟩
        | true =>
          obtain ⟨i, hi, hdi⟩ := hvb rfl
          have huv : v = u := hI.same_d hb hi ⟨by omega, by omega⟩ hdi hd
          subst huv
          go_wp2_with (first | (go_at_call 16; refine hV.mono ?_; rintro e w1 ⟨rfl, hB1⟩))
          exact ⟨⟨j + 1, by omega, by omega, by simp, ⟨_, _, rfl, rfl, fun _ => hnew⟩, bstep hB hB1⟩, by simp [intOf]; omega⟩
    · have hjc : ¬ (j : Int) < (n : Int) := by omega
      clear hcells
      go_wp2
      refine bodyPost_ret (v := .bool true) (by simp [results, Try.results25, go_sem]) rfl ⟨rfl, hB⟩
end Go.Proofs.Ythncmahhnbpbkaa
