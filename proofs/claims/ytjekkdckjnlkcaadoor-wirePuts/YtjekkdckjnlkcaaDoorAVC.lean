/- Wire: value. -/
import Derived.Test.YtjekkdckjnlkcaaDoorAVB
namespace Go.Proofs.YtjekkdckjnlkcaaDoor
open Go.RowKit
set_option linter.unusedVariables false
set_option linter.unusedSimpArgs false
set_option maxRecDepth 100000 in
set_option maxHeartbeats 2000000 in
theorem cValue_core (n gcap : Nat) (gsl : Option Addr) (tg la : Nat → Int) (pS : Nat → List Nat) (ev : Int) (w : World) (hG : GW w) (hn : n ≤ 257)
    (hrow : Hid (0 < n → ∃ gl go, gsl = some ⟨gl, go, none⟩ ∧ gl < w.heap.size ∧ ∀ i, i < n → w.cell? ⟨gl, go + 2 * i, none⟩ = some (.int .i64 (tg i)) ∧ ∃ sv cv, w.cell? ⟨gl, go + 2 * i + 1, none⟩ = some (.slice sv (pS i).length cv) ∧ IN w w.heap.size (.slice sv (pS i).length cv) (pS i)))
    (hrg : Hid (∀ i, i < n → -9223372036854775808 ≤ tg i ∧ tg i ≤ 9223372036854775807)) (hla0 : la 0 = 0) (hlas : Hid (∀ i, la (i + 1) = tg i)) (hlr : Hid (∀ i, i ≤ n → -9223372036854775808 ≤ la i ∧ la i ≤ 9223372036854775807))
    (hE2 : Hid (∀ i, i < n → (tg i ≤ la i ∨ 255 < tg i ∨ 4096 < (pS i).length) → ev = 80)) (hE4 : Hid ((∀ j, j < n → ¬ (tg j ≤ la j ∨ 255 < tg j ∨ 4096 < (pS j).length)) → ev = 0)) :
    Calls Tryd.prog 40 #[.slice gsl n gcap] w fun e u => ∃ y, e = .returned y ∧ EO ev y ∧ Below w.heap.size w u := by
  go_enter Tryd.func40, Tryd.ntmps40
  go_wp2_with fail
  go_loopw [9, 3] (fun s9 s3 wr => ∃ i : Nat, i ≤ n ∧ s9 = .int .i64 (i : Int) ∧ s3 = .int .i64 (la i) ∧ Hid (∀ j, j < i → ¬ (tg j ≤ la j ∨ 255 < tg j ∨ 4096 < (pS j).length)) ∧ Below w.heap.size w wr) (fun s9 _ _ => n - (intOf s9).toNat)
  case atStart => exact ⟨0, by omega, rfl, by rw [hla0], fun j hj => absurd hj (by omega), Below.refl _ _⟩
  case round =>
    obtain ⟨i, hi, rfl, rfl, hgood, HBr⟩ := hrel
    have hsw := HBr.size
    by_cases hj : i < n
    · have hl2 : (i : Int) < (n : Int) := by omega
      obtain ⟨gl, go, rfl, hgl, hcl⟩ := hrow.out (by omega)
      obtain ⟨hc1, sv, cv, hc2, hinp⟩ := hcl i hj
      have hs := hlas.out i
      have hE := hE2.out i hj
      have hr := hrg.out i hj
      have hr2 := hlr.out i hi
      have e1 : IntKind.i64.wrap ((i : Int) + 1) = ((i + 1 : Nat) : Int) := by rw [IntKind.wrap_i64]; omega
      have hg2 : ¬ (tg i ≤ la i ∨ 255 < tg i ∨ 4096 < (pS i).length) → Hid (∀ j, j < i + 1 → ¬ (tg j ≤ la j ∨ 255 < tg j ∨ 4096 < (pS j).length)) := fun h j hj2 => by
        by_cases e : j = i
        · subst e; exact h
        · exact hgood.out j (by omega)
      have hd1 : wr.cell? ⟨gl, go + 2 * i, none⟩ = some (.int .i64 (tg i)) := (HBr.cell (p := ⟨gl, go + 2 * i, none⟩) hgl).trans hc1
      have hd2 : wr.cell? ⟨gl, go + 2 * i + 1, none⟩ = some (.slice sv (pS i).length cv) := (HBr.cell (p := ⟨gl, go + 2 * i + 1, none⟩) hgl).trans hc2
      obtain ⟨t, et⟩ : ∃ x, tg i = x := ⟨_, rfl⟩
      obtain ⟨l, el⟩ : ∃ x, la i = x := ⟨_, rfl⟩
      obtain ⟨k, ek⟩ : ∃ x, (pS i).length = x := ⟨_, rfl⟩
      rw [et] at hd1 hs hE hg2 hr
      rw [el] at hE hg2 hr2
      rw [ek] at hd2 hE hg2
      rw [el]
      rw [Nat.mul_comm] at hd1 hd2
      obtain ⟨r1, r2⟩ := hr
      obtain ⟨r3, r4⟩ := hr2
      have hB1 : Below wr.heap.size wr (wr.alloc (.cells #[.int .i64 t, .slice sv k cv] 54)) := balloc (bself wr) _
      have hG1 := (hG.below HBr).below hB1
      have hV := cAbove l t (wr.alloc (.cells #[.int .i64 t, .slice sv k cv] 54)) hG1 r1 r2 r3 r4
      have hq1 : (wr.alloc (.cells #[.int .i64 t, .slice sv k cv] 54)).cell? ⟨wr.heap.size, 0, none⟩ = some (.int .i64 t) := by simp
      have hq2 : (wr.alloc (.cells #[.int .i64 t, .slice sv k cv] 54)).cell? ⟨wr.heap.size, 1, none⟩ = some (.slice sv k cv) := by simp
      have hq3 : wr.heap.size < (wr.alloc (.cells #[.int .i64 t, .slice sv k cv] 54)).heap.size := by simp
      replace hq1 : Hid _ := hq1
      replace hq2 : Hid _ := hq2
      replace hs : Hid _ := hs
      clear hcl hinp et el ek hc1 hc2
      by_cases b1 : t ≤ l ∨ 255 < t
      · have hev := hE (by omega)
        subst hev
        rw [if_pos b1] at hV
        go_wp2_with (first
          | (go_at_call 44; refine hV.mono ?_; clear hV; rintro e ub ⟨y, rfl, hEy0, hBb⟩; obtain ⟨hEy, T, x, rfl⟩ := hEy0.some (by decide); have hT := cAt ⟨#[102, 105, 101, 108, 100]⟩ (i : Int) 80 _ ub (hG1.below hBb) (by omega) (by omega) hEy (by decide); replace hEy : Hid _ := hEy; replace hEy0 : Hid _ := hEy0)
          | (go_at_call 45; refine hT.mono ?_; clear hT; rintro e uc ⟨y, rfl, hEy2, hBc⟩; obtain ⟨T2, x2, rfl⟩ := hEy2.some; replace hEy2 : Hid _ := hEy2))
        exact bodyPost_ret (v := .iface T2 x2) (by simp [results, Tryd.results40, go_sem]) rfl ⟨_, rfl, .inr ⟨by decide, hEy2.out⟩, bstep (bstep (bstep HBr hB1) hBb) hBc⟩
      rw [if_neg b1] at hV
      by_cases b3 : 4096 < k
      · have hev := hE (by omega)
        subst hev
        have b4 : (4096 : Int) < (k : Int) := by omega
        go_wp2_with (first
          | (go_at_call 44; refine hV.mono ?_; clear hV; rintro e ub ⟨y, rfl, hy, hBb⟩; obtain ⟨_, rfl⟩ : (0 : Int) = 0 ∧ y = .nilIface := hy.resolve_right (fun h => h.1 rfl); have hz2 : ub.cell? ⟨wr.heap.size, 1, none⟩ = some (.slice sv k cv) := (hBb.cell (p := ⟨wr.heap.size, 1, none⟩) hq3).trans hq2.out; have hT := cAt ⟨#[102, 105, 101, 108, 100]⟩ (i : Int) 80 (.iface 62 (.agg #[.string ⟨#[116, 111, 111, 32, 108, 111, 110, 103]⟩, .iface 25 (.int .i64 80)])) ub (hG1.below hBb) (by omega) (by omega) (.wrap _ _ .leaf) (by decide))
          | (go_at_call 45; refine hT.mono ?_; clear hT; rintro e uc ⟨y, rfl, hEy2, hBc⟩; obtain ⟨T2, x2, rfl⟩ := hEy2.some; replace hEy2 : Hid _ := hEy2))
        exact bodyPost_ret (v := .iface T2 x2) (by simp [results, Tryd.results40, go_sem]) rfl ⟨_, rfl, .inr ⟨by decide, hEy2.out⟩, bstep (bstep (bstep HBr hB1) hBb) hBc⟩
      have b4 : ¬ (4096 : Int) < (k : Int) := by omega
      have hg3 := hg2 (by omega)
      clear hg2 hE
      go_wp2_with (first
        | (go_at_call 44; refine hV.mono ?_; clear hV; rintro e ub ⟨y, rfl, hy, hBb⟩; obtain ⟨_, rfl⟩ : (0 : Int) = 0 ∧ y = .nilIface := hy.resolve_right (fun h => h.1 rfl); have hz2 : ub.cell? ⟨wr.heap.size, 1, none⟩ = some (.slice sv k cv) := (hBb.cell (p := ⟨wr.heap.size, 1, none⟩) hq3).trans hq2.out; have hz1 : ub.cell? ⟨wr.heap.size, 0, none⟩ = some (.int .i64 t) := (hBb.cell (p := ⟨wr.heap.size, 0, none⟩) hq3).trans hq1.out)
        | fail)
      refine ⟨⟨i + 1, by omega, rfl, by rw [hs.out], hg3, bstep (bstep HBr hB1) hBb⟩, ?_⟩
      simp [intOf]; omega
    · have hl2 : ¬ (i : Int) < (n : Int) := by omega
      obtain rfl : i = n := by omega
      have hev := hE4.out hgood.out
      subst hev
      go_wp2
      exact bodyPost_ret (v := .nilIface) (by simp [results, Tryd.results40, go_sem]) rfl ⟨_, rfl, .inl ⟨rfl, rfl⟩, HBr⟩
end Go.Proofs.YtjekkdckjnlkcaaDoor
