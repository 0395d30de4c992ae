/- SHA-256: cuts of bytes that came in, and parts one behind the other. -/
import Derived.Test.YtbgdcgboomdimaaDoorSO
namespace Go.Proofs.YtbgdcgboomdimaaDoor
open Go.RowKit
set_option linter.unusedVariables false
set_option linter.unusedSimpArgs false
theorem slDK (sl : Option Addr) (gb go m cap d k : Nat) (hd : d ≤ k) (hk : k ≤ m) (hc : m ≤ cap) (hs : m = 0 ∨ sl = some ⟨gb, go, none⟩) (hn : sl = none → cap = 0) : ∃ sl', (k - d = 0 ∨ sl' = some ⟨gb, go + d, none⟩) ∧ ∀ w, (Instr.sliceAt 22 (.slice sl m cap) (some (.int .i64 d)) (some (.int .i64 k)) none).run Tryd.prog w = .ok (.slice sl' (k - d) (cap - d)) w := by
  cases sl with
  | none =>
    have e0 := hn rfl
    have e1 : m = 0 := by omega
    have e2 : k = 0 := by omega
    have e3 : d = 0 := by omega
    subst e0 e1 e2 e3
    refine ⟨none, .inl rfl, fun w => ?_⟩
    show (Instr.sliceAt 22 (.slice none 0 0) (some (.int .i64 0)) (some (.int .i64 0)) none).run Tryd.prog w = _
    kernel_rfl
  | some ad =>
    have h1 : (d : Int) ≤ k := by omega
    have h2 : (k : Int) ≤ cap := by omega
    have h3 : k ≤ cap := by omega
    have h4 : d ≤ cap := by omega
    by_cases e : cap = d
    · refine ⟨some ad, .inl (by omega), fun w => ?_⟩
      simp [Instr.sliceAt, Instr.slice, go_sem, Tryd.underlying22, hd, h1, h2, h3, h4, e]
      try omega
    · refine ⟨some (ad.add d), ?_, fun w => ?_⟩
      · rcases hs with h | h
        · exact .inl (by omega)
        · cases h
          exact .inr (by rw [Addr.add_lit])
      · have e2 : ¬ cap - d = 0 := by omega
        simp [Instr.sliceAt, Instr.slice, go_sem, Tryd.underlying22, hd, h1, h2, h3, h4, e, e2]
/-- These slices are parts of ys, one behind the other, up to d. -/
def PP (w : World) (ys : List Nat) (d : Nat) (vs : List Value) : Prop := ∃ ps : List (List Nat), ps.length = vs.length ∧ ps.flatten = ys.take d ∧ ∀ (i : Nat) (v : Value) (p : List Nat), vs[i]? = some v → ps[i]? = some p → IN w w.heap.size v p
theorem PP.nil (w : World) (ys : List Nat) : PP w ys 0 [] := ⟨[], rfl, by simp, fun i v p h => by simp at h⟩
theorem PP.more {w : World} {ys : List Nat} {d k : Nat} {vs : List Value} {v : Value} (h : PP w ys d vs) (hd : d ≤ k) (hv : IN w w.heap.size v ((ys.drop d).take (k - d))) : PP w ys k (vs ++ [v]) := by
  obtain ⟨ps, h1, h2, h3⟩ := h
  refine ⟨ps ++ [(ys.drop d).take (k - d)], by simp [h1], ?_, fun i x p hx hp => ?_⟩
  · rw [List.flatten_append, h2, show k = d + (k - d) by omega, List.take_add]; simp
  · by_cases hi : i < vs.length
    · rw [List.getElem?_append_left hi] at hx
      rw [List.getElem?_append_left (by omega)] at hp
      exact h3 i x p hx hp
    · have hi2 : i = vs.length := by
        have := (List.getElem?_eq_some_iff.1 hx).1
        simp at this; omega
      subst hi2
      simp at hx
      rw [List.getElem?_append_right (by omega), h1] at hp
      simp at hp
      subst hx hp
      exact hv
end Go.Proofs.YtbgdcgboomdimaaDoor
