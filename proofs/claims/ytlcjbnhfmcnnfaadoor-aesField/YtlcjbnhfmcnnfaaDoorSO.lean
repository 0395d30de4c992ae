/- SHA-256: the digest of parts, whatever they are. -/
import Derived.Test.YtlcjbnhfmcnnfaaDoorSH8
namespace Go.Proofs.YtlcjbnhfmcnnfaaDoor
open Go.RowKit
set_option linter.unusedVariables false
set_option linter.unusedSimpArgs false
/-- A slice of these bytes that came in. -/
def IN (w : World) (m : Nat) (v : Value) (xs : List Nat) : Prop := ∃ (sl : Option Addr) (cap gb go : Nat), v = .slice sl xs.length cap ∧ xs.length ≤ cap ∧ (xs.length = 0 ∨ sl = some ⟨gb, go, none⟩) ∧ gb < m ∧ SB w gb go xs
theorem IN.below {w u : World} {m : Nat} {v : Value} {xs : List Nat} (h : IN w m v xs) (hB : Below m w u) : IN u m v xs := by
  obtain ⟨sl, cap, gb, go, e, h1, h2, h3, h4⟩ := h
  exact ⟨sl, cap, gb, go, e, h1, h2, h3, h4.below hB h3⟩
theorem IN.mono {w : World} {m m' : Nat} {v : Value} {xs : List Nat} (h : IN w m v xs) (hm : m ≤ m') : IN w m' v xs := by
  obtain ⟨sl, cap, gb, go, e, h1, h2, h3, h4⟩ := h
  exact ⟨sl, cap, gb, go, e, h1, h2, Nat.lt_of_lt_of_le h3 hm, h4⟩
/-- Slices of these bytes, one behind the other. -/
def PL (w : World) (gl go : Nat) (ps : List (List Nat)) : Prop := ∀ i p, ps[i]? = some p → ∃ v, w.cell? ⟨gl, go + i, none⟩ = some v ∧ IN w w.heap.size v p
theorem by_getD {l : List Nat} (h : ∀ x ∈ l, x < 256) (j : Nat) : l.getD j 0 < 256 := by
  rw [List.getD_eq_getElem?_getD]
  cases e : l[j]? with
  | none => decide
  | some x => exact h x (List.mem_of_getElem? e)
theorem BB.mem {n : Nat} {l : List Nat} (h : BB n l) : ∀ x ∈ l, x < 256 := fun x hx => by
  obtain ⟨j, hj⟩ := List.mem_iff_getElem?.1 hx
  have := h.lt j
  rwa [List.getD_eq_getElem?_getD, hj] at this
theorem ending_B (n : Nat) : BB (nou n + 9) (ending n) := enL_B n 8
theorem nou_lt (n : Nat) : nou n < 64 := Nat.mod_lt _ (by decide)
theorem told_B (ss : List Nat) : BB 32 (told ss) := tld_B ss 32
theorem flat_mem {ps : List (List Nat)} (h : ∀ p ∈ ps, ∀ x ∈ p, x < 256) : ∀ x ∈ ps.flatten, x < 256 := fun x hx => by
  obtain ⟨p, hp, hxp⟩ := List.mem_flatten.1 hx
  exact h p hp x hxp
theorem flat_take_len (ps : List (List Nat)) (i : Nat) : (ps.take i).flatten.length ≤ ps.flatten.length := by
  conv => rhs; rw [← List.take_append_drop i ps, List.flatten_append, List.length_append]
  omega
theorem dig_B (xs : List Nat) : BB 32 (dig xs) := told_B _
end Go.Proofs.YtlcjbnhfmcnnfaaDoor
