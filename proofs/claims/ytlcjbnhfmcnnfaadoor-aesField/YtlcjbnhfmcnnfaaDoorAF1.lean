/- Blocks of AES: the rounds and their way back. -/
import Derived.Test.YtlcjbnhfmcnnfaaDoorAF0
namespace Go.Proofs.YtlcjbnhfmcnnfaaDoor
open Go.RowKit
set_option linter.unusedVariables false
set_option linter.unusedSimpArgs false
/-- So many bytes. -/
structure BY (n : Nat) (l : List Nat) : Prop where
  len : l.length = n
  lt : ∀ j, l.getD j 0 < 256
theorem gset (l : List Nat) (i j x : Nat) : (l.set i x).getD j 0 = if i = j ∧ j < l.length then x else l.getD j 0 := by
  rw [List.getD_eq_getElem?_getD, List.getD_eq_getElem?_getD, List.getElem?_set]
  by_cases h : i = j
  · subst h
    by_cases h2 : i < l.length
    · simp [h2]
    · simp [h2]
  · simp [h]
theorem BY.set {n : Nat} {l : List Nat} (h : BY n l) (i x : Nat) (hx : x < 256) : BY n (l.set i x) where
  len := by rw [List.length_set]; exact h.len
  lt j := by
    rw [gset]; split
    · exact hx
    · exact h.lt j
theorem rm_get (n : Nat) (f : Nat → Nat) {i : Nat} (h : i < n) : ((List.range n).map f).getD i 0 = f i := by
  rw [List.getD_eq_getElem?_getD, List.getElem?_map, List.getElem?_range h]; rfl
theorem rm_out (n : Nat) (f : Nat → Nat) {i : Nat} (h : ¬ i < n) : ((List.range n).map f).getD i 0 = 0 := by
  rw [List.getD_eq_getElem?_getD, List.getElem?_eq_none (by simpa using h)]; rfl
theorem rm_B {n : Nat} {f : Nat → Nat} (h : ∀ i, i < n → f i < 256) : BY n ((List.range n).map f) := ⟨by simp, fun j => by
  by_cases hj : j < n
  · rw [rm_get n f hj]; exact h j hj
  · rw [rm_out n f hj]; decide⟩
theorem ext_n {n : Nat} {a b : List Nat} (ha : a.length = n) (hb : b.length = n) (h : ∀ i, i < n → a.getD i 0 = b.getD i 0) : a = b := by
  refine List.ext_getElem (ha.trans hb.symm) fun i h1 h2 => ?_
  have := h i (by omega)
  rwa [List.getD_eq_getElem?_getD, List.getD_eq_getElem?_getD, List.getElem?_eq_getElem h1, List.getElem?_eq_getElem h2] at this
/-- Two blocks, xor. -/
def xorB (a b : List Nat) : List Nat := (List.range 16).map fun i => a.getD i 0 ^^^ b.getD i 0
/-- Substituted, and the rows turned. -/
def subB (a : List Nat) : List Nat := (List.range 16).map fun i => sbT.getD (a.getD ((i + 4 * (i % 4)) % 16) 0) 0
/-- Columns times a polynomial. -/
def mixB (c0 c1 c2 c3 : Nat) (a : List Nat) : List Nat := (List.range 16).map fun i =>
  tm (a.getD (i / 4 * 4 + i % 4) 0) c0 ^^^ tm (a.getD (i / 4 * 4 + (i + 1) % 4) 0) c1 ^^^ tm (a.getD (i / 4 * 4 + (i + 2) % 4) 0) c2 ^^^ tm (a.getD (i / 4 * 4 + (i + 3) % 4) 0) c3
theorem xorB_B {a b : List Nat} (ha : BY 16 a) (hb : BY 16 b) : BY 16 (xorB a b) := rm_B fun i _ => xr8 (ha.lt i) (hb.lt i)
theorem subB_B {a : List Nat} (ha : BY 16 a) : BY 16 (subB a) := rm_B fun i _ => sb_lt _ (ha.lt _)
theorem mixB_B {c0 c1 c2 c3 : Nat} {a : List Nat} (ha : BY 16 a) : BY 16 (mixB c0 c1 c2 c3 a) :=
  rm_B fun i _ => xr8 (xr8 (xr8 (tm_lt (ha.lt _)) (tm_lt (ha.lt _))) (tm_lt (ha.lt _))) (tm_lt (ha.lt _))
/-- What a round does ahead of its key. -/
def rdE (r : Nat) (a : List Nat) : List Nat := if r < 10 then mixB 2 3 1 1 (subB a) else subB a
theorem rdE_B {r : Nat} {a : List Nat} (ha : BY 16 a) : BY 16 (rdE r a) := by
  unfold rdE; split
  · exact mixB_B (subB_B ha)
  · exact subB_B ha
/-- Encrypted by so many rounds. -/
def encR (ks : Nat → List Nat) (a : List Nat) : Nat → List Nat
  | 0 => xorB a (ks 0)
  | r + 1 => xorB (rdE (r + 1) (encR ks a r)) (ks (r + 1))
def encB (ks : Nat → List Nat) (a : List Nat) : List Nat := encR ks a 10
end Go.Proofs.YtlcjbnhfmcnnfaaDoor
