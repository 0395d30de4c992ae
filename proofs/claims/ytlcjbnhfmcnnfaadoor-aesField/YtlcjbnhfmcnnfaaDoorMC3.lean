/- HMAC of parts, and of bytes. -/
import Derived.Test.YtlcjbnhfmcnnfaaDoorMC2
namespace Go.Proofs.YtlcjbnhfmcnnfaaDoor
open Go.RowKit
set_option linter.unusedVariables false
set_option linter.unusedSimpArgs false
theorem infoSl : (Tryd.prog.info? 24).map (fun i => (i.zero, i.size, i.bytes)) = some (some (.slice none 0 0), 1, 24) := by kernel_rfl
theorem PF.sl {lo n : Nat} {xs : List Value} {u : World} {y : Value} (h : PF lo n xs u y) : ∃ sl n cap, y = .slice sl n cap := by
  obtain ⟨b, rfl, _⟩ := h; exact ⟨_, _, _, rfl⟩
/-- A full row of one slice of bytes. -/
def PQ1 (lo : Nat) (p : List Nat) (u : World) (y : Value) : Prop := ∃ b v, y = .slice (some ⟨b, 0, none⟩) 1 1 ∧ lo ≤ b ∧ b < u.heap.size ∧ CV u b [v] ∧ IN u u.heap.size v p
theorem PQ1.stab {lo : Nat} {p : List Nat} {u v : World} {x : Value} (hB : Below u.heap.size u v) (h : PQ1 lo p u x) : PQ1 lo p v x := by
  obtain ⟨b, y, e, h1, h2, h3, h4⟩ := h
  exact ⟨b, y, e, h1, Nat.lt_of_lt_of_le h2 hB.size, h3.below hB h2, (h4.below hB).mono hB.size⟩
theorem PQ1.new {lo : Nat} {p : List Nat} {u : World} {y : Value} (t : TypeId) (h : lo ≤ u.heap.size) (hy : IN u u.heap.size y p) : PQ1 lo p (u.alloc (.cells [y].toArray t)) (.slice (some ⟨u.heap.size, 0, none⟩) 1 1) :=
  ⟨_, y, rfl, h, by simp, CV.new u _ t, (hy.below (balloc (bself u) _)).mono (by simp)⟩
theorem PL_of {u : World} {b : Nat} {vs zs : List Value} {ps : List (List Nat)} (hcv : CV u b (vs ++ zs)) (hl : vs.length = ps.length) (h : ∀ (i : Nat) (v : Value) (p : List Nat), vs[i]? = some v → ps[i]? = some p → IN u u.heap.size v p) : PL u b 0 ps := fun i p hp => by
  have hi : i < vs.length := by have := (List.getElem?_eq_some_iff.1 hp).1; omega
  have e := List.getElem?_eq_getElem hi
  refine ⟨vs[i], ?_, h i _ p e hp⟩
  rw [Nat.zero_add]; exact (hcv i _ (by rw [List.getElem?_append_left hi]; exact e)).1
theorem PQ.two {lo : Nat} {p q : List Nat} {u : World} {y z : Value} (t : TypeId) (h : lo ≤ u.heap.size) (hy : IN u u.heap.size y p) (hz : IN u u.heap.size z q) : PQ lo [p, q] (u.alloc (.cells [y, z].toArray t)) (.slice (some ⟨u.heap.size, 0, none⟩) 2 2) := by
  have hB : Below u.heap.size u (u.alloc (.cells [y, z].toArray t)) := balloc (bself u) _
  refine ⟨_, 2, rfl, h, by simp, PL_of (vs := [y, z]) (zs := []) (by rw [List.append_nil]; exact CV.new u _ t) rfl fun i v p' hv hp => ?_⟩
  match i with
  | 0 => simp at hv hp; subst hv hp; exact (hy.below hB).mono hB.size
  | 1 => simp at hv hp; subst hv hp; exact (hz.below hB).mono hB.size
  | i + 2 => simp at hv
theorem PL.vals {w : World} {gl go : Nat} {ps : List (List Nat)} (h : PL w gl go ps) : ∃ vs : List Value, vs.length = ps.length ∧ (∀ (j : Nat) (v : Value), vs[j]? = some v → w.cell? ⟨gl, go + j, none⟩ = some v) ∧ ∀ (i : Nat) (v : Value) (p : List Nat), vs[i]? = some v → ps[i]? = some p → IN w w.heap.size v p := by
  have h2 : ∀ i, ∃ v, ∀ p, ps[i]? = some p → w.cell? ⟨gl, go + i, none⟩ = some v ∧ IN w w.heap.size v p := fun i => by
    cases e : ps[i]? with
    | none => exact ⟨.bool true, fun p hp => by cases hp⟩
    | some p =>
      obtain ⟨v, h1, h2⟩ := h i p e
      exact ⟨v, fun p' hp => by cases hp; exact ⟨h1, h2⟩⟩
  obtain ⟨f, hf⟩ := Classical.skolem.1 h2
  refine ⟨(List.range ps.length).map f, by simp, fun j v hv => ?_, fun i v p hv hp => ?_⟩
  · rw [List.getElem?_map, Option.map_eq_some_iff] at hv
    obtain ⟨k, hk, rfl⟩ := hv
    have hj : j < ps.length := by have := (List.getElem?_eq_some_iff.1 hk).1; simpa using this
    rw [List.getElem?_range hj] at hk
    cases hk
    exact (hf j _ (List.getElem?_eq_getElem hj)).1
  · rw [List.getElem?_map, Option.map_eq_some_iff] at hv
    obtain ⟨k, hk, rfl⟩ := hv
    have hj : i < ps.length := (List.getElem?_eq_some_iff.1 hp).1
    rw [List.getElem?_range hj] at hk
    cases hk
    exact (hf i _ hp).2
/-- Slices of bytes that came in. -/
def LV (w : World) (y : Value) (ps : List (List Nat)) : Prop := ∃ (sl : Option Addr) (cap gl go : Nat), y = .slice sl ps.length cap ∧ (ps.length = 0 ∨ sl = some ⟨gl, go, none⟩) ∧ gl < w.heap.size ∧ PL w gl go ps
theorem LV.below {w u : World} {y : Value} {ps : List (List Nat)} (h : LV w y ps) (hB : Below w.heap.size w u) : LV u y ps := by
  obtain ⟨sl, cap, gl, go, e, h1, h2, h3⟩ := h
  exact ⟨sl, cap, gl, go, e, h1, Nat.lt_of_lt_of_le h2 hB.size, h3.below h2 hB⟩
theorem CV_in {u : World} {b n : Nat} {xs : List Nat} (hl : xs.length = n) (h : CV u b (U8 xs)) (hb : b < u.heap.size) : IN u u.heap.size (.slice (some ⟨b, 0, none⟩) n n) xs := by
  subst hl
  refine ⟨_, _, b, 0, rfl, Nat.le_refl _, .inr rfl, hb, fun j hj => ?_⟩
  rw [Nat.zero_add]; exact (h j _ (U8_get xs j hj)).1
/-- HMAC. -/
def mac (ks xs : List Nat) : List Nat := hm (whl ks) xs
theorem mac_B (ks xs : List Nat) : BB 32 (mac ks xs) := hm_B _ _
theorem LV_one {u : World} {y v : Value} {lo : Nat} {xs : List Nat} (h : PS lo 1 [v] u y) (hv : IN u u.heap.size v xs) : LV u y [xs] := by
  obtain ⟨b, c, rfl, _, hb, _, hcv⟩ := h
  refine ⟨_, c, b, 0, rfl, .inr rfl, hb, PL_of (vs := [v]) (zs := []) (by simpa using hcv) rfl fun i x p hx hp => ?_⟩
  match i with
  | 0 => simp at hx hp; subst hx hp; exact hv
  | i + 1 => simp at hx
end Go.Proofs.YtlcjbnhfmcnnfaaDoor
