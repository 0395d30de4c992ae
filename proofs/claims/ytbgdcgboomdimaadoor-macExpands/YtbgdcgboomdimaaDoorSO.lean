/- SHA-256: the digest of parts, whatever they are. -/
import Derived.Test.YtbgdcgboomdimaaDoorSH8
namespace Go.Proofs.YtbgdcgboomdimaaDoor
open Go.RowKit
set_option linter.unusedVariables false
set_option linter.unusedSimpArgs false
/-- A slice of these bytes that came in. -/
def IN (w : World) (m : Nat) (v : Value) (xs : List Nat) : Prop := ∃ (sl : Option Addr) (cap gb go : Nat), v = .slice sl xs.length cap ∧ xs.length ≤ cap ∧ (xs.length = 0 ∨ sl = some ⟨gb, go, none⟩) ∧ gb < m ∧ SB w gb go xs
theorem IN.below {w u : World} {m : Nat} {v : Value} {xs : List Nat} (h : IN w m v xs) (hB : Below m w u) : IN u m v xs := by
  obtain ⟨sl, cap, gb, go, e, h1, h2, h3, h4⟩ := h
  exact ⟨sl, cap, gb, go, e, h1, h2, h3, h4.below hB h3⟩
theorem IN.mono {w : World} {m m' : Nat} {v : Value} {xs : List Nat} (h : IN w m v xs) (hm : m ≤ m') : IN w m' v xs := by
  obtain ⟨sl, cap, gb, go, e, h1, h2, h3, h4⟩ := h
  exact ⟨sl, cap, gb, go, e, h1, h2, Nat.lt_of_lt_of_le h3 hm, h4⟩
/-- Slices of these bytes, one behind the other. -/
def PL (w : World) (gl go : Nat) (ps : List (List Nat)) : Prop := ∀ i p, ps[i]? = some p → ∃ v, w.cell? ⟨gl, go + i, none⟩ = some v ∧ IN w w.heap.size v p
theorem by_getD {l : List Nat} (h : ∀ x ∈ l, x < 256) (j : Nat) : l.getD j 0 < 256 := by
  rw [List.getD_eq_getElem?_getD]
  cases e : l[j]? with
  | none => decide
  | some x => exact h x (List.mem_of_getElem? e)
theorem BB.mem {n : Nat} {l : List Nat} (h : BB n l) : ∀ x ∈ l, x < 256 := fun x hx => by
  obtain ⟨j, hj⟩ := List.mem_iff_getElem?.1 hx
  have := h.lt j
  rwa [List.getD_eq_getElem?_getD, hj] at this
theorem ending_B (n : Nat) : BB (nou n + 9) (ending n) := enL_B n 8
theorem nou_lt (n : Nat) : nou n < 64 := Nat.mod_lt _ (by decide)
theorem told_B (ss : List Nat) : BB 32 (told ss) := tld_B ss 32
theorem flat_mem {ps : List (List Nat)} (h : ∀ p ∈ ps, ∀ x ∈ p, x < 256) : ∀ x ∈ ps.flatten, x < 256 := fun x hx => by
  obtain ⟨p, hp, hxp⟩ := List.mem_flatten.1 hx
  exact h p hp x hxp
theorem flat_take_len (ps : List (List Nat)) (i : Nat) : (ps.take i).flatten.length ≤ ps.flatten.length := by
  conv => rhs; rw [← List.take_append_drop i ps, List.flatten_append, List.length_append]
  omega
theorem cParts (ps : List (List Nat)) (gl go gcap : Nat) (w : World) (hgl : gl < w.heap.size) (hV : GV w) (hP : PL w gl go ps) (hn : ps.length ≤ 1000000) (hx : ∀ p ∈ ps, ∀ x ∈ p, x < 256) (hl : ∀ p ∈ ps, p.length ≤ 1000) (ht : ps.flatten.length ≤ 1000000) :
    Calls Tryd.prog 25 #[.slice (some ⟨gl, go, none⟩) ps.length gcap] w fun e w' => e = .returned (.agg (U8 (dig ps.flatten)).toArray) ∧ Below w.heap.size w w' := by
  have hP2 : ∀ i, ∃ t : Option Addr × Nat × Nat × Nat, i < ps.length → w.cell? ⟨gl, go + i, none⟩ = some (.slice t.1 (ps.getD i []).length t.2.1) ∧ (ps.getD i []).length ≤ t.2.1 ∧ ((ps.getD i []).length = 0 ∨ t.1 = some ⟨t.2.2.1, t.2.2.2, none⟩) ∧ t.2.2.1 < w.heap.size ∧ SB w t.2.2.1 t.2.2.2 (ps.getD i []) := fun i => by
    by_cases hi : i < ps.length
    · obtain ⟨v, h1, sl, cap, gb, gbo, rfl, h2, h3, h4, h5⟩ := hP i _ (List.getElem?_eq_getElem hi)
      have e : ps.getD i [] = ps[i] := by rw [List.getD_eq_getElem?_getD, List.getElem?_eq_getElem hi]; rfl
      exact ⟨(sl, cap, gb, gbo), fun _ => by rw [e]; exact ⟨h1, h2, h3, h4, h5⟩⟩
    · exact ⟨(none, 0, 0, 0), fun h => absurd h hi⟩
  obtain ⟨t, ht2⟩ := Classical.skolem.1 hP2
  have hq : ∀ i, QW (tkA q00 (ps.take i).flatten) := fun i => q00_W.go _ (by_getD (flat_mem fun p hp => hx p (List.mem_of_mem_take hp)))
  have hc : ∀ i, (tkA q00 (ps.take i).flatten).2.2 = (ps.take i).flatten.length := fun i => by rw [tkA_c]; exact Nat.zero_add _
  have hS : ∀ i, i < ps.length → tkA q00 (ps.take (i + 1)).flatten = tkA (tkA q00 (ps.take i).flatten) (ps.getD i []) := fun i hi => by
    have e : ps.getD i [] = ps[i] := by rw [List.getD_eq_getElem?_getD, List.getElem?_eq_getElem hi]; rfl
    rw [List.take_succ_eq_append_getElem hi, List.flatten_append, tkA_app, e]; simp
  have hsz := hV.sz
  have hall : ps.take ps.length = ps := List.take_length
  refine cParts_core ps.length gl go gcap (nou ps.flatten.length + 9) (tkA q00 (ps.flatten ++ ending ps.flatten.length)).2.2 (fun i => (t i).1) (fun i => (ps.getD i []).length) (fun i => (t i).2.1) (fun i => (tkA q00 (ps.take i).flatten).2.2) (fun i => (tkA q00 (ps.take i).flatten).1) (fun i => (tkA q00 (ps.take i).flatten).2.1)
    (tkA q00 (ps.flatten ++ ending ps.flatten.length)).1 (tkA q00 (ps.flatten ++ ending ps.flatten.length)).2.1 (dig ps.flatten) (ending ps.flatten.length) w hgl hn hV (fun i hi => (ht2 i hi).1) rfl rfl rfl (hq _).s.len (hq _).b.len ?_ (told_B _).len ?_ ?_ ?_ ?_
  · rw [tkA_app]
    have h := hq ps.length
    rw [hall] at h
    exact (h.go _ (ending_B _).lt).s.len
  · intro i hi u b0 hB hb0 hbu hcv
    obtain ⟨h1, h2, h3, h4, h5⟩ := ht2 i hi
    have hm : ps.getD i [] ∈ ps := by
      rw [List.getD_eq_getElem?_getD, List.getElem?_eq_getElem hi]; exact List.getElem_mem hi
    have hle := flat_take_len ps i
    have h := cTakeB (ps.getD i []) (tkA q00 (ps.take i).flatten) b0 (t i).2.2.1 (t i).2.2.2 (t i).2.1 (t i).1 u (hq i) (by_getD (hx _ hm)) (hl _ hm) (by rw [hc]; omega) h2 h3 (by omega) hbu (hV.below hB hsz) (by omega) (h5.below hB h4) hcv
    simp only [hS i hi]
    exact h
  · intro u
    simp only [hall, tkA_c]
    have := cEnding ps.flatten.length u (by omega)
    rw [show q00.2.2 = 0 from rfl, Nat.zero_add]
    exact this
  · intro u y b0 hB hb0 hbu hy hcv
    obtain ⟨b, rfl, h1, h2, h3⟩ := hy
    have hq2 := hq ps.length
    have hc2 := hc ps.length
    rw [hall] at hq2 hc2
    simp only [hall] at hcv ⊢
    have he := ending_B ps.flatten.length
    have hno := nou_lt ps.flatten.length
    have h := cTakeO (ending ps.flatten.length) (tkA q00 ps.flatten) b0 b (nou ps.flatten.length + 9) u hq2 he.lt (by rw [he.len]; omega) (by rw [hc2]; omega) (by rw [he.len]; omega) (by omega) hbu (hV.below hB hsz) (by omega) h2 h3 hcv
    rw [he.len] at h
    simp only [tkA_app]
    exact h
  · intro u
    have h := hq ps.length
    rw [hall] at h
    refine cTold _ u ?_
    rw [tkA_app]
    exact (h.go _ (ending_B _).lt).s.len
theorem bsSl (sl : Option Addr) (n cap : Nat) (w : World) : (Instr.buildSlice 37 1 ([0].zip [.slice sl n cap]).toArray).run Tryd.prog w = .ok (.slice (some ⟨w.heap.size, 0, none⟩) 1 1) (w.alloc (.cells [.slice sl n cap].toArray 22)) := by kernel_rfl
theorem dig_B (xs : List Nat) : BB 32 (dig xs) := told_B _
end Go.Proofs.YtbgdcgboomdimaaDoor
