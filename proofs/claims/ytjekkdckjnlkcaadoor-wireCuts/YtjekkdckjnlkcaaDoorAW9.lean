/- few and parts: what they answer, and that they change nothing a second time. -/
import Derived.Test.YtjekkdckjnlkcaaDoorAW8
namespace Go.Proofs.YtjekkdckjnlkcaaDoor
open Go.RowKit
set_option linter.unusedVariables false
set_option linter.unusedSimpArgs false
def lfN (pS : Nat → List Nat) : Nat → Nat
  | 0 => 12288
  | i + 1 => lfN pS i - ((pS i).take (min (min (pS i).length 4097) (lfN pS i))).length
def qN (pS : Nat → List Nat) (i : Nat) : List Nat := (pS i).take (min (min (pS i).length 4097) (lfN pS i))
theorem lfN_le (pS : Nat → List Nat) : ∀ i, lfN pS i ≤ 12288
  | 0 => Nat.le_refl _
  | i + 1 => Nat.le_trans (Nat.sub_le _ _) (lfN_le pS i)
theorem qN_len (pS : Nat → List Nat) (i : Nat) : (qN pS i).length = min (min (pS i).length 4097) (lfN pS i) := by
  unfold qN; rw [List.length_take]; omega
theorem qN_mem {pS : Nat → List Nat} {i x : Nat} (h : x ∈ qN pS i) : x ∈ pS i := List.mem_of_mem_take h
theorem again {pS pT : Nat → List Nat} {n : Nat} (h : ∀ i, i < n → pT i = qN pS i) : ∀ i, i ≤ n → lfN pT i = lfN pS i ∧ (i < n → qN pT i = qN pS i)
  | 0, h0 => by
    refine ⟨rfl, fun hn => ?_⟩
    have hl := qN_len pS 0
    unfold qN
    rw [h 0 hn]
    show (qN pS 0).take (min (min (qN pS 0).length 4097) (lfN pT 0)) = qN pS 0
    have e : lfN pT 0 = lfN pS 0 := rfl
    rw [e, show min (min (qN pS 0).length 4097) (lfN pS 0) = (qN pS 0).length by omega, List.take_length]
  | i + 1, h0 => by
    obtain ⟨h1, h2⟩ := again h i (by omega)
    have h2 := h2 (by omega)
    have e : lfN pT (i + 1) = lfN pS (i + 1) := by
      show lfN pT i - (qN pT i).length = lfN pS i - (qN pS i).length
      rw [h1, h2]
    refine ⟨e, fun hn => ?_⟩
    have hl := qN_len pS (i + 1)
    show (pT (i + 1)).take (min (min (pT (i + 1)).length 4097) (lfN pT (i + 1))) = qN pS (i + 1)
    rw [h (i + 1) hn, e, show min (min (qN pS (i + 1)).length 4097) (lfN pS (i + 1)) = (qN pS (i + 1)).length by omega, List.take_length]
theorem rgetD {α : Type} (f : Nat → α) (d : α) {n i : Nat} (h : i < n) : ((List.range n).map f).getD i d = f i := by
  rw [List.getD_eq_getElem?_getD, List.getElem?_map, List.getElem?_range h]; rfl
def partsF (ps : List (List Nat)) : List (List Nat) := (List.range (min ps.length 257)).map (qN fun i => ps.getD i [])
def fewF (fs : List FldI) : List FldI := (List.range (min fs.length 257)).map fun i => (tgF fs i, qN (psF fs) i)
theorem partsF_len (ps : List (List Nat)) : (partsF ps).length = min ps.length 257 := by unfold partsF; simp
theorem fewF_len (fs : List FldI) : (fewF fs).length = min fs.length 257 := by unfold fewF; simp
theorem partsF_again (ps : List (List Nat)) : partsF (partsF ps) = partsF ps := by
  have hl := partsF_len ps
  have h := again (pS := fun i => ps.getD i []) (pT := fun i => (partsF ps).getD i []) (n := min ps.length 257) (fun i hi => by unfold partsF; rw [rgetD _ _ hi])
  unfold partsF at h hl ⊢
  rw [hl, show min (min ps.length 257) 257 = min ps.length 257 by omega]
  exact List.map_congr_left fun i hi => (h i (by simp at hi; omega)).2 (by simpa using hi)
theorem fewF_tg {fs : List FldI} {i : Nat} (h : i < min fs.length 257) : tgF (fewF fs) i = tgF fs i := by unfold tgF fewF; rw [rgetD _ _ h]; rfl
theorem fewF_ps {fs : List FldI} {i : Nat} (h : i < min fs.length 257) : psF (fewF fs) i = qN (psF fs) i := by unfold psF fewF; rw [rgetD _ _ h]; rfl
theorem fewF_again (fs : List FldI) : fewF (fewF fs) = fewF fs := by
  have hl := fewF_len fs
  have h := again (pS := psF fs) (pT := psF (fewF fs)) (n := min fs.length 257) (fun i hi => fewF_ps hi)
  have e : fewF (fewF fs) = (List.range (min fs.length 257)).map fun i => (tgF (fewF fs) i, qN (psF (fewF fs)) i) := by
    rw [fewF, hl, show min (min fs.length 257) 257 = min fs.length 257 by omega]
  rw [e]
  conv => rhs; rw [fewF]
  exact List.map_congr_left fun i hi => by
    have hi : i < min fs.length 257 := by simpa using hi
    rw [fewF_tg hi, (h i (by omega)).2 hi]
theorem partsF_mem {ps : List (List Nat)} {p : List Nat} (h : p ∈ partsF ps) : p.length ≤ 4097 ∧ ((∀ q ∈ ps, ∀ x ∈ q, x < 256) → ∀ x ∈ p, x < 256) := by
  unfold partsF at h
  obtain ⟨i, hi, rfl⟩ := List.mem_map.1 h
  have hi : i < min ps.length 257 := by simpa using hi
  refine ⟨by rw [qN_len]; omega, fun hx x hm => ?_⟩
  have := qN_mem hm
  have e2 : ps.getD i [] = ps[i]'(by omega) := by rw [List.getD_eq_getElem?_getD, List.getElem?_eq_getElem (by omega)]; rfl
  simp only [e2] at this
  exact hx _ (List.getElem_mem _) x this
theorem fewF_mem {fs : List FldI} {f : FldI} (h : f ∈ fewF fs) : f.2.length ≤ 4097 ∧ ((∀ g ∈ fs, ∀ x ∈ g.2, x < 256) → ∀ x ∈ f.2, x < 256) ∧ ((∀ g ∈ fs, -9223372036854775808 ≤ g.1 ∧ g.1 ≤ 9223372036854775807) → -9223372036854775808 ≤ f.1 ∧ f.1 ≤ 9223372036854775807) := by
  unfold fewF at h
  obtain ⟨i, hi, rfl⟩ := List.mem_map.1 h
  have hi : i < min fs.length 257 := by simpa using hi
  have e2 : fs.getD i (0, []) = fs[i]'(by omega) := by rw [List.getD_eq_getElem?_getD, List.getElem?_eq_getElem (by omega)]; rfl
  refine ⟨by show (qN (psF fs) i).length ≤ 4097; rw [qN_len]; omega, fun hx x hm => ?_, fun hx => ?_⟩
  · have := qN_mem hm
    unfold psF at this
    rw [e2] at this
    exact hx _ (List.getElem_mem _) x this
  · show -9223372036854775808 ≤ tgF fs i ∧ tgF fs i ≤ 9223372036854775807
    unfold tgF
    rw [e2]; exact hx _ (List.getElem_mem _)
theorem rstep {α : Type} (f : Nat → α) (i : Nat) : (List.range (i + 1)).map f = (List.range i).map f ++ [f i] := by rw [List.range_succ, List.map_append]; rfl
/-- parts. -/
theorem cParts8 (ps : List (List Nat)) (v : Value) (w : World) (h : LVn w v ps) :
    Calls Tryd.prog 28 #[v] w fun e w' => ∃ v, e = .returned v ∧ LVn w' v (partsF ps) ∧ Below w.heap.size w w' := by
  obtain ⟨sl, cap, gl, go, rfl, h3, h4, h5⟩ := h
  refine cParts8_core ps.length cap sl (fun i => ps.getD i []) (qN fun i => ps.getD i []) (lfN fun i => ps.getD i []) (fun i => (List.range i).map (qN fun i => ps.getD i [])) w (fun h0 => ⟨gl, go, h3.resolve_left (by omega), h4, fun i hi => ?_⟩) rfl (fun i => rfl) (lfN_le _) (fun i => rfl) rfl (fun i => rstep _ i)
  have e : ps.getD i [] = ps[i] := by rw [List.getD_eq_getElem?_getD, List.getElem?_eq_getElem hi]; rfl
  simp only [e]
  exact h5 i ps[i] (List.getElem?_eq_getElem hi)
/-- few. -/
theorem cFew8 (fs : List FldI) (v : Value) (w : World) (h : VFn w v fs) :
    Calls Tryd.prog 9 #[v] w fun e w' => ∃ v, e = .returned v ∧ VFn w' v (fewF fs) ∧ Below w.heap.size w w' := by
  obtain ⟨gsl, gcap, rfl, hr⟩ := h.1.row
  refine cFew8_core fs.length gcap gsl (tgF fs) (psF fs) (qN (psF fs)) (lfN (psF fs)) (fun i => (List.range i).map fun i => (tgF fs i, qN (psF fs) i)) w (fun h0 => ?_) rfl (fun i => rfl) (lfN_le _) (fun i => rfl) rfl (fun i => rstep _ i)
  obtain ⟨gl, go, e, hl, hc⟩ := hr h0
  refine ⟨gl, go, e, hl, fun i hi => ?_⟩
  obtain ⟨a, sv, cv, b, c⟩ := hc i hi
  exact ⟨a, sv, cv, b, c, fun e2 => h.2 gsl _ gcap gl go rfl e i hi _ cv (by rw [b, e2])⟩
/-- Fields that came in, in a world that may hold nothing. -/
def VFr (w : World) (v : Value) (fs : List FldI) : Prop := ∃ gsl gcap, v = .slice gsl fs.length gcap ∧ (0 < fs.length → ∃ gl go, gsl = some ⟨gl, go, none⟩ ∧ gl < w.heap.size ∧ ∀ i, i < fs.length → w.cell? ⟨gl, go + 2 * i, none⟩ = some (.int .i64 (tgF fs i)) ∧ ∃ sv cv, w.cell? ⟨gl, go + 2 * i + 1, none⟩ = some (.slice sv (psF fs i).length cv) ∧ IN w w.heap.size (.slice sv (psF fs i).length cv) (psF fs i) ∧ (sv = none → cv = 0))
def LVr (w : World) (v : Value) (ps : List (List Nat)) : Prop := ∃ gsl gcap, v = .slice gsl ps.length gcap ∧ (0 < ps.length → ∃ gl go, gsl = some ⟨gl, go, none⟩ ∧ gl < w.heap.size ∧ ∀ i, i < ps.length → ∃ sv cv, w.cell? ⟨gl, go + i, none⟩ = some (.slice sv (ps.getD i []).length cv) ∧ IN w w.heap.size (.slice sv (ps.getD i []).length cv) (ps.getD i []) ∧ (sv = none → cv = 0))
theorem VFr.below {w u : World} {v : Value} {fs : List FldI} (h : VFr w v fs) (hB : Below w.heap.size w u) : VFr u v fs := by
  obtain ⟨gsl, gcap, e, hr⟩ := h
  refine ⟨gsl, gcap, e, fun h0 => ?_⟩
  obtain ⟨gl, go, e2, hl, hc⟩ := hr h0
  refine ⟨gl, go, e2, Nat.lt_of_lt_of_le hl hB.size, fun i hi => ?_⟩
  obtain ⟨a, sv, cv, b, c, d⟩ := hc i hi
  exact ⟨(hB.cell (p := ⟨gl, go + 2 * i, none⟩) hl).trans a, sv, cv, (hB.cell (p := ⟨gl, go + 2 * i + 1, none⟩) hl).trans b, (c.below hB).mono hB.size, d⟩
theorem VFn.r {w : World} {v : Value} {fs : List FldI} (h : VFn w v fs) : VFr w v fs := by
  obtain ⟨gsl, gcap, e, hr⟩ := h.1.row
  refine ⟨gsl, gcap, e, fun h0 => ?_⟩
  obtain ⟨gl, go, e2, hl, hc⟩ := hr h0
  refine ⟨gl, go, e2, hl, fun i hi => ?_⟩
  obtain ⟨a, sv, cv, b, c⟩ := hc i hi
  exact ⟨a, sv, cv, b, c, fun e3 => h.2 gsl _ gcap gl go e e2 i hi _ cv (by rw [b, e3])⟩
theorem LVn.r {w : World} {v : Value} {ps : List (List Nat)} (h : LVn w v ps) : LVr w v ps := by
  obtain ⟨sl, cap, gl, go, rfl, h3, h4, h5⟩ := h
  refine ⟨sl, cap, rfl, fun h0 => ⟨gl, go, h3.resolve_left (by omega), h4, fun i hi => ?_⟩⟩
  have e : ps.getD i [] = ps[i] := by rw [List.getD_eq_getElem?_getD, List.getElem?_eq_getElem hi]; rfl
  rw [e]
  exact h5 i ps[i] (List.getElem?_eq_getElem hi)
theorem cParts8r (ps : List (List Nat)) (v : Value) (w : World) (h : LVr w v ps) :
    Calls Tryd.prog 28 #[v] w fun e w' => ∃ v, e = .returned v ∧ LVn w' v (partsF ps) ∧ Below w.heap.size w w' := by
  obtain ⟨gsl, gcap, rfl, hr⟩ := h
  exact cParts8_core ps.length gcap gsl (fun i => ps.getD i []) (qN fun i => ps.getD i []) (lfN fun i => ps.getD i []) (fun i => (List.range i).map (qN fun i => ps.getD i [])) w hr rfl (fun i => rfl) (lfN_le _) (fun i => rfl) rfl (fun i => rstep _ i)
theorem cFew8r (fs : List FldI) (v : Value) (w : World) (h : VFr w v fs) :
    Calls Tryd.prog 9 #[v] w fun e w' => ∃ v, e = .returned v ∧ VFn w' v (fewF fs) ∧ Below w.heap.size w w' := by
  obtain ⟨gsl, gcap, rfl, hr⟩ := h
  exact cFew8_core fs.length gcap gsl (tgF fs) (psF fs) (qN (psF fs)) (lfN (psF fs)) (fun i => (List.range i).map fun i => (tgF fs i, qN (psF fs) i)) w hr rfl (fun i => rfl) (lfN_le _) (fun i => rfl) rfl (fun i => rstep _ i)
end Go.Proofs.YtjekkdckjnlkcaaDoor
