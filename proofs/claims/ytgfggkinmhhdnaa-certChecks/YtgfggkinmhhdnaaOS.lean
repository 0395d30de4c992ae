/- How steps that came in are opened. -/
import Derived.Test.YtgfggkinmhhdnaaOC
import Derived.Test.YtgfggkinmhhdnaaCT3
import Derived.Deep.Slices
namespace Go.Proofs.Ytgfggkinmhhdnaa
open Go.ChangeShapes Go.WideShapes Go.ChangeAt Go.RowKit
set_option linter.unusedVariables false
set_option linter.unusedSimpArgs false
/-- A list out of one step for each place. -/
theorem list_ofC {p : Nat → Int × Int × Int → Prop} : ∀ n, (∀ i, i < n → ∃ z, p i z) → ∃ cs : List (Int × Int × Int), cs.length = n ∧ ∀ i, i < n → p i (cat cs i)
  | 0, _ => ⟨[], rfl, fun i hi => by omega⟩
  | n + 1, h => by
    obtain ⟨cs, hl, hp⟩ := list_ofC n (fun i hi => h i (by omega))
    obtain ⟨z, hz⟩ := h n (by omega)
    refine ⟨cs ++ [z], by simp [hl], fun i hi => ?_⟩
    by_cases e : i = n
    · subst e
      have : cat (cs ++ [z]) i = z := by rw [← hl]; simp [cat]
      rw [this]; exact hz
    · have : cat (cs ++ [z]) i = cat cs i := by simp [cat, List.getElem?_append_left (show i < cs.length by omega)]
      rw [this]; exact hp i (by omega)
theorem flC_at : ∀ (cs : List (Int × Int × Int)) (j : Nat) (v : Value), (flC cs)[j]? = some v → j / 12 < cs.length ∧ (CE (cat cs (j / 12)).1 (cat cs (j / 12)).2.1 (cat cs (j / 12)).2.2)[j % 12]? = some v
  | [], j, v, h => by simp [flC] at h
  | n :: r, j, v, h => by
    rw [flC] at h
    by_cases hj : j < 12
    · rw [List.getElem?_append_left (by show j < 12; exact hj)] at h
      rw [show j / 12 = 0 by omega, show j % 12 = j by omega]
      exact ⟨by simp, by simpa [cat] using h⟩
    · rw [List.getElem?_append_right (by show 12 ≤ j; omega)] at h
      have h : (flC r)[j - 12]? = some v := h
      have := flC_at r (j - 12) v h
      rw [show j / 12 = (j - 12) / 12 + 1 by omega, show j % 12 = (j - 12) % 12 by omega]
      exact ⟨by simpa using this.1, by simpa [cat] using this.2⟩
theorem SCt.of {w : World} {g o : Nat} {cs : List (Int × Int × Int)} (h : ∀ i, i < cs.length → ∀ c v, (CE (cat cs i).1 (cat cs i).2.1 (cat cs i).2.2)[c]? = some v → w.cell? ⟨g, o + (i * 12 + c), none⟩ = some v) : SCt w g o cs := fun j v hj => by
  obtain ⟨h1, h2⟩ := flC_at cs j v hj
  have := h _ h1 _ v h2
  rwa [show j / 12 * 12 + j % 12 = j by omega] at this
theorem row_cert {H : Type} {enc : TypeId × Value → H} {W : World} {bs fuel base : Nat} {sp : Nat → Bool} {held : Bool} {a : Addr} {cs : List Value} {x : DataW H × List MemPlace} (h1 : W.cells? base a 12 = some cs) (h : DataW.trod enc Try.prog W bs sp held fuel 26 cs = some x) :
    ∃ z : Int × Int × Int, (In z.1 ∧ In z.2.1 ∧ In z.2.2) ∧ ∀ c v, (CE z.1 z.2.1 z.2.2)[c]? = some v → W.cell? (a.add c) = some v := by
  obtain ⟨_, hl, hc⟩ := World.cells?_some h1
  obtain ⟨n, f, e, hn, hf, he, rfl⟩ := certCells h
  refine ⟨(n, f, e), ⟨hn, hf, he⟩, fun c v hv => ?_⟩
  have hlt : c < 12 := by have := (List.getElem?_eq_some_iff.1 hv).1; simpa using this
  rw [hc c hlt]; exact hv
set_option maxRecDepth 100000 in
/-- The steps that came in, as many as few takes. -/
theorem open_steps {H : Type} {enc : TypeId × Value → H} {W : World} {bs base : Nat} {v : Value} {x : DataW H} {p : List MemPlace} (hv : Value.okWide Try.prog W .any base 31 v) (h : DataW.Trod enc Try.prog W 0 (fun _ => true) true 31 v x p) :
    ∃ sl len cap gb go, ∃ cs : List (Int × Int × Int), v = .slice sl len cap ∧ min (len : Int) 12 = (cs.length : Int) ∧ len ≤ cap ∧ (sl = none → cap = 0) ∧ (cs = [] ∨ sl = some ⟨gb, go, none⟩) ∧ (cs.length = 0 ∨ gb < W.heap.size) ∧ SCt W gb go cs ∧ ∀ j, j < cs.length → In (cat cs j).1 ∧ In (cat cs j).2.1 ∧ In (cat cs j).2.2 := by
  obtain ⟨a0, len, cap, rfl⟩ := okWide_slice Try.underlying31 hv
  obtain ⟨fuel, hf⟩ := h
  rcases Go.Deep.open_slice Try.underlying31 hf with ⟨hcs, hx⟩ | ⟨ad, len', cap', m, n, D, Pl, hcs, hbs, hl, hm, hmm, hx, hall⟩
  · simp [Value.cells] at hcs
    obtain ⟨rfl, rfl, rfl⟩ := hcs
    exact ⟨_, _, _, 0, 0, [], rfl, rfl, Nat.le_refl _, fun _ => rfl, .inl rfl, .inl rfl, SCt.empty rfl, fun j hj => by simp at hj⟩
  · simp [Value.cells] at hcs
    obtain ⟨rfl, rfl, rfl⟩ := hcs
    simp only [if_true] at hmm
    by_cases h0 : cap = 0
    · subst h0
      have e : len = 0 := by omega
      subst e
      exact ⟨_, _, _, 0, 0, [], rfl, rfl, Nat.le_refl _, fun _ => rfl, .inl rfl, .inl rfl, SCt.empty rfl, fun j hj => by simp at hj⟩
    · have hrow : ∀ i, i < cap → ∃ z : Int × Int × Int, (In z.1 ∧ In z.2.1 ∧ In z.2.2) ∧ ∀ c v, (CE z.1 z.2.1 z.2.2)[c]? = some v → W.cell? ((ad.add (i * 12)).add c) = some v := fun i hi => by
        obtain ⟨cs, k1, k2⟩ := hall i (by rw [hmm]; exact hi)
        rw [Try.cells26] at k1
        exact row_cert k1 k2
      obtain ⟨gb, go, spot⟩ := ad
      have hspot : spot = none := by
        obtain ⟨z, _, hz⟩ := hrow 0 (by omega)
        have := hz 0 _ rfl
        simpa [Addr.add] using World.cell?_spot this
      subst hspot
      have hadd : ∀ i c : Nat, ((⟨gb, go, none⟩ : Addr).add (i * 12)).add c = ⟨gb, go + (i * 12 + c), none⟩ := fun i c => by unfold Addr.add; (repeat' split) <;> simp_all <;> omega
      obtain ⟨cs, hnl, hnp⟩ := list_ofC (min (len : Int) 12).toNat (fun i hi => hrow i (by omega))
      have hblk : gb < W.heap.size := by
        obtain ⟨z, _, hz⟩ := hrow 0 (by omega)
        have := hz 0 _ rfl
        rw [hadd] at this
        exact World.block_lt_of_cell? W _ this
      refine ⟨_, _, _, gb, go, cs, rfl, by omega, hl, fun e => (by cases e), .inr rfl, .inr hblk, SCt.of (fun i hi c v hv => ?_), fun j hj => (hnp j (by omega)).1⟩
      have := (hnp i (by omega)).2 c v hv
      rwa [hadd] at this
end Go.Proofs.Ytgfggkinmhhdnaa
