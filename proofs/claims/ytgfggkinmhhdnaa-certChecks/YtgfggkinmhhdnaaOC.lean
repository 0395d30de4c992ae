import Derived.Test.YtgfggkinmhhdnaaOO
import Derived.Test.YtgfggkinmhhdnaaRG
import Derived.Deep.Strs
import Derived.Lib.SmallJoins
import Derived.Test.YtgfggkinmhhdnaaCT3
import Derived.Deep.Slices
/- How a step, and a group, that came in is opened. -/
namespace Go.Proofs.Ytgfggkinmhhdnaa
open Go.ChangeShapes Go.WideShapes Go.ChangeAt Go.RowKit
set_option linter.unusedVariables false
set_option linter.unusedSimpArgs false
theorem Try.cells26 : Try.prog.cellsOf 26 = 12 := by kernel_rfl
theorem LN_V {x0 x1 x2 x3 : Int} (w0 : W64 x0) (w1 : W64 x1) (w2 : W64 x2) (w3 : W64 x3) : LN (V x0 x1 x2 x3) = [.int .u64 x0, .int .u64 x1, .int .u64 x2, .int .u64 x3] := by
  have := NV_V w0 w1 w2 w3
  unfold NV A4 at this
  injection this with this
  have := congrArg Array.toList this
  simpa using this
theorem trodN {H : Type} {enc : TypeId × Value → H} {W : World} {bs fuel : Nat} {sp : Nat → Bool} {held : Bool} {c0 c1 c2 c3 : Value} {x : DataW H × List MemPlace} (h : DataW.trod enc Try.prog W bs sp held fuel 24 [c0, c1, c2, c3] = some x) :
    ∃ z, In z ∧ [c0, c1, c2, c3] = LN z := by
  obtain ⟨y0, y1, y2, y3, m, hx, hy0, hy1, hy2, hy3⟩ := trod_array4 Try.underlying24 Try.cells22 h
  obtain ⟨x0, e0, rfl, w0⟩ := DataW.trod_int Try.underlying22 hy0
  obtain ⟨x1, e1, rfl, w1⟩ := DataW.trod_int Try.underlying22 hy1
  obtain ⟨x2, e2, rfl, w2⟩ := DataW.trod_int Try.underlying22 hy2
  obtain ⟨x3, e3, rfl, w3⟩ := DataW.trod_int Try.underlying22 hy3
  simp at e0 e1 e2 e3
  subst e0 e1 e2 e3
  exact ⟨V x0 x1 x2 x3, In_V (word_of_wf w0) (word_of_wf w1) (word_of_wf w2) (word_of_wf w3), (LN_V (word_of_wf w0) (word_of_wf w1) (word_of_wf w2) (word_of_wf w3)).symm⟩
set_option maxRecDepth 100000 in
theorem certCells {H : Type} {enc : TypeId × Value → H} {W : World} {bs fuel : Nat} {sp : Nat → Bool} {held : Bool} {cs : List Value} {x : DataW H × List MemPlace} (h : DataW.trod enc Try.prog W bs sp held fuel 26 cs = some x) :
    ∃ n f a, In n ∧ In f ∧ In a ∧ cs = CE n f a := by
  obtain ⟨y0, y1, y2, m, _, hl, h0, h1, h2⟩ := Go.Deep.trod_struct3 Try.underlying26 h
  rw [Try.cells26] at hl
  match cs, hl, h0, h1, h2 with
  | [c0, c1, c2, c3, c4, c5, c6, c7, c8, c9, c10, c11], _, h0, h1, h2 =>
    have h0 : DataW.trod enc Try.prog W bs sp held m 24 ((([c0, c1, c2, c3, c4, c5, c6, c7, c8, c9, c10, c11] : List Value).drop 0).take (Try.prog.cellsOf 24)) = some y0 := h0
    have h1 : DataW.trod enc Try.prog W bs sp held m 24 ((([c0, c1, c2, c3, c4, c5, c6, c7, c8, c9, c10, c11] : List Value).drop 4).take (Try.prog.cellsOf 24)) = some y1 := h1
    have h2 : DataW.trod enc Try.prog W bs sp held m 24 ((([c0, c1, c2, c3, c4, c5, c6, c7, c8, c9, c10, c11] : List Value).drop 8).take (Try.prog.cellsOf 24)) = some y2 := h2
    rw [Try.cells24] at h0 h1 h2
    obtain ⟨n, hn, en⟩ := trodN h0
    obtain ⟨f, hf, ef⟩ := trodN h1
    obtain ⟨a, ha, ea⟩ := trodN h2
    refine ⟨n, f, a, hn, hf, ha, ?_⟩
    have e : CE n f a = LN n ++ LN f ++ LN a := rfl
    rw [e, ← en, ← ef, ← ea]; rfl
theorem Try.cells33 : Try.prog.cellsOf 33 = 16 := by kernel_rfl
/-- The cells of a group, and its value. -/
abbrev GE (p q g h : Int) : List Value := [.int .u64 (D0 p), .int .u64 (D1 p), .int .u64 (D2 p), .int .u64 (D3 p), .int .u64 (D0 q), .int .u64 (D1 q), .int .u64 (D2 q), .int .u64 (D3 q), .int .u64 (D0 g), .int .u64 (D1 g), .int .u64 (D2 g), .int .u64 (D3 g), .int .u64 (D0 h), .int .u64 (D1 h), .int .u64 (D2 h), .int .u64 (D3 h)]
abbrev GX (p q g h : Int) : Value := .agg #[.int .u64 (D0 p), .int .u64 (D1 p), .int .u64 (D2 p), .int .u64 (D3 p), .int .u64 (D0 q), .int .u64 (D1 q), .int .u64 (D2 q), .int .u64 (D3 q), .int .u64 (D0 g), .int .u64 (D1 g), .int .u64 (D2 g), .int .u64 (D3 g), .int .u64 (D0 h), .int .u64 (D1 h), .int .u64 (D2 h), .int .u64 (D3 h)]
set_option maxRecDepth 100000 in
theorem groupCells {H : Type} {enc : TypeId × Value → H} {W : World} {bs fuel : Nat} {sp : Nat → Bool} {held : Bool} {cs : List Value} {x : DataW H × List MemPlace} (h : DataW.trod enc Try.prog W bs sp held fuel 33 cs = some x) :
    ∃ p q g h, In p ∧ In q ∧ In g ∧ In h ∧ cs = GE p q g h := by
  obtain ⟨y0, y1, y2, y3, m, _, hl, h0, h1, h2, h3⟩ := Go.Joins.trod_struct4 Try.underlying33 h
  rw [Try.cells33] at hl
  match cs, hl, h0, h1, h2, h3 with
  | [c0, c1, c2, c3, c4, c5, c6, c7, c8, c9, c10, c11, c12, c13, c14, c15], _, h0, h1, h2, h3 =>
    have h0 : DataW.trod enc Try.prog W bs sp held m 24 ((([c0, c1, c2, c3, c4, c5, c6, c7, c8, c9, c10, c11, c12, c13, c14, c15] : List Value).drop 0).take (Try.prog.cellsOf 24)) = some y0 := h0
    have h1 : DataW.trod enc Try.prog W bs sp held m 24 ((([c0, c1, c2, c3, c4, c5, c6, c7, c8, c9, c10, c11, c12, c13, c14, c15] : List Value).drop 4).take (Try.prog.cellsOf 24)) = some y1 := h1
    have h2 : DataW.trod enc Try.prog W bs sp held m 24 ((([c0, c1, c2, c3, c4, c5, c6, c7, c8, c9, c10, c11, c12, c13, c14, c15] : List Value).drop 8).take (Try.prog.cellsOf 24)) = some y2 := h2
    have h3 : DataW.trod enc Try.prog W bs sp held m 24 ((([c0, c1, c2, c3, c4, c5, c6, c7, c8, c9, c10, c11, c12, c13, c14, c15] : List Value).drop 12).take (Try.prog.cellsOf 24)) = some y3 := h3
    rw [Try.cells24] at h0 h1 h2 h3
    obtain ⟨n, hn, en⟩ := trodN h0
    obtain ⟨f, hf, ef⟩ := trodN h1
    obtain ⟨a, ha, ea⟩ := trodN h2
    obtain ⟨b, hb, eb⟩ := trodN h3
    refine ⟨n, f, a, b, hn, hf, ha, hb, ?_⟩
    have e : GE n f a b = LN n ++ LN f ++ LN a ++ LN b := rfl
    rw [e, ← en, ← ef, ← ea, ← eb]; rfl
set_option maxRecDepth 100000 in
theorem open_group {H : Type} {enc : TypeId × Value → H} {W : World} {bs base : Nat} {sp : Nat → Bool} {held : Bool} {v : Value} {x : DataW H} {p : List MemPlace}
    (hv : Value.okWide Try.prog W .any base 33 v) (h : DataW.Trod enc Try.prog W bs sp held 33 v x p) :
    ∃ p q g h, v = GX p q g h ∧ In p ∧ In q ∧ In g ∧ In h := by
  obtain ⟨cs, rfl, hsz, _⟩ : ∃ cs, v = .agg cs ∧ cs.size = Try.prog.cellsOf 33 ∧ Row.okWide Try.prog W .any base 33 cs := by
    simpa [Value.okWide, Try.underlying33] using hv
  obtain ⟨fuel, hf⟩ := h
  obtain ⟨n, f, a, b, hn, hf', ha, hb, e⟩ := groupCells hf
  refine ⟨n, f, a, b, ?_, hn, hf', ha, hb⟩
  have e : cs.toList = GE n f a b := by simpa [Value.cells] using e
  have : cs = (GE n f a b).toArray := by rw [← e]
  rw [this]
end Go.Proofs.Ytgfggkinmhhdnaa
/- How steps that came in are opened. -/
namespace Go.Proofs.Ytgfggkinmhhdnaa
open Go.ChangeShapes Go.WideShapes Go.ChangeAt Go.RowKit
set_option linter.unusedVariables false
set_option linter.unusedSimpArgs false
/-- A list out of one step for each place. -/
theorem list_ofC {p : Nat → Int × Int × Int → Prop} : ∀ n, (∀ i, i < n → ∃ z, p i z) → ∃ cs : List (Int × Int × Int), cs.length = n ∧ ∀ i, i < n → p i (cat cs i)
  | 0, _ => ⟨[], rfl, fun i hi => by omega⟩
  | n + 1, h => by
    obtain ⟨cs, hl, hp⟩ := list_ofC n (fun i hi => h i (by omega))
    obtain ⟨z, hz⟩ := h n (by omega)
    refine ⟨cs ++ [z], by simp [hl], fun i hi => ?_⟩
    by_cases e : i = n
    · subst e
      have : cat (cs ++ [z]) i = z := by rw [← hl]; simp [cat]
      rw [this]; exact hz
    · have : cat (cs ++ [z]) i = cat cs i := by simp [cat, List.getElem?_append_left (show i < cs.length by omega)]
      rw [this]; exact hp i (by omega)
theorem flC_at : ∀ (cs : List (Int × Int × Int)) (j : Nat) (v : Value), (flC cs)[j]? = some v → j / 12 < cs.length ∧ (CE (cat cs (j / 12)).1 (cat cs (j / 12)).2.1 (cat cs (j / 12)).2.2)[j % 12]? = some v
  | [], j, v, h => by simp [flC] at h
  | n :: r, j, v, h => by
    rw [flC] at h
    by_cases hj : j < 12
    · rw [List.getElem?_append_left (by show j < 12; exact hj)] at h
      rw [show j / 12 = 0 by omega, show j % 12 = j by omega]
      exact ⟨by simp, by simpa [cat] using h⟩
    · rw [List.getElem?_append_right (by show 12 ≤ j; omega)] at h
      have h : (flC r)[j - 12]? = some v := h
      have := flC_at r (j - 12) v h
      rw [show j / 12 = (j - 12) / 12 + 1 by omega, show j % 12 = (j - 12) % 12 by omega]
      exact ⟨by simpa using this.1, by simpa [cat] using this.2⟩
theorem SCt.of {w : World} {g o : Nat} {cs : List (Int × Int × Int)} (h : ∀ i, i < cs.length → ∀ c v, (CE (cat cs i).1 (cat cs i).2.1 (cat cs i).2.2)[c]? = some v → w.cell? ⟨g, o + (i * 12 + c), none⟩ = some v) : SCt w g o cs := fun j v hj => by
  obtain ⟨h1, h2⟩ := flC_at cs j v hj
  have := h _ h1 _ v h2
  rwa [show j / 12 * 12 + j % 12 = j by omega] at this
theorem row_cert {H : Type} {enc : TypeId × Value → H} {W : World} {bs fuel base : Nat} {sp : Nat → Bool} {held : Bool} {a : Addr} {cs : List Value} {x : DataW H × List MemPlace} (h1 : W.cells? base a 12 = some cs) (h : DataW.trod enc Try.prog W bs sp held fuel 26 cs = some x) :
    ∃ z : Int × Int × Int, (In z.1 ∧ In z.2.1 ∧ In z.2.2) ∧ ∀ c v, (CE z.1 z.2.1 z.2.2)[c]? = some v → W.cell? (a.add c) = some v := by
  obtain ⟨_, hl, hc⟩ := World.cells?_some h1
  obtain ⟨n, f, e, hn, hf, he, rfl⟩ := certCells h
  refine ⟨(n, f, e), ⟨hn, hf, he⟩, fun c v hv => ?_⟩
  have hlt : c < 12 := by have := (List.getElem?_eq_some_iff.1 hv).1; simpa using this
  rw [hc c hlt]; exact hv
set_option maxRecDepth 100000 in
/-- The steps that came in, as many as few takes. -/
theorem open_steps {H : Type} {enc : TypeId × Value → H} {W : World} {bs base : Nat} {v : Value} {x : DataW H} {p : List MemPlace} (hv : Value.okWide Try.prog W .any base 31 v) (h : DataW.Trod enc Try.prog W 0 (fun _ => true) true 31 v x p) :
    ∃ sl len cap gb go, ∃ cs : List (Int × Int × Int), v = .slice sl len cap ∧ min (len : Int) 12 = (cs.length : Int) ∧ len ≤ cap ∧ (sl = none → cap = 0) ∧ (cs = [] ∨ sl = some ⟨gb, go, none⟩) ∧ (cs.length = 0 ∨ gb < W.heap.size) ∧ SCt W gb go cs ∧ ∀ j, j < cs.length → In (cat cs j).1 ∧ In (cat cs j).2.1 ∧ In (cat cs j).2.2 := by
  obtain ⟨a0, len, cap, rfl⟩ := okWide_slice Try.underlying31 hv
  obtain ⟨fuel, hf⟩ := h
  rcases Go.Deep.open_slice Try.underlying31 hf with ⟨hcs, hx⟩ | ⟨ad, len', cap', m, n, D, Pl, hcs, hbs, hl, hm, hmm, hx, hall⟩
  · simp [Value.cells] at hcs
    obtain ⟨rfl, rfl, rfl⟩ := hcs
    exact ⟨_, _, _, 0, 0, [], rfl, rfl, Nat.le_refl _, fun _ => rfl, .inl rfl, .inl rfl, SCt.empty rfl, fun j hj => by simp at hj⟩
  · simp [Value.cells] at hcs
    obtain ⟨rfl, rfl, rfl⟩ := hcs
    simp only [if_true] at hmm
    by_cases h0 : cap = 0
    · subst h0
      have e : len = 0 := by omega
      subst e
      exact ⟨_, _, _, 0, 0, [], rfl, rfl, Nat.le_refl _, fun _ => rfl, .inl rfl, .inl rfl, SCt.empty rfl, fun j hj => by simp at hj⟩
    · have hrow : ∀ i, i < cap → ∃ z : Int × Int × Int, (In z.1 ∧ In z.2.1 ∧ In z.2.2) ∧ ∀ c v, (CE z.1 z.2.1 z.2.2)[c]? = some v → W.cell? ((ad.add (i * 12)).add c) = some v := fun i hi => by
        obtain ⟨cs, k1, k2⟩ := hall i (by rw [hmm]; exact hi)
        rw [Try.cells26] at k1
        exact row_cert k1 k2
      obtain ⟨gb, go, spot⟩ := ad
      have hspot : spot = none := by
        obtain ⟨z, _, hz⟩ := hrow 0 (by omega)
        have := hz 0 _ rfl
        simpa [Addr.add] using World.cell?_spot this
      subst hspot
      have hadd : ∀ i c : Nat, ((⟨gb, go, none⟩ : Addr).add (i * 12)).add c = ⟨gb, go + (i * 12 + c), none⟩ := fun i c => by unfold Addr.add; (repeat' split) <;> simp_all <;> omega
      obtain ⟨cs, hnl, hnp⟩ := list_ofC (min (len : Int) 12).toNat (fun i hi => hrow i (by omega))
      have hblk : gb < W.heap.size := by
        obtain ⟨z, _, hz⟩ := hrow 0 (by omega)
        have := hz 0 _ rfl
        rw [hadd] at this
        exact World.block_lt_of_cell? W _ this
      refine ⟨_, _, _, gb, go, cs, rfl, by omega, hl, fun e => (by cases e), .inr rfl, .inr hblk, SCt.of (fun i hi c v hv => ?_), fun j hj => (hnp j (by omega)).1⟩
      have := (hnp i (by omega)).2 c v hv
      rwa [hadd] at this
end Go.Proofs.Ytgfggkinmhhdnaa
