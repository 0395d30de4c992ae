/- How a step, and a group, that came in is opened. -/
import Derived.Test.YtgfggkinmhhdnaaOO
import Derived.Test.YtgfggkinmhhdnaaRG
import Derived.Deep.Strs
import Derived.Lib.SmallJoins
namespace Go.Proofs.Ytgfggkinmhhdnaa
open Go.ChangeShapes Go.WideShapes Go.ChangeAt Go.RowKit
set_option linter.unusedVariables false
set_option linter.unusedSimpArgs false
theorem Try.cells26 : Try.prog.cellsOf 26 = 12 := by kernel_rfl
theorem LN_V {x0 x1 x2 x3 : Int} (w0 : W64 x0) (w1 : W64 x1) (w2 : W64 x2) (w3 : W64 x3) : LN (V x0 x1 x2 x3) = [.int .u64 x0, .int .u64 x1, .int .u64 x2, .int .u64 x3] := by
  have := NV_V w0 w1 w2 w3
  unfold NV A4 at this
  injection this with this
  have := congrArg Array.toList this
  simpa using this
theorem trodN {H : Type} {enc : TypeId × Value → H} {W : World} {bs fuel : Nat} {sp : Nat → Bool} {held : Bool} {c0 c1 c2 c3 : Value} {x : DataW H × List MemPlace} (h : DataW.trod enc Try.prog W bs sp held fuel 24 [c0, c1, c2, c3] = some x) :
    ∃ z, In z ∧ [c0, c1, c2, c3] = LN z := by
  obtain ⟨y0, y1, y2, y3, m, hx, hy0, hy1, hy2, hy3⟩ := trod_array4 Try.underlying24 Try.cells22 h
  obtain ⟨x0, e0, rfl, w0⟩ := DataW.trod_int Try.underlying22 hy0
  obtain ⟨x1, e1, rfl, w1⟩ := DataW.trod_int Try.underlying22 hy1
  obtain ⟨x2, e2, rfl, w2⟩ := DataW.trod_int Try.underlying22 hy2
  obtain ⟨x3, e3, rfl, w3⟩ := DataW.trod_int Try.underlying22 hy3
  simp at e0 e1 e2 e3
  subst e0 e1 e2 e3
  exact ⟨V x0 x1 x2 x3, In_V (word_of_wf w0) (word_of_wf w1) (word_of_wf w2) (word_of_wf w3), (LN_V (word_of_wf w0) (word_of_wf w1) (word_of_wf w2) (word_of_wf w3)).symm⟩
set_option maxRecDepth 100000 in
theorem certCells {H : Type} {enc : TypeId × Value → H} {W : World} {bs fuel : Nat} {sp : Nat → Bool} {held : Bool} {cs : List Value} {x : DataW H × List MemPlace} (h : DataW.trod enc Try.prog W bs sp held fuel 26 cs = some x) :
    ∃ n f a, In n ∧ In f ∧ In a ∧ cs = CE n f a := by
  obtain ⟨y0, y1, y2, m, _, hl, h0, h1, h2⟩ := Go.Deep.trod_struct3 Try.underlying26 h
  rw [Try.cells26] at hl
  match cs, hl, h0, h1, h2 with
  | [c0, c1, c2, c3, c4, c5, c6, c7, c8, c9, c10, c11], _, h0, h1, h2 =>
    have h0 : DataW.trod enc Try.prog W bs sp held m 24 ((([c0, c1, c2, c3, c4, c5, c6, c7, c8, c9, c10, c11] : List Value).drop 0).take (Try.prog.cellsOf 24)) = some y0 := h0
    have h1 : DataW.trod enc Try.prog W bs sp held m 24 ((([c0, c1, c2, c3, c4, c5, c6, c7, c8, c9, c10, c11] : List Value).drop 4).take (Try.prog.cellsOf 24)) = some y1 := h1
    have h2 : DataW.trod enc Try.prog W bs sp held m 24 ((([c0, c1, c2, c3, c4, c5, c6, c7, c8, c9, c10, c11] : List Value).drop 8).take (Try.prog.cellsOf 24)) = some y2 := h2
    rw [Try.cells24] at h0 h1 h2
    obtain ⟨n, hn, en⟩ := trodN h0
    obtain ⟨f, hf, ef⟩ := trodN h1
    obtain ⟨a, ha, ea⟩ := trodN h2
    refine ⟨n, f, a, hn, hf, ha, ?_⟩
    have e : CE n f a = LN n ++ LN f ++ LN a := rfl
    rw [e, ← en, ← ef, ← ea]; rfl
set_option maxRecDepth 100000 in
theorem open_cert {H : Type} {enc : TypeId × Value → H} {W : World} {bs base : Nat} {sp : Nat → Bool} {held : Bool} {v : Value} {x : DataW H} {p : List MemPlace}
    (hv : Value.okWide Try.prog W .any base 26 v) (h : DataW.Trod enc Try.prog W bs sp held 26 v x p) :
    ∃ n f a, v = CX n f a ∧ In n ∧ In f ∧ In a := by
  obtain ⟨cs, rfl, hsz, _⟩ : ∃ cs, v = .agg cs ∧ cs.size = Try.prog.cellsOf 26 ∧ Row.okWide Try.prog W .any base 26 cs := by
    simpa [Value.okWide, Try.underlying26] using hv
  obtain ⟨fuel, hf⟩ := h
  obtain ⟨n, f, a, hn, hf', ha, e⟩ := certCells hf
  refine ⟨n, f, a, ?_, hn, hf', ha⟩
  have e : cs.toList = CE n f a := by simpa [Value.cells] using e
  have : cs = (CE n f a).toArray := by rw [← e]
  rw [this]
theorem Try.cells33 : Try.prog.cellsOf 33 = 16 := by kernel_rfl
/-- The cells of a group, and its value. -/
abbrev GE (p q g h : Int) : List Value := [.int .u64 (D0 p), .int .u64 (D1 p), .int .u64 (D2 p), .int .u64 (D3 p), .int .u64 (D0 q), .int .u64 (D1 q), .int .u64 (D2 q), .int .u64 (D3 q), .int .u64 (D0 g), .int .u64 (D1 g), .int .u64 (D2 g), .int .u64 (D3 g), .int .u64 (D0 h), .int .u64 (D1 h), .int .u64 (D2 h), .int .u64 (D3 h)]
abbrev GX (p q g h : Int) : Value := .agg #[.int .u64 (D0 p), .int .u64 (D1 p), .int .u64 (D2 p), .int .u64 (D3 p), .int .u64 (D0 q), .int .u64 (D1 q), .int .u64 (D2 q), .int .u64 (D3 q), .int .u64 (D0 g), .int .u64 (D1 g), .int .u64 (D2 g), .int .u64 (D3 g), .int .u64 (D0 h), .int .u64 (D1 h), .int .u64 (D2 h), .int .u64 (D3 h)]
set_option maxRecDepth 100000 in
theorem groupCells {H : Type} {enc : TypeId × Value → H} {W : World} {bs fuel : Nat} {sp : Nat → Bool} {held : Bool} {cs : List Value} {x : DataW H × List MemPlace} (h : DataW.trod enc Try.prog W bs sp held fuel 33 cs = some x) :
    ∃ p q g h, In p ∧ In q ∧ In g ∧ In h ∧ cs = GE p q g h := by
  obtain ⟨y0, y1, y2, y3, m, _, hl, h0, h1, h2, h3⟩ := Go.Joins.trod_struct4 Try.underlying33 h
  rw [Try.cells33] at hl
  match cs, hl, h0, h1, h2, h3 with
  | [c0, c1, c2, c3, c4, c5, c6, c7, c8, c9, c10, c11, c12, c13, c14, c15], _, h0, h1, h2, h3 =>
    have h0 : DataW.trod enc Try.prog W bs sp held m 24 ((([c0, c1, c2, c3, c4, c5, c6, c7, c8, c9, c10, c11, c12, c13, c14, c15] : List Value).drop 0).take (Try.prog.cellsOf 24)) = some y0 := h0
    have h1 : DataW.trod enc Try.prog W bs sp held m 24 ((([c0, c1, c2, c3, c4, c5, c6, c7, c8, c9, c10, c11, c12, c13, c14, c15] : List Value).drop 4).take (Try.prog.cellsOf 24)) = some y1 := h1
    have h2 : DataW.trod enc Try.prog W bs sp held m 24 ((([c0, c1, c2, c3, c4, c5, c6, c7, c8, c9, c10, c11, c12, c13, c14, c15] : List Value).drop 8).take (Try.prog.cellsOf 24)) = some y2 := h2
    have h3 : DataW.trod enc Try.prog W bs sp held m 24 ((([c0, c1, c2, c3, c4, c5, c6, c7, c8, c9, c10, c11, c12, c13, c14, c15] : List Value).drop 12).take (Try.prog.cellsOf 24)) = some y3 := h3
    rw [Try.cells24] at h0 h1 h2 h3
    obtain ⟨n, hn, en⟩ := trodN h0
    obtain ⟨f, hf, ef⟩ := trodN h1
    obtain ⟨a, ha, ea⟩ := trodN h2
    obtain ⟨b, hb, eb⟩ := trodN h3
    refine ⟨n, f, a, b, hn, hf, ha, hb, ?_⟩
    have e : GE n f a b = LN n ++ LN f ++ LN a ++ LN b := rfl
    rw [e, ← en, ← ef, ← ea, ← eb]; rfl
set_option maxRecDepth 100000 in
theorem open_group {H : Type} {enc : TypeId × Value → H} {W : World} {bs base : Nat} {sp : Nat → Bool} {held : Bool} {v : Value} {x : DataW H} {p : List MemPlace}
    (hv : Value.okWide Try.prog W .any base 33 v) (h : DataW.Trod enc Try.prog W bs sp held 33 v x p) :
    ∃ p q g h, v = GX p q g h ∧ In p ∧ In q ∧ In g ∧ In h := by
  obtain ⟨cs, rfl, hsz, _⟩ : ∃ cs, v = .agg cs ∧ cs.size = Try.prog.cellsOf 33 ∧ Row.okWide Try.prog W .any base 33 cs := by
    simpa [Value.okWide, Try.underlying33] using hv
  obtain ⟨fuel, hf⟩ := h
  obtain ⟨n, f, a, b, hn, hf', ha, hb, e⟩ := groupCells hf
  refine ⟨n, f, a, b, ?_, hn, hf', ha, hb⟩
  have e : cs.toList = GE n f a b := by simpa [Value.cells] using e
  have : cs = (GE n f a b).toArray := by rw [← e]
  rw [this]
end Go.Proofs.Ytgfggkinmhhdnaa
