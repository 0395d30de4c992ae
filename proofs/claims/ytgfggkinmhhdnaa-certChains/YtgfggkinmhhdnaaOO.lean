import Derived.Test.YtgfggkinmhhdnaaRows
import Derived.Test.YtgfggkinmhhdnaaMem
import Derived.Test.YtgfggkinmhhdnaaEqs
import Derived.ProofKit
import Derived.OpenShut
import Derived.ShutString
import Derived.ChangeOld
import Derived.Below
import Derived.Laws.IdiomArrays
import Derived.Lib.SmallJoins
import Derived.Test.YtgfggkinmhhdnaaN1
import Derived.Test.YtgfggkinmhhdnaaL0
import Derived.Carry
/- How a number of four words that came in is opened and shut. -/
namespace Go.Proofs.Ytgfggkinmhhdnaa
open Go.ChangeShapes Go.WideShapes Go.ChangeAt Go.RowKit
set_option linter.unusedSimpArgs false
set_option linter.unusedVariables false
theorem Try.own : ownKnob Try.prog.godebug = none := by kernel_rfl
theorem Try.laidOut : laidOutB Try.prog = true := by kernel_rfl
theorem Try.cells24 : Try.prog.cellsOf 24 = 4 := by kernel_rfl
theorem Try.cells22 : Try.prog.cellsOf 22 = 1 := by kernel_rfl
theorem word_of_wf {x : Int} (h : (Lit.int .u64 x).wf = true) : W64 x := by
  simp [Lit.wf, IntKind.min, IntKind.max, IntKind.signed, IntKind.bits] at h
  exact ⟨by omega, by omega⟩
theorem wf_of_word {x : Int} (h : W64 x) : (Lit.int .u64 x).wf = true := by
  obtain ⟨h1, h2⟩ := h
  simp [Lit.wf, IntKind.min, IntKind.max, IntKind.signed, IntKind.bits]
  exact ⟨by omega, by omega⟩
abbrev N4 {H : Type} (a b c d : Int) : DataW H := .agg [.lit (.int .u64 a), .lit (.int .u64 b), .lit (.int .u64 c), .lit (.int .u64 d)]
set_option maxRecDepth 100000 in
set_option maxHeartbeats 1000000 in
theorem open_nat {H : Type} {enc : TypeId × Value → H} {W : World} {bs base : Nat} {sp : Nat → Bool} {held : Bool} {v : Value} {x : DataW H} {p : List MemPlace}
    (hv : Value.okWide Try.prog W .any base 24 v) (h : DataW.Trod enc Try.prog W bs sp held 24 v x p) :
    ∃ a b c d : Int, v = A4 a b c d ∧ x = N4 a b c d ∧ p = [] ∧ W64 a ∧ W64 b ∧ W64 c ∧ W64 d := by
  obtain ⟨cs, rfl, hsz, _⟩ : ∃ cs, v = .agg cs ∧ cs.size = Try.prog.cellsOf 24 ∧ Row.okWide Try.prog W .any base 24 cs := by
    simpa [Value.okWide, Try.underlying24] using hv
  rw [Try.cells24] at hsz
  obtain ⟨c0, c1, c2, c3, rfl⟩ := Go.Joins.array4 hsz
  obtain ⟨fuel, hf⟩ := h
  obtain ⟨y0, y1, y2, y3, m, hx, hy0, hy1, hy2, hy3⟩ := trod_array4 Try.underlying24 Try.cells22 hf
  obtain ⟨x0, e0, rfl, w0⟩ := DataW.trod_int Try.underlying22 hy0
  obtain ⟨x1, e1, rfl, w1⟩ := DataW.trod_int Try.underlying22 hy1
  obtain ⟨x2, e2, rfl, w2⟩ := DataW.trod_int Try.underlying22 hy2
  obtain ⟨x3, e3, rfl, w3⟩ := DataW.trod_int Try.underlying22 hy3
  simp at e0 e1 e2 e3
  subst e0 e1 e2 e3
  simp only [Prod.mk.injEq] at hx
  obtain ⟨rfl, rfl⟩ := hx
  exact ⟨x0, x1, x2, x3, rfl, rfl, rfl, word_of_wf w0, word_of_wf w1, word_of_wf w2, word_of_wf w3⟩
theorem shut_nat {H : Type} {enc : TypeId × Value → H} {W : World} {bs : Nat} {sp : Nat → Bool} {held : Bool} {a b c d : Int} (ha : W64 a) (hb : W64 b) (hc : W64 c) (hd : W64 d) :
    DataW.Trod enc Try.prog W bs sp held 24 (A4 a b c d) (N4 a b c d) [] := by
  have k0 := wf_of_word ha; have k1 := wf_of_word hb; have k2 := wf_of_word hc; have k3 := wf_of_word hd
  have r4 : List.range 4 = [0, 1, 2, 3] := rfl
  exact ⟨2, by simp [DataW.trod, Value.cells, Try.underlying24, Try.underlying22, Try.cells24, Try.cells22, r4, k0, k1, k2, k3]⟩
end Go.Proofs.Ytgfggkinmhhdnaa
/- How a number of eight words that came in is opened and shut. -/
namespace Go.Proofs.Ytgfggkinmhhdnaa
open Go.ChangeShapes Go.WideShapes Go.ChangeAt Go.RowKit
set_option linter.unusedSimpArgs false
set_option linter.unusedVariables false
theorem Try.cells45 : Try.prog.cellsOf 45 = 8 := by kernel_rfl
theorem array_eight {α : Type} {cs : Array α} (h : cs.size = 8) : ∃ c0 c1 c2 c3 c4 c5 c6 c7, cs = #[c0, c1, c2, c3, c4, c5, c6, c7] := by
  obtain ⟨l⟩ := cs
  match l, h with
  | [a, b, c, d, e, f, g, i], _ => exact ⟨a, b, c, d, e, f, g, i, rfl⟩
theorem trod_eight {H : Type} {P : Program} {w : World} {base : Nat} {spare : Nat → Bool} {held : Bool} {enc : TypeId × Value → H} {t e : TypeId} {fuel : Nat} {c0 c1 c2 c3 c4 c5 c6 c7 : Value} {x : DataW H × List MemPlace} (ht : P.underlying t = some (.array 8 e)) (hce : P.cellsOf e = 1)
    (h : DataW.trod enc P w base spare held fuel t [c0, c1, c2, c3, c4, c5, c6, c7] = some x) :
    ∃ y0 y1 y2 y3 y4 y5 y6 y7 n, x = (.agg [y0.1, y1.1, y2.1, y3.1, y4.1, y5.1, y6.1, y7.1], y0.2 ++ (y1.2 ++ (y2.2 ++ (y3.2 ++ (y4.2 ++ (y5.2 ++ (y6.2 ++ y7.2))))))) ∧ DataW.trod enc P w base spare held n e [c0] = some y0 ∧ DataW.trod enc P w base spare held n e [c1] = some y1 ∧ DataW.trod enc P w base spare held n e [c2] = some y2 ∧ DataW.trod enc P w base spare held n e [c3] = some y3 ∧ DataW.trod enc P w base spare held n e [c4] = some y4 ∧ DataW.trod enc P w base spare held n e [c5] = some y5 ∧ DataW.trod enc P w base spare held n e [c6] = some y6 ∧ DataW.trod enc P w base spare held n e [c7] = some y7 := by
  cases fuel with
  | zero => simp [DataW.trod] at h
  | succ n =>
    unfold DataW.trod at h
    rw [ht] at h
    have r8 : List.range 8 = [0, 1, 2, 3, 4, 5, 6, 7] := rfl
    simp [r8, hce] at h
    obtain ⟨_, h⟩ := h
    rcases h0 : DataW.trod enc P w base spare held n e [c0] with _ | y0
    · simp [h0] at h
    rcases h1 : DataW.trod enc P w base spare held n e [c1] with _ | y1
    · simp [h0, h1] at h
    rcases h2 : DataW.trod enc P w base spare held n e [c2] with _ | y2
    · simp [h0, h1, h2] at h
    rcases h3 : DataW.trod enc P w base spare held n e [c3] with _ | y3
    · simp [h0, h1, h2, h3] at h
    rcases h4 : DataW.trod enc P w base spare held n e [c4] with _ | y4
    · simp [h0, h1, h2, h3, h4] at h
    rcases h5 : DataW.trod enc P w base spare held n e [c5] with _ | y5
    · simp [h0, h1, h2, h3, h4, h5] at h
    rcases h6 : DataW.trod enc P w base spare held n e [c6] with _ | y6
    · simp [h0, h1, h2, h3, h4, h5, h6] at h
    rcases h7 : DataW.trod enc P w base spare held n e [c7] with _ | y7
    · simp [h0, h1, h2, h3, h4, h5, h6, h7] at h
    simp [h0, h1, h2, h3, h4, h5, h6, h7] at h
    exact ⟨y0, y1, y2, y3, y4, y5, y6, y7, n, h.symm, h0, h1, h2, h3, h4, h5, h6, h7⟩
abbrev N8 {H : Type} (a b c d e f g h : Int) : DataW H := .agg [.lit (.int .u64 a), .lit (.int .u64 b), .lit (.int .u64 c), .lit (.int .u64 d), .lit (.int .u64 e), .lit (.int .u64 f), .lit (.int .u64 g), .lit (.int .u64 h)]
set_option maxRecDepth 100000 in
set_option maxHeartbeats 1000000 in
theorem open_wide {H : Type} {enc : TypeId × Value → H} {W : World} {bs base : Nat} {sp : Nat → Bool} {held : Bool} {v : Value} {x : DataW H} {p : List MemPlace}
    (hv : Value.okWide Try.prog W .any base 45 v) (h : DataW.Trod enc Try.prog W bs sp held 45 v x p) :
    ∃ a b c d e f g h : Int, v = A8 a b c d e f g h ∧ x = N8 a b c d e f g h ∧ p = [] ∧ W64 a ∧ W64 b ∧ W64 c ∧ W64 d ∧ W64 e ∧ W64 f ∧ W64 g ∧ W64 h := by
  obtain ⟨cs, rfl, hsz, _⟩ : ∃ cs, v = .agg cs ∧ cs.size = Try.prog.cellsOf 45 ∧ Row.okWide Try.prog W .any base 45 cs := by
    simpa [Value.okWide, Try.underlying45] using hv
  rw [Try.cells45] at hsz
  obtain ⟨c0, c1, c2, c3, c4, c5, c6, c7, rfl⟩ := array_eight hsz
  obtain ⟨fuel, hf⟩ := h
  obtain ⟨y0, y1, y2, y3, y4, y5, y6, y7, m, hx, hy0, hy1, hy2, hy3, hy4, hy5, hy6, hy7⟩ := trod_eight Try.underlying45 Try.cells22 hf
  obtain ⟨x0, e0, rfl, w0⟩ := DataW.trod_int Try.underlying22 hy0
  obtain ⟨x1, e1, rfl, w1⟩ := DataW.trod_int Try.underlying22 hy1
  obtain ⟨x2, e2, rfl, w2⟩ := DataW.trod_int Try.underlying22 hy2
  obtain ⟨x3, e3, rfl, w3⟩ := DataW.trod_int Try.underlying22 hy3
  obtain ⟨x4, e4, rfl, w4⟩ := DataW.trod_int Try.underlying22 hy4
  obtain ⟨x5, e5, rfl, w5⟩ := DataW.trod_int Try.underlying22 hy5
  obtain ⟨x6, e6, rfl, w6⟩ := DataW.trod_int Try.underlying22 hy6
  obtain ⟨x7, e7, rfl, w7⟩ := DataW.trod_int Try.underlying22 hy7
  simp at e0 e1 e2 e3 e4 e5 e6 e7
  subst e0 e1 e2 e3 e4 e5 e6 e7
  simp only [Prod.mk.injEq] at hx
  obtain ⟨rfl, rfl⟩ := hx
  exact ⟨x0, x1, x2, x3, x4, x5, x6, x7, rfl, rfl, rfl, word_of_wf w0, word_of_wf w1, word_of_wf w2, word_of_wf w3, word_of_wf w4, word_of_wf w5, word_of_wf w6, word_of_wf w7⟩
theorem shut_wide {H : Type} {enc : TypeId × Value → H} {W : World} {bs : Nat} {sp : Nat → Bool} {held : Bool} {a b c d e f g h : Int} (ha : W64 a) (hb : W64 b) (hc : W64 c) (hd : W64 d) (he : W64 e) (hf : W64 f) (hg : W64 g) (hh : W64 h) :
    DataW.Trod enc Try.prog W bs sp held 45 (A8 a b c d e f g h) (N8 a b c d e f g h) [] := by
  have k0 := wf_of_word ha; have k1 := wf_of_word hb; have k2 := wf_of_word hc; have k3 := wf_of_word hd; have k4 := wf_of_word he; have k5 := wf_of_word hf; have k6 := wf_of_word hg; have k7 := wf_of_word hh
  have r8 : List.range 8 = [0, 1, 2, 3, 4, 5, 6, 7] := rfl
  exact ⟨2, by simp [DataW.trod, Value.cells, Try.underlying45, Try.underlying22, Try.cells45, Try.cells22, r8, k0, k1, k2, k3, k4, k5, k6, k7]⟩
end Go.Proofs.Ytgfggkinmhhdnaa
/- Five parameters; words; wide numbers, in the words of numbers. -/
namespace Go.Proofs.Ytgfggkinmhhdnaa
open Go.ChangeShapes Go.WideShapes Go.ChangeAt Go.RowKit
set_option linter.unusedVariables false
section
variable {H : Type} {enc : TypeId × Value → H} {P : Program} {w : World} {base : Nat} {spare : Nat → Bool} {held : Bool}
theorem trodAll_five {t0 t1 t2 t3 t4 : TypeId} {args : Array Value} {ds : List (DataW H)} {ps : List MemPlace} (h : DataW.TrodAll enc P w base spare held [t0, t1, t2, t3, t4] args.toList ds ps) :
    ∃ v0 v1 v2 v3 v4 d0 d1 d2 d3 d4 p0 p1 p2 p3 p4, args = #[v0, v1, v2, v3, v4] ∧ ds = [d0, d1, d2, d3, d4] ∧ ps = p0 ++ (p1 ++ (p2 ++ (p3 ++ p4))) ∧ DataW.Trod enc P w base spare held t0 v0 d0 p0 ∧ DataW.Trod enc P w base spare held t1 v1 d1 p1 ∧ DataW.Trod enc P w base spare held t2 v2 d2 p2 ∧ DataW.Trod enc P w base spare held t3 v3 d3 p3 ∧ DataW.Trod enc P w base spare held t4 v4 d4 p4 := by
  obtain ⟨v0, r0, d0, e0, p0, q0, hargs, rfl, rfl, k0, h0⟩ := trodAll_cons h
  obtain ⟨v1, r1, d1, e1, p1, q1, rfl, rfl, rfl, k1, h1⟩ := trodAll_cons h0
  obtain ⟨v2, r2, d2, e2, p2, q2, rfl, rfl, rfl, k2, h2⟩ := trodAll_cons h1
  obtain ⟨v3, r3, d3, e3, p3, q3, rfl, rfl, rfl, k3, h3⟩ := trodAll_cons h2
  obtain ⟨v4, r4, d4, e4, p4, q4, rfl, rfl, rfl, k4, h4⟩ := trodAll_cons h3
  obtain ⟨rfl, rfl, rfl⟩ := trodAll_nil h4
  exact ⟨v0, v1, v2, v3, v4, d0, d1, d2, d3, d4, p0, p1, p2, p3, p4, by cases args; simp_all, rfl, by simp, k0, k1, k2, k3, k4⟩
theorem trodAll_mk5 {t0 t1 t2 t3 t4 : TypeId} {v0 v1 v2 v3 v4 : Value} {d0 d1 d2 d3 d4 : DataW H} {p0 p1 p2 p3 p4 : List MemPlace} (h0 : DataW.Trod enc P w base spare held t0 v0 d0 p0) (h1 : DataW.Trod enc P w base spare held t1 v1 d1 p1) (h2 : DataW.Trod enc P w base spare held t2 v2 d2 p2) (h3 : DataW.Trod enc P w base spare held t3 v3 d3 p3) (h4 : DataW.Trod enc P w base spare held t4 v4 d4 p4) :
    DataW.TrodAll enc P w base spare held [t0, t1, t2, t3, t4] [v0, v1, v2, v3, v4] [d0, d1, d2, d3, d4] (p0 ++ (p1 ++ (p2 ++ (p3 ++ p4)))) := ⟨p0, _, h0, trodAll_mk4 h1 h2 h3 h4, rfl⟩
end
set_option maxRecDepth 100000 in
set_option maxHeartbeats 1000000 in
theorem open_word {H : Type} {enc : TypeId × Value → H} {W : World} {bs base : Nat} {sp : Nat → Bool} {held : Bool} {v : Value} {x : DataW H} {p : List MemPlace} (hv : Value.okWide Try.prog W .any base 22 v) (h : DataW.Trod enc Try.prog W bs sp held 22 v x p) :
    ∃ a : Int, v = .int .u64 a ∧ x = .lit (.int .u64 a) ∧ p = [] ∧ W64 a := by
  obtain ⟨a, h1, h2, h3, h4⟩ := open_int Try.underlying22 hv h
  exact ⟨a, h1, h2, h3, word_of_wf h4⟩
theorem shut_word {H : Type} {enc : TypeId × Value → H} {W : World} {bs : Nat} {sp : Nat → Bool} {held : Bool} {a : Int} (h : W64 a) : DataW.Trod enc Try.prog W bs sp held 22 (.int .u64 a) (.lit (.int .u64 a)) [] :=
  shut_int Try.underlying22 (wf_of_word h)
theorem In_W8 {a b c d e f g h : Int} (ha : W64 a) (hb : W64 b) (hc : W64 c) (hd : W64 d) (he : W64 e) (hf : W64 f) (hg : W64 g) (hh : W64 h) : InW (V a b c d + V e f g h * 115792089237316195423570985008687907853269984665640564039457584007913129639936) := by
  have h1 := V_bd a b c d ha hb hc hd
  have h2 := V_bd e f g h he hf hg hh
  exact ⟨by omega, by omega⟩
theorem WV_W {a b c d e f g h : Int} (ha : W64 a) (hb : W64 b) (hc : W64 c) (hd : W64 d) (he : W64 e) (hf : W64 f) (hg : W64 g) (hh : W64 h) : WV (V a b c d + V e f g h * 115792089237316195423570985008687907853269984665640564039457584007913129639936) = A8 a b c d e f g h :=
  WV_of _ a b c d e f g h ha hb hc hd he hf hg hh rfl
end Go.Proofs.Ytgfggkinmhhdnaa
