/- Cast: what came in: a message, messages, moves. -/
import Derived.Test.YthncmahhnbpbkaaRows
import Derived.Test.YthncmahhnbpbkaaKAL
import Derived.ProofKit
import Derived.OpenShut
import Derived.ShutString
import Derived.ChangeOld
import Derived.Below
import Derived.Laws.IdiomArrays
import Derived.Lib.SmallJoins
import Derived.Deep.Slices
import Derived.Deep.Strs
import Derived.Carry
import Derived.ChangeMaps5
namespace Go.Proofs.Ythncmahhnbpbkaa
open Go.ChangeShapes Go.WideShapes Go.ChangeAt Go.RowKit
set_option linter.unusedSimpArgs false
set_option linter.unusedVariables false
theorem Try.own : ownKnob Try.prog.godebug = none := by kernel_rfl
theorem Try.laidOut : laidOutB Try.prog = true := by kernel_rfl
theorem cellsI : Try.prog.cellsOf 3 = 1 := by kernel_rfl
theorem cellsT : Try.prog.cellsOf 9 = 1 := by kernel_rfl
theorem cellsMg : Try.prog.cellsOf 32 = 3 := by kernel_rfl
theorem cellsMv : Try.prog.cellsOf 80 = 6 := by kernel_rfl
theorem int_of {x : Int} (h : (Lit.int .i64 x).wf = true) : -9223372036854775808 ≤ x ∧ x ≤ 9223372036854775807 := by
  simp [Lit.wf, IntKind.min, IntKind.max, IntKind.signed, IntKind.bits] at h; omega
def W64i (n : Int) : Prop := -9223372036854775808 ≤ n ∧ n ≤ 9223372036854775807
def MsgC (l : List Value) : Prop := ∃ (k f : Int) (s : ByteArray), l = [.int .i64 k, .int .i64 f, .string s] ∧ W64i k ∧ W64i f ∧ s.size ≤ maxLen
def MovC (l : List Value) : Prop := ∃ (a b c d e : Int) (s : ByteArray), l = [.int .i64 a, .int .i64 b, .int .i64 c, .int .i64 d, .int .i64 e, .string s] ∧ (W64i a ∧ W64i b ∧ W64i c ∧ W64i d ∧ W64i e) ∧ s.size ≤ maxLen
theorem msgCells {H : Type} {enc : TypeId × Value → H} {W : World} {bs fuel : Nat} {sp : Nat → Bool} {held : Bool} {l : List Value} {x : DataW H × List MemPlace} (hf : DataW.trod enc Try.prog W bs sp held fuel 32 l = some x) :
    ∃ (k f : Int) (s : ByteArray), l = [.int .i64 k, .int .i64 f, .string s] ∧ W64i k ∧ W64i f ∧ s.size ≤ maxLen := by
  obtain ⟨y0, y1, y2, m, _, hl, h0, h1, h2⟩ := Go.Deep.trod_struct3 Try.underlying32 hf
  rw [cellsMg] at hl
  have h0 : DataW.trod enc Try.prog W bs sp held m 3 ((l.drop 0).take (Try.prog.cellsOf 3)) = some y0 := h0
  have h1 : DataW.trod enc Try.prog W bs sp held m 3 ((l.drop 1).take (Try.prog.cellsOf 3)) = some y1 := h1
  have h2 : DataW.trod enc Try.prog W bs sp held m 9 ((l.drop 2).take (Try.prog.cellsOf 9)) = some y2 := h2
  rw [cellsI] at h0 h1
  rw [cellsT] at h2
  match l, hl, h0, h1, h2 with
  | [c0, c1, c2], _, h0, h1, h2 =>
    obtain ⟨k, e0, _, w0⟩ := DataW.trod_int Try.underlying3 h0
    obtain ⟨f, e1, _, w1⟩ := DataW.trod_int Try.underlying3 h1
    obtain ⟨s, e2, _, hs⟩ := DataW.trod_string Try.underlying9 h2
    simp at e0 e1 e2
    exact ⟨k, f, s, by rw [e0, e1, e2], int_of w0, int_of w1, hs⟩
theorem movCells {H : Type} {enc : TypeId × Value → H} {W : World} {bs fuel : Nat} {sp : Nat → Bool} {held : Bool} {l : List Value} {x : DataW H × List MemPlace} (hf : DataW.trod enc Try.prog W bs sp held fuel 80 l = some x) :
    ∃ (a b c d e : Int) (s : ByteArray), l = [.int .i64 a, .int .i64 b, .int .i64 c, .int .i64 d, .int .i64 e, .string s] ∧ (W64i a ∧ W64i b ∧ W64i c ∧ W64i d ∧ W64i e) ∧ s.size ≤ maxLen := by
  obtain ⟨xs, m, _, _, hl, hlen, hx⟩ := DataW.trod_struct Try.underlying80 hf
  rw [cellsMv] at hl
  match xs, hlen with
  | [y0, y1, y2, y3, y4, y5], _ =>
    have h0 : DataW.trod enc Try.prog W bs sp held m 3 ((l.drop 0).take (Try.prog.cellsOf 3)) = some y0 := hx 0 _ rfl
    have h1 : DataW.trod enc Try.prog W bs sp held m 3 ((l.drop 1).take (Try.prog.cellsOf 3)) = some y1 := hx 1 _ rfl
    have h2 : DataW.trod enc Try.prog W bs sp held m 3 ((l.drop 2).take (Try.prog.cellsOf 3)) = some y2 := hx 2 _ rfl
    have h3 : DataW.trod enc Try.prog W bs sp held m 3 ((l.drop 3).take (Try.prog.cellsOf 3)) = some y3 := hx 3 _ rfl
    have h4 : DataW.trod enc Try.prog W bs sp held m 3 ((l.drop 4).take (Try.prog.cellsOf 3)) = some y4 := hx 4 _ rfl
    have h5 : DataW.trod enc Try.prog W bs sp held m 9 ((l.drop 5).take (Try.prog.cellsOf 9)) = some y5 := hx 5 _ rfl
    rw [cellsI] at h0 h1 h2 h3 h4
    rw [cellsT] at h5
    match l, hl, h0, h1, h2, h3, h4, h5 with
    | [c0, c1, c2, c3, c4, c5], _, h0, h1, h2, h3, h4, h5 =>
      obtain ⟨a, e0, _, w0⟩ := DataW.trod_int Try.underlying3 h0
      obtain ⟨b, e1, _, w1⟩ := DataW.trod_int Try.underlying3 h1
      obtain ⟨c, e2, _, w2⟩ := DataW.trod_int Try.underlying3 h2
      obtain ⟨d, e3, _, w3⟩ := DataW.trod_int Try.underlying3 h3
      obtain ⟨e, e4, _, w4⟩ := DataW.trod_int Try.underlying3 h4
      obtain ⟨s, e5, _, hs⟩ := DataW.trod_string Try.underlying9 h5
      simp at e0 e1 e2 e3 e4 e5
      exact ⟨a, b, c, d, e, s, by rw [e0, e1, e2, e3, e4, e5], ⟨int_of w0, int_of w1, int_of w2, int_of w3, int_of w4⟩, hs⟩
/-- A message that came in. -/
theorem open_msg {H : Type} {enc : TypeId × Value → H} {W : World} {bs base : Nat} {sp : Nat → Bool} {held : Bool} {v : Value} {x : DataW H} {p : List MemPlace}
    (hv : Value.okWide Try.prog W .any base 32 v) (h : DataW.Trod enc Try.prog W bs sp held 32 v x p) :
    ∃ (k f : Int) (s : ByteArray), v = MX k f s ∧ W64i k ∧ W64i f ∧ s.size ≤ maxLen := by
  obtain ⟨cs, rfl, hsz, _⟩ : ∃ cs, v = .agg cs ∧ cs.size = Try.prog.cellsOf 32 ∧ Row.okWide Try.prog W .any base 32 cs := by
    simpa [Value.okWide, Try.underlying32] using hv
  obtain ⟨fuel, hf⟩ := h
  obtain ⟨k, f, s, e, h1, h2, h3⟩ := msgCells hf
  refine ⟨k, f, s, ?_, h1, h2, h3⟩
  have : cs = [Value.int .i64 k, .int .i64 f, .string s].toArray := by rw [← e]; rfl
  rw [this]
/-- Each of these came in as so many cells. -/
def Rows (W : World) (gb go sz : Nat) (f : Nat → List Value) (n : Nat) : Prop := ∀ i, i < n → ∀ c v, (f i)[c]? = some v → W.cell? ⟨gb, go + (i * sz + c), none⟩ = some v
/-- A slice that came in, its elements by themselves. -/
theorem open_rows (T E : TypeId) (sz : Nat) (Q : List Value → Prop) (hT : Try.prog.underlying T = some (.slice E)) (hsz : Try.prog.cellsOf E = sz) (h0 : 0 < sz) {H : Type} {enc : TypeId × Value → H} {W : World} {base : Nat} {v0 : Value} {x : DataW H} {p : List MemPlace}
    (hQ : ∀ fuel l y, DataW.trod enc Try.prog W 0 (fun _ => true) true fuel E l = some y → Q l ∧ l.length = sz) (hv : Value.okWide Try.prog W .any base T v0) (h : DataW.Trod enc Try.prog W 0 (fun _ => true) true T v0 x p) :
    ∃ sl len cap gb go, ∃ f : Nat → List Value, v0 = .slice sl len cap ∧ len ≤ 9223372036854775807 ∧ len ≤ cap ∧ (0 < len → sl = some ⟨gb, go, none⟩ ∧ gb < W.heap.size) ∧ Rows W gb go sz f len ∧ ∀ i, i < len → Q (f i) ∧ (f i).length = sz := by
  obtain ⟨a0, len, cap, rfl⟩ := okWide_slice hT hv
  obtain ⟨fuel, hf⟩ := h
  rcases Go.Deep.open_slice hT hf with ⟨hcs, hx⟩ | ⟨ad, len', cap', m, n, D, Pl, hcs, hbs, hl, hm, hmm, hx, hall⟩
  · simp [Value.cells] at hcs
    obtain ⟨rfl, rfl, rfl⟩ := hcs
    exact ⟨_, _, _, 0, 0, fun _ => [], rfl, by omega, Nat.le_refl _, fun h => by omega, (fun i hi => by omega), fun i hi => by omega⟩
  · simp [Value.cells] at hcs
    obtain ⟨rfl, rfl, rfl⟩ := hcs
    simp only [if_true] at hmm
    have hlen : len ≤ 9223372036854775807 := by
      have := hm; simp only [maxLen] at this; omega
    by_cases hc : cap = 0
    · exact ⟨_, _, _, 0, 0, fun _ => [], rfl, hlen, hl, fun h => by omega, (fun i hi => by omega), fun i hi => by omega⟩
    · have hrow : ∀ i, i < cap → ∃ l : List Value, (Q l ∧ l.length = sz) ∧ ∀ c v, l[c]? = some v → W.cell? ((ad.add (i * sz)).add c) = some v := fun i hi => by
        obtain ⟨cs, k1, k2⟩ := hall i (by rw [hmm]; exact hi)
        rw [hsz] at k1
        obtain ⟨_, hl, hc⟩ := World.cells?_some k1
        obtain ⟨q1, q2⟩ := hQ _ _ _ k2
        exact ⟨cs, ⟨q1, q2⟩, fun c v hv => by rw [hc c (by have := (List.getElem?_eq_some_iff.1 hv).1; omega)]; exact hv⟩
      obtain ⟨gb, go, spot⟩ := ad
      have hspot : spot = none := by
        obtain ⟨l, ⟨_, h3⟩, hz⟩ := hrow 0 (by omega)
        cases l with
        | nil => simp at h3; omega
        | cons v r =>
          have := hz 0 v rfl
          simpa [Addr.add] using World.cell?_spot this
      subst hspot
      have hadd : ∀ i c : Nat, ((⟨gb, go, none⟩ : Addr).add (i * sz)).add c = ⟨gb, go + (i * sz + c), none⟩ := fun i c => by unfold Addr.add; (repeat' split) <;> simp_all <;> omega
      have hblk : gb < W.heap.size := by
        obtain ⟨l, ⟨_, h3⟩, hz⟩ := hrow 0 (by omega)
        cases l with
        | nil => simp at h3; omega
        | cons v r =>
          have := hz 0 v rfl
          rw [hadd] at this
          exact World.block_lt_of_cell? W _ this
      have hch : ∀ i, ∃ l : List Value, i < cap → ((Q l ∧ l.length = sz) ∧ ∀ c v, l[c]? = some v → W.cell? ((⟨gb, go, none⟩ : Addr).add (i * sz) |>.add c) = some v) := fun i => by
        by_cases hi : i < cap
        · obtain ⟨l, hl⟩ := hrow i hi; exact ⟨l, fun _ => hl⟩
        · exact ⟨[], fun h => absurd h hi⟩
      obtain ⟨f, hf⟩ := Classical.axiomOfChoice hch
      refine ⟨_, _, _, gb, go, f, rfl, hlen, hl, fun _ => ⟨rfl, hblk⟩, fun i hi c v hv => ?_, fun i hi => (hf i (by omega)).1⟩
      have := (hf i (by omega)).2 c v hv
      rwa [hadd] at this
theorem open_msgs {H : Type} {enc : TypeId × Value → H} {W : World} {base : Nat} {v0 : Value} {x : DataW H} {p : List MemPlace} (hv : Value.okWide Try.prog W .any base 22 v0) (h : DataW.Trod enc Try.prog W 0 (fun _ => true) true 22 v0 x p) :
    ∃ sl len cap gb go, ∃ f : Nat → List Value, v0 = .slice sl len cap ∧ len ≤ 9223372036854775807 ∧ len ≤ cap ∧ (0 < len → sl = some ⟨gb, go, none⟩ ∧ gb < W.heap.size) ∧ Rows W gb go 3 f len ∧ ∀ i, i < len → MsgC (f i) ∧ (f i).length = 3 :=
  open_rows 22 32 3 MsgC Try.underlying22 cellsMg (by omega) (fun fuel l y hy => by
    have h := msgCells hy
    obtain ⟨k, g, s, e, h2⟩ := h
    exact ⟨⟨k, g, s, e, h2⟩, by rw [e]; rfl⟩) hv h
theorem open_movs {H : Type} {enc : TypeId × Value → H} {W : World} {base : Nat} {v0 : Value} {x : DataW H} {p : List MemPlace} (hv : Value.okWide Try.prog W .any base 48 v0) (h : DataW.Trod enc Try.prog W 0 (fun _ => true) true 48 v0 x p) :
    ∃ sl len cap gb go, ∃ f : Nat → List Value, v0 = .slice sl len cap ∧ len ≤ 9223372036854775807 ∧ len ≤ cap ∧ (0 < len → sl = some ⟨gb, go, none⟩ ∧ gb < W.heap.size) ∧ Rows W gb go 6 f len ∧ ∀ i, i < len → MovC (f i) ∧ (f i).length = 6 :=
  open_rows 48 80 6 MovC Try.underlying48 cellsMv (by omega) (fun fuel l y hy => by
    obtain ⟨a, b, c, d, e, s, h1, h2⟩ := movCells hy
    exact ⟨⟨a, b, c, d, e, s, h1, h2⟩, by rw [h1]; rfl⟩) hv h
end Go.Proofs.Ythncmahhnbpbkaa
