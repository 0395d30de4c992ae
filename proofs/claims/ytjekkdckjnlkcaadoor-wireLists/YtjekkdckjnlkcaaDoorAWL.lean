/- Eight bytes that came in as an array. -/
import Derived.Test.YtjekkdckjnlkcaaDoorAWK
import Derived.WideKeyArr2
namespace Go.Proofs.YtjekkdckjnlkcaaDoor
open Go.ChangeShapes Go.WideShapes Go.ChangeAt Go.RowKit
set_option linter.unusedVariables false
set_option maxRecDepth 100000
set_option linter.unusedSimpArgs false
theorem mapM_eachW {α β : Type} {f : α → Option β} : ∀ {L : List α} {ys : List β}, L.mapM f = some ys → ∀ i ∈ L, ∃ y, f i = some y
  | [], _, _, i, hi => by simp at hi
  | a :: L, ys, h, i, hi => by
    rw [List.mapM_cons] at h
    simp only [bind, Option.bind_eq_some_iff, pure, Option.some.injEq] at h
    obtain ⟨y, hy, zs, hz, _⟩ := h
    rcases List.mem_cons.1 hi with rfl | hi
    · exact ⟨y, hy⟩
    · exact mapM_eachW hz i hi
theorem open_arW {P : Program} {k e : TypeId} {n : Nat} {q : IntKind} {H : Type} {enc : TypeId × Value → H} {W : World} {base bs : Nat} {sp : Nat → Bool} {held : Bool} {r : Reach} {v : Value} {d : DataW H} {ps : List MemPlace} (A : WideMaps.ArrKey P k e n) (hc1 : P.cellsOf e = 1) (he : P.underlying e = some (.int q)) (hv : Value.okWide P W r base k v) (hd : DataW.Trod enc P W bs sp held k v d ps) :
    ∃ xs : List Value, v = .agg xs.toArray ∧ xs.length = n ∧ ∀ i, i < n → ∃ a : Int, xs[i]? = some (.int q a) ∧ (Lit.int q a).wf = true := by
  obtain ⟨cs, rfl, hn⟩ := WideMaps.okWide_arr A hv
  refine ⟨cs.toList, by simp, by simpa using hn, fun i hi => ?_⟩
  obtain ⟨fuel, hf⟩ := hd
  cases fuel with
  | zero => simp [DataW.trod] at hf
  | succ m =>
    rw [DataW.trod_step] at hf
    unfold DataW.trodStep at hf
    simp only [A.hu, Value.cells] at hf
    rw [if_pos (by rw [A.size]; simpa using hn)] at hf
    simp only [Option.map_eq_some_iff] at hf
    obtain ⟨ys, hy, e1⟩ := hf
    obtain ⟨y, hy2⟩ := mapM_eachW hy i (List.mem_range.2 hi)
    obtain ⟨a, ea, _, wa⟩ := DataW.trod_int he hy2
    rw [hc1, Nat.mul_one] at ea
    refine ⟨a, ?_, wa⟩
    have hl : i < cs.toList.length := by rw [Array.length_toList, hn]; exact hi
    rw [List.drop_eq_getElem_cons hl, List.take_succ_cons, List.take_zero, List.cons.injEq] at ea
    rw [List.getElem?_eq_getElem hl, ea.1]
theorem nats_ofW {q : IntKind} {xs : List Value} {n b : Nat} (hl : xs.length = n) (h : ∀ i, i < n → ∃ a : Int, xs[i]? = some (.int q a) ∧ 0 ≤ a ∧ a < b) : ∃ l : List Nat, l.length = n ∧ xs = l.map (fun (x : Nat) => Value.int q (x : Int)) ∧ ∀ x ∈ l, x < b := by
  have h2 : ∀ i, ∃ a : Nat, i < n → xs[i]? = some (.int q (a : Int)) ∧ a < b := fun i => by
    by_cases hi : i < n
    · obtain ⟨a, h1, h2, h3⟩ := h i hi
      exact ⟨a.toNat, fun _ => ⟨by rw [h1, show ((a.toNat : Nat) : Int) = a by omega], by omega⟩⟩
    · exact ⟨0, fun h => absurd h hi⟩
  obtain ⟨f, hf⟩ := Classical.skolem.1 h2
  refine ⟨(List.range n).map f, by simp, ?_, fun x hx => ?_⟩
  · refine List.ext_getElem (by simp [hl]) fun j a c => ?_
    have := (hf j (by omega)).1
    rw [List.getElem?_eq_getElem a] at this
    simpa using Option.some.inj this
  · obtain ⟨i, hi, rfl⟩ := List.mem_map.1 hx
    exact (hf i (List.mem_range.1 hi)).2
theorem ak8b : WideMaps.ArrKey Tryd.prog 50 5 8 := ⟨Tryd.underlying50, by kernel_rfl, by kernel_rfl, by kernel_rfl⟩
theorem open_b8 {H : Type} {enc : TypeId × Value → H} {W : World} {base : Nat} {v : Value} {x : DataW H} {p : List MemPlace} (hv : Value.okWide Tryd.prog W .any base 50 v) (h : DataW.Trod enc Tryd.prog W 0 (fun _ => true) true 50 v x p) : ∃ b0 b1 b2 b3 b4 b5 b6 b7 : Nat, v = .agg #[.int .u8 (b0 : Int), .int .u8 (b1 : Int), .int .u8 (b2 : Int), .int .u8 (b3 : Int), .int .u8 (b4 : Int), .int .u8 (b5 : Int), .int .u8 (b6 : Int), .int .u8 (b7 : Int)] ∧ ∀ x ∈ [b0, b1, b2, b3, b4, b5, b6, b7], x < 256 := by
  obtain ⟨xs, rfl, hl, hx⟩ := open_arW ak8b (by kernel_rfl) Tryd.underlying5 hv h
  obtain ⟨l, h1, rfl, h2⟩ := nats_ofW (b := 256) hl (fun i hi => by
    obtain ⟨a, e1, e2⟩ := hx i hi
    refine ⟨a, e1, ?_⟩
    simp [Lit.wf, IntKind.min, IntKind.max, IntKind.signed, IntKind.bits] at e2
    omega)
  match l, h1, h2 with
  | [b0, b1, b2, b3, b4, b5, b6, b7], _, h2 => exact ⟨b0, b1, b2, b3, b4, b5, b6, b7, rfl, h2⟩
end Go.Proofs.YtjekkdckjnlkcaaDoor
