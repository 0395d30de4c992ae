/- What comes in: bytes, lists of bytes, fields. -/
import Derived.Test.YtjekkdckjnlkcaaDoorAWI
import Derived.Deep.SlicePairs
namespace Go.Proofs.YtjekkdckjnlkcaaDoor
open Go.ChangeShapes Go.WideShapes Go.ChangeAt Go.RowKit
set_option linter.unusedVariables false
set_option maxRecDepth 100000
set_option linter.unusedSimpArgs false
theorem cells8W : Tryd.prog.cellsOf 5 = 1 := by kernel_rfl
theorem cellsIW : Tryd.prog.cellsOf 3 = 1 := by kernel_rfl
theorem cellsFW : Tryd.prog.cellsOf 54 = 2 := by kernel_rfl
theorem open_byW {H : Type} {enc : TypeId × Value → H} {W : World} {fuel : Nat} {v : Value} {x : DataW H × List MemPlace} (h1 : 0 < W.heap.size) (hf : DataW.trod enc Tryd.prog W 0 (fun _ => true) true fuel 24 [v] = some x) :
    ∃ sl cap gb go, ∃ xs : List Nat, v = .slice sl xs.length cap ∧ xs.length ≤ cap ∧ (sl = none → cap = 0) ∧ (xs.length = 0 ∨ sl = some ⟨gb, go, none⟩) ∧ gb < W.heap.size ∧ SB W gb go xs ∧ ∀ x ∈ xs, x < 256 := by
  rcases Go.Deep.open_slice1 Tryd.underlying24 cells8W hf with ⟨hcs, hx⟩ | ⟨ad, len, cap, m, n, V, D, Pl, hcs, hbs, hl, hm, hmm, hx, hall⟩
  · rw [List.cons.injEq] at hcs
    obtain ⟨rfl, _⟩ := hcs
    exact ⟨_, _, 0, 0, [], rfl, Nat.le_refl _, fun _ => rfl, .inl rfl, h1, fun j hj => by simp at hj, fun x hx => by simp at hx⟩
  · rw [List.cons.injEq] at hcs
    obtain ⟨rfl, _⟩ := hcs
    simp only [if_true] at hmm
    by_cases h0 : cap = 0
    · subst h0
      have e : len = 0 := by omega
      subst e
      exact ⟨_, _, 0, 0, [], rfl, Nat.le_refl _, fun _ => rfl, .inl rfl, h1, fun j hj => by simp at hj, fun x hx => by simp at hx⟩
    · have hrow : ∀ i, i < cap → ∃ k : Nat, k < 256 ∧ W.cell? (ad.add i) = some (.int .u8 (k : Int)) := fun i hi => by
        obtain ⟨k1, k2⟩ := hall i (by omega)
        obtain ⟨k, e1, e2, e3⟩ := DataW.trod_int Tryd.underlying5 k2
        simp at e1
        have e3 : 0 ≤ k ∧ k < 256 := by
          simp [Lit.wf, IntKind.min, IntKind.max, IntKind.signed, IntKind.bits] at e3
          omega
        refine ⟨k.toNat, by omega, ?_⟩
        rw [k1, e1, show ((k.toNat : Nat) : Int) = k by omega]
      obtain ⟨gb, go, spot⟩ := ad
      have hspot : spot = none := by
        obtain ⟨z, _, hz⟩ := hrow 0 (by omega)
        simpa [Addr.add] using World.cell?_spot hz
      subst hspot
      have hadd : ∀ i : Nat, ((⟨gb, go, none⟩ : Addr).add i) = ⟨gb, go + i, none⟩ := fun i => by unfold Addr.add; (repeat' split) <;> simp_all
      have hlist : ∀ n, n ≤ cap → ∃ xs : List Nat, xs.length = n ∧ (∀ x ∈ xs, x < 256) ∧ SB W gb go xs := fun n => by
        induction n with
        | zero => exact fun _ => ⟨[], rfl, fun x hx => by simp at hx, fun j hj => by simp at hj⟩
        | succ n ih =>
          intro hn
          obtain ⟨xs, e1, e2, e3⟩ := ih (by omega)
          obtain ⟨k, hk, hc⟩ := hrow n (by omega)
          rw [hadd] at hc
          refine ⟨xs ++ [k], by simp [e1], fun x hx => ?_, fun j hj => ?_⟩
          · rcases List.mem_append.1 hx with h | h
            · exact e2 x h
            · simp at h; omega
          · by_cases hj2 : j < xs.length
            · rw [e3 j hj2]
              simp [List.getElem?_append_left hj2]
            · have : j = n := by simp at hj; omega
              subst this
              rw [hc]
              simp [← e1]
      obtain ⟨xs, e1, e2, e3⟩ := hlist len (by omega)
      have hblk : gb < W.heap.size := by
        obtain ⟨z, _, hz⟩ := hrow 0 (by omega)
        rw [hadd] at hz
        exact World.block_lt_of_cell? W _ hz
      subst e1
      exact ⟨_, _, gb, go, xs, rfl, hl, fun e => (by cases e), .inr rfl, hblk, e3, e2⟩
theorem cellsSW : Tryd.prog.cellsOf 24 = 1 := by kernel_rfl
theorem adW {W : World} {a : Addr} {v : Value} (h : W.cell? (a.add 0) = some v) : ∃ gb go, a = ⟨gb, go, none⟩ ∧ gb < W.heap.size := by
  obtain ⟨gb, go, spot⟩ := a
  have hspot : spot = none := by simpa [Addr.add] using World.cell?_spot h
  subst hspot
  refine ⟨gb, go, rfl, ?_⟩
  have hadd : ((⟨gb, go, none⟩ : Addr).add 0) = ⟨gb, go, none⟩ := by unfold Addr.add; (repeat' split) <;> simp_all
  rw [hadd] at h
  exact World.block_lt_of_cell? W _ h
theorem addW (gb go i : Nat) : ((⟨gb, go, none⟩ : Addr).add i) = ⟨gb, go + i, none⟩ := by unfold Addr.add; (repeat' split) <;> simp_all
/-- Bytes that came in, whatever the world holds. -/
theorem open_br {H : Type} {enc : TypeId × Value → H} {W : World} {base : Nat} {v : Value} {x : DataW H} {p : List MemPlace} (hv : Value.okWide Tryd.prog W .any base 24 v) (h : DataW.Trod enc Tryd.prog W 0 (fun _ => true) true 24 v x p) :
    ∃ sl cap, ∃ xs : List Nat, v = .slice sl xs.length cap ∧ xs.length ≤ cap ∧ (sl = none → cap = 0) ∧ (∀ u, Below W.heap.size W u → 0 < u.heap.size → IN u u.heap.size v xs) ∧ (W.heap.size = 0 → xs = []) ∧ ∀ x ∈ xs, x < 256 := by
  obtain ⟨a0, len, cap, rfl⟩ := okWide_slice Tryd.underlying24 hv
  obtain ⟨fuel, hf⟩ := h
  have hf : DataW.trod enc Tryd.prog W 0 (fun _ => true) true fuel 24 [.slice a0 len cap] = some (x, p) := hf
  by_cases h1 : 0 < W.heap.size
  · obtain ⟨sl, cap', gb, go, xs, e, k1, k2, k3, k4, k5, k6⟩ := open_byW h1 hf
    simp at e
    obtain ⟨rfl, rfl, rfl⟩ := e
    exact ⟨_, _, xs, rfl, k1, k2, fun u hB _ => ((show IN W W.heap.size _ xs from ⟨_, _, gb, go, rfl, k1, k3, k4, k5⟩).below hB).mono hB.size, fun e => by omega, k6⟩
  · rcases Go.Deep.open_slice1 Tryd.underlying24 cells8W hf with ⟨hcs, hx⟩ | ⟨ad, len', cap', m, n, V, D, Pl, hcs, hbs, hl, hm, hmm, hx, hall⟩
    · simp at hcs
      obtain ⟨rfl, rfl, rfl⟩ := hcs
      exact ⟨none, 0, [], rfl, Nat.le_refl _, fun _ => rfl, fun u _ hu => IN_nil u hu, fun _ => rfl, by simp⟩
    · simp at hcs
      obtain ⟨rfl, rfl, rfl⟩ := hcs
      simp only [if_true] at hmm
      have h0 : cap = 0 := by
        rcases Nat.eq_zero_or_pos cap with h | h
        · exact h
        · obtain ⟨gb, go, _, hb⟩ := adW (hall 0 (by omega)).1
          omega
      subst h0
      obtain rfl : len = 0 := by omega
      exact ⟨some ad, 0, [], rfl, Nat.le_refl _, fun _ => rfl, fun u _ hu => ⟨some ad, 0, 0, 0, rfl, Nat.le_refl _, .inl rfl, hu, fun j hj => by simp at hj⟩, fun _ => rfl, by simp⟩
/-- Lists that came in. -/
theorem open_lr {H : Type} {enc : TypeId × Value → H} {W : World} {base : Nat} {v : Value} {x : DataW H} {p : List MemPlace} (hv : Value.okWide Tryd.prog W .any base 38 v) (h : DataW.Trod enc Tryd.prog W 0 (fun _ => true) true 38 v x p) :
    ∃ ps : List (List Nat), LVr W v ps ∧ ∀ q ∈ ps, ∀ x ∈ q, x < 256 := by
  obtain ⟨a0, len, cap, rfl⟩ := okWide_slice Tryd.underlying38 hv
  obtain ⟨fuel, hf⟩ := h
  have hf : DataW.trod enc Tryd.prog W 0 (fun _ => true) true fuel 38 [.slice a0 len cap] = some (x, p) := hf
  rcases Go.Deep.open_slice1 Tryd.underlying38 cellsSW hf with ⟨hcs, hx⟩ | ⟨ad, len', cap', m, n, V, D, Pl, hcs, hbs, hl, hm, hmm, hx, hall⟩
  · simp at hcs
    obtain ⟨rfl, rfl, rfl⟩ := hcs
    exact ⟨[], ⟨none, 0, rfl, fun h => by simp at h⟩, by simp⟩
  · simp at hcs
    obtain ⟨rfl, rfl, rfl⟩ := hcs
    simp only [if_true] at hmm
    rcases Nat.eq_zero_or_pos len with h0 | h0
    · subst h0
      exact ⟨[], ⟨some ad, cap, rfl, fun h => by simp at h⟩, by simp⟩
    · obtain ⟨gb, go, rfl, hb⟩ := adW (hall 0 (by omega)).1
      have hone : ∀ i, i < len → ∃ q : List Nat, (∃ sv cv, W.cell? ⟨gb, go + i, none⟩ = some (.slice sv q.length cv) ∧ IN W W.heap.size (.slice sv q.length cv) q ∧ (sv = none → cv = 0)) ∧ ∀ x ∈ q, x < 256 := fun i hi => by
        obtain ⟨k1, k2⟩ := hall i (by omega)
        rw [addW] at k1
        obtain ⟨s1, c1, g1, o1, xs, q1, q2, q3, q4, q5, q6, q7⟩ := open_byW (by omega) k2
        rw [q1] at k1
        exact ⟨xs, ⟨s1, c1, k1, ⟨s1, c1, g1, o1, rfl, q2, q4, q5, q6⟩, q3⟩, q7⟩
      let g : Nat → List Nat := fun i => if h : i < len then Classical.choose (hone i h) else []
      have hg : ∀ i (h : i < len), (∃ sv cv, W.cell? ⟨gb, go + i, none⟩ = some (.slice sv (g i).length cv) ∧ IN W W.heap.size (.slice sv (g i).length cv) (g i) ∧ (sv = none → cv = 0)) ∧ ∀ x ∈ g i, x < 256 := fun i h => by
        have e : g i = Classical.choose (hone i h) := by simp only [g, dif_pos h]
        rw [e]; exact Classical.choose_spec (hone i h)
      have hlen : ((List.range len).map g).length = len := by simp
      refine ⟨(List.range len).map g, ⟨some ⟨gb, go, none⟩, cap, by rw [hlen], fun _ => ⟨gb, go, rfl, hb, fun i hi => ?_⟩⟩, fun q hq => ?_⟩
      · rw [hlen] at hi
        rw [rgetD g [] hi]; exact (hg i hi).1
      · obtain ⟨i, hi, rfl⟩ := List.mem_map.1 hq
        exact (hg i (by simpa using hi)).2
theorem undF : ∃ f0 f1 : Field, Tryd.prog.underlying 54 = some (.struct #[f0, f1]) ∧ f0.offset = 0 ∧ f1.offset = 1 ∧ f0.type = 3 ∧ f1.type = 24 := ⟨_, _, Tryd.underlying54, rfl, rfl, rfl, rfl⟩
/-- Fields that came in. -/
theorem open_fr {H : Type} {enc : TypeId × Value → H} {W : World} {base : Nat} {v : Value} {x : DataW H} {p : List MemPlace} (hv : Value.okWide Tryd.prog W .any base 22 v) (h : DataW.Trod enc Tryd.prog W 0 (fun _ => true) true 22 v x p) :
    ∃ fs : List FldI, VFr W v fs ∧ ∀ f ∈ fs, (∀ x ∈ f.2, x < 256) ∧ -9223372036854775808 ≤ f.1 ∧ f.1 ≤ 9223372036854775807 := by
  obtain ⟨a0, len, cap, rfl⟩ := okWide_slice Tryd.underlying22 hv
  obtain ⟨fuel, hf⟩ := h
  have hf : DataW.trod enc Tryd.prog W 0 (fun _ => true) true fuel 22 [.slice a0 len cap] = some (x, p) := hf
  obtain ⟨f0, f1, hu, o0, o1, t0, t1⟩ := undF
  rcases Go.Deep.open_slice_pairs Tryd.underlying22 hu cellsFW o0 o1 (by rw [t0]; exact cellsIW) (by rw [t1]; exact cellsSW) hf with ⟨hcs, hx⟩ | ⟨ad, len', cap', m, n, V0, V1, D0, D1, P0, P1, hcs, hbs, hl, hm, hmm, hx, hall⟩
  · simp at hcs
    obtain ⟨rfl, rfl, rfl⟩ := hcs
    exact ⟨[], ⟨none, 0, rfl, fun h => by simp at h⟩, by simp⟩
  · simp at hcs
    obtain ⟨rfl, rfl, rfl⟩ := hcs
    simp only [if_true] at hmm
    rcases Nat.eq_zero_or_pos len with h0 | h0
    · subst h0
      exact ⟨[], ⟨some ad, cap, rfl, fun h => by simp at h⟩, by simp⟩
    · obtain ⟨gb, go, rfl, hb⟩ := adW (by have := (hall 0 (by omega)).1; rw [Nat.zero_mul] at this; exact this)
      have hone : ∀ i, i < len → ∃ q : FldI, (W.cell? ⟨gb, go + 2 * i, none⟩ = some (.int .i64 q.1) ∧ ∃ sv cv, W.cell? ⟨gb, go + 2 * i + 1, none⟩ = some (.slice sv q.2.length cv) ∧ IN W W.heap.size (.slice sv q.2.length cv) q.2 ∧ (sv = none → cv = 0)) ∧ (∀ x ∈ q.2, x < 256) ∧ -9223372036854775808 ≤ q.1 ∧ q.1 ≤ 9223372036854775807 := fun i hi => by
        obtain ⟨k1, k2, k3, k4⟩ := hall i (by omega)
        rw [addW, Nat.mul_comm] at k1 k2
        rw [t0] at k3
        rw [t1] at k4
        obtain ⟨k, e1, e2, e3⟩ := DataW.trod_int (k := .i64) (by kernel_rfl) k3
        simp at e1
        rw [e1] at k1
        have e3 : -9223372036854775808 ≤ k ∧ k ≤ 9223372036854775807 := by
          simp [Lit.wf, IntKind.min, IntKind.max, IntKind.signed, IntKind.bits] at e3
          omega
        obtain ⟨s1, c1, g1, o1, xs, q1, q2, q3, q4, q5, q6, q7⟩ := open_byW (by omega) k4
        rw [q1, ← Nat.add_assoc] at k2
        exact ⟨(k, xs), ⟨k1, s1, c1, k2, ⟨s1, c1, g1, o1, rfl, q2, q4, q5, q6⟩, q3⟩, q7, e3⟩
      let g : Nat → FldI := fun i => if h : i < len then Classical.choose (hone i h) else (0, [])
      have hg : ∀ i (h : i < len), (W.cell? ⟨gb, go + 2 * i, none⟩ = some (.int .i64 (g i).1) ∧ ∃ sv cv, W.cell? ⟨gb, go + 2 * i + 1, none⟩ = some (.slice sv (g i).2.length cv) ∧ IN W W.heap.size (.slice sv (g i).2.length cv) (g i).2 ∧ (sv = none → cv = 0)) ∧ (∀ x ∈ (g i).2, x < 256) ∧ -9223372036854775808 ≤ (g i).1 ∧ (g i).1 ≤ 9223372036854775807 := fun i h => by
        have e : g i = Classical.choose (hone i h) := by simp only [g, dif_pos h]
        rw [e]; exact Classical.choose_spec (hone i h)
      have hlen : ((List.range len).map g).length = len := by simp
      refine ⟨(List.range len).map g, ⟨some ⟨gb, go, none⟩, cap, by rw [hlen], fun _ => ⟨gb, go, rfl, hb, fun i hi => ?_⟩⟩, fun q hq => ?_⟩
      · rw [hlen] at hi
        unfold tgF psF
        rw [rgetD g (0, []) hi]; exact (hg i hi).1
      · obtain ⟨i, hi, rfl⟩ := List.mem_map.1 hq
        exact (hg i (by simpa using hi)).2
end Go.Proofs.YtjekkdckjnlkcaaDoor
