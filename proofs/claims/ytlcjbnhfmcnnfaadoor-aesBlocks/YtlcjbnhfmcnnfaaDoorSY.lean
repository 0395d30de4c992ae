/- SHA-256: what the two variables and the bytes that come in read as. -/
import Derived.Test.YtlcjbnhfmcnnfaaDoorSMX
import Derived.Test.YtlcjbnhfmcnnfaaDoorTie
import Derived.Test.YtlcjbnhfmcnnfaaDoorCards
import Derived.ProofKit
import Derived.LaidMore
import Derived.OpenShut
import Derived.Stop.Joined
import Derived.SevenTiedAt
import Derived.Deep.Slices
namespace Go.Proofs.YtlcjbnhfmcnnfaaDoor
open Go.ChangeShapes Go.WideShapes Go.ChangeAt Go.RowKit
set_option linter.unusedVariables false
set_option linter.unusedSimpArgs false
theorem own4 : ownKnob Tryd.prog.godebug = none := by kernel_rfl
theorem laid4 : laidOutB Tryd.prog = true := by kernel_rfl
theorem cells8 : Tryd.prog.cellsOf 5 = 1 := by kernel_rfl
/-- Bytes that came in. -/
theorem open_by {H : Type} {enc : TypeId × Value → H} {W : World} {base : Nat} {v : Value} {x : DataW H} {p : List MemPlace} (h1 : 0 < W.heap.size) (hv : Value.okWide Tryd.prog W .any base 24 v) (h : DataW.Trod enc Tryd.prog W 0 (fun _ => true) true 24 v x p) :
    ∃ sl cap gb go, ∃ xs : List Nat, v = .slice sl xs.length cap ∧ xs.length ≤ cap ∧ (sl = none → cap = 0) ∧ (xs.length = 0 ∨ sl = some ⟨gb, go, none⟩) ∧ gb < W.heap.size ∧ SB W gb go xs ∧ ∀ x ∈ xs, x < 256 := by
  obtain ⟨a0, len, cap, rfl⟩ := okWide_slice Tryd.underlying24 hv
  obtain ⟨fuel, hf⟩ := h
  rcases Go.Deep.open_slice1 Tryd.underlying24 cells8 hf with ⟨hcs, hx⟩ | ⟨ad, len', cap', m, n, V, D, Pl, hcs, hbs, hl, hm, hmm, hx, hall⟩
  · simp [Value.cells] at hcs
    obtain ⟨rfl, rfl, rfl⟩ := hcs
    exact ⟨_, _, 0, 0, [], rfl, Nat.le_refl _, fun _ => rfl, .inl rfl, h1, fun j hj => by simp at hj, fun x hx => by simp at hx⟩
  · simp [Value.cells] at hcs
    obtain ⟨rfl, rfl, rfl⟩ := hcs
    simp only [if_true] at hmm
    by_cases h0 : cap = 0
    · subst h0
      have e : len = 0 := by omega
      subst e
      exact ⟨_, _, 0, 0, [], rfl, Nat.le_refl _, fun _ => rfl, .inl rfl, h1, fun j hj => by simp at hj, fun x hx => by simp at hx⟩
    · have hrow : ∀ i, i < cap → ∃ k : Nat, k < 256 ∧ W.cell? (ad.add i) = some (.int .u8 (k : Int)) := fun i hi => by
        obtain ⟨k1, k2⟩ := hall i (by omega)
        obtain ⟨k, e1, e2, e3⟩ := DataW.trod_int Tryd.underlying5 k2
        simp at e1
        have e3 : 0 ≤ k ∧ k < 256 := by
          simp [Lit.wf, IntKind.min, IntKind.max, IntKind.signed, IntKind.bits] at e3
          omega
        refine ⟨k.toNat, by omega, ?_⟩
        rw [k1, e1, show ((k.toNat : Nat) : Int) = k by omega]
      obtain ⟨gb, go, spot⟩ := ad
      have hspot : spot = none := by
        obtain ⟨z, _, hz⟩ := hrow 0 (by omega)
        simpa [Addr.add] using World.cell?_spot hz
      subst hspot
      have hadd : ∀ i : Nat, ((⟨gb, go, none⟩ : Addr).add i) = ⟨gb, go + i, none⟩ := fun i => by unfold Addr.add; (repeat' split) <;> simp_all
      have hlist : ∀ n, n ≤ cap → ∃ xs : List Nat, xs.length = n ∧ (∀ x ∈ xs, x < 256) ∧ SB W gb go xs := fun n => by
        induction n with
        | zero => exact fun _ => ⟨[], rfl, fun x hx => by simp at hx, fun j hj => by simp at hj⟩
        | succ n ih =>
          intro hn
          obtain ⟨xs, e1, e2, e3⟩ := ih (by omega)
          obtain ⟨k, hk, hc⟩ := hrow n (by omega)
          rw [hadd] at hc
          refine ⟨xs ++ [k], by simp [e1], fun x hx => ?_, fun j hj => ?_⟩
          · rcases List.mem_append.1 hx with h | h
            · exact e2 x h
            · simp at h; omega
          · by_cases hj2 : j < xs.length
            · rw [e3 j hj2]
              simp [List.getElem?_append_left hj2]
            · have : j = n := by simp at hj; omega
              subst this
              rw [hc]
              simp [← e1]
      obtain ⟨xs, e1, e2, e3⟩ := hlist len (by omega)
      have hblk : gb < W.heap.size := by
        obtain ⟨z, _, hz⟩ := hrow 0 (by omega)
        rw [hadd] at hz
        exact World.block_lt_of_cell? W _ hz
      subst e1
      exact ⟨_, _, gb, go, xs, rfl, hl, fun e => (by cases e), .inr rfl, hblk, e3, e2⟩
end Go.Proofs.YtlcjbnhfmcnnfaaDoor
