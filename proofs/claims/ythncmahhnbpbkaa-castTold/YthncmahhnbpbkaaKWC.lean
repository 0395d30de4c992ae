/- Cast: of each one echo and one ready at most, walked. -/
import Derived.Test.YthncmahhnbpbkaaKWB
namespace Go.Proofs.Ythncmahhnbpbkaa
open Go.RowKit
set_option linter.unusedVariables false
set_option linter.unusedSimpArgs false
set_option maxRecDepth 100000
theorem Rows.bel {W u : World} {gb go sz n m : Nat} {f : Nat → List Value} (h : Rows W gb go sz f n) (hB : Below m W u) (hg : 0 < n → gb < m) : Rows u gb go sz f n := fun i hi c v hv => by
  rw [World.cell?_of_block (w := W) (hB.block _ (hg (by omega)))]; exact h i hi c v hv
/-- A world that was just made, and moves. -/
theorem playMade {p : Pl} {t n dl : Nat} {w w1 u : World} (hp : p.lo = w1.heap.size) (h1 : Below w.heap.size w w1) (h2 : Below w1.heap.size w1 u) {vl : Option ByteArray} {W : Wd} {pot : Nat} (hW : WI p t t n dl vl pot u W) (g : WN t t n pot) (hbn : t < n) (sl : Option Addr) (len cap gb go : Nat) (f : Nat → List Value) (hl : len ≤ 9223372036854775807) (hsl : 0 < len → sl = some ⟨gb, go, none⟩ ∧ gb < w.heap.size) (hR : Rows w gb go 6 f len) (hf : ∀ i, i < len → MovC (f i)) :
    Calls Try.prog 22 #[pW p.wb, .slice sl len cap] u fun e' u' => e' = .returned (.bool true) ∧ (∃ W', WI p t t n dl vl pot u' W') ∧ Below w.heap.size w u' := by
  have hs := h1.size
  refine (cPlay hW g hbn g.n.2 sl len cap gb go f hl (fun h => ⟨(hsl h).1, by have := (hsl h).2; omega⟩) ((hR.bel h1 fun h => (hsl h).2).bel h2 fun h => by have := (hsl h).2; omega) hf).mono ?_
  rintro e u' ⟨rfl, hW', hB'⟩
  exact ⟨rfl, hW', (h1.trans (h2.mono hs)).trans (hB'.mono (by rw [hp]; exact hs))⟩
theorem WI.sents {p : Pl} {t bad n dl pot : Nat} {vl : Option ByteArray} {W : Wd} {u : World} (h : WI p t bad n dl vl pot u W) : u.cell? ⟨p.wb, 6, none⟩ = some (.slice (some ⟨p.sb, 0, none⟩) (2 * n + 2) (2 * n + 2)) ∧ ∀ j, bad < j → j ≤ n → ∃ a b : Int, u.cell? ⟨p.sb, 2 * j, none⟩ = some (.int .i64 a) ∧ u.cell? ⟨p.sb, 2 * j + 1, none⟩ = some (.int .i64 b) ∧ ¬ 1 < a ∧ ¬ 1 < b := by
  obtain ⟨tb, mb, vt, vm, hQ⟩ := h.m
  refine ⟨(hQ.cw 6 _ rfl).1, fun j j1 j2 => ⟨_, _, (hQ.sr (2 * j) (by omega)).1, (hQ.sr (2 * j + 1) (by omega)).1, ?_, ?_⟩⟩
  · rw [h.i.s2 j j1 j2]; split <;> omega
  · rw [h.i.s3 j j1 j2]; split <;> omega
set_option maxHeartbeats 2000000 in
theorem cOnce (x : Int) (w : World) (sl : Option Addr) (len cap gb go : Nat) (f : Nat → List Value) (hl : len ≤ 9223372036854775807) (hsl : 0 < len → sl = some ⟨gb, go, none⟩ ∧ gb < w.heap.size) (hR : Rows w gb go 6 f len) (hf : ∀ i, i < len → MovC (f i)) :
    Calls Try.prog 7 #[.int .i64 x, .slice sl len cap] w fun e' u' => e' = .returned (.bool true) ∧ Below w.heap.size w u' := by
  have hA := fun u => cAm x 2 2 u rfl (by omega)
  have am := amN_lt x (n := 2) (by omega)
  obtain ⟨t, ht⟩ : ∃ t : Nat, Hid (1 + amN x 2 = t) := ⟨_, rfl⟩
  have hto := ht.out
  obtain ⟨n, hn⟩ : ∃ n : Nat, Hid (3 * t + 1 = n) := ⟨_, rfl⟩
  have hno := hn.out
  have g : WN t t n 100 := ⟨by omega, by omega, by omega⟩
  have hmd : ∀ u : World, Calls Try.prog 20 #[.int .i64 (1 + ((amN x 2 : Nat) : Int)), .int .i64 (1 + ((amN x 2 : Nat) : Int)), .int .i64 1] u _ := fun u => by
    rw [show 1 + ((amN x 2 : Nat) : Int) = (t : Int) by omega]
    exact cMade t t 1 n u (by omega) (by omega) (by omega) (by omega)
  have ew := wr64 (n := 1 + ((amN x 2 : Nat) : Int)) (by omega)
  have et : Hid (1 ≤ t ∧ t ≤ 2 ∧ n ≤ 7 ∧ t < n) := ⟨by omega, by omega, by omega, by omega⟩
  clear hto hno am
  go_enter Try.func7, Try.ntmps7
  go_upto_region 5 with (first | (go_at_call 11; refine (cWorks _).mono ?_; rintro e w1 ⟨rfl, hB1⟩) | (go_at_call 19; refine (hA _).mono ?_; rintro e w2 ⟨rfl, hw2⟩; rw [hw2]; clear hw2) | (go_at_call 20; refine (hmd _).mono ?_; rintro e w3 ⟨p, rfl, hp, hB3, hW3⟩))
  have hP := playMade hp hB1 hB3 hW3 g et.out.2.2.2 sl len cap gb go f hl hsl hR hf
  have hs1 := hB1.size
  go_upto_region 9 with (first | (go_at_call 22; refine hP.mono ?_; rintro e w4 ⟨rfl, ⟨W4, hW4⟩, hB4⟩; have hF := cFinish hW4 g) | (go_at_call 23; refine hF.mono ?_; rintro e w5 ⟨rfl, W5, hW5, hB5, hwt⟩))
  have hBl : Below w.heap.size w w5 := hB4.trans (hB5.mono (by rw [hp]; exact hs1))
  obtain ⟨c0, c2, _, _⟩ := hW5.m.cells
  obtain ⟨c6, hsn⟩ := hW5.sents
  have e1 := wr64 (n := (t : Int) + 1) (by have := et.out; omega)
  clear hA hmd hP hF
  go_wp2_with fail
  go_loopw [6] (fun s6 wr => ∃ k : Nat, s6 = .int .i64 ((t : Int) + 1 + (k : Int)) ∧ t + k ≤ n ∧ wr = w5) (fun s6 _ => n + 1 - (intOf s6).toNat)
  case atStart => exact ⟨0, by simp, by have := et.out; omega, rfl⟩
  case round =>
    obtain ⟨k, rfl, hk, hwr⟩ := hrel
    rw [hwr]
    clear hwr
    obtain ⟨j, hj⟩ : ∃ j : Nat, Hid (t + 1 + k = j) := ⟨_, rfl⟩
    have hjo := hj.out
    have ej : (t : Int) + 1 + (k : Int) = (j : Int) := by omega
    rw [ej]
    have hto := et.out
    by_cases hkn : t + k < n
    · have hc : (j : Int) ≤ (n : Int) := by omega
      obtain ⟨a, b, q1, q2, ha, hb⟩ := hsn j (by omega) (by omega)
      have m1 := wr64 (n := 2 * (j : Int)) (by omega)
      have m2 := wr64 (n := 2 * (j : Int) + 1) (by omega)
      have m3 := wr64 (n := (j : Int) + 1) (by omega)
      have b1 : 2 * (j : Int) < ((2 * n + 2 : Nat) : Int) := by omega
      have b2 : 2 * (j : Int) + 1 < ((2 * n + 2 : Nat) : Int) := by omega
      have b3 : (0 : Int) ≤ 2 * (j : Int) := by omega
      have b4 : (0 : Int) ≤ 2 * (j : Int) + 1 := by omega
      have i1 : (2 * (j : Int)).toNat = 2 * j := by omega
      have i2 : (2 * (j : Int) + 1).toNat = 2 * j + 1 := by omega
      clear hsn ej hjo hto
      go_wp2
      exact ⟨⟨k + 1, by have := hj.out; congr 1; omega, by omega, by trivial⟩, by have := hj.out; simp [intOf]; omega⟩
    · have hc : ¬ (j : Int) ≤ (n : Int) := by omega
      go_wp2
      refine bodyPost_ret (v := .bool true) (by simp [results, Try.results7, go_sem]) rfl ⟨rfl, hBl⟩
end Go.Proofs.Ythncmahhnbpbkaa
