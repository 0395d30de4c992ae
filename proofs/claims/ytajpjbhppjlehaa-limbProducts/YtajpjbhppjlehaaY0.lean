/- Plain facts on division bit by bit, and what holds in memory within the reference's Divide. -/
import Derived.Test.YtajpjbhppjlehaaX1
import Derived.Test.YtajpjbhppjlehaaD3
import Derived.Test.YtajpjbhppjlehaaB3
namespace Go.Proofs.Ytajpjbhppjlehaa
open Go.RowKit
set_option linter.unusedVariables false
theorem and_pow2 (x : Int) (s : Nat) (hs : s ≤ 63) (hx : W64 x) : bits .and .u64 x (2 ^ s) = x / 2 ^ s % 2 * 2 ^ s := by
  obtain ⟨h1, h2⟩ := hx
  obtain ⟨x, rfl⟩ := Int.eq_ofNat_of_zero_le h1
  have hp : (2 : Nat) ^ s < 18446744073709551616 := Nat.lt_of_le_of_lt (Nat.pow_le_pow_right (by omega) hs) (by omega)
  have e := bits_and_u64_nat x (2 ^ s) (by omega) (by omega)
  have f : x &&& 2 ^ s = x / 2 ^ s % 2 * 2 ^ s := by
    have tb : x.testBit s = decide (x / 2 ^ s % 2 = 1) := Nat.testBit_eq_decide_div_mod_eq
    have : x / 2 ^ s % 2 = 0 ∨ x / 2 ^ s % 2 = 1 := by omega
    rcases this with h | h
    · rw [h, Nat.zero_mul]
      rw [h] at tb
      refine Nat.eq_of_testBit_eq fun i => ?_
      rw [Nat.testBit_and, Nat.testBit_two_pow, Nat.zero_testBit]
      by_cases hi : s = i
      · subst hi; rw [tb]; simp
      · simp [hi]
    · rw [h, Nat.one_mul]
      rw [h] at tb
      refine Nat.eq_of_testBit_eq fun i => ?_
      rw [Nat.testBit_and, Nat.testBit_two_pow]
      by_cases hi : s = i
      · subst hi; rw [tb]; simp
      · simp [hi]
  rw [f] at e
  push_cast at e
  exact e
theorem bit_step (x R0 qk M r : Int) (j : Nat) (hj : j < 64) (h : R0 * 2 ^ j + x / 2 ^ (64 - j) = qk * M + r) :
    R0 * 2 ^ (j + 1) + x / 2 ^ (64 - (j + 1)) = 2 * qk * M + (2 * r + x / 2 ^ (63 - j) % 2) := by
  have e1 : 64 - (j + 1) = 63 - j := by omega
  have e2 : 64 - j = 63 - j + 1 := by omega
  rw [e1]
  rw [e2, Int.pow_succ, ← Int.ediv_ediv_of_nonneg (Int.le_of_lt (Int.pow_pos (by omega)))] at h
  rw [Int.pow_succ]
  generalize x / 2 ^ (63 - j) = P at *
  have e3 : P = 2 * (P / 2) + P % 2 := by omega
  generalize P / 2 = Q at *
  generalize P % 2 = b at *
  generalize (2 : Int) ^ j = T at *
  grind
theorem even_words (t b : Int) (h0 : 0 ≤ t) (hb : b = 0 ∨ b = 1) : D0 (2 * t + b) = D0 (t + t) + b ∧ D1 (2 * t + b) = D1 (t + t) ∧ D2 (2 * t + b) = D2 (t + t) ∧ D3 (2 * t + b) = D3 (t + t) ∧ D4 (2 * t + b) = D4 (t + t) ∧ D0 (t + t) + b < 18446744073709551616 ∧ 0 ≤ D0 (t + t) := by
  unfold D0 D1 D2 D3 D4
  rcases hb with rfl | rfl <;> refine ⟨?_, ?_, ?_, ?_, ?_, ?_, ?_⟩ <;> omega
/-- What lies in memory. -/
structure RD (w wr : World) (N0 N1 N2 N3 N4 N5 : Nat) (wl ml : List Int) (r0 r1 r2 r3 : Int) (ql : List Int) : Prop where
  bel : Below w.heap.size w wr
  sz : N5 < wr.heap.size
  kw : CL wr N0 wl
  km : CL wr N1 ml
  k2 : CL wr N2 [0, 0, 0, 0, 0, 0, 0, 0]
  k3 : CL wr N3 [0, 0, 0, 0]
  kq : CL wr N4 ql
  kr : CL wr N5 [r0, r1, r2, r3]
  w0 : W64 r0
  w1 : W64 r1
  w2 : W64 r2
  w3 : W64 r3
  ll : ql.length = 8
  lw : ∀ x ∈ ql, W64 x
structure RN (w : World) (N0 N1 N2 N3 N4 N5 : Nat) : Prop where
  a : w.heap.size ≤ N0
  b : N0 < N1
  c : N1 < N2
  d : N2 < N3
  e : N3 < N4
  f : N4 < N5
section
variable {w wr v : World} {N0 N1 N2 N3 N4 N5 : Nat} {wl ml : List Int} {r0 r1 r2 r3 : Int} {ql : List Int}
theorem RD.call (h : RD w wr N0 N1 N2 N3 N4 N5 wl ml r0 r1 r2 r3 ql) (n : RN w N0 N1 N2 N3 N4 N5) (hB : Below wr.heap.size wr v) : RD w v N0 N1 N2 N3 N4 N5 wl ml r0 r1 r2 r3 ql := by
  have hs := hB.size
  have hz := h.sz
  obtain ⟨n1, n2, n3, n4, n5, n6⟩ := n
  exact { h with bel := bstep h.bel hB, sz := by omega, kw := h.kw.below hB (by omega), km := h.km.below hB (by omega), k2 := h.k2.below hB (by omega), k3 := h.k3.below hB (by omega), kq := h.kq.below hB (by omega), kr := h.kr.below hB (by omega) }
theorem RD.alloc (h : RD w wr N0 N1 N2 N3 N4 N5 wl ml r0 r1 r2 r3 ql) (n : RN w N0 N1 N2 N3 N4 N5) (o : Obj) : RD w (wr.alloc o) N0 N1 N2 N3 N4 N5 wl ml r0 r1 r2 r3 ql := h.call n (balloc (bself wr) o)
theorem RD.drew (h : RD w wr N0 N1 N2 N3 N4 N5 wl ml r0 r1 r2 r3 ql) : RD w wr.drew N0 N1 N2 N3 N4 N5 wl ml r0 r1 r2 r3 ql :=
  { h with bel := h.bel.drew, sz := h.sz, kw := h.kw, km := h.km, k2 := h.k2, k3 := h.k3, kq := h.kq, kr := h.kr }
/-- A cell in a block of no interest. -/
theorem RD.far (h : RD w wr N0 N1 N2 N3 N4 N5 wl ml r0 r1 r2 r3 ql) (n : RN w N0 N1 N2 N3 N4 N5) (a : Addr) (ha : N5 < a.block) (x : Value) : RD w (wr.setCell a x) N0 N1 N2 N3 N4 N5 wl ml r0 r1 r2 r3 ql := by
  obtain ⟨n1, n2, n3, n4, n5, n6⟩ := n
  exact { h with bel := h.bel.setCell (by omega) _, sz := by simpa using h.sz, kw := h.kw.other _ (by omega) _, km := h.km.other _ (by omega) _, k2 := h.k2.other _ (by omega) _, k3 := h.k3.other _ (by omega) _, kq := h.kq.other _ (by omega) _, kr := h.kr.other _ (by omega) _ }
theorem RD.setq (h : RD w wr N0 N1 N2 N3 N4 N5 wl ml r0 r1 r2 r3 ql) (n : RN w N0 N1 N2 N3 N4 N5) (p : Nat) (hp : p < 8) (x : Int) (hx : W64 x) : RD w (wr.setCell ⟨N4, p, none⟩ (.int .u64 x)) N0 N1 N2 N3 N4 N5 wl ml r0 r1 r2 r3 (ql.set p x) := by
  obtain ⟨n1, n2, n3, n4, n5, n6⟩ := n
  exact { h with bel := h.bel.setCell (by show w.heap.size ≤ N4; omega) _, sz := by simpa using h.sz, kw := h.kw.other _ (by show N0 ≠ N4; omega) _, km := h.km.other _ (by show N1 ≠ N4; omega) _, k2 := h.k2.other _ (by show N2 ≠ N4; omega) _, k3 := h.k3.other _ (by show N3 ≠ N4; omega) _, kq := h.kq.set p (by rw [h.ll]; exact hp) x, kr := h.kr.other _ (by show N5 ≠ N4; omega) _, ll := by rw [List.length_set]; exact h.ll, lw := fun y hy => (List.mem_or_eq_of_mem_set hy).elim (h.lw y) (fun e => by rw [e]; exact hx) }
theorem RD.setr (h : RD w wr N0 N1 N2 N3 N4 N5 wl ml r0 r1 r2 r3 ql) (n : RN w N0 N1 N2 N3 N4 N5) (x0 x1 x2 x3 : Int) (h0 : W64 x0) (h1 : W64 x1) (h2 : W64 x2) (h3 : W64 x3) :
    RD w ((((wr.setCell ⟨N5, 0, none⟩ (.int .u64 x0)).setCell ⟨N5, 1, none⟩ (.int .u64 x1)).setCell ⟨N5, 2, none⟩ (.int .u64 x2)).setCell ⟨N5, 3, none⟩ (.int .u64 x3)) N0 N1 N2 N3 N4 N5 wl ml x0 x1 x2 x3 ql := by
  obtain ⟨n1, n2, n3, n4, n5, n6⟩ := n
  have o : ∀ {b : Nat} {l : List Int}, CL wr b l → b ≠ N5 → CL ((((wr.setCell ⟨N5, 0, none⟩ (.int .u64 x0)).setCell ⟨N5, 1, none⟩ (.int .u64 x1)).setCell ⟨N5, 2, none⟩ (.int .u64 x2)).setCell ⟨N5, 3, none⟩ (.int .u64 x3)) b l := fun k hb => (((k.other _ hb _).other _ hb _).other _ hb _).other _ hb _
  have hw : w.heap.size ≤ N5 := by omega
  exact { h with bel := (((h.bel.setCell hw _).setCell hw _).setCell hw _).setCell hw _, sz := by simpa using h.sz, kw := o h.kw (by omega), km := o h.km (by omega), k2 := o h.k2 (by omega), k3 := o h.k3 (by omega), kq := o h.kq (by omega), kr := (((h.kr.set 0 (by simp) x0).set 1 (by simp) x1).set 2 (by simp) x2).set 3 (by simp) x3, w0 := h0, w1 := h1, w2 := h2, w3 := h3 }
end
end Go.Proofs.Ytajpjbhppjlehaa
