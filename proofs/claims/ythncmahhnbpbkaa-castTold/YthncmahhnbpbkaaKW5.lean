/- Cast: what a node sent waits for all; a step of a node in the world. -/
import Derived.Test.YthncmahhnbpbkaaKW4
namespace Go.Proofs.Ythncmahhnbpbkaa
open Go.RowKit
set_option linter.unusedVariables false
set_option linter.unusedSimpArgs false
theorem flat_take {α : Type} (g : α → List Value) (c : Nat) (hg : ∀ a, (g a).length = c) : ∀ (l : List α) (k : Nat), (l.flatMap g).take (k * c) = (l.take k).flatMap g
  | [], k => by simp
  | a :: r, 0 => by simp
  | a :: r, k + 1 => by
    rw [List.flatMap_cons, List.take_succ_cons, List.flatMap_cons, Nat.add_mul, Nat.one_mul, List.take_append, hg, Nat.add_sub_cancel, flat_take g c hg r k, List.take_of_length_le (by rw [hg]; omega)]
theorem flat_drop {α : Type} (g : α → List Value) (c : Nat) (hg : ∀ a, (g a).length = c) : ∀ (l : List α) (k : Nat), (l.flatMap g).drop (k * c) = (l.drop k).flatMap g
  | [], k => by simp
  | a :: r, 0 => by simp
  | a :: r, k + 1 => by
    rw [List.flatMap_cons, List.drop_succ_cons, Nat.add_mul, Nat.one_mul, List.drop_append, hg, Nat.add_sub_cancel, flat_drop g c hg r k, List.drop_of_length_le (by rw [hg]; omega), List.nil_append]
theorem flat_len {α : Type} (g : α → List Value) (c : Nat) (hg : ∀ a, (g a).length = c) : ∀ (l : List α), (l.flatMap g).length = l.length * c
  | [] => by simp
  | a :: r => by rw [List.flatMap_cons, List.length_append, hg, flat_len g c hg r, List.length_cons, Nat.add_mul]; omega
theorem flat_at {α : Type} (g : α → List Value) (c : Nat) (hg : ∀ a, (g a).length = c) : ∀ (l : List α) (k : Nat) (a : α), l[k]? = some a → ∀ j, j < c → (l.flatMap g)[k * c + j]? = (g a)[j]?
  | [], k, a, h, _, _ => by simp at h
  | b :: r, 0, a, h, j, hj => by
    simp at h; subst h
    rw [List.flatMap_cons, Nat.zero_mul, Nat.zero_add, List.getElem?_append_left (by rw [hg]; exact hj)]
  | b :: r, k + 1, a, h, j, hj => by
    have h : r[k]? = some a := by simpa using h
    rw [List.flatMap_cons, List.getElem?_append_right (by rw [hg, Nat.add_mul]; omega), hg, ← flat_at g c hg r k a h j hj]
    congr 1
    rw [Nat.add_mul]; omega
/-- A node has done a step. -/
theorem WQ.node {p : Pl} {t bad n tb mb : Nat} {vt vm : Value} {u u2 : World} {W : Wd} (h : WQ p t bad n tb mb vt vm u W) {i : Nat} (i1 : 1 ≤ i) (i2 : i ≤ n) (hk : Kp (p.bs i) (p.bs i + 7) u u2) {y : Nd} (hy : NM u2 (p.bs i) y) : WQ p t bad n tb mb vt vm u2 { W with nd := upN W.nd i y } := by
  have hE : Ex (fun k => p.bs i ≤ k ∧ k < p.bs i + 7) u u2 := Ex.of_kp hk fun k k1 k2 => ⟨k1, k2⟩
  have hd := h.ok.d2 i i1 i2
  have hs := hk.size
  have on : ¬ (p.bs i ≤ p.nb ∧ p.nb < p.bs i + 7) := by omega
  have os : ¬ (p.bs i ≤ p.sb ∧ p.sb < p.bs i + 7) := by omega
  refine ⟨⟨⟨h.ok.w1.1, by have := h.ok.w1.2; omega⟩, ⟨h.ok.n1.1, by have := h.ok.n1.2; omega⟩, ⟨h.ok.s1.1, by have := h.ok.s1.2; omega⟩, fun j j1 j2 => ⟨(h.ok.b1 j j1 j2).1, by have := (h.ok.b1 j j1 j2).2; omega⟩, h.ok.d1, h.ok.d2, h.ok.d3, h.ok.c1⟩, h.cw.ex hE h.ok.w1.2 (by omega), fun j hj => ?_, fun j hj => ?_, h.ot.up (fun hv hb => hE.block _ hb fun e => ?_) hs, h.om.up (fun hv hb => hE.block _ hb fun e => ?_) hs, fun j j1 j2 => ?_, h.dt, h.dm, h.tm⟩
  · rw [World.cell?_of_block (w := u) (hE.block _ h.ok.n1.2 on)]; exact h.nr j hj
  · have e := hE.block _ h.ok.s1.2 os
    rw [World.cell?_of_block (w := u) e, World.frozen?_of_block (w := u) e]; exact h.sr j hj
  · have := (h.dt hv).2.2.2 i i1 i2; omega
  · have := (h.dm hv).2.2.2 i i1 i2; omega
  · by_cases e : j = i
    · subst e
      show NM u2 (p.bs j) (upN W.nd j y j)
      rw [upN_self]; exact hy
    · show NM u2 (p.bs j) (upN W.nd i y j)
      rw [upN_ne _ _ e]
      refine (h.nm j j1 j2).ex hE fun k k1 k2 hk' => ?_
      have := h.ok.d3 i j i1 i2 j1 j2 (fun h => e h.symm)
      omega
/-- What was sent, or nothing, waits for all. -/
theorem cAllO {p : Pl} {t bad n tb mb : Nat} {vt vm r : Value} {u0 u : World} {W : Wd} {o : Option Mg} (h0 : p.ok n u0) (hQ : WQ p t bad n tb mb vt vm u W) (ht : vt ≠ nilS → tb < u0.heap.size) (hm : vm ≠ nilS → mb < u0.heap.size) (ho : OutM u0.heap.size u r o) (hn : bad ≤ n ∧ n ≤ 16) (hL0 : W.wait.length + (n - bad) ≤ 1000)
    (hk : ∀ m, o = some m → m.1 = 1 ∨ ((m.1 = 2 ∨ m.1 = 3) ∧ 1 ≤ m.2.1 ∧ m.2.1 ≤ n)) (hsn : ∀ m, o = some m → 1 < m.1 → 0 ≤ W.sent (2 * m.2.1 + m.1 - 2).toNat ∧ W.sent (2 * m.2.1 + m.1 - 2).toNat ≤ 1000) (hlo : p.lo ≤ u.heap.size) :
    Calls Try.prog 21 #[pW p.wb, r] u fun e' u' => e' = .returned (.tuple #[]) ∧ WM p t bad n u' (W.all bad n o) ∧ Below p.lo u u' ∧ ∀ k, k < u.heap.size → p.off n k → (vt ≠ nilS → k ≠ tb) → (vm ≠ nilS → k ≠ mb) → u'.heap[k]? = u.heap[k]? := by
  cases o with
  | none =>
    have e : r = nilS := ho
    rw [e]
    refine (cAll_none p.wb u).mono ?_
    rintro e u' ⟨rfl, rfl⟩
    exact ⟨rfl, ⟨tb, mb, vt, vm, hQ⟩, Below.refl _ _, fun _ _ _ _ _ => rfl⟩
  | some m =>
    obtain ⟨b, hb, rfl, hc⟩ := ho
    have hoff : p.off n b := ⟨by have := h0.w1.2; omega, by have := h0.n1.2; omega, by have := h0.s1.2; omega, fun i i1 i2 => by have := (h0.b1 i i1 i2).2; omega⟩
    exact cAll_some p t bad n W m b tb mb vt vm u hQ hn hL0 hc hoff (fun h => by have := ht h; omega) (fun h => by have := hm h; omega) (hk m rfl) (hsn m rfl) hlo
theorem cAmong (x : Int) (n : Nat) (w : World) (h : 1 ≤ n ∧ n ≤ 100000) : Calls Try.prog 19 #[.int .i64 x, .int .i64 (n : Int)] w fun e' w' => ∃ r : Nat, r < n ∧ e' = .returned (.int .i64 (r : Int)) ∧ w' = w := by
  have h0 : 0 ≤ IntKind.u64.wrap x := by rw [IntKind.wrap_u64]; omega
  have h2 : (IntKind.u64.wrap x).tmod n = IntKind.u64.wrap x % n := Int.tmod_eq_emod_of_nonneg h0
  have h3 : 0 ≤ IntKind.u64.wrap x % (n : Int) := Int.emod_nonneg _ (by omega)
  have h4 : IntKind.u64.wrap x % (n : Int) < n := Int.emod_lt_of_pos _ (by omega)
  go_enter Try.func19, Try.ntmps19
  have h1 : ¬ (n : Int) < 1 := by omega
  go_wp2
  have h5 : wrap64 (IntKind.u64.wrap x % (n : Int)) = IntKind.u64.wrap x % (n : Int) := by unfold wrap64; omega
  refine bodyPost_ret (v := .int .i64 (IntKind.u64.wrap x % (n : Int))) (by simp [results, Try.results19, go_sem, h2, h5]) rfl ⟨(IntKind.u64.wrap x % (n : Int)).toNat, by omega, ?_, rfl⟩
  congr 2
  omega
end Go.Proofs.Ythncmahhnbpbkaa
