/- Cast: a dealer that is not corrupt has started. -/
import Derived.Test.YthncmahhnbpbkaaKWD
namespace Go.Proofs.Ythncmahhnbpbkaa
open Go.RowKit
set_option linter.unusedVariables false
set_option linter.unusedSimpArgs false
set_option maxRecDepth 100000
/-- The dealer has begun; nothing waits yet. -/
def WS (n t dl : Nat) : Wd := { W0 n t dl with nd := upN (W0 n t dl).nd dl ((W0 n t dl).nd dl).beg }
theorem WS_nd (n t dl i : Nat) : ∃ b, (WS n t dl).nd i = { Nd.new n t i dl with bg := b } := by
  by_cases h : i = dl
  · subst h; exact ⟨true, upN_self _ _ _⟩
  · exact ⟨false, upN_ne _ _ h⟩
theorem WS_none (n t dl i : Nat) : ((WS n t dl).nd i).e = none ∧ ((WS n t dl).nd i).r = none ∧ ((WS n t dl).nd i).d = none ∧ ((WS n t dl).nd i).ec = [] ∧ ((WS n t dl).nd i).rd = [] ∧ ((WS n t dl).nd i).n = n ∧ ((WS n t dl).nd i).t = t ∧ ((WS n t dl).nd i).me = i ∧ ((WS n t dl).nd i).dl = dl := by
  obtain ⟨b, e⟩ := WS_nd n t dl i
  rw [e]
  exact ⟨rfl, rfl, rfl, rfl, rfl, rfl, rfl, rfl, rfl⟩
/-- All wait for the start: in order. -/
theorem startInv (t bad n dl : Nat) (v : ByteArray) (hn : n = 3 * t + 1) (ht : t ≤ 2) (hb : bad ≤ t) (hd : bad < dl ∧ dl ≤ n) (hv : v.size ≤ 4096) : InvB t bad n dl (some v) ((WS n t dl).all bad n (some (1, (dl : Int), v))) ((WS n t dl).all bad n (some (1, (dl : Int), v))).wait ∧ ((WS n t dl).all bad n (some (1, (dl : Int), v))).pot bad n ≤ 200 := by
  obtain ⟨W, hW⟩ : ∃ W, W = (WS n t dl).all bad n (some (1, (dl : Int), v)) := ⟨_, rfl⟩
  rw [← hW]
  have hnd : ∀ i, W.nd i = (WS n t dl).nd i := fun i => by rw [hW]; rfl
  have hwt : W.wait = bc bad n (1, (dl : Int), v) := by rw [hW]; rfl
  have hse : ∀ j, W.sent j = 0 := fun j => by rw [hW]; rfl
  have hN := WS_none n t dl
  refine ⟨⟨⟨by omega, hd.2⟩, fun i i1 i2 => ?_, fun q hq => ?_, fun i _ _ g x _ hq => ?_, fun i _ _ g x _ hq => ?_, fun i _ _ x hq => ?_, fun i _ _ x hq => ?_, fun i _ _ x hq => ?_, fun i _ _ x hq => ?_, fun i _ _ => ?_, fun i _ _ => ?_, fun _ i _ _ x hq => ?_, fun _ x hx i i1 i2 => .inr ?_⟩, ?_⟩
  · rw [hnd]
    obtain ⟨h1, h2, h3, h4, h5, h6, h7, h8, h9⟩ := hN i
    have hw0 := NWF.new (n := n) (t := t) (me := i) (dl := dl) (by simp only [okM, decide_eq_true_eq]; omega)
    refine ⟨h6, h7, h8, h9, ⟨by rw [h6]; exact hw0.n, by rw [h7]; exact hw0.t, by rw [h4, h6]; exact hw0.o1, by rw [h5, h6]; exact hw0.o2, fun u hu => ?_, fun u hu => ?_⟩⟩
    · rw [h4, h5, h6, h7] at hu
      have := hw0.q u hu
      simp [Nd.new] at this
    · rw [h5, h7] at hu
      have := hw0.d u hu
      simp [Nd.new] at this
  · rw [hwt] at hq
    obtain ⟨h1, h2⟩ := mem_bc.1 hq
    rw [h2]
    exact ⟨h1, hv, .inl ⟨rfl, rfl, hd.1, rfl⟩⟩
  · rw [hnd, (hN i).2.2.2.1] at hq; simp at hq
  · rw [hnd, (hN i).2.2.2.2.1] at hq; simp at hq
  · rw [hnd, (hN i).2.1] at hq; simp at hq
  · rw [hnd, (hN i).2.2.1] at hq; simp at hq
  · rw [hnd, (hN i).1] at hq; simp at hq
  · rw [hnd, (hN i).2.1] at hq; simp at hq
  · rw [hnd, (hN i).1, hse]; rfl
  · rw [hnd, (hN i).2.1, hse]; rfl
  · rw [hnd, (hN i).1] at hq; simp at hq
  · cases hx
    rw [hwt]
    exact mem_bc.2 ⟨⟨i1, i2⟩, rfl⟩
  · have h1 := sumN_le (f := fun j => un (W.nd (bad + 1 + j))) (c := 2) (fun j => un_le _) (n - bad)
    have h2 : (n - bad) * sumN (fun j => un (W.nd (bad + 1 + j))) (n - bad) ≤ 7 * 14 := Nat.mul_le_mul (by omega) (by omega)
    show W.wait.length + _ ≤ 200
    rw [hwt, bc_len]
    omega
section
variable {p : Pl} {t bad n dl pot : Nat} {u0 : World}
theorem Kp.cellN {lo hi : Nat} {a b : World} (h : Kp lo hi a b) {q : Addr} (hq : a.heap.size ≤ q.block) (v : Value) : Kp lo hi a (b.setCell q v) := by
  have hb : Below (min q.block b.heap.size) b (b.setCell q v) := (Below.refl _ _).setCell (Nat.min_le_left _ _) v
  exact ⟨hb.os.trans h.os, hb.tape.trans h.tape, hb.output.trans h.output, Nat.le_trans h.size hb.size, fun k hk hh => (Below.heap_setCell b q v k (by omega)).trans (h.block k hk hh)⟩
/-- The dealer starts. -/
theorem cStart1 (h : WI p t bad n dl none pot u0 (W0 n t dl)) (hd : 1 ≤ dl ∧ dl ≤ n) (v : ByteArray) (hv : v.size ≤ 4096) (u : World) (hB : Below u0.heap.size u0 u) :
    Calls Try.prog 12 #[pN (p.bs dl), .string v] u fun e' u' => e' = .returned (.tuple #[MX 1 (dl : Int) v, .int .i64 0]) ∧ Kp (p.bs dl) (p.bs dl + 7) u u' ∧ ∀ u2, Ex (fun k => u0.heap.size ≤ k) u' u2 → WM p t bad n u2 (WS n t dl) := by
  obtain ⟨tb, mb, vt, vm, hQ0⟩ := h.m
  have hQ := hQ0.ex (Ex.of_bel (A := fun _ => False) hB) (fun _ e => e.elim)
  refine (cStart_ok (p.bs dl) ((W0 n t dl).nd dl) v u (hQ.nm dl hd.1 hd.2) (by show (0 : Int) < (n : Int); omega) (Nat.le_trans hv (by decide)) rfl hv rfl).mono ?_
  rintro e u' ⟨rfl, hk, hN⟩
  refine ⟨rfl, hk, fun u2 hE => ⟨tb, mb, vt, vm, (hQ.node hd.1 hd.2 hk hN).ex hE fun k hk _ => ?_⟩⟩
  have hok := hQ0.ok
  exact ⟨⟨by have := hok.w1.2; omega, by have := hok.n1.2; omega, by have := hok.s1.2; omega, fun i i1 i2 => by have := (hok.b1 i i1 i2).2; omega⟩, fun hv => by have := (hQ0.ot.lt hv).2; omega, fun hv => by have := (hQ0.om.lt hv).2; omega⟩
/-- The dealer does not start again. -/
theorem cStart2 (u1 : World) (h : WM p t bad n u1 (WS n t dl)) (hd : 1 ≤ dl ∧ dl ≤ n) (v : ByteArray) (hv : v.size ≤ 4096) (u : World) (hB : Below u1.heap.size u1 u) :
    Calls Try.prog 12 #[pN (p.bs dl), .string v] u fun e' u' => e' = .returned (.tuple #[MX 0 0 noS, .int .i64 6]) ∧ Below u.heap.size u u' := by
  obtain ⟨tb, mb, vt, vm, hQ⟩ := h.below hB
  have e : (WS n t dl).nd dl = ((W0 n t dl).nd dl).beg := upN_self _ _ _
  have hN := hQ.nm dl hd.1 hd.2
  rw [e] at hN
  exact cStart_same (p.bs dl) ((W0 n t dl).nd dl).beg v u hN (by show (0 : Int) < (n : Int); omega) (Nat.le_trans hv (by decide)) rfl hv rfl
/-- The start waits for all. -/
theorem cStartAll (u1 : World) (h : WM p t bad n u1 (WS n t dl)) (hlo : p.lo ≤ u1.heap.size) (hn : n = 3 * t + 1) (ht : t ≤ 2) (hb : bad ≤ t) (hd : bad < dl ∧ dl ≤ n) (v : ByteArray) (hv : v.size ≤ 4096) (u : World) (lb : Nat) (hB : Below u1.heap.size u1 u) (hl : u1.heap.size ≤ lb) (hc : CV u lb (mC (1, (dl : Int), v))) :
    Calls Try.prog 21 #[pW p.wb, .slice (some ⟨lb, 0, none⟩) 1 1] u fun e' u' => e' = .returned (.tuple #[]) ∧ (∃ W', WI p t bad n dl (some v) 200 u' W') ∧ Below p.lo u u' := by
  have hok := h.ok
  obtain ⟨tb, mb, vt, vm, hQ⟩ := h
  have h2 := hQ.ex (Ex.of_bel (A := fun _ => False) hB) (fun _ e => e.elim)
  have hz := hB.size
  refine (cAll_some p t bad n (WS n t dl) (1, (dl : Int), v) lb tb mb vt vm u h2 (by omega) (by show 0 + (n - bad) ≤ 1000; omega) hc ⟨by have := hok.w1.2; omega, by have := hok.n1.2; omega, by have := hok.s1.2; omega, fun i i1 i2 => by have := (hok.b1 i i1 i2).2; omega⟩ (fun hv => by have := (hQ.ot.lt hv).2; omega) (fun hv => by have := (hQ.om.lt hv).2; omega) (.inl rfl) (fun h => absurd h (by show ¬ (1 : Int) < 1; omega)) (by omega)).mono ?_
  rintro e u' ⟨rfl, hW, hB', _⟩
  obtain ⟨i1, i2⟩ := startInv t bad n dl v hn ht hb hd hv
  exact ⟨rfl, ⟨_, hW, i1, i2, by have := hB'.size; omega⟩, hB'⟩
end
end Go.Proofs.Ythncmahhnbpbkaa
