/- Plain numbers: digits of 32 bits, the lowest first; one row of a product. -/
import Derived.Test.YtajpjbhppjlehaaL0
import Derived.Test.YtajpjbhppjlehaaW6
import Derived.Deep.MidRow
namespace Go.Proofs.Ytajpjbhppjlehaa
open Go.RowKit
set_option linter.unusedVariables false
def HB : List Int → Int
  | [] => 0
  | x :: r => x + 4294967296 * HB r
theorem HB_set (v o : Int) : ∀ (l : List Int) (j : Nat), l[j]? = some o → HB (l.set j v) = HB l + (v - o) * 4294967296 ^ j
  | [], _, h => by simp at h
  | x :: r, 0, h => by
    simp at h; subst h
    simp only [List.set_cons_zero, HB]; omega
  | x :: r, j + 1, h => by
    have ih := HB_set v o r j (by simpa using h)
    simp only [List.set_cons_succ, HB, ih]
    rw [Int.pow_succ]
    grind
theorem HB_take (y : Int) : ∀ (l : List Int) (k : Nat), l[k]? = some y → HB (l.take (k + 1)) = HB (l.take k) + y * 4294967296 ^ k
  | [], _, h => by simp at h
  | x :: r, 0, h => by
    simp at h; subst h
    simp [HB]
  | x :: r, k + 1, h => by
    have ih := HB_take y r k (by simpa using h)
    rw [List.take_succ_cons, List.take_succ_cons]
    simp only [HB, ih]
    rw [Int.pow_succ]
    grind
theorem mul_round (H' c P H0 xi Yk Bi Bk yk o n : Int) (hP : P = Bi * Bk) (h : H' + c * P = H0 + xi * Yk * Bi) (hn : n = o + xi * yk + c) :
    (H' + (n % 4294967296 - o) * P) + n / 4294967296 * (P * 4294967296) = H0 + xi * (Yk + yk * Bk) * Bi := by
  have e : n % 4294967296 + n / 4294967296 * 4294967296 = n := by omega
  generalize n % 4294967296 = m at *
  generalize n / 4294967296 = d at *
  grind
theorem dig_bd (o xi yk c : Int) (ho : H32 o) (hx : H32 xi) (hy : H32 yk) (hc : H32 c) : 0 ≤ xi * yk ∧ xi * yk ≤ 18446744065119617025 ∧ 0 ≤ o + xi * yk + c ∧ o + xi * yk + c < 18446744073709551616 := by
  obtain ⟨o1, o2⟩ := ho; obtain ⟨x1, x2⟩ := hx; obtain ⟨y1, y2⟩ := hy; obtain ⟨c1, c2⟩ := hc
  have h0 : 0 ≤ xi * yk := Int.mul_nonneg x1 y1
  have h1 : xi * yk ≤ 4294967295 * 4294967295 := Int.mul_le_mul (by omega) (by omega) y1 (by omega)
  refine ⟨h0, by omega, by omega, by omega⟩
/-- The eight digits of a number. -/
def dg (p q r s : Int) : List Int := [p % 4294967296, p / 4294967296, q % 4294967296, q / 4294967296, r % 4294967296, r / 4294967296, s % 4294967296, s / 4294967296]
theorem HB_dg (p q r s : Int) : HB (dg p q r s) = V p q r s := by
  simp only [dg, HB, V]; omega
theorem dg_H32 (p q r s : Int) (hp : W64 p) (hq : W64 q) (hr : W64 r) (hs : W64 s) : ∀ x ∈ dg p q r s, H32 x := by
  obtain ⟨p1, p2⟩ := hp; obtain ⟨q1, q2⟩ := hq; obtain ⟨r1, r2⟩ := hr; obtain ⟨s1, s2⟩ := hs
  intro x hx
  simp only [dg, List.mem_cons, List.not_mem_nil, or_false] at hx
  unfold H32
  rcases hx with rfl | rfl | rfl | rfl | rfl | rfl | rfl | rfl <;> omega
/-- Words that may be read in a block. -/
def RL (u : World) (b : Nat) (l : List Int) : Prop := ∀ j x, l[j]? = some x → u.cell? ⟨b, j, none⟩ = some (.int .u64 x)
theorem RL.below {w w' : World} {m n : Nat} {l : List Int} (h : RL w n l) (hb : Below m w w') (hn : n < m) : RL w' n l := fun j x hj => by
  rw [hb.cell (p := ⟨n, j, none⟩) hn]; exact h j x hj
theorem RL.other {w : World} {n : Nat} {l : List Int} (h : RL w n l) (a : Addr) (ha : n ≠ a.block) (v : Value) : RL (w.setCell a v) n l := fun j x hj => by
  have hb : (w.setCell a v).heap[n]? = w.heap[n]? := Below.heap_setCell w a v n ha
  have c : (w.setCell a v).cell? ⟨n, j, none⟩ = w.cell? ⟨n, j, none⟩ := World.cell?_of_block (w := w) hb
  rw [c]; exact h j x hj
theorem digits_RL (g : Nat) (p q r s : Int) (w : World) (hC : C4 w g p q r s) (hp : W64 p) (hq : W64 q) (hr : W64 r) (hs : W64 s) :
    Calls Try.prog 40 #[.slice (some ⟨g, 0, none⟩) 4 4] w fun e w' => ∃ b cap, e = .returned (.slice (some ⟨b, 0, none⟩) 8 cap) ∧ w.heap.size ≤ b ∧ b < w'.heap.size ∧ RL w' b (dg p q r s) ∧ Below w.heap.size w w' := by
  refine (digits_any g p q r s w hC hp hq hr hs).mono ?_
  rintro en w' ⟨b, cap, rfl, hown, hB⟩
  have hc : RL w' b (dg p q r s) := fun j x hj => by
    have e : (dgl 4 p q r s)[j]? = some (.int .u64 x) := by
      match j, hj with
      | 0, hj => cases hj; rfl
      | 1, hj => cases hj; rfl
      | 2, hj => cases hj; rfl
      | 3, hj => cases hj; rfl
      | 4, hj => cases hj; rfl
      | 5, hj => cases hj; rfl
      | 6, hj => cases hj; rfl
      | 7, hj => cases hj; rfl
    have k := hown.cells (g := b) rfl j _ e
    rw [Addr.add_mid, Nat.zero_add] at k
    exact k
  refine ⟨b, cap, rfl, ?_, World.block_lt_of_cell? w' _ (hc 0 _ rfl), hc, hB⟩
  rcases hown.2 with ⟨h, _⟩ | ⟨g', cap', cur, hv, hb, _⟩
  · cases h
  · injection hv with h1 _ _
    injection h1 with h1
    injection h1 with h1
    omega
end Go.Proofs.Ytajpjbhppjlehaa
