/- SHA-256: the digest's state, block by block. -/
import Derived.Test.YtlcjbnhfmcnnfaaDoorSHB
namespace Go.Proofs.YtlcjbnhfmcnnfaaDoor
set_option linter.unusedVariables false
set_option linter.unusedSimpArgs false
theorem tkA_block (q : List Nat × List Nat × Nat) (c : List Nat) (hc : c.length = 64) (hb : q.2.1.length = 64) (hm : q.2.2 % 64 = 0) : tkA q c = (blk q.1 c, c, q.2.2 + 64) := by
  have h1 := tkB_many q.2.2 q.2.1 c hb 0 0 (by omega) 64 (by omega) (by omega)
  have h2 := tkS_many q.2.2 q.1 q.2.1 c 0 0 (by omega) 63 (by omega)
  have e : tkB q.2.2 q.2.1 c 64 = c := by
    rw [show 64 = 0 + 64 from rfl, h1]
    show [] ++ c.take 64 ++ q.2.1.drop 64 = c
    rw [List.take_of_length_le (by omega), List.drop_eq_nil_of_le (by omega)]; simp
  rw [if_pos (by omega)] at h2
  have h2 : tkS q.2.2 q.1 q.2.1 c 64 = blk q.1 (tkB q.2.2 q.2.1 c 64) := h2
  rw [tkA_all, hc, h2, e]
/-- The state behind the first k blocks. -/
def blkS (ps : List Nat) : Nat → List Nat
  | 0 => fst8
  | k + 1 => blk (blkS ps k) ((ps.drop (64 * k)).take 64)
theorem blkS_W (ps : List Nat) : ∀ k, WW 8 (blkS ps k)
  | 0 => q00_W.s
  | k + 1 => blk_W (blkS_W ps k) _
theorem tkA_blkS (ps : List Nat) : ∀ k, 64 * k ≤ ps.length → ∃ b, b.length = 64 ∧ tkA q00 (ps.take (64 * k)) = (blkS ps k, b, 64 * k)
  | 0, _ => ⟨z64, rfl, rfl⟩
  | k + 1, h => by
    obtain ⟨b, hb, e⟩ := tkA_blkS ps k (by omega)
    have hl : ((ps.drop (64 * k)).take 64).length = 64 := by rw [List.length_take, List.length_drop]; omega
    refine ⟨(ps.drop (64 * k)).take 64, hl, ?_⟩
    rw [show 64 * (k + 1) = 64 * k + 64 by omega, List.take_add, tkA_app, e]
    exact tkA_block _ _ hl hb (by show 64 * k % 64 = 0; omega)
theorem pad_len (xs : List Nat) : (pad xs).length = xs.length + (nou xs.length + 9) := by unfold pad; rw [List.length_append, (ending_B xs.length).len]
theorem pad_64 (xs : List Nat) (h : xs.length ≤ 1000) : (pad xs).length % 64 = 0 := by
  rw [pad_len]; unfold nou; omega
/-- The digest out of the state behind all blocks. -/
theorem dig_blkS (xs : List Nat) (nb : Nat) (h : 64 * nb = (pad xs).length) : dig xs = told (blkS (pad xs) nb) := by
  obtain ⟨b, hb, e⟩ := tkA_blkS (pad xs) nb (by omega)
  rw [h, List.take_length] at e
  unfold dig
  rw [show xs ++ ending xs.length = pad xs from rfl, e]
theorem pad_take (xs : List Nat) : (pad xs).take xs.length = xs := by unfold pad; simp
theorem pad_B (xs : List Nat) (h : ∀ x ∈ xs, x < 256) : ∀ x ∈ pad xs, x < 256 := fun x hx => by
  rcases List.mem_append.1 hx with h1 | h1
  · exact h x h1
  · exact (ending_B _).mem x h1
/-- The i-th byte of a state. -/
theorem told_get (ss : List Nat) (i : Nat) (h : i < 32) : (told ss).getD i 0 = (ss.getD (i / 4) 0 >>> (8 * (3 - i % 4))) % 256 := by
  have key : ∀ n, n ≤ 32 → ∀ i, i < n → (tld ss n).getD i 0 = (ss.getD (i / 4) 0 >>> (8 * (3 - i % 4))) % 256 := fun n => by
    induction n with
    | zero => intro _ i hi; omega
    | succ n ih =>
      intro hn i hi
      show ((tld ss n).set n _).getD i 0 = _
      have hl : (tld ss n).length = 32 := (tld_B ss n).len
      by_cases e : i = n
      · subst e
        rw [List.getD_eq_getElem?_getD, List.getElem?_set_self (by omega)]; rfl
      · rw [List.getD_eq_getElem?_getD, List.getElem?_set_ne (by omega), ← List.getD_eq_getElem?_getD]
        exact ih (by omega) i (by omega)
  exact key 32 (Nat.le_refl _) i h
/-- A block filled byte by byte. -/
def fill (ps : List Nat) (o : Nat) : Nat → List Nat
  | 0 => z64
  | j + 1 => (fill ps o j).set j (ps.getD (o + j) 0)
theorem fill_len (ps : List Nat) (o : Nat) : ∀ j, (fill ps o j).length = 64
  | 0 => rfl
  | j + 1 => by unfold fill; rw [List.length_set]; exact fill_len ps o j
theorem fill_is (ps : List Nat) (o : Nat) (h : o + 64 ≤ ps.length) : ∀ j, j ≤ 64 → fill ps o j = (ps.drop o).take j ++ z64.drop j
  | 0, _ => by simp [fill]
  | j + 1, hj => by
    have hz : z64.length = 64 := rfl
    have hg : ps.getD (o + j) 0 = ps[o + j] := by rw [List.getD_eq_getElem?_getD, List.getElem?_eq_getElem (by omega)]; rfl
    have hl : ((ps.drop o).take j).length = j := by rw [List.length_take, List.length_drop]; omega
    have hd : z64.drop j = z64[j]'(by omega) :: z64.drop (j + 1) := List.drop_eq_getElem_cons (by omega)
    unfold fill
    rw [fill_is ps o h j (by omega), hd, List.set_append_right _ _ (by omega), hl, Nat.sub_self, List.set_cons_zero, hg]
    rw [List.take_succ_eq_append_getElem (by rw [List.length_drop]; omega)]
    simp
theorem fill_all (ps : List Nat) (o : Nat) (h : o + 64 ≤ ps.length) : fill ps o 64 = (ps.drop o).take 64 := by
  rw [fill_is ps o h 64 (Nat.le_refl _), show z64.drop 64 = [] from rfl]; simp
end Go.Proofs.YtlcjbnhfmcnnfaaDoor
