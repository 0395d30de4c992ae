/- SHA-256: bytes taken one by one, and many at once. -/
import Derived.Test.YtlcjbnhfmcnnfaaDoorSH5
namespace Go.Proofs.YtlcjbnhfmcnnfaaDoor
set_option linter.unusedVariables false
set_option linter.unusedSimpArgs false
/-- The block, and the state, behind the first j bytes of xs, with c bytes before them. -/
def tkB (c : Nat) (bs xs : List Nat) : Nat → List Nat
  | 0 => bs
  | j + 1 => (tkB c bs xs j).set ((c + j) % 64) (xs.getD j 0)
def tkS (c : Nat) (ss bs xs : List Nat) : Nat → List Nat
  | 0 => ss
  | j + 1 => if (c + j + 1) % 64 = 0 then blk (tkS c ss bs xs j) (tkB c bs xs (j + 1)) else tkS c ss bs xs j
theorem tkB_B {c : Nat} {bs xs : List Nat} (hb : BB 64 bs) (hx : ∀ j, xs.getD j 0 < 256) : ∀ j, BB 64 (tkB c bs xs j)
  | 0 => hb
  | j + 1 => (tkB_B hb hx j).set _ _ (hx j)
theorem tkS_W {c : Nat} {ss bs xs : List Nat} (hs : WW 8 ss) : ∀ j, WW 8 (tkS c ss bs xs j)
  | 0 => hs
  | j + 1 => by
    unfold tkS; split
    · exact blk_W (tkS_W hs j) _
    · exact tkS_W hs j
theorem set_app (l : List Nat) (k n x : Nat) (m : List Nat) (hm : m.length = n) (h : k + n < l.length) : (l.take k ++ m ++ l.drop (k + n)).set (k + n) x = l.take k ++ (m ++ [x]) ++ l.drop (k + n + 1) := by
  have hk : (l.take k).length = k := by rw [List.length_take]; omega
  have hd : l.drop (k + n) = l[k + n] :: l.drop (k + n + 1) := List.drop_eq_getElem_cons h
  rw [hd, List.set_append_right _ _ (by rw [List.length_append, hk, hm]; omega), List.length_append, hk, hm, Nat.sub_self, List.set_cons_zero]
  simp
/-- Many at once, as long as they stay in the block. -/
theorem tkB_many (c : Nat) (bs xs : List Nat) (hb : bs.length = 64) (j k : Nat) (hk : (c + j) % 64 = k) : ∀ n, k + n ≤ 64 → j + n ≤ xs.length → tkB c bs xs (j + n) = (tkB c bs xs j).take k ++ (xs.drop j).take n ++ (tkB c bs xs j).drop (k + n)
  | 0, _, _ => by simp
  | n + 1, h1, h2 => by
    have ih := tkB_many c bs xs hb j k hk n (by omega) (by omega)
    have hl : (tkB c bs xs j).length = 64 := by
      have : ∀ j, (tkB c bs xs j).length = 64 := fun j => by
        induction j with
        | zero => exact hb
        | succ j ih => unfold tkB; rw [List.length_set]; exact ih
      exact this j
    have hm : (c + (j + n)) % 64 = k + n := by omega
    have hg : xs.getD (j + n) 0 = xs[j + n] := by simp [List.getElem?_eq_getElem (show j + n < xs.length by omega)]
    show (tkB c bs xs (j + n)).set ((c + (j + n)) % 64) (xs.getD (j + n) 0) = _
    rw [hm, ih, set_app _ _ _ _ _ (by rw [List.length_take, List.length_drop]; omega) (by omega), hg]
    have : (xs.drop j).take (n + 1) = (xs.drop j).take n ++ [xs[j + n]] := by
      rw [List.take_succ_eq_append_getElem (by rw [List.length_drop]; omega)]; simp
    rw [this, Nat.add_assoc]
theorem tkS_many (c : Nat) (ss bs xs : List Nat) (j k : Nat) (hk : (c + j) % 64 = k) : ∀ n, k + (n + 1) ≤ 64 → tkS c ss bs xs (j + (n + 1)) = if (c + j + (n + 1)) % 64 = 0 then blk (tkS c ss bs xs j) (tkB c bs xs (j + (n + 1))) else tkS c ss bs xs j
  | 0, _ => rfl
  | n + 1, h => by
    have ih := tkS_many c ss bs xs j k hk n (by omega)
    rw [if_neg (by omega)] at ih
    show tkS c ss bs xs (j + (n + 1) + 1) = _
    rw [show tkS c ss bs xs (j + (n + 1) + 1) = if (c + (j + (n + 1)) + 1) % 64 = 0 then blk (tkS c ss bs xs (j + (n + 1))) (tkB c bs xs (j + (n + 1) + 1)) else tkS c ss bs xs (j + (n + 1)) from rfl, ih]
    rw [show c + (j + (n + 1)) + 1 = c + j + (n + 1 + 1) by omega, show j + (n + 1) + 1 = j + (n + 1 + 1) by omega]
end Go.Proofs.YtlcjbnhfmcnnfaaDoor
