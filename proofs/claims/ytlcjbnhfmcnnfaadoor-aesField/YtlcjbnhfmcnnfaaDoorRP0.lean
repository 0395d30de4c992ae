/- What the reference pads and tells: the numbers. -/
import Derived.Test.YtlcjbnhfmcnnfaaDoorSQ
import Derived.Test.YtlcjbnhfmcnnfaaDoorRB1
import Derived.Test.YtlcjbnhfmcnnfaaDoorMC5
namespace Go.Proofs.YtlcjbnhfmcnnfaaDoor
open Go.RowKit
set_option linter.unusedVariables false
set_option linter.unusedSimpArgs false
/-- The length's eight bytes, the last so many of them. -/
def tlF (n : Nat) : Nat → List Nat
  | 0 => List.replicate 8 0
  | j + 1 => (tlF n j).set (7 - j) ((n * 8) >>> (8 * j) % 256)
theorem tlF_B (n : Nat) : ∀ j, BB 8 (tlF n j)
  | 0 => BB_rep 8
  | j + 1 => (tlF_B n j).set _ _ (Nat.mod_lt _ (by decide))
theorem en_is (n : Nat) : ∀ j, j ≤ 8 → enL n j = 128 :: (List.replicate (nou n) 0 ++ tlF n j)
  | 0, _ => by
    show (List.replicate (nou n + 9) 0).set 0 128 = 128 :: (List.replicate (nou n) 0 ++ List.replicate 8 0)
    rw [List.replicate_append_replicate, show nou n + 9 = (nou n + 8) + 1 by omega, List.replicate_succ, List.set_cons_zero]
  | j + 1, h => by
    show (enL n j).set (nou n + 9 - 1 - j) _ = _
    rw [en_is n j (by omega), show nou n + 9 - 1 - j = (nou n + (7 - j)) + 1 by omega, List.set_cons_succ, List.set_append_right _ _ (by rw [List.length_replicate]; omega), List.length_replicate, show nou n + (7 - j) - nou n = 7 - j by omega]
    rfl
theorem pad_is (xs : List Nat) : pad xs = (xs ++ [128]) ++ List.replicate (nou xs.length) 0 ++ tlF xs.length 8 := by
  unfold pad ending
  rw [en_is _ 8 (Nat.le_refl _)]
  simp
theorem nou_56 (n k : Nat) (hn : n ≤ 100000) (hk : k ≤ nou n) : (n + 1 + k) % 64 = 56 ↔ k = nou n := by
  unfold nou at *; omega
/-- A state's bytes, told by division, from the back of each word. -/
def tD (ss : List Nat) : Nat → List Nat
  | 0 => z32
  | m + 1 => (tD ss m).set (4 * (m / 4) + 3 - m % 4) ((ss.getD (m / 4) 0 >>> (8 * (m % 4))) % 256)
theorem tD_B (ss : List Nat) : ∀ m, BB 32 (tD ss m)
  | 0 => BB_z32
  | m + 1 => (tD_B ss m).set _ _ (Nat.mod_lt _ (by decide))
theorem tD_get (ss : List Nat) (p : Nat) (hp : p < 32) : ∀ m, m ≤ 32 → (tD ss m).getD p 0 = if 4 * (p / 4) + 3 - p % 4 < m then (ss.getD (p / 4) 0 >>> (8 * (3 - p % 4))) % 256 else 0
  | 0, _ => by
    show z32.getD p 0 = _
    rw [if_neg (by omega)]
    unfold z32; rw [List.getD_eq_getElem?_getD, List.getElem?_replicate]; split <;> rfl
  | m + 1, h => by
    rw [tD, getD_set, (tD_B ss m).len]
    by_cases e : 4 * (m / 4) + 3 - m % 4 = p
    · have e1 : m / 4 = p / 4 := by omega
      have e2 : m % 4 = 3 - p % 4 := by omega
      rw [if_pos ⟨e, hp⟩, if_pos (by omega), e1, e2]
    · rw [if_neg (fun h' => e h'.1), tD_get ss p hp m (by omega)]
      by_cases e3 : 4 * (p / 4) + 3 - p % 4 < m
      · rw [if_pos e3, if_pos (by omega)]
      · rw [if_neg e3, if_neg (by omega)]
theorem tD_told (ss : List Nat) : tD ss 32 = told ss := by
  refine List.ext_getElem (by rw [(tD_B ss 32).len, (told_B ss).len]) fun p a b => ?_
  have hp : p < 32 := by rw [(tD_B ss 32).len] at a; exact a
  have e1 := tD_get ss p hp 32 (Nat.le_refl _)
  rw [if_pos (by omega)] at e1
  have e2 := told_get ss p hp
  rw [List.getD_eq_getElem?_getD, List.getElem?_eq_getElem a] at e1
  rw [List.getD_eq_getElem?_getD, List.getElem?_eq_getElem b] at e2
  simp only [Option.getD_some] at e1 e2
  rw [e1, e2]
theorem shr_next (x j : Nat) : (x >>> (8 * j)) / 256 = x >>> (8 * (j + 1)) := by
  rw [show 8 * (j + 1) = 8 * j + 8 by omega, Nat.shiftRight_add, Nat.shiftRight_eq_div_pow (x >>> (8 * j)) 8]
theorem shr_half (x j : Nat) : (x >>> j) / 2 = x >>> (j + 1) := by
  rw [Nat.shiftRight_add]; rfl
theorem pre8_bit {ds : List Nat} (h : ∀ j, ds.getD j 0 < 256) : ∀ m, m ≤ 8 → ∀ t, t < 8 * m → (pre8 ds m).testBit t = (ds.getD (m - 1 - t / 8) 0).testBit (t % 8)
  | 0, _, t, ht => by omega
  | m + 1, hm, t, ht => by
    show ((pre8 ds m <<< 8) % 18446744073709551616 ||| ds.getD m 0).testBit t = _
    rw [Nat.testBit_or, show (18446744073709551616 : Nat) = 2 ^ 64 from rfl, Nat.testBit_mod_two_pow, Nat.testBit_shiftLeft]
    by_cases h8 : t < 8
    · have e1 : m + 1 - 1 - t / 8 = m := by omega
      have e2 : t % 8 = t := by omega
      have e3 : ¬ 8 ≤ t := by omega
      rw [e1, e2]
      simp only [e3, decide_false, Bool.false_and, Bool.and_false, Bool.false_or]
    · have hb : (ds.getD m 0).testBit t = false := Nat.testBit_lt_two_pow (Nat.lt_of_lt_of_le (h m) (by
        have : 2 ^ 8 ≤ 2 ^ t := Nat.pow_le_pow_right (by decide) (by omega)
        exact this))
      have ih := pre8_bit h m (by omega) (t - 8) (by omega)
      have e1 : m - 1 - (t - 8) / 8 = m + 1 - 1 - t / 8 := by omega
      have e2 : (t - 8) % 8 = t % 8 := by omega
      rw [e1, e2] at ih
      have e3 : 8 ≤ t := by omega
      have e4 : t < 64 := by omega
      simp only [hb, ih, e3, e4, decide_true, Bool.true_and, Bool.or_false]
/-- The first i bits of the digest. -/
theorem pre8_step {ds : List Nat} (h : ∀ j, ds.getD j 0 < 256) (i : Nat) (hi : i < 64) : pre8 ds 8 >>> (64 - (i + 1)) = 2 * (pre8 ds 8 >>> (64 - i)) + (ds.getD (i / 8) 0 >>> (7 - i % 8)) % 2 := by
  have hb := pre8_bit h 8 (Nat.le_refl _) (63 - i) (by omega)
  have e1 : 8 - 1 - (63 - i) / 8 = i / 8 := by omega
  have e2 : (63 - i) % 8 = 7 - i % 8 := by omega
  rw [e1, e2] at hb
  have e3 : pre8 ds 8 >>> (64 - i) = (pre8 ds 8 >>> (64 - (i + 1))) / 2 := by rw [shr_half]; congr 1; omega
  obtain ⟨P, eP⟩ : ∃ P, pre8 ds 8 = P := ⟨_, rfl⟩
  obtain ⟨d, ed⟩ : ∃ d, ds.getD (i / 8) 0 = d := ⟨_, rfl⟩
  rw [eP, ed] at hb
  rw [eP] at e3 ⊢
  rw [ed]
  have b1 : (P >>> (63 - i)) % 2 = (d >>> (7 - i % 8)) % 2 := by
    rw [Nat.testBit_eq_decide_div_mod_eq, Nat.testBit_eq_decide_div_mod_eq, ← Nat.shiftRight_eq_div_pow, ← Nat.shiftRight_eq_div_pow] at hb
    have := decide_eq_decide.1 hb
    omega
  rw [e3, ← b1, show 64 - (i + 1) = 63 - i by omega]
  omega
/-- An append of bytes onto a row of one's own. -/
theorem app_PG {lo n m : Nat} {xs ys : List Nat} {y : Value} {ty : TypeId} {u : World} {vs : Value} (hlo : lo ≤ u.heap.size) (hxl : xs.length = n) (hyl : ys.length = m) (hl : n + m ≤ 1000000) (hy : NW m (U8 ys) u y) (h : PG lo 1 n (U8 xs) u vs) :
    ∃ v u' b, (Builtin.append_ #[24, 24] ty #[vs, y]).run Tryd.prog u = .ok v u' ∧ lo ≤ b ∧ u.grownBy u' (some b) ∧ PG lo 1 (n + m) (U8 (xs ++ ys)) u' v := by
  obtain ⟨b, cap, zs, rfl, h1, h2, h3, h4, h5⟩ := h
  obtain ⟨ti, hti, htm⟩ := Option.map_eq_some_iff.1 infoB
  simp only [Prod.mk.injEq] at htm
  obtain ⟨hzv, hsz, hby⟩ := htm
  obtain ⟨v', u', hr, hg, b', cap', zs', rfl, g1, g2, g3, g4, g5⟩ := run_app (P := Tryd.prog) u (ty := ty) Tryd.underlying24 hti hzv (by rw [hsz]; rfl) (base := u.heap.size) (n := n) (cap := cap) (m := m) (news := U8 ys) h5 h2 (by rw [hsz, U8_len]; omega) (by rw [hsz]; omega) h3 (Nat.le_refl _) hy (by rw [hsz, U8_len]; omega) U8_mem (by rw [hby]; omega) (by omega)
  refine ⟨_, u', b, hr, h1, hg, b', cap', zs', rfl, by omega, g2, g3, by rw [hsz] at g4; exact g4, by rw [U8_app]; exact g5⟩
section
variable {R : Rg} {P : Program} {ops : Array Oper} {Q : Exit → Act → World → Prop} {f : Nat → Bool} {t : Nat → Value} {u : World} {a : Act} {i : Nat} {o : Oper}
/-- An append of such a value onto another one, where there is nothing else new. -/
theorem g_aEE (m m2 n : Nat) (p p2 p' : World → Value → Prop) {T : TypeId} {j d j2 d2 : Nat} (hp : ∀ (f : Nat → Bool) (u : World) (vs ys : Value), KC f u R.lo R.base R.es → Below R.lo R.w u → R.base ≤ u.heap.size → p u vs → p2 u ys → ∃ v u' b, (Builtin.append_ #[T, T] o.type #[vs, ys]).run P u = .ok v u' ∧ R.base ≤ b ∧ u.grownBy u' (some b) ∧ p' u' v) (hop : o.op = .call { callee := .builtin .append, args := [.tmp d, .tmp d2].toArray, argTypes := [T, T].toArray } := by rfl) (hm : R.E[m]? = some ⟨j, d, some i, p⟩ := by rfl) (hm2 : R.E[m2]? = some ⟨j2, d2, some i, p2⟩ := by rfl) (hn0 : (R.E[n]?).map (·.p) = some p' := by rfl) (hw0 : R.nw = [] := by rfl)
    (hd : (hasDep o j && R.S.contains d && (hasDep o j2 && R.S.contains d2) && ((R.E.eraseIdx n).all (eGone R.O i o))) = true := by rfl) (hc : R.chkE ops n i o = true := by rfl) : OG R P ops Q i o := fun f t u a X => by
  simp only [Bool.and_eq_true, List.contains_iff_mem] at hd
  obtain ⟨⟨⟨h2, h4⟩, h6, h7⟩, h5⟩ := hd
  obtain ⟨d', q', hd', hq', ⟨e1, e2⟩, k1, k2, k3, k4, k5, k6, k7, hw⟩ := chkE_parts hc
  have hv : p u (t d) := X.val hm h2 rfl
  have hv2 : p2 u (t d2) := X.val hm2 h6 rfl
  obtain ⟨v, u', b, hr, hb, hg, hn⟩ := hp f u (t d) (t d2) X.I.2.1 X.I.1.bel X.I.1.sz hv hv2
  refine X.go hw fun K hK => wp_app hop (X.inS h4) (X.inS h7) hr (hK _ _ ⟨updT t d' v, by rw [hd']; exact X.F.put X.parts.1 k3 v, ?_, KC.free k7 (KC.grown hg hb X.I.1.sz X.I.2.1), Gs.other k1 X.I.2.2.1, okO_spec k6 X.I.2.2.2.1 X.dep, Ns.step X.I.2.2.2.2.1 k2, ?_⟩)
  · have hM := X.I.1
    rw [hw0] at hM ⊢
    exact { bel := hM.bel.grown hg (Nat.le_trans hM.lo hM.sz) (fun k e => by cases e; exact Nat.le_trans hM.lo hb), lo := hM.lo, sz := Nat.le_trans hM.sz hg.size, ks := trivial, ex := trivial, nw := trivial, nd := trivial }
  · exact Es.last (O := R.O) (fun j hj => X.later (by unfold Rg.later; rw [hj]; simp)) X.dep (by rw [hq', ← e1, ← e2]) h5 (by rw [hq'] at hn0; cases hn0; exact hn)
end
end Go.Proofs.YtlcjbnhfmcnnfaaDoor
