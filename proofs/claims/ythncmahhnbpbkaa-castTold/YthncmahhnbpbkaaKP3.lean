/- Cast: what follows for many nodes. -/
import Derived.Test.YthncmahhnbpbkaaKP2
namespace Go.Proofs.Ythncmahhnbpbkaa
set_option linter.unusedVariables false
set_option linter.unusedSimpArgs false
section
variable {t bad n dl : Nat} {vl : Option ByteArray} {W : Wd} {L : List (Nat × Mg)}
theorem InvB.so1 (h : InvB t bad n dl vl W L) {i : Nat} (h1 : bad < i) (h2 : i ≤ n) : SO n (W.nd i).ec := by
  have := h.num i (by omega) h2
  rw [← this.1]; exact this.2.2.2.2.o1
theorem InvB.so2 (h : InvB t bad n dl vl W L) {i : Nat} (h1 : bad < i) (h2 : i ≤ n) : SO n (W.nd i).rd := by
  have := h.num i (by omega) h2
  rw [← this.1]; exact this.2.2.2.2.o2
theorem InvB.nq (h : InvB t bad n dl vl W L) {i : Nat} (h1 : bad < i) (h2 : i ≤ n) {u : ByteArray} (hq : (n : Int) + t < 2 * cnt (W.nd i).ec u ∨ (t : Int) < cnt (W.nd i).rd u) : ∃ v, (W.nd i).r = some v := by
  obtain ⟨e1, e2, _, _, wf⟩ := h.num i (by omega) h2
  exact Option.isSome_iff_exists.1 (wf.q u (by rw [e1, e2]; exact hq))
theorem InvB.nd' (h : InvB t bad n dl vl W L) {i : Nat} (h1 : bad < i) (h2 : i ≤ n) {u : ByteArray} (hq : 2 * (t : Int) < cnt (W.nd i).rd u) : ∃ v, (W.nd i).d = some v := by
  obtain ⟨e1, e2, _, _, wf⟩ := h.num i (by omega) h2
  exact Option.isSome_iff_exists.1 (wf.d u (by rw [e2]; exact hq))
/-- No two are ready for other values. -/
theorem InvB.same_r (h : InvB t bad n dl vl W L) (hb : bad ≤ t) {i j : Nat} (hi : bad < i ∧ i ≤ n) (hj : bad < j ∧ j ≤ n) {u v : ByteArray} (hu : (W.nd i).r = some u) (hv : (W.nd j).r = some v) : u = v := by
  obtain ⟨a, ⟨a1, a2⟩, a3⟩ := h.rq i hi.1 hi.2 u hu
  obtain ⟨b, ⟨b1, b2⟩, b3⟩ := h.rq j hj.1 hj.2 v hv
  obtain ⟨g, ⟨g1, g2⟩, g3, g4⟩ := meet (h.so1 a1 a2) (h.so1 b1 b2) (b := bad) (by omega) a3 b3
  have e1 := h.ec a a1 a2 g u g1 g3
  have e2 := h.ec b b1 b2 g v g1 g4
  rw [e1] at e2; cases e2; rfl
/-- Who delivered has one that is ready. -/
theorem InvB.d_r (h : InvB t bad n dl vl W L) (hb : bad ≤ t) {i : Nat} (hi : bad < i ∧ i ≤ n) {u : ByteArray} (hu : (W.nd i).d = some u) : ∃ g, (bad < g ∧ g ≤ n) ∧ (W.nd g).r = some u := by
  have h1 := h.dq i hi.1 hi.2 u hu
  obtain ⟨g, ⟨g1, g2⟩, g3⟩ := one_of (h.so2 hi.1 hi.2) (b := bad) (v := u) (by omega)
  exact ⟨g, ⟨g1, by omega⟩, h.rd i hi.1 hi.2 g u g1 g3⟩
/-- No two deliver other values. -/
theorem InvB.same_d (h : InvB t bad n dl vl W L) (hb : bad ≤ t) {i j : Nat} (hi : bad < i ∧ i ≤ n) (hj : bad < j ∧ j ≤ n) {u v : ByteArray} (hu : (W.nd i).d = some u) (hv : (W.nd j).d = some v) : u = v := by
  obtain ⟨a, ha, a1⟩ := h.d_r hb hi hu
  obtain ⟨b, hb', b1⟩ := h.d_r hb hj hv
  exact h.same_r hb ha hb' a1 b1
/-- The others, as numbers. -/
def others (bad n : Nat) : List Int := (List.range (n - bad)).map fun j => ((bad + 1 + j : Nat) : Int)
theorem others_nd (bad n : Nat) : (others bad n).Nodup := by
  unfold others
  rw [List.nodup_iff_pairwise_ne, List.pairwise_map]
  exact List.Pairwise.imp (fun {a b} hab => by omega) (List.nodup_iff_pairwise_ne.1 List.nodup_range)
theorem others_len (bad n : Nat) : (others bad n).length = n - bad := by simp [others]
theorem others_mem {bad n : Nat} {g : Int} (h : g ∈ others bad n) : ∃ j : Nat, g = j ∧ bad < j ∧ j ≤ n := by
  unfold others at h
  obtain ⟨j, hj, rfl⟩ := List.mem_map.1 h
  rw [List.mem_range] at hj
  exact ⟨_, rfl, by omega, by omega⟩
/-- All are ready for it: all deliver. -/
theorem InvB.all_d (h : InvB t bad n dl vl W []) (hb : bad ≤ t) (hn : n = 3 * t + 1) {v : ByteArray} (hr : ∀ i, bad < i → i ≤ n → (W.nd i).r = some v) {j : Nat} (hj : bad < j ∧ j ≤ n) : (W.nd j).d = some v := by
  have h1 := all_of (h.so2 hj.1 hj.2) (others bad n) (others_nd _ _) (v := v) fun g hg => by
    obtain ⟨k, rfl, k1, k2⟩ := others_mem hg
    rcases h.tr k k1 k2 v (hr k k1 k2) j hj.1 hj.2 with h3 | h3
    · exact h3
    · cases h3
  rw [others_len] at h1
  obtain ⟨u, hu⟩ := h.nd' hj.1 hj.2 (u := v) (by omega)
  obtain ⟨g, hg, g1⟩ := h.d_r hb hj hu
  rw [hr g hg.1 hg.2] at g1
  cases g1; exact hu
/-- One delivers: all do. -/
theorem InvB.total (h : InvB t bad n dl vl W []) (hb : bad ≤ t) (hn : n = 3 * t + 1) {i : Nat} (hi : bad < i ∧ i ≤ n) {v : ByteArray} (hv : (W.nd i).d = some v) {j : Nat} (hj : bad < j ∧ j ≤ n) : (W.nd j).d = some v := by
  have h1 := h.dq i hi.1 hi.2 v hv
  obtain ⟨G, g1, g2, g3⟩ := most_of (h.so2 hi.1 hi.2) (v := v) (b := bad)
  have gr : ∀ g ∈ G, ∃ k : Nat, g = k ∧ (bad < k ∧ k ≤ n) ∧ (W.nd k).r = some v := fun g hg => by
    obtain ⟨a1, a2, a3⟩ := g3 g hg
    refine ⟨g.toNat, by omega, ⟨by omega, by omega⟩, ?_⟩
    exact h.rd i hi.1 hi.2 g.toNat v (by omega) (by rw [show ((g.toNat : Nat) : Int) = g by omega]; exact a3)
  have hr : ∀ k, bad < k → k ≤ n → (W.nd k).r = some v := fun k k1 k2 => by
    have h4 := all_of (h.so2 k1 k2) G g1 (v := v) fun g hg => by
      obtain ⟨m, rfl, m1, m2⟩ := gr g hg
      rcases h.tr m m1.1 m1.2 v m2 k k1 k2 with h3 | h3
      · exact h3
      · cases h3
    obtain ⟨u, hu⟩ := h.nq k1 k2 (u := v) (.inr (by omega))
    have hG : 0 < G.length := by omega
    obtain ⟨g, hg⟩ := List.exists_mem_of_length_pos hG
    obtain ⟨m, _, m1, m2⟩ := gr g hg
    have := h.same_r hb ⟨k1, k2⟩ m1 hu m2
    rw [hu, this]
  exact h.all_d hb hn hr hj
/-- A dealer that does as it should: all deliver its value. -/
theorem InvB.told {v : ByteArray} (h : InvB t bad n dl (some v) W []) (hb : bad ≤ t) (hn : n = 3 * t + 1) (hd : bad < dl) {j : Nat} (hj : bad < j ∧ j ≤ n) : (W.nd j).d = some v := by
  have he : ∀ i, bad < i → i ≤ n → (W.nd i).e = some v := fun i i1 i2 => by
    rcases h.ts hd v rfl i i1 i2 with h1 | h1
    · obtain ⟨u, hu⟩ := Option.isSome_iff_exists.1 h1
      have := h.vs hd i i1 i2 u hu
      cases this; exact hu
    · cases h1
  have hr : ∀ k, bad < k → k ≤ n → (W.nd k).r = some v := fun k k1 k2 => by
    have h4 := all_of (h.so1 k1 k2) (others bad n) (others_nd _ _) (v := v) fun g hg => by
      obtain ⟨m, rfl, m1, m2⟩ := others_mem hg
      rcases h.te m m1 m2 v (he m m1 m2) k k1 k2 with h3 | h3
      · exact h3
      · cases h3
    rw [others_len] at h4
    obtain ⟨u, hu⟩ := h.nq k1 k2 (u := v) (.inl (by omega))
    obtain ⟨a, ⟨a1, a2⟩, a3⟩ := h.rq k k1 k2 u hu
    obtain ⟨g, ⟨b1, b2⟩, b3⟩ := one_of (h.so1 a1 a2) (b := bad) (v := u) (by omega)
    have := h.ec a a1 a2 g u b1 b3
    rw [he g b1 (by omega)] at this
    cases this; exact hu
  exact h.all_d hb hn hr hj
end
/-- What may still be sent. -/
def un (x : Nd) : Nat := (if x.e.isSome then 0 else 1) + (if x.r.isSome then 0 else 1)
def sumN (f : Nat → Nat) : Nat → Nat
  | 0 => 0
  | m + 1 => sumN f m + f m
theorem sumN_ext {f g : Nat → Nat} : ∀ {m : Nat}, (∀ j, j < m → f j = g j) → sumN f m = sumN g m
  | 0, _ => rfl
  | m + 1, h => by
    rw [sumN, sumN, sumN_ext (m := m) fun j hj => h j (by omega), h m (by omega)]
theorem sumN_up {f g : Nat → Nat} {i : Nat} : ∀ {m : Nat}, i < m → (∀ j, j < m → j ≠ i → f j = g j) → sumN f m + g i = sumN g m + f i
  | 0, h, _ => by omega
  | m + 1, h, hj => by
    rw [sumN, sumN]
    by_cases e : i = m
    · subst e
      have := sumN_ext (f := f) (g := g) (m := i) fun j h1 => hj j (by omega) (by omega)
      omega
    · have := sumN_up (f := f) (g := g) (i := i) (m := m) (by omega) fun j h1 h2 => hj j (by omega) h2
      have := hj m (by omega) (by omega)
      omega
theorem sumN_le {f : Nat → Nat} {c : Nat} (h : ∀ j, f j ≤ c) : ∀ m, sumN f m ≤ c * m
  | 0 => by simp [sumN]
  | m + 1 => by
    have h1 := sumN_le h m
    have h2 := h m
    rw [sumN, Nat.mul_succ]; omega
/-- What may still come to nodes. -/
def Wd.pot (bad n : Nat) (W : Wd) : Nat := W.wait.length + (n - bad) * sumN (fun j => un (W.nd (bad + 1 + j))) (n - bad)
theorem bc_len (bad n : Nat) (m : Mg) : (bc bad n m).length = n - bad := by simp [bc]
theorem Wd.pot_step {bad n : Nat} {W : Wd} {i : Nat} (hi : bad < i) (hin : i ≤ n) (hwf : NWF (W.nd i)) (k f : Int) (v : ByteArray) : (W.step bad n i (k, f, v)).pot bad n = W.pot bad n := by
  have S := take_stp hwf k f v
  have hst : W.step bad n i (k, f, v) = ({ W with nd := upN W.nd i ((W.nd i).take k f v).1 } : Wd).all bad n ((W.nd i).take k f v).2 := rfl
  rw [hst]
  clear hst
  generalize ((W.nd i).take k f v).1 = y at *
  generalize ((W.nd i).take k f v).2 = o at *
  have hs := sumN_up (f := fun j => un (upN W.nd i y (bad + 1 + j))) (g := fun j => un (W.nd (bad + 1 + j))) (i := i - bad - 1) (m := n - bad) (by omega) fun j h1 h2 => by rw [upN_ne _ _ (by omega)]
  simp only [show bad + 1 + (i - bad - 1) = i by omega, upN_self] at hs
  have hu : un y + (if o.isSome then 1 else 0) = un (W.nd i) := by
    unfold un
    rcases S.o with ⟨e, e1, e2, _⟩ | ⟨e, e0, e1, e2, _⟩ | ⟨e, e1, e0, e2, _⟩
    · rw [e, e1, e2]; rfl
    · rw [e, e0, e1, e2]; simp; omega
    · rw [e, e0, e1, e2]; simp
  cases o with
  | none =>
    have e3 : un y = un (W.nd i) := hu
    rw [e3] at hs
    have : sumN (fun j => un (upN W.nd i y (bad + 1 + j))) (n - bad) = sumN (fun j => un (W.nd (bad + 1 + j))) (n - bad) := by omega
    simp only [Wd.all, Wd.pot, this]
  | some m =>
    have e3 : un y + 1 = un (W.nd i) := hu
    have e4 : sumN (fun j => un (W.nd (bad + 1 + j))) (n - bad) = sumN (fun j => un (upN W.nd i y (bad + 1 + j))) (n - bad) + 1 := by omega
    simp only [Wd.all, Wd.pot, List.length_append, bc_len, e4, Nat.mul_add, Nat.mul_one]
    omega
theorem un_le (x : Nd) : un x ≤ 2 := by
  unfold un
  split <;> split <;> omega
end Go.Proofs.Ythncmahhnbpbkaa
