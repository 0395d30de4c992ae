/- Blocks of AES: the rounds and their way back. -/
import Derived.Test.YtlcjbnhfmcnnfaaDoorAF0
namespace Go.Proofs.YtlcjbnhfmcnnfaaDoor
open Go.RowKit
set_option linter.unusedVariables false
set_option linter.unusedSimpArgs false
/-- So many bytes. -/
structure BY (n : Nat) (l : List Nat) : Prop where
  len : l.length = n
  lt : ∀ j, l.getD j 0 < 256
theorem gset (l : List Nat) (i j x : Nat) : (l.set i x).getD j 0 = if i = j ∧ j < l.length then x else l.getD j 0 := by
  rw [List.getD_eq_getElem?_getD, List.getD_eq_getElem?_getD, List.getElem?_set]
  by_cases h : i = j
  · subst h
    by_cases h2 : i < l.length
    · simp [h2]
    · simp [h2]
  · simp [h]
theorem BY.set {n : Nat} {l : List Nat} (h : BY n l) (i x : Nat) (hx : x < 256) : BY n (l.set i x) where
  len := by rw [List.length_set]; exact h.len
  lt j := by
    rw [gset]; split
    · exact hx
    · exact h.lt j
theorem rm_get (n : Nat) (f : Nat → Nat) {i : Nat} (h : i < n) : ((List.range n).map f).getD i 0 = f i := by
  rw [List.getD_eq_getElem?_getD, List.getElem?_map, List.getElem?_range h]; rfl
theorem rm_out (n : Nat) (f : Nat → Nat) {i : Nat} (h : ¬ i < n) : ((List.range n).map f).getD i 0 = 0 := by
  rw [List.getD_eq_getElem?_getD, List.getElem?_eq_none (by simpa using h)]; rfl
theorem rm_B {n : Nat} {f : Nat → Nat} (h : ∀ i, i < n → f i < 256) : BY n ((List.range n).map f) := ⟨by simp, fun j => by
  by_cases hj : j < n
  · rw [rm_get n f hj]; exact h j hj
  · rw [rm_out n f hj]; decide⟩
theorem ext_n {n : Nat} {a b : List Nat} (ha : a.length = n) (hb : b.length = n) (h : ∀ i, i < n → a.getD i 0 = b.getD i 0) : a = b := by
  refine List.ext_getElem (ha.trans hb.symm) fun i h1 h2 => ?_
  have := h i (by omega)
  rwa [List.getD_eq_getElem?_getD, List.getD_eq_getElem?_getD, List.getElem?_eq_getElem h1, List.getElem?_eq_getElem h2] at this
/-- Two blocks, xor. -/
def xorB (a b : List Nat) : List Nat := (List.range 16).map fun i => a.getD i 0 ^^^ b.getD i 0
/-- Substituted, and the rows turned. -/
def subB (a : List Nat) : List Nat := (List.range 16).map fun i => sbT.getD (a.getD ((i + 4 * (i % 4)) % 16) 0) 0
/-- Its way back. -/
def busB (a : List Nat) : List Nat := (List.range 16).map fun i => rbT.getD (a.getD ((i + 12 * (i % 4)) % 16) 0) 0
/-- Columns times a polynomial. -/
def mixB (c0 c1 c2 c3 : Nat) (a : List Nat) : List Nat := (List.range 16).map fun i =>
  tm (a.getD (i / 4 * 4 + i % 4) 0) c0 ^^^ tm (a.getD (i / 4 * 4 + (i + 1) % 4) 0) c1 ^^^ tm (a.getD (i / 4 * 4 + (i + 2) % 4) 0) c2 ^^^ tm (a.getD (i / 4 * 4 + (i + 3) % 4) 0) c3
theorem xorB_B {a b : List Nat} (ha : BY 16 a) (hb : BY 16 b) : BY 16 (xorB a b) := rm_B fun i _ => xr8 (ha.lt i) (hb.lt i)
theorem subB_B {a : List Nat} (ha : BY 16 a) : BY 16 (subB a) := rm_B fun i _ => sb_lt _ (ha.lt _)
theorem busB_B {a : List Nat} (ha : BY 16 a) : BY 16 (busB a) := rm_B fun i _ => rb_lt _ (ha.lt _)
theorem mixB_B {c0 c1 c2 c3 : Nat} {a : List Nat} (ha : BY 16 a) : BY 16 (mixB c0 c1 c2 c3 a) :=
  rm_B fun i _ => xr8 (xr8 (xr8 (tm_lt (ha.lt _)) (tm_lt (ha.lt _))) (tm_lt (ha.lt _))) (tm_lt (ha.lt _))
theorem xorB_back {a b : List Nat} (ha : BY 16 a) : xorB (xorB a b) b = a :=
  ext_n (by simp [xorB]) ha.len fun i hi => by
    rw [xorB, rm_get 16 _ hi, xorB, rm_get 16 _ hi, Nat.xor_assoc, Nat.xor_self, Nat.xor_zero]
theorem sh_lt (i m : Nat) : (i + m) % 16 < 16 := Nat.mod_lt _ (by decide)
theorem sh_a : ∀ i, i < 16 → ((i + 12 * (i % 4)) % 16 + 4 * ((i + 12 * (i % 4)) % 16 % 4)) % 16 = i := by decide
theorem sh_b : ∀ i, i < 16 → ((i + 4 * (i % 4)) % 16 + 12 * ((i + 4 * (i % 4)) % 16 % 4)) % 16 = i := by decide
theorem bus_sub {a : List Nat} (ha : BY 16 a) : busB (subB a) = a :=
  ext_n (by simp [busB]) ha.len fun i hi => by
    rw [busB, rm_get 16 _ hi, subB, rm_get 16 _ (sh_lt _ _), sh_a i hi, rb_sb _ (ha.lt i)]
theorem sub_bus {a : List Nat} (ha : BY 16 a) : subB (busB a) = a :=
  ext_n (by simp [subB]) ha.len fun i hi => by
    rw [subB, rm_get 16 _ hi, busB, rm_get 16 _ (sh_lt _ _), sh_b i hi, sb_rb _ (ha.lt i)]
theorem tm4 {p q r s d : Nat} (hp : p < 256) (hq : q < 256) (hr : r < 256) (hs : s < 256) : tm (p ^^^ q ^^^ r ^^^ s) d = tm p d ^^^ tm q d ^^^ tm r d ^^^ tm s d := by
  rw [tm_left (xr8 (xr8 hp hq) hr) hs, tm_left (xr8 hp hq) hr, tm_left hp hq]
theorem x16 {a0 a1 a2 a3 b0 b1 b2 b3 c0 c1 c2 c3 d0 d1 d2 d3 x : Nat} (h0 : a0 ^^^ b3 ^^^ c2 ^^^ d1 = x) (h1 : a1 ^^^ b0 ^^^ c3 ^^^ d2 = 0) (h2 : a2 ^^^ b1 ^^^ c0 ^^^ d3 = 0) (h3 : a3 ^^^ b2 ^^^ c1 ^^^ d0 = 0) :
    (a0 ^^^ a1 ^^^ a2 ^^^ a3) ^^^ (b0 ^^^ b1 ^^^ b2 ^^^ b3) ^^^ (c0 ^^^ c1 ^^^ c2 ^^^ c3) ^^^ (d0 ^^^ d1 ^^^ d2 ^^^ d3) = x := by
  have e : (a0 ^^^ a1 ^^^ a2 ^^^ a3) ^^^ (b0 ^^^ b1 ^^^ b2 ^^^ b3) ^^^ (c0 ^^^ c1 ^^^ c2 ^^^ c3) ^^^ (d0 ^^^ d1 ^^^ d2 ^^^ d3) = (a0 ^^^ b3 ^^^ c2 ^^^ d1) ^^^ (a1 ^^^ b0 ^^^ c3 ^^^ d2) ^^^ (a2 ^^^ b1 ^^^ c0 ^^^ d3) ^^^ (a3 ^^^ b2 ^^^ c1 ^^^ d0) := by ac_rfl
  rw [e, h0, h1, h2, h3, Nat.xor_zero, Nat.xor_zero, Nat.xor_zero]
/-- Two polynomials that undo one another. -/
structure Un (c0 c1 c2 c3 d0 d1 d2 d3 : Nat) : Prop where
  h0 : ∀ x, x < 256 → tm (tm x c0) d0 ^^^ tm (tm x c3) d1 ^^^ tm (tm x c2) d2 ^^^ tm (tm x c1) d3 = x
  h1 : ∀ x, x < 256 → tm (tm x c1) d0 ^^^ tm (tm x c0) d1 ^^^ tm (tm x c3) d2 ^^^ tm (tm x c2) d3 = 0
  h2 : ∀ x, x < 256 → tm (tm x c2) d0 ^^^ tm (tm x c1) d1 ^^^ tm (tm x c0) d2 ^^^ tm (tm x c3) d3 = 0
  h3 : ∀ x, x < 256 → tm (tm x c3) d0 ^^^ tm (tm x c2) d1 ^^^ tm (tm x c1) d2 ^^^ tm (tm x c0) d3 = 0
theorem un_to : Un 2 3 1 1 14 11 13 9 := ⟨by decide +kernel, by decide +kernel, by decide +kernel, by decide +kernel⟩
theorem un_fro : Un 14 11 13 9 2 3 1 1 := ⟨by decide +kernel, by decide +kernel, by decide +kernel, by decide +kernel⟩
theorem ix_lt : ∀ i, i < 16 → ∀ k, k < 4 → i / 4 * 4 + (i + k) % 4 < 16 := by decide
theorem ix_is : ∀ i, i < 16 → ∀ k, k < 4 → ∀ m, m < 4 → (i / 4 * 4 + (i + k) % 4) / 4 * 4 + (i / 4 * 4 + (i + k) % 4 + m) % 4 = i / 4 * 4 + (i + (k + m) % 4) % 4 := by decide
theorem mixB_at {c0 c1 c2 c3 : Nat} {a : List Nat} {i : Nat} (hi : i < 16) (k : Nat) (hk : k < 4) : (mixB c0 c1 c2 c3 a).getD (i / 4 * 4 + (i + k) % 4) 0 =
    tm (a.getD (i / 4 * 4 + (i + (k + 0) % 4) % 4) 0) c0 ^^^ tm (a.getD (i / 4 * 4 + (i + (k + 1) % 4) % 4) 0) c1 ^^^ tm (a.getD (i / 4 * 4 + (i + (k + 2) % 4) % 4) 0) c2 ^^^ tm (a.getD (i / 4 * 4 + (i + (k + 3) % 4) % 4) 0) c3 := by
  rw [mixB, rm_get 16 _ (ix_lt i hi k hk), ← ix_is i hi k hk 0 (by decide), ← ix_is i hi k hk 1 (by decide), ← ix_is i hi k hk 2 (by decide), ← ix_is i hi k hk 3 (by decide)]
  rfl
theorem mix_mix {c0 c1 c2 c3 d0 d1 d2 d3 : Nat} (U : Un c0 c1 c2 c3 d0 d1 d2 d3) {a : List Nat} (ha : BY 16 a) : mixB d0 d1 d2 d3 (mixB c0 c1 c2 c3 a) = a :=
  ext_n (by simp [mixB]) ha.len fun i hi => by
    have e0 := mixB_at (c0 := c0) (c1 := c1) (c2 := c2) (c3 := c3) (a := a) hi 0 (by decide)
    have e1 := mixB_at (c0 := c0) (c1 := c1) (c2 := c2) (c3 := c3) (a := a) hi 1 (by decide)
    have e2 := mixB_at (c0 := c0) (c1 := c1) (c2 := c2) (c3 := c3) (a := a) hi 2 (by decide)
    have e3 := mixB_at (c0 := c0) (c1 := c1) (c2 := c2) (c3 := c3) (a := a) hi 3 (by decide)
    have L : ∀ j m, tm (a.getD j 0) m < 256 := fun j m => tm_lt (ha.lt j)
    have e : i / 4 * 4 + (i + 0) % 4 = i := by omega
    rw [mixB, rm_get 16 _ hi, e1, e2, e3]
    rw [show i / 4 * 4 + i % 4 = i / 4 * 4 + (i + 0) % 4 from rfl, e0]
    simp only [Nat.reduceAdd, Nat.reduceMod]
    rw [tm4 (L _ _) (L _ _) (L _ _) (L _ _), tm4 (L _ _) (L _ _) (L _ _) (L _ _), tm4 (L _ _) (L _ _) (L _ _) (L _ _), tm4 (L _ _) (L _ _) (L _ _) (L _ _)]
    exact (x16 (U.h0 _ (ha.lt _)) (U.h1 _ (ha.lt _)) (U.h2 _ (ha.lt _)) (U.h3 _ (ha.lt _))).trans (by rw [e])
/-- What a round does ahead of its key. -/
def rdE (r : Nat) (a : List Nat) : List Nat := if r < 10 then mixB 2 3 1 1 (subB a) else subB a
def rdD (r : Nat) (a : List Nat) : List Nat := busB (if r < 10 then mixB 14 11 13 9 a else a)
theorem rdE_B {r : Nat} {a : List Nat} (ha : BY 16 a) : BY 16 (rdE r a) := by
  unfold rdE; split
  · exact mixB_B (subB_B ha)
  · exact subB_B ha
theorem rdD_B {r : Nat} {a : List Nat} (ha : BY 16 a) : BY 16 (rdD r a) := by
  unfold rdD; split
  · exact busB_B (mixB_B ha)
  · exact busB_B ha
theorem rdD_E {r : Nat} {a : List Nat} (ha : BY 16 a) : rdD r (rdE r a) = a := by
  unfold rdD rdE; split
  · rw [mix_mix un_to (subB_B ha), bus_sub ha]
  · rw [bus_sub ha]
theorem rdE_D {r : Nat} {a : List Nat} (ha : BY 16 a) : rdE r (rdD r a) = a := by
  unfold rdD rdE; split
  · rw [sub_bus (mixB_B ha), mix_mix un_fro ha]
  · rw [sub_bus ha]
/-- Encrypted by so many rounds. -/
def encR (ks : Nat → List Nat) (a : List Nat) : Nat → List Nat
  | 0 => xorB a (ks 0)
  | r + 1 => xorB (rdE (r + 1) (encR ks a r)) (ks (r + 1))
/-- Decrypted by so many rounds. -/
def decR (ks : Nat → List Nat) (a : List Nat) : Nat → List Nat
  | 0 => a
  | j + 1 => rdD (10 - j) (xorB (decR ks a j) (ks (10 - j)))
def encB (ks : Nat → List Nat) (a : List Nat) : List Nat := encR ks a 10
def decB (ks : Nat → List Nat) (a : List Nat) : List Nat := xorB (decR ks a 10) (ks 0)
theorem encR_B {ks : Nat → List Nat} (hk : ∀ i, BY 16 (ks i)) {a : List Nat} (ha : BY 16 a) : ∀ r, BY 16 (encR ks a r)
  | 0 => xorB_B ha (hk 0)
  | r + 1 => xorB_B (rdE_B (encR_B hk ha r)) (hk _)
theorem decR_B {ks : Nat → List Nat} (hk : ∀ i, BY 16 (ks i)) {a : List Nat} (ha : BY 16 a) : ∀ j, BY 16 (decR ks a j)
  | 0 => ha
  | j + 1 => rdD_B (xorB_B (decR_B hk ha j) (hk _))
theorem encB_B {ks : Nat → List Nat} (hk : ∀ i, BY 16 (ks i)) {a : List Nat} (ha : BY 16 a) : BY 16 (encB ks a) := encR_B hk ha 10
theorem decB_B {ks : Nat → List Nat} (hk : ∀ i, BY 16 (ks i)) {a : List Nat} (ha : BY 16 a) : BY 16 (decB ks a) := xorB_B (decR_B hk ha 10) (hk 0)
theorem dec_encR {ks : Nat → List Nat} (hk : ∀ i, BY 16 (ks i)) {a : List Nat} (ha : BY 16 a) : ∀ j, j ≤ 10 → decR ks (encB ks a) j = encR ks a (10 - j)
  | 0, _ => rfl
  | j + 1, h => by
    rw [decR, dec_encR hk ha j (by omega)]
    obtain ⟨r, hr⟩ : ∃ r, 10 - j = r + 1 := ⟨9 - j, by omega⟩
    rw [hr, encR, xorB_back (rdE_B (encR_B hk ha r)), rdD_E (encR_B hk ha r), show 10 - (j + 1) = r by omega]
theorem dec_enc {ks : Nat → List Nat} (hk : ∀ i, BY 16 (ks i)) {a : List Nat} (ha : BY 16 a) : decB ks (encB ks a) = a := by
  rw [decB, dec_encR hk ha 10 (Nat.le_refl _)]; exact xorB_back ha
theorem enc_decR {ks : Nat → List Nat} (hk : ∀ i, BY 16 (ks i)) {a : List Nat} (ha : BY 16 a) : ∀ r, r ≤ 10 → encR ks (decB ks a) r = decR ks a (10 - r)
  | 0, _ => xorB_back (decR_B hk ha 10)
  | r + 1, h => by
    rw [encR, enc_decR hk ha r (by omega)]
    obtain ⟨j, hj⟩ : ∃ j, 10 - r = j + 1 := ⟨9 - r, by omega⟩
    rw [hj, decR, show 10 - j = r + 1 by omega, rdE_D (xorB_B (decR_B hk ha j) (hk _)), xorB_back (decR_B hk ha j), show 10 - (r + 1) = j by omega]
theorem enc_dec {ks : Nat → List Nat} (hk : ∀ i, BY 16 (ks i)) {a : List Nat} (ha : BY 16 a) : encB ks (decB ks a) = a :=
  enc_decR hk ha 10 (Nat.le_refl _)
theorem enc_inj {ks : Nat → List Nat} (hk : ∀ i, BY 16 (ks i)) {a b : List Nat} (ha : BY 16 a) (hb : BY 16 b) : encB ks a = encB ks b ↔ a = b :=
  ⟨fun h => by rw [← dec_enc hk ha, ← dec_enc hk hb, h], fun h => by rw [h]⟩
end Go.Proofs.YtlcjbnhfmcnnfaaDoor
