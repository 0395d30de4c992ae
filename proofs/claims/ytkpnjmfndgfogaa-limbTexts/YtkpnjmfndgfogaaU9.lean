/- Plain numbers: bytes and texts of a number, read again. -/
import Derived.Test.YtkpnjmfndgfogaaU5
import Derived.Test.YtkpnjmfndgfogaaB9
import Derived.Test.YtkpnjmfndgfogaaU6
namespace Go.Proofs.Ytkpnjmfndgfogaa
set_option linter.unusedSimpArgs false
set_option linter.unusedVariables false
/-- One of the four words. -/
def wd (a b c d : Int) (q : Nat) : Int := if q = 0 then a else if q = 1 then b else if q = 2 then c else d
theorem mod_more (x P B : Int) (hP : 0 < P) (hB : 0 < B) : x % (P * B) = x % P + x / P % B * P := by
  have e1 := Int.mul_ediv_add_emod x P
  have e2 := Int.mul_ediv_add_emod (x / P) B
  have m1 := Int.emod_nonneg x (show P ≠ 0 by omega)
  have m2 := Int.emod_lt_of_pos x hP
  have m3 := Int.emod_nonneg (x / P) (show B ≠ 0 by omega)
  have m4 := Int.emod_lt_of_pos (x / P) hB
  have hx : x = (x % P + x / P % B * P) + P * B * (x / P / B) := by
    generalize x / P / B = u at *
    generalize x / P % B = v at *
    generalize x % P = z at *
    generalize x / P = y at *
    grind
  have l0 : 0 ≤ x / P % B * P := Int.mul_nonneg m3 (by omega)
  have l1 : x / P % B * P ≤ (B - 1) * P := Int.mul_le_mul_of_nonneg_right (by omega) (by omega)
  have l2 : (B - 1) * P = P * B - P := by rw [Int.sub_mul, Int.one_mul, Int.mul_comm]
  have : x % (P * B) = (x % P + x / P % B * P) % (P * B) := by
    conv => lhs; rw [hx]
    rw [Int.add_mul_emod_self_left]
  rw [this]
  exact Int.emod_eq_of_lt (by omega) (by omega)
/-- The places of a number's words, of a digit's width, put together. -/
def Gk (f : Nat → Int) (B E q : Nat) : Nat → Int
  | 0 => 0
  | k + 1 => Gk f B E q k + if k / B = q then f k * 2 ^ (k % B * E) else 0
theorem Gk_Tk (xs : List Int) (q : Nat) : ∀ k, Tk xs q k = Gk (bv xs) 8 8 q k
  | 0 => rfl
  | k + 1 => by rw [Tk, Gk, Gk_Tk xs q k]
theorem Gk_Uk (xs : List Int) (q : Nat) : ∀ k, Uk xs q k = Gk (dv xs) 16 4 q k
  | 0 => rfl
  | k + 1 => by rw [Uk, Gk, Gk_Uk xs q k]
theorem Gk_congr {f g : Nat → Int} (B E q : Nat) : ∀ k, (∀ p, p < k → f p = g p) → Gk f B E q k = Gk g B E q k
  | 0, _ => rfl
  | k + 1, h => by rw [Gk, Gk, Gk_congr B E q k (fun p hp => h p (by omega)), h k (by omega)]
theorem Gk_zero {f : Nat → Int} (B E q n : Nat) : ∀ k, (∀ p, n ≤ p → p < n + k → f p = 0) → Gk f B E q (n + k) = Gk f B E q n
  | 0, _ => rfl
  | k + 1, h => by
    rw [← Nat.add_assoc, Gk, Gk_zero B E q n k (fun p h1 h2 => h p h1 (by omega)), h (n + k) (by omega) (by omega)]
    simp
theorem Gk_lo {f : Nat → Int} (B E q : Nat) (hB : 0 < B) : ∀ k, k ≤ B * q → Gk f B E q k = 0
  | 0, _ => rfl
  | k + 1, h => by
    rw [Gk, Gk_lo B E q hB k (by omega), if_neg (fun e => by rw [Nat.div_eq_iff hB] at e; have := Nat.mul_comm q B; omega)]
    rfl
theorem Gk_hi {f : Nat → Int} (B E q : Nat) (hB : 0 < B) : ∀ k, B * q + B ≤ k → Gk f B E q k = Gk f B E q (B * q + B)
  | 0, h => by omega
  | k + 1, h => by
    by_cases e : B * q + B = k + 1
    · rw [e]
    · rw [Gk, Gk_hi B E q hB k (by omega), if_neg (fun e => by rw [Nat.div_eq_iff hB] at e; have := Nat.mul_comm q B; omega)]
      omega
theorem Gk_word (x : Int) (f : Nat → Int) (B E q : Nat) (hB : 0 < B) : ∀ i, i ≤ B → (∀ j, j < i → f (B * q + j) = x / 2 ^ (j * E) % 2 ^ E) → Gk f B E q (B * q + i) = x % 2 ^ (i * E)
  | 0, _, _ => by
    rw [Gk_lo B E q hB (B * q + 0) (by omega)]; simp
  | i + 1, h, hf => by
    have d : (B * q + i) / B = q := by rw [Nat.mul_add_div hB, Nat.div_eq_of_lt (by omega)]; omega
    have m : (B * q + i) % B = i := by rw [Nat.mul_add_mod, Nat.mod_eq_of_lt (by omega)]
    rw [← Nat.add_assoc, Gk, Gk_word x f B E q hB i (by omega) (fun j hj => hf j (by omega)), if_pos d, m, hf i (by omega), show (i + 1) * E = i * E + E by rw [Nat.add_mul]; omega, Int.pow_add, mod_more x _ _ (pow_pos2 _) (pow_pos2 _)]
/-- A digit of what was put together. -/
theorem Gk_split (f : Nat → Int) (B E q i : Nat) (hB : 0 < B) (hi : i < B) : ∀ m, ∃ r, Gk f B E q (B * q + i + 1 + m) = Gk f B E q (B * q + i) + f (B * q + i) * 2 ^ (i * E) + r * 2 ^ ((i + 1) * E)
  | 0 => ⟨0, by
    have d : (B * q + i) / B = q := by rw [Nat.mul_add_div hB, Nat.div_eq_of_lt (by omega)]; omega
    have m : (B * q + i) % B = i := by rw [Nat.mul_add_mod, Nat.mod_eq_of_lt (by omega)]
    rw [Nat.add_zero, Gk, if_pos d, m]; omega⟩
  | m + 1 => by
    obtain ⟨r, hr⟩ := Gk_split f B E q i hB hi m
    rw [← Nat.add_assoc, Gk, hr]
    by_cases e : (B * q + i + 1 + m) / B = q
    · rw [if_pos e]
      have hm : (B * q + i + 1 + m) % B = i + 1 + m := by
        have := Nat.div_add_mod (B * q + i + 1 + m) B
        rw [e] at this; omega
      rw [hm]
      refine ⟨r + f (B * q + i + 1 + m) * 2 ^ (m * E), ?_⟩
      rw [show (i + 1 + m) * E = m * E + (i + 1) * E by rw [Nat.add_mul]; omega, Int.pow_add]
      generalize f (B * q + i + 1 + m) = y
      generalize (2 : Int) ^ (m * E) = y1
      generalize (2 : Int) ^ ((i + 1) * E) = y2
      grind
    · rw [if_neg e]; exact ⟨r, by omega⟩
theorem Gk_digit (f : Nat → Int) (B E q i n : Nat) (hB : 0 < B) (hi : i < B) (hf : 0 ≤ f (B * q + i) ∧ f (B * q + i) < 2 ^ E) (hl : 0 ≤ Gk f B E q (B * q + i) ∧ Gk f B E q (B * q + i) < 2 ^ (i * E)) (hn : B * q + i + 1 ≤ n) :
    Gk f B E q n / 2 ^ (i * E) % 2 ^ E = f (B * q + i) := by
  obtain ⟨r, hr⟩ := Gk_split f B E q i hB hi (n - (B * q + i + 1))
  rw [show B * q + i + 1 + (n - (B * q + i + 1)) = n by omega] at hr
  rw [hr, show (i + 1) * E = i * E + E by rw [Nat.add_mul]; omega, Int.pow_add]
  have p := pow_pos2 (i * E)
  have e : Gk f B E q (B * q + i) + f (B * q + i) * 2 ^ (i * E) + r * (2 ^ (i * E) * 2 ^ E) = Gk f B E q (B * q + i) + 2 ^ (i * E) * (f (B * q + i) + 2 ^ E * r) := by grind
  rw [e, Int.add_mul_ediv_left _ _ (by omega), Int.ediv_eq_zero_of_lt hl.1 hl.2, Int.zero_add, Int.add_mul_emod_self_left, Int.emod_eq_of_lt hf.1 hf.2]
theorem wd_nib (a b c d : Int) (q i : Nat) (hi : i < 16) (hq : q < 4) : nib a b c d (16 * q + i) = wd a b c d q / 2 ^ (i * 4) % 2 ^ 4 := by
  unfold nib wd
  rw [show (16 * q + i) / 16 = q by omega, show (16 * q + i) % 16 = i by omega]
  have : q = 0 ∨ q = 1 ∨ q = 2 ∨ q = 3 := by omega
  rcases this with rfl | rfl | rfl | rfl <;> rfl
theorem wd_byp (a b c d : Int) (q i : Nat) (hi : i < 8) (hq : q < 4) : byp a b c d (8 * q + i) = wd a b c d q / 2 ^ (i * 8) % 2 ^ 8 := by
  unfold byp wd
  rw [show (8 * q + i) / 8 = q by omega, show (8 * q + i) % 8 = i by omega]
  have : q = 0 ∨ q = 1 ∨ q = 2 ∨ q = 3 := by omega
  rcases this with rfl | rfl | rfl | rfl <;> rfl
theorem wd_W (a b c d : Int) (q : Nat) (ha : W64 a) (hb : W64 b) (hc : W64 c) (hd : W64 d) : W64 (wd a b c d q) := by
  unfold wd; split
  · exact ha
  · split
    · exact hb
    · split <;> assumption
theorem W_mod (x : Int) (h : W64 x) : x % 2 ^ 64 = x := Int.emod_eq_of_lt h.1 (by have := h.2; have e : (2 : Int) ^ 64 = 18446744073709551616 := by rfl
                                                                                  omega)
/-- The bytes of a number. -/
def bys (a b c d : Int) : List Int := (List.range 32).map fun j => byp a b c d (31 - j)
theorem bys_8 (a b c d : Int) : Bytes8 (bys a b c d) := fun x hx => by
  obtain ⟨j, _, rfl⟩ := List.mem_map.1 hx
  exact byp_bd a b c d _
theorem bys_len (a b c d : Int) : (bys a b c d).length = 32 := by simp [bys]
theorem bys_SB {w : World} {g : Nat} {a b c d : Int} (h : CB w g 32 a b c d) : SB w g 0 (bys a b c d) := fun j hj => by
  rw [bys_len] at hj
  rw [Nat.zero_add, (h j hj).1, if_pos (by omega)]
  simp [bys, hj]
theorem bys_Tk (a b c d : Int) (q : Nat) (hq : q < 4) (ha : W64 a) (hb : W64 b) (hc : W64 c) (hd : W64 d) : Tk (bys a b c d) q 32 = wd a b c d q := by
  have hv : ∀ p, p < 32 → bv (bys a b c d) p = byp a b c d p := fun p hp => by
    unfold bv; rw [bys_len]
    have h1 : 32 - 1 - p < 32 := by omega
    simp only [bys, List.getD_eq_getElem?_getD, List.getElem?_map, List.getElem?_range h1]
    show byp a b c d (31 - (32 - 1 - p)) = _
    rw [show 31 - (32 - 1 - p) = p by omega]
  rw [Gk_Tk, Gk_hi 8 8 q (by omega) 32 (by omega), Gk_word (wd a b c d q) _ 8 8 q (by omega) 8 (by omega) (fun j hj => by rw [hv _ (by omega), wd_byp a b c d q j hj hq])]
  exact W_mod _ (wd_W a b c d q ha hb hc hd)
theorem ixv_hexc (v : Int) (h0 : 0 ≤ v) (h1 : v < 16) : ixv (hexc v) = v := by
  unfold ixv hexc
  split <;> split <;> (try split) <;> omega
theorem hexc_ixv (c : Int) (h : 0 ≤ ixv c) : hexc (ixv c) = c := by
  unfold ixv at h ⊢
  by_cases h1 : 48 ≤ c ∧ c ≤ 57
  · rw [if_pos h1]; unfold hexc; rw [if_pos (by omega)]; omega
  · rw [if_neg h1] at h ⊢
    by_cases h2 : 97 ≤ c ∧ c ≤ 102
    · rw [if_pos h2]; unfold hexc; rw [if_neg (by omega)]; omega
    · rw [if_neg h2] at h; omega
theorem txl_len (a b c d : Int) (n : Nat) : (txl a b c d n).length = n := by simp [txl]
theorem txl_get (a b c d : Int) (n j : Nat) (h : j < n) (z : Int) : (txl a b c d n).getD j z = hexc (nib a b c d (n - 1 - j)) := by
  simp [txl, h]
theorem txl_8 (a b c d : Int) (n : Nat) : Bytes8 (txl a b c d n) := fun x hx => by
  obtain ⟨j, _, rfl⟩ := List.mem_map.1 hx
  have := nib_bd a b c d (n - 1 - j)
  have := hexc_bd _ this.1 this.2
  exact ⟨by omega, by omega⟩
theorem txl_isT (a b c d : Int) (ha : W64 a) (hb : W64 b) (hc : W64 c) (hd : W64 d) : isT (txl a b c d (nd a b c d)) = true := by
  obtain ⟨n1, n2, n3⟩ := nd_lo a b c d ha hb hc hd
  generalize nd a b c d = n at *
  have ha : ((txl a b c d n).all fun c => decide (0 ≤ ixv c)) = true := by
    rw [List.all_eq_true]; intro x hx
    obtain ⟨j, _, rfl⟩ := List.mem_map.1 hx
    have hb := nib_bd a b c d (n - 1 - j)
    rw [ixv_hexc _ hb.1 hb.2]; simpa using hb.1
  unfold isT
  rw [ha, txl_len, txl_get a b c d n 0 (by omega)]
  have h0 : (n == 0) = false := by simp; omega
  rw [h0]
  rcases n3 with n3 | n3
  · subst n3; simp
  · have hb := nib_bd a b c d (n - 1 - 0)
    have : (hexc (nib a b c d (n - 1 - 0)) == 48) = false := by
      rw [beq_eq_false_iff_ne]; intro e
      exact n3 ((hexc_48 _ hb.1 hb.2).1 e)
    rw [this]; rfl
theorem txl_Uk (a b c d : Int) (q : Nat) (hq : q < 4) (ha : W64 a) (hb : W64 b) (hc : W64 c) (hd : W64 d) : Uk ((txl a b c d (nd a b c d)).map ixv) q (nd a b c d) = wd a b c d q := by
  obtain ⟨n1, n2, n3⟩ := nd_lo a b c d ha hb hc hd
  have nh := fun p => nd_hi a b c d ha hb hc hd p
  generalize nd a b c d = n at *
  have hv : ∀ p, p < n → dv ((txl a b c d n).map ixv) p = nib a b c d p := fun p hp => by
    have hb := nib_bd a b c d p
    unfold dv; rw [List.length_map, txl_len]
    have h1 : n - 1 - p < n := by omega
    simp only [txl, List.map_map, List.getD_eq_getElem?_getD, List.getElem?_map, List.getElem?_range h1]
    show ixv (hexc (nib a b c d (n - 1 - (n - 1 - p)))) = _
    rw [show n - 1 - (n - 1 - p) = p by omega, ixv_hexc _ hb.1 hb.2]
  rw [Gk_Uk, Gk_congr 16 4 q n hv]
  have e := Gk_zero (f := nib a b c d) 16 4 q n (64 - n) (fun p h1 h2 => nh p h1 (by omega))
  rw [show n + (64 - n) = 64 by omega] at e
  rw [← e, Gk_hi 16 4 q (by omega) 64 (by omega), Gk_word (wd a b c d q) _ 16 4 q (by omega) 16 (by omega) (fun j hj => wd_nib a b c d q j hj hq)]
  exact W_mod _ (wd_W a b c d q ha hb hc hd)
/-- What is told of a text is read as that number. -/
theorem PR_txl (a b c d : Int) (ha : W64 a) (hb : W64 b) (hc : W64 c) (hd : W64 d) : PR (txl a b c d (nd a b c d)) = .tuple #[A4 a b c d, .int .i64 0] := by
  obtain ⟨n1, n2, n3⟩ := nd_lo a b c d ha hb hc hd
  unfold PR
  rw [txl_isT a b c d ha hb hc hd, if_pos rfl, txl_len, if_neg (by omega), txl_Uk a b c d 0 (by omega) ha hb hc hd, txl_Uk a b c d 1 (by omega) ha hb hc hd, txl_Uk a b c d 2 (by omega) ha hb hc hd, txl_Uk a b c d 3 (by omega) ha hb hc hd]
  rfl
/-- A text that was read is told of that number. -/
theorem txl_of (cs : List Int) (h : isT cs = true) (hn : cs.length ≤ 64) : txl (Uk (cs.map ixv) 0 cs.length) (Uk (cs.map ixv) 1 cs.length) (Uk (cs.map ixv) 2 cs.length) (Uk (cs.map ixv) 3 cs.length) (nd (Uk (cs.map ixv) 0 cs.length) (Uk (cs.map ixv) 1 cs.length) (Uk (cs.map ixv) 2 cs.length) (Uk (cs.map ixv) 3 cs.length)) = cs := by
  have hD := isT_digs h
  have hl := isT_len h
  have hall : ∀ c ∈ cs, 0 ≤ ixv c := by
    unfold isT at h; simp only [Bool.and_eq_true, List.all_eq_true, decide_eq_true_eq] at h; exact h.2
  have hfirst : ¬ (cs.getD 0 0 = 48 ∧ 1 < cs.length) := by
    unfold isT at h; simp only [Bool.and_eq_true, Bool.not_eq_true', Bool.and_eq_false_iff, beq_eq_false_iff_ne, decide_eq_false_iff_not] at h
    intro e; rcases h.1.2 with h2 | h2
    · exact h2 e.1
    · exact h2 e.2
  have w0 := Uk_W (cs.map ixv) hD 0 cs.length
  have w1 := Uk_W (cs.map ixv) hD 1 cs.length
  have w2 := Uk_W (cs.map ixv) hD 2 cs.length
  have w3 := Uk_W (cs.map ixv) hD 3 cs.length
  have hdg : ∀ p, p < 64 → nib (Uk (cs.map ixv) 0 cs.length) (Uk (cs.map ixv) 1 cs.length) (Uk (cs.map ixv) 2 cs.length) (Uk (cs.map ixv) 3 cs.length) p = if p < cs.length then dv (cs.map ixv) p else 0 := fun p hp => by
    obtain ⟨q, i, hi, rfl⟩ : ∃ q i, i < 16 ∧ p = 16 * q + i := ⟨p / 16, p % 16, by omega, by omega⟩
    have hq : q < 4 := by omega
    rw [wd_nib _ _ _ _ q i hi hq]
    have e : wd (Uk (cs.map ixv) 0 cs.length) (Uk (cs.map ixv) 1 cs.length) (Uk (cs.map ixv) 2 cs.length) (Uk (cs.map ixv) 3 cs.length) q = Uk (cs.map ixv) q cs.length := by
      have : q = 0 ∨ q = 1 ∨ q = 2 ∨ q = 3 := by omega
      rcases this with rfl | rfl | rfl | rfl <;> rfl
    rw [e]
    have hm := Uk_mid (cs.map ixv) hD q
    by_cases hc : 16 * q + i < cs.length
    · rw [if_pos hc, Gk_Uk]
      have hb := dv_bd (cs.map ixv) hD (16 * q + i)
      have hmi := hm (16 * q + i) (by omega) (by omega)
      rw [show 16 * q + i - 16 * q = i by omega, Gk_Uk] at hmi
      exact Gk_digit (dv (cs.map ixv)) 16 4 q i cs.length (by omega) hi ⟨hb.1, hb.2⟩ hmi (by omega)
    · rw [if_neg hc]
      have hz : 0 ≤ Uk (cs.map ixv) q cs.length ∧ Uk (cs.map ixv) q cs.length < 2 ^ (i * 4) := by
        by_cases hlo : cs.length ≤ 16 * q
        · rw [Uk_lo _ q _ hlo]; exact ⟨by omega, pow_pos2 _⟩
        · have hmi := hm cs.length (by omega) (by omega)
          refine ⟨hmi.1, Int.lt_of_lt_of_le hmi.2 ?_⟩
          exact pow_mono (by omega)
      rw [Int.ediv_eq_zero_of_lt hz.1 hz.2]; rfl
  generalize Uk (cs.map ixv) 0 cs.length = z0 at *
  generalize Uk (cs.map ixv) 1 cs.length = z1 at *
  generalize Uk (cs.map ixv) 2 cs.length = z2 at *
  generalize Uk (cs.map ixv) 3 cs.length = z3 at *
  have hdv : ∀ j, j < cs.length → dv (cs.map ixv) (cs.length - 1 - j) = ixv (cs.getD j 0) := fun j hj => by
    unfold dv; rw [List.length_map, show cs.length - 1 - (cs.length - 1 - j) = j by omega]
    simp [List.getElem?_eq_getElem hj]
  have hnd : nd z0 z1 z2 z3 = cs.length := by
    have := nd_uniq z0 z1 z2 z3 w0 w1 w2 w3 (64 - cs.length) (by omega) (fun i hi => by rw [hdg _ (by omega), if_neg (by omega)]; rfl) (by
      by_cases h1 : cs.length = 1
      · left; omega
      · right
        rw [show 63 - (64 - cs.length) = cs.length - 1 - 0 by omega, hdg _ (by omega), if_pos (by omega), hdv 0 hl]
        have hc0 : 0 ≤ ixv (cs.getD 0 0) := by
          have := hall cs[0] (List.getElem_mem hl)
          simpa [List.getElem?_eq_getElem hl] using this
        rw [hexc_ixv _ hc0]
        intro e; exact hfirst ⟨e, by omega⟩)
    omega
  rw [hnd]
  apply List.ext_getElem
  · exact txl_len _ _ _ _ _
  · intro j h1 h2
    have hg := txl_get z0 z1 z2 z3 cs.length j h2 0
    rw [hdg _ (by omega), if_pos (by omega), hdv j h2] at hg
    have hcj : 0 ≤ ixv (cs.getD j 0) := by
      have := hall cs[j] (List.getElem_mem h2)
      simpa [List.getElem?_eq_getElem h2] using this
    rw [hexc_ixv _ hcj] at hg
    simpa [List.getElem?_eq_getElem h1, List.getElem?_eq_getElem h2] using hg
end Go.Proofs.Ytkpnjmfndgfogaa
