/- The reference's block: the numbers. -/
import Derived.Test.YtlcjbnhfmcnnfaaDoorSH9
import Derived.Test.YtlcjbnhfmcnnfaaDoorGA
namespace Go.Proofs.YtlcjbnhfmcnnfaaDoor
open Go.RowKit
set_option linter.unusedVariables false
set_option linter.unusedSimpArgs false
theorem rotr_add (x n : Nat) (hx : x < 4294967296) (hn : n ≤ 32) : x >>> n + (x <<< (32 - n)) % 4294967296 = rotr x n := by
  have e1 : (x <<< (32 - n)) % 4294967296 = (x % 2 ^ n) <<< (32 - n) := by
    rw [Nat.shiftLeft_eq, Nat.shiftLeft_eq]
    have e : (4294967296 : Nat) = 2 ^ n * 2 ^ (32 - n) := by rw [← Nat.pow_add, show n + (32 - n) = 32 by omega]
    rw [e, Nat.mul_mod_mul_right]
  have e2 : x >>> n < 2 ^ (32 - n) := by
    rw [Nat.shiftRight_eq_div_pow, Nat.div_lt_iff_lt_mul (Nat.two_pow_pos n), ← Nat.pow_add, show 32 - n + n = 32 by omega]
    exact hx
  unfold rotr
  rw [e1, ← Nat.shiftLeft_add_eq_or_of_lt e2, Nat.add_comm]
theorem sub_xor {e : Nat} (h : e < 4294967296) : 4294967295 - e = 4294967295 ^^^ e := by
  have h1 := BitVec.toNat_not (x := BitVec.ofNat 32 e)
  have h2 : BitVec.allOnes 32 ^^^ BitVec.ofNat 32 e = ~~~(BitVec.ofNat 32 e) := by ext i hi; simp only [BitVec.getElem_xor, BitVec.getElem_allOnes, BitVec.getElem_not, Bool.true_xor]
  have h3 := congrArg BitVec.toNat h2
  rw [BitVec.toNat_xor, h1, BitVec.toNat_allOnes, BitVec.toNat_ofNat, Nat.mod_eq_of_lt (show e < 2 ^ 32 from h)] at h3
  exact h3.symm
theorem choice_is {e f g : Nat} (h : e < 4294967296) : (e &&& f) ^^^ ((4294967295 - e) &&& g) = chN e f g := by unfold chN; rw [sub_xor h]
/-- A word of the block. -/
def wd (bs : List Nat) (i : Nat) : Nat := bs.getD (4 * i) 0 * 16777216 + bs.getD (4 * i + 1) 0 * 65536 + bs.getD (4 * i + 2) 0 * 256 + bs.getD (4 * i + 3) 0
theorem spA_keep (bs : List Nat) (i k : Nat) (h : ¬ k / 4 = i) : (spA bs (k + 1)).getD i 0 = (spA bs k).getD i 0 := by
  rw [spA, getD_set, if_neg (fun h' => h h'.1)]
theorem spA_new (bs : List Nat) (i k : Nat) (hb : ∀ j, bs.getD j 0 < 256) (h : k / 4 = i) (hi : i < 64) : (spA bs (k + 1)).getD i 0 = ((spA bs k).getD i 0 <<< 8) % 4294967296 ||| bs.getD k 0 := by
  rw [spA, getD_set, if_pos ⟨h, by rw [(spA_W bs hb k).len]; exact hi⟩, h]
theorem spA_zero (bs : List Nat) (i : Nat) : ∀ k, k ≤ 4 * i → (spA bs k).getD i 0 = 0
  | 0, _ => by
    show z64.getD i 0 = 0
    unfold z64; rw [List.getD_eq_getElem?_getD, List.getElem?_replicate]; split <;> rfl
  | k + 1, h => by rw [spA_keep bs i k (by omega)]; exact spA_zero bs i k (by omega)
theorem spA_after (bs : List Nat) (i : Nat) : ∀ d, (spA bs (4 * i + 4 + d)).getD i 0 = (spA bs (4 * i + 4)).getD i 0
  | 0 => rfl
  | d + 1 => by rw [show 4 * i + 4 + (d + 1) = (4 * i + 4 + d) + 1 by omega, spA_keep bs i _ (by omega)]; exact spA_after bs i d
theorem shl_or (x b : Nat) (hx : x < 16777216) (hb : b < 256) : (x <<< 8) % 4294967296 ||| b = x * 256 + b := by
  rw [Nat.mod_eq_of_lt (by rw [Nat.shiftLeft_eq]; omega), ← Nat.shiftLeft_add_eq_or_of_lt (show b < 2 ^ 8 from hb), Nat.shiftLeft_eq]
theorem spA_wd (bs : List Nat) (i : Nat) (hb : ∀ j, bs.getD j 0 < 256) (hi : i < 16) : (spA bs 64).getD i 0 = wd bs i := by
  have e := spA_after bs i (60 - 4 * i)
  rw [show 4 * i + 4 + (60 - 4 * i) = 64 by omega] at e
  have h0 := spA_zero bs i (4 * i) (Nat.le_refl _)
  have h1 := spA_new bs i (4 * i) hb (by omega) (by omega)
  have h2 := spA_new bs i (4 * i + 1) hb (by omega) (by omega)
  have h3 := spA_new bs i (4 * i + 2) hb (by omega) (by omega)
  have h4 := spA_new bs i (4 * i + 3) hb (by omega) (by omega)
  have b0 := hb (4 * i)
  have b1 := hb (4 * i + 1)
  have b2 := hb (4 * i + 2)
  have b3 := hb (4 * i + 3)
  unfold wd
  rw [h0, shl_or 0 _ (by omega) b0] at h1
  rw [h1, shl_or _ _ (by omega) b1] at h2
  rw [h2, shl_or _ _ (by omega) b2] at h3
  rw [h3, shl_or _ _ (by omega) b3] at h4
  rw [e, h4]
  omega
theorem spB_keep (ws : List Nat) (k j : Nat) (h : j < k + 16) : ∀ d, (spB ws (k + d)).getD j 0 = (spB ws k).getD j 0
  | 0 => rfl
  | d + 1 => by rw [show k + (d + 1) = (k + d) + 1 by omega, spB, getD_set, if_neg (by omega), spB_keep ws k j h d]
theorem spread_wd (bs : List Nat) (i : Nat) (hb : ∀ j, bs.getD j 0 < 256) (hi : i < 16) : (spread bs).getD i 0 = wd bs i := by
  have := spB_keep (spA bs 64) 0 i (by omega) 48
  rw [Nat.zero_add] at this
  unfold spread
  rw [this]; exact spA_wd bs i hb hi
theorem spread_sp (bs : List Nat) (t : Nat) (hb : ∀ j, bs.getD j 0 < 256) (h1 : 16 ≤ t) (h2 : t < 64) : (spread bs).getD t 0 = spS (spread bs) t := by
  have hW := spA_W bs hb 64
  unfold spread
  obtain ⟨ws, ews⟩ : ∃ ws, spA bs 64 = ws := ⟨_, rfl⟩
  rw [ews] at hW ⊢
  obtain ⟨k, rfl⟩ : ∃ k, t = k + 16 := ⟨t - 16, by omega⟩
  have e1 := spB_keep ws (k + 1) (k + 16) (by omega) (47 - k)
  rw [show k + 1 + (47 - k) = 48 by omega] at e1
  have hk : ∀ j, j < k + 16 → (spB ws 48).getD j 0 = (spB ws k).getD j 0 := fun j hj => by
    have := spB_keep ws k j hj (48 - k)
    rwa [show k + (48 - k) = 48 by omega] at this
  rw [e1, spB, getD_set, if_pos ⟨rfl, by rw [(spB_W hW k).len]; exact h2⟩]
  unfold spS
  rw [hk (k + 16 - 2) (by omega), hk (k + 16 - 7) (by omega), hk (k + 16 - 15) (by omega), hk (k + 16 - 16) (by omega)]
theorem mod4 (a b c d : Nat) : (a + b + c + d) % 4294967296 = (((a + b) % 4294967296 + c) % 4294967296 + d) % 4294967296 := by omega
theorem mod5 (a b c d e : Nat) : (a + b + c + d + e) % 4294967296 = ((((a + b) % 4294967296 + c) % 4294967296 + d) % 4294967296 + e) % 4294967296 := by omega
/-- The sums, as the reference puts them into noughts. -/
def sms0 (ss vs : List Nat) : Nat → List Nat
  | 0 => z8
  | i + 1 => (sms0 ss vs i).set i ((vs.getD i 0 + ss.getD i 0) % 4294967296)
theorem z8_W : WW 8 z8 := ⟨rfl, fun j => by
  unfold z8; rw [List.getD_eq_getElem?_getD, List.getElem?_replicate]; split <;> decide⟩
theorem sms0_W (ss vs : List Nat) : ∀ i, WW 8 (sms0 ss vs i)
  | 0 => z8_W
  | i + 1 => (sms0_W ss vs i).set _ _ (Nat.mod_lt _ (by decide))
theorem sms0_get (ss vs : List Nat) (j : Nat) (hj : j < 8) : ∀ i, (sms0 ss vs i).getD j 0 = if j < i then (vs.getD j 0 + ss.getD j 0) % 4294967296 else 0
  | 0 => by
    show z8.getD j 0 = _
    rw [if_neg (by omega)]
    unfold z8; rw [List.getD_eq_getElem?_getD, List.getElem?_replicate]; split <;> rfl
  | i + 1 => by
    rw [sms0, getD_set, (sms0_W ss vs i).len]
    by_cases h : i = j
    · subst h; rw [if_pos ⟨rfl, hj⟩, if_pos (by omega)]
    · rw [if_neg (fun h' => h h'.1), sms0_get ss vs j hj i]
      by_cases h2 : j < i
      · rw [if_pos h2, if_pos (by omega)]
      · rw [if_neg h2, if_neg (by omega)]
theorem sms_get {ss : List Nat} (hs : WW 8 ss) (vs : List Nat) (j : Nat) (hj : j < 8) : ∀ i, (sms ss vs i).getD j 0 = if j < i then (ss.getD j 0 + vs.getD j 0) % 4294967296 else ss.getD j 0
  | 0 => by rw [if_neg (by omega)]; rfl
  | i + 1 => by
    rw [sms, getD_set, (sms_W hs vs i).len]
    by_cases h : i = j
    · subst h; rw [if_pos ⟨rfl, hj⟩, if_pos (by omega), sms_get hs vs i hj i, if_neg (by omega)]
    · rw [if_neg (fun h' => h h'.1), sms_get hs vs j hj i]
      by_cases h2 : j < i
      · rw [if_pos h2, if_pos (by omega)]
      · rw [if_neg h2, if_neg (by omega)]
theorem sms0_is {ss : List Nat} (hs : WW 8 ss) (vs : List Nat) : sms0 ss vs 8 = sms ss vs 8 := by
  refine List.ext_getElem (by rw [(sms0_W ss vs 8).len, (sms_W hs vs 8).len]) fun j a b => ?_
  have hj : j < 8 := by rw [(sms0_W ss vs 8).len] at a; exact a
  have e1 := sms0_get ss vs j hj 8
  have e2 := sms_get hs vs j hj 8
  rw [if_pos hj] at e1 e2
  rw [List.getD_eq_getElem?_getD, List.getElem?_eq_getElem a] at e1
  rw [List.getD_eq_getElem?_getD, List.getElem?_eq_getElem b] at e2
  simp only [Option.getD_some] at e1 e2
  rw [e1, e2, Nat.add_comm]
def U64 (l : List Nat) : List Value := l.map fun (x : Nat) => .int .u64 (x : Int)
theorem U64_len (l : List Nat) : (U64 l).length = l.length := List.length_map ..
theorem U64_get (l : List Nat) (j : Nat) (h : j < l.length) : (U64 l)[j]? = some (.int .u64 ((l.getD j 0 : Nat) : Int)) := by simp [U64, List.getElem?_eq_getElem h]
theorem U64_app (a b : List Nat) : U64 (a ++ b) = U64 a ++ U64 b := by simp [U64]
theorem U64_mem {l : List Nat} : ∀ v ∈ U64 l, v.oneCell' = true := fun v hv => by
  obtain ⟨x, _, rfl⟩ := List.mem_map.1 hv; rfl
theorem U64_tk {S : List Nat} {n j : Nat} {zs : List Value} (hj : j < n) (hn : n ≤ S.length) : (U64 (S.take n) ++ zs)[j]? = some (.int .u64 ((S.getD j 0 : Nat) : Int)) := by
  have hl : (S.take n).length = n := by rw [List.length_take]; omega
  rw [List.getElem?_append_left (by rw [U64_len, hl]; exact hj), U64_get _ j (by omega), List.getD_eq_getElem?_getD, List.getD_eq_getElem?_getD, List.getElem?_take_of_lt hj]
theorem U64_one {S : List Nat} {n : Nat} (hn : n < S.length) : U64 (S.take n) ++ [.int .u64 ((S.getD n 0 : Nat) : Int)] = U64 (S.take (n + 1)) := by
  have e : S.getD n 0 = S[n] := by rw [List.getD_eq_getElem?_getD, List.getElem?_eq_getElem hn]; rfl
  rw [List.take_succ_eq_append_getElem hn, U64_app, e]; rfl
theorem P1.nwu {news : List Value} (u : World) (y : Value) (h : P1 news u y) : NW 1 news u y := by
  obtain ⟨ad, c, e, h1⟩ := P1.at u y h
  exact ⟨_, c, e, .inr ⟨ad, rfl, h1⟩⟩
theorem one_u {x : Nat} : ∀ v ∈ [Value.int .u64 (x : Int)], v.oneCell' = true := fun v hv => by simp at hv; subst hv; rfl
theorem bit_and64 (a b : Nat) (ha : a < M64) (hb : b < M64) : bits .and .u64 a b = ((a &&& b : Nat) : Int) := (bits_nat .u64 64 (by decide) wraps_u64 a b ha hb).1
theorem bit_xor64 (a b : Nat) (ha : a < M64) (hb : b < M64) : bits .xor .u64 a b = ((a ^^^ b : Nat) : Int) := by
  have ha' : a % 2 ^ 64 = a := Nat.mod_eq_of_lt ha
  have hb' : b % 2 ^ 64 = b := Nat.mod_eq_of_lt hb
  have h : (BitVec.ofNat 64 a ^^^ BitVec.ofNat 64 b).toNat = a ^^^ b := by rw [BitVec.toNat_xor, BitVec.toNat_ofNat, BitVec.toNat_ofNat, ha', hb']
  show IntKind.u64.wrap ((BitVec.ofInt 64 (a : Int) ^^^ BitVec.ofInt 64 (b : Int)).toNat : Int) = _
  rw [BitVec.ofInt_natCast, BitVec.ofInt_natCast, h]
  exact wraps_u64 _ (Int.natCast_nonneg _) (by exact_mod_cast Nat.xor_lt_two_pow (n := 64) ha hb)
end Go.Proofs.YtlcjbnhfmcnnfaaDoor
