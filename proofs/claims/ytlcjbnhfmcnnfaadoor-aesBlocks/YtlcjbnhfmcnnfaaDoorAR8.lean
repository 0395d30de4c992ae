/- The reference's blocks, filled in. -/
import Derived.Test.YtlcjbnhfmcnnfaaDoorAR7
import Derived.Test.YtlcjbnhfmcnnfaaDoorAL2
namespace Go.Proofs.YtlcjbnhfmcnnfaaDoor
open Go.RowKit
set_option linter.unusedVariables false
set_option linter.unusedSimpArgs false
theorem sbT_l : sbT.length = 256 := by decide +kernel
/-- A block substituted and turned, byte by byte. -/
def sbF (a : List Nat) : Nat → List Nat := flB 16 fun k => sbT.getD (a.getD ((k + 4 * (k % 4)) % 16) 0) 0
theorem sbF_16 (a : List Nat) : sbF a 16 = subB a := flB_all 16 _
theorem mix4 (a b c d : Nat) (xs : List Nat) : mixB ([a, b, c, d].getD 0 0) ([a, b, c, d].getD 1 0) ([a, b, c, d].getD 2 0) ([a, b, c, d].getD 3 0) xs = mixB a b c d xs := rfl
theorem row_all {ks : List Nat} (hk : BY 16 ks) (i : Nat) (hi : i ≤ 10) : ∀ j v, (U8 (rky ks i))[j]? = some v → (U8 (kyX ks 10))[16 * i + j]? = some v :=
  row_at (by rw [(kyX_B hk 10).len]; omega) (rky_B hk i).len fun j hj => kyX_at hk hj 10 hi
theorem keyB {ks : List Nat} {v : Value} {w : World} (hin : IN w w.heap.size v ks) (hk : BY 16 ks) (hx : ∀ x ∈ ks, x < 256) : ∀ u y, Below w.heap.size w u → IN u u.heap.size y sbT → Calls Tryd.prog 25 #[y, v] u fun e u' => e = .returned (.tuple #[.agg (U8 (kyX ks 10)).toArray, .int .i64 0]) ∧ Below u.heap.size u u' := fun u y hB hy => by
  have h := cKeysBy ks y v u hy ((hin.below hB).mono hB.size) hx (by have := hk.len; omega)
  unfold keyV at h
  rw [if_pos hk.len] at h
  exact h
theorem cEncryptR (ks bs : List Nat) (v v2 : Value) (w : World) (hin : IN w w.heap.size v ks) (hin2 : IN w w.heap.size v2 bs) (hk : BY 16 ks) (hb : BY 16 bs) (hx : ∀ x ∈ ks, x < 256) :
    Calls Tryd.prog 16 #[v, v2] w fun e w' => ∃ v, e = .returned v ∧ PT 0 w.heap.size 16 (U8 (encB (rky ks) bs)) w' v ∧ Below w.heap.size w w' := by
  have R := rky_B hk
  have hE := fun j => encR_B R hb j
  have hin3 := hin2
  obtain ⟨sl, cap, gb, go, rfl, h1, h2, h3, h4⟩ := hin2
  rw [hb.len] at hin3 ⊢
  refine cEncR_s v (kyX ks 10) sbT sl cap (encR (rky ks) bs) (rky ks) (fun j => mixB 2 3 1 1 (subB (encR (rky ks) bs j))) (fun j => sbF (encR (rky ks) bs j)) w List.length_replicate (kyX_B hk 10).len sbT_l (fun u => cTable u) (keyB hin hk hx) (fun i => (R i).len) (row_all hk)
    (fun u hB => cXorR bs (rky ks 0) _ u ((hin3.below hB).mono hB.size) hb (R 0)) (fun j => (hE j).len) (fun j => (hE j).lt) (fun j => (mixB_B (subB_B (hE j))).len) (fun _ => rfl) (fun _ _ => rfl) (fun j => flB_len 16 _) (fun j hj u v hv => ?_) (fun j hj u v hv => ?_) (fun j hj u v hv => ?_)
  · rw [sbF_16] at hv
    have h := cMixR _ [2, 3, 1, 1] v u hv (subB_B (hE j)) (bd4b 2 3 1 1)
    rw [mix4] at h
    exact h
  · have h := cXorR _ (rky ks (j + 1)) v u hv (mixB_B (subB_B (hE j))) (R _)
    have e : encR (rky ks) bs (j + 1) = xorB (mixB 2 3 1 1 (subB (encR (rky ks) bs j))) (rky ks (j + 1)) := by rw [encR, rdE, if_pos (by omega)]
    rw [e]; exact h
  · rw [sbF_16] at hv
    have h := cXorR _ (rky ks (j + 1)) v u hv (subB_B (hE j)) (R _)
    have e : encR (rky ks) bs (j + 1) = xorB (subB (encR (rky ks) bs j)) (rky ks (j + 1)) := by rw [encR, rdE, if_neg (by omega)]
    rw [e]; exact h
theorem bkL_l (x : Nat) : (bkL x).length = 256 := (bkL_len x).len
theorem cDecryptR (ks bs : List Nat) (v v2 : Value) (w : World) (hin : IN w w.heap.size v ks) (hin2 : IN w w.heap.size v2 bs) (hk : BY 16 ks) (hb : BY 16 bs) (hx : ∀ x ∈ ks, x < 256) :
    Calls Tryd.prog 18 #[v, v2] w fun e w' => ∃ v, e = .returned v ∧ PT 0 w.heap.size 16 (U8 (decB (rky ks) bs)) w' v ∧ Below w.heap.size w w' := by
  have R := rky_B hk
  have hD := fun j => decR_B R hb j
  have hX := fun j => xorB_B (hD j) (R (10 - j))
  have hM := fun j => mixB_B (c0 := 14) (c1 := 11) (c2 := 13) (c3 := 9) (hX j)
  have hin3 := hin2
  obtain ⟨sl, cap, gb, go, rfl, h1, h2, h3, h4⟩ := hin2
  rw [hb.len] at hin3 ⊢
  refine cDecR_s v (kyX ks 10) sbT _ sl cap (decR (rky ks) bs) (rky ks) (fun j => xorB (decR (rky ks) bs j) (rky ks (10 - j))) (fun j => mixB 14 11 13 9 (xorB (decR (rky ks) bs j) (rky ks (10 - j)))) (fun j => if j = 0 then xorB (decR (rky ks) bs j) (rky ks (10 - j)) else mixB 14 11 13 9 (xorB (decR (rky ks) bs j) (rky ks (10 - j)))) bkL
    (fun j => scB (if j = 0 then xorB (decR (rky ks) bs j) (rky ks (10 - j)) else mixB 14 11 13 9 (xorB (decR (rky ks) bs j) (rky ks (10 - j))))) w List.length_replicate (kyX_B hk 10).len sbT_l (fun u => cTable u) (keyB hin hk hx) (fun i => (R i).len) (row_all hk) sbT_lt rfl (fun _ => rfl) bkL_l (fun j => (hD j).len) (fun j => (hX j).len) (fun j => (hM j).len) (fun j h => if_pos h) (fun j h => if_neg h) (fun j => ?_) (fun j => ?_) (fun _ => rfl) (fun j k => by rw [bkL_all]; rfl) (fun j => scB_len _) (fun j i hi u v hv => ?_) (fun j u v hv => ?_) (fun u v hv => cXorR _ (rky ks 0) v u hv (hD 10) (R 0)) (fun base u vs hB hs hv => ?_)
  · by_cases h : j = 0
    · simp only [if_pos h]; exact (hX j).lt
    · simp only [if_neg h]; exact (hM j).lt
  · simp only [scB_all]
    rw [decR, rdD]
    by_cases h : j = 0
    · rw [if_pos h, if_neg (by omega)]
    · rw [if_neg h, if_pos (by omega)]
  · have h := cXorR _ (rky ks i) v u hv (hD j) (R i)
    show Calls Tryd.prog 26 _ u fun e u' => ∃ v, e = .returned v ∧ PS u.heap.size 16 (U8 (xorB (decR (rky ks) bs j) (rky ks (10 - j)))) u' v ∧ Below u.heap.size u u'
    rw [show 10 - j = i by omega]; exact h
  · have h := cMixR _ [14, 11, 13, 9] v u hv (hX j) (bd4b 14 11 13 9)
    rw [mix4] at h
    exact h
  · have h := app_PZ (ty := 24) hs (by have := hb.len; omega) ((hin3.below hB).mono hB.size) hv
    rw [hb.len] at h
    exact h
/-- A block, or what is refused. -/
def PI (e : Int) (xs : List Nat) (u : World) (v : Value) : Prop := ∃ y, v = .tuple #[y, .int .i64 e] ∧ IN u u.heap.size y xs
def PI1 (xs : List Nat) (u : World) (y : Value) : Prop := IN u u.heap.size y xs
theorem PI.stab {e : Int} {xs : List Nat} {u v : World} {x : Value} (hB : Below u.heap.size u v) (h : PI e xs u x) : PI e xs v x := by
  obtain ⟨y, e1, h1⟩ := h
  exact ⟨y, e1, (h1.below hB).mono hB.size⟩
theorem PI1.stab {xs : List Nat} {u v : World} {x : Value} (hB : Below u.heap.size u v) (h : PI1 xs u x) : PI1 xs v x := (IN.below h hB).mono hB.size
theorem PI.fst {e : Int} {xs : List Nat} (u : World) (v : Value) (h : PI e xs u v) : ∃ cs y, v = .tuple cs ∧ cs[0]? = some y ∧ PI1 xs u y := by
  obtain ⟨y, rfl, h1⟩ := h
  exact ⟨_, _, rfl, rfl, h1⟩
theorem PI.snd {e : Int} {xs : List Nat} (u : World) (v : Value) (h : PI e xs u v) : ∃ cs, v = .tuple cs ∧ cs[1]? = some (.int .i64 e) := by
  obtain ⟨y, rfl, h1⟩ := h
  exact ⟨_, rfl, rfl⟩
theorem PT_PI {lo : Nat} {xs : List Nat} {u : World} {v : Value} (h : PT 0 lo 16 (U8 xs) u v) (hl : xs.length = 16) : PI 0 xs u v := by
  obtain ⟨y, rfl, h1⟩ := h
  exact ⟨y, rfl, PS_in (by rw [hl]; exact h1)⟩
theorem noB_PI (u : World) (h : 0 < u.heap.size) : PI 2 [] u noB := ⟨_, rfl, IN_nil u h⟩
/-- What the four answer: which. -/
def ansE (ks bs xs : List Nat) : Int := if ks.length = 16 ∧ bs.length = 16 then 0 else 2
def ansB (ks bs xs : List Nat) : List Nat := if ks.length = 16 ∧ bs.length = 16 then xs else []
theorem IN.pos {w : World} {m : Nat} {v : Value} {xs : List Nat} (h : IN w m v xs) (hm : m ≤ w.heap.size) : 0 < w.heap.size := by
  obtain ⟨_, _, gb, _, _, _, _, h3, _⟩ := h
  omega
theorem aEnc (ks bs : List Nat) (v v2 : Value) (w : World) (hV : GS6 w) (hin : IN w w.heap.size v ks) (hin2 : IN w w.heap.size v2 bs) (hx : ∀ x ∈ ks, x < 256) (hy : ∀ x ∈ bs, x < 256) :
    Calls Tryd.prog 15 #[v, v2] w fun e w' => ∃ v, e = .returned v ∧ PI (ansE ks bs []) (ansB ks bs (encB (rky ks) bs)) w' v ∧ Below w.heap.size w w' := by
  unfold ansE ansB
  by_cases h : ks.length = 16 ∧ bs.length = 16
  · rw [if_pos h, if_pos h]
    have hk := BY_of h.1 hx
    have hb := BY_of h.2 hy
    exact (cEncrypt ks bs v v2 w hV hin hin2 hk hb hx hy).mono fun e w' ⟨v, e1, h1, h2⟩ => ⟨v, e1, PT_PI h1 (encB_B (rky_B hk) hb).len, h2⟩
  · rw [if_neg h, if_neg h]
    exact (cEncrypt_n ks bs v v2 w hV hin hin2 h hx hy).mono fun e w' ⟨e1, h2⟩ => ⟨_, e1, noB_PI w' (Nat.lt_of_lt_of_le (hin.pos (Nat.le_refl _)) h2.size), h2⟩
theorem aDec (ks bs : List Nat) (v v2 : Value) (w : World) (hV : GS6 w) (hin : IN w w.heap.size v ks) (hin2 : IN w w.heap.size v2 bs) (hx : ∀ x ∈ ks, x < 256) (hy : ∀ x ∈ bs, x < 256) :
    Calls Tryd.prog 17 #[v, v2] w fun e w' => ∃ v, e = .returned v ∧ PI (ansE ks bs []) (ansB ks bs (decB (rky ks) bs)) w' v ∧ Below w.heap.size w w' := by
  unfold ansE ansB
  by_cases h : ks.length = 16 ∧ bs.length = 16
  · rw [if_pos h, if_pos h]
    have hk := BY_of h.1 hx
    have hb := BY_of h.2 hy
    exact (cDecrypt ks bs v v2 w hV hin hin2 hk hb hx hy).mono fun e w' ⟨v, e1, h1, h2⟩ => ⟨v, e1, PT_PI h1 (decB_B (rky_B hk) hb).len, h2⟩
  · rw [if_neg h, if_neg h]
    exact (cDecrypt_n ks bs v v2 w hV hin hin2 h hx hy).mono fun e w' ⟨e1, h2⟩ => ⟨_, e1, noB_PI w' (Nat.lt_of_lt_of_le (hin.pos (Nat.le_refl _)) h2.size), h2⟩
theorem refB {F : FuncId} {ks bs : List Nat} {v v2 : Value} {w : World} (hin : IN w w.heap.size v ks) (hin2 : IN w w.heap.size v2 bs) (hx : ∀ x ∈ ks, x < 256) (hl : ks.length ≤ 1000) (hn : ¬ (ks.length = 16 ∧ bs.length = 16))
    (hA : ∀ (vk vb : Value) (tt : List Nat) (w : World), z176.length = 176 → tt.length = 256 → Hid (∀ u, Calls Tryd.prog 12 #[] u fun e u' => ∃ v, e = .returned v ∧ PS u.heap.size 256 (U8 tt) u' v ∧ Below u.heap.size u u') → Hid (∀ u y, Below w.heap.size w u → IN u u.heap.size y tt → Calls Tryd.prog 25 #[y, vk] u fun e u' => e = .returned (.tuple #[.agg (U8 z176).toArray, .int .i64 2]) ∧ Below u.heap.size u u') → Calls Tryd.prog F #[vk, vb] w fun e w' => e = .returned (.tuple #[.slice none 0 0, .int .i64 2]) ∧ Below w.heap.size w w')
    (hB : ∀ (vk : Value) (kx tt : List Nat) (sl : Option Addr) (n cap : Nat) (w : World), z176.length = 176 → kx.length = 176 → decide ((n : Int) ≠ 16) = true → tt.length = 256 → Hid (∀ u, Calls Tryd.prog 12 #[] u fun e u' => ∃ v, e = .returned v ∧ PS u.heap.size 256 (U8 tt) u' v ∧ Below u.heap.size u u') → Hid (∀ u y, Below w.heap.size w u → IN u u.heap.size y tt → Calls Tryd.prog 25 #[y, vk] u fun e u' => e = .returned (.tuple #[.agg (U8 kx).toArray, .int .i64 0]) ∧ Below u.heap.size u u') → Calls Tryd.prog F #[vk, .slice sl n cap] w fun e w' => e = .returned (.tuple #[.slice none 0 0, .int .i64 2]) ∧ Below w.heap.size w w') :
    Calls Tryd.prog F #[v, v2] w fun e w' => e = .returned noB ∧ Below w.heap.size w w' := by
  by_cases h : ks.length = 16
  · have hk := BY_of h hx
    obtain ⟨sl, cap, gb, go, rfl, h1, h2, h3, h4⟩ := hin2
    have hb : ¬ bs.length = 16 := fun e => hn ⟨h, e⟩
    exact hB v (kyX ks 10) sbT sl _ cap w List.length_replicate (kyX_B hk 10).len (by simp; omega) sbT_l (fun u => cTable u) (keyB hin hk hx)
  · exact hA v v2 sbT w List.length_replicate sbT_l (fun u => cTable u) (fun u y hB hy => by
      have h' := cKeysBy ks y v u hy ((hin.below hB).mono hB.size) hx hl
      unfold keyV at h'
      rw [if_neg h] at h'
      exact h')
theorem aEncR (ks bs : List Nat) (v v2 : Value) (w : World) (hin : IN w w.heap.size v ks) (hin2 : IN w w.heap.size v2 bs) (hx : ∀ x ∈ ks, x < 256) (hy : ∀ x ∈ bs, x < 256) (hl : ks.length ≤ 1000) :
    Calls Tryd.prog 16 #[v, v2] w fun e w' => ∃ v, e = .returned v ∧ PI (ansE ks bs []) (ansB ks bs (encB (rky ks) bs)) w' v ∧ Below w.heap.size w w' := by
  unfold ansE ansB
  by_cases h : ks.length = 16 ∧ bs.length = 16
  · rw [if_pos h, if_pos h]
    have hk := BY_of h.1 hx
    have hb := BY_of h.2 hy
    exact (cEncryptR ks bs v v2 w hin hin2 hk hb hx).mono fun e w' ⟨v, e1, h1, h2⟩ => ⟨v, e1, PT_PI h1 (encB_B (rky_B hk) hb).len, h2⟩
  · rw [if_neg h, if_neg h]
    exact (refB hin hin2 hx hl h cEncR_k cEncR_b).mono fun e w' ⟨e1, h2⟩ => ⟨_, e1, noB_PI w' (Nat.lt_of_lt_of_le (hin.pos (Nat.le_refl _)) h2.size), h2⟩
theorem aDecR (ks bs : List Nat) (v v2 : Value) (w : World) (hin : IN w w.heap.size v ks) (hin2 : IN w w.heap.size v2 bs) (hx : ∀ x ∈ ks, x < 256) (hy : ∀ x ∈ bs, x < 256) (hl : ks.length ≤ 1000) :
    Calls Tryd.prog 18 #[v, v2] w fun e w' => ∃ v, e = .returned v ∧ PI (ansE ks bs []) (ansB ks bs (decB (rky ks) bs)) w' v ∧ Below w.heap.size w w' := by
  unfold ansE ansB
  by_cases h : ks.length = 16 ∧ bs.length = 16
  · rw [if_pos h, if_pos h]
    have hk := BY_of h.1 hx
    have hb := BY_of h.2 hy
    exact (cDecryptR ks bs v v2 w hin hin2 hk hb hx).mono fun e w' ⟨v, e1, h1, h2⟩ => ⟨v, e1, PT_PI h1 (decB_B (rky_B hk) hb).len, h2⟩
  · rw [if_neg h, if_neg h]
    exact (refB hin hin2 hx hl h cDecR_k cDecR_b).mono fun e w' ⟨e1, h2⟩ => ⟨_, e1, noB_PI w' (Nat.lt_of_lt_of_le (hin.pos (Nat.le_refl _)) h2.size), h2⟩
end Go.Proofs.YtlcjbnhfmcnnfaaDoor
