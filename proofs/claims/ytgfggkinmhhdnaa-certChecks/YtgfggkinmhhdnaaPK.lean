import Derived.Test.YtgfggkinmhhdnaaRC
import Derived.Test.YtgfggkinmhhdnaaRG
import Derived.Test.YtgfggkinmhhdnaaN1
import Derived.Test.YtgfggkinmhhdnaaMR1
/- Plain numbers: primes, Fermat, Pocklington. -/
namespace Go.Proofs.Ytgfggkinmhhdnaa
set_option linter.unusedVariables false
/-- A prime. -/
def Pr (p : Nat) : Prop := 2 ≤ p ∧ ∀ d, d ∣ p → d = 1 ∨ d = p
theorem Pr.cop {p a : Nat} (h : Pr p) (ha : ¬ p ∣ a) : Nat.gcd p a = 1 := by
  rcases h.2 _ (Nat.gcd_dvd_left p a) with e | e
  · exact e
  · exact absurd (by rw [← e]; exact Nat.gcd_dvd_right p a) ha
theorem Pr.dvd {p a b : Nat} (h : Pr p) (hd : p ∣ a * b) : p ∣ a ∨ p ∣ b := by
  by_cases ha : p ∣ a
  · exact .inl ha
  · exact .inr (Nat.Coprime.dvd_of_dvd_mul_left (show Nat.Coprime p a from h.cop ha) hd)
theorem Pr.ex : ∀ (n d : Nat), d ≤ n → 2 ≤ d → ∃ p, Pr p ∧ p ∣ d
  | 0, d, h, h2 => by omega
  | n + 1, d, h, h2 => by
    by_cases hp : Pr d
    · exact ⟨d, hp, Nat.dvd_refl d⟩
    · have : ∃ e, e ∣ d ∧ e ≠ 1 ∧ e ≠ d := Classical.byContradiction fun hn => hp ⟨h2, fun e he => by
        by_cases e1 : e = 1
        · exact .inl e1
        · by_cases e2 : e = d
          · exact .inr e2
          · exact absurd ⟨e, he, e1, e2⟩ hn⟩
      obtain ⟨e, he, e1, e2⟩ := this
      have hpos : 0 < e := Nat.pos_of_dvd_of_pos he (by omega)
      have hle : e ≤ d := Nat.le_of_dvd (by omega) he
      obtain ⟨p, hp, hd⟩ := Pr.ex n e (by omega) (by omega)
      exact ⟨p, hp, Nat.dvd_trans hd he⟩
def prodN : List Nat → Nat
  | [] => 1
  | a :: r => a * prodN r
theorem prod_erase {a : Nat} : ∀ {l : List Nat}, a ∈ l → prodN l = a * prodN (l.erase a)
  | [], h => by cases h
  | b :: r, h => by
    by_cases e : b = a
    · subst e; simp [prodN]
    · have hm : a ∈ r := by
        rcases List.mem_cons.1 h with h | h
        · exact absurd h.symm e
        · exact h
      rw [List.erase_cons_tail (by simpa using e), prodN, prodN, prod_erase hm]
      rw [← Nat.mul_assoc, Nat.mul_comm b a, Nat.mul_assoc]
theorem prod_same : ∀ {l m : List Nat}, l.Nodup → (∀ x ∈ l, x ∈ m) → l.length = m.length → prodN l = prodN m
  | [], m, _, _, h => by
    have : m = [] := List.eq_nil_of_length_eq_zero h.symm
    rw [this]
  | a :: t, m, hn, hs, hl => by
    rw [List.nodup_cons] at hn
    have ha := hs a List.mem_cons_self
    rw [prod_erase ha, prodN, prod_same (l := t) (m := m.erase a) hn.2
      (fun x hx => (List.mem_erase_of_ne (fun e => hn.1 (by rw [← e]; exact hx))).2 (hs x (List.mem_cons_of_mem _ hx)))
      (by rw [List.length_erase_of_mem ha, ← hl]; simp)]
theorem prod_map (b p : Nat) : ∀ l : List Nat, prodN (l.map fun i => b * i % p) % p = b ^ l.length * prodN l % p
  | [] => by simp [prodN]
  | a :: r => by
    rw [List.map_cons, prodN, Nat.mul_mod, prod_map b p r, Nat.mod_mod, ← Nat.mul_mod, prodN, List.length_cons, Nat.pow_succ]
    congr 1
    rw [Nat.mul_comm (b ^ r.length) b, Nat.mul_assoc, Nat.mul_assoc]
    congr 1
    rw [← Nat.mul_assoc, ← Nat.mul_assoc, Nat.mul_comm a (b ^ r.length)]
theorem prod_not {p : Nat} (hp : Pr p) : ∀ {l : List Nat}, (∀ x ∈ l, 0 < x ∧ x < p) → ¬ p ∣ prodN l
  | [], _, h => by
    have := Nat.le_of_dvd (Nat.one_pos) h
    have := hp.1
    omega
  | a :: r, h, hd => by
    rcases hp.dvd hd with h1 | h1
    · have := Nat.le_of_dvd (h a List.mem_cons_self).1 h1
      have := (h a List.mem_cons_self).2
      omega
    · exact prod_not hp (fun x hx => h x (List.mem_cons_of_mem _ hx)) h1
/-- What differs by a multiple. -/
theorem dvd_of_mod {p a b : Nat} (h : a % p = b % p) : p ∣ a - b :=
  Nat.dvd_of_mod_eq_zero (Nat.sub_mod_eq_zero_of_mod_eq h)
theorem mod_of_dvd {p a b : Nat} (hab : b ≤ a) (h : p ∣ a - b) : a % p = b % p := by
  obtain ⟨c, hc⟩ := h
  have : a = b + p * c := by omega
  rw [this, Nat.add_mul_mod_self_left]
/-- A prime's multiples: what is not divided may be left away. -/
theorem Pr.cancel {p c a b : Nat} (hp : Pr p) (hc : ¬ p ∣ c) (h : c * a % p = c * b % p) : a % p = b % p := by
  rcases Nat.le_total b a with hab | hab
  · have := dvd_of_mod h
    rw [← Nat.mul_sub] at this
    exact mod_of_dvd hab ((hp.dvd this).resolve_left hc)
  · have := dvd_of_mod h.symm
    rw [← Nat.mul_sub] at this
    exact (mod_of_dvd hab ((hp.dvd this).resolve_left hc)).symm
/-- Fermat. -/
theorem Pr.fermat {p b : Nat} (hp : Pr p) (hb : ¬ p ∣ b) : b ^ (p - 1) % p = 1 := by
  have h2 := hp.1
  have hm : ∀ x, x ∈ List.range' 1 (p - 1) ↔ 0 < x ∧ x < p := fun x => by
    rw [List.mem_range'_1]; omega
  have hin : ∀ x ∈ (List.range' 1 (p - 1)).map (fun i => b * i % p), x ∈ List.range' 1 (p - 1) := fun x hx => by
    obtain ⟨i, hi, rfl⟩ := List.mem_map.1 hx
    have hi := (hm i).1 hi
    refine (hm _).2 ⟨Nat.pos_of_ne_zero fun e => ?_, Nat.mod_lt _ (by omega)⟩
    rcases hp.dvd (Nat.dvd_of_mod_eq_zero e) with h | h
    · exact hb h
    · have := Nat.le_of_dvd hi.1 h
      omega
  have hnd : ((List.range' 1 (p - 1)).map (fun i => b * i % p)).Nodup := by
    refine List.Pairwise.map _ (R := fun x y => (0 < x ∧ x < p) ∧ (0 < y ∧ y < p) ∧ x ≠ y) (fun x y h e => ?_) ?_
    · have := hp.cancel hb e
      rw [Nat.mod_eq_of_lt h.1.2, Nat.mod_eq_of_lt h.2.1.2] at this
      exact h.2.2 this
    · refine List.Pairwise.imp_of_mem (fun {x y} hx hy h => ⟨(hm x).1 hx, (hm y).1 hy, h⟩) (List.nodup_range' (step := 1) (by omega))
  have e := prod_map b p (List.range' 1 (p - 1))
  rw [prod_same hnd hin (by simp), List.length_range', Nat.mul_comm] at e
  have := hp.cancel (c := prodN (List.range' 1 (p - 1))) (a := 1) (b := b ^ (p - 1))
    (prod_not hp fun x hx => (hm x).1 hx) (by rw [Nat.mul_one]; exact e)
  rw [← this, Nat.mod_eq_of_lt h2]
theorem pow_one_mod {b m p : Nat} (h : b ^ m % p = 1) (k : Nat) : b ^ (m * k) % p = 1 % p := by
  rw [Nat.pow_mul, Nat.pow_mod, h, Nat.one_pow]
/-- Of two powers that are 1, the one of the common divisor, too. -/
theorem pow_gcd {b p : Nat} (h2 : 2 ≤ p) : ∀ m n, b ^ m % p = 1 → b ^ n % p = 1 → b ^ Nat.gcd m n % p = 1 := by
  intro m n
  induction m, n using Nat.gcd.induction with
  | H0 n => intro _ h; rw [Nat.gcd_zero_left]; exact h
  | H1 m n hm ih =>
    intro h1 h3
    rw [Nat.gcd_rec]
    refine ih ?_ h1
    have := h3
    rw [← Nat.div_add_mod n m, Nat.pow_add, Nat.mul_mod, pow_one_mod h1, Nat.mod_eq_of_lt h2, Nat.one_mul, Nat.mod_mod] at this
    exact this
/-- Pocklington: what divides N by a prime. -/
theorem pock1 {N F q A r : Nat} (hF : Pr F) (hN : N = F * q + 1) (hq : q < F)
    (h1 : A ^ (N - 1) % N = 1) (hg : ∀ d, d ∣ N → A ^ q % d = 1 % d → d = 1) (hr : Pr r) (hd : r ∣ N) : F < r := by
  have h2 := hr.1
  have hq1 : N - 1 = q * F := by rw [hN, Nat.add_sub_cancel, Nat.mul_comm]
  have m1 : 1 % r = 1 := Nat.mod_eq_of_lt h2
  have e1 : (A ^ q) ^ F % r = 1 := by
    rw [← Nat.pow_mul, ← hq1, ← Nat.mod_mod_of_dvd _ hd, h1, m1]
  have hnd : ¬ r ∣ A ^ q := fun h => by
    have h : A ^ q % r = 0 := Nat.mod_eq_zero_of_dvd h
    rw [Nat.pow_mod, h, Nat.zero_pow (by have := hF.1; omega)] at e1
    simp at e1
  have e2 := hr.fermat hnd
  have e3 := pow_gcd h2 _ _ e1 e2
  rcases hF.2 _ (Nat.gcd_dvd_left F (r - 1)) with g | g
  · rw [g, Nat.pow_one] at e3
    have := hg r hd (by rw [e3, m1])
    omega
  · have := Nat.le_of_dvd (by omega) (g ▸ Nat.gcd_dvd_right F (r - 1))
    omega
/-- Pocklington. -/
theorem pock {N F q A : Nat} (hF : Pr F) (hN : N = F * q + 1) (h3 : 2 ≤ N) (hq : q < F)
    (h1 : A ^ (N - 1) % N = 1) (hg : ∀ d, d ∣ N → A ^ q % d = 1 % d → d = 1) : Pr N := by
  have hF2 := hF.1
  have big : ∀ d, d ∣ N → 2 ≤ d → F < d := fun d hd hd2 => by
    obtain ⟨r, hr, hrd⟩ := Pr.ex d d (Nat.le_refl d) hd2
    have := pock1 hF hN hq h1 hg hr (Nat.dvd_trans hrd hd)
    exact Nat.lt_of_lt_of_le this (Nat.le_of_dvd (by omega) hrd)
  refine ⟨h3, fun d hd => ?_⟩
  obtain ⟨e, he⟩ := hd
  by_cases d1 : d = 1
  · exact .inl d1
  refine .inr ?_
  by_cases e1 : e = 1
  · rw [he, e1, Nat.mul_one]
  exfalso
  have d0 : d ≠ 0 := fun h => by rw [h, Nat.zero_mul] at he; omega
  have e0 : e ≠ 0 := fun h => by rw [h, Nat.mul_zero] at he; omega
  have a := big d ⟨e, he⟩ (by omega)
  have b := big e ⟨d, by rw [Nat.mul_comm]; exact he⟩ (by omega)
  have c : (F + 1) * (F + 1) ≤ N := by rw [he]; exact Nat.mul_le_mul a b
  have c2 : F * q ≤ F * F := Nat.mul_le_mul_left F (by omega)
  rw [Nat.add_mul, Nat.mul_add] at c
  omega
/-- The demand of a step, as the common divisor says it. -/
theorem gcd_demand {N q A x : Nat} (hx : x < N) (hs : (x + 1) % N = A ^ q % N) (hg : Nat.gcd x N = 1) :
    ∀ d, d ∣ N → A ^ q % d = 1 % d → d = 1 := by
  intro d hd e
  have : (x + 1) % d = 1 % d := by rw [← Nat.mod_mod_of_dvd _ hd, hs, Nat.mod_mod_of_dvd _ hd, e]
  have h := dvd_of_mod this
  rw [Nat.add_sub_cancel] at h
  exact Nat.eq_one_of_dvd_one (hg ▸ Nat.dvd_gcd h hd)
/-- A small prime, as it is told by trial. -/
theorem trial {n : Nat} (h2 : 2 ≤ n) (h : ∀ d, 2 ≤ d → d * d ≤ n → n % d ≠ 0) : Pr n := by
  refine ⟨h2, fun d hd => ?_⟩
  obtain ⟨e, he⟩ := hd
  by_cases d1 : d = 1
  · exact .inl d1
  refine .inr ?_
  by_cases e1 : e = 1
  · rw [he, e1, Nat.mul_one]
  exfalso
  have d0 : d ≠ 0 := fun h => by rw [h, Nat.zero_mul] at he; omega
  have e0 : e ≠ 0 := fun h => by rw [h, Nat.mul_zero] at he; omega
  rcases Nat.le_total d e with hl | hl
  · exact h d (by omega) (by rw [he]; exact Nat.mul_le_mul_left d hl) (by rw [he, Nat.mul_mod_right])
  · exact h e (by omega) (by rw [he]; exact Nat.mul_le_mul_right e hl) (by rw [he, Nat.mul_mod_left])
end Go.Proofs.Ytgfggkinmhhdnaa
/- Primes that are certified: Small. -/
namespace Go.Proofs.Ytgfggkinmhhdnaa
open Go.RowKit
set_option linter.unusedVariables false
set_option linter.unusedSimpArgs false
theorem nCompare (n m : Int) (w : World) (hn : In n) (hm : In m) : Calls Try.prog 30 #[NV n, NV m] w fun e w' => e = .returned (.int .i64 (cmpI n m)) ∧ Below w.heap.size w w' := by
  have k := Compare_any _ _ _ _ _ _ _ _ w (W_D0 n) (W_D1 n) (W_D2 n) (W_D3 n) (W_D0 m) (W_D1 m) (W_D2 m) (W_D3 m)
  simp only [V_In hn, V_In hm] at k
  exact k
theorem LN_c0 {x : Int} (h : D0 x = x) : (LN x)[0]? = some (.int .u64 x) := by simp [LN, h]
theorem ent_limb_Compare (vs : Array Value) (w : World) : (callFunc 30 vs).run Try.prog w = .ok (.enter 30 vs) w := by kernel_rfl
theorem leq_u (p q : Operand) (x y : Int) (b : Bool) (w : World) (h : decide (x ≤ y) = b) : (do eqGuard .leq 22 p q (.int .u64 x) (.int .u64 y); binOp .leq 22 (.int .u64 x) (.int .u64 y) : Sem Value).run Try.prog w = .ok (.bool b) w := by
  subst h; go_simp
theorem eql_u (T : TypeId) (p q : Operand) (x y : Int) (b : Bool) (w : World) (h : (x == y) = b) : (do eqGuard .eql T p q (.int .u64 x) (.int .u64 y); binOp .eql T (.int .u64 x) (.int .u64 y) : Sem Value).run Try.prog w = .ok (.bool b) w := by
  subst h; go_simp
theorem rem_u (p q : Operand) (x y z : Int) (w : World) (h0 : 0 ≤ x) (hx : x < 18446744073709551616) (h1 : 0 < y) (h : x % y = z) : (do eqGuard .rem 22 p q (.int .u64 x) (.int .u64 y); binOp .rem 22 (.int .u64 x) (.int .u64 y) : Sem Value).run Try.prog w = .ok (.int .u64 z) w := by
  have hy : y ≠ 0 := by omega
  have hb : (y == 0) = false := by simp [hy]
  have e : x.tmod y = z := by rw [Int.tmod_eq_emod_of_nonneg h0, h]
  have z0 : 0 ≤ z := by rw [← h]; exact Int.emod_nonneg x hy
  have z1 : z ≤ x := by
    have a := Int.mul_ediv_add_emod x y
    have b : 0 ≤ y * (x / y) := Int.mul_nonneg (by omega) (Int.ediv_nonneg h0 (by omega))
    omega
  have wz : IntKind.u64.wrap z = z := by simp [IntKind.wrap, IntKind.signed, IntKind.bits]; omega
  go_simp
/-- A small prime, by trial. -/
def Sm (x : Int) : Prop := 2 ≤ x ∧ x < 1048576 ∧ ∀ d : Int, 2 ≤ d → d * d ≤ x → x % d ≠ 0
open Classical in
noncomputable def smB (x : Int) : Bool := decide (Sm x)
theorem smB_t {x : Int} (h : Sm x) : smB x = true := by simp [smB, h]
theorem smB_f {x : Int} (h : ¬ Sm x) : smB x = false := by simp [smB, h]
theorem Sm.pr {x : Int} (h : Sm x) : Pr x.toNat := trial (by have := h.1; omega) fun d hd hq he => h.2.2 d (by omega) (by
    have := h.1
    have e : ((d * d : Nat) : Int) ≤ ((x.toNat : Nat) : Int) := Int.ofNat_le.2 hq
    rw [Int.toNat_of_nonneg (by omega)] at e
    rw [Int.natCast_mul] at e; exact e) (by
    have := h.1
    have e : ((x.toNat % d : Nat) : Int) = 0 := by rw [he]; rfl
    rw [Int.natCast_emod, Int.toNat_of_nonneg (by omega)] at e; exact e)
set_option maxRecDepth 100000 in
set_option maxHeartbeats 4000000 in
theorem cSmall_lo (x : Int) (w : World) (hx : In x) (h : x < 2) :
    Calls Try.prog 9 #[NV x] w fun e w' => e = .returned (.bool (smB x)) ∧ Below w.heap.size w w' := by
  go_enter Try.func9, Try.ntmps9
  go_upto_region 1 with fail
  generalize hC : (w.alloc (.cells (LN x : List Value).toArray 24)) = v0 at *
  have HB0 : Below w.heap.size w v0 := by rw [← hC]; exact balloc (bself w) _
  have K0 : Bk w.heap.size v0 [(true, w.heap.size, LN x)] := by rw [← hC]; exact (Bk.nil _ w).ad
  clear hC
  have hc1 : decide (cmpI x 2 < 0) = true := by rw [cmp_lt h]; rfl
  refine rgD K0 HB0 HB0.size [] [] [(0, 4, NV x), (1, 5, NV 2), (2, 6, .int .i64 (cmpI x 2)), (3, 7, .bool true), (4, 8, .bool true), (5, 9, undef), (6, 10, undef), (7, 11, undef), (8, 12, undef), (9, 13, (Go.Value.bool Bool.true))] [] [] [false] ?_ ?_
  · refine oc (g_ld 0 uN iN) ?_
    refine oc (g_cl ent_limb_Of (fun uZ => nOf 2 uZ (by omega) (by omega))) ?_
    refine oc (g_cl ent_limb_Compare (fun uZ => nCompare x 2 uZ hx ⟨by omega, by omega⟩)) ?_
    refine oc (g_bn (fun uZ => lss_i _ _ _ 0 _ uZ hc1)) ?_
    refine oc g_mv ?_
    refine oc g_sk ?_
    refine oc g_sk ?_
    refine oc g_sk ?_
    refine oc g_sk ?_
    exact oc g_pk on
  intro u1 HB1 sz1 K1
  simp only [fX, nK, nP, Wr.f, aK, pM] at K1
  simp only [setG, setN, List.set_cons_zero, List.set_cons_succ]
  clear K0 HB0
  go_upto_region 2 with fail
  refine rgP K1 HB1 HB1.size [] [] [(0, 2, (Go.Value.bool Bool.false))] [] [] [] ?_ ?_
  · exact oc g_as on
  intro u2 HB2 sz2 K2
  simp only [fX, nK, nP, Wr.f, aK, pM] at K2
  simp only [setG, setN, List.set_cons_zero, List.set_cons_succ]
  clear K1 HB1
  go_wp2
  refine bodyPost_ret (v := .bool false) (by simp [results, Try.results9, go_sem, ]) rfl ⟨by rw [smB_f (fun k => by have := k.1; omega)], HB2⟩
set_option maxRecDepth 100000 in
set_option maxHeartbeats 4000000 in
theorem cSmall_hi (x : Int) (w : World) (hx : In x) (h : 1048576 ≤ x) :
    Calls Try.prog 9 #[NV x] w fun e w' => e = .returned (.bool (smB x)) ∧ Below w.heap.size w w' := by
  go_enter Try.func9, Try.ntmps9
  go_upto_region 1 with fail
  generalize hC : (w.alloc (.cells (LN x : List Value).toArray 24)) = v0 at *
  have HB0 : Below w.heap.size w v0 := by rw [← hC]; exact balloc (bself w) _
  have K0 : Bk w.heap.size v0 [(true, w.heap.size, LN x)] := by rw [← hC]; exact (Bk.nil _ w).ad
  clear hC
  have hc1 : decide (cmpI x 2 < 0) = false := by
    unfold cmpI; rw [if_neg (by omega)]; split <;> rfl
  have hc2 : decide (0 ≤ cmpI x 1048576) = true := by
    unfold cmpI; rw [if_neg (by omega)]; split <;> rfl
  refine rgD K0 HB0 HB0.size [] [] [(0, 4, NV x), (1, 5, NV 2), (2, 6, .int .i64 (cmpI x 2)), (3, 7, .bool false), (4, 8, .bool false), (5, 9, NV x), (6, 10, NV 1048576), (7, 11, .int .i64 (cmpI x 1048576)), (8, 12, .bool true), (9, 13, .bool true)] [] [] [false] ?_ ?_
  · refine oc (g_ld 0 uN iN) ?_
    refine oc (g_cl ent_limb_Of (fun uZ => nOf 2 uZ (by omega) (by omega))) ?_
    refine oc (g_cl ent_limb_Compare (fun uZ => nCompare x 2 uZ hx ⟨by omega, by omega⟩)) ?_
    refine oc (g_bn (fun uZ => lss_i _ _ _ 0 _ uZ hc1)) ?_
    refine oc g_mv ?_
    refine oc (g_ld 0 uN iN) ?_
    refine oc (g_cl ent_limb_Of (fun uZ => nOf 1048576 uZ (by omega) (by omega))) ?_
    refine oc (g_cl ent_limb_Compare (fun uZ => nCompare x 1048576 uZ hx ⟨by omega, by omega⟩)) ?_
    refine oc (g_bn (fun uZ => geq_i _ _ _ 0 _ uZ hc2)) ?_
    exact oc g_pk on
  intro u1 HB1 sz1 K1
  simp only [fX, nK, nP, Wr.f, aK, pM] at K1
  simp only [setG, setN, List.set_cons_zero, List.set_cons_succ]
  clear K0 HB0
  go_upto_region 2 with fail
  refine rgP K1 HB1 HB1.size [] [] [(0, 2, (Go.Value.bool Bool.false))] [] [] [] ?_ ?_
  · exact oc g_as on
  intro u2 HB2 sz2 K2
  simp only [fX, nK, nP, Wr.f, aK, pM] at K2
  simp only [setG, setN, List.set_cons_zero, List.set_cons_succ]
  clear K1 HB1
  go_wp2
  refine bodyPost_ret (v := .bool false) (by simp [results, Try.results9, go_sem, ]) rfl ⟨by rw [smB_f (fun k => by have := k.2.1; omega)], HB2⟩
set_option maxRecDepth 100000 in
set_option maxHeartbeats 4000000 in
theorem cSmall_in (x : Int) (w : World) (hx : In x) (h1 : 2 ≤ x) (h2 : x < 1048576) :
    Calls Try.prog 9 #[NV x] w fun e w' => e = .returned (.bool (smB x)) ∧ Below w.heap.size w w' := by
  go_enter Try.func9, Try.ntmps9
  go_upto_region 1 with fail
  generalize hC : (w.alloc (.cells (LN x : List Value).toArray 24)) = v0 at *
  have HB0 : Below w.heap.size w v0 := by rw [← hC]; exact balloc (bself w) _
  have K0 : Bk w.heap.size v0 [(true, w.heap.size, LN x)] := by rw [← hC]; exact (Bk.nil _ w).ad
  clear hC
  have hc1 : decide (cmpI x 2 < 0) = false := by
    unfold cmpI; rw [if_neg (by omega)]; split <;> rfl
  have hc2 : decide (0 ≤ cmpI x 1048576) = false := by
    unfold cmpI; rw [if_pos (by omega)]; rfl
  have hD : D0 x = x := by unfold D0; omega
  refine rgD K0 HB0 HB0.size [] [] [(0, 4, NV x), (1, 5, NV 2), (2, 6, .int .i64 (cmpI x 2)), (3, 7, .bool false), (4, 8, .bool false), (5, 9, NV x), (6, 10, NV 1048576), (7, 11, .int .i64 (cmpI x 1048576)), (8, 12, .bool false), (9, 13, .bool false)] [] [] [] ?_ ?_
  · refine oc (g_ld 0 uN iN) ?_
    refine oc (g_cl ent_limb_Of (fun uZ => nOf 2 uZ (by omega) (by omega))) ?_
    refine oc (g_cl ent_limb_Compare (fun uZ => nCompare x 2 uZ hx ⟨by omega, by omega⟩)) ?_
    refine oc (g_bn (fun uZ => lss_i _ _ _ 0 _ uZ hc1)) ?_
    refine oc g_mv ?_
    refine oc (g_ld 0 uN iN) ?_
    refine oc (g_cl ent_limb_Of (fun uZ => nOf 1048576 uZ (by omega) (by omega))) ?_
    refine oc (g_cl ent_limb_Compare (fun uZ => nCompare x 1048576 uZ hx ⟨by omega, by omega⟩)) ?_
    refine oc (g_bn (fun uZ => geq_i _ _ _ 0 _ uZ hc2)) ?_
    exact oc g_pk on
  intro u1 HB1 sz1 K1
  simp only [fX, nK, nP, Wr.f, aK, pM] at K1
  simp only [setG, setN, List.set_cons_zero, List.set_cons_succ]
  clear K0 HB0
  go_upto_region 3 with fail
  refine rgP K1 HB1 HB1.size [] [] [(0, 3, (Go.Value.int Go.IntKind.u64 2))] [] [] [] ?_ ?_
  · exact oc g_as on
  intro u2 HB2 sz2 K2
  simp only [fX, nK, nP, Wr.f, aK, pM] at K2
  simp only [setG, setN, List.set_cons_zero, List.set_cons_succ]
  clear K1 HB1
  go_wp2_with fail
  go_loopw [3] (fun s3 wr => ∃ (d : Int), s3 = .int .u64 d ∧ 2 ≤ d ∧ d ≤ 1025 ∧ Hid (∀ e : Int, 2 ≤ e → e < d → x % e ≠ 0) ∧ Below w.heap.size w wr ∧ CV wr (w.heap.size) (LN x) ∧ w.heap.size < wr.heap.size) (fun s3 _ => 1025 - (intOf s3).toNat)
  case atStart => exact ⟨2, rfl, by omega, by omega, (fun e h1 h2 => by omega), HB2, (K2.cv 0), (K2.lt 0)⟩
  case round =>
    obtain ⟨d, rfl, hd2, hdl, hA, HBr, Kx, lx⟩ := hrel
    clear HB2
    have hdd : 0 ≤ d * d ∧ d * d ≤ 1025 * 1025 := mul_bd (by omega) hdl (by omega) hdl
    by_cases hj : d * d ≤ x
    · have hd3 : d ≤ 1024 := Classical.byContradiction fun hn => by
        have e : d = 1025 := by omega
        rw [e] at hj; omega
      have hl : decide (d * d ≤ x) = true := by simp [hj]
      have hm : d * d % 18446744073709551616 = d * d := by omega
      have hDx : (D0 x) = x := hD
      have K2_1 : Bk w.heap.size wr [(false, w.heap.size, LN x)] := ⟨.c lx Kx <| trivial, by simp⟩
      go_upto_region 4 with fail
      refine rgP K2_1 HBr HBr.size [] [] [(0, 14, .int .u64 d), (1, 15, .int .u64 d), (2, 16, .int .u64 (d * d)), (3, 17, .pointer (some ⟨w.heap.size, 0, none⟩)), (4, 18, .int .u64 x), (5, 19, .bool true)] [] [] [] ?_ ?_
      · refine oc g_mv ?_
        refine oc g_mv ?_
        refine oc (g_bn (fun uZ => mul_u _ _ d d (d * d) uZ hm)) ?_
        refine oc (g_ix (jN 0)) ?_
        refine oc (g_lv 0 0 lU (LN_c0 hD)) ?_
        exact oc (g_bn (fun uZ => leq_u _ _ (d * d) x _ uZ hl)) on
      intro u3 HB3 sz3 K3
      simp only [fX, nK, nP, Wr.f, aK, pM] at K3
      simp only [setG, setN, List.set_cons_zero, List.set_cons_succ]
      by_cases hr : x % d = 0
      · have hl2 : (x % d == 0) = true := by simp [hr]
        go_upto_region 6 with fail
        refine rgP K3 HB3 HB3.size [] [] [(0, 22, .pointer (some ⟨w.heap.size, 0, none⟩)), (1, 23, .int .u64 x), (2, 24, .int .u64 d), (3, 25, .int .u64 (x % d)), (4, 26, .bool true)] [] [] [false] ?_ ?_
        · refine oc (g_ix (jN 0)) ?_
          refine oc (g_lv 0 0 lU (LN_c0 hD)) ?_
          refine oc g_mv ?_
          refine oc (g_bn (fun uZ => rem_u _ _ x d (x % d) uZ (by omega) (by omega) (by omega) rfl)) ?_
          exact oc (g_bn (fun uZ => eql_u _ _ _ (x % d) 0 _ uZ hl2)) on
        intro u4 HB4 sz4 K4
        simp only [fX, nK, nP, Wr.f, aK, pM] at K4
        simp only [setG, setN, List.set_cons_zero, List.set_cons_succ]
        clear K3 HB3
        go_upto_region 7 with fail
        refine rgP K4 HB4 HB4.size [] [] [(0, 2, (Go.Value.bool Bool.false))] [] [] [] ?_ ?_
        · exact oc g_as on
        intro u5 HB5 sz5 K5
        simp only [fX, nK, nP, Wr.f, aK, pM] at K5
        simp only [setG, setN, List.set_cons_zero, List.set_cons_succ]
        clear K4 HB4
        go_wp2
        refine bodyPost_ret (v := .bool false) (by simp [results, Try.results9, go_sem, ]) rfl ⟨by rw [smB_f (fun k => k.2.2 d hd2 hj hr)], HB5⟩
      · have hl2 : (x % d == 0) = false := by simp [hr]
        go_upto_region 6 with fail
        refine rgP K3 HB3 HB3.size [] [] [(0, 22, .pointer (some ⟨w.heap.size, 0, none⟩)), (1, 23, .int .u64 x), (2, 24, .int .u64 d), (3, 25, .int .u64 (x % d)), (4, 26, .bool false)] [] [] [] ?_ ?_
        · refine oc (g_ix (jN 0)) ?_
          refine oc (g_lv 0 0 lU (LN_c0 hD)) ?_
          refine oc g_mv ?_
          refine oc (g_bn (fun uZ => rem_u _ _ x d (x % d) uZ (by omega) (by omega) (by omega) rfl)) ?_
          exact oc (g_bn (fun uZ => eql_u _ _ _ (x % d) 0 _ uZ hl2)) on
        intro u4 HB4 sz4 K4
        simp only [fX, nK, nP, Wr.f, aK, pM] at K4
        simp only [setG, setN, List.set_cons_zero, List.set_cons_succ]
        clear K3 HB3
        go_upto_region 5 with fail
        refine rgP K4 HB4 HB4.size [] [] [(0, 20, .int .u64 d), (1, 21, .int .u64 (d + 1)), (2, 3, .int .u64 (d + 1))] [(2, 0)] [(2, 3)] [] ?_ ?_
        · refine oc g_mv ?_
          refine oc (g_bn (fun uZ => add_u _ _ d 1 (d + 1) uZ (by omega))) ?_
          exact oc g_as on
        intro u5 HB5 sz5 K5
        simp only [fX, nK, nP, Wr.f, aK, pM] at K5
        simp only [setG, setN, List.set_cons_zero, List.set_cons_succ]
        clear K4 HB4
        go_wp2
        refine ⟨⟨d + 1, rfl, by omega, by omega, (fun e h1 h2 => by
            by_cases he : e = d
            · rw [he]; exact hr
            · exact hA.out e h1 (by omega)), HB5, (K5.cv 0), (K5.lt 0)⟩, ?_⟩
        simp [intOf] <;> omega
    · have hl : decide (d * d ≤ x) = false := by simp; omega
      have hjj : Hid (∀ e : Int, d ≤ e → x < e * e) := fun e hn => Int.lt_of_lt_of_le (Int.not_le.1 hj) (Int.mul_le_mul hn hn (by omega) (by omega))
      have hm : d * d % 18446744073709551616 = d * d := by omega
      have K2_1 : Bk w.heap.size wr [(false, w.heap.size, LN x)] := ⟨.c lx Kx <| trivial, by simp⟩
      go_upto_region 4 with fail
      refine rgP K2_1 HBr HBr.size [] [] [(0, 14, .int .u64 d), (1, 15, .int .u64 d), (2, 16, .int .u64 (d * d)), (3, 17, .pointer (some ⟨w.heap.size, 0, none⟩)), (4, 18, .int .u64 x), (5, 19, .bool false)] [] [] [false] ?_ ?_
      · refine oc g_mv ?_
        refine oc g_mv ?_
        refine oc (g_bn (fun uZ => mul_u _ _ d d (d * d) uZ hm)) ?_
        refine oc (g_ix (jN 0)) ?_
        refine oc (g_lv 0 0 lU (LN_c0 hD)) ?_
        exact oc (g_bn (fun uZ => leq_u _ _ (d * d) x _ uZ hl)) on
      intro u3 HB3 sz3 K3
      simp only [fX, nK, nP, Wr.f, aK, pM] at K3
      simp only [setG, setN, List.set_cons_zero, List.set_cons_succ]
      go_upto_region 8 with fail
      refine rgP K3 HB3 HB3.size [] [] [(0, 2, (Go.Value.bool Bool.true))] [] [] [] ?_ ?_
      · exact oc g_as on
      intro u4 HB4 sz4 K4
      simp only [fX, nK, nP, Wr.f, aK, pM] at K4
      simp only [setG, setN, List.set_cons_zero, List.set_cons_succ]
      clear K3 HB3
      go_wp2
      refine bodyPost_ret (v := .bool true) (by simp [results, Try.results9, go_sem, ]) rfl ⟨by rw [smB_t ⟨h1, h2, fun e h3 h4 => hA.out e h3 (Int.not_le.1 fun hn => by have := hjj.out e hn; omega)⟩], HB4⟩
theorem cSmall (x : Int) (w : World) (hx : In x) :
    Calls Try.prog 9 #[NV x] w fun e w' => e = .returned (.bool (smB x)) ∧ Below w.heap.size w w' := by
  by_cases h1 : x < 2
  · exact cSmall_lo x w hx h1
  · by_cases h2 : x < 1048576
    · exact cSmall_in x w hx (by omega) h2
    · exact cSmall_hi x w hx (by omega)
end Go.Proofs.Ytgfggkinmhhdnaa
/- Primes that are certified: unmet. -/
namespace Go.Proofs.Ytgfggkinmhhdnaa
open Go.RowKit
set_option linter.unusedVariables false
set_option linter.unusedSimpArgs false
/-- How many of the first k are false. -/
def ucn (bs : List Bool) : Nat → Nat
  | 0 => 0
  | k + 1 => ucn bs k + (bif bs.getD k true then 0 else 1)
theorem ucn_le (bs : List Bool) : ∀ k, ucn bs k ≤ k
  | 0 => Nat.le_refl _
  | k + 1 => by
    have := ucn_le bs k
    rw [ucn]; cases bs.getD k true <;> simp <;> omega
theorem ixB (b n cap j : Nat) (h : j < n) (w : World) : (Instr.indexAt 95 (.slice (some ⟨b, 0, none⟩) n cap) (.int .i64 j)).run Try.prog w = .ok (.pointer (some ⟨b, j, none⟩)) w := by
  have h2 : (j : Int) < n := by omega
  go_simp
theorem bs_at {bs : List Bool} {k : Nat} (h : k < bs.length) {y : Bool} (e : bs.getD k true = y) : (bs.map Value.bool)[k]? = some (.bool y) := by
  rw [List.getElem?_map, List.getElem?_eq_getElem h]
  rw [List.getD_eq_getElem?_getD, List.getElem?_eq_getElem h] at e
  simp at e
  simp [e]
set_option maxRecDepth 100000 in
set_option maxHeartbeats 4000000 in
theorem cUnmet (bs : List Bool) (b cap : Nat) (w : World) (hn : bs.length ≤ 50) (hl : b < w.heap.size) (hb : CV w b (bs.map Value.bool)) :
    Calls Try.prog 50 #[.slice (some ⟨b, 0, none⟩) bs.length cap] w fun e w' => e = .returned (.int .i64 (ucn bs bs.length : Int)) ∧ Below w.heap.size w w' := by
  go_enter Try.func50, Try.ntmps50
  have HB0 : Below w.heap.size w w := Below.refl _ _
  have K0_1 : Bk w.heap.size w [(false, b, (bs.map Value.bool))] := ⟨.c hl hb <| trivial, by simp⟩
  go_upto_region 1 with fail
  refine rgP K0_1 HB0 HB0.size [] [] [(0, 3, (Go.Value.int Go.IntKind.i64 0))] [] [] [] ?_ ?_
  · exact oc g_as on
  intro u1 HB1 sz1 K1
  simp only [fX, nK, nP, Wr.f, aK, pM] at K1
  simp only [setG, setN, List.set_cons_zero, List.set_cons_succ]
  clear HB0
  go_upto_region 2 with fail
  refine rgP K1 HB1 HB1.size [] [] [(0, 6, .slice (some ⟨b, 0, none⟩) bs.length cap), (1, 7, .int .i64 (bs.length : Int)), (2, 8, (Go.Value.int Go.IntKind.i64 0))] [] [] [] ?_ ?_
  · refine oc g_mv ?_
    refine oc (g_ln Try.underlying95) ?_
    exact oc g_mv on
  intro u2 HB2 sz2 K2
  simp only [fX, nK, nP, Wr.f, aK, pM] at K2
  simp only [setG, setN, List.set_cons_zero, List.set_cons_succ]
  clear K1 HB1
  go_wp2_with fail
  go_loopw [8, 3] (fun s8 s3 wr => ∃ (k : Nat), k ≤ bs.length ∧ s8 = .int .i64 (k : Int) ∧ s3 = .int .i64 (ucn bs k : Int) ∧ Below w.heap.size w wr) (fun s8 _ _ => bs.length - (intOf s8).toNat)
  case atStart => exact ⟨0, by omega, rfl, rfl, HB2⟩
  case round =>
    obtain ⟨k, hk, rfl, rfl, HBr⟩ := hrel
    clear HB2
    have hu := ucn_le bs k
    by_cases hj : k < bs.length
    · have hl1 : decide ((k : Int) < (bs.length : Int)) = true := by simp; omega
      have hs : ucn bs (k + 1) = ucn bs k + (bif bs.getD k true then 0 else 1) := rfl
      obtain ⟨y, ey⟩ : ∃ y, bs.getD k true = y := ⟨_, rfl⟩
      rw [ey] at hs
      have hY := bs_at hj ey
      clear ey
      have K2_2 : Bk w.heap.size wr [(false, b, (bs.map Value.bool))] := ⟨.c (Nat.lt_of_lt_of_le hl HBr.size) (hb.below HBr hl) <| trivial, by simp⟩
      go_upto_region 3 with fail
      refine rgP K2_2 HBr HBr.size [] [] [(0, 9, .bool true)] [] [] [] ?_ ?_
      · exact oc (g_bn (fun uZ => lss_i _ _ (k : Int) (bs.length : Int) _ uZ hl1)) on
      intro u3 HB3 sz3 K3
      simp only [fX, nK, nP, Wr.f, aK, pM] at K3
      simp only [setG, setN, List.set_cons_zero, List.set_cons_succ]
      go_upto_region 4 with fail
      refine rgP K3 HB3 HB3.size [] [] [(0, 10, .pointer (some ⟨b, k, none⟩)), (1, 11, .bool y), (2, 5, .bool y)] [] [] [false] ?_ ?_
      · refine oc (g_ix (fun uZ => ixB b bs.length cap k hj uZ)) ?_
        refine oc (g_lv 0 k lB (hY)) ?_
        exact oc g_as on
      intro u4 HB4 sz4 K4
      simp only [fX, nK, nP, Wr.f, aK, pM] at K4
      simp only [setG, setN, List.set_cons_zero, List.set_cons_succ]
      clear K3 HB3
      go_upto_region 5 with fail
      refine rgP K4 HB4 HB4.size [] [] [(0, 12, .bool y), (1, 13, .bool (!y))] [] [] [] ?_ ?_
      · refine oc g_mv ?_
        exact oc (g_un (fun uZ => rfl)) on
      intro u5 HB5 sz5 K5
      simp only [fX, nK, nP, Wr.f, aK, pM] at K5
      simp only [setG, setN, List.set_cons_zero, List.set_cons_succ]
      clear K4 HB4
      cases y
      · simp only [cond_true, cond_false] at hs
        go_upto_region 6 with fail
        refine rgP K5 HB5 HB5.size [] [] [(0, 14, .int .i64 (ucn bs k : Int)), (1, 15, .int .i64 ((ucn bs (k + 1) : Nat) : Int)), (2, 3, .int .i64 ((ucn bs (k + 1) : Nat) : Int))] [(2, 0)] [(2, 3)] [] ?_ ?_
        · refine oc g_mv ?_
          refine oc (g_bn (fun uZ => add_i _ _ (ucn bs k : Int) 1 ((ucn bs (k + 1) : Nat) : Int) uZ (by omega) (by omega) (by omega))) ?_
          exact oc g_as on
        intro u6 HB6 sz6 K6
        simp only [fX, nK, nP, Wr.f, aK, pM] at K6
        simp only [setG, setN, List.set_cons_zero, List.set_cons_succ]
        clear K5 HB5
        go_upto_region 7 with fail
        refine rgP K6 HB6 HB6.size [] [] [(0, 16, .int .i64 ((k + 1 : Nat) : Int)), (1, 8, .int .i64 ((k + 1 : Nat) : Int))] [(1, 0)] [(1, 8)] [] ?_ ?_
        · refine oc (g_bn (fun uZ => add_i _ _ (k : Int) 1 ((k + 1 : Nat) : Int) uZ (by omega) (by omega) (by omega))) ?_
          exact oc g_mv on
        intro u7 HB7 sz7 K7
        simp only [fX, nK, nP, Wr.f, aK, pM] at K7
        simp only [setG, setN, List.set_cons_zero, List.set_cons_succ]
        clear K6 HB6
        go_wp2
        refine ⟨⟨k + 1, by omega, rfl, rfl, HB7⟩, ?_⟩
        simp [intOf] <;> omega
      · simp only [cond_true, cond_false] at hs
        go_upto_region 7 with fail
        refine rgP K5 HB5 HB5.size [] [] [(0, 16, .int .i64 ((k + 1 : Nat) : Int)), (1, 8, .int .i64 ((k + 1 : Nat) : Int))] [(1, 0)] [(1, 8)] [] ?_ ?_
        · refine oc (g_bn (fun uZ => add_i _ _ (k : Int) 1 ((k + 1 : Nat) : Int) uZ (by omega) (by omega) (by omega))) ?_
          exact oc g_mv on
        intro u6 HB6 sz6 K6
        simp only [fX, nK, nP, Wr.f, aK, pM] at K6
        simp only [setG, setN, List.set_cons_zero, List.set_cons_succ]
        clear K5 HB5
        go_wp2
        refine ⟨⟨k + 1, by omega, rfl, by rw [hs]; rfl, HB6⟩, ?_⟩
        simp [intOf] <;> omega
    · have hl1 : decide ((k : Int) < (bs.length : Int)) = false := by simp; omega
      have hkn : k = bs.length := by omega
      have K2_2 : Bk w.heap.size wr [(false, b, (bs.map Value.bool))] := ⟨.c (Nat.lt_of_lt_of_le hl HBr.size) (hb.below HBr hl) <| trivial, by simp⟩
      go_upto_region 3 with fail
      refine rgP K2_2 HBr HBr.size [] [] [(0, 9, .bool false)] [] [] [false] ?_ ?_
      · exact oc (g_bn (fun uZ => lss_i _ _ (k : Int) (bs.length : Int) _ uZ hl1)) on
      intro u3 HB3 sz3 K3
      simp only [fX, nK, nP, Wr.f, aK, pM] at K3
      simp only [setG, setN, List.set_cons_zero, List.set_cons_succ]
      go_upto_region 8 with fail
      refine rgP K3 HB3 HB3.size [] [] [(0, 17, .int .i64 (ucn bs k : Int)), (1, 2, .int .i64 (ucn bs k : Int))] [] [] [] ?_ ?_
      · refine oc g_mv ?_
        exact oc g_as on
      intro u4 HB4 sz4 K4
      simp only [fX, nK, nP, Wr.f, aK, pM] at K4
      simp only [setG, setN, List.set_cons_zero, List.set_cons_succ]
      clear K3 HB3
      go_wp2
      refine bodyPost_ret (v := .int .i64 (ucn bs k : Int)) (by simp [results, Try.results50, go_sem, ]) rfl ⟨by rw [hkn], HB4⟩
theorem cUnmetP (bs : List Bool) (w : World) (v : Value) (hn : bs.length ≤ 50) (h : PBo bs w v) :
    Calls Try.prog 50 #[v] w fun e w' => e = .returned (.int .i64 (ucn bs bs.length : Int)) ∧ Below w.heap.size w w' := by
  obtain ⟨b, c, rfl, h1, h2⟩ := h
  exact cUnmet bs b c w hn h1 h2
theorem ent_cert_unmet (vs : Array Value) (w : World) : (callFunc 50 vs).run Try.prog w = .ok (.enter 50 vs) w := by kernel_rfl
theorem bsl2 (x y : Bool) (w : World) : (Instr.buildSlice 95 2 ([0, 1].zip [.bool x, .bool y]).toArray).run Try.prog w = .ok (.slice (some ⟨w.heap.size, 0, none⟩) 2 2) (w.alloc (.cells ([x, y].map Value.bool).toArray 4)) := by kernel_rfl
theorem bsl3 (x y z : Bool) (w : World) : (Instr.buildSlice 95 3 ([0, 1, 2].zip [.bool x, .bool y, .bool z]).toArray).run Try.prog w = .ok (.slice (some ⟨w.heap.size, 0, none⟩) 3 3) (w.alloc (.cells ([x, y, z].map Value.bool).toArray 4)) := by kernel_rfl
end Go.Proofs.Ytgfggkinmhhdnaa
