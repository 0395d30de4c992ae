/- The reference's Int and ReadInt. -/
import Derived.Test.YtjekkdckjnlkcaaDoorAW5
namespace Go.Proofs.YtjekkdckjnlkcaaDoor
open Go.RowKit
set_option linter.unusedVariables false
set_option linter.unusedSimpArgs false
theorem mk8 (w : World) : (Instr.makeSlice 24 (.int .i64 8) (.int .i64 8)).run Tryd.prog w = .ok (.slice (some ⟨w.heap.size, 0, none⟩) 8 8) (w.alloc (.cells (U8 z8).toArray 5)) := mkB .i64 8 (by decide) w
set_option maxRecDepth 100000 in
set_option maxHeartbeats 2000000 in
theorem cIntR_core (n : Int) (x : Nat → Nat) (cS : Nat → List Nat) (w : World) (h0 : IntKind.u64.wrap n = (x 0 : Int)) (hx : Hid (∀ k, x (k + 1) = x k / 256)) (hb : Hid (∀ k, x k < 18446744073709551616)) (hc0 : Hid (cS 0 = z8)) (hcs : Hid (∀ k, cS (k + 1) = (cS k).set (7 - k) (x k % 256))) (hcl : Hid (∀ k, (cS k).length = 8)) :
    Calls Tryd.prog 27 #[.int .i64 n] w fun e w' => ∃ v, e = .returned v ∧ PF w.heap.size 8 (U8 (cS 8)) w' v ∧ Below w.heap.size w w' := by
  have hmk := mk8
  go_enter Tryd.func27, Tryd.ntmps27
  go_wp2_with fail
  go_loopw [5, 4] (fun s5 s4 wr => ∃ k : Nat, k ≤ 8 ∧ s5 = .int .i64 (7 - (k : Int)) ∧ s4 = .int .u64 (x k : Int) ∧ Hid (CV wr w.heap.size (U8 (cS k))) ∧ w.heap.size < wr.heap.size ∧ Below w.heap.size w wr) (fun s5 _ _ => (intOf s5 + 1).toNat)
  case atStart => exact ⟨0, by omega, by simp, rfl, (by rw [hc0.out]; exact CV.new _ _ _), by simp, balloc (bself w) _⟩
  case round =>
    obtain ⟨k, hk, rfl, rfl, Kv, hlt, HBr⟩ := hrel
    by_cases hj : k < 8
    · obtain ⟨i, hi⟩ : ∃ i : Nat, 7 - k = i := ⟨_, rfl⟩
      have hik : 7 - (k : Int) = (i : Int) := by omega
      rw [hik]
      have hl2 : (0 : Int) ≤ (i : Int) := by omega
      have hcl2 := hcl.out k
      have hs := hcs.out k
      rw [hi] at hs
      have hcel := (Kv.out i _ (U8_get (cS k) i (by omega))).1
      have hfr := (Kv.out i _ (U8_get (cS k) i (by omega))).2
      have hx1 := hx.out k
      have hb1 := hb.out k
      obtain ⟨y, ey⟩ : ∃ y, x k = y := ⟨_, rfl⟩
      rw [ey] at hs hx1 hb1
      obtain ⟨q, eq⟩ : ∃ q, y / 256 = q := ⟨_, rfl⟩
      obtain ⟨r, er⟩ : ∃ r, y % 256 = r := ⟨_, rfl⟩
      rw [er] at hs
      rw [eq] at hx1
      rw [ey]
      have hqd : Int.tdiv (y : Int) 256 = (q : Int) := by rw [← eq]; rfl
      have hrd : Int.tmod (y : Int) 256 = (r : Int) := by rw [← er]; rfl
      have w1 : IntKind.u8.wrap (r : Int) = (r : Int) := wraps_u8 _ (by omega) (by omega)
      have w2 : IntKind.u64.wrap (q : Int) = (q : Int) := by rw [IntKind.wrap_u64]; omega
      have w3 : IntKind.u64.wrap (r : Int) = (r : Int) := by rw [IntKind.wrap_u64]; omega
      have w4 : IntKind.i64.wrap ((i : Int) - 1) = (i : Int) - 1 := by rw [IntKind.wrap_i64]; omega
      have hK2 : Hid (CV (wr.setCell ⟨w.heap.size, i, none⟩ (.int .u8 (r : Int))) w.heap.size (U8 (cS (k + 1)))) := by
        rw [hs, U8_set]; exact Kv.out.setC i (by rw [U8_len]; omega) _
      clear eq er ey hs
      go_wp2
      refine ⟨⟨k + 1, by omega, by congr 1; omega, by rw [hx1], hK2, by simpa using hlt, HBr.setCell (Nat.le_refl _) _⟩, ?_⟩
      simp [intOf]
    · obtain rfl : k = 8 := by omega
      have hl2 : ¬ (0 : Int) ≤ 7 - (8 : Int) := by omega
      go_wp2
      exact bodyPost_ret (v := .slice (some ⟨w.heap.size, 0, none⟩) 8 8) (by simp [results, Tryd.results27, go_sem]) rfl ⟨_, rfl, ⟨w.heap.size, rfl, Nat.le_refl _, hlt, Kv.out⟩, HBr⟩
def xN (x : Nat) : Nat → Nat
  | 0 => x
  | k + 1 => xN x k / 256
def cN (x : Nat) : Nat → List Nat
  | 0 => z8
  | k + 1 => (cN x k).set (7 - k) (xN x k % 256)
theorem xN_le (x : Nat) : ∀ k, xN x k ≤ x
  | 0 => Nat.le_refl _
  | k + 1 => Nat.le_trans (Nat.div_le_self _ _) (xN_le x k)
theorem cN_len (x : Nat) : ∀ k, (cN x k).length = 8
  | 0 => rfl
  | k + 1 => by rw [cN, List.length_set, cN_len x k]
theorem cN_is (x : Nat) : cN x 8 = int8 x 8 := by
  simp [cN, int8, z8, xN, List.replicate]
/-- A number as 64 bits. -/
def u64n (n : Int) : Nat := (n % 18446744073709551616).toNat
theorem u64n_lt (n : Int) : u64n n < 18446744073709551616 := by unfold u64n; omega
theorem int8_len : ∀ (k x : Nat), (int8 x k).length = k
  | 0, x => rfl
  | k + 1, x => by rw [int8, List.length_append, int8_len k]; rfl
theorem int8_lt : ∀ (k x : Nat), ∀ y ∈ int8 x k, y < 256
  | 0, x => by simp [int8]
  | k + 1, x => fun y hy => by
    rw [int8, List.mem_append] at hy
    rcases hy with h | h
    · exact int8_lt k _ y h
    · simp at h; subst h; exact Nat.mod_lt _ (by decide)
/-- The reference's Int. -/
theorem cIntR (n : Int) (w : World) :
    Calls Tryd.prog 27 #[.int .i64 n] w fun e w' => ∃ v, e = .returned v ∧ PF w.heap.size 8 (U8 (int8 (u64n n) 8)) w' v ∧ Below w.heap.size w w' := by
  rw [← cN_is]
  exact cIntR_core n (xN (u64n n)) (cN (u64n n)) w (by rw [IntKind.wrap_u64]; unfold xN u64n; omega) (fun k => rfl) (fun k => Nat.lt_of_le_of_lt (xN_le _ k) (u64n_lt n)) rfl (fun k => rfl) (cN_len _)
set_option maxRecDepth 100000 in
set_option maxHeartbeats 2000000 in
theorem cReadIntR_core (len gcap : Nat) (gsl : Option Addr) (bs : List Nat) (xS : Nat → Nat) (ev r : Int) (w : World) (hbl : bs.length = len)
    (hrow : Hid (0 < len → ∃ gb go, gsl = some ⟨gb, go, none⟩ ∧ gb < w.heap.size ∧ SB w gb go bs)) (hx : Hid (∀ i, bs.getD i 0 < 256)) (hx0 : xS 0 = 0) (hxs : Hid (∀ i, i < len → xS (i + 1) = 256 * xS i + bs.getD i 0)) (hxb : Hid (∀ i, i ≤ 8 → xS i < 256 ^ i))
    (hE1 : len ≠ 8 → ev = 80 ∧ r = 0) (hE2 : Hid (len = 8 → ev = 0 ∧ r = IntKind.i64.wrap (xS 8 : Int))) :
    Calls Tryd.prog 21 #[.slice gsl len gcap] w fun e w' => e = .returned (.tuple #[.int .i64 r, .int .i64 ev]) ∧ Below w.heap.size w w' := by
  by_cases h8 : len = 8
  · obtain ⟨rfl, er⟩ := hE2.out h8
    subst h8
    obtain ⟨gb, go, rfl, hgb, hsb⟩ := hrow.out (by omega)
    go_enter Tryd.func21, Tryd.ntmps21
    go_wp2_with fail
    go_loopw [5, 4] (fun s5 s4 wr => ∃ k : Nat, k ≤ 8 ∧ s5 = .int .i64 (k : Int) ∧ s4 = .int .u64 (xS k : Int) ∧ wr = w) (fun s5 _ _ => 8 - (intOf s5).toNat)
    case atStart => exact ⟨0, by omega, rfl, by rw [hx0]; rfl, rfl⟩
    case round =>
      obtain ⟨k, hk, rfl, rfl, hw⟩ := hrel
      have hw := hw.symm
      subst hw
      by_cases hj : k < 8
      · have hl2 : (k : Int) < 8 := by omega
        have hl3 : (k : Int) < (bs.length : Int) := by omega
        have hc := hsb k (by omega)
        have hs := hxs.out k (by omega)
        have hb1 := hxb.out (k + 1) (by omega)
        have hy := hx.out k
        obtain ⟨y, ey⟩ : ∃ y, bs.getD k 0 = y := ⟨_, rfl⟩
        rw [ey] at hc hs hy
        obtain ⟨a, ea⟩ : ∃ a, xS k = a := ⟨_, rfl⟩
        rw [ea] at hs
        rw [ea]
        have hpw : 256 ^ (k + 1) ≤ 256 ^ 8 := Nat.pow_le_pow_right (by decide) (by omega)
        have hb2 : 256 * a + y < 18446744073709551616 := by
          have : 256 ^ 8 = 18446744073709551616 := by decide
          omega
        have w1 : IntKind.u64.wrap ((a : Int) * 256) = (a : Int) * 256 := by rw [IntKind.wrap_u64]; omega
        have w2 : IntKind.u64.wrap ((a : Int) * 256 + (y : Int)) = (a : Int) * 256 + (y : Int) := by rw [IntKind.wrap_u64]; omega
        have w3 : IntKind.u64.wrap (y : Int) = (y : Int) := by rw [IntKind.wrap_u64]; omega
        have w4 : IntKind.i64.wrap ((k : Int) + 1) = ((k + 1 : Nat) : Int) := by rw [IntKind.wrap_i64]; omega
        clear ea ey hpw hb1
        go_wp2
        refine ⟨⟨k + 1, by omega, by simp, by congr 1; omega, by first | rfl | trivial⟩, ?_⟩
        simp [intOf]; omega
      · obtain rfl : k = 8 := by omega
        have hl2 : ¬ (8 : Int) < 8 := by omega
        obtain ⟨a, ea⟩ : ∃ a, xS 8 = a := ⟨_, rfl⟩
        rw [ea] at er
        rw [ea]
        obtain ⟨z, ez⟩ : ∃ z, IntKind.i64.wrap (a : Int) = z := ⟨_, rfl⟩
        rw [ez] at er
        subst er
        go_wp2
        exact bodyPost_ret (v := .tuple #[.int .i64 r, .int .i64 0]) (by simp [results, Tryd.results21, go_sem]) rfl ⟨rfl, Below.refl _ _⟩
  · obtain ⟨rfl, rfl⟩ := hE1 h8
    have h9 : ¬ (len : Int) = 8 := by omega
    go_enter Tryd.func21, Tryd.ntmps21
    go_wp2
    exact bodyPost_ret (v := .tuple #[.int .i64 0, .int .i64 80]) (by simp [results, Tryd.results21, go_sem]) rfl ⟨rfl, Below.refl _ _⟩
theorem num8_app (a : List Nat) (x : Nat) : num8 (a ++ [x]) = 256 * num8 a + x := by unfold num8; rw [List.foldl_append]; rfl
theorem num8_step {bs : List Nat} {i : Nat} (h : i < bs.length) : num8 (bs.take (i + 1)) = 256 * num8 (bs.take i) + bs.getD i 0 := by
  have e : bs.getD i 0 = bs[i] := by rw [List.getD_eq_getElem?_getD, List.getElem?_eq_getElem h]; rfl
  rw [List.take_succ_eq_append_getElem h, num8_app, e]
theorem num8_lt {bs : List Nat} (hx : ∀ i, bs.getD i 0 < 256) : ∀ i, num8 (bs.take i) < 256 ^ i
  | 0 => by simp [num8]
  | i + 1 => by
    have h1 := num8_lt hx i
    have h2 := hx i
    have h3 : 256 ^ (i + 1) = 256 * 256 ^ i := by rw [Nat.pow_succ, Nat.mul_comm]
    by_cases h : i < bs.length
    · rw [num8_step h]; omega
    · rw [List.take_of_length_le (by omega)] at h1 ⊢; omega
def rdIE (bs : List Nat) : Int := if bs.length = 8 then 0 else 80
def rdIX (bs : List Nat) : Int := if bs.length = 8 then IntKind.i64.wrap (num8 bs : Int) else 0
/-- The reference's ReadInt. -/
theorem cReadIntR (bs : List Nat) (v : Value) (w : World) (h : IN w w.heap.size v bs) (hx : ∀ x ∈ bs, x < 256) :
    Calls Tryd.prog 21 #[v] w fun e w' => e = .returned (.tuple #[.int .i64 (rdIX bs), .int .i64 (rdIE bs)]) ∧ Below w.heap.size w w' := by
  obtain ⟨sl, cap, gb, go, rfl, h2, h3, h4, h5⟩ := h
  refine cReadIntR_core bs.length cap sl bs (fun i => num8 (bs.take i)) (rdIE bs) (rdIX bs) w rfl (fun h0 => ⟨gb, go, h3.resolve_left (by omega), h4, h5⟩) (getD_lt256 hx) rfl (fun i hi => num8_step hi) (fun i _ => num8_lt (getD_lt256 hx) i) (fun h => ?_) (fun h => ?_)
  · simp [rdIE, rdIX, h]
  · have e : bs.take 8 = bs := by rw [← h]; exact List.take_length
    simp [rdIE, rdIX, h, e]
end Go.Proofs.YtjekkdckjnlkcaaDoor
