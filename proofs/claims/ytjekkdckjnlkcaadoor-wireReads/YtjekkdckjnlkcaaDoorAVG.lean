/- Wire: Int, ReadInt. -/
import Derived.Test.YtjekkdckjnlkcaaDoorAVF
namespace Go.Proofs.YtjekkdckjnlkcaaDoor
open Go.RowKit
set_option linter.unusedVariables false
set_option linter.unusedSimpArgs false
theorem shr64w (a n : Nat) (w : World) (ha : a < 18446744073709551616) (hn : n ≤ 63) : (binOp .shr 65 (.int .u64 (a : Int)) (.int .i64 (n : Int))).run Tryd.prog w = .ok (.int .u64 ((a / 2 ^ n : Nat) : Int)) w := by
  have e0 : a / 2 ^ n ≤ a := Nat.div_le_self _ _
  have e : IntKind.u64.wrap ((a : Int) / 2 ^ n) = ((a / 2 ^ n : Nat) : Int) := by
    have h1 : ((a : Int) / 2 ^ n) = ((a / 2 ^ n : Nat) : Int) := by rw [Int.natCast_ediv, Int.natCast_pow]; rfl
    rw [h1, wraps_u64 _ (Int.natCast_nonneg _) (by omega)]
  have e2 : min n 64 = n := by omega
  go_simp
  all_goals first | done | exact e | (simp [e2]; exact e)
theorem bit_or64w (a b : Nat) (ha : a < 18446744073709551616) (hb : b < 18446744073709551616) : bits .or .u64 a b = ((a ||| b : Nat) : Int) := by
  have ha' : a % 2 ^ 64 = a := Nat.mod_eq_of_lt (by omega)
  have hb' : b % 2 ^ 64 = b := Nat.mod_eq_of_lt (by omega)
  have h : (BitVec.ofNat 64 a ||| BitVec.ofNat 64 b).toNat = a ||| b := by rw [BitVec.toNat_or, BitVec.toNat_ofNat, BitVec.toNat_ofNat, ha', hb']
  have h3 : a ||| b < 2 ^ 64 := Nat.or_lt_two_pow (n := 64) ha hb
  show IntKind.u64.wrap ((BitVec.ofInt 64 (a : Int) ||| BitVec.ofInt 64 (b : Int)).toNat : Int) = _
  rw [BitVec.ofInt_natCast, BitVec.ofInt_natCast, h]
  exact wraps_u64 _ (Int.natCast_nonneg _) (by omega)
set_option maxRecDepth 100000 in
set_option maxHeartbeats 2000000 in
theorem cIntW_core (n : Int) (x : Nat) (dS : Nat → List Nat) (w : World) (h0 : IntKind.u64.wrap n = (x : Int)) (hx : x < 18446744073709551616) (hd0 : Hid (dS 0 = z8)) (hds : Hid (∀ k, k < 8 → dS (k + 1) = (dS k).set k (x / 2 ^ (8 * (7 - k)) % 256))) (hdl : Hid (∀ k, (dS k).length = 8)) :
    Calls Tryd.prog 26 #[.int .i64 n] w fun e w' => ∃ v, e = .returned v ∧ PF w.heap.size 8 (U8 (dS 8)) w' v ∧ Below w.heap.size w w' := by
  have hmk := mk8
  go_enter Tryd.func26, Tryd.ntmps26
  go_wp2_with fail
  go_loopw [8] (fun s8 wr => ∃ k : Nat, k ≤ 8 ∧ s8 = .int .i64 (k : Int) ∧ Hid (CV wr w.heap.size (U8 (dS k))) ∧ w.heap.size < wr.heap.size ∧ Below w.heap.size w wr) (fun s8 _ => 8 - (intOf s8).toNat)
  case atStart => exact ⟨0, by omega, rfl, (by rw [hd0.out]; exact CV.new _ _ _), by simp, balloc (bself w) _⟩
  case round =>
    obtain ⟨k, hk, rfl, Kv, hlt, HBr⟩ := hrel
    by_cases hj : k < 8
    · have hl2 : (k : Int) < 8 := by omega
      have hcl2 := hdl.out k
      have hs := hds.out k hj
      have hcel := (Kv.out k _ (U8_get (dS k) k (by omega))).1
      have hfr := (Kv.out k _ (U8_get (dS k) k (by omega))).2
      have w4 : IntKind.i64.wrap ((k : Int) + 1) = ((k + 1 : Nat) : Int) := by rw [IntKind.wrap_i64]; omega
      obtain ⟨s, es⟩ : ∃ s, 8 * (7 - k) = s := ⟨_, rfl⟩
      have w5 : IntKind.i64.wrap (7 - (k : Int)) = 7 - (k : Int) := by rw [IntKind.wrap_i64]; omega
      have w6 : IntKind.i64.wrap (8 * (7 - (k : Int))) = (s : Int) := by rw [IntKind.wrap_i64]; omega
      have hsh := fun u => shr64w x s u hx (by omega)
      rw [es] at hs
      obtain ⟨y, ey⟩ : ∃ y, x / 2 ^ s = y := ⟨_, rfl⟩
      simp only [ey] at hsh
      rw [ey] at hs
      obtain ⟨r, er⟩ : ∃ r, y % 256 = r := ⟨_, rfl⟩
      rw [er] at hs
      have w1 : IntKind.u8.wrap (y : Int) = (r : Int) := by simp [IntKind.wrap, IntKind.signed, IntKind.bits]; omega
      have hre : (x : Int) / 2 ^ min s 64 % 256 = (r : Int) := by
        have h1 : ((x : Int) / 2 ^ s) = ((x / 2 ^ s : Nat) : Int) := by rw [Int.natCast_ediv, Int.natCast_pow]; rfl
        rw [show min s 64 = s by omega, h1, ey]; omega
      have hK2 : Hid (CV (wr.setCell ⟨w.heap.size, k, none⟩ (.int .u8 (r : Int))) w.heap.size (U8 (dS (k + 1)))) := by
        rw [hs, U8_set]; exact Kv.out.setC k (by rw [U8_len]; omega) _
      clear er ey es hs
      go_wp2
      refine ⟨⟨k + 1, by omega, rfl, hK2, by simpa using hlt, HBr.setCell (Nat.le_refl _) _⟩, ?_⟩
      simp [intOf]; omega
    · obtain rfl : k = 8 := by omega
      have hl2 : ¬ (8 : Int) < (8 : Int) := by omega
      go_wp2
      exact bodyPost_ret (v := .slice (some ⟨w.heap.size, 0, none⟩) 8 8) (by simp [results, Tryd.results26, go_sem]) rfl ⟨_, rfl, ⟨w.heap.size, rfl, Nat.le_refl _, hlt, Kv.out⟩, HBr⟩
def dN (x : Nat) : Nat → List Nat
  | 0 => z8
  | k + 1 => (dN x k).set k (x / 2 ^ (8 * (7 - k)) % 256)
theorem dN_len (x : Nat) : ∀ k, (dN x k).length = 8
  | 0 => rfl
  | k + 1 => by rw [dN, List.length_set, dN_len x k]
theorem dN_is (x : Nat) : dN x 8 = int8 x 8 := by
  simp [dN, int8, z8, List.replicate, Nat.div_div_eq_div_mul]
theorem cIntW (n : Int) (w : World) :
    Calls Tryd.prog 26 #[.int .i64 n] w fun e w' => ∃ v, e = .returned v ∧ PF w.heap.size 8 (U8 (int8 (u64n n) 8)) w' v ∧ Below w.heap.size w w' := by
  rw [← dN_is]
  exact cIntW_core n (u64n n) (dN (u64n n)) w (by rw [IntKind.wrap_u64]; unfold u64n; omega) (u64n_lt n) rfl (fun k _ => rfl) (dN_len _)
set_option maxRecDepth 100000 in
set_option maxHeartbeats 2000000 in
theorem cReadIntW_core (len gcap : Nat) (gsl : Option Addr) (bs : List Nat) (xS : Nat → Nat) (ev r : Int) (w : World) (hG : GW w) (hbl : bs.length = len) (hll : len ≤ 100000)
    (hrow : Hid (0 < len → ∃ gb go, gsl = some ⟨gb, go, none⟩ ∧ gb < w.heap.size ∧ SB w gb go bs)) (hx : Hid (∀ i, bs.getD i 0 < 256)) (hx0 : xS 0 = 0) (hxs : Hid (∀ i, i < len → xS (i + 1) = 256 * xS i + bs.getD i 0)) (hxb : Hid (∀ i, i ≤ 8 → xS i < 256 ^ i))
    (hE1 : len ≠ 8 → ev = 80 ∧ r = 0) (hE2 : Hid (len = 8 → ev = 0 ∧ r = IntKind.i64.wrap (xS 8 : Int))) :
    Calls Tryd.prog 20 #[.slice gsl len gcap] w fun e w' => e = .returned (.tuple #[.int .i64 r, .int .i64 ev]) ∧ Below w.heap.size w w' := by
  by_cases h8 : len = 8
  · obtain ⟨rfl, er⟩ := hE2.out h8
    subst h8
    obtain ⟨gb, go, rfl, hgb, hsb⟩ := hrow.out (by omega)
    go_enter Tryd.func20, Tryd.ntmps20
    go_wp2_with fail
    go_loopw [21, 4] (fun s5 s4 wr => ∃ k : Nat, k ≤ 8 ∧ s5 = .int .i64 (k : Int) ∧ s4 = .int .u64 (xS k : Int) ∧ wr = w) (fun s5 _ _ => 8 - (intOf s5).toNat)
    case atStart => exact ⟨0, by omega, rfl, by rw [hx0]; rfl, rfl⟩
    case round =>
      obtain ⟨k, hk, rfl, rfl, hw⟩ := hrel
      have hw := hw.symm
      subst hw
      by_cases hj : k < 8
      · have hl2 : (k : Int) < 8 := by omega
        have hl3 : (k : Int) < (bs.length : Int) := by omega
        have hc := hsb k (by omega)
        have hs := hxs.out k (by omega)
        have hb1 := hxb.out (k + 1) (by omega)
        have hy := hx.out k
        obtain ⟨y, ey⟩ : ∃ y, bs.getD k 0 = y := ⟨_, rfl⟩
        rw [ey] at hc hs hy
        obtain ⟨a, ea⟩ : ∃ a, xS k = a := ⟨_, rfl⟩
        rw [ea] at hs
        rw [ea]
        have hpw : 256 ^ (k + 1) ≤ 256 ^ 8 := Nat.pow_le_pow_right (by decide) (by omega)
        have hb2 : 256 * a + y < 18446744073709551616 := by
          have : 256 ^ 8 = 18446744073709551616 := by decide
          omega
        have w3 : IntKind.u64.wrap (y : Int) = (y : Int) := by rw [IntKind.wrap_u64]; omega
        have w4 : IntKind.i64.wrap ((k : Int) + 1) = ((k + 1 : Nat) : Int) := by rw [IntKind.wrap_i64]; omega
        have w1 : IntKind.u64.wrap ((a : Int) * 256) = ((256 * a : Nat) : Int) := by rw [IntKind.wrap_u64]; omega
        have hor : bits .or .u64 ((256 * a : Nat) : Int) (y : Int) = ((256 * a + y : Nat) : Int) := by rw [← or256 a y hy]; exact bit_or64w (256 * a) y (by omega) (by omega)
        obtain ⟨a2, ea2⟩ : ∃ z, 256 * a = z := ⟨_, rfl⟩
        obtain ⟨a3, ea3⟩ : ∃ z, 256 * a + y = z := ⟨_, rfl⟩
        rw [ea3, ea2] at hor
        rw [ea2] at w1
        rw [ea3] at hs
        clear ea ey hpw hb1 ea2 ea3 hb2
        go_wp2
        refine ⟨⟨k + 1, by omega, by simp, by rw [hs], by first | rfl | trivial⟩, ?_⟩
        simp [intOf]; omega
      · obtain rfl : k = 8 := by omega
        have hl2 : ¬ (8 : Int) < 8 := by omega
        obtain ⟨a, ea⟩ : ∃ a, xS 8 = a := ⟨_, rfl⟩
        rw [ea] at er
        rw [ea]
        obtain ⟨z, ez⟩ : ∃ z, IntKind.i64.wrap (a : Int) = z := ⟨_, rfl⟩
        rw [ez] at er
        subst er
        go_wp2
        exact bodyPost_ret (v := .tuple #[.int .i64 r, .int .i64 0]) (by simp [results, Tryd.results20, go_sem]) rfl ⟨rfl, Below.refl _ _⟩
  · obtain ⟨rfl, rfl⟩ := hE1 h8
    have h9 : ¬ (len : Int) = 8 := by omega
    have hI := cItoa (len : Int) w (by omega) (by omega) hG
    go_enter Tryd.func20, Tryd.ntmps20
    go_wp2_with (first
      | (go_at_call 35; refine hI.mono ?_; clear hI; rintro e ua ⟨s, rfl, hs, hBa⟩; have hw1 : ¬ 9223372036854775807 < 12 + s.size := (by omega); have hw2 : ¬ 9223372036854775807 < 12 + s.size + 6 := (by omega); have hT := cTold 80 (.iface 62 (.agg #[.string (⟨#[97, 32, 110, 117, 109, 98, 101, 114, 32, 111, 102, 32]⟩ ++ s ++ ⟨#[32, 98, 121, 116, 101, 115]⟩), .iface 25 (.int .i64 80)])) ua (hG.below hBa) (.inr ⟨by decide, .wrap _ _ .leaf⟩))
      | (go_at_call 33; refine hT.mono ?_; clear hT; rintro e ub ⟨rfl, hBb⟩))
    exact bodyPost_ret (v := .tuple #[.int .i64 0, .int .i64 80]) (by simp [results, Tryd.results20, go_sem]) rfl ⟨rfl, bstep hBa hBb⟩
theorem cReadIntW (bs : List Nat) (v : Value) (w : World) (hG : GW w) (h : IN w w.heap.size v bs) (hb : bytOk bs) :
    Calls Tryd.prog 20 #[v] w fun e w' => e = .returned (.tuple #[.int .i64 (rdIX bs), .int .i64 (rdIE bs)]) ∧ Below w.heap.size w w' := by
  obtain ⟨sl, cap, gb, go, rfl, h2, h3, h4, h5⟩ := h
  refine cReadIntW_core bs.length cap sl bs (fun i => num8 (bs.take i)) (rdIE bs) (rdIX bs) w hG rfl (Nat.le_trans hb.1 (by decide)) (fun h0 => ⟨gb, go, h3.resolve_left (by omega), h4, h5⟩) (getD_lt256 hb.2) rfl (fun i hi => num8_step hi) (fun i _ => num8_lt (getD_lt256 hb.2) i) (fun h => ?_) (fun h => ?_)
  · simp [rdIE, rdIX, h]
  · have e : bs.take 8 = bs := by rw [← h]; exact List.take_length
    simp [rdIE, rdIX, h, e]
end Go.Proofs.YtjekkdckjnlkcaaDoor
