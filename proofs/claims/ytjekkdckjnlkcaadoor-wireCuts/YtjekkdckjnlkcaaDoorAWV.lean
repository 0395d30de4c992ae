/- Wire: bytes.Clone, withLength, firstOf. -/
import Derived.Test.YtjekkdckjnlkcaaDoorWS
import Derived.Test.YtjekkdckjnlkcaaDoorAWB
import Derived.Lib.SliceRun
namespace Go.Proofs.YtjekkdckjnlkcaaDoor
open Go.RowKit
set_option linter.unusedVariables false
set_option linter.unusedSimpArgs false
theorem eqlNil (w : World) (a : Option Addr) (n c n' c' : Nat) : (binOp .eql 24 (.slice a n c) (.slice none n' c')).run Tryd.prog w = .ok (.bool a.isNone) w := Lib.run_eql_slice_nil w _ _ a n c n' c' Tryd.underlying24
set_option maxRecDepth 100000 in
theorem cCloneN (n c : Nat) (w : World) : Calls Tryd.prog 34 #[.slice none n c] w fun e u => e = .returned (.slice none 0 0) ∧ u = w := by
  have hq := eqlNil
  go_enter Tryd.func34, Tryd.ntmps34
  go_wp2
  exact bodyPost_ret (v := .slice none 0 0) (by simp [results, Tryd.results34, go_sem]) rfl ⟨rfl, rfl⟩
set_option maxRecDepth 100000 in
/-- bytes.Clone of a slice that is not nil: a row of its own. -/
theorem cClone (ad : Addr) (n c : Nat) (bs : List Nat) (w : World) (h : IN w w.heap.size (.slice (some ad) n c) bs) (hl : bs.length ≤ 100000) :
    Calls Tryd.prog 34 #[.slice (some ad) n c] w fun e u => ∃ y, e = .returned y ∧ PG w.heap.size 1 bs.length (U8 bs) u y ∧ Below w.heap.size w u := by
  have hbs := bs0b
  obtain ⟨v1, ua, r1, hBa, hpg⟩ := round_aw h hl
  obtain ⟨b4, c4, z4, rfl, g1, g2, g3, g4, g5⟩ := hpg
  clear h
  have hq := eqlNil
  go_enter Tryd.func34, Tryd.ntmps34
  go_wp2_with (at_builtin; refine wpList_app2 rfl _ _ 24 rfl _ _ _ rfl rfl r1 ?_; clear r1)
  exact bodyPost_ret (v := .slice (some ⟨b4, 0, none⟩) bs.length c4) (by simp [results, Tryd.results34, go_sem]) rfl ⟨_, rfl, ⟨b4, c4, z4, rfl, g1, g2, g3, g4, g5⟩, hBa⟩
theorem NW_two (u : World) (x y : Nat) : NW 2 (U8 [x, y]) (u.alloc (.cells #[.int .u8 (x : Int), .int .u8 (y : Int)] 5)) (.slice (some ⟨u.heap.size, 0, none⟩) 2 2) :=
  ⟨_, 2, rfl, .inr ⟨_, rfl, fun j v hj => by rw [Addr.add0]; exact (CV.new u (U8 [x, y]) 5 j v hj).1⟩⟩
theorem bs2b (x y : Nat) (w : World) : (Instr.buildSlice 24 2 #[(0, .int .u8 (x : Int)), (1, .int .u8 (y : Int))]).run Tryd.prog w = .ok (.slice (some ⟨w.heap.size, 0, none⟩) 2 2) (w.alloc (.cells #[.int .u8 (x : Int), .int .u8 (y : Int)] 5)) := by kernel_rfl
set_option maxRecDepth 100000 in
set_option maxHeartbeats 2000000 in
/-- withLength onto a row of one's own. -/
theorem cWith (xs ys : List Nat) (zs : List Value) (bo m co lo : Nat) (y : Value) (w : World) (hlo : lo ≤ bo) (hlw : lo ≤ w.heap.size) (hb : bo < w.heap.size) (hc : CV w bo (U8 xs ++ zs)) (hxl : xs.length = m) (hmc : m ≤ co) (hz : zs.length = co - m) (hm : m ≤ 100000) (hy : IN w lo y ys) (hyl : ys.length ≤ 65535) :
    Calls Tryd.prog 41 #[.slice (some ⟨bo, 0, none⟩) m co, y] w fun e u => ∃ v, e = .returned v ∧ PH w.heap.size bo 1 (m + 2 + ys.length) (U8 ((xs ++ [ys.length / 256, ys.length % 256]) ++ ys)) u v ∧ Below lo w u := by
  obtain ⟨k, ek⟩ : ∃ k, ys.length = k := ⟨_, rfl⟩
  obtain ⟨sv, cv, gb, go, rfl, h2, h3, h4, h5⟩ := hy
  have hinp : IN w lo (.slice sv ys.length cv) ys := ⟨sv, cv, gb, go, rfl, h2, h3, h4, h5⟩
  rw [ek] at hinp hyl ⊢
  obtain ⟨q, eq⟩ : ∃ x, k / 256 = x := ⟨_, rfl⟩
  obtain ⟨r, er⟩ : ∃ x, k % 256 = x := ⟨_, rfl⟩
  rw [eq, er]
  have hq : q < 256 := by omega
  have hr : r < 256 := by omega
  have e1 : (k : Int) / 256 = (q : Int) := by omega
  have w1 : IntKind.i64.wrap (q : Int) = (q : Int) := by rw [IntKind.wrap_i64]; omega
  have w2 : IntKind.u8.wrap (q : Int) = (q : Int) := wraps_u8 _ (by omega) (by omega)
  have w3 : IntKind.u8.wrap (k : Int) = (r : Int) := by simp [IntKind.wrap, IntKind.signed, IntKind.bits]; omega
  have hB0 : Below w.heap.size w (w.alloc (.cells #[.int .u8 (q : Int), .int .u8 (r : Int)] 5)) := balloc (bself w) _
  have hss : w.heap.size ≤ (w.alloc (.cells #[.int .u8 (q : Int), .int .u8 (r : Int)] 5)).heap.size := by simp
  obtain ⟨v1, ua, r1, rg1, b1, c1, z1, rfl, g1, g2, g3, g4, g5⟩ := app_row (ty := 24) (hc.below hB0 hb) (Nat.lt_of_lt_of_le hb hss) hxl (m := 2) rfl hmc hz (by omega) (NW_two w q r)
  have hB1 : Below lo w ua := (hB0.mono hlw).grown rg1 (by omega) (fun j e => by cases e; exact hlo)
  have hol : (xs ++ [q, r]).length = m + 2 := by rw [List.length_append, hxl]; rfl
  have hnw : NW k (U8 ys) ua (.slice sv k cv) := by
    rw [← ek] at hinp ⊢
    exact IN_NW (hinp.below hB1)
  rw [Nat.mul_one] at g4
  have hb1 : lo ≤ b1 := by omega
  obtain ⟨v2, ub, r2, rg2, b2, c2, z2, rfl, f1, f2, f3, f4, f5⟩ := app_row (ty := 24) g5 g2 hol ek g3 g4 (by omega) hnw
  have hB2 : Below lo w ub := hB1.grown rg2 (by have := hB1.size; omega) (fun j e => by cases e; exact hb1)
  have hbs := bs2b q r
  have f5 : Hid _ := f5
  have g5 : Hid _ := g5
  have hf1 : b2 = bo ∨ w.heap.size ≤ b2 := by have := rg1.size; omega
  clear hnw hol rg1 rg2 hinp h5 hc eq er
  go_enter Tryd.func41, Tryd.ntmps41
  go_wp2_with (first | (at_builtin; refine wpList_app2 rfl _ _ 24 rfl _ _ _ rfl rfl r1 ?_; clear r1) | (at_builtin; refine wpList_app2 rfl _ _ 24 rfl _ _ _ rfl rfl r2 ?_; clear r2))
  exact bodyPost_ret (v := .slice (some ⟨b2, 0, none⟩) (m + 2 + k) c2) (by simp [results, Tryd.results41, go_sem]) rfl ⟨_, rfl, ⟨b2, c2, z2, rfl, hf1, f2, f3, f4, f5.out⟩, hB2⟩
theorem shlI (p q : Operand) (a : Nat) (w : World) (h : a < 256) : (do eqGuard .shl 3 p q (.int .i64 a) (.int .u64 8); binOp .shl 3 (.int .i64 a) (.int .u64 8) : Sem Value).run Tryd.prog w = .ok (.int .i64 ((256 * a : Nat) : Int)) w := by
  have e : IntKind.i64.wrap ((a : Int) * 256) = 256 * (a : Int) := by rw [IntKind.wrap_i64]; omega
  go_simp
  all_goals first | done | exact e | (push_cast; exact e)
theorem or256 (a b : Nat) (hb : b < 256) : 256 * a ||| b = 256 * a + b := by
  have := Nat.shiftLeft_add_eq_or_of_lt (show b < 2 ^ 8 from hb) a
  rw [Nat.shiftLeft_eq] at this
  rw [Nat.mul_comm, ← this]
theorem orI (p q : Operand) (a b : Nat) (w : World) (ha : a < 256) (hb : b < 256) : (do eqGuard .or 3 p q (.int .i64 ((256 * a : Nat) : Int)) (.int .i64 b); binOp .or 3 (.int .i64 ((256 * a : Nat) : Int)) (.int .i64 b) : Sem Value).run Tryd.prog w = .ok (.int .i64 ((256 * a + b : Nat) : Int)) w := by
  rw [ori p q (256 * a) b w (by omega) (by omega), or256 a b hb]
/-- b[d:] -/
theorem slLo (gb go len cap d : Nat) (h1 : d ≤ len) (hc : len ≤ cap) : ∃ o, (len - d = 0 ∨ o = go + d) ∧ ∀ w, (Instr.sliceAt 24 (.slice (some ⟨gb, go, none⟩) len cap) (some (.int .i64 (d : Int))) none none).run Tryd.prog w = .ok (.slice (some ⟨gb, o, none⟩) (len - d) (cap - d)) w := by
  have h3 : (d : Int) ≤ len := by omega
  have h4 : (len : Int) ≤ cap := by omega
  have h5 : d ≤ cap := by omega
  by_cases e : cap = d
  · refine ⟨go, .inl (by omega), fun w => ?_⟩
    simp [Instr.sliceAt, Instr.slice, go_sem, Tryd.underlying24, h1, h3, h4, h5, hc, e]
  · refine ⟨go + d, .inr rfl, fun w => ?_⟩
    simp [Instr.sliceAt, Instr.slice, go_sem, Tryd.underlying24, h1, h3, h4, h5, hc, e]
/-- b[:k] -/
theorem slHi (gb go len cap k : Nat) (h1 : k ≤ len) (hc : len ≤ cap) : ∀ w, (Instr.sliceAt 24 (.slice (some ⟨gb, go, none⟩) len cap) none (some (.int .i64 (k : Int))) none).run Tryd.prog w = .ok (.slice (some ⟨gb, go, none⟩) k cap) w := fun w => by
  have h3 : (k : Int) ≤ cap := by omega
  have h5 : k ≤ cap := by omega
  by_cases e : cap = 0
  · obtain rfl : k = 0 := by omega
    simp [Instr.sliceAt, Instr.slice, go_sem, Tryd.underlying24, h1, h3, h5, hc, e]
  · simp [Instr.sliceAt, Instr.slice, go_sem, Tryd.underlying24, h1, h3, h5, hc, e]
end Go.Proofs.YtjekkdckjnlkcaaDoor
