/- SHA-256: a word for each step. -/

import Derived.Test.YtlcjbnhfmcnnfaaDoorSP
namespace Go.Proofs.YtlcjbnhfmcnnfaaDoor
open Go.RowKit
set_option linter.unusedVariables false
set_option linter.unusedSimpArgs false
def z64 : List Nat := List.replicate 64 0
def z8 : List Nat := List.replicate 8 0
def z32 : List Nat := List.replicate 32 0
abbrev Z64w : List Value := [.int .u32 0, .int .u32 0, .int .u32 0, .int .u32 0, .int .u32 0, .int .u32 0, .int .u32 0, .int .u32 0, .int .u32 0, .int .u32 0, .int .u32 0, .int .u32 0, .int .u32 0, .int .u32 0, .int .u32 0, .int .u32 0, .int .u32 0, .int .u32 0, .int .u32 0, .int .u32 0, .int .u32 0, .int .u32 0, .int .u32 0, .int .u32 0, .int .u32 0, .int .u32 0, .int .u32 0, .int .u32 0, .int .u32 0, .int .u32 0, .int .u32 0, .int .u32 0, .int .u32 0, .int .u32 0, .int .u32 0, .int .u32 0, .int .u32 0, .int .u32 0, .int .u32 0, .int .u32 0, .int .u32 0, .int .u32 0, .int .u32 0, .int .u32 0, .int .u32 0, .int .u32 0, .int .u32 0, .int .u32 0, .int .u32 0, .int .u32 0, .int .u32 0, .int .u32 0, .int .u32 0, .int .u32 0, .int .u32 0, .int .u32 0, .int .u32 0, .int .u32 0, .int .u32 0, .int .u32 0, .int .u32 0, .int .u32 0, .int .u32 0, .int .u32 0]
abbrev Z8w : List Value := [.int .u32 0, .int .u32 0, .int .u32 0, .int .u32 0, .int .u32 0, .int .u32 0, .int .u32 0, .int .u32 0]
abbrev Z32b : List Value := [.int .u8 0, .int .u8 0, .int .u8 0, .int .u8 0, .int .u8 0, .int .u8 0, .int .u8 0, .int .u8 0, .int .u8 0, .int .u8 0, .int .u8 0, .int .u8 0, .int .u8 0, .int .u8 0, .int .u8 0, .int .u8 0, .int .u8 0, .int .u8 0, .int .u8 0, .int .u8 0, .int .u8 0, .int .u8 0, .int .u8 0, .int .u8 0, .int .u8 0, .int .u8 0, .int .u8 0, .int .u8 0, .int .u8 0, .int .u8 0, .int .u8 0, .int .u8 0]
theorem lss_i (p q : Operand) (x y : Int) (b : Bool) (w : World) (h : decide (x < y) = b) : (do eqGuard .lss 3 p q (.int .i64 x) (.int .i64 y); binOp .lss 3 (.int .i64 x) (.int .i64 y) : Sem Value).run Tryd.prog w = .ok (.bool b) w := by
  subst h; go_simp
theorem add_i (p q : Operand) (x y z : Int) (w : World) (h : x + y = z) (h1 : -9223372036854775808 ≤ z) (h2 : z < 9223372036854775808) : (do eqGuard .add 3 p q (.int .i64 x) (.int .i64 y); binOp .add 3 (.int .i64 x) (.int .i64 y) : Sem Value).run Tryd.prog w = .ok (.int .i64 z) w := by
  have e : IntKind.i64.wrap z = z := by rw [IntKind.wrap_i64]; omega
  subst h; go_simp
theorem sub_i (p q : Operand) (x y z : Int) (w : World) (h : x - y = z) (h1 : -9223372036854775808 ≤ z) (h2 : z < 9223372036854775808) : (do eqGuard .sub 3 p q (.int .i64 x) (.int .i64 y); binOp .sub 3 (.int .i64 x) (.int .i64 y) : Sem Value).run Tryd.prog w = .ok (.int .i64 z) w := by
  have e : IntKind.i64.wrap z = z := by rw [IntKind.wrap_i64]; omega
  subst h; go_simp
theorem quo_n (p q : Operand) (x y : Nat) (w : World) (h1 : x < 1000000) (h2 : 0 < y) : (do eqGuard .quo 3 p q (.int .i64 x) (.int .i64 y); binOp .quo 3 (.int .i64 x) (.int .i64 y) : Sem Value).run Tryd.prog w = .ok (.int .i64 ((x / y : Nat) : Int)) w := by
  have e0 : ((x : Int)).tdiv y = ((x / y : Nat) : Int) := by rw [Int.tdiv_eq_ediv_of_nonneg (Int.natCast_nonneg _)]; simp
  have hle : x / y ≤ x := Nat.div_le_self _ _
  obtain ⟨z, hz⟩ : ∃ z, x / y = z := ⟨_, rfl⟩
  rw [hz] at e0 hle ⊢
  have e : IntKind.i64.wrap (z : Int) = (z : Int) := by rw [IntKind.wrap_i64]; omega
  have hy : (y : Int) ≠ 0 := by omega
  have hy2 : ¬ y = 0 := by omega
  go_simp
theorem cv8 {o : Oper} {ev : Operand → Value} {x : Operand} {n : Nat} (u : World) (h1 : n < 256) (ho : o.op = .convert 5 64 x) (hx : ev x = .int .u8 (n : Int)) : (execOp ev o).run Tryd.prog u = .ok (.value (.int .u32 (n : Int))) u := by
  have e1 : IntKind.u32.wrap (n : Int) = (n : Int) := wraps_u32 _ (by omega) (by omega)
  unfold execOp; rw [ho]; simp only [hx]; go_simp
/-- The words of the block. -/
def spA (bs : List Nat) : Nat → List Nat
  | 0 => z64
  | k + 1 => (spA bs k).set (k / 4) (((spA bs k).getD (k / 4) 0 <<< 8) % 4294967296 ||| bs.getD k 0)
def spS (l : List Nat) (t : Nat) : Nat := (((ls1 (l.getD (t - 2) 0) + l.getD (t - 7) 0) % 4294967296 + ls0 (l.getD (t - 15) 0)) % 4294967296 + l.getD (t - 16) 0) % 4294967296
/-- And what comes of them. -/
def spB (ws : List Nat) : Nat → List Nat
  | 0 => ws
  | k + 1 => (spB ws k).set (k + 16) (spS (spB ws k) (k + 16))
def spread (bs : List Nat) : List Nat := spB (spA bs 64) 48
structure WW (n : Nat) (l : List Nat) : Prop where
  len : l.length = n
  lt : ∀ j, l.getD j 0 < M32
theorem getD_set (l : List Nat) (i j x : Nat) : (l.set i x).getD j 0 = if i = j ∧ j < l.length then x else l.getD j 0 := by
  by_cases h : i = j
  · subst h
    by_cases h2 : i < l.length
    · rw [if_pos ⟨rfl, h2⟩]; simp [h2]
    · rw [if_neg (fun h => h2 h.2)]; simp [List.getElem?_eq_none (show l.length ≤ i by omega), List.getElem?_set, h2]
  · rw [if_neg (fun h' => h h'.1)]; simp [List.getElem?_set, h]
theorem WW.set {n : Nat} {l : List Nat} (h : WW n l) (i x : Nat) (hx : x < M32) : WW n (l.set i x) where
  len := by rw [List.length_set]; exact h.len
  lt := fun j => by
    rw [getD_set]; split
    · exact hx
    · exact h.lt j
theorem WW_z64 : WW 64 z64 := ⟨rfl, fun j => by
  unfold z64; simp only [List.getD_eq_getElem?_getD, List.getElem?_replicate]; split <;> decide⟩
theorem spA_W (bs : List Nat) (hb : ∀ j, bs.getD j 0 < 256) : ∀ k, WW 64 (spA bs k)
  | 0 => WW_z64
  | k + 1 => (spA_W bs hb k).set _ _ (or_lt (Nat.mod_lt _ (by decide)) (Nat.lt_of_lt_of_le (hb k) (by decide)))
theorem spS_lt (l : List Nat) (t : Nat) : spS l t < M32 := Nat.mod_lt _ (by decide)
theorem spB_W {ws : List Nat} (h : WW 64 ws) : ∀ k, WW 64 (spB ws k)
  | 0 => h
  | k + 1 => (spB_W h k).set _ _ (spS_lt _ _)
end Go.Proofs.YtlcjbnhfmcnnfaaDoor
