/- SHA-256: the state behind a block. -/

import Derived.Test.YtlcjbnhfmcnnfaaDoorSH2
namespace Go.Proofs.YtlcjbnhfmcnnfaaDoor
open Go.RowKit
set_option linter.unusedVariables false
set_option linter.unusedSimpArgs false
def kcs : List Nat := [1116352408, 1899447441, 3049323471, 3921009573, 961987163, 1508970993, 2453635748, 2870763221, 3624381080, 310598401, 607225278, 1426881987, 1925078388, 2162078206, 2614888103, 3248222580, 3835390401, 4022224774, 264347078, 604807628, 770255983, 1249150122, 1555081692, 1996064986, 2554220882, 2821834349, 2952996808, 3210313671, 3336571891, 3584528711, 113926993, 338241895, 666307205, 773529912, 1294757372, 1396182291, 1695183700, 1986661051, 2177026350, 2456956037, 2730485921, 2820302411, 3259730800, 3345764771, 3516065817, 3600352804, 4094571909, 275423344, 430227734, 506948616, 659060556, 883997877, 958139571, 1322822218, 1537002063, 1747873779, 1955562222, 2024104815, 2227730452, 2361852424, 2428436474, 2756734187, 3204031479, 3329325298]
def fst8 : List Nat := [1779033703, 3144134277, 1013904242, 2773480762, 1359893119, 2600822924, 528734635, 1541459225]
/-- The two variables hold what the text says. -/
structure GV (w : World) : Prop where
  sz : 1 < w.heap.size
  k : ∀ t, t < 64 → w.cell? ⟨0, t, none⟩ = some (.int .u32 ((kcs.getD t 0 : Nat) : Int))
  f : ∀ t, t < 8 → w.cell? ⟨1, t, none⟩ = some (.int .u32 ((fst8.getD t 0 : Nat) : Int))
theorem GV.below {w w' : World} {m : Nat} (h : GV w) (hB : Below m w w') (hm : 1 < m) : GV w' where
  sz := Nat.lt_of_lt_of_le h.sz hB.size
  k := fun t ht => (hB.cell (p := ⟨0, t, none⟩) (by show 0 < m; omega)).trans (h.k t ht)
  f := fun t ht => (hB.cell (p := ⟨1, t, none⟩) hm).trans (h.f t ht)
theorem kcs_lt : ∀ t, t < 64 → kcs.getD t 0 < M32 := by decide
def tw1 (s : List Nat) (k w : Nat) : Nat := ((((s.getD 7 0 + gs1 (s.getD 4 0)) % 4294967296 + chN (s.getD 4 0) (s.getD 5 0) (s.getD 6 0)) % 4294967296 + k) % 4294967296 + w) % 4294967296
def tw2 (s : List Nat) : Nat := (gs0 (s.getD 0 0) + maN (s.getD 0 0) (s.getD 1 0) (s.getD 2 0)) % 4294967296
/-- A step. -/
def st8 (s : List Nat) (k w : Nat) : List Nat := [(tw1 s k w + tw2 s) % 4294967296, s.getD 0 0, s.getD 1 0, s.getD 2 0, (s.getD 3 0 + tw1 s k w) % 4294967296, s.getD 4 0, s.getD 5 0, s.getD 6 0]
def rds (ss ws : List Nat) : Nat → List Nat
  | 0 => ss
  | i + 1 => st8 (rds ss ws i) (kcs.getD i 0) (ws.getD i 0)
def sms (ss vs : List Nat) : Nat → List Nat
  | 0 => ss
  | i + 1 => (sms ss vs i).set i (((sms ss vs i).getD i 0 + vs.getD i 0) % 4294967296)
def blk (ss bs : List Nat) : List Nat := sms ss (rds ss (spread bs) 64) 8
theorem st8_W {s : List Nat} (h : WW 8 s) (k w : Nat) : WW 8 (st8 s k w) where
  len := rfl
  lt := fun j => by
    rcases (by omega : j = 0 ∨ j = 1 ∨ j = 2 ∨ j = 3 ∨ j = 4 ∨ j = 5 ∨ j = 6 ∨ j = 7 ∨ 8 ≤ j) with rfl | rfl | rfl | rfl | rfl | rfl | rfl | rfl | h8
    · exact Nat.mod_lt _ (by decide)
    · exact h.lt 0
    · exact h.lt 1
    · exact h.lt 2
    · exact Nat.mod_lt _ (by decide)
    · exact h.lt 4
    · exact h.lt 5
    · exact h.lt 6
    · rw [List.getD_eq_getElem?_getD, List.getElem?_eq_none (by show 8 ≤ j; exact h8)]; decide
theorem rds_W {ss : List Nat} (h : WW 8 ss) (ws : List Nat) : ∀ i, WW 8 (rds ss ws i)
  | 0 => h
  | i + 1 => st8_W (rds_W h ws i) _ _
theorem sms_W {ss : List Nat} (h : WW 8 ss) (vs : List Nat) : ∀ i, WW 8 (sms ss vs i)
  | 0 => h
  | i + 1 => (sms_W h vs i).set _ _ (Nat.mod_lt _ (by decide))
theorem spread_W (bs : List Nat) (hb : ∀ j, bs.getD j 0 < 256) : WW 64 (spread bs) := spB_W (spA_W bs hb 64) 48
theorem blk_W {ss : List Nat} (h : WW 8 ss) (bs : List Nat) : WW 8 (blk ss bs) := sms_W h _ 8
theorem list8 {l : List Nat} (h : l.length = 8) : l = [l.getD 0 0, l.getD 1 0, l.getD 2 0, l.getD 3 0, l.getD 4 0, l.getD 5 0, l.getD 6 0, l.getD 7 0] := by
  match l, h with
  | [a, b, c, d, e, f, g, i], _ => rfl
end Go.Proofs.YtlcjbnhfmcnnfaaDoor
