/- The field of 256 and the substitutes: the numbers of AES. -/
import Derived.Test.YtjekkdckjnlkcaaDoorGR
import Derived.Test.YtjekkdckjnlkcaaDoorSB
import Derived.Lib.ConvBytes
import Derived.DeepKeys
import Derived.Lib.AppendZerosOnto
namespace Go.Proofs.YtjekkdckjnlkcaaDoor
open Go.RowKit
set_option linter.unusedVariables false
set_option linter.unusedSimpArgs false
end Go.Proofs.YtjekkdckjnlkcaaDoor
/- Blocks of AES: the rounds and their way back. -/
namespace Go.Proofs.YtjekkdckjnlkcaaDoor
open Go.RowKit
set_option linter.unusedVariables false
set_option linter.unusedSimpArgs false
/-- So many bytes. -/
structure BY (n : Nat) (l : List Nat) : Prop where
  len : l.length = n
  lt : ∀ j, l.getD j 0 < 256
theorem gset (l : List Nat) (i j x : Nat) : (l.set i x).getD j 0 = if i = j ∧ j < l.length then x else l.getD j 0 := by
  rw [List.getD_eq_getElem?_getD, List.getD_eq_getElem?_getD, List.getElem?_set]
  by_cases h : i = j
  · subst h
    by_cases h2 : i < l.length
    · simp [h2]
    · simp [h2]
  · simp [h]
theorem BY.set {n : Nat} {l : List Nat} (h : BY n l) (i x : Nat) (hx : x < 256) : BY n (l.set i x) where
  len := by rw [List.length_set]; exact h.len
  lt j := by
    rw [gset]; split
    · exact hx
    · exact h.lt j
end Go.Proofs.YtjekkdckjnlkcaaDoor
/- Keys of rounds; loops that fill a block; the chapter's example. -/
namespace Go.Proofs.YtjekkdckjnlkcaaDoor
open Go.RowKit
set_option linter.unusedVariables false
set_option linter.unusedSimpArgs false
theorem gapp1 {a b : List Nat} {j : Nat} (h : j < a.length) : (a ++ b).getD j 0 = a.getD j 0 := by
  rw [List.getD_eq_getElem?_getD, List.getD_eq_getElem?_getD, List.getElem?_append_left h]
theorem gapp2 {a b : List Nat} {j : Nat} (h : a.length ≤ j) : (a ++ b).getD j 0 = b.getD (j - a.length) 0 := by
  rw [List.getD_eq_getElem?_getD, List.getD_eq_getElem?_getD, List.getElem?_append_right h]
theorem BY.app {n m : Nat} {a b : List Nat} (ha : BY n a) (hb : BY m b) : BY (n + m) (a ++ b) := ⟨by rw [List.length_append, ha.len, hb.len], fun j => by
  by_cases h : j < a.length
  · rw [gapp1 h]; exact ha.lt j
  · rw [gapp2 (by omega)]; exact hb.lt _⟩
end Go.Proofs.YtjekkdckjnlkcaaDoor
/- Bytes that are chained, with the last two blocks changed, and their way back: the numbers of seal. -/
namespace Go.Proofs.YtjekkdckjnlkcaaDoor
open Go.RowKit
set_option linter.unusedVariables false
set_option linter.unusedSimpArgs false
theorem gtake (l : List Nat) (n : Nat) {j : Nat} (h : j < n) : (l.take n).getD j 0 = l.getD j 0 := by
  rw [List.getD_eq_getElem?_getD, List.getD_eq_getElem?_getD, List.getElem?_take_of_lt h]
theorem gdrop (l : List Nat) (n j : Nat) : (l.drop n).getD j 0 = l.getD (n + j) 0 := by
  rw [List.getD_eq_getElem?_getD, List.getD_eq_getElem?_getD, List.getElem?_drop]
theorem gout {l : List Nat} {j : Nat} (h : l.length ≤ j) : l.getD j 0 = 0 := by
  rw [List.getD_eq_getElem?_getD, List.getElem?_eq_none h]; rfl
theorem BY.take {m : Nat} {l : List Nat} (h : BY m l) (n : Nat) (hn : n ≤ m) : BY n (l.take n) := ⟨by rw [List.length_take, h.len]; omega, fun j => by
  by_cases hj : j < n
  · rw [gtake l n hj]; exact h.lt j
  · rw [gout (by rw [List.length_take]; omega)]; decide⟩
theorem BY.drop {m : Nat} {l : List Nat} (h : BY m l) (n : Nat) : BY (m - n) (l.drop n) := ⟨by rw [List.length_drop, h.len], fun j => by rw [gdrop]; exact h.lt _⟩
end Go.Proofs.YtjekkdckjnlkcaaDoor
/- Fields and lists as bytes, and their way back: the numbers of wire. -/
namespace Go.Proofs.YtjekkdckjnlkcaaDoor
open Go.RowKit
set_option linter.unusedVariables false
set_option linter.unusedSimpArgs false
/-- A field: its tag, its bytes. -/
abbrev Fld := Nat × List Nat
def putF : List Fld → List Nat
  | [] => []
  | (t, b) :: l => t :: b.length / 256 :: b.length % 256 :: (b ++ putF l)
/-- Fields that are a value, behind a tag. -/
def okF : Nat → List Fld → Prop
  | _, [] => True
  | last, (t, b) :: l => last < t ∧ t ≤ 255 ∧ b.length ≤ 65535 ∧ (∀ x ∈ b, x < 256) ∧ okF t l
def rdF : Nat → Nat → List Nat → Option (List Fld)
  | _, _, [] => some []
  | f + 1, last, t :: h :: l :: r => if t ≤ last ∨ r.length < 256 * h + l then none else (rdF f t (r.drop (256 * h + l))).map fun m => (t, r.take (256 * h + l)) :: m
  | _, _, _ => none
theorem two (n : Nat) : 256 * (n / 256) + n % 256 = n := by omega
theorem rd_put : ∀ {l : List Fld} {last : Nat}, okF last l → ∀ f, l.length ≤ f → rdF f last (putF l) = some l
  | [], last, _, f, _ => by cases f <;> rfl
  | (t, b) :: l, last, h, 0, hf => by simp at hf
  | (t, b) :: l, last, h, f + 1, hf => by
    obtain ⟨h1, h2, h3, h4, h5⟩ := h
    rw [putF, rdF, two, if_neg (by rw [List.length_append]; omega), List.drop_left, List.take_left, rd_put h5 f (by simpa using hf)]
    rfl
theorem rd_some : ∀ {f last : Nat} {b : List Nat} {m : List Fld}, rdF f last b = some m → (∀ x ∈ b, x < 256) → putF m = b ∧ okF last m
  | f, last, [], m, h, _ => by
    have e : m = [] := by cases f <;> (simp [rdF] at h; exact h)
    subst e; exact ⟨rfl, trivial⟩
  | f + 1, last, t :: h :: l :: r, m, hr, hx => by
    rw [rdF] at hr
    by_cases hc : t ≤ last ∨ r.length < 256 * h + l
    · rw [if_pos hc] at hr; cases hr
    · rw [if_neg hc] at hr
      cases hd : rdF f t (r.drop (256 * h + l)) with
      | none => rw [hd] at hr; cases hr
      | some m' =>
        rw [hd] at hr
        simp only [Option.map_some, Option.some.injEq] at hr
        subst hr
        obtain ⟨i1, i2⟩ := rd_some hd (fun x hx' => hx x (by simp [List.mem_of_mem_drop hx']))
        have hh := hx h (by simp)
        have hl := hx l (by simp)
        have ht := hx t (by simp)
        have hlen : (r.take (256 * h + l)).length = 256 * h + l := by rw [List.length_take]; omega
        refine ⟨?_, by omega, by omega, by omega, fun x hx' => hx x (by simp [List.mem_of_mem_take hx']), i2⟩
        rw [putF, hlen, i1, List.take_append_drop, show (256 * h + l) / 256 = h by omega, show (256 * h + l) % 256 = l by omega]
  | 0, last, t :: b, m, h, _ => by simp [rdF] at h
  | f + 1, last, [t], m, h, _ => by simp [rdF] at h
  | f + 1, last, [t, u], m, h, _ => by simp [rdF] at h
/-- What is cut short is another value, or none. -/
theorem rd_cut : ∀ {l : List Fld} {last k : Nat}, okF last l → k < (putF l).length → ∀ {f : Nat} {m : List Fld}, rdF f last ((putF l).take k) = some m → m.length < l.length
  | [], last, k, _, hk, f, m, h => by simp [putF] at hk
  | (t, b) :: l, last, 0, ho, hk, f, m, h => by
    have e : m = [] := by rw [List.take_zero] at h; cases f <;> (simp [rdF] at h; exact h)
    subst e; simp
  | (t, b) :: l, last, 1, ho, hk, f, m, h => by
    rw [putF] at h; cases f <;> simp [rdF] at h
  | (t, b) :: l, last, 2, ho, hk, f, m, h => by
    rw [putF] at h; cases f <;> simp [rdF] at h
  | (t, b) :: l, last, k + 3, ho, hk, 0, m, h => by
    rw [putF] at h; simp [rdF] at h
  | (t, b) :: l, last, k + 3, ho, hk, f + 1, m, h => by
    obtain ⟨h1, h2, h3, h4, h5⟩ := ho
    rw [putF] at h hk
    simp only [List.take_succ_cons] at h
    rw [rdF, two] at h
    simp only [List.length_cons, List.length_append] at hk
    by_cases hc : t ≤ last ∨ ((b ++ putF l).take k).length < b.length
    · rw [if_pos hc] at h; cases h
    · rw [if_neg hc] at h
      rw [List.length_take, List.length_append] at hc
      have hkb : b.length ≤ k := by omega
      have e : ((b ++ putF l).take k).drop b.length = (putF l).take (k - b.length) := by
        rw [List.drop_take, List.drop_left]
      rw [e] at h
      cases hd : rdF f t ((putF l).take (k - b.length)) with
      | none => rw [hd] at h; cases h
      | some m' =>
        rw [hd] at h
        simp only [Option.map_some, Option.some.injEq] at h
        subst h
        have := rd_cut h5 (by omega) hd
        simpa using this
def putL : List (List Nat) → List Nat
  | [] => []
  | b :: l => b.length / 256 :: b.length % 256 :: (b ++ putL l)
def rdL : Nat → List Nat → Option (List (List Nat))
  | _, [] => some []
  | f + 1, h :: l :: r => if r.length < 256 * h + l then none else (rdL f (r.drop (256 * h + l))).map fun m => r.take (256 * h + l) :: m
  | _, _ => none
theorem rdL_put : ∀ {l : List (List Nat)}, (∀ b ∈ l, b.length ≤ 65535) → ∀ f, l.length ≤ f → rdL f (putL l) = some l
  | [], _, f, _ => by cases f <;> rfl
  | b :: l, h, 0, hf => by simp at hf
  | b :: l, h, f + 1, hf => by
    rw [putL, rdL, two, if_neg (by rw [List.length_append]; omega), List.drop_left, List.take_left, rdL_put (fun x hx => h x (by simp [hx])) f (by simpa using hf)]
    rfl
/-- A number's eight bytes, the highest first. -/
def int8 (x : Nat) : Nat → List Nat
  | 0 => []
  | k + 1 => int8 (x / 256) k ++ [x % 256]
def num8 : List Nat → Nat := List.foldl (fun n b => 256 * n + b) 0
theorem num8_int8 : ∀ (k x : Nat), x < 256 ^ k → num8 (int8 x k) = x
  | 0, x, h => by simp at h; subst h; rfl
  | k + 1, x, h => by
    have h2 := num8_int8 k (x / 256) (by rw [Nat.pow_succ] at h; omega)
    unfold num8 at h2 ⊢
    rw [int8, List.foldl_append, h2]
    show 256 * (x / 256) + x % 256 = x
    omega
end Go.Proofs.YtjekkdckjnlkcaaDoor
/- The reference's block: the numbers. -/
namespace Go.Proofs.YtjekkdckjnlkcaaDoor
open Go.RowKit
set_option linter.unusedVariables false
set_option linter.unusedSimpArgs false
end Go.Proofs.YtjekkdckjnlkcaaDoor
/- The reference's small functions. -/
namespace Go.Proofs.YtjekkdckjnlkcaaDoor
open Go.RowKit
set_option linter.unusedVariables false
set_option linter.unusedSimpArgs false
end Go.Proofs.YtjekkdckjnlkcaaDoor
/- What the reference pads and tells: the numbers. -/
namespace Go.Proofs.YtjekkdckjnlkcaaDoor
open Go.RowKit
set_option linter.unusedVariables false
set_option linter.unusedSimpArgs false
section
variable {R : Rg} {P : Program} {ops : Array Oper} {Q : Exit → Act → World → Prop} {f : Nat → Bool} {t : Nat → Value} {u : World} {a : Act} {i : Nat} {o : Oper}
end
end Go.Proofs.YtjekkdckjnlkcaaDoor
/- The reference's padding. -/
namespace Go.Proofs.YtjekkdckjnlkcaaDoor
open Go.RowKit
set_option linter.unusedVariables false
set_option linter.unusedSimpArgs false
end Go.Proofs.YtjekkdckjnlkcaaDoor
/- The reference's block: its walk. -/
namespace Go.Proofs.YtjekkdckjnlkcaaDoor
open Go.RowKit
set_option linter.unusedVariables false
set_option linter.unusedSimpArgs false
end Go.Proofs.YtjekkdckjnlkcaaDoor
/- The reference's digest. -/
namespace Go.Proofs.YtjekkdckjnlkcaaDoor
open Go.RowKit
set_option linter.unusedVariables false
set_option linter.unusedSimpArgs false
end Go.Proofs.YtjekkdckjnlkcaaDoor
/- What is expanded: the numbers, and more rules. -/
namespace Go.Proofs.YtjekkdckjnlkcaaDoor
open Go.RowKit
set_option linter.unusedVariables false
set_option linter.unusedSimpArgs false
section
variable {R : Rg} {P : Program} {ops : Array Oper} {Q : Exit → Act → World → Prop} {f : Nat → Bool} {t : Nat → Value} {u : World} {a : Act} {i : Nat} {o : Oper}
end
theorem IN.sl {u : World} {m : Nat} {v : Value} {xs : List Nat} (h : IN u m v xs) : ∃ sl n cap, v = .slice sl n cap := by
  obtain ⟨sl, cap, gb, go, rfl, _⟩ := h; exact ⟨_, _, _, rfl⟩
theorem PS.sl {lo n : Nat} {xs : List Value} {u : World} {y : Value} (h : PS lo n xs u y) : ∃ sl n cap, y = .slice sl n cap := by
  obtain ⟨b, cap, rfl, _⟩ := h; exact ⟨_, _, _, rfl⟩
/-- The empty slice with room for so many bytes. -/
def PM (lo n : Nat) (u : World) (v : Value) : Prop := ∃ b zs, v = .slice (some ⟨b, 0, none⟩) 0 n ∧ lo ≤ b ∧ b < u.heap.size ∧ zs.length = n ∧ CV u b zs
theorem PM.stab {lo n : Nat} {u v : World} {x : Value} (hB : Below u.heap.size u v) (h : PM lo n u x) : PM lo n v x := by
  obtain ⟨b, zs, e, h1, h2, h3, h4⟩ := h
  exact ⟨b, zs, e, h1, Nat.lt_of_lt_of_le h2 hB.size, h3, h4.below hB h2⟩
theorem mkRoom {lo : Nat} (n : Nat) (hn : n ≤ 1000000) (u : World) (h : lo ≤ u.heap.size) : ∃ v u', (Instr.makeSlice 24 (.int .i64 0) (.int .i64 (n : Int))).run Tryd.prog u = .ok v u' ∧ Below u.heap.size u u' ∧ PM lo n u' v := by
  obtain ⟨i, hi, hi2⟩ := Option.map_eq_some_iff.1 infoB
  simp only [Prod.mk.injEq] at hi2
  obtain ⟨hz, hs, hb⟩ := hi2
  have := run_makeSlice (P := Tryd.prog) u 24 5 i (.int .u8 0) Tryd.underlying24 hi hz .i64 .i64 0 n (by omega) (by omega) (by rw [hs]; omega) (by rw [hb]; omega) (by omega)
  refine ⟨_, _, this, balloc (bself u) _, u.heap.size, (madeCells (Value.int .u8 0).cells ((n : Int).toNat * i.size)).toList, by simp, h, by simp, ?_, ?_⟩
  · rw [hs]; simp [madeCells]
  · have := CV.new u (madeCells (Value.int .u8 0).cells ((n : Int).toNat * i.size)).toList 5
    simpa using this
end Go.Proofs.YtjekkdckjnlkcaaDoor
/- What is expanded: the walk. -/
namespace Go.Proofs.YtjekkdckjnlkcaaDoor
open Go.RowKit
set_option linter.unusedVariables false
set_option linter.unusedSimpArgs false
theorem mkE {o : Oper} {ev : Operand → Value} {x y : Operand} {n lo : Nat} (hn : n ≤ 1000000) (u : World) (h : lo ≤ u.heap.size) (ho : o.op = .makeSlice 24 x y) (hx : ev x = .int .i64 0) (hy : ev y = .int .i64 (n : Int)) : ∃ v u', (execOp ev o).run Tryd.prog u = .ok (.value v) u' ∧ Below u.heap.size u u' ∧ PM lo n u' v := by
  obtain ⟨v, u', hr, h1, h2⟩ := mkRoom (lo := lo) n hn u h
  refine ⟨v, u', ?_, h1, h2⟩
  unfold execOp; rw [ho]; simp only [hx, hy, Sem.run_bind, hr, Result.andThen_ok, Sem.run_pure]
end Go.Proofs.YtjekkdckjnlkcaaDoor
/- Expand. -/
namespace Go.Proofs.YtjekkdckjnlkcaaDoor
open Go.RowKit
set_option linter.unusedVariables false
set_option linter.unusedSimpArgs false
/-- Bytes that lie somewhere below. -/
def PIN (xs : List Nat) (u : World) (y : Value) : Prop := IN u u.heap.size y xs
theorem PIN.stab {xs : List Nat} {u v : World} {x : Value} (hB : Below u.heap.size u v) (h : PIN xs u x) : PIN xs v x := (IN.below h hB).mono hB.size
end Go.Proofs.YtjekkdckjnlkcaaDoor
/- Rows of slices of bytes. -/
namespace Go.Proofs.YtjekkdckjnlkcaaDoor
open Go.RowKit
set_option linter.unusedVariables false
set_option linter.unusedSimpArgs false
/-- Bytes that lie in another block than b. -/
def INb (u : World) (b : Nat) (v : Value) (p : List Nat) : Prop := ∃ (sl : Option Addr) (cap gb go : Nat), v = .slice sl p.length cap ∧ p.length ≤ cap ∧ (p.length = 0 ∨ sl = some ⟨gb, go, none⟩) ∧ gb < u.heap.size ∧ gb ≠ b ∧ SB u gb go p
theorem INb.inn {u : World} {b : Nat} {v : Value} {p : List Nat} (h : INb u b v p) : IN u u.heap.size v p := by
  obtain ⟨sl, cap, gb, go, e, h1, h2, h3, _, h5⟩ := h
  exact ⟨sl, cap, gb, go, e, h1, h2, h3, h5⟩
theorem INb.below {u u' : World} {b : Nat} {v : Value} {p : List Nat} (h : INb u b v p) (hB : Below u.heap.size u u') : INb u' b v p := by
  obtain ⟨sl, cap, gb, go, e, h1, h2, h3, h4, h5⟩ := h
  exact ⟨sl, cap, gb, go, e, h1, h2, Nat.lt_of_lt_of_le h3 hB.size, h4, h5.below hB h3⟩
/-- A write into block b leaves it as it was. -/
theorem INb.put {u : World} {b : Nat} {v : Value} {p : List Nat} (h : INb u b v p) (o : Nat) (ws : List Value) : INb (u.setCells b o ws) b v p := by
  obtain ⟨sl, cap, gb, go, e, h1, h2, h3, h4, h5⟩ := h
  refine ⟨sl, cap, gb, go, e, h1, h2, by rw [size_setCells]; exact h3, h4, fun j hj => ?_⟩
  have hk := World.heap_setCells_other u b o ws h3 h4
  rw [World.cell?_of_block (a := ⟨gb, go + j, none⟩) hk]; exact h5 j hj
end Go.Proofs.YtjekkdckjnlkcaaDoor
/- HMAC of parts with their lengths ahead. -/
namespace Go.Proofs.YtjekkdckjnlkcaaDoor
open Go.RowKit
set_option linter.unusedVariables false
set_option linter.unusedSimpArgs false
theorem CV.oth {u : World} {b b' o : Nat} {l ws : List Value} (h : CV u b l) (hne : b ≠ b') (hb : b < u.heap.size) : CV (u.setCells b' o ws) b l := fun j v hj => by
  have hk := World.heap_setCells_other u b' o ws hb hne
  rw [World.cell?_of_block (a := ⟨b, j, none⟩) hk, World.frozen?_of_block (a := ⟨b, j, none⟩) hk]
  exact h j v hj
theorem CV.all {u : World} {b : Nat} {ys ds : List Value} (h : CV u b ys) (hl : ys.length = ds.length) : CV (u.setCells b 0 ds) b ds := by
  have h2 : CV u b ([] ++ ys ++ []) := by simpa using h
  have := h2.mid (o := 0) (news := ds) rfl hl
  simpa using this
end Go.Proofs.YtjekkdckjnlkcaaDoor
/- Two rows alike are alike. -/
namespace Go.Proofs.YtjekkdckjnlkcaaDoor
open Go.RowKit
set_option linter.unusedVariables false
set_option linter.unusedSimpArgs false
end Go.Proofs.YtjekkdckjnlkcaaDoor
/- Noughts appended; calls that know the blocks. -/
namespace Go.Proofs.YtjekkdckjnlkcaaDoor
open Go.RowKit
set_option linter.unusedVariables false
set_option linter.unusedSimpArgs false
section
variable {R : Rg} {P : Program} {ops : Array Oper} {Q : Exit → Act → World → Prop} {f : Nat → Bool} {t : Nat → Value} {u : World} {a : Act} {i : Nat} {o : Oper}
end
end Go.Proofs.YtjekkdckjnlkcaaDoor
/- The reference's HMAC. -/
namespace Go.Proofs.YtjekkdckjnlkcaaDoor
open Go.RowKit
set_option linter.unusedVariables false
set_option linter.unusedSimpArgs false
section
variable {R : Rg} {P : Program} {ops : Array Oper} {Q : Exit → Act → World → Prop} {f : Nat → Bool} {t : Nat → Value} {u : World} {a : Act} {i : Nat} {o : Oper}
end
end Go.Proofs.YtjekkdckjnlkcaaDoor
/- What is extracted; the law MacSums. -/
namespace Go.Proofs.YtjekkdckjnlkcaaDoor
open Go.RowKit
set_option linter.unusedVariables false
set_option linter.unusedSimpArgs false
end Go.Proofs.YtjekkdckjnlkcaaDoor
/- The reference's Expand: its walk. -/
namespace Go.Proofs.YtjekkdckjnlkcaaDoor
open Go.RowKit
set_option linter.unusedVariables false
set_option linter.unusedSimpArgs false
theorem wpList_app2 {P : Program} {w w' : World} {ops : Array Oper} {rest : List Oper} {o : Oper} {a : Act} {Q : Exit → Act → World → Prop} (hgd : o.guard = none) (s x : Operand) (t : TypeId) (ho : o.op = .call { callee := .builtin .append, args := #[s, x], argTypes := #[t, t] }) (vs vx v : Value) (hs : a.eval s = vs) (hx : a.eval x = vx) (hr : (Builtin.append_ #[t, t] o.type #[vs, vx]).run P w = .ok v w') (h : wpList P ops Q rest (a.put o.dst v) w') : wpList P ops Q (o :: rest) a w := by
  refine wpList_plain hgd fun K hK => ?_
  unfold Oper.wp execOp
  simp only [ho, resolve, invoke, builtin, Sem.run_bind, Sem.run_pure, Result.andThen_ok, List.map_toArray, List.map_cons, List.map_nil, hs, hx, hr]
  exact hK _ _ h
/-- Such bytes and a number, as a tuple. -/
def PTX (e : Int) (xs : List Nat) (u : World) (v : Value) : Prop := ∃ y, v = .tuple #[y, .int .i64 e] ∧ IN u u.heap.size y xs
/-- An append of bytes onto a row of one's own: the old block, or a new one. -/
theorem app_row {n m bo co : Nat} {xs ys : List Nat} {zs : List Value} {y : Value} {ty : TypeId} {u : World} (hc : CV u bo (U8 xs ++ zs)) (hb : bo < u.heap.size) (hxl : xs.length = n) (hyl : ys.length = m) (hnc : n ≤ co) (hz : zs.length = co - n) (hl : n + m ≤ 1000000) (hy : NW m (U8 ys) u y) :
    ∃ v u', (Builtin.append_ #[24, 24] ty #[.slice (some ⟨bo, 0, none⟩) n co, y]).run Tryd.prog u = .ok v u' ∧ u.grownBy u' (some bo) ∧ PH u.heap.size bo 1 (n + m) (U8 (xs ++ ys)) u' v := by
  obtain ⟨ti, hti, htm⟩ := Option.map_eq_some_iff.1 infoB
  simp only [Prod.mk.injEq] at htm
  obtain ⟨hzv, hsz, hby⟩ := htm
  obtain ⟨v', u', hr, hg, hp⟩ := run_app (P := Tryd.prog) u (ty := ty) Tryd.underlying24 hti hzv (by rw [hsz]; rfl) (base := u.heap.size) (n := n) (cap := co) (m := m) (news := U8 ys) hc hb (by rw [hsz, U8_len]; omega) (by rw [hsz]; omega) hnc (Nat.le_refl _) hy (by rw [hsz, U8_len]; omega) U8_mem (by rw [hby]; omega) (by omega)
  rw [hsz, ← U8_app] at hp
  exact ⟨v', u', hr, hg, hp⟩
theorem PZ_new (u : World) : PZ u.heap.size (u.alloc (.cells #[] 5)) (.slice (some ⟨u.heap.size, 0, none⟩) 0 0) := ⟨_, rfl, Nat.le_refl _, by simp⟩
theorem NW_one (u : World) (x : Nat) : NW 1 (U8 [x]) (u.alloc (.cells #[.int .u8 (x : Int)] 5)) (.slice (some ⟨u.heap.size, 0, none⟩) 1 1) :=
  ⟨_, 1, rfl, .inr ⟨_, rfl, fun j v hj => by rw [Addr.add0]; exact (CV.new u (U8 [x]) 5 j v hj).1⟩⟩
end Go.Proofs.YtjekkdckjnlkcaaDoor
