/- SHA-256: words of 32 bits. -/
import Derived.Test.YtjekkdckjnlkcaaDoorProg
import Derived.Test.YtjekkdckjnlkcaaDoorGR
import Derived.Laws.BitsLemmas
import Derived.Laws.Shifts
import Derived.Laws.MakeOwn
import Derived.Laws.IdiomCopy
import Derived.Deep.Upon
import Derived.Lib.SlBytesConst
import Derived.Laws.BytesArg

namespace Go.Proofs.YtjekkdckjnlkcaaDoor
open Go.RowKit
set_option linter.unusedVariables false
set_option linter.unusedSimpArgs false
section
variable {R : Rg} {P : Program} {ops : Array Oper} {Q : Exit → Act → World → Prop} {f : Nat → Bool} {t : Nat → Value} {u : World} {a : Act} {i : Nat} {o : Oper}
/-- An operation that only reckons. -/
theorem g_op {v : Value} (h : ∀ (ev : Operand → Value) (u : World), (∀ x y, evR R i o x = some y → ev x = y) → (execOp ev o).run P u = .ok (.value v) u) (hv : some v = pickV i R.G := by rfl) (hc : R.chk ops i o = true := by rfl) : OG R P ops Q i o :=
  g_pure hv hc fun f t u a X K hK => wp_val (h a.eval u (fun x y hxy => X.ev hxy)) hK
end
/-- Turned right. -/
def rotr (x n : Nat) : Nat := (x <<< (32 - n)) % 4294967296 ||| x >>> n
def chN (e f g : Nat) : Nat := (e &&& f) ^^^ ((4294967295 ^^^ e) &&& g)
def maN (a b c : Nat) : Nat := (a &&& b) ^^^ (a &&& c) ^^^ (b &&& c)
def ls0 (x : Nat) : Nat := rotr x 7 ^^^ rotr x 18 ^^^ x >>> 3
def ls1 (x : Nat) : Nat := rotr x 17 ^^^ rotr x 19 ^^^ x >>> 10
def gs0 (x : Nat) : Nat := rotr x 2 ^^^ rotr x 13 ^^^ rotr x 22
def gs1 (x : Nat) : Nat := rotr x 6 ^^^ rotr x 11 ^^^ rotr x 25
abbrev M32 : Nat := 4294967296
end Go.Proofs.YtjekkdckjnlkcaaDoor
/- Rows of words and of bytes, of any content. -/
namespace Go.Proofs.YtjekkdckjnlkcaaDoor
open Go.RowKit
set_option linter.unusedVariables false
set_option linter.unusedSimpArgs false
section
variable {R : Rg} {P : Program} {ops : Array Oper} {Q : Exit → Act → World → Prop} {f : Nat → Bool} {t : Nat → Value} {u : World} {a : Act} {i : Nat} {o : Oper}
/-- A load of a cell that came in. -/
theorem g_lg (b c : Nat) {T : TypeId} {x : Operand} {v : Value} (hr : ∀ w, w.cell? ⟨b, c, none⟩ = some v → (Instr.loadAt T (.pointer (some ⟨b, c, none⟩))).run P w = .ok v w) (hl : R.w.cell? ⟨b, c, none⟩ = some v) (hb : b < R.lo) (hop : o.op = .load T x := by rfl) (hx : evR R i o x = some (.pointer (some ⟨b, c, none⟩)) := by rfl) (hv : some v = pickV i R.G := by rfl) (hc : R.chk ops i o = true := by rfl) : OG R P ops Q i o :=
  g_pure hv hc fun f t u a X K hK => wp_load hop (X.ev hx) (hr u ((X.I.1.bel.cell (p := ⟨b, c, none⟩) hb).trans hl)) hK
end
def U8 (l : List Nat) : List Value := l.map fun (x : Nat) => .int .u8 (x : Int)
theorem U8_len (l : List Nat) : (U8 l).length = l.length := List.length_map ..
theorem U8_get (l : List Nat) (j : Nat) (h : j < l.length) : (U8 l)[j]? = some (.int .u8 ((l.getD j 0 : Nat) : Int)) := by simp [U8, List.getElem?_eq_getElem h]
theorem U8_set (l : List Nat) (j x : Nat) : U8 (l.set j x) = (U8 l).set j (.int .u8 (x : Int)) := by simp [U8, List.map_set]
theorem l8 {b c : Nat} {v : Int} (w : World) (h : w.cell? ⟨b, c, none⟩ = some (.int .u8 v)) : (Instr.loadAt 5 (.pointer (some ⟨b, c, none⟩))).run Tryd.prog w = .ok (.int .u8 v) w := by go_simp
theorem s8 {b c : Nat} {v x : Int} (w : World) (h : w.cell? ⟨b, c, none⟩ = some (.int .u8 v)) (hf : w.frozen? ⟨b, c, none⟩ = false) : (Instr.storeAt 5 (.pointer (some ⟨b, c, none⟩)) (.int .u8 x)).run Tryd.prog w = .ok () (w.setCell ⟨b, c, none⟩ (.int .u8 x)) := by go_simp
end Go.Proofs.YtjekkdckjnlkcaaDoor
/- SHA-256: a word for each step. -/

namespace Go.Proofs.YtjekkdckjnlkcaaDoor
open Go.RowKit
set_option linter.unusedVariables false
set_option linter.unusedSimpArgs false
def z64 : List Nat := List.replicate 64 0
def z8 : List Nat := List.replicate 8 0
def z32 : List Nat := List.replicate 32 0
theorem lss_i (p q : Operand) (x y : Int) (b : Bool) (w : World) (h : decide (x < y) = b) : (do eqGuard .lss 3 p q (.int .i64 x) (.int .i64 y); binOp .lss 3 (.int .i64 x) (.int .i64 y) : Sem Value).run Tryd.prog w = .ok (.bool b) w := by
  subst h; go_simp
theorem add_i (p q : Operand) (x y z : Int) (w : World) (h : x + y = z) (h1 : -9223372036854775808 ≤ z) (h2 : z < 9223372036854775808) : (do eqGuard .add 3 p q (.int .i64 x) (.int .i64 y); binOp .add 3 (.int .i64 x) (.int .i64 y) : Sem Value).run Tryd.prog w = .ok (.int .i64 z) w := by
  have e : IntKind.i64.wrap z = z := by rw [IntKind.wrap_i64]; omega
  subst h; go_simp
theorem sub_i (p q : Operand) (x y z : Int) (w : World) (h : x - y = z) (h1 : -9223372036854775808 ≤ z) (h2 : z < 9223372036854775808) : (do eqGuard .sub 3 p q (.int .i64 x) (.int .i64 y); binOp .sub 3 (.int .i64 x) (.int .i64 y) : Sem Value).run Tryd.prog w = .ok (.int .i64 z) w := by
  have e : IntKind.i64.wrap z = z := by rw [IntKind.wrap_i64]; omega
  subst h; go_simp
theorem quo_n (p q : Operand) (x y : Nat) (w : World) (h1 : x < 1000000) (h2 : 0 < y) : (do eqGuard .quo 3 p q (.int .i64 x) (.int .i64 y); binOp .quo 3 (.int .i64 x) (.int .i64 y) : Sem Value).run Tryd.prog w = .ok (.int .i64 ((x / y : Nat) : Int)) w := by
  have e0 : ((x : Int)).tdiv y = ((x / y : Nat) : Int) := by rw [Int.tdiv_eq_ediv_of_nonneg (Int.natCast_nonneg _)]; simp
  have hle : x / y ≤ x := Nat.div_le_self _ _
  obtain ⟨z, hz⟩ : ∃ z, x / y = z := ⟨_, rfl⟩
  rw [hz] at e0 hle ⊢
  have e : IntKind.i64.wrap (z : Int) = (z : Int) := by rw [IntKind.wrap_i64]; omega
  have hy : (y : Int) ≠ 0 := by omega
  have hy2 : ¬ y = 0 := by omega
  go_simp
/-- The words of the block. -/
def spA (bs : List Nat) : Nat → List Nat
  | 0 => z64
  | k + 1 => (spA bs k).set (k / 4) (((spA bs k).getD (k / 4) 0 <<< 8) % 4294967296 ||| bs.getD k 0)
def spS (l : List Nat) (t : Nat) : Nat := (((ls1 (l.getD (t - 2) 0) + l.getD (t - 7) 0) % 4294967296 + ls0 (l.getD (t - 15) 0)) % 4294967296 + l.getD (t - 16) 0) % 4294967296
/-- And what comes of them. -/
def spB (ws : List Nat) : Nat → List Nat
  | 0 => ws
  | k + 1 => (spB ws k).set (k + 16) (spS (spB ws k) (k + 16))
def spread (bs : List Nat) : List Nat := spB (spA bs 64) 48
structure WW (n : Nat) (l : List Nat) : Prop where
  len : l.length = n
  lt : ∀ j, l.getD j 0 < M32
theorem getD_set (l : List Nat) (i j x : Nat) : (l.set i x).getD j 0 = if i = j ∧ j < l.length then x else l.getD j 0 := by
  by_cases h : i = j
  · subst h
    by_cases h2 : i < l.length
    · rw [if_pos ⟨rfl, h2⟩]; simp [h2]
    · rw [if_neg (fun h => h2 h.2)]; simp [List.getElem?_eq_none (show l.length ≤ i by omega), List.getElem?_set, h2]
  · rw [if_neg (fun h' => h h'.1)]; simp [List.getElem?_set, h]
theorem WW.set {n : Nat} {l : List Nat} (h : WW n l) (i x : Nat) (hx : x < M32) : WW n (l.set i x) where
  len := by rw [List.length_set]; exact h.len
  lt := fun j => by
    rw [getD_set]; split
    · exact hx
    · exact h.lt j
end Go.Proofs.YtjekkdckjnlkcaaDoor
/- SHA-256: the state behind a block. -/

namespace Go.Proofs.YtjekkdckjnlkcaaDoor
open Go.RowKit
set_option linter.unusedVariables false
set_option linter.unusedSimpArgs false
def kcs : List Nat := [1116352408, 1899447441, 3049323471, 3921009573, 961987163, 1508970993, 2453635748, 2870763221, 3624381080, 310598401, 607225278, 1426881987, 1925078388, 2162078206, 2614888103, 3248222580, 3835390401, 4022224774, 264347078, 604807628, 770255983, 1249150122, 1555081692, 1996064986, 2554220882, 2821834349, 2952996808, 3210313671, 3336571891, 3584528711, 113926993, 338241895, 666307205, 773529912, 1294757372, 1396182291, 1695183700, 1986661051, 2177026350, 2456956037, 2730485921, 2820302411, 3259730800, 3345764771, 3516065817, 3600352804, 4094571909, 275423344, 430227734, 506948616, 659060556, 883997877, 958139571, 1322822218, 1537002063, 1747873779, 1955562222, 2024104815, 2227730452, 2361852424, 2428436474, 2756734187, 3204031479, 3329325298]
def fst8 : List Nat := [1779033703, 3144134277, 1013904242, 2773480762, 1359893119, 2600822924, 528734635, 1541459225]
def tw1 (s : List Nat) (k w : Nat) : Nat := ((((s.getD 7 0 + gs1 (s.getD 4 0)) % 4294967296 + chN (s.getD 4 0) (s.getD 5 0) (s.getD 6 0)) % 4294967296 + k) % 4294967296 + w) % 4294967296
def tw2 (s : List Nat) : Nat := (gs0 (s.getD 0 0) + maN (s.getD 0 0) (s.getD 1 0) (s.getD 2 0)) % 4294967296
/-- A step. -/
def st8 (s : List Nat) (k w : Nat) : List Nat := [(tw1 s k w + tw2 s) % 4294967296, s.getD 0 0, s.getD 1 0, s.getD 2 0, (s.getD 3 0 + tw1 s k w) % 4294967296, s.getD 4 0, s.getD 5 0, s.getD 6 0]
def rds (ss ws : List Nat) : Nat → List Nat
  | 0 => ss
  | i + 1 => st8 (rds ss ws i) (kcs.getD i 0) (ws.getD i 0)
def sms (ss vs : List Nat) : Nat → List Nat
  | 0 => ss
  | i + 1 => (sms ss vs i).set i (((sms ss vs i).getD i 0 + vs.getD i 0) % 4294967296)
def blk (ss bs : List Nat) : List Nat := sms ss (rds ss (spread bs) 64) 8
theorem sms_W {ss : List Nat} (h : WW 8 ss) (vs : List Nat) : ∀ i, WW 8 (sms ss vs i)
  | 0 => h
  | i + 1 => (sms_W h vs i).set _ _ (Nat.mod_lt _ (by decide))
theorem blk_W {ss : List Nat} (h : WW 8 ss) (bs : List Nat) : WW 8 (blk ss bs) := sms_W h _ 8
end Go.Proofs.YtjekkdckjnlkcaaDoor
/- SHA-256: a state's bytes. -/

namespace Go.Proofs.YtjekkdckjnlkcaaDoor
open Go.RowKit
set_option linter.unusedVariables false
set_option linter.unusedSimpArgs false
theorem rem_n (p q : Operand) (x y : Nat) (w : World) (h1 : x < 1000000) (h2 : 0 < y) : (do eqGuard .rem 3 p q (.int .i64 x) (.int .i64 y); binOp .rem 3 (.int .i64 x) (.int .i64 y) : Sem Value).run Tryd.prog w = .ok (.int .i64 ((x % y : Nat) : Int)) w := by
  have e0 : ((x : Int)).tmod y = ((x % y : Nat) : Int) := by rw [Int.tmod_eq_emod_of_nonneg (Int.natCast_nonneg _)]; simp
  have hle : x % y ≤ x := Nat.mod_le _ _
  obtain ⟨z, hz⟩ : ∃ z, x % y = z := ⟨_, rfl⟩
  rw [hz] at e0 hle ⊢
  have e : IntKind.i64.wrap (z : Int) = (z : Int) := by rw [IntKind.wrap_i64]; omega
  have hy : (y : Int) ≠ 0 := by omega
  have hy2 : ¬ y = 0 := by omega
  go_simp
theorem mul_i (p q : Operand) (x y z : Int) (w : World) (h : x * y = z) (h0 : -9223372036854775808 ≤ z) (h1 : z < 9223372036854775808) : (do eqGuard .mul 3 p q (.int .i64 x) (.int .i64 y); binOp .mul 3 (.int .i64 x) (.int .i64 y) : Sem Value).run Tryd.prog w = .ok (.int .i64 z) w := by
  have e : IntKind.i64.wrap z = z := by rw [IntKind.wrap_i64]; omega
  subst h; go_simp
/-- The bytes of a state, the first so many. -/
def tld (ss : List Nat) : Nat → List Nat
  | 0 => z32
  | i + 1 => (tld ss i).set i ((ss.getD (i / 4) 0 >>> (8 * (3 - i % 4))) % 256)
def told (ss : List Nat) : List Nat := tld ss 32
structure BB (n : Nat) (l : List Nat) : Prop where
  len : l.length = n
  lt : ∀ j, l.getD j 0 < 256
theorem BB.set {n : Nat} {l : List Nat} (h : BB n l) (i x : Nat) (hx : x < 256) : BB n (l.set i x) where
  len := by rw [List.length_set]; exact h.len
  lt := fun j => by
    rw [getD_set]; split
    · exact hx
    · exact h.lt j
end Go.Proofs.YtjekkdckjnlkcaaDoor
/- SHA-256: what is put behind the bytes. -/

namespace Go.Proofs.YtjekkdckjnlkcaaDoor
open Go.RowKit
set_option linter.unusedVariables false
set_option linter.unusedSimpArgs false
section
variable {R : Rg} {P : Program} {ops : Array Oper} {Q : Exit → Act → World → Prop} {f : Nat → Bool} {t : Nat → Value} {u : World} {a : Act} {i : Nat} {o : Oper}
end
/-- A slice of one's own, without room behind it. -/
def PF (lo n : Nat) (xs : List Value) (u : World) (v : Value) : Prop := ∃ b, v = .slice (some ⟨b, 0, none⟩) n n ∧ lo ≤ b ∧ b < u.heap.size ∧ CV u b xs
theorem PF.stab {lo n : Nat} {xs : List Value} {u v : World} {x : Value} (hB : Below u.heap.size u v) (h : PF lo n xs u x) : PF lo n xs v x := by
  obtain ⟨b, e, h1, h2, h5⟩ := h
  exact ⟨b, e, h1, Nat.lt_of_lt_of_le h2 hB.size, h5.below hB h2⟩
theorem PF.mono {lo lo' n : Nat} {xs : List Value} {u : World} {x : Value} (h : PF lo n xs u x) (hl : lo' ≤ lo) : PF lo' n xs u x := by
  obtain ⟨b, e, h1, h⟩ := h
  exact ⟨b, e, Nat.le_trans hl h1, h⟩
theorem PF.new (n : Nat) (xs : List Value) (t : TypeId) {lo : Nat} (u : World) (h : lo ≤ u.heap.size) : PF lo n xs (u.alloc (.cells xs.toArray t)) (.slice (some ⟨u.heap.size, 0, none⟩) n n) := ⟨_, rfl, h, by simp, CV.new u _ t⟩
theorem infoB : (Tryd.prog.info? 5).map (fun i => (i.zero, i.size, i.bytes)) = some (some (.int .u8 0), 1, 1) := by kernel_rfl
set_option maxRecDepth 100000 in
theorem mkB (k : IntKind) (m : Nat) (hm : m ≤ 1000000) (w : World) : (Instr.makeSlice 24 (.int k m) (.int k m)).run Tryd.prog w = .ok (.slice (some ⟨w.heap.size, 0, none⟩) m m) (w.alloc (.cells (U8 (List.replicate m 0)).toArray 5)) := by
  obtain ⟨i, hi, hi2⟩ := Option.map_eq_some_iff.1 infoB
  simp only [Prod.mk.injEq] at hi2
  obtain ⟨hz, hs, hb⟩ := hi2
  have := run_makeSlice (P := Tryd.prog) w 24 5 i (.int .u8 0) Tryd.underlying24 hi hz k k m m (by omega) (by omega) (by rw [hs]; omega) (by rw [hb]; omega) (by omega)
  rw [this, hs]
  simp only [Int.toNat_natCast, Nat.mul_one]
  congr 4
  apply Array.ext'
  simp [madeCells, U8, Value.cells]
  apply List.ext_getElem
  · simp
  · intro j h1 h2; simp [Nat.mod_one]
theorem ixB (g o n cap j : Nat) (h : j < n) (w : World) : (Instr.indexAt 24 (.slice (some ⟨g, o, none⟩) n cap) (.int .i64 j)).run Tryd.prog w = .ok (.pointer (some ⟨g, o + j, none⟩)) w := by
  have h2 : (j : Int) < n := by omega
  go_simp
/-- How many noughts, and what is put behind n bytes. -/
def nou (n : Nat) : Nat := (18446744073709551616 - (n + 9)) % 64
def enL (n : Nat) : Nat → List Nat
  | 0 => (List.replicate (nou n + 9) 0).set 0 128
  | i + 1 => (enL n i).set (nou n + 9 - 1 - i) ((n * 8) >>> (8 * i) % 256)
def ending (n : Nat) : List Nat := enL n 8
end Go.Proofs.YtjekkdckjnlkcaaDoor
/- SHA-256: bytes taken one by one, and many at once. -/
namespace Go.Proofs.YtjekkdckjnlkcaaDoor
set_option linter.unusedVariables false
set_option linter.unusedSimpArgs false
/-- The block, and the state, behind the first j bytes of xs, with c bytes before them. -/
def tkB (c : Nat) (bs xs : List Nat) : Nat → List Nat
  | 0 => bs
  | j + 1 => (tkB c bs xs j).set ((c + j) % 64) (xs.getD j 0)
def tkS (c : Nat) (ss bs xs : List Nat) : Nat → List Nat
  | 0 => ss
  | j + 1 => if (c + j + 1) % 64 = 0 then blk (tkS c ss bs xs j) (tkB c bs xs (j + 1)) else tkS c ss bs xs j
theorem tkB_B {c : Nat} {bs xs : List Nat} (hb : BB 64 bs) (hx : ∀ j, xs.getD j 0 < 256) : ∀ j, BB 64 (tkB c bs xs j)
  | 0 => hb
  | j + 1 => (tkB_B hb hx j).set _ _ (hx j)
theorem tkS_W {c : Nat} {ss bs xs : List Nat} (hs : WW 8 ss) : ∀ j, WW 8 (tkS c ss bs xs j)
  | 0 => hs
  | j + 1 => by
    unfold tkS; split
    · exact blk_W (tkS_W hs j) _
    · exact tkS_W hs j
end Go.Proofs.YtjekkdckjnlkcaaDoor
/- SHA-256: a digest on its way. -/
namespace Go.Proofs.YtjekkdckjnlkcaaDoor
open Go.RowKit
set_option linter.unusedVariables false
set_option linter.unusedSimpArgs false
section
variable {R : Rg} {P : Program} {ops : Array Oper} {Q : Exit → Act → World → Prop} {f : Nat → Bool} {t : Nat → Value} {u : World} {a : Act} {i : Nat} {o : Oper}
end
theorem U8_app (a b : List Nat) : U8 (a ++ b) = U8 a ++ U8 b := by simp [U8]
theorem U8_mem {l : List Nat} : ∀ v ∈ U8 l, v.oneCell' = true := fun v hv => by
  obtain ⟨x, _, rfl⟩ := List.mem_map.1 hv; rfl
theorem gtr_i (p q : Operand) (x y : Int) (b : Bool) (w : World) (h : decide (y < x) = b) : (do eqGuard .gtr 3 p q (.int .i64 x) (.int .i64 y); binOp .gtr 3 (.int .i64 x) (.int .i64 y) : Sem Value).run Tryd.prog w = .ok (.bool b) w := by
  subst h; go_simp
/-- The bytes xs lie from o on in block g. -/
def SB (w : World) (g o : Nat) (xs : List Nat) : Prop := ∀ j, j < xs.length → w.cell? ⟨g, o + j, none⟩ = some (.int .u8 ((xs.getD j 0 : Nat) : Int))
theorem SB.cells {w : World} {g o : Nat} {xs : List Nat} (h : SB w g o xs) (k n : Nat) : ∀ j v, (U8 ((xs.drop k).take n))[j]? = some v → w.cell? ((⟨g, o + k, none⟩ : Addr).add j) = some v := fun j v hj => by
  have hl : j < ((xs.drop k).take n).length := by have := (List.getElem?_eq_some_iff.1 hj).1; rwa [U8_len] at this
  rw [U8_get _ j hl] at hj
  have hl2 : k + j < xs.length := by rw [List.length_take, List.length_drop] at hl; omega
  have e : (⟨g, o + k, none⟩ : Addr).add j = ⟨g, o + (k + j), none⟩ := by unfold Addr.add; split <;> simp_all <;> omega
  rw [e, h (k + j) hl2, ← hj]
  have hn : j < n := by rw [List.length_take] at hl; omega
  simp [List.getElem?_take, hn, List.getElem?_drop]
end Go.Proofs.YtjekkdckjnlkcaaDoor
/- SHA-256: a digest goes on with bytes. -/

namespace Go.Proofs.YtjekkdckjnlkcaaDoor
open Go.RowKit
set_option linter.unusedVariables false
set_option linter.unusedSimpArgs false
theorem SB.below {w w' : World} {m g o : Nat} {xs : List Nat} (h : SB w g o xs) (hb : Below m w w') (hg : g < m) : SB w' g o xs := fun j hj => (hb.cell (p := ⟨g, o + j, none⟩) hg).trans (h j hj)
theorem CV.sb {w : World} {b : Nat} {xs : List Nat} (h : CV w b (U8 xs)) : SB w b 0 xs := fun j hj => by rw [Nat.zero_add]; exact (h j _ (U8_get xs j hj)).1
end Go.Proofs.YtjekkdckjnlkcaaDoor
/- SHA-256: the digest as a fold over the bytes. -/
namespace Go.Proofs.YtjekkdckjnlkcaaDoor
open Go.RowKit
set_option linter.unusedVariables false
set_option linter.unusedSimpArgs false
/-- State, block and count behind one more byte. -/
def tk1 (q : List Nat × List Nat × Nat) (x : Nat) : List Nat × List Nat × Nat :=
  (if (q.2.2 + 1) % 64 = 0 then blk q.1 (q.2.1.set (q.2.2 % 64) x) else q.1, q.2.1.set (q.2.2 % 64) x, q.2.2 + 1)
def tkA (q : List Nat × List Nat × Nat) (xs : List Nat) : List Nat × List Nat × Nat := xs.foldl tk1 q
theorem tkA_app (q : List Nat × List Nat × Nat) (xs ys : List Nat) : tkA q (xs ++ ys) = tkA (tkA q xs) ys := List.foldl_append
theorem tkA_is (q : List Nat × List Nat × Nat) (xs : List Nat) : ∀ j, j ≤ xs.length → tkA q (xs.take j) = (tkS q.2.2 q.1 q.2.1 xs j, tkB q.2.2 q.2.1 xs j, q.2.2 + j)
  | 0, _ => by simp [tkA, tkS, tkB]
  | j + 1, h => by
    have hg : xs.getD j 0 = xs[j] := by simp [List.getElem?_eq_getElem (show j < xs.length by omega)]
    rw [List.take_succ_eq_append_getElem (by omega), tkA_app, tkA_is q xs j (by omega)]
    show tk1 _ _ = _
    unfold tk1
    simp only [tkS, tkB, hg, Nat.add_assoc]
theorem tkA_all (q : List Nat × List Nat × Nat) (xs : List Nat) : tkA q xs = (tkS q.2.2 q.1 q.2.1 xs xs.length, tkB q.2.2 q.2.1 xs xs.length, q.2.2 + xs.length) := by
  have := tkA_is q xs xs.length (Nat.le_refl _)
  rwa [List.take_length] at this
/-- A digest on its way, well formed. -/
structure QW (q : List Nat × List Nat × Nat) : Prop where
  s : WW 8 q.1
  b : BB 64 q.2.1
theorem QW.go {q : List Nat × List Nat × Nat} (h : QW q) (xs : List Nat) (hx : ∀ j, xs.getD j 0 < 256) : QW (tkA q xs) := by
  rw [tkA_all]; exact ⟨tkS_W h.s _, tkB_B h.b hx _⟩
theorem BB.all {n : Nat} {l : List Nat} (h : BB n l) : ∀ j, l.getD j 0 < 256 := h.lt
/-- The first state, an empty block, nothing taken. -/
def q00 : List Nat × List Nat × Nat := (fst8, z64, 0)
/-- The digest. -/
def dig (xs : List Nat) : List Nat := told (tkA q00 (xs ++ ending xs.length)).1
section
variable {R : Rg} {P : Program} {ops : Array Oper} {Q : Exit → Act → World → Prop} {f : Nat → Bool} {t : Nat → Value} {u : World} {a : Act} {i : Nat} {o : Oper}
end
theorem lSl {b c n cap : Nat} {sl : Option Addr} (w : World) (h : w.cell? ⟨b, c, none⟩ = some (.slice sl n cap)) : (Instr.loadAt 24 (.pointer (some ⟨b, c, none⟩))).run Tryd.prog w = .ok (.slice sl n cap) w := by go_simp
theorem ixSl (b o n cap k : Nat) (w : World) (hk : k < n) : (Instr.indexAt 38 (.slice (some ⟨b, o, none⟩) n cap) (.int .i64 (k : Int))).run Tryd.prog w = .ok (.pointer (some ⟨b, o + k, none⟩)) w := by
  have h2 : (k : Int) < n := by omega
  go_simp
end Go.Proofs.YtjekkdckjnlkcaaDoor
/- SHA-256: the digest of parts. -/

namespace Go.Proofs.YtjekkdckjnlkcaaDoor
open Go.RowKit
set_option linter.unusedVariables false
set_option linter.unusedSimpArgs false
end Go.Proofs.YtjekkdckjnlkcaaDoor
/- SHA-256: the digest of parts, whatever they are. -/
namespace Go.Proofs.YtjekkdckjnlkcaaDoor
open Go.RowKit
set_option linter.unusedVariables false
set_option linter.unusedSimpArgs false
/-- A slice of these bytes that came in. -/
def IN (w : World) (m : Nat) (v : Value) (xs : List Nat) : Prop := ∃ (sl : Option Addr) (cap gb go : Nat), v = .slice sl xs.length cap ∧ xs.length ≤ cap ∧ (xs.length = 0 ∨ sl = some ⟨gb, go, none⟩) ∧ gb < m ∧ SB w gb go xs
theorem IN.below {w u : World} {m : Nat} {v : Value} {xs : List Nat} (h : IN w m v xs) (hB : Below m w u) : IN u m v xs := by
  obtain ⟨sl, cap, gb, go, e, h1, h2, h3, h4⟩ := h
  exact ⟨sl, cap, gb, go, e, h1, h2, h3, h4.below hB h3⟩
theorem IN.mono {w : World} {m m' : Nat} {v : Value} {xs : List Nat} (h : IN w m v xs) (hm : m ≤ m') : IN w m' v xs := by
  obtain ⟨sl, cap, gb, go, e, h1, h2, h3, h4⟩ := h
  exact ⟨sl, cap, gb, go, e, h1, h2, Nat.lt_of_lt_of_le h3 hm, h4⟩
/-- Slices of these bytes, one behind the other. -/
def PL (w : World) (gl go : Nat) (ps : List (List Nat)) : Prop := ∀ i p, ps[i]? = some p → ∃ v, w.cell? ⟨gl, go + i, none⟩ = some v ∧ IN w w.heap.size v p
theorem BB.mem {n : Nat} {l : List Nat} (h : BB n l) : ∀ x ∈ l, x < 256 := fun x hx => by
  obtain ⟨j, hj⟩ := List.mem_iff_getElem?.1 hx
  have := h.lt j
  rwa [List.getD_eq_getElem?_getD, hj] at this
end Go.Proofs.YtjekkdckjnlkcaaDoor
/- Appends onto a row of one's own, room or not: what comes of them. -/
namespace Go.Proofs.YtjekkdckjnlkcaaDoor
open Go.RowKit
set_option linter.unusedVariables false
set_option linter.unusedSimpArgs false
theorem Addr.add0 (b j : Nat) : (⟨b, 0, none⟩ : Addr).add j = ⟨b, j, none⟩ := by unfold Addr.add; split <;> simp_all
theorem Addr.addo (b o j : Nat) : (⟨b, o, none⟩ : Addr).add j = ⟨b, o + j, none⟩ := by unfold Addr.add; split <;> simp_all
/-- A slice of m values whose cells are these. -/
def NW (m : Nat) (news : List Value) (u : World) (y : Value) : Prop := ∃ sl c, y = .slice sl m c ∧ (m = 0 ∨ ∃ ad, sl = some ad ∧ ∀ j v, news[j]? = some v → u.cell? (ad.add j) = some v)
/-- A row that is the old one, or a new one. -/
def PH (base b0 s n : Nat) (xs : List Value) (u : World) (v : Value) : Prop := ∃ b cap zs, v = .slice (some ⟨b, 0, none⟩) n cap ∧ (b = b0 ∨ base ≤ b) ∧ b < u.heap.size ∧ n ≤ cap ∧ zs.length = (cap - n) * s ∧ CV u b (xs ++ zs)
theorem PH.stab {base b0 s n : Nat} {xs : List Value} {u v : World} {x : Value} (hB : Below u.heap.size u v) (h : PH base b0 s n xs u x) : PH base b0 s n xs v x := by
  obtain ⟨b, cap, zs, e, h1, h2, h3, h4, h5⟩ := h
  exact ⟨b, cap, zs, e, h1, Nat.lt_of_lt_of_le h2 hB.size, h3, h4, h5.below hB h2⟩
theorem grown_setCells (u : World) (b o : Nat) (vs : List Value) : u.grownBy (u.setCells b o vs) (some b) := by
  have h : Below (min b u.heap.size) u (u.setCells b o vs) := below_setCells (Nat.min_le_left _ _) _ _ _ (Below.refl _ _)
  refine ⟨h.os, h.tape, h.output, by rw [size_setCells]; exact Nat.le_refl _, fun k hk hne => ?_⟩
  exact World.heap_setCells_other u b o vs hk (fun e => hne (by rw [e]))
section
variable {P : Program}
theorem run_app (w : World) {T ty e : TypeId} {ti : TypeInfo} {z : Value} (ht : P.underlying T = some (.slice e)) (hi : P.info? e = some ti) (hz : ti.zero = some z) (hzs : z.cells.size = ti.size) {base b n cap m : Nat} {xs zs news : List Value} {y : Value} (hcv : CV w b (xs ++ zs)) (hlt : b < w.heap.size) (hx : xs.length = n * ti.size) (hzl : zs.length = (cap - n) * ti.size) (hnc : n ≤ cap) (hbase : base ≤ w.heap.size) (hy : NW m news w y) (hl : news.length = m * ti.size) (h1 : ∀ v ∈ news, v.oneCell' = true) (hb : (n + m) * ti.bytes ≤ 140737488355328) (h63 : n + m ≤ 9223372036854775807) :
    ∃ v' w', (Builtin.append_ #[T, T] ty #[.slice (some ⟨b, 0, none⟩) n cap, y]).run P w = .ok v' w' ∧ w.grownBy w' (some b) ∧ PH base b ti.size (n + m) (xs ++ news) w' v' := by
  obtain ⟨sl, c, rfl, hy⟩ := hy
  by_cases hm : m = 0
  · subst hm
    have hn0 : news = [] := List.eq_nil_of_length_eq_zero (by omega)
    subst hn0
    refine ⟨.slice (some ⟨b, 0, none⟩) n cap, w, ?_, World.grownBy.refl _ _, b, cap, zs, rfl, .inl rfl, hlt, hnc, hzl, by simpa using hcv⟩
    have hf : (Builtin.firstCells ti.size 0 (.slice sl 0 c)).run P w = .ok #[] w := by
      cases sl with
      | none => exact run_firstCells_none (P := P) w ti.size 0 0 c
      | some ad => exact run_firstCells_some (P := P) w ti.size 0 ad 0 c [] (by simp) (fun j v h => by simp at h)
    simp [Builtin.append_, run_underlying ht, sizeOf, typeInfo, hi, Builtin.lenOf, hnc, hf, storeCells]
  · obtain ⟨ad, rfl, hnews⟩ := hy.resolve_left hm
    have hmul : (n + m) * ti.size = n * ti.size + m * ti.size := Nat.add_mul _ _ _
    by_cases hr : n + m ≤ cap
    · have hk : (cap - n) * ti.size = m * ti.size + (cap - (n + m)) * ti.size := by rw [← Nat.add_mul]; congr 1; omega
      have h := run_append_in (P := P) w (ty := ty) ht hi hcv (m := m) (c := c) hl hnews h1 hr (by rw [List.length_append]; omega)
      refine ⟨_, _, h, grown_setCells _ _ _ _, b, cap, zs.drop news.length, rfl, .inl rfl, by rw [size_setCells]; exact hlt, hr, by rw [List.length_drop]; omega, ?_⟩
      have hcv2 : CV w b (xs ++ zs.take news.length ++ zs.drop news.length) := by rw [List.append_assoc, List.take_append_drop]; exact hcv
      exact hcv2.mid hx (by rw [List.length_take]; omega)
    · have h := run_append_grow (P := P) w T ty e ti z ht hi hz ⟨b, 0, none⟩ n cap xs hx (fun j v hj => by rw [Addr.add0]; exact (hcv.pre2 j v hj).1) ad m c news hl hnews (by omega) (by omega) (growslice_fits (by omega) hb)
      have hB : Below w.heap.size w (w.drew.alloc (.cells (xs.toArray ++ news.toArray ++ Builtin.zeroCells z.cells (grownCap w (n + m) cap e - (n + m))) e)) := balloc (bself w).drew _
      refine ⟨_, _, h, (below_grown hB).but _, w.heap.size, _, (Builtin.zeroCells z.cells (grownCap w (n + m) cap e - (n + m))).toList, rfl, .inr hbase, by simp, grownCap_ge w (n + m) cap e, by rw [Array.length_toList, size_zeroCells, hzs], ?_⟩
      have e1 : xs.toArray ++ news.toArray ++ Builtin.zeroCells z.cells (grownCap w (n + m) cap e - (n + m)) = (xs ++ news ++ (Builtin.zeroCells z.cells (grownCap w (n + m) cap e - (n + m))).toList).toArray := by apply Array.ext'; simp
      rw [e1]; exact CV.new w.drew _ e
end
/-- The tracked blocks when one of them has turned into nothing known. -/
theorem KC.putG {f : Nat → Bool} {u v : World} {lo base i b : Nat} (hg : u.grownBy v (some b)) (hs : base ≤ u.heap.size) : ∀ {es : List Ent} {k : Nat} {o : Bool} {l : List Value}, KC f u lo base es → es[k]? = some (o, b, l, .all i []) → (es.map (·.2.1)).Nodup → ((es.eraseIdx k).all fun q => q.2.2.2.free i) = true → KC (updF f i) v lo base es := by
  have oth : ∀ {n : Nat} {l : List Value}, n < base → n ≠ b → CV u n l → CV v n l := fun {n l} hn hne h j x hj => by
    have hk : v.heap[n]? = u.heap[n]? := hg.block _ (by omega) (fun e => hne (by cases e; rfl))
    rw [World.cell?_of_block (a := ⟨n, j, none⟩) hk, World.frozen?_of_block (a := ⟨n, j, none⟩) hk]
    exact h j x hj
  have hr : ∀ {es : List Ent}, b ∉ es.map (·.2.1) → (es.all fun q => q.2.2.2.free i) = true → KC f u lo base es → KC (updF f i) v lo base es := by
    intro es
    induction es with
    | nil => intros; trivial
    | cons y ys ih =>
      intro hb ha h
      simp only [List.map_cons, List.mem_cons, not_or] at hb
      simp only [List.all_cons, Bool.and_eq_true] at ha
      have hfr := KC.free (i := i) (es := [y]) (by simp [ha.1]) (show KC f u lo base [y] from ⟨h.1, trivial⟩)
      exact ⟨⟨h.1.1, h.1.2.1, oth h.1.1 (fun e => hb.1 e.symm) hfr.1.2.2⟩, ih hb.2 ha.2 h.2⟩
  intro es
  induction es with
  | nil => intro k o l _ e; simp at e
  | cons q r ih =>
    intro k o l h e n hx
    simp only [List.map_cons, List.nodup_cons] at n
    cases k with
    | zero =>
      simp at e; subst e
      simp only [List.eraseIdx_cons_zero] at hx
      refine ⟨⟨h.1.1, h.1.2.1, ?_⟩, hr n.1 hx h.2⟩
      intro j x hj
      simp [Wr.val, updF] at hj
    | succ k =>
      simp only [List.getElem?_cons_succ] at e
      simp only [List.eraseIdx_cons_succ, List.all_cons, Bool.and_eq_true] at hx
      have hm : b ∈ r.map (·.2.1) := by
        have := List.mem_of_getElem? e
        exact List.mem_map.2 ⟨_, this, rfl⟩
      have hfr := KC.free (i := i) (es := [q]) (by simp [hx.1]) (show KC f u lo base [q] from ⟨h.1, trivial⟩)
      exact ⟨⟨h.1.1, h.1.2.1, oth h.1.1 (fun e => n.1 (e ▸ hm)) hfr.1.2.2⟩, ih h.2 e n.2 hx.2⟩
/-- What is asked of an append onto the k-th block that makes the n-th such value. -/
def Rg.chkG (R : Rg) (ops : Array Oper) (n k i : Nat) (o : Oper) : Bool :=
  (match o.dst, R.E[n]? with | some d, some q => q.i == i && q.d == d && owns i d R.G && apart i d R.Ns && R.S.contains d | _, _ => false)
  && R.okO i o && ((R.es.eraseIdx k).all fun q => q.2.2.2.free i) && ((R.E.eraseIdx n).all (eGone R.O i o)) && (wants R ops o == some true)
section
variable {R : Rg} {P : Program} {ops : Array Oper} {Q : Exit → Act → World → Prop} {f : Nat → Bool} {t : Nat → Value} {u : World} {a : Act} {i : Nat} {o : Oper}
theorem chkG_parts {n k : Nat} (h : R.chkG ops n k i o = true) : ∃ d q, o.dst = some d ∧ R.E[n]? = some q ∧ (q.i = i ∧ q.d = d) ∧ owns i d R.G = true ∧ apart i d R.Ns = true ∧ d ∈ R.S ∧ R.okO i o = true ∧ ((R.es.eraseIdx k).all fun q => q.2.2.2.free i) = true ∧ ((R.E.eraseIdx n).all (eGone R.O i o)) = true ∧ wants R ops o = some true := by
  unfold Rg.chkG at h
  cases hd : o.dst with
  | none => rw [hd] at h; simp at h
  | some d =>
    cases hq : R.E[n]? with
    | none => rw [hd, hq] at h; simp at h
    | some q =>
      rw [hd, hq] at h
      rw [Bool.and_eq_true, Bool.and_eq_true, Bool.and_eq_true, Bool.and_eq_true, Bool.and_eq_true, Bool.and_eq_true, Bool.and_eq_true, Bool.and_eq_true, List.contains_iff_mem, beq_iff_eq, beq_iff_eq, beq_iff_eq] at h
      obtain ⟨⟨⟨⟨⟨⟨⟨⟨a1, a2⟩, a3⟩, a4⟩, a5⟩, a6⟩, a7⟩, a8⟩, a9⟩ := h
      exact ⟨d, q, rfl, rfl, ⟨a1, a2⟩, a3, a4, a5, a6, a7, a8, a9⟩
theorem Xs.putG {n k b : Nat} {l : List Value} {p : World → Value → Prop} {v : Value} {u' : World} (X : Xs R ops f t u a i o) (hg : u.grownBy u' (some b)) (hn : R.es[k]? = some (true, b, l, .all i [])) (hw0 : R.nw = []) (hc : R.chkG ops n k i o = true) (hn0 : (R.E[n]?).map (·.p) = some p) (hp : p u' v) : ∃ t', Fr R.fr R.S (a.put o.dst v) t' ∧ Inv R (updF f i) t' u' := by
  obtain ⟨d', q', hd', hq', ⟨e1, e2⟩, k1, k2, k3, k6, k7, k8, hw⟩ := chkG_parts hc
  obtain ⟨_, q2, _⟩ := X.I.2.1.get hn
  refine ⟨updT t d' v, by rw [hd']; exact X.F.put X.parts.1 k3 v, ?_, KC.putG hg X.I.1.sz X.I.2.1 hn X.nd k7, Gs.other k1 X.I.2.2.1, okO_spec k6 X.I.2.2.2.1 X.dep, Ns.step X.I.2.2.2.2.1 k2, ?_⟩
  · have hM := X.I.1
    rw [hw0] at hM ⊢
    exact { bel := hM.bel.grown hg (Nat.le_trans hM.lo hM.sz) (fun k e => by cases e; exact q2 rfl), lo := hM.lo, sz := Nat.le_trans hM.sz hg.size, ks := trivial, ex := trivial, nw := trivial, nd := trivial }
  · exact Es.last (O := R.O) (fun j hj => X.later (by unfold Rg.later; rw [hj]; simp)) X.dep (by rw [hq', ← e1, ← e2]) k8 (by rw [hq'] at hn0; cases hn0; exact hp)
/-- An append of a value onto a row of one's own, room or not: the row is a new value, whose block is the old one or a new one. -/
theorem g_pE (k m n' : Nat) (p : World → Value → Prop) {T e : TypeId} {ti : TypeInfo} {z : Value} {x : Operand} {j d b n q cap : Nat} {l : List Value} (xs zs news : List Value) (ht : P.underlying T = some (.slice e)) (hi : P.info? e = some ti) (hz : ti.zero = some z) (hzs : z.cells.size = ti.size) (hl : l = xs ++ zs) (hp : ∀ u y, p u y → NW q news u y) (h1 : ∀ v ∈ news, v.oneCell' = true) (hnl : news.length = q * ti.size) (hxl : xs.length = n * ti.size) (hzl : zs.length = (cap - n) * ti.size) (hnc : n ≤ cap) (hb : (n + q) * ti.bytes ≤ 140737488355328) (h63 : n + q ≤ 9223372036854775807)
    (hop : o.op = .call { callee := .builtin .append, args := [x, .tmp d].toArray, argTypes := [T, T].toArray } := by rfl) (hn : R.es[k]? = some (true, b, l, .all i []) := by rfl) (hx : evR R i o x = some (.slice (some ⟨b, 0, none⟩) n cap) := by rfl) (hm : R.E[m]? = some ⟨j, d, some i, p⟩ := by rfl) (hd : (hasDep o j && R.S.contains d) = true := by rfl) (hn0 : (R.E[n']?).map (·.p) = some (PH R.base b ti.size (n + q) (xs ++ news)) := by rfl)
    (hw : R.nw = [] := by rfl) (hc : R.chkG ops n' k i o = true := by rfl) : OG R P ops Q i o := fun f t u a X => by
  rw [Bool.and_eq_true, List.contains_iff_mem] at hd
  obtain ⟨h2, h4⟩ := hd
  obtain ⟨d', q', hd', hq', _, _, _, _, _, _, _, hwt⟩ := chkG_parts hc
  obtain ⟨q1, q2, q3⟩ := X.I.2.1.get hn
  have q3 : CV u b (bif f i then [] else l) := q3
  rw [X.fi] at q3
  have q3 : CV u b l := q3
  rw [hl] at q3
  have hy : p u (t d) := X.val hm h2 rfl
  obtain ⟨v', w', hr, hg, hph⟩ := run_app (P := P) u (ty := o.type) ht hi hz hzs (base := R.base) q3 (Nat.lt_of_lt_of_le q1 X.I.1.sz) hxl hzl hnc X.I.1.sz (hp u (t d) hy) hnl h1 hb h63
  exact X.go hwt fun K hK => wp_app hop (X.ev hx) (X.inS h4) hr (hK _ _ (X.putG hg hn hw hc hn0 hph))
/-- The same, of a slice that is known. -/
theorem g_pV (k n' : Nat) {T e : TypeId} {ti : TypeInfo} {z vy : Value} {x y : Operand} {b n q cap : Nat} {l : List Value} (xs zs news : List Value) (ht : P.underlying T = some (.slice e)) (hi : P.info? e = some ti) (hz : ti.zero = some z) (hzs : z.cells.size = ti.size) (hl : l = xs ++ zs) (hp : ∀ f u, KC f u R.lo R.base R.es → Below R.lo R.w u → NW q news u vy) (h1 : ∀ v ∈ news, v.oneCell' = true) (hnl : news.length = q * ti.size) (hxl : xs.length = n * ti.size) (hzl : zs.length = (cap - n) * ti.size) (hnc : n ≤ cap) (hb : (n + q) * ti.bytes ≤ 140737488355328) (h63 : n + q ≤ 9223372036854775807)
    (hop : o.op = .call { callee := .builtin .append, args := [x, y].toArray, argTypes := [T, T].toArray } := by rfl) (hn : R.es[k]? = some (true, b, l, .all i []) := by rfl) (hx : evR R i o x = some (.slice (some ⟨b, 0, none⟩) n cap) := by rfl) (hy : evR R i o y = some vy := by rfl) (hn0 : (R.E[n']?).map (·.p) = some (PH R.base b ti.size (n + q) (xs ++ news)) := by rfl)
    (hw : R.nw = [] := by rfl) (hc : R.chkG ops n' k i o = true := by rfl) : OG R P ops Q i o := fun f t u a X => by
  obtain ⟨d', q', hd', hq', _, _, _, _, _, _, _, hwt⟩ := chkG_parts hc
  obtain ⟨q1, q2, q3⟩ := X.I.2.1.get hn
  have q3 : CV u b (bif f i then [] else l) := q3
  rw [X.fi] at q3
  have q3 : CV u b l := q3
  rw [hl] at q3
  obtain ⟨v', w', hr, hg, hph⟩ := run_app (P := P) u (ty := o.type) ht hi hz hzs (base := R.base) q3 (Nat.lt_of_lt_of_le q1 X.I.1.sz) hxl hzl hnc X.I.1.sz (hp f u X.I.2.1 X.I.1.bel) hnl h1 hb h63
  exact X.go hwt fun K hK => wp_app hop (X.ev hx) (X.ev hy) hr (hK _ _ (X.putG hg hn hw hc hn0 hph))
theorem KC.grown {u u' : World} {lo base b : Nat} (hg : u.grownBy u' (some b)) (hb : base ≤ b) (hsz : base ≤ u.heap.size) : ∀ {es : List Ent}, KC f u lo base es → KC f u' lo base es
  | [], _ => trivial
  | y :: ys, h => ⟨⟨h.1.1, h.1.2.1, fun j x hj => by
      have hk : u'.heap[y.2.1]? = u.heap[y.2.1]? := hg.block _ (Nat.lt_of_lt_of_le h.1.1 hsz) (fun e => by cases e; have := h.1.1; omega)
      rw [World.cell?_of_block (a := ⟨y.2.1, j, none⟩) hk, World.frozen?_of_block (a := ⟨y.2.1, j, none⟩) hk]
      exact h.1.2.2 j x hj⟩, KC.grown hg hb hsz h.2⟩
/-- An operand, where one slot holds y. -/
def ev1 (R : Rg) (i : Nat) (o : Oper) (d : Nat) (y : Value) (x : Operand) : Option Value :=
  match x with
  | .tmp k => bif Nat.beq k d then some y else evR R i o (.tmp k)
  | x => evR R i o x
theorem ev1_spec (X : Xs R ops f t u a i o) {d : Nat} (h4 : d ∈ R.S) {x : Operand} {v : Value} (h : ev1 R i o d (t d) x = some v) : a.eval x = v := by
  unfold ev1 at h
  split at h
  · rename_i k
    cases e : Nat.beq k d with
    | true =>
      rw [e] at h
      have e := Nat.eq_of_beq_eq_true e
      subst e
      cases h
      exact X.inS h4
    | false => rw [e] at h; exact X.ev h
  · exact X.ev h
theorem evs1 (X : Xs R ops f t u a i o) {d : Nat} (h4 : d ∈ R.S) : ∀ {xs : List Operand} {vs : List Value}, xs.mapM (ev1 R i o d (t d)) = some vs → xs.map a.eval = vs
  | [], vs, h => by simp at h; subst h; rfl
  | x :: xs, vs, h => by
    simp only [List.mapM_cons, Option.bind_eq_bind, Option.bind_eq_some_iff, Option.pure_def, Option.some.injEq] at h
    obtain ⟨v, hv, vs', hvs, rfl⟩ := h
    rw [List.map_cons, ev1_spec X h4 hv, evs1 X h4 hvs]
end
end Go.Proofs.YtjekkdckjnlkcaaDoor
namespace Go.Proofs.YtjekkdckjnlkcaaDoor
open Go.RowKit
set_option linter.unusedVariables false
set_option linter.unusedSimpArgs false
/-- An append onto a row that is full: all there was stays as it was. -/
theorem run_appF {P : Program} (w : World) {T ty e : TypeId} {ti : TypeInfo} {z : Value} (ht : P.underlying T = some (.slice e)) (hi : P.info? e = some ti) (hz : ti.zero = some z) (hzs : z.cells.size = ti.size) {lo b n m : Nat} {xs news : List Value} {y : Value} (hcv : CV w b xs) (hlo : lo ≤ b) (hlo2 : lo ≤ w.heap.size) (hlt : b < w.heap.size) (hx : xs.length = n * ti.size) (hy : NW m news w y) (hl : news.length = m * ti.size) (hb : (n + m) * ti.bytes ≤ 140737488355328) (h63 : n + m ≤ 9223372036854775807) :
    ∃ v' w', (Builtin.append_ #[T, T] ty #[.slice (some ⟨b, 0, none⟩) n n, y]).run P w = .ok v' w' ∧ Below w.heap.size w w' ∧ PG lo ti.size (n + m) (xs ++ news) w' v' := by
  obtain ⟨sl, c, rfl, hy⟩ := hy
  by_cases hm : m = 0
  · subst hm
    have hn0 : news = [] := List.eq_nil_of_length_eq_zero (by omega)
    subst hn0
    refine ⟨.slice (some ⟨b, 0, none⟩) n n, w, ?_, Below.refl _ _, b, n, [], rfl, hlo, hlt, Nat.le_refl _, by simp, by simpa using hcv⟩
    have hf : (Builtin.firstCells ti.size 0 (.slice sl 0 c)).run P w = .ok #[] w := by
      cases sl with
      | none => exact run_firstCells_none (P := P) w ti.size 0 0 c
      | some ad => exact run_firstCells_some (P := P) w ti.size 0 ad 0 c [] (by simp) (fun j v h => by simp at h)
    simp [Builtin.append_, run_underlying ht, sizeOf, typeInfo, hi, Builtin.lenOf, hf, storeCells]
  · obtain ⟨ad, rfl, hnews⟩ := hy.resolve_left hm
    have h := run_append_grow (P := P) w T ty e ti z ht hi hz ⟨b, 0, none⟩ n n xs hx (fun j v hj => by rw [Addr.add0]; exact (hcv j v hj).1) ad m c news hl hnews (by omega) (by omega) (growslice_fits (by omega) hb)
    refine ⟨_, _, h, balloc (bself w).drew _, w.heap.size, _, (Builtin.zeroCells z.cells (grownCap w (n + m) n e - (n + m))).toList, rfl, hlo2, by simp, grownCap_ge w (n + m) n e, by rw [Array.length_toList, size_zeroCells, hzs], ?_⟩
    have e1 : xs.toArray ++ news.toArray ++ Builtin.zeroCells z.cells (grownCap w (n + m) n e - (n + m)) = (xs ++ news ++ (Builtin.zeroCells z.cells (grownCap w (n + m) n e - (n + m))).toList).toArray := by apply Array.ext'; simp
    rw [e1]; exact CV.new w.drew _ e
section
variable {R : Rg} {P : Program} {ops : Array Oper} {Q : Exit → Act → World → Prop} {f : Nat → Bool} {t : Nat → Value} {u : World} {a : Act} {i : Nat} {o : Oper}
end
end Go.Proofs.YtjekkdckjnlkcaaDoor
/- HMAC: the numbers. -/
namespace Go.Proofs.YtjekkdckjnlkcaaDoor
open Go.RowKit
set_option linter.unusedVariables false
set_option linter.unusedSimpArgs false
/-- Bytes, each xor a number. -/
def msk (x : Nat) (l : List Nat) : List Nat := l.map (· ^^^ x)
/-- HMAC of a whole key. -/
def hm (k xs : List Nat) : List Nat := dig (msk 92 k ++ dig (msk 54 k ++ xs))
theorem wraps_u8 (n : Int) (h0 : 0 ≤ n) (h1 : n < 2 ^ 8) : IntKind.u8.wrap n = n := by simp [IntKind.wrap, IntKind.signed, IntKind.bits]; omega
theorem wraps_i64 (n : Int) (h0 : 0 ≤ n) (h1 : n < 2 ^ 62) : IntKind.i64.wrap n = n := by rw [IntKind.wrap_i64]; omega
theorem bit_ori (a b : Nat) (ha : a < 4294967296) (hb : b < 4294967296) : bits .or .i64 a b = ((a ||| b : Nat) : Int) := by
  have ha' : a % 2 ^ 64 = a := Nat.mod_eq_of_lt (by omega)
  have hb' : b % 2 ^ 64 = b := Nat.mod_eq_of_lt (by omega)
  have h : (BitVec.ofNat 64 a ||| BitVec.ofNat 64 b).toNat = a ||| b := by rw [BitVec.toNat_or, BitVec.toNat_ofNat, BitVec.toNat_ofNat, ha', hb']
  have h3 : a ||| b < 2 ^ 32 := Nat.or_lt_two_pow (n := 32) ha hb
  show IntKind.i64.wrap ((BitVec.ofInt 64 (a : Int) ||| BitVec.ofInt 64 (b : Int)).toNat : Int) = _
  rw [BitVec.ofInt_natCast, BitVec.ofInt_natCast, h]
  exact wraps_i64 _ (Int.natCast_nonneg _) (by omega)
theorem ori (p q : Operand) (a b : Nat) (w : World) (ha : a < 4294967296) (hb : b < 4294967296) : (do eqGuard .or 3 p q (.int .i64 a) (.int .i64 b); binOp .or 3 (.int .i64 a) (.int .i64 b) : Sem Value).run Tryd.prog w = .ok (.int .i64 ((a ||| b : Nat) : Int)) w := by
  rw [← bit_ori a b ha hb]; go_simp
theorem cv8i {o : Oper} {ev : Operand → Value} {x : Operand} {n : Nat} (u : World) (h1 : n < 256) (ho : o.op = .convert 5 3 x) (hx : ev x = .int .u8 (n : Int)) : (execOp ev o).run Tryd.prog u = .ok (.value (.int .i64 (n : Int))) u := by
  have e1 : IntKind.i64.wrap (n : Int) = (n : Int) := wraps_i64 _ (by omega) (by omega)
  unfold execOp; rw [ho]; simp only [hx]; go_simp
/-- A slice of slices of bytes. -/
def PQ (lo : Nat) (ps : List (List Nat)) (u : World) (y : Value) : Prop := ∃ b cap, y = .slice (some ⟨b, 0, none⟩) ps.length cap ∧ lo ≤ b ∧ b < u.heap.size ∧ PL u b 0 ps
theorem PL.below {u v : World} {b o : Nat} {ps : List (List Nat)} (h : PL u b o ps) (hb : b < u.heap.size) (hB : Below u.heap.size u v) : PL v b o ps := fun i p hp => by
  obtain ⟨x, h1, h2⟩ := h i p hp
  exact ⟨x, (hB.cell (p := ⟨b, o + i, none⟩) hb).trans h1, (h2.below hB).mono hB.size⟩
theorem PQ.stab {lo : Nat} {ps : List (List Nat)} {u v : World} {x : Value} (hB : Below u.heap.size u v) (h : PQ lo ps u x) : PQ lo ps v x := by
  obtain ⟨b, cap, e, h1, h2, h3⟩ := h
  exact ⟨b, cap, e, h1, Nat.lt_of_lt_of_le h2 hB.size, h3.below h2 hB⟩
end Go.Proofs.YtjekkdckjnlkcaaDoor
/- SHA-256: the digest, and its beginning. -/

namespace Go.Proofs.YtjekkdckjnlkcaaDoor
open Go.RowKit
set_option linter.unusedVariables false
set_option linter.unusedSimpArgs false
theorem wraps_u64 (n : Int) (h0 : 0 ≤ n) (h1 : n < 2 ^ 64) : IntKind.u64.wrap n = n := by simp [IntKind.wrap, IntKind.signed, IntKind.bits]; omega
section
variable {R : Rg} {P : Program} {ops : Array Oper} {Q : Exit → Act → World → Prop} {f : Nat → Bool} {t : Nat → Value} {u : World} {a : Act} {i : Nat} {o : Oper}
end
end Go.Proofs.YtjekkdckjnlkcaaDoor
/- SHA-256: the chapter's examples, and what the laws draw. -/

namespace Go.Proofs.YtjekkdckjnlkcaaDoor
open Go.RowKit
set_option linter.unusedVariables false
set_option linter.unusedSimpArgs false
theorem slHB (sl : Option Addr) (n cap k : Nat) (h : k ≤ n) (hc : n ≤ cap) (hn : sl = none → cap = 0) (w : World) : (Instr.sliceAt 24 (.slice sl n cap) none (some (.int .i64 k)) none).run Tryd.prog w = .ok (.slice sl k cap) w := by
  cases sl with
  | none =>
    have e0 := hn rfl
    have e1 : n = 0 := by omega
    have e2 : k = 0 := by omega
    subst e0 e1 e2
    show (Instr.sliceAt 24 (.slice none 0 0) none (some (.int .i64 0)) none).run Tryd.prog w = _
    kernel_rfl
  | some a =>
    have h3 : k ≤ cap := by omega
    simp [Instr.sliceAt, Instr.slice, go_sem, Tryd.underlying24, h3]
theorem IN_nil (u : World) (h : 0 < u.heap.size) : IN u u.heap.size (.slice none 0 0) [] := ⟨none, 0, 0, 0, rfl, Nat.le_refl _, .inl rfl, h, fun j hj => by simp at hj⟩
end Go.Proofs.YtjekkdckjnlkcaaDoor
/- SHA-256: what is hashed: bytes and what is put behind them. -/

namespace Go.Proofs.YtjekkdckjnlkcaaDoor
open Go.RowKit
set_option linter.unusedVariables false
set_option linter.unusedSimpArgs false
section
variable {R : Rg} {P : Program} {ops : Array Oper} {Q : Exit → Act → World → Prop} {f : Nat → Bool} {t : Nat → Value} {u : World} {a : Act} {i : Nat} {o : Oper}
end
end Go.Proofs.YtjekkdckjnlkcaaDoor
/- SHA-256: the digest's state, block by block. -/
namespace Go.Proofs.YtjekkdckjnlkcaaDoor
set_option linter.unusedVariables false
set_option linter.unusedSimpArgs false
end Go.Proofs.YtjekkdckjnlkcaaDoor
/- The law ShaWhole. -/

namespace Go.Proofs.YtjekkdckjnlkcaaDoor
open Go.RowKit
set_option linter.unusedVariables false
set_option linter.unusedSimpArgs false
def strB (ys : List Nat) : ByteArray := strOfNums (ys.map fun (x : Nat) => (x : Int))
theorem SB.take {w : World} {g o : Nat} {xs : List Nat} (h : SB w g o xs) (n : Nat) : SB w g o (xs.take n) := fun j hj => by
  have hj2 : j < n ∧ j < xs.length := by rw [List.length_take] at hj; omega
  rw [h j hj2.2, List.getD_eq_getElem?_getD, List.getD_eq_getElem?_getD, List.getElem?_take_of_lt hj2.1]
theorem cvS {o : Oper} {ev : Operand → Value} {x : Operand} {sl : Option Addr} {n cap : Nat} (ys : List Nat) (u : World) (hl : ys.length = n) (hc : n = 0 ∨ ∃ b off, sl = some ⟨b, off, none⟩ ∧ SB u b off ys) (ho : o.op = .convert 24 9 x) (hx : ev x = .slice sl n cap) : (execOp ev o).run Tryd.prog u = .ok (.value (.string (strB ys))) u := by
  have e : (convert 24 9 (.slice sl n cap)).run Tryd.prog u = .ok (.string (strB ys)) u := by
    rcases hc with h0 | ⟨b, off, rfl, hs⟩
    · subst hl
      have hy : ys = [] := List.length_eq_zero_iff.1 h0
      subst hy
      rw [run_convert_bytes_string u 24 9 5 _ _ cap Tryd.underlying24 Tryd.underlying5 Tryd.underlying9]
      cases sl <;> simp [Conv.bytesToString, loadCells, strB, strOfNums] <;> rfl
    · exact run_convert_bytes_arg u 24 5 Tryd.underlying24 Tryd.underlying5 b off n cap _ (by rw [List.length_map]; exact hl) (fun i hi => by
        rw [hs i (by omega), List.getD_eq_getElem?_getD, List.getD_eq_getElem?_getD, List.getElem?_map, List.getElem?_eq_getElem (by omega)]; rfl) 9 Tryd.underlying9
  unfold execOp; rw [ho]; simp only [hx, Sem.run_bind, e, Result.andThen_ok, Sem.run_pure]
section
variable {R : Rg} {P : Program} {ops : Array Oper} {Q : Exit → Act → World → Prop} {f : Nat → Bool} {t : Nat → Value} {u : World} {a : Act} {i : Nat} {o : Oper}
/-- An operation that reads what is known of the memory. -/
theorem g_ko {v : Value} (h : ∀ (f : Nat → Bool) (ev : Operand → Value) (u : World), KC f u R.lo R.base R.es → Below R.lo R.w u → (∀ x y, evR R i o x = some y → ev x = y) → (execOp ev o).run P u = .ok (.value v) u) (hv : some v = pickV i R.G := by rfl) (hc : R.chk ops i o = true := by rfl) : OG R P ops Q i o :=
  g_pure hv hc fun f t u a X K hK => wp_val (h f a.eval u X.I.2.1 X.I.1.bel (fun x y hxy => X.ev hxy)) hK
end
end Go.Proofs.YtjekkdckjnlkcaaDoor
/- HMAC: masks, and bytes that are the same. -/
namespace Go.Proofs.YtjekkdckjnlkcaaDoor
open Go.RowKit
set_option linter.unusedVariables false
set_option linter.unusedSimpArgs false
end Go.Proofs.YtjekkdckjnlkcaaDoor
/- HMAC: whole keys, and HMAC of parts. -/
namespace Go.Proofs.YtjekkdckjnlkcaaDoor
open Go.RowKit
set_option linter.unusedVariables false
set_option linter.unusedSimpArgs false
end Go.Proofs.YtjekkdckjnlkcaaDoor
/- HMAC of parts, and of bytes. -/
namespace Go.Proofs.YtjekkdckjnlkcaaDoor
open Go.RowKit
set_option linter.unusedVariables false
set_option linter.unusedSimpArgs false
theorem PF.sl {lo n : Nat} {xs : List Value} {u : World} {y : Value} (h : PF lo n xs u y) : ∃ sl n cap, y = .slice sl n cap := by
  obtain ⟨b, rfl, _⟩ := h; exact ⟨_, _, _, rfl⟩
/-- A full row of one slice of bytes. -/
def PQ1 (lo : Nat) (p : List Nat) (u : World) (y : Value) : Prop := ∃ b v, y = .slice (some ⟨b, 0, none⟩) 1 1 ∧ lo ≤ b ∧ b < u.heap.size ∧ CV u b [v] ∧ IN u u.heap.size v p
theorem PQ1.stab {lo : Nat} {p : List Nat} {u v : World} {x : Value} (hB : Below u.heap.size u v) (h : PQ1 lo p u x) : PQ1 lo p v x := by
  obtain ⟨b, y, e, h1, h2, h3, h4⟩ := h
  exact ⟨b, y, e, h1, Nat.lt_of_lt_of_le h2 hB.size, h3.below hB h2, (h4.below hB).mono hB.size⟩
theorem PQ1.new {lo : Nat} {p : List Nat} {u : World} {y : Value} (t : TypeId) (h : lo ≤ u.heap.size) (hy : IN u u.heap.size y p) : PQ1 lo p (u.alloc (.cells [y].toArray t)) (.slice (some ⟨u.heap.size, 0, none⟩) 1 1) :=
  ⟨_, y, rfl, h, by simp, CV.new u _ t, (hy.below (balloc (bself u) _)).mono (by simp)⟩
theorem PL_of {u : World} {b : Nat} {vs zs : List Value} {ps : List (List Nat)} (hcv : CV u b (vs ++ zs)) (hl : vs.length = ps.length) (h : ∀ (i : Nat) (v : Value) (p : List Nat), vs[i]? = some v → ps[i]? = some p → IN u u.heap.size v p) : PL u b 0 ps := fun i p hp => by
  have hi : i < vs.length := by have := (List.getElem?_eq_some_iff.1 hp).1; omega
  have e := List.getElem?_eq_getElem hi
  refine ⟨vs[i], ?_, h i _ p e hp⟩
  rw [Nat.zero_add]; exact (hcv i _ (by rw [List.getElem?_append_left hi]; exact e)).1
theorem PQ.two {lo : Nat} {p q : List Nat} {u : World} {y z : Value} (t : TypeId) (h : lo ≤ u.heap.size) (hy : IN u u.heap.size y p) (hz : IN u u.heap.size z q) : PQ lo [p, q] (u.alloc (.cells [y, z].toArray t)) (.slice (some ⟨u.heap.size, 0, none⟩) 2 2) := by
  have hB : Below u.heap.size u (u.alloc (.cells [y, z].toArray t)) := balloc (bself u) _
  refine ⟨_, 2, rfl, h, by simp, PL_of (vs := [y, z]) (zs := []) (by rw [List.append_nil]; exact CV.new u _ t) rfl fun i v p' hv hp => ?_⟩
  match i with
  | 0 => simp at hv hp; subst hv hp; exact (hy.below hB).mono hB.size
  | 1 => simp at hv hp; subst hv hp; exact (hz.below hB).mono hB.size
  | i + 2 => simp at hv
/-- Slices of bytes that came in. -/
def LV (w : World) (y : Value) (ps : List (List Nat)) : Prop := ∃ (sl : Option Addr) (cap gl go : Nat), y = .slice sl ps.length cap ∧ (ps.length = 0 ∨ sl = some ⟨gl, go, none⟩) ∧ gl < w.heap.size ∧ PL w gl go ps
theorem LV.below {w u : World} {y : Value} {ps : List (List Nat)} (h : LV w y ps) (hB : Below w.heap.size w u) : LV u y ps := by
  obtain ⟨sl, cap, gl, go, e, h1, h2, h3⟩ := h
  exact ⟨sl, cap, gl, go, e, h1, Nat.lt_of_lt_of_le h2 hB.size, h3.below h2 hB⟩
end Go.Proofs.YtjekkdckjnlkcaaDoor
/- HMAC: the chapter's example. -/
namespace Go.Proofs.YtjekkdckjnlkcaaDoor
open Go.RowKit
set_option linter.unusedVariables false
set_option linter.unusedSimpArgs false
section
variable {R : Rg} {P : Program} {ops : Array Oper} {Q : Exit → Act → World → Prop} {f : Nat → Bool} {t : Nat → Value} {u : World} {a : Act} {i : Nat} {o : Oper}
end
end Go.Proofs.YtjekkdckjnlkcaaDoor
/- Copies of bytes, and bytes that are the same. -/
namespace Go.Proofs.YtjekkdckjnlkcaaDoor
open Go.RowKit
set_option linter.unusedVariables false
set_option linter.unusedSimpArgs false
theorem ent_seneschalbase_SameBytes (vs : Array Value) (w : World) : (callFunc 14 vs).run Tryd.prog w = .ok (.enter 14 vs) w := by kernel_rfl
theorem bs0b (w : World) : (Instr.buildSlice 24 0 #[]).run Tryd.prog w = .ok (.slice (some ⟨w.heap.size, 0, none⟩) 0 0) (w.alloc (.cells #[] 5)) := by kernel_rfl
theorem IN_NW {u : World} {m : Nat} {v : Value} {xs : List Nat} (h : IN u m v xs) : NW xs.length (U8 xs) u v := by
  obtain ⟨sl, cap, gb, go, rfl, h1, h2, h3, h4⟩ := h
  refine ⟨sl, cap, rfl, h2.imp_right fun e => ⟨_, e, fun j v hj => ?_⟩⟩
  have hj' : j < xs.length := by have := (List.getElem?_eq_some_iff.1 hj).1; rwa [U8_len] at this
  rw [Addr.addo, h4 j hj', ← hj]
  exact (U8_get xs j hj').symm
/-- Bytes appended to none. -/
theorem app_PZ {lo : Nat} {xs : List Nat} {y : Value} {ty : TypeId} {u : World} {vs : Value} (hlo : lo ≤ u.heap.size) (hl : xs.length ≤ 1000000) (hy : IN u u.heap.size y xs) (h : PZ lo u vs) :
    ∃ v u', (Builtin.append_ #[24, 24] ty #[vs, y]).run Tryd.prog u = .ok v u' ∧ Below u.heap.size u u' ∧ PG lo 1 xs.length (U8 xs) u' v := by
  obtain ⟨b, rfl, h1, h2⟩ := h
  obtain ⟨ti, hti, htm⟩ := Option.map_eq_some_iff.1 infoB
  simp only [Prod.mk.injEq] at htm
  obtain ⟨hzv, hsz, hby⟩ := htm
  obtain ⟨v', u', hr, hB, hg⟩ := run_appF (P := Tryd.prog) u (ty := ty) Tryd.underlying24 hti hzv (by rw [hsz]; rfl) (n := 0) (m := xs.length) (xs := []) (news := U8 xs) (fun j v h => by simp at h) h1 hlo h2 (by simp) (IN_NW hy) (by rw [hsz, U8_len]; omega) (by rw [hby]; omega) (by omega)
  rw [hsz, Nat.zero_add, List.nil_append] at hg
  exact ⟨v', u', hr, hB, hg⟩
theorem PG_in {lo s : Nat} {xs : List Nat} {u : World} {y : Value} (h : PG lo s xs.length (U8 xs) u y) : IN u u.heap.size y xs := by
  obtain ⟨b, cap, zs, rfl, h1, h2, h3, h4, h5⟩ := h
  refine ⟨_, _, b, 0, rfl, h3, .inr rfl, h2, fun j hj => ?_⟩
  rw [Nat.zero_add]; exact (h5.pre2 j _ (U8_get xs j hj)).1
set_option maxRecDepth 100000 in
set_option maxHeartbeats 4000000 in
theorem cBytes (xs : List Nat) (y : Value) (w : World) (hxl : xs.length ≤ 1000000) (hIN : Hid (IN w w.heap.size y xs)) :
    Calls Tryd.prog 17 #[y] w fun e w' => ∃ v, e = .returned v ∧ PG w.heap.size 1 xs.length (U8 xs) w' v ∧ Below w.heap.size w w' := by
  go_enter Tryd.func17, Tryd.ntmps17
  have HB0 : Below w.heap.size w w := Below.refl _ _
  have K0_1 := Bk.nil (w.heap.size) w
  go_upto_region 1 with fail
  refine rgF K0_1 HB0 HB0.size [] [] [(1, 4, y)] [] [] [⟨0, 3, some 2, PZ w.heap.size⟩, ⟨2, 5, some 3, PG w.heap.size 1 xs.length (U8 xs)⟩, ⟨3, 2, none, PG w.heap.size 1 xs.length (U8 xs)⟩] [] (.cons (fun _ _ _ h1 h2 => h2.stab h1) <| .cons (fun _ _ _ h1 h2 => h2.stab h1) <| .cons (fun _ _ _ h1 h2 => h2.stab h1) <| Stab.nil) ?_ ?_
  · refine oc (g_bs 0 (PZ w.heap.size) bs0b (fun u hu => PZ.new hu)) ?_
    refine oc g_mv ?_
    refine oc (g_a1 0 1 (PZ w.heap.size) (PG w.heap.size 1 xs.length (U8 xs)) (fun u vs hB hs hv => app_PZ hB.size hxl ((hIN.out.below hB).mono hB.size) hv)) ?_
    exact oc (g_sE 1 2 (PG w.heap.size 1 xs.length (U8 xs))) on
  intro u1 v1_0 hv1_0 v1_2 hv1_2 v1_3 hv1_3 HB1 sz1 K1
  simp only [fX, nK, nP, Wr.f, aK, pM] at K1
  simp only [setG, setN, setE, List.set_cons_zero, List.set_cons_succ]
  clear HB0
  have hz := hv1_3 rfl
  go_wp2
  refine bodyPost_ret (v := v1_3) (by simp [results, Tryd.results17, go_sem]) rfl ⟨_, rfl, hz, HB1⟩
theorem eql_str (p q : Operand) (s t : ByteArray) (b : Bool) (w : World) (h : decide (s = t) = b) : (do eqGuard .eql 9 p q (.string s) (.string t); binOp .eql 9 (.string s) (.string t) : Sem Value).run Tryd.prog w = .ok (.bool b) w := by
  have hb : (s.toList == t.toList) = b := by
    subst h
    by_cases e : s = t
    · subst e; simp
    · have e2 : ¬ s.toList = t.toList := fun h => e (by
        rw [ByteArray.toList_eq, ByteArray.toList_eq] at h
        cases s; cases t
        exact congrArg ByteArray.mk (Array.toList_inj.1 h))
      simp [e, e2]
  rw [← hb]
  go_simp
theorem strB_inj {xs ys : List Nat} (hx : ∀ x ∈ xs, x < 256) (hy : ∀ x ∈ ys, x < 256) : strB xs = strB ys ↔ xs = ys := by
  constructor
  · intro h
    have h1 := congrArg (fun s => s.data.toList) h
    simp only [strB, strOfNums_data, List.map_map] at h1
    have hl : xs.length = ys.length := by have := congrArg List.length h1; simpa using this
    refine List.ext_getElem hl fun j a b => ?_
    have h2 := congrArg (fun l => l[j]?) h1
    simp [List.getElem?_eq_getElem a, List.getElem?_eq_getElem b] at h2
    have h3 := congrArg UInt8.toNat h2
    have e1 := hx _ (List.getElem_mem a)
    have e2 := hy _ (List.getElem_mem b)
    simp [UInt8.toNat_ofNat'] at h3
    omega
  · rintro rfl; rfl
set_option maxRecDepth 100000 in
set_option maxHeartbeats 4000000 in
theorem cSameB_core (n cap n2 cap2 : Nat) (sl sl2 : Option Addr) (s t : ByteArray) (r : Bool) (w : World) (hr : decide (s = t) = r) (h1 : Hid (∀ {o : Oper} {ev : Operand → Value} {x : Operand} (u : World), Below w.heap.size w u → o.op = .convert 24 9 x → ev x = .slice sl n cap → (execOp ev o).run Tryd.prog u = .ok (.value (.string s)) u)) (h2 : Hid (∀ {o : Oper} {ev : Operand → Value} {x : Operand} (u : World), Below w.heap.size w u → o.op = .convert 24 9 x → ev x = .slice sl2 n2 cap2 → (execOp ev o).run Tryd.prog u = .ok (.value (.string t)) u)) :
    Calls Tryd.prog 14 #[.slice sl n cap, .slice sl2 n2 cap2] w fun e w' => e = .returned (.bool r) ∧ Below w.heap.size w w' := by
  go_enter Tryd.func14, Tryd.ntmps14
  have HB0 : Below w.heap.size w w := Below.refl _ _
  have K0_1 := Bk.nil (w.heap.size) w
  go_upto_region 1 with fail
  refine rgP K0_1 HB0 HB0.size [] [] [(0, 5, (.slice sl n cap)), (1, 6, .string s), (2, 7, (.slice sl2 n2 cap2)), (3, 8, .string t), (4, 9, .bool r), (5, 4, .bool r)] [] [] [] ?_ ?_
  · refine oc g_mv ?_
    refine oc (g_ko (fun fZ ev uZ kZ bZ he => h1.out uZ bZ rfl (he _ _ rfl))) ?_
    refine oc g_mv ?_
    refine oc (g_ko (fun fZ ev uZ kZ bZ he => h2.out uZ bZ rfl (he _ _ rfl))) ?_
    refine oc (g_bn (fun uZ => eql_str _ _ s t r uZ hr)) ?_
    exact oc g_as on
  intro u1 HB1 sz1 K1
  simp only [fX, nK, nP, Wr.f, aK, pM] at K1
  simp only [setG, setN, List.set_cons_zero, List.set_cons_succ]
  clear HB0
  go_wp2
  refine bodyPost_ret (v := .bool r) (by simp [results, Tryd.results14, go_sem, ]) rfl ⟨rfl, HB1⟩
theorem cSameB (xs ys : List Nat) (v v2 : Value) (w : World) (h : IN w w.heap.size v xs) (h' : IN w w.heap.size v2 ys) (hx : ∀ x ∈ xs, x < 256) (hy : ∀ x ∈ ys, x < 256) :
    Calls Tryd.prog 14 #[v, v2] w fun e w' => e = .returned (.bool (decide (xs = ys))) ∧ Below w.heap.size w w' := by
  obtain ⟨sl, cap, gb, go, rfl, a1, a2, a3, a4⟩ := h
  obtain ⟨sl2, cap2, gb2, go2, rfl, b1, b2, b3, b4⟩ := h'
  refine cSameB_core xs.length cap ys.length cap2 sl sl2 (strB xs) (strB ys) _ w (by rw [decide_eq_decide]; exact strB_inj hx hy) (fun u hB ho hx => ?_) (fun u hB ho hx => ?_)
  · exact cvS xs u rfl (a2.imp_right fun e => ⟨_, _, e, a4.below hB a3⟩) ho hx
  · exact cvS ys u rfl (b2.imp_right fun e => ⟨_, _, e, b4.below hB b3⟩) ho hx
end Go.Proofs.YtjekkdckjnlkcaaDoor
