/- Cast: what a node holds, in memory. -/
import Derived.Test.YthncmahhnbpbkaaKA0
namespace Go.Proofs.Ythncmahhnbpbkaa
open Go.RowKit Go.ChangeMaps Go.Maps Go.WideMaps
set_option linter.unusedVariables false
set_option linter.unusedSimpArgs false
/-- Nothing but what lies from lo to hi has changed, of what there was. -/
structure Kp (lo hi : Nat) (w w' : World) : Prop where
  os : w'.os = w.os
  tape : w'.tape = w.tape
  output : w'.output = w.output
  size : w.heap.size ≤ w'.heap.size
  block : ∀ k, k < w.heap.size → (k < lo ∨ hi ≤ k) → w'.heap[k]? = w.heap[k]?
theorem Kp.refl (lo hi : Nat) (w : World) : Kp lo hi w w := ⟨rfl, rfl, rfl, Nat.le_refl _, fun _ _ _ => rfl⟩
theorem Kp.trans {lo hi : Nat} {a b c : World} (h : Kp lo hi a b) (k : Kp lo hi b c) : Kp lo hi a c := ⟨k.os.trans h.os, k.tape.trans h.tape, k.output.trans h.output, Nat.le_trans h.size k.size, fun j hj hh => (k.block j (Nat.lt_of_lt_of_le hj h.size) hh).trans (h.block j hj hh)⟩
theorem Kp.wide {lo hi lo' hi' : Nat} {a b : World} (h : Kp lo hi a b) (h1 : lo' ≤ lo) (h2 : hi ≤ hi') : Kp lo' hi' a b := ⟨h.os, h.tape, h.output, h.size, fun k hk hh => h.block k hk (by omega)⟩
theorem _root_.Go.RowKit.Below.kp {lo hi : Nat} {a b : World} (h : Below a.heap.size a b) : Kp lo hi a b := ⟨h.os, h.tape, h.output, h.size, fun k hk _ => h.block k hk⟩
theorem Kp.bel {lo hi m : Nat} {a b : World} (h : Kp lo hi a b) (h1 : m ≤ lo) (h2 : m ≤ a.heap.size) : Below m a b := ⟨h.os, h.tape, h.output, h.size, fun k hk => h.block k (by omega) (.inl (by omega))⟩
theorem Kp.alloc {lo hi : Nat} {a b : World} (h : Kp lo hi a b) (o : Obj) : Kp lo hi a (b.alloc o) := h.trans (balloc (bself b) o).kp
theorem Kp.drew {lo hi : Nat} {a b : World} (h : Kp lo hi a b) : Kp lo hi a b.drew := ⟨h.os, h.tape, h.output, h.size, h.block⟩
theorem Kp.drewN {lo hi : Nat} {a b : World} (h : Kp lo hi a b) (n : Nat) : Kp lo hi a (b.drewN n) := ⟨h.os, h.tape, h.output, h.size, h.block⟩
theorem Kp.cell {lo hi : Nat} {a b : World} (h : Kp lo hi a b) {p : Addr} (h1 : lo ≤ p.block) (h2 : p.block < hi) (v : Value) : Kp lo hi a (b.setCell p v) := by
  have hb : Below (min p.block b.heap.size) b (b.setCell p v) := (Below.refl _ _).setCell (Nat.min_le_left _ _) v
  exact h.trans ⟨hb.os, hb.tape, hb.output, hb.size, fun k hk hh => Below.heap_setCell b p v k (by omega)⟩
theorem Kp.setB {lo hi b : Nat} {a c : World} (h : Kp lo hi a c) (h1 : lo ≤ b) (h2 : b < hi) (o : Obj) : Kp lo hi a (setBlock c b o) :=
  h.trans ⟨rfl, rfl, rfl, by simp [setBlock], fun k hk hh => by simp only [setBlock]; rw [Array.getElem?_setIfInBounds_ne (by omega)]⟩
theorem CV.kp {lo hi b : Nat} {l : List Value} {a c : World} (h : CV a b l) (hk : Kp lo hi a c) (hb : b < a.heap.size) (hh : b < lo ∨ hi ≤ b) : CV c b l := fun j v hj => by
  have e := hk.block b hb hh
  rw [World.cell?_of_block (a := ⟨b, j, none⟩) e, World.frozen?_of_block (a := ⟨b, j, none⟩) e]
  exact h j v hj
theorem CV.lt {b : Nat} {l : List Value} {w : World} (h : CV w b l) (h0 : l ≠ []) : b < w.heap.size := by
  cases l with
  | nil => exact absurd rfl h0
  | cons v l =>
    have := (h 0 v rfl).1
    unfold World.cell? at this
    by_cases hb : b < w.heap.size
    · exact hb
    · exfalso
      have e : w.heap[b]? = none := Array.getElem?_eq_none (by omega)
      simp [e] at this
theorem HM.lt {w : World} {b : Nat} {l : List Int} (h : HM w b l) : b < w.heap.size := by
  obtain ⟨es, c, h1, _⟩ := h
  exact (Array.getElem?_eq_some_iff.1 h1).1
theorem MM.lt {w : World} {b : Nat} {f : ByteArray → Int} (h : MM w b f) : b < w.heap.size := by
  obtain ⟨es, c, h1, _⟩ := h
  exact (Array.getElem?_eq_some_iff.1 h1).1
/-- A node: its numbers; what it counted; what it chose. -/
structure Nd where
  n : Int
  t : Int
  me : Int
  dl : Int
  bg : Bool
  ec : List (Int × ByteArray)
  rd : List (Int × ByteArray)
  e : Option ByteArray
  r : Option ByteArray
  d : Option ByteArray
/-- Who sent these. -/
def fs (l : List (Int × ByteArray)) : List Int := l.map (·.1)
/-- How many of these sent that. -/
def cnt (l : List (Int × ByteArray)) (v : ByteArray) : Int := ((l.filter fun x => x.2 = v).length : Nat)
abbrev noS : ByteArray := ⟨#[]⟩
abbrev sV (o : Option ByteArray) : Value := .string (o.getD noS)
abbrev bV (o : Option ByteArray) : Value := .bool o.isSome
abbrev iV1 (n : Int) : Value := .int .i64 n
abbrev nC (s : Nat) (x : Nd) : List Value := [iV1 x.n, iV1 x.t, iV1 x.me, iV1 x.dl, .bool x.bg, .map (some (s + 1)), .map (some (s + 2)), .map (some (s + 4)), .map (some (s + 5)), sV x.e, bV x.e, sV x.r, bV x.r, sV x.d, bV x.d]
/-- A node in memory. -/
structure NM (w : World) (s : Nat) (x : Nd) : Prop where
  c : CV w (s + 6) (nC s x)
  h1 : HM w (s + 1) (fs x.ec)
  m1 : MM w (s + 2) (cnt x.ec)
  h2 : HM w (s + 4) (fs x.rd)
  m2 : MM w (s + 5) (cnt x.rd)
theorem NM.kp {lo hi s : Nat} {x : Nd} {a c : World} (h : NM a s x) (hk : Kp lo hi a c) (hh : s + 7 ≤ lo ∨ hi ≤ s) : NM c s x :=
  ⟨h.c.kp hk (h.c.lt (by simp)) (by omega), h.h1.same (hk.block _ h.h1.lt (by omega)), h.m1.same (hk.block _ h.m1.lt (by omega)), h.h2.same (hk.block _ h.h2.lt (by omega)), h.m2.same (hk.block _ h.m2.lt (by omega))⟩
abbrev pN (s : Nat) : Value := .pointer (some ⟨s + 6, 0, none⟩)
abbrev MX (k f : Int) (v : ByteArray) : Value := .agg #[.int .i64 k, .int .i64 f, .string v]
theorem ent_nc (vs : Array Value) (w : World) : (callFunc 27 vs).run Try.prog w = .ok (.enter 27 vs) w := by kernel_rfl
theorem cNoCounts (w : World) : Calls Try.prog 27 #[] w fun e' w' => e' = .returned (.agg #[.map (some (w.heap.size + 1)), .map (some (w.heap.size + 2))]) ∧ Below w.heap.size w w' ∧ w'.heap.size = w.heap.size + 3 ∧ w'.heap[w.heap.size + 1]? = some (.map #[] 0) ∧ w'.heap[w.heap.size + 2]? = some (.map #[] 0) := by
  go_enter Try.func27, Try.ntmps27
  have h1 := mkH
  have h2 := mkS
  go_wp2
  refine bodyPost_ret (v := .agg #[.map (some (w.heap.size + 1)), .map (some (w.heap.size + 1 + 1))]) (by simp [results, Try.results27, go_sem]) rfl ⟨rfl, balloc (balloc (balloc (bself w) _) _) _, by simp, ?_, ?_⟩
  · rw [Below.heap_alloc _ _ _ (by simp)]
    have := (MapKept.heap_alloc (w.alloc (.cells #[.map (some (w.heap.size + 1)), .map (some (w.heap.size + 1 + 1))] 64)) (.map #[] 0)).1
    simpa using this
  · have := (MapKept.heap_alloc ((w.alloc (.cells #[.map (some (w.heap.size + 1)), .map (some (w.heap.size + 1 + 1))] 64)).alloc (.map #[] 0)) (.map #[] 0)).1
    simpa using this
/-- The zero of some kinds. -/
theorem ent_add (vs : Array Value) (w : World) : (callFunc 38 vs).run Try.prog w = .ok (.enter 38 vs) w := by kernel_rfl
theorem cAdd (a b : Nat) (hab : a < b) (l : List Int) (f : ByteArray → Int) (x : Int) (v : ByteArray) (w : World) (hx : (Lit.int .i64 x).wf = true) (hv : v.size ≤ maxLen) (h1 : HM w a l) (h2 : MM w b f) (hf : 0 ≤ f v ∧ f v ≤ 1000) :
    Calls Try.prog 38 #[.agg #[.map (some a), .map (some b)], .int .i64 x, .string v] w fun e' w' => e' = .returned (.bool (decide (x ∉ l))) ∧ Kp a (b + 1) w w' ∧ (x ∈ l → HM w' a l ∧ MM w' b f) ∧ (x ∉ l → HM w' a (l ++ [x]) ∧ MM w' b (up1 f v (f v + 1))) := by
  go_enter Try.func38, Try.ntmps38
  go_upto_region 1 with fail
  generalize hC : (w.alloc (.cells #[.map (some a), .map (some b)] 64)) = v0 at *
  have hB0 : Below w.heap.size w v0 := by rw [← hC]; exact balloc (bself w) _
  have hc : CV v0 w.heap.size [.map (some a), .map (some b)] := by rw [← hC]; exact CV.new w [.map (some a), .map (some b)] _
  have hs0 : v0.heap.size = w.heap.size + 1 := by rw [← hC]; simp
  have l1 := h1.lt
  have l2 := h2.lt
  have g1 := h1.same (hB0.block _ l1)
  have g2 := h2.same (hB0.block _ l2)
  have c0 := (hc 0 _ rfl).1
  have c1 := (hc 1 _ rfl).1
  have hl := g1.look hx
  clear hC
  by_cases hm : x ∈ l
  · simp only [hm, decide_true] at hl
    go_wp2
    refine bodyPost_ret (v := .bool false) (by simp [results, Try.results38, go_sem]) rfl ⟨by simp [hm], (balloc hB0 _).kp, fun _ => ⟨h1.same ((balloc hB0 _).block _ l1), h2.same ((balloc hB0 _).block _ l2)⟩, fun h => absurd hm h⟩
  · simp only [hm, decide_false] at hl
    go_upto_region 4 with fail
    have hB1 : Below w.heap.size w (v0.alloc (.cells #[] 83)) := balloc hB0 _
    have c0' : (v0.alloc (.cells #[] 83)).cell? ⟨w.heap.size, 0, none⟩ = some (.map (some a)) := by rw [((bself v0).alloc (Nat.le_refl _) _).cell (by simp; omega)]; exact c0
    have c1' : (v0.alloc (.cells #[] 83)).cell? ⟨w.heap.size, 1, none⟩ = some (.map (some b)) := by rw [((bself v0).alloc (Nat.le_refl _) _).cell (by simp; omega)]; exact c1
    clear c0 c1 hc hl
    generalize (v0.alloc (.cells #[] 83)) = v1 at *
    have k1 := h1.same (hB1.block _ l1)
    have k2 := h2.same (hB1.block _ l2)
    obtain ⟨o1, hu1, q1⟩ := k1.add hx hm
    have hK1 : Kp a (b + 1) w (setBlock v1 a o1) := hB1.kp.setB (Nat.le_refl _) (by omega) o1
    have q2 : MM (setBlock v1 a o1) b f := k2.same (by simp only [setBlock]; rw [Array.getElem?_setIfInBounds_ne (by omega)])
    have d0 : (setBlock v1 a o1).cell? ⟨w.heap.size, 0, none⟩ = some (.map (some a)) := by
      rw [World.cell?_of_block (w := v1)]; exact c0'
      simp only [setBlock]; rw [Array.getElem?_setIfInBounds_ne (by omega)]
    have d1 : (setBlock v1 a o1).cell? ⟨w.heap.size, 1, none⟩ = some (.map (some b)) := by
      rw [World.cell?_of_block (w := v1)]; exact c1'
      simp only [setBlock]; rw [Array.getElem?_setIfInBounds_ne (by omega)]
    go_upto_region 5 with fail
    generalize (setBlock v1 a o1) = v2 at *
    have hlk := q2.look hv
    obtain ⟨o2, hu2, q3⟩ := q2.put (n := f v + 1) hv
    have hK2 : Kp a (b + 1) w (setBlock v2 b o2) := hK1.setB (by omega) (by omega) o2
    have q4 : HM (setBlock v2 b o2) a (l ++ [x]) := q1.same (by simp only [setBlock]; rw [Array.getElem?_setIfInBounds_ne (by omega)])
    have ew : IntKind.i64.wrap (f v + 1) = f v + 1 := by rw [IntKind.wrap_i64]; omega
    go_wp2
    refine bodyPost_ret (v := .bool true) (by simp [results, Try.results38, go_sem]) rfl ⟨by simp [hm], hK2, fun h => absurd h hm, fun _ => ⟨q4, q3⟩⟩
end Go.Proofs.Ythncmahhnbpbkaa
