/- Rows of slices of bytes. -/
import Derived.Test.YtbgdcgboomdimaaDoorME2
namespace Go.Proofs.YtbgdcgboomdimaaDoor
open Go.RowKit
set_option linter.unusedVariables false
set_option linter.unusedSimpArgs false
/-- Bytes that lie in another block than b. -/
def INb (u : World) (b : Nat) (v : Value) (p : List Nat) : Prop := ∃ (sl : Option Addr) (cap gb go : Nat), v = .slice sl p.length cap ∧ p.length ≤ cap ∧ (p.length = 0 ∨ sl = some ⟨gb, go, none⟩) ∧ gb < u.heap.size ∧ gb ≠ b ∧ SB u gb go p
theorem INb.inn {u : World} {b : Nat} {v : Value} {p : List Nat} (h : INb u b v p) : IN u u.heap.size v p := by
  obtain ⟨sl, cap, gb, go, e, h1, h2, h3, _, h5⟩ := h
  exact ⟨sl, cap, gb, go, e, h1, h2, h3, h5⟩
theorem INb.below {u u' : World} {b : Nat} {v : Value} {p : List Nat} (h : INb u b v p) (hB : Below u.heap.size u u') : INb u' b v p := by
  obtain ⟨sl, cap, gb, go, e, h1, h2, h3, h4, h5⟩ := h
  exact ⟨sl, cap, gb, go, e, h1, h2, Nat.lt_of_lt_of_le h3 hB.size, h4, h5.below hB h3⟩
theorem IN.nb {u : World} {m b : Nat} {v : Value} {p : List Nat} (h : IN u m v p) (hm : m ≤ b) (hs : m ≤ u.heap.size) : INb u b v p := by
  obtain ⟨sl, cap, gb, go, e, h1, h2, h3, h5⟩ := h
  exact ⟨sl, cap, gb, go, e, h1, h2, by omega, by omega, h5⟩
/-- A write into block b leaves it as it was. -/
theorem INb.put {u : World} {b : Nat} {v : Value} {p : List Nat} (h : INb u b v p) (o : Nat) (ws : List Value) : INb (u.setCells b o ws) b v p := by
  obtain ⟨sl, cap, gb, go, e, h1, h2, h3, h4, h5⟩ := h
  refine ⟨sl, cap, gb, go, e, h1, h2, by rw [size_setCells]; exact h3, h4, fun j hj => ?_⟩
  have hk := World.heap_setCells_other u b o ws h3 h4
  rw [World.cell?_of_block (a := ⟨gb, go + j, none⟩) hk]; exact h5 j hj
/-- A part's length as bytes. -/
def lnB (n : Nat) : List Nat := [(n >>> 24) % 256, (n >>> 16) % 256, (n >>> 8) % 256, n % 256]
theorem lnB_B (n : Nat) : BB 4 (lnB n) := ⟨rfl, by_getD (by
  intro x hx
  simp [lnB] at hx
  omega)⟩
/-- Parts with their lengths ahead. -/
def lnP : List (List Nat) → List (List Nat)
  | [] => []
  | p :: ps => lnB p.length :: p :: lnP ps
theorem lnP_app : ∀ (a b : List (List Nat)), lnP (a ++ b) = lnP a ++ lnP b
  | [], b => rfl
  | p :: a, b => by rw [List.cons_append, lnP, lnP, lnP_app a b]; rfl
theorem lnP_len : ∀ a : List (List Nat), (lnP a).length = 2 * a.length
  | [] => rfl
  | p :: a => by rw [lnP, List.length_cons, List.length_cons, List.length_cons, lnP_len a]; omega
theorem lnP_m : ∀ {a : List (List Nat)}, (∀ p ∈ a, ∀ x ∈ p, x < 256) → ∀ p ∈ lnP a, ∀ x ∈ p, x < 256
  | [], _, p, hp => by simp [lnP] at hp
  | q :: a, h, p, hp => by
    rw [lnP, List.mem_cons, List.mem_cons] at hp
    rcases hp with rfl | rfl | hp
    · exact (lnB_B _).mem
    · exact h _ List.mem_cons_self
    · exact lnP_m (fun p hp => h p (List.mem_cons_of_mem _ hp)) p hp
theorem lnP_l : ∀ {a : List (List Nat)}, (∀ p ∈ a, p.length ≤ 1000) → ∀ p ∈ lnP a, p.length ≤ 1000
  | [], _, p, hp => by simp [lnP] at hp
  | q :: a, h, p, hp => by
    rw [lnP, List.mem_cons, List.mem_cons] at hp
    rcases hp with rfl | rfl | hp
    · rw [(lnB_B _).len]; omega
    · exact h _ List.mem_cons_self
    · exact lnP_l (fun p hp => h p (List.mem_cons_of_mem _ hp)) p hp
theorem lnP_f : ∀ {a : List (List Nat)}, (∀ p ∈ a, p.length ≤ 1000) → (lnP a).flatten.length ≤ 1004 * a.length
  | [], _ => by simp [lnP]
  | q :: a, h => by
    have h1 := h q List.mem_cons_self
    have h2 := lnP_f (a := a) (fun p hp => h p (List.mem_cons_of_mem _ hp))
    rw [lnP, List.flatten_cons, List.flatten_cons, List.length_append, List.length_append, (lnB_B _).len, List.length_cons]
    omega
theorem lnP_step {ps : List (List Nat)} {i : Nat} (h : i < ps.length) : lnP (ps.take (i + 1)) = lnP (ps.take i) ++ [lnB (ps.getD i []).length, ps.getD i []] := by
  have e : ps.getD i [] = ps[i] := by rw [List.getD_eq_getElem?_getD, List.getElem?_eq_getElem h]; rfl
  rw [List.take_succ_eq_append_getElem h, lnP_app, e]; rfl
theorem cvi32 {o : Oper} {ev : Operand → Value} {x : Operand} {n : Nat} (u : World) (h1 : n < 4294967296) (ho : o.op = .convert 3 31 x) (hx : ev x = .int .i64 (n : Int)) : (execOp ev o).run Tryd.prog u = .ok (.value (.int .u32 (n : Int))) u := by
  have e1 : IntKind.u32.wrap (n : Int) = (n : Int) := wraps_u32 _ (by omega) (by omega)
  unfold execOp; rw [ho]; simp only [hx]; go_simp
theorem bsB4 (a b c d : Nat) (w : World) : (Instr.buildSlice 22 4 ([0, 1, 2, 3].zip [.int .u8 (a : Int), .int .u8 (b : Int), .int .u8 (c : Int), .int .u8 (d : Int)]).toArray).run Tryd.prog w = .ok (.slice (some ⟨w.heap.size, 0, none⟩) 4 4) (w.alloc (.cells (U8 [a, b, c, d]).toArray 5)) := by kernel_rfl
theorem mkRow {lo : Nat} (n : Nat) (hn : n ≤ 100000) (u : World) (h : lo ≤ u.heap.size) : ∃ v u', (Instr.makeSlice 37 (.int .i64 0) (.int .i64 (n : Int))).run Tryd.prog u = .ok v u' ∧ Below u.heap.size u u' ∧ PM lo n u' v := by
  obtain ⟨i, hi, hi2⟩ := Option.map_eq_some_iff.1 infoSl
  simp only [Prod.mk.injEq] at hi2
  obtain ⟨hz, hs, hb⟩ := hi2
  have := run_makeSlice (P := Tryd.prog) u 37 22 i (.slice none 0 0) Tryd.underlying37 hi hz .i64 .i64 0 n (by omega) (by omega) (by rw [hs]; omega) (by rw [hb]; omega) (by omega)
  refine ⟨_, _, this, balloc (bself u) _, u.heap.size, (madeCells (Value.slice none 0 0).cells ((n : Int).toNat * i.size)).toList, by simp, h, by simp, ?_, ?_⟩
  · rw [hs]; simp [madeCells]
  · have := CV.new u (madeCells (Value.slice none 0 0).cells ((n : Int).toNat * i.size)).toList 22
    simpa using this
theorem mkRE {o : Oper} {ev : Operand → Value} {x y : Operand} {n lo : Nat} (hn : n ≤ 100000) (u : World) (h : lo ≤ u.heap.size) (ho : o.op = .makeSlice 37 x y) (hx : ev x = .int .i64 0) (hy : ev y = .int .i64 (n : Int)) : ∃ v u', (execOp ev o).run Tryd.prog u = .ok (.value v) u' ∧ Below u.heap.size u u' ∧ PM lo n u' v := by
  obtain ⟨v, u', hr, h1, h2⟩ := mkRow (lo := lo) n hn u h
  refine ⟨v, u', ?_, h1, h2⟩
  unfold execOp; rw [ho]; simp only [hx, hy, Sem.run_bind, hr, Result.andThen_ok, Sem.run_pure]
/-- An append of two slices to a row that has room. -/
theorem app_two {u : World} {b m c : Nat} {ty : TypeId} {vs zs : List Value} {v p : Value} (hcv : CV u b (vs ++ zs)) (hvl : vs.length = m) (hzl : zs.length = c - m) (hr : m + 2 ≤ c) (hv : ∃ sl n cap, v = .slice sl n cap) (hp : ∃ sl n cap, p = .slice sl n cap) (hb : b < u.heap.size) :
    (Builtin.append_ #[37, 37] ty #[.slice (some ⟨b, 0, none⟩) m c, .slice (some ⟨u.heap.size, 0, none⟩) 2 2]).run Tryd.prog (u.alloc (.cells #[v, p] 22)) = .ok (.slice (some ⟨b, 0, none⟩) (m + 2) c) ((u.alloc (.cells #[v, p] 22)).setCells b m [v, p]) := by
  obtain ⟨ti, hti, htm⟩ := Option.map_eq_some_iff.1 infoSl
  simp only [Prod.mk.injEq] at htm
  obtain ⟨hzv, hsz, hby⟩ := htm
  have hcv2 : CV (u.alloc (.cells #[v, p] 22)) b (vs ++ zs) := hcv.below (balloc (bself u) _) hb
  have h := run_append_in (P := Tryd.prog) (u.alloc (.cells #[v, p] 22)) (ty := ty) Tryd.underlying37 hti hcv2 (n := m) (cap := c) (m := 2) (c := 2) (news := [v, p]) (ad := ⟨u.heap.size, 0, none⟩) (by rw [hsz]; rfl) (fun j x hj => by
    rw [Addr.add0]; exact (CV.new u [v, p] 22 j x hj).1) (fun x hx => by
    obtain ⟨a1, a2, a3, rfl⟩ := hv
    obtain ⟨b1, b2, b3, rfl⟩ := hp
    simp at hx
    rcases hx with rfl | rfl <;> rfl) hr (by rw [hsz, List.length_append]; simp; omega)
  rw [hsz, Nat.mul_one] at h
  exact h
end Go.Proofs.YtbgdcgboomdimaaDoor
