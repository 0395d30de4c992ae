/- Rows of words and of bytes, of any content. -/
import Derived.Test.YtlcjbnhfmcnnfaaDoorSH1
namespace Go.Proofs.YtlcjbnhfmcnnfaaDoor
open Go.RowKit
set_option linter.unusedVariables false
set_option linter.unusedSimpArgs false
section
variable {R : Rg} {P : Program} {ops : Array Oper} {Q : Exit → Act → World → Prop} {f : Nat → Bool} {t : Nat → Value} {u : World} {a : Act} {i : Nat} {o : Oper}
/-- A load of a cell, wherever it lies. -/
theorem g_lw (k c : Nat) {T : TypeId} {x : Operand} {b : Nat} {v : Value} {l : List Value} (hr : ∀ w, w.cell? ⟨b, c, none⟩ = some v → (Instr.loadAt T (.pointer (some ⟨b, c, none⟩))).run P w = .ok v w) (hl : l[c]? = some v) (hop : o.op = .load T x := by rfl) (hk : R.cur i k = some (b, l) := by rfl) (hx : evR R i o x = some (.pointer (some ⟨b, c, none⟩)) := by rfl) (hv : some v = pickV i R.G := by rfl) (hc : R.chk ops i o = true := by rfl) : OG R P ops Q i o :=
  g_pure hv hc fun f t u a X K hK => wp_load hop (X.ev hx) (hr u ((X.cur hk).1 c _ hl).1) hK
/-- A load of a cell that came in. -/
theorem g_lg (b c : Nat) {T : TypeId} {x : Operand} {v : Value} (hr : ∀ w, w.cell? ⟨b, c, none⟩ = some v → (Instr.loadAt T (.pointer (some ⟨b, c, none⟩))).run P w = .ok v w) (hl : R.w.cell? ⟨b, c, none⟩ = some v) (hb : b < R.lo) (hop : o.op = .load T x := by rfl) (hx : evR R i o x = some (.pointer (some ⟨b, c, none⟩)) := by rfl) (hv : some v = pickV i R.G := by rfl) (hc : R.chk ops i o = true := by rfl) : OG R P ops Q i o :=
  g_pure hv hc fun f t u a X K hK => wp_load hop (X.ev hx) (hr u ((X.I.1.bel.cell (p := ⟨b, c, none⟩) hb).trans hl)) hK
/-- A store of a cell, wherever it lies. -/
theorem g_sw (k c : Nat) {T : TypeId} {x y : Operand} {b : Nat} {l post : List Value} {v0 v : Value} (hr : ∀ w, w.cell? ⟨b, c, none⟩ = some v0 → w.frozen? ⟨b, c, none⟩ = false → (Instr.storeAt T (.pointer (some ⟨b, c, none⟩)) v).run P w = .ok () (w.setCell ⟨b, c, none⟩ v)) (h0 : l[c]? = some v0) (hp : post = l.set c v)
    (hop : o.op = .store T x y := by rfl) (hn : R.es[k]? = some (true, b, l, .all i post) := by rfl) (hx : evR R i o x = some (.pointer (some ⟨b, c, none⟩)) := by rfl) (hy : evR R i o y = some v := by rfl)
    (hf : (((R.es.eraseIdx k).all fun q => q.2.2.2.free i) && (R.nw.all (nwf0 i))) = true := by rfl) (hc : R.chkS ops i o = true := by rfl) : OG R P ops Q i o := fun f t u a X => by
  simp only [Bool.and_eq_true] at hf
  obtain ⟨q1, q2, q3⟩ := X.I.2.1.get hn
  have q3 : CV u b (bif f i then post else l) := q3
  rw [X.fi] at q3
  have q3 : CV u b l := q3
  have cc := Chg.cell u b c v
  have hlt : c < l.length := (List.getElem?_eq_some_iff.1 h0).1
  refine X.go (chkS_parts hc).2.2.2 fun K hK => wp_store hop (X.ev hx) (X.ev hy) (hr u (q3 c _ h0).1 (q3 c _ h0).2) (hK _ _ (X.put0 hc ?_ ?_))
  · rw [nwF_free0 hf.2]
    exact X.I.1.wr (X.I.1.bel.setCell (q2 rfl) _) cc q1
  · refine KC.put cc X.I.2.1 hn X.nd hf.1 ?_
    simp only [Wr.val, updF_eq, cond_true]
    rw [hp]
    exact q3.setC c hlt v
end
theorem res_cell {P : Program} {fn : Func} {tmps : Array Value} {s : Nat} {T : TypeId} {b : Nat} {cs : List Value} {d : TypeDesc} {w : World} (h : fn.results = #[.cell s T]) (hs : tmps[s]?.getD undef = .pointer (some ⟨b, 0, none⟩)) (hc : CV w b cs) (hu : P.underlying T = some d) (hd : d.isRow = true) (hi : (P.info? T).map (·.size) = some cs.length) : (results fn tmps).run P w = .ok (.agg cs.toArray) w := by
  have hl := run_loadVar_mid (P := P) w b 0 T cs d hc.range hu hd hi
  unfold results
  rw [h]
  simp [hs, asAddr, hl]
/-- Words, and bytes, as they lie in memory. -/
def U32 (l : List Nat) : List Value := l.map fun (x : Nat) => .int .u32 (x : Int)
def U8 (l : List Nat) : List Value := l.map fun (x : Nat) => .int .u8 (x : Int)
theorem U32_len (l : List Nat) : (U32 l).length = l.length := List.length_map ..
theorem U8_len (l : List Nat) : (U8 l).length = l.length := List.length_map ..
theorem U32_get (l : List Nat) (j : Nat) (h : j < l.length) : (U32 l)[j]? = some (.int .u32 ((l.getD j 0 : Nat) : Int)) := by simp [U32, List.getElem?_eq_getElem h]
theorem U8_get (l : List Nat) (j : Nat) (h : j < l.length) : (U8 l)[j]? = some (.int .u8 ((l.getD j 0 : Nat) : Int)) := by simp [U8, List.getElem?_eq_getElem h]
theorem U32_set (l : List Nat) (j x : Nat) : U32 (l.set j x) = (U32 l).set j (.int .u32 (x : Int)) := by simp [U32, List.map_set]
theorem U8_set (l : List Nat) (j x : Nat) : U8 (l.set j x) = (U8 l).set j (.int .u8 (x : Int)) := by simp [U8, List.map_set]
theorem U32_one : ∀ l : List Nat, allOne (U32 l) = true
  | [] => rfl
  | x :: r => by show (Value.oneCell' (.int .u32 (x : Int)) && allOne (U32 r)) = true; rw [U32_one r]; rfl
theorem U8_one : ∀ l : List Nat, allOne (U8 l) = true
  | [] => rfl
  | x :: r => by show (Value.oneCell' (.int .u8 (x : Int)) && allOne (U8 r)) = true; rw [U8_one r]; rfl
theorem l32 {b c : Nat} {v : Int} (w : World) (h : w.cell? ⟨b, c, none⟩ = some (.int .u32 v)) : (Instr.loadAt 64 (.pointer (some ⟨b, c, none⟩))).run Tryd.prog w = .ok (.int .u32 v) w := by go_simp
theorem l8 {b c : Nat} {v : Int} (w : World) (h : w.cell? ⟨b, c, none⟩ = some (.int .u8 v)) : (Instr.loadAt 5 (.pointer (some ⟨b, c, none⟩))).run Tryd.prog w = .ok (.int .u8 v) w := by go_simp
theorem s32 {b c : Nat} {v x : Int} (w : World) (h : w.cell? ⟨b, c, none⟩ = some (.int .u32 v)) (hf : w.frozen? ⟨b, c, none⟩ = false) : (Instr.storeAt 64 (.pointer (some ⟨b, c, none⟩)) (.int .u32 x)).run Tryd.prog w = .ok () (w.setCell ⟨b, c, none⟩ (.int .u32 x)) := by go_simp
theorem s8 {b c : Nat} {v x : Int} (w : World) (h : w.cell? ⟨b, c, none⟩ = some (.int .u8 v)) (hf : w.frozen? ⟨b, c, none⟩ = false) : (Instr.storeAt 5 (.pointer (some ⟨b, c, none⟩)) (.int .u8 x)).run Tryd.prog w = .ok () (w.setCell ⟨b, c, none⟩ (.int .u8 x)) := by go_simp
end Go.Proofs.YtlcjbnhfmcnnfaaDoor
