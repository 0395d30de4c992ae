/- SHA-256: the digest as a fold over the bytes. -/
import Derived.Test.YtlcjbnhfmcnnfaaDoorSH7
namespace Go.Proofs.YtlcjbnhfmcnnfaaDoor
open Go.RowKit
set_option linter.unusedVariables false
set_option linter.unusedSimpArgs false
/-- State, block and count behind one more byte. -/
def tk1 (q : List Nat × List Nat × Nat) (x : Nat) : List Nat × List Nat × Nat :=
  (if (q.2.2 + 1) % 64 = 0 then blk q.1 (q.2.1.set (q.2.2 % 64) x) else q.1, q.2.1.set (q.2.2 % 64) x, q.2.2 + 1)
def tkA (q : List Nat × List Nat × Nat) (xs : List Nat) : List Nat × List Nat × Nat := xs.foldl tk1 q
theorem tkA_app (q : List Nat × List Nat × Nat) (xs ys : List Nat) : tkA q (xs ++ ys) = tkA (tkA q xs) ys := List.foldl_append
theorem tkA_is (q : List Nat × List Nat × Nat) (xs : List Nat) : ∀ j, j ≤ xs.length → tkA q (xs.take j) = (tkS q.2.2 q.1 q.2.1 xs j, tkB q.2.2 q.2.1 xs j, q.2.2 + j)
  | 0, _ => by simp [tkA, tkS, tkB]
  | j + 1, h => by
    have hg : xs.getD j 0 = xs[j] := by simp [List.getElem?_eq_getElem (show j < xs.length by omega)]
    rw [List.take_succ_eq_append_getElem (by omega), tkA_app, tkA_is q xs j (by omega)]
    show tk1 _ _ = _
    unfold tk1
    simp only [tkS, tkB, hg, Nat.add_assoc]
theorem tkA_all (q : List Nat × List Nat × Nat) (xs : List Nat) : tkA q xs = (tkS q.2.2 q.1 q.2.1 xs xs.length, tkB q.2.2 q.2.1 xs xs.length, q.2.2 + xs.length) := by
  have := tkA_is q xs xs.length (Nat.le_refl _)
  rwa [List.take_length] at this
/-- A digest on its way, well formed. -/
structure QW (q : List Nat × List Nat × Nat) : Prop where
  s : WW 8 q.1
  b : BB 64 q.2.1
theorem QW.go {q : List Nat × List Nat × Nat} (h : QW q) (xs : List Nat) (hx : ∀ j, xs.getD j 0 < 256) : QW (tkA q xs) := by
  rw [tkA_all]; exact ⟨tkS_W h.s _, tkB_B h.b hx _⟩
theorem tkA_c (q : List Nat × List Nat × Nat) (xs : List Nat) : (tkA q xs).2.2 = q.2.2 + xs.length := by rw [tkA_all]
abbrev RQ (q : List Nat × List Nat × Nat) : List Value := RB q.1 q.2.1 q.2.2
theorem BB.all {n : Nat} {l : List Nat} (h : BB n l) : ∀ j, l.getD j 0 < 256 := h.lt
/-- The first state, an empty block, nothing taken. -/
def q00 : List Nat × List Nat × Nat := (fst8, z64, 0)
theorem q00_W : QW q00 := ⟨⟨rfl, fun j => by
  by_cases h : j < 8
  · exact (by decide : ∀ j, j < 8 → fst8.getD j 0 < M32) j h
  · rw [List.getD_eq_getElem?_getD, List.getElem?_eq_none (by show 8 ≤ j; omega)]; decide⟩, BB_rep 64⟩
/-- The digest. -/
def dig (xs : List Nat) : List Nat := told (tkA q00 (xs ++ ending xs.length)).1
section
variable {R : Rg} {P : Program} {ops : Array Oper} {Q : Exit → Act → World → Prop} {f : Nat → Bool} {t : Nat → Value} {u : World} {a : Act} {i : Nat} {o : Oper}
/-- A load of a row that came in. -/
theorem g_lgR (b c : Nat) {T : TypeId} {x : Operand} {cs : List Value} {dd : TypeDesc} (hl : ∀ j v, cs[j]? = some v → R.w.cell? ⟨b, c + j, none⟩ = some v) (hb : b < R.lo) (hu : P.underlying T = some dd) (hi : (P.info? T).map (·.size) = some cs.length) (hop : o.op = .load T x := by rfl) (hx : evR R i o x = some (.pointer (some ⟨b, c, none⟩)) := by rfl)
    (hr : dd.isRow = true := by rfl) (hv : some (.agg cs.toArray) = pickV i R.G := by rfl) (hc : R.chk ops i o = true := by rfl) : OG R P ops Q i o :=
  g_pure hv hc fun f t u a X K hK => wp_load_mid T x hop b c (X.ev hx) cs dd (fun j v hj => (X.I.1.bel.cell (p := ⟨b, c + j, none⟩) hb).trans (hl j v hj)) hu hr hi hK
/-- A call that writes a block, and knows what came in. -/
theorem g_cxb (k : Nat) {N : FuncId} {args : List Operand} {tys : Array TypeId} {vs : List Value} {v : Value} {b : Nat} {l post : List Value} (hr : ∀ (vs : Array Value) (w : World), (callFunc N vs).run P w = .ok (.enter N vs) w)
    (hcall : ∀ f w, KC f w R.lo R.base R.es → R.base ≤ w.heap.size → Below R.lo R.w w → CV w b l → Calls P N vs.toArray w fun e w' => e = .returned v ∧ Below b w w' ∧ CV w' b post) (hlt : LtB b (R.es.eraseIdx k)) (hop : o.op = .call { callee := .value (.func N), args := args.toArray, argTypes := tys } := by rfl) (hn : R.es[k]? = some (true, b, l, .all i post) := by rfl) (hx : args.mapM (evR R i o) = some vs := by rfl) (hv : some v = pickV i R.G := by rfl)
    (hw : R.nw = [] := by rfl) (hE : R.E = [] := by rfl) (hc : ((match o.dst with | some d => ownsA i d R.G && apart i d R.Ns && R.S.contains d | none => false) && R.okO i o && ((R.es.eraseIdx k).all fun q => q.2.2.2.free i) && (wants R ops o == some true)) = true := by rfl) : OG R P ops Q i o := fun f t u a X => by
  cases hd : o.dst with
  | none => rw [hd] at hc; simp at hc
  | some d =>
    rw [hd] at hc
    simp only [Bool.and_eq_true, List.contains_iff_mem, beq_iff_eq] at hc
    obtain ⟨q1, q2, q3⟩ := X.I.2.1.get hn
    have q3 : CV u b (bif f i then post else l) := q3
    rw [X.fi] at q3
    have q3 : CV u b l := q3
    refine X.go hc.2 fun K hK => wp_callX hop (X.evs hx) hr (B := fun w' => Below b u w' ∧ CV w' b post) ((hcall f u X.I.2.1 X.I.1.sz X.I.1.bel q3)) fun w' hB => hK _ _ ⟨updT t d v, by rw [hd]; exact X.F.put X.parts.1 hc.1.1.1.2 v, ?_, ?_, Gs.stepA X.I.2.2.1 hc.1.1.1.1.1 hv.symm, okO_spec hc.1.1.2 X.I.2.2.2.1 X.dep, Ns.step X.I.2.2.2.2.1 hc.1.1.1.1.2, by rw [hE]; trivial⟩
    · have hM := X.I.1
      rw [hw] at hM ⊢
      exact { bel := hM.bel.trans (hB.1.mono (q2 rfl)), lo := hM.lo, sz := Nat.le_trans hM.sz hB.1.size, ks := trivial, ex := trivial, nw := trivial, nd := trivial }
    · exact KC.putB hB.1 X.I.2.1 hn hlt hc.1.2 (by simp only [Wr.val, updF_eq, cond_true]; exact hB.2)
/-- A call that writes a block, with a value that was made as its second argument. -/
theorem g_cy (k : Nat) (p : World → Value → Prop) {N : FuncId} {j dy : Nat} {x : Operand} {tys : Array TypeId} {vx v : Value} {b : Nat} {l post : List Value} (hr : ∀ (vs : Array Value) (w : World), (callFunc N vs).run P w = .ok (.enter N vs) w)
    (hcall : ∀ f w y, KC f w R.lo R.base R.es → R.base ≤ w.heap.size → Below R.lo R.w w → p w y → CV w b l → Calls P N #[vx, y] w fun e w' => e = .returned v ∧ Below b w w' ∧ CV w' b post) (hlt : LtB b (R.es.eraseIdx k)) (hop : o.op = .call { callee := .value (.func N), args := [x, .tmp dy].toArray, argTypes := tys } := by rfl) (hn : R.es[k]? = some (true, b, l, .all i post) := by rfl) (hx : evR R i o x = some vx := by rfl) (hE : R.E = [⟨j, dy, some i, p⟩] := by rfl) (hdd : (hasDep o j && R.S.contains dy) = true := by rfl) (hv : some v = pickV i R.G := by rfl)
    (hw : R.nw = [] := by rfl) (hc : ((match o.dst with | some d => ownsA i d R.G && apart i d R.Ns && R.S.contains d | none => false) && R.okO i o && ((R.es.eraseIdx k).all fun q => q.2.2.2.free i) && (wants R ops o == some true)) = true := by rfl) : OG R P ops Q i o := fun f t u a X => by
  rw [Bool.and_eq_true, List.contains_iff_mem] at hdd
  obtain ⟨h2, h4⟩ := hdd
  have hy : p u (t dy) := X.val (n := 0) (q := ⟨j, dy, some i, p⟩) (by rw [hE]; rfl) h2 rfl
  cases hd : o.dst with
  | none => rw [hd] at hc; simp at hc
  | some d =>
    rw [hd] at hc
    simp only [Bool.and_eq_true, List.contains_iff_mem, beq_iff_eq] at hc
    obtain ⟨q1, q2, q3⟩ := X.I.2.1.get hn
    have q3 : CV u b (bif f i then post else l) := q3
    rw [X.fi] at q3
    have q3 : CV u b l := q3
    refine X.go hc.2 fun K hK => wp_callX (vs := [vx, t dy]) hop (by rw [List.map_cons, List.map_cons, List.map_nil, X.ev hx, X.inS h4]) hr (B := fun w' => Below b u w' ∧ CV w' b post) ((hcall f u (t dy) X.I.2.1 X.I.1.sz X.I.1.bel hy q3)) fun w' hB => hK _ _ ⟨updT t d v, by rw [hd]; exact X.F.put X.parts.1 hc.1.1.1.2 v, ?_, ?_, Gs.stepA X.I.2.2.1 hc.1.1.1.1.1 hv.symm, okO_spec hc.1.1.2 X.I.2.2.2.1 X.dep, Ns.step X.I.2.2.2.2.1 hc.1.1.1.1.2, ?_⟩
    · have hM := X.I.1
      rw [hw] at hM ⊢
      exact { bel := hM.bel.trans (hB.1.mono (q2 rfl)), lo := hM.lo, sz := Nat.le_trans hM.sz hB.1.size, ks := trivial, ex := trivial, nw := trivial, nd := trivial }
    · exact KC.putB hB.1 X.I.2.1 hn hlt hc.1.2 (by simp only [Wr.val, updF_eq, cond_true]; exact hB.2)
    · rw [hE]
      exact ⟨fun _ h => (by have h3 := h i rfl; rw [updF_eq] at h3; cases h3), trivial⟩
end
theorem lSl {b c n cap : Nat} {sl : Option Addr} (w : World) (h : w.cell? ⟨b, c, none⟩ = some (.slice sl n cap)) : (Instr.loadAt 24 (.pointer (some ⟨b, c, none⟩))).run Tryd.prog w = .ok (.slice sl n cap) w := by go_simp
end Go.Proofs.YtlcjbnhfmcnnfaaDoor
