/- SHA-256: a digest on its way. -/
import Derived.Test.YtlcjbnhfmcnnfaaDoorSM
import Derived.Laws.IdiomCopy
namespace Go.Proofs.YtlcjbnhfmcnnfaaDoor
open Go.RowKit
set_option linter.unusedVariables false
set_option linter.unusedSimpArgs false
section
variable {R : Rg} {P : Program} {ops : Array Oper} {Q : Exit → Act → World → Prop} {f : Nat → Bool} {t : Nat → Value} {u : World} {a : Act} {i : Nat} {o : Oper}
theorem wp_cp {K : Act → World → Prop} {s x : Operand} {T T2 : TypeId} {vs vx v : Value} {w' : World} (ho : o.op = .call { callee := .builtin .copy, args := [s, x].toArray, argTypes := [T, T2].toArray }) (hs : a.eval s = vs) (hx : a.eval x = vx) (hr : (Builtin.copy_ #[T, T2] o.type #[vs, vx]).run P u = .ok v w') (hk : K (a.put o.dst v) w') : o.wp P a u K Q := by
  unfold Oper.wp execOp
  simp only [ho, resolve, invoke, builtin, Sem.run_bind, Sem.run_pure, Result.andThen_ok, List.map_toArray, List.map_cons, List.map_nil, hs, hx, hr]
  exact hk
/-- A copy into a block's midst. -/
theorem g_cp (k : Nat) {T T2 e : TypeId} {x y : Operand} {b c dl dc sl sc : Nat} {ad : Addr} (xs ys zs cs : List Value) (ht : P.underlying T = some (.slice e)) (hi : (P.info? e).map (·.size) = some 1) (hn : cs.length = Nat.min sl dl) (hsrc : ∀ f u, KC f u R.lo R.base R.es → Below R.lo R.w u → ∀ j v, cs[j]? = some v → u.cell? (ad.add j) = some v) (h1 : ∀ v ∈ cs, v.oneCell' = true) (hxc : xs.length = c) (hl : ys.length = cs.length)
    (hop : o.op = .call { callee := .builtin .copy, args := [x, y].toArray, argTypes := [T, T2].toArray } := by rfl) (hes : R.es[k]? = some (true, b, xs ++ ys ++ zs, .all i (xs ++ cs ++ zs)) := by rfl) (hx : evR R i o x = some (.slice (some ⟨b, c, none⟩) dl dc) := by rfl) (hy : evR R i o y = some (.slice (some ad) sl sc) := by rfl) (hv : some (goInt cs.length) = pickV i R.G := by rfl)
    (hw : R.nw = [] := by rfl) (hE : R.E = [] := by rfl) (hc : ((match o.dst with | some d => ownsA i d R.G && apart i d R.Ns && R.S.contains d | none => false) && R.okO i o && ((R.es.eraseIdx k).all fun q => q.2.2.2.free i) && (wants R ops o == some true)) = true := by rfl) : OG R P ops Q i o := fun f t u a X => by
  cases hdd : o.dst with
  | none => rw [hdd] at hc; simp at hc
  | some d' =>
    rw [hdd] at hc
    simp only [Bool.and_eq_true, List.contains_iff_mem, beq_iff_eq] at hc
    obtain ⟨q1, q2, q3⟩ := X.I.2.1.get hes
    have q3 : CV u b (bif f i then xs ++ cs ++ zs else xs ++ ys ++ zs) := q3
    rw [X.fi] at q3
    have q3 : CV u b (xs ++ ys ++ zs) := q3
    have hr := run_copy_cells (P := P) u T T2 o.type e b c dl dc ad sl sc cs ht hi hn (hsrc f u X.I.2.1 X.I.1.bel) (fun j hj => by
      rw [(q3 (c + j) _ (List.getElem?_eq_getElem (by simp only [List.length_append]; omega))).1]; rfl) (fun j hj => (q3 (c + j) _ (List.getElem?_eq_getElem (by simp only [List.length_append]; omega))).2) h1
    have cc := Chg.cellsAt u b c cs
    refine X.go hc.2 fun K hK => wp_cp hop (X.ev hx) (X.ev hy) hr (hK _ _ ⟨updT t d' _, by rw [hdd]; exact X.F.put X.parts.1 hc.1.1.1.2 _, ?_, ?_, Gs.stepA X.I.2.2.1 hc.1.1.1.1.1 hv.symm, okO_spec hc.1.1.2 X.I.2.2.2.1 X.dep, Ns.step X.I.2.2.2.2.1 hc.1.1.1.1.2, by rw [hE]; trivial⟩)
    · have hM := X.I.1
      rw [hw] at hM ⊢
      exact { bel := below_setCells (q2 rfl) _ _ _ hM.bel, lo := hM.lo, sz := by rw [size_setCells]; exact hM.sz, ks := trivial, ex := trivial, nw := trivial, nd := trivial }
    · exact KC.put cc X.I.2.1 hes X.nd hc.1.2 (by simp only [Wr.val, updF_eq, cond_true]; exact q3.mid hxc hl)
end
/-- A digest on its way, as it lies in memory. -/
def RB (ss bs : List Nat) (c : Nat) : List Value := U32 ss ++ (U8 bs ++ [.int .u64 (c : Int)])
abbrev RBm (X Y Z : List Value) : List Value := X ++ Y ++ Z
theorem RB_c {ss bs : List Nat} {c : Nat} (h1 : ss.length = 8) (h2 : bs.length = 64) : (RB ss bs c)[72]? = some (.int .u64 (c : Int)) := by
  unfold RB; rw [← List.append_assoc, List.getElem?_append_right (by rw [List.length_append, U32_len, U8_len]; omega)]; simp [U32_len, U8_len, h1, h2]
theorem RB_set (ss bs : List Nat) (c d : Nat) (h1 : ss.length = 8) (h2 : bs.length = 64) : RB ss bs d = (RB ss bs c).set 72 (.int .u64 (d : Int)) := by
  unfold RB; rw [← List.append_assoc, ← List.append_assoc, List.set_append_right _ _ (by rw [List.length_append, U32_len, U8_len]; omega)]; simp [U32_len, U8_len, h1, h2]
theorem RB_ss {ss bs : List Nat} {c : Nat} : ∀ j v, (U32 ss)[j]? = some v → (RB ss bs c)[0 + j]? = some v := fun j v hj => by
  rw [Nat.zero_add]; unfold RB; rw [List.getElem?_append_left (List.getElem?_eq_some_iff.1 hj).1]; exact hj
theorem RB_bs {ss bs : List Nat} {c : Nat} (h1 : ss.length = 8) : ∀ j v, (U8 bs)[j]? = some v → (RB ss bs c)[8 + j]? = some v := fun j v hj => by
  have hl := (List.getElem?_eq_some_iff.1 hj).1
  unfold RB; rw [List.getElem?_append_right (by rw [U32_len]; omega), U32_len, h1, show 8 + j - 8 = j by omega, List.getElem?_append_left hl]; exact hj
theorem U8_app (a b : List Nat) : U8 (a ++ b) = U8 a ++ U8 b := by simp [U8]
theorem RB_mid {ss bs : List Nat} {c k n : Nat} (m : List Nat) (hm : bs = bs.take k ++ m ++ bs.drop (k + n)) : RB ss bs c = RBm (U32 ss ++ U8 (bs.take k)) (U8 m) (U8 (bs.drop (k + n)) ++ [.int .u64 (c : Int)]) := by
  unfold RB RBm
  conv => lhs; rw [hm]
  rw [U8_app, U8_app]
  simp only [List.append_assoc]
theorem RB_mid2 {ss bs bs2 : List Nat} {c k n : Nat} (m : List Nat) (hm : bs2 = bs.take k ++ m ++ bs.drop (k + n)) : RBm (U32 ss ++ U8 (bs.take k)) (U8 m) (U8 (bs.drop (k + n)) ++ [.int .u64 (c : Int)]) = RB ss bs2 c := by
  unfold RB RBm
  rw [hm, U8_app, U8_app]
  simp only [List.append_assoc]
theorem cut3 (l : List Nat) (k n : Nat) : l = l.take k ++ (l.drop k).take n ++ l.drop (k + n) := by
  rw [List.append_assoc, ← List.drop_drop, List.take_append_drop, List.take_append_drop]
theorem U8_mem {l : List Nat} : ∀ v ∈ U8 l, v.oneCell' = true := fun v hv => by
  obtain ⟨x, _, rfl⟩ := List.mem_map.1 hv; rfl
theorem gtr_i (p q : Operand) (x y : Int) (b : Bool) (w : World) (h : decide (y < x) = b) : (do eqGuard .gtr 3 p q (.int .i64 x) (.int .i64 y); binOp .gtr 3 (.int .i64 x) (.int .i64 y) : Sem Value).run Tryd.prog w = .ok (.bool b) w := by
  subst h; go_simp
theorem eql_u (T : TypeId) (p q : Operand) (x y : Int) (b : Bool) (w : World) (h : (x == y) = b) : (do eqGuard .eql T p q (.int .u64 x) (.int .u64 y); binOp .eql T (.int .u64 x) (.int .u64 y) : Sem Value).run Tryd.prog w = .ok (.bool b) w := by
  subst h; go_simp
/-- What is left of a slice of bytes. -/
theorem slC (gb go len cap n : Nat) (h : n ≤ len) (hc : len ≤ cap) : ∃ sl, (len - n = 0 ∨ sl = some ⟨gb, go + n, none⟩) ∧ ∀ w, (Instr.sliceAt 24 (.slice (some ⟨gb, go, none⟩) len cap) (some (.int .i64 n)) none none).run Tryd.prog w = .ok (.slice sl (len - n) (cap - n)) w := by
  have h3 : (n : Int) ≤ len := by omega
  have h4 : (len : Int) ≤ cap := by omega
  have h5 : n ≤ cap := by omega
  by_cases e : cap = n
  · refine ⟨some ⟨gb, go, none⟩, .inl (by omega), fun w => ?_⟩
    simp [Instr.sliceAt, Instr.slice, go_sem, Tryd.underlying24, h, h3, h4, h5, hc, e]
  · refine ⟨some ⟨gb, go + n, none⟩, .inr rfl, fun w => ?_⟩
    simp [Instr.sliceAt, Instr.slice, go_sem, Tryd.underlying24, h, h3, h4, h5, hc, e]
/-- The bytes xs lie from o on in block g. -/
def SB (w : World) (g o : Nat) (xs : List Nat) : Prop := ∀ j, j < xs.length → w.cell? ⟨g, o + j, none⟩ = some (.int .u8 ((xs.getD j 0 : Nat) : Int))
theorem SB.cells {w : World} {g o : Nat} {xs : List Nat} (h : SB w g o xs) (k n : Nat) : ∀ j v, (U8 ((xs.drop k).take n))[j]? = some v → w.cell? ((⟨g, o + k, none⟩ : Addr).add j) = some v := fun j v hj => by
  have hl : j < ((xs.drop k).take n).length := by have := (List.getElem?_eq_some_iff.1 hj).1; rwa [U8_len] at this
  rw [U8_get _ j hl] at hj
  have hl2 : k + j < xs.length := by rw [List.length_take, List.length_drop] at hl; omega
  have e : (⟨g, o + k, none⟩ : Addr).add j = ⟨g, o + (k + j), none⟩ := by unfold Addr.add; split <;> simp_all <;> omega
  rw [e, h (k + j) hl2, ← hj]
  have hn : j < n := by rw [List.length_take] at hl; omega
  simp [List.getElem?_take, hn, List.getElem?_drop]
theorem info_uint8 : (Tryd.prog.info? 5).map (·.size) = some 1 := by kernel_rfl
end Go.Proofs.YtlcjbnhfmcnnfaaDoor
