/- HMAC: the chapter's example. -/
import Derived.Test.YtlcjbnhfmcnnfaaDoorMC3
import Derived.Test.YtlcjbnhfmcnnfaaDoorSW
namespace Go.Proofs.YtlcjbnhfmcnnfaaDoor
open Go.RowKit
set_option linter.unusedVariables false
set_option linter.unusedSimpArgs false
section
variable {R : Rg} {P : Program} {ops : Array Oper} {Q : Exit → Act → World → Prop} {f : Nat → Bool} {t : Nat → Value} {u : World} {a : Act} {i : Nat} {o : Oper}
/-- A call of two such values. -/
theorem g_cQ (m m2 : Nat) (p p2 : World → Value → Prop) {N : FuncId} {j d j2 d2 : Nat} {tys : Array TypeId} {v : Value} (hr : ∀ (vs : Array Value) (w : World), (callFunc N vs).run P w = .ok (.enter N vs) w)
    (hcall : ∀ (w : World) (x y : Value), Below R.lo R.w w → p w x → p2 w y → Calls P N #[x, y] w fun e w' => e = .returned v ∧ Below w.heap.size w w') (hop : o.op = .call { callee := .value (.func N), args := [.tmp d, .tmp d2].toArray, argTypes := tys } := by rfl) (hm : R.E[m]? = some ⟨j, d, some i, p⟩ := by rfl) (hm2 : R.E[m2]? = some ⟨j2, d2, some i, p2⟩ := by rfl) (hd : (hasDep o j && R.S.contains d && (hasDep o j2 && R.S.contains d2)) = true := by rfl) (hv : some v = pickV i R.G := by rfl) (hc : R.chk ops i o = true := by rfl) : OG R P ops Q i o := fun f t u a X => by
  simp only [Bool.and_eq_true, List.contains_iff_mem] at hd
  obtain ⟨⟨h2, h4⟩, h5, h6⟩ := hd
  have e1 : p u (t d) := X.val hm h2 rfl
  have e2 : p2 u (t d2) := X.val hm2 h5 rfl
  exact X.go (chk_parts hc).choose_spec.2.2.2.2.2.2.2 fun K hK => wp_callF (vs := [t d, t d2]) hop (by rw [List.map_cons, List.map_cons, List.map_nil, X.inS h4, X.inS h6]) hr (hcall u (t d) (t d2) X.I.1.bel e1 e2) fun w' hB => hK _ _ (X.put hv hc (X.I.1.call hB) (X.I.2.1.below hB X.I.1.sz) hB)
end
theorem not_f (w : World) : (Op.unary .not (.bool false)).run Tryd.prog w = .ok (.bool true) w := by go_simp
/-- Bytes of a constant, as they lie in memory. -/
theorem PS_const (xs : List Nat) (n : Nat) (hn : xs.length = n) (w : World) (q : Nat × Nat) (hq : n ≤ q.1) {lo : Nat} (h : lo ≤ w.heap.size) : PS lo n (U8 xs) (w.alloc (.cells (U8 xs).toArray 5 q)) (.slice (some ⟨w.heap.size, 0, none⟩) n n) := by
  refine ⟨w.heap.size, n, rfl, h, by simp, Nat.le_refl _, fun j v hj => ?_⟩
  have hb : (w.alloc (.cells (U8 xs).toArray 5 q)).heap[w.heap.size]? = some (.cells (U8 xs).toArray 5 q) := by
    show (w.heap.push _)[w.heap.size]? = _
    simp
  have hj3 : j < n := by have := (List.getElem?_eq_some_iff.1 hj).1; rw [U8_len] at this; omega
  constructor
  · unfold World.cell?
    rw [hb]
    simpa using hj
  · unfold World.frozen?
    rw [hb]
    simp; omega
def qkb : List Nat := [84, 104, 101, 32, 113, 117, 105, 99, 107, 32, 98, 114, 111, 119, 110, 32, 102, 111, 120, 32, 106, 117, 109, 112, 115, 32, 111, 118, 101, 114, 32, 116, 104, 101, 32, 108, 97, 122, 121, 32, 100, 111, 103]
def kyb : List Nat := [107, 101, 121]
theorem mac_qkb : (mac kyb qkb).take 4 = [247, 188, 131, 244] := by decide +kernel
theorem PS_sn {lo n : Nat} {xs : List Value} {u : World} {y : Value} (h : PS lo n xs u y) : ∀ n c, y = .slice none n c → c = 0 := fun n c e => by
  obtain ⟨b, cap, rfl, _⟩ := h; cases e
end Go.Proofs.YtlcjbnhfmcnnfaaDoor
