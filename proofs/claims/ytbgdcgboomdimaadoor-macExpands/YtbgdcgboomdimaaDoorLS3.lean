/- The law ShaWhole. -/

import Derived.Test.YtbgdcgboomdimaaDoorSW
import Derived.Test.YtbgdcgboomdimaaDoorSQ
import Derived.Laws.BytesArg
namespace Go.Proofs.YtbgdcgboomdimaaDoor
open Go.RowKit
set_option linter.unusedVariables false
set_option linter.unusedSimpArgs false
theorem ent_seneschalref04_First (vs : Array Value) (w : World) : (callFunc 40 vs).run Tryd.prog w = .ok (.enter 40 vs) w := by kernel_rfl
theorem neq_same (T : TypeId) (p q : Operand) (k : IntKind) (x : Int) (w : World) : (do eqGuard .neq T p q (.int k x) (.int k x); binOp .neq T (.int k x) (.int k x) : Sem Value).run Tryd.prog w = .ok (.bool false) w := by go_simp
theorem neq_str (T : TypeId) (p q : Operand) (s : ByteArray) (w : World) : (do eqGuard .neq T p q (.string s) (.string s); binOp .neq T (.string s) (.string s) : Sem Value).run Tryd.prog w = .ok (.bool false) w := by go_simp
def strB (ys : List Nat) : ByteArray := strOfNums (ys.map fun (x : Nat) => (x : Int))
theorem SB.take {w : World} {g o : Nat} {xs : List Nat} (h : SB w g o xs) (n : Nat) : SB w g o (xs.take n) := fun j hj => by
  have hj2 : j < n ∧ j < xs.length := by rw [List.length_take] at hj; omega
  rw [h j hj2.2, List.getD_eq_getElem?_getD, List.getD_eq_getElem?_getD, List.getElem?_take_of_lt hj2.1]
theorem cvS {o : Oper} {ev : Operand → Value} {x : Operand} {sl : Option Addr} {n cap : Nat} (ys : List Nat) (u : World) (hl : ys.length = n) (hc : n = 0 ∨ ∃ b off, sl = some ⟨b, off, none⟩ ∧ SB u b off ys) (ho : o.op = .convert 22 9 x) (hx : ev x = .slice sl n cap) : (execOp ev o).run Tryd.prog u = .ok (.value (.string (strB ys))) u := by
  have e : (convert 22 9 (.slice sl n cap)).run Tryd.prog u = .ok (.string (strB ys)) u := by
    rcases hc with h0 | ⟨b, off, rfl, hs⟩
    · subst hl
      have hy : ys = [] := List.length_eq_zero_iff.1 h0
      subst hy
      rw [run_convert_bytes_string u 22 9 5 _ _ cap Tryd.underlying22 Tryd.underlying5 Tryd.underlying9]
      cases sl <;> simp [Conv.bytesToString, loadCells, strB, strOfNums] <;> rfl
    · exact run_convert_bytes_arg u 22 5 Tryd.underlying22 Tryd.underlying5 b off n cap _ (by rw [List.length_map]; exact hl) (fun i hi => by
        rw [hs i (by omega), List.getD_eq_getElem?_getD, List.getD_eq_getElem?_getD, List.getElem?_map, List.getElem?_eq_getElem (by omega)]; rfl) 9 Tryd.underlying9
  unfold execOp; rw [ho]; simp only [hx, Sem.run_bind, e, Result.andThen_ok, Sem.run_pure]
section
variable {R : Rg} {P : Program} {ops : Array Oper} {Q : Exit → Act → World → Prop} {f : Nat → Bool} {t : Nat → Value} {u : World} {a : Act} {i : Nat} {o : Oper}
/-- An operation that reads what is known of the memory. -/
theorem g_ko {v : Value} (h : ∀ (f : Nat → Bool) (ev : Operand → Value) (u : World), KC f u R.lo R.base R.es → Below R.lo R.w u → (∀ x y, evR R i o x = some y → ev x = y) → (execOp ev o).run P u = .ok (.value v) u) (hv : some v = pickV i R.G := by rfl) (hc : R.chk ops i o = true := by rfl) : OG R P ops Q i o :=
  g_pure hv hc fun f t u a X K hK => wp_val (h f a.eval u X.I.2.1 X.I.1.bel (fun x y hxy => X.ev hxy)) hK
end
theorem bdF (w : World) : (Instr.build 32 [(0, .int .u32 1779033703), (1, .int .u32 3144134277), (2, .int .u32 1013904242), (3, .int .u32 2773480762), (4, .int .u32 1359893119), (5, .int .u32 2600822924), (6, .int .u32 528734635), (7, .int .u32 1541459225)].toArray).run Tryd.prog w = .ok (.agg (U32 fst8).toArray) w := by kernel_rfl
theorem bdZ (w : World) : (Instr.build 33 ([] : List (Nat × Value)).toArray).run Tryd.prog w = .ok (.agg (U8 z64).toArray) w := by kernel_rfl
theorem al__64_uint8 (w : World) : (Instr.alloc 33 true (.tuple #[])).run Tryd.prog w = .ok (.pointer (some ⟨w.heap.size, 0, none⟩)) (w.alloc (.cells (U8 z64).toArray 33)) := by kernel_rfl
theorem x64b (b k : Nat) (w : World) (h : k < 64) : (Instr.indexAt 33 (.pointer (some ⟨b, 0, none⟩)) (.int .i64 k)).run Tryd.prog w = .ok (.pointer (some ⟨b, k, none⟩)) w := by
  have h2 : (k : Int) < 64 := by omega
  go_simp
set_option maxRecDepth 100000 in
set_option maxHeartbeats 4000000 in
theorem cFirst (w : World) : Calls Tryd.prog 40 #[] w fun e w' => e = .returned (.agg (U32 (fst8)).toArray) ∧ Below w.heap.size w w' := by
  go_enter Tryd.func40, Tryd.ntmps40
  go_upto_region 1 with fail
  generalize hC : (w.alloc (.cells (Z8w : List Value).toArray 32)) = v0 at *
  have HB0 : Below w.heap.size w v0 := by rw [← hC]; exact balloc (bself w) _
  have K0 : Bk w.heap.size v0 [(true, w.heap.size, U32 (z8))] := by rw [← hC]; exact (Bk.nil _ w).ad
  clear hC
  refine rgP K0 HB0 HB0.size [.all 1 (U32 (fst8))] [] [(0, 1, .agg (U32 (fst8)).toArray)] [] [] [] ?_ ?_
  · refine oc (g_bd (fun uZ => bdF uZ)) ?_
    exact oc (g_st 0 info__8_uint32 (h1 := U32_one _) (hm := by rw [U32_len, show fst8.length = 8 from rfl]) (hl := by rw [U32_len, U32_len, show fst8.length = 8 from rfl, show z8.length = 8 from rfl])) on
  intro u1 HB1 sz1 K1
  simp only [fX, nK, nP, Wr.f, aK, pM] at K1
  simp only [setG, setN, List.set_cons_zero, List.set_cons_succ]
  clear K0 HB0
  go_wp2
  refine bodyPost_ret (res_cell Tryd.results40 rfl (K1.cv 0) Tryd.underlying32 rfl (by rw [U32_len, show fst8.length = 8 from rfl]; exact info__8_uint32)) rfl ⟨rfl, HB1⟩
end Go.Proofs.YtbgdcgboomdimaaDoor
