/- Wire: what is laid; errors that wrap a number, and which number they are (errors.As). -/
import Derived.Test.YtjekkdckjnlkcaaDoorIT
import Derived.Test.YtjekkdckjnlkcaaDoorSB
import Derived.Lib.SmallJoins
import Derived.Lib.ItoaLen
import Derived.Stop.Asserts
import Derived.LaidEql
import Derived.WalkKit
import Derived.RowKitTokens
namespace Go.Proofs.YtjekkdckjnlkcaaDoor
open Go.RowKit Go.Extern.Stop Go.Stop Go.Extern
set_option linter.unusedVariables false
set_option linter.unusedSimpArgs false
/-- What the listed variables give the walks. -/
structure GW (w : World) : Prop where
  sz : 1 < w.heap.size
  tab : Lib.TabIs Tryd.prog w "internal/strconv.uint64pow10" .u64 Lib.pow10Tab
  typ : w.cell? ⟨0, 0, none⟩ = some (.iface 93 (.agg #[.pointer (some ⟨4, 56, none⟩)]))
theorem gPow : Tryd.prog.globalNamed "internal/strconv.uint64pow10" = some 1 := by kernel_rfl
theorem GW.below {w u : World} (h : GW w) (hB : Below w.heap.size w u) : GW u where
  sz := Nat.lt_of_lt_of_le h.sz hB.size
  tab := Go.Joins.tab_stays gPow h.tab hB (Nat.le_refl _)
  typ := (hB.cell (p := ⟨0, 0, none⟩) (Nat.lt_of_le_of_lt (by decide) h.sz)).trans h.typ
theorem below_grow (w : World) (k : Nat) (os : Array Obj) : Below w.heap.size w (Go.Sort.grow (w.drewN k) os) := by
  have h1 : (w.drewN k).heap = w.heap := rfl
  exact ⟨rfl, rfl, rfl, by simp [Go.Sort.grow, h1], fun i hi => by simp [Go.Sort.grow, h1, Array.getElem?_append_left hi]⟩
/-- strconv.Itoa, as far as it matters. -/
theorem cItoa (n : Int) (w : World) (h0 : -9223372036854775808 ≤ n) (h1 : n ≤ 9223372036854775807) (hG : GW w) : Calls Tryd.prog 35 #[.int .i64 n] w fun e u => ∃ s, e = .returned (.string s) ∧ s.size ≤ 21 ∧ Below w.heap.size w u := by
  refine (Tryd.strconv_Itoa n h0 h1 w hG.tab).mono ?_
  rintro e u ⟨rfl, k, os, rfl⟩
  exact ⟨_, rfl, by have := Lib.itoa_length_le n h0 h1; simpa [ByteArray.size] using this, below_grow w k os⟩
/-- v is an error that is, or wraps, the number n. -/
inductive EW (n : Int) : Value → Prop
  | leaf : EW n (.iface 25 (.int .i64 n))
  | wrap (s : ByteArray) (k : Value) : EW n k → EW n (.iface 62 (.agg #[.string s, k]))
theorem EW.some {n : Int} {v : Value} (h : EW n v) : ∃ T x, v = .iface T x := by
  cases h with
  | leaf => exact ⟨_, _, rfl⟩
  | wrap s k _ => exact ⟨_, _, rfl⟩
set_option maxRecDepth 100000 in
theorem cUnF (s : ByteArray) (k : Value) (w : World) (hk : ∃ T x, k = .iface T x) : Calls Tryd.prog 85 #[.agg #[.string s, k]] w fun e w' => e = .returned k ∧ Below w.heap.size w w' := by
  obtain ⟨T, x, rfl⟩ := hk
  go_enter Tryd.func85, Tryd.ntmps85
  go_wp2
  exact bodyPost_ret (v := .iface T x) (by simp [results, Tryd.results85, go_sem]) rfl ⟨rfl, balloc (bself w) _⟩
theorem Tryd.noAsF (v : Value) (xT : TypeId) (w : World) : (Instr.typeAssert (.iface 62 v) xT 98 true).run Tryd.prog w = .ok (.tuple #[.nilIface, .bool false]) w := run_typeAssert_lacksB Tryd.underlying98 (by kernel_rfl) (by kernel_rfl) v xT w
theorem Tryd.unF (v : Value) (xT : TypeId) (w : World) : (Instr.typeAssert (.iface 62 v) xT 101 true).run Tryd.prog w = .ok (.tuple #[.iface 62 v, .bool true]) w := run_typeAssert_hasB Tryd.underlying101 (by kernel_rfl) v xT w
/- reflectlite's entries, at the types that told asks of. -/
theorem Tryd.valueOfP (t : Addr) (w : World) : (ReflectliteValue.unpack (.iface 74 (.pointer (some t)))).run Tryd.prog w
    = .ok (.agg #[.pointer (some ⟨4, 74, none⟩), .pointer (some ⟨w.heap.size, 0, none⟩), .int .u64 150]) (w.alloc (.cells #[.pointer (some t)] 74)) := by kernel_rfl
theorem Tryd.typeP (a : Addr) (w : World) : (ReflectliteValue.methodAny (ReflectliteValue.valueError "reflectlite.Value.Type" 0) (fun t _ _ _ => ReflectliteType.toType t) #[.agg #[.pointer (some ⟨4, 74, none⟩), .pointer (some a), .int .u64 150]]).run Tryd.prog w
    = .ok (.iface 93 (.agg #[.pointer (some ⟨4, 74, none⟩)])) w := by kernel_rfl
theorem Tryd.kindP (w : World) : ((ReflectliteType.abiMethod fun t => (fun a : Nat => Value.int IntKind.u8 (a : Int)) <$> Rtype.kind t) #[.pointer (some ⟨4, 74, none⟩)]).run Tryd.prog w = .ok (.int .u8 22) w := by kernel_rfl
theorem Tryd.kindE (w : World) : ((ReflectliteType.abiMethod fun t => (fun a : Nat => Value.int IntKind.u8 (a : Int)) <$> Rtype.kind t) #[.pointer (some ⟨4, 25, none⟩)]).run Tryd.prog w = .ok (.int .u8 2) w := by kernel_rfl
theorem Tryd.viaP (z : Sem Value) (f : TypeId → Addr → Nat → Nat → Sem Value) (a : Addr) (W : World) : (ReflectliteValue.method z f #[.agg #[.pointer (some ⟨4, 74, none⟩), .pointer (some a), .int .u64 150]]).run Tryd.prog W = (f 74 a 150 22).run Tryd.prog W := by kernel_rfl
theorem Tryd.isNilP (a p : Addr) (W : World) (ha : W.cell? a = some (.pointer (some p))) :
    (ReflectliteValue.method (ReflectliteValue.valueError "reflectlite.Value.IsNil" 0) ReflectliteValue.isNil #[.agg #[.pointer (some ⟨4, 74, none⟩), .pointer (some a), .int .u64 150]]).run Tryd.prog W = .ok (.bool false) W := by
  rw [Tryd.viaP]
  simp [ReflectliteValue.isNil, loadVar, isAgg, underlying, Tryd.underlying74, ha, Result.andThen]
theorem Tryd.elemT (w : World) : (ReflectliteType.method ReflectliteType.elem #[.agg #[.pointer (some ⟨4, 74, none⟩)]]).run Tryd.prog w = .ok (.iface 93 (.agg #[.pointer (some ⟨4, 25, none⟩)])) w := by kernel_rfl
theorem Tryd.implE (w : World) : (ReflectliteType.relation "Implements" ReflectliteType.implements_ #[.agg #[.pointer (some ⟨4, 25, none⟩)], .iface 93 (.agg #[.pointer (some ⟨4, 56, none⟩)])]).run Tryd.prog w = .ok (.bool true) w := by kernel_rfl
theorem Tryd.typeOfE (v : Value) (w : World) : (ReflectliteType.typeOf #[.iface 25 v]).run Tryd.prog w = .ok (.iface 93 (.agg #[.pointer (some ⟨4, 25, none⟩)])) w := by kernel_rfl
theorem Tryd.typeOfF (v : Value) (w : World) : (ReflectliteType.typeOf #[.iface 62 v]).run Tryd.prog w = .ok (.iface 93 (.agg #[.pointer (some ⟨4, 62, none⟩)])) w := by kernel_rfl
theorem Tryd.assE (w : World) : (ReflectliteType.relation "AssignableTo" ReflectliteType.assignableTo #[.agg #[.pointer (some ⟨4, 25, none⟩)], .iface 93 (.agg #[.pointer (some ⟨4, 25, none⟩)])]).run Tryd.prog w = .ok (.bool true) w := by kernel_rfl
theorem Tryd.assF (w : World) : (ReflectliteType.relation "AssignableTo" ReflectliteType.assignableTo #[.agg #[.pointer (some ⟨4, 62, none⟩)], .iface 93 (.agg #[.pointer (some ⟨4, 25, none⟩)])]).run Tryd.prog w = .ok (.bool false) w := by kernel_rfl
theorem Tryd.valueOfE (n : Int) (w : World) : (ReflectliteValue.unpack (.iface 25 (.int .i64 n))).run Tryd.prog w
    = .ok (.agg #[.pointer (some ⟨4, 25, none⟩), .pointer (some ⟨w.heap.size, 0, none⟩), .int .u64 130]) (w.alloc (.cells #[.int .i64 n] 25)) := by kernel_rfl
theorem Tryd.elemOfP (w : World) : (Rtype.elem? 74).run Tryd.prog w = .ok (some 25) w := by kernel_rfl
theorem Tryd.mkE (p : Addr) (w : World) : (ReflectliteValue.mk 25 p ReflectliteValue.flagAddr).run Tryd.prog w = .ok (.agg #[.pointer (some ⟨4, 25, none⟩), .pointer (some p), .int .u64 386]) w := by kernel_rfl
theorem Tryd.elemV (a p : Addr) (W : World) (ha : W.cell? a = some (.pointer (some p))) :
    (ReflectliteValue.method (ReflectliteValue.valueError "reflectlite.Value.Elem" 0) ReflectliteValue.elem #[.agg #[.pointer (some ⟨4, 74, none⟩), .pointer (some a), .int .u64 150]]).run Tryd.prog W
      = .ok (.agg #[.pointer (some ⟨4, 25, none⟩), .pointer (some p), .int .u64 386]) W := by
  rw [Tryd.viaP]
  simp [ReflectliteValue.elem, loadVar, isAgg, underlying, Tryd.underlying74, ha, Result.andThen, Tryd.elemOfP, Tryd.mkE]
theorem Tryd.directE (w : World) : (Rtype.directlyAssignable 25 25).run Tryd.prog w = .ok true w := by kernel_rfl
theorem Tryd.setE0 (ta b : Addr) (W : World) :
    (ReflectliteValue.set #[.agg #[.pointer (some ⟨4, 25, none⟩), .pointer (some ta), .int .u64 386], .agg #[.pointer (some ⟨4, 25, none⟩), .pointer (some b), .int .u64 130]]).run Tryd.prog W
      = ((do let v ← loadVar 25 b; storeVar 25 ta v; pure (.tuple #[])) : Sem Value).run Tryd.prog W := by kernel_rfl
theorem Tryd.setE (ta b : Addr) (n : Int) (old : Value) (W : World) (hb : W.cell? b = some (.int .i64 n)) (ht : W.cell? ta = some old) (hf : W.frozen? ta = false) :
    (ReflectliteValue.set #[.agg #[.pointer (some ⟨4, 25, none⟩), .pointer (some ta), .int .u64 386], .agg #[.pointer (some ⟨4, 25, none⟩), .pointer (some b), .int .u64 130]]).run Tryd.prog W
      = .ok (.tuple #[]) (W.setCell ta (.int .i64 n)) := by
  rw [Tryd.setE0]
  simp [ReflectliteValue.flagAddr, loadVar, isAgg, underlying, Tryd.underlying25, hb, Result.andThen, Tryd.directE, storeVar, Value.cells, storeCells, Addr.add]
  rw [run_store Tryd.prog W ta _ _ (by rfl)]
  simp [ht, hf]
end Go.Proofs.YtjekkdckjnlkcaaDoor
/- Wire: errors.as, errors.As, told. -/
namespace Go.Proofs.YtjekkdckjnlkcaaDoor
open Go.RowKit Go.Extern.Stop Go.Stop Go.Extern
set_option linter.unusedVariables false
set_option linter.unusedSimpArgs false
theorem Tryd.mKind (h : Value) (w : World) : (Go.method 250 93 (.agg #[h]) "Kind").run Tryd.prog w = .ok (80, h) w := by kernel_rfl
theorem Tryd.mElem (h : Value) (w : World) : (Go.method 250 93 (.agg #[h]) "Elem").run Tryd.prog w = .ok (92, .agg #[h]) w := by kernel_rfl
theorem Tryd.mImpl (h : Value) (w : World) : (Go.method 250 93 (.agg #[h]) "Implements").run Tryd.prog w = .ok (93, .agg #[h]) w := by kernel_rfl
theorem Tryd.mAss (h : Value) (w : World) : (Go.method 250 93 (.agg #[h]) "AssignableTo").run Tryd.prog w = .ok (90, .agg #[h]) w := by kernel_rfl
set_option maxRecDepth 100000 in
set_option maxHeartbeats 8000000 in
/-- errors.as, of an error that wraps a number, to a number's variable. -/
theorem cAs0 (n : Int) (t a : Addr) (old v : Value) (w : World) (hv : EW n v) (ha : w.cell? a = some (.pointer (some t))) (ht : w.cell? t = some old) (hf : w.frozen? t = false) (hat : a.block < w.heap.size) (htt : t.block < w.heap.size) :
    Calls Tryd.prog 50 #[v, .iface 74 (.pointer (some t)), .agg #[.pointer (some ⟨4, 74, none⟩), .pointer (some a), .int .u64 150], .iface 93 (.agg #[.pointer (some ⟨4, 25, none⟩)])] w
      fun e u => e = .returned (.bool true) ∧ u.cell? t = some (.int .i64 n) ∧ Below t.block w u := by
  have h10 := @run_callFunc_extern Tryd.prog 52 _ ReflectliteType.typeOf Tryd.func52 (by kernel_rfl) (by kernel_rfl) (by kernel_rfl) (by kernel_rfl)
  have h35 := @run_callFunc_extern Tryd.prog 90 _ (ReflectliteType.relation "AssignableTo" ReflectliteType.assignableTo) Tryd.func90 (by kernel_rfl) (by kernel_rfl) (by kernel_rfl) (by kernel_rfl)
  have h11 := @run_callFunc_extern Tryd.prog 53 _ (ReflectliteValue.method (ReflectliteValue.valueError "reflectlite.Value.Elem" 0) ReflectliteValue.elem) Tryd.func53 (by kernel_rfl) (by kernel_rfl) (by kernel_rfl) (by kernel_rfl)
  have h12 := @run_callFunc_extern Tryd.prog 54 _ ReflectliteValue.set Tryd.func54 (by kernel_rfl) (by kernel_rfl) (by kernel_rfl) (by kernel_rfl)
  have h6 := @run_callFunc_extern Tryd.prog 47 _ (fun args => ReflectliteValue.unpack (args.getD 0 (.tuple #[]))) Tryd.func47 (by kernel_rfl) (by kernel_rfl) (by kernel_rfl) (by kernel_rfl)
  have tE := Tryd.typeOfE
  have tF := Tryd.typeOfF
  have mA := Tryd.mAss
  have aE := Tryd.assE
  have aF := Tryd.assF
  have vE := Tryd.valueOfE
  have nF := Tryd.noAsF
  have uF := Tryd.unF
  obtain ⟨w0, ew0⟩ : ∃ x, w.alloc (.cells #[.pointer (some ⟨4, 74, none⟩), .pointer (some a), .int .u64 150] 82) = x := ⟨_, rfl⟩
  have hB0 : Below w.heap.size w w0 := by rw [← ew0]; exact balloc (bself w) _
  have hs0 : w0.heap.size = w.heap.size + 1 := by rw [← ew0]; simp
  have hc0 : w0.cell? ⟨w.heap.size, 0, none⟩ = some (.pointer (some ⟨4, 74, none⟩)) := by rw [← ew0]; simp
  have hc1 : w0.cell? ⟨w.heap.size, 1, none⟩ = some (.pointer (some a)) := by rw [← ew0]; simp
  have hc2 : w0.cell? ⟨w.heap.size, 2, none⟩ = some (.int .u64 150) := by rw [← ew0]; simp
  go_enter Tryd.func50, Tryd.ntmps50
  go_wp2_with fail
  try rw [ew0]
  go_loopw [0] (fun s0 wr => EW n s0 ∧ Below w0.heap.size w0 wr) (fun s0 _ => SizeOf.sizeOf s0)
  case atStart => exact ⟨hv, Below.refl _ _⟩
  case round =>
    obtain ⟨hE, HBr⟩ := hrel
    have hlt : w.heap.size < w0.heap.size := by omega
    have k0 : wr.cell? ⟨w.heap.size, 0, none⟩ = _ := (HBr.cell (p := ⟨w.heap.size, 0, none⟩) hlt).trans hc0
    have k1 : wr.cell? ⟨w.heap.size, 1, none⟩ = _ := (HBr.cell (p := ⟨w.heap.size, 1, none⟩) hlt).trans hc1
    have k2 : wr.cell? ⟨w.heap.size, 2, none⟩ = _ := (HBr.cell (p := ⟨w.heap.size, 2, none⟩) hlt).trans hc2
    have hBw : Below w.heap.size w wr := hB0.trans (HBr.mono hB0.size)
    have ka : wr.cell? a = some (.pointer (some t)) := (hBw.cell (p := a) hat).trans ha
    have kt : wr.cell? t = some old := (hBw.cell (p := t) htt).trans ht
    have kf : wr.frozen? t = false := (hBw.frozen (p := t) htt).trans hf
    have hsr := HBr.size
    cases hE with
    | leaf =>
      have el := Tryd.elemV a t wr ka
      have st := Tryd.setE t ⟨wr.heap.size, 0, none⟩ n old (wr.alloc (.cells #[.int .i64 n] 25)) (by simp) (by rw [World.cell?_alloc_lt _ _ t (by omega)]; exact kt) (by rw [World.frozen?_alloc_old _ _ t (by omega)]; exact kf)
      have hta : (wr.alloc (.cells #[.int .i64 n] 25)).cell? t = some old := by rw [World.cell?_alloc_lt _ _ t (by omega)]; exact kt
      have fin1 := World.cell?_setCell_same' (wr.alloc (.cells #[.int .i64 n] 25)) t (.int .i64 n) (by rw [hta]; rfl)
      have fin2 : Below t.block w ((wr.alloc (.cells #[.int .i64 n] 25)).setCell t (.int .i64 n)) := ((balloc hBw _).mono (Nat.le_of_lt htt)).setCell (Nat.le_refl _) _
      clear kt kf hta ka
      go_wp2
      exact bodyPost_ret (v := .bool true) (by simp [results, Tryd.results50, go_sem]) rfl ⟨rfl, fin1, fin2⟩
    | wrap s k hk =>
      obtain ⟨T, x, rfl⟩ := hk.some
      have hU := cUnF s (.iface T x) wr ⟨_, _, rfl⟩
      go_wp2_with (go_at_call 85; refine hU.mono ?_; clear hU; rintro e ua ⟨rfl, hBa⟩)
      refine ⟨⟨hk, bstep HBr hBa⟩, ?_⟩
      simp; omega
set_option maxRecDepth 100000 in
theorem cAsN (t : Value) (w : World) : Calls Tryd.prog 42 #[.nilIface, t] w fun e u => e = .returned (.bool false) ∧ u = w := by
  go_enter Tryd.func42, Tryd.ntmps42
  go_wp2
  exact bodyPost_ret (v := .bool false) (by simp [results, Tryd.results42, go_sem]) rfl ⟨rfl, rfl⟩
set_option maxRecDepth 100000 in
set_option maxHeartbeats 8000000 in
/-- errors.As, of an error that wraps a number, to a number's variable. -/
theorem cAs (n : Int) (t : Addr) (old v : Value) (w : World) (hG : GW w) (hv : EW n v) (ht : w.cell? t = some old) (hf : w.frozen? t = false) (htt : t.block < w.heap.size) :
    Calls Tryd.prog 42 #[v, .iface 74 (.pointer (some t))] w fun e u => e = .returned (.bool true) ∧ u.cell? t = some (.int .i64 n) ∧ Below t.block w u := by
  have h6 := @run_callFunc_extern Tryd.prog 47 _ (fun args => ReflectliteValue.unpack (args.getD 0 (.tuple #[]))) Tryd.func47 (by kernel_rfl) (by kernel_rfl) (by kernel_rfl) (by kernel_rfl)
  have h7 := @run_callFunc_extern Tryd.prog 48 _ (ReflectliteValue.methodAny (ReflectliteValue.valueError "reflectlite.Value.Type" 0) (fun t _ _ _ => ReflectliteType.toType t)) Tryd.func48 (by kernel_rfl) (by kernel_rfl) (by kernel_rfl) (by kernel_rfl)
  have h8 := @run_callFunc_extern Tryd.prog 49 _ (ReflectliteValue.method (ReflectliteValue.valueError "reflectlite.Value.IsNil" 0) ReflectliteValue.isNil) Tryd.func49 (by kernel_rfl) (by kernel_rfl) (by kernel_rfl) (by kernel_rfl)
  have h27 := @run_callFunc_extern Tryd.prog 80 _ (ReflectliteType.abiMethod fun t => do pure (.int .u8 (← Rtype.kind t))) Tryd.func80 (by kernel_rfl) (by kernel_rfl) (by kernel_rfl) (by kernel_rfl)
  have h37 := @run_callFunc_extern Tryd.prog 92 _ (ReflectliteType.method ReflectliteType.elem) Tryd.func92 (by kernel_rfl) (by kernel_rfl) (by kernel_rfl) (by kernel_rfl)
  have h38 := @run_callFunc_extern Tryd.prog 93 _ (ReflectliteType.relation "Implements" ReflectliteType.implements_) Tryd.func93 (by kernel_rfl) (by kernel_rfl) (by kernel_rfl) (by kernel_rfl)
  have f6 := Tryd.valueOfP
  have f7 := Tryd.typeP
  have mK := Tryd.mKind
  have mE := Tryd.mElem
  have mI := Tryd.mImpl
  have kP := Tryd.kindP
  have kE := Tryd.kindE
  have eT := Tryd.elemT
  have iE := Tryd.implE
  obtain ⟨w1, ew1⟩ : ∃ x, w.alloc (.cells #[.pointer (some t)] 74) = x := ⟨_, rfl⟩
  have hB1 : Below w.heap.size w w1 := by rw [← ew1]; exact balloc (bself w) _
  have hs1 : w1.heap.size = w.heap.size + 1 := by rw [← ew1]; simp
  have ha1 : w1.cell? ⟨w.heap.size, 0, none⟩ = some (.pointer (some t)) := by rw [← ew1]; simp
  obtain ⟨w2, ew2⟩ : ∃ x, w1.alloc (.cells #[.pointer (some ⟨4, 74, none⟩), .pointer (some ⟨w.heap.size, 0, none⟩), .int .u64 150] 82) = x := ⟨_, rfl⟩
  have hB2 : Below w1.heap.size w1 w2 := by rw [← ew2]; exact balloc (bself w1) _
  have hBw : Below w.heap.size w w2 := bstep hB1 hB2
  have hs2 : w2.heap.size = w.heap.size + 2 := by rw [← ew2]; simp [hs1]
  have c0 : w2.cell? ⟨w1.heap.size, 0, none⟩ = some (.pointer (some ⟨4, 74, none⟩)) := by rw [← ew2]; simp
  have c1 : w2.cell? ⟨w1.heap.size, 1, none⟩ = some (.pointer (some ⟨w.heap.size, 0, none⟩)) := by rw [← ew2]; simp
  have c2 : w2.cell? ⟨w1.heap.size, 2, none⟩ = some (.int .u64 150) := by rw [← ew2]; simp
  rw [hs1] at c0 c1 c2
  have ha2 : w2.cell? ⟨w.heap.size, 0, none⟩ = some (.pointer (some t)) := (hB2.cell (p := ⟨w.heap.size, 0, none⟩) (by simp [hs1])).trans ha1
  have n8 := Tryd.isNilP ⟨w.heap.size, 0, none⟩ t w2 ha2
  have hg := (hG.below hBw).typ
  have hA := cAs0 n t ⟨w.heap.size, 0, none⟩ old v w2 hv ha2 ((hBw.cell (p := t) htt).trans ht) ((hBw.frozen (p := t) htt).trans hf) (by simp [hs2]) (by omega)
  have hBt : Below t.block w w2 := hBw.mono (Nat.le_of_lt htt)
  obtain ⟨T, x, rfl⟩ := hv.some
  clear hv ht hf ha1 ha2 hG
  go_enter Tryd.func42, Tryd.ntmps42
  go_wp2_with (go_at_call 50; refine hA.mono ?_; clear hA; rintro e ua ⟨rfl, hca, hBa⟩)
  exact bodyPost_ret (v := .bool true) (by simp [results, Tryd.results42, go_sem]) rfl ⟨rfl, hca, hBt.trans hBa⟩
end Go.Proofs.YtjekkdckjnlkcaaDoor
/- Wire: told, at, atMost, above. -/
namespace Go.Proofs.YtjekkdckjnlkcaaDoor
open Go.RowKit
set_option linter.unusedVariables false
set_option linter.unusedSimpArgs false
/-- None, or an error that is or wraps the number e. -/
def EO (e : Int) (v : Value) : Prop := (e = 0 ∧ v = .nilIface) ∨ (e ≠ 0 ∧ EW e v)
theorem EO.some {e : Int} {v : Value} (h : EO e v) (he : e ≠ 0) : EW e v ∧ ∃ T x, v = .iface T x := by
  rcases h with ⟨h, _⟩ | ⟨_, h⟩
  · exact absurd h he
  · exact ⟨h, h.some⟩
set_option maxRecDepth 100000 in
theorem cTold (n : Int) (v : Value) (w : World) (hG : GW w) (h : EO n v) : Calls Tryd.prog 33 #[v] w fun e u => e = .returned (.int .i64 n) ∧ Below w.heap.size w u := by
  have hB : Below w.heap.size w (w.alloc (.cells #[.int .i64 0] 25)) := balloc (bself w) _
  rcases h with ⟨rfl, rfl⟩ | ⟨hn, h⟩
  · have hA := cAsN (.iface 74 (.pointer (some ⟨w.heap.size, 0, none⟩))) (w.alloc (.cells #[.int .i64 0] 25))
    go_enter Tryd.func33, Tryd.ntmps33
    go_wp2_with (go_at_call 42; refine hA.mono ?_; clear hA; rintro e ua ⟨rfl, rfl⟩)
    exact bodyPost_ret (v := .int .i64 0) (by simp [results, Tryd.results33, go_sem]) rfl ⟨rfl, hB⟩
  · have hA := cAs n ⟨w.heap.size, 0, none⟩ (.int .i64 0) v (w.alloc (.cells #[.int .i64 0] 25)) (hG.below hB) h (by simp) (by simp) (by simp)
    obtain ⟨T, x, rfl⟩ := h.some
    clear h
    go_enter Tryd.func33, Tryd.ntmps33
    go_wp2_with (go_at_call 42; refine hA.mono ?_; clear hA; rintro e ua ⟨rfl, hca, hBa⟩)
    exact bodyPost_ret (v := .int .i64 n) (by simp [results, Tryd.results33, go_sem]) rfl ⟨rfl, hB.trans hBa⟩
set_option maxRecDepth 100000 in
theorem cAt (what : ByteArray) (i n : Int) (v : Value) (w : World) (hG : GW w) (h0 : -9223372036854775808 ≤ i) (h1 : i ≤ 9223372036854775807) (h : EW n v) (hw : what.size ≤ 100) :
    Calls Tryd.prog 45 #[.string what, .int .i64 i, v] w fun e u => ∃ y, e = .returned y ∧ EW n y ∧ Below w.heap.size w u := by
  have hI := cItoa i w h0 h1 hG
  obtain ⟨T, x, rfl⟩ := h.some
  have h : Hid _ := h
  have hw1 : ¬ 9223372036854775807 < what.size + 1 := by omega
  go_enter Tryd.func45, Tryd.ntmps45
  go_wp2_with (go_at_call 35; refine hI.mono ?_; clear hI; rintro e ua ⟨s, rfl, hs, hBa⟩; have hw2 : ¬ 9223372036854775807 < what.size + 1 + s.size := by omega)
  go_ret; exact ⟨_, rfl, .wrap _ _ h.out, hBa⟩
set_option maxRecDepth 100000 in
theorem cAtMost (what : ByteArray) (n most : Int) (w : World) (hG : GW w) (h0 : -9223372036854775808 ≤ n) (h1 : n ≤ 9223372036854775807) (hw : what.size ≤ 100) :
    Calls Tryd.prog 39 #[.string what, .int .i64 n, .int .i64 most] w fun e u => ∃ y, e = .returned y ∧ EO (if most < n then 3 else 0) y ∧ Below w.heap.size w u := by
  by_cases hc : most < n
  · have hI := cItoa n w h0 h1 hG
    rw [if_pos hc]
    have hw1 : ¬ 9223372036854775807 < what.size + 13 := by omega
    go_enter Tryd.func39, Tryd.ntmps39
    go_wp2_with (go_at_call 35; refine hI.mono ?_; clear hI; rintro e ua ⟨s, rfl, hs, hBa⟩; have hw2 : ¬ 9223372036854775807 < what.size + 13 + s.size := by omega)
    go_ret; exact ⟨_, rfl, .inr ⟨by decide, .wrap _ _ .leaf⟩, hBa⟩
  · rw [if_neg hc]
    go_enter Tryd.func39, Tryd.ntmps39
    go_wp2
    exact bodyPost_ret (v := .nilIface) (by simp [results, Tryd.results39, go_sem]) rfl ⟨_, rfl, .inl ⟨rfl, rfl⟩, Below.refl _ _⟩
set_option maxRecDepth 100000 in
theorem cAbove (last tag : Int) (w : World) (hG : GW w) (h0 : -9223372036854775808 ≤ tag) (h1 : tag ≤ 9223372036854775807) (h2 : -9223372036854775808 ≤ last) (h3 : last ≤ 9223372036854775807) :
    Calls Tryd.prog 44 #[.int .i64 last, .int .i64 tag] w fun e u => ∃ y, e = .returned y ∧ EO (if tag ≤ last ∨ 255 < tag then 80 else 0) y ∧ Below w.heap.size w u := by
  by_cases hc : tag ≤ last ∨ 255 < tag
  · have hI := cItoa tag w h0 h1 hG
    rw [if_pos hc]
    by_cases hc1 : tag ≤ last
    · go_enter Tryd.func44, Tryd.ntmps44
      go_wp2_with (first
        | (go_at_call 35; refine hI.mono ?_; clear hI; rintro e ua ⟨s, rfl, hs, hBa⟩; have hJ := cItoa last ua (by omega) (by omega) (hG.below hBa); have hw1 : ¬ 9223372036854775807 < 4 + s.size := (by omega); have hw2 : ¬ 9223372036854775807 < 4 + s.size + 8 := by omega)
        | (go_at_call 35; refine hJ.mono ?_; clear hJ; rintro e ub ⟨s2, rfl, hs2, hBb⟩; have hw3 : ¬ 9223372036854775807 < 4 + s.size + 8 + s2.size := by omega))
      go_ret; exact ⟨_, rfl, .inr ⟨by decide, .wrap _ _ .leaf⟩, bstep hBa hBb⟩
    · have hc2 : 255 < tag := by omega
      go_enter Tryd.func44, Tryd.ntmps44
      go_wp2_with (first
        | (go_at_call 35; refine hI.mono ?_; clear hI; rintro e ua ⟨s, rfl, hs, hBa⟩; have hJ := cItoa last ua (by omega) (by omega) (hG.below hBa); have hw1 : ¬ 9223372036854775807 < 4 + s.size := (by omega); have hw2 : ¬ 9223372036854775807 < 4 + s.size + 8 := by omega)
        | (go_at_call 35; refine hJ.mono ?_; clear hJ; rintro e ub ⟨s2, rfl, hs2, hBb⟩; have hw3 : ¬ 9223372036854775807 < 4 + s.size + 8 + s2.size := by omega))
      go_ret; exact ⟨_, rfl, .inr ⟨by decide, .wrap _ _ .leaf⟩, bstep hBa hBb⟩
  · rw [if_neg hc]
    have hc1 : ¬ tag ≤ last := by omega
    have hc2 : ¬ 255 < tag := by omega
    go_enter Tryd.func44, Tryd.ntmps44
    go_wp2
    exact bodyPost_ret (v := .nilIface) (by simp [results, Tryd.results44, go_sem]) rfl ⟨_, rfl, .inl ⟨rfl, rfl⟩, Below.refl _ _⟩
end Go.Proofs.YtjekkdckjnlkcaaDoor
