/- The laws of wire for whatever comes in, over what wire's functions answer. -/
import Derived.Test.YtjekkdckjnlkcaaDoorAWJ
namespace Go.Proofs.YtjekkdckjnlkcaaDoor
open Go.RowKit
set_option linter.unusedVariables false
set_option linter.unusedSimpArgs false
structure WireOK (w : World) : Prop where
  put : WPut w
  get : WGet w
  read : WRead w
  int : WInt w
  readInt : WReadInt w
  list : WList w
  readList : WReadList w
set_option maxRecDepth 100000 in
theorem cBytes0 (sl : Option Addr) (cap : Nat) (w : World) :
    Calls Tryd.prog 17 #[.slice sl 0 cap] w fun e w' => ∃ v, e = .returned v ∧ PG w.heap.size 1 0 (U8 []) w' v ∧ Below w.heap.size w w' := by
  have hbs := bs0b
  have hB : Below w.heap.size w (w.alloc (.cells #[] 5)) := balloc (bself w) _
  obtain ⟨ti, hti, htm⟩ := Option.map_eq_some_iff.1 infoB
  simp only [Prod.mk.injEq] at htm
  obtain ⟨hzv, hsz, hby⟩ := htm
  obtain ⟨v', u', hr, hg, b5, c5, z5, rfl, f1, f2, f3, f4, f5⟩ := run_app (P := Tryd.prog) (w.alloc (.cells #[] 5)) (ty := 24) Tryd.underlying24 hti hzv (by rw [hsz]; rfl) (base := (w.alloc (.cells #[] 5)).heap.size) (b := w.heap.size) (n := 0) (cap := 0) (m := 0) (xs := []) (zs := []) (news := []) (y := .slice sl 0 cap) (fun j v h => by simp at h) (by simp) (by simp) (by simp) (Nat.le_refl _) (Nat.le_refl _) ⟨sl, cap, rfl, .inl rfl⟩ (by simp) (fun v hv => by simp at hv) (by omega) (by omega)
  have hB2 : Below w.heap.size w u' := hB.grown hg hB.size (fun j e => by cases e; exact Nat.le_refl _)
  go_enter Tryd.func17, Tryd.ntmps17
  go_wp2_with (at_builtin; refine wpList_app2 rfl _ _ 24 rfl _ _ _ rfl rfl hr ?_)
  rw [hsz] at f4
  exact bodyPost_ret (v := .slice (some ⟨b5, 0, none⟩) 0 c5) (by simp [results, Tryd.results17, go_sem]) rfl ⟨_, rfl, ⟨b5, c5, z5, rfl, by have := hB.size; omega, f2, Nat.zero_le _, by omega, f5⟩, hB2⟩
theorem wirePuts_any (fs : List FldI) (v : Value) (tag : Int) (W : World) (hv : VFr W v fs) (hx : ∀ f ∈ fs, (∀ x ∈ f.2, x < 256) ∧ -9223372036854775808 ≤ f.1 ∧ f.1 ≤ 9223372036854775807) (ht1 : -9223372036854775808 ≤ tag) (ht2 : tag ≤ 9223372036854775807) (K : WireOK W) :
    Calls Tryd.prog 3 #[v, .int .i64 tag] W fun e W' => e = .returned (.bool true) ∧ Below W.heap.size W W' :=
  wirePuts_core v tag (fewF fs) fs W rfl (fewF_again fs) (fewF_ok hx) hv ht1 ht2 K.put K.get (works8 W K.put K.read)
theorem wireLists_any (ps : List (List Nat)) (v : Value) (W : World) (hv : LVr W v ps) (hx : ∀ q ∈ ps, ∀ x ∈ q, x < 256) (K : WireOK W) :
    Calls Tryd.prog 5 #[v] W fun e W' => e = .returned (.bool true) ∧ Below W.heap.size W W' :=
  wireLists_core v (partsF ps) ps W rfl (partsF_again ps) (partsF_ok hx) hv K.list K.readList (works8 W K.put K.read)
theorem wireCuts_any (fs : List FldI) (v : Value) (at_ : Int) (W : World) (hv : VFr W v fs) (hx : ∀ f ∈ fs, (∀ x ∈ f.2, x < 256) ∧ -9223372036854775808 ≤ f.1 ∧ f.1 ≤ 9223372036854775807) (ht1 : -9223372036854775808 ≤ at_) (ht2 : at_ ≤ 9223372036854775807) (K : WireOK W) :
    Calls Tryd.prog 8 #[v, .int .i64 at_] W fun e W' => e = .returned (.bool true) ∧ Below W.heap.size W W' :=
  wireCuts_core v (fewF fs) fs at_ W rfl (fewF_ok hx) hv ht1 ht2 K.put K.read (works8 W K.put K.read)
theorem cutW {sl : Option Addr} {cap : Nat} {xs : List Nat} {W : World} (hin : ∀ u, Below W.heap.size W u → 0 < u.heap.size → IN u u.heap.size (.slice sl xs.length cap) xs) : ∃ m : Nat, min (xs.length : Int) 4097 = (m : Int) ∧ m ≤ xs.length ∧ (xs.take m).length = m ∧ m ≤ 4097 ∧ ∀ u, Below W.heap.size W u → 0 < u.heap.size → IN u u.heap.size (.slice sl m cap) (xs.take m) := by
  refine ⟨min xs.length 4097, by omega, by omega, by rw [List.length_take]; omega, by omega, fun u hB hu => IN_pre (hin u hB hu) rfl rfl (by omega)⟩
theorem wireReads_any (sl : Option Addr) (cap : Nat) (xs : List Nat) (n : Int) (W : World) (k1 : xs.length ≤ cap) (k2 : sl = none → cap = 0) (hin : ∀ u, Below W.heap.size W u → 0 < u.heap.size → IN u u.heap.size (.slice sl xs.length cap) xs) (h0 : W.heap.size = 0 → xs = []) (hx : ∀ x ∈ xs, x < 256) (hn1 : -9223372036854775808 ≤ n) (hn2 : n ≤ 9223372036854775807) (K : WireOK W) :
    Calls Tryd.prog 4 #[.slice sl xs.length cap, .int .i64 n] W fun e W' => e = .returned (.bool true) ∧ Below W.heap.size W W' := by
  obtain ⟨m, m1, m2, m3, m4, m5⟩ := cutW hin
  refine wireReads_core sl xs.length cap m n (xs.take m) W m1 m2 k1 k2 m5 (fun u hB => ?_) ⟨by omega, fun x hm => hx x (List.mem_of_mem_take hm)⟩ hn1 hn2 K.read K.readInt K.readList K.int (works8 W K.put K.read)
  by_cases hu : 0 < u.heap.size
  · exact cBytes (xs.take m) _ u (by omega) (m5 u hB hu)
  · have e := h0 (by have := hB.size; omega)
    subst e
    have e2 : m = 0 := by simpa using m2
    subst e2
    exact cBytes0 sl cap u
theorem wireBack_any (fs : List FldI) (v : Value) (sl : Option Addr) (cap : Nat) (xs : List Nat) (W : World) (hv : VFr W v fs) (hf : ∀ f ∈ fs, (∀ x ∈ f.2, x < 256) ∧ -9223372036854775808 ≤ f.1 ∧ f.1 ≤ 9223372036854775807) (k1 : xs.length ≤ cap) (k2 : sl = none → cap = 0) (hin : ∀ u, Below W.heap.size W u → 0 < u.heap.size → IN u u.heap.size (.slice sl xs.length cap) xs) (hx : ∀ x ∈ xs, x < 256) (K : WireOK W) :
    Calls Tryd.prog 6 #[v, .slice sl xs.length cap] W fun e W' => e = .returned (.bool true) ∧ Below W.heap.size W W' := by
  obtain ⟨m, m1, m2, m3, m4, m5⟩ := cutW hin
  exact wireBack_core v (fewF fs) fs sl xs.length cap m (xs.take m) W rfl (fewF_ok hf) hv m1 m2 k1 k2 m5 ⟨by omega, fun x hm => hx x (List.mem_of_mem_take hm)⟩ K.put K.read (works8 W K.put K.read)
theorem wireInts_any (n : Int) (b0 b1 b2 b3 b4 b5 b6 b7 : Nat) (W : World) (hn1 : -9223372036854775808 ≤ n) (hn2 : n ≤ 9223372036854775807) (hb : ∀ x ∈ [b0, b1, b2, b3, b4, b5, b6, b7], x < 256) (K : WireOK W) :
    Calls Tryd.prog 7 #[.int .i64 n, .agg #[.int .u8 (b0 : Int), .int .u8 (b1 : Int), .int .u8 (b2 : Int), .int .u8 (b3 : Int), .int .u8 (b4 : Int), .int .u8 (b5 : Int), .int .u8 (b6 : Int), .int .u8 (b7 : Int)]] W fun e W' => e = .returned (.bool true) ∧ Below W.heap.size W W' :=
  wireInts_core n b0 b1 b2 b3 b4 b5 b6 b7 W hn1 hn2 hb K.int K.readInt (works8 W K.put K.read)
end Go.Proofs.YtjekkdckjnlkcaaDoor
