/- Cast: many nodes are made. -/
import Derived.Test.YthncmahhnbpbkaaKWA
import Derived.OwnWalk
namespace Go.Proofs.Ythncmahhnbpbkaa
open Go.RowKit
set_option linter.unusedVariables false
set_option linter.unusedSimpArgs false
set_option maxRecDepth 100000
theorem wpList_app {P : Program} {w w' : World} {ops : Array Oper} {rest : List Oper} {o : Oper} {a : Act} {Q : Exit → Act → World → Prop} {s x : Operand} {T : TypeId} {vs vx v : Value} (hg : o.guard = none) (ho : o.op = .call { callee := .builtin .append, args := #[s, x], argTypes := #[T, T] }) (hs : a.eval s = vs) (hx : a.eval x = vx) (hr : (Builtin.append_ #[T, T] o.type #[vs, vx]).run P w = .ok v w') (hk : wpList P ops Q rest (a.put o.dst v) w') : wpList P ops Q (o :: rest) a w :=
  wpList_plain hg fun K hK' => wp_app ho hs hx hr (hK' _ _ hk)
set_option maxRecDepth 100000 in
theorem infoIi : (Try.prog.info? 3).map (fun i => (i.zero, i.size, i.bytes)) = some (some (.int .i64 0), 1, 8) := by kernel_rfl
theorem mkI (m : Nat) (hm : m ≤ 1000) (w : World) : (Instr.makeSlice 53 (.int .i64 (m : Int)) (.int .i64 (m : Int))).run Try.prog w = .ok (.slice (some ⟨w.heap.size, 0, none⟩) m m) (w.alloc (.cells (List.replicate m (Value.int .i64 0)).toArray 3)) := by
  obtain ⟨i, hi, hi2⟩ := Option.map_eq_some_iff.1 infoIi
  simp only [Prod.mk.injEq] at hi2
  obtain ⟨hz, hs, hb⟩ := hi2
  have := run_makeSlice (P := Try.prog) w 53 3 i (.int .i64 0) Try.underlying53 hi hz .i64 .i64 m m (by omega) (by omega) (by rw [hs]; omega) (by rw [hb]; omega) (by omega)
  rw [this, hs]
  simp only [Int.toNat_natCast, Nat.mul_one]
  congr 4
  apply Array.ext'
  simp [madeCells, Value.cells]
  apply List.ext_getElem
  · simp
  · intro j h1 h2
    simp [Nat.mod_one]
set_option maxHeartbeats 1000000 in
theorem cMade (t bad dl n : Nat) (w : World) (hn : n = 3 * t + 1) (ht : t ≤ 2) (hb : bad ≤ t) (hd : 1 ≤ dl ∧ dl ≤ n) :
    Calls Try.prog 20 #[.int .i64 (t : Int), .int .i64 (bad : Int), .int .i64 (dl : Int)] w fun e' u' => ∃ p : Pl, e' = .returned (pW p.wb) ∧ p.lo = w.heap.size ∧ Below w.heap.size w u' ∧ WI p t bad n dl none 100 u' (W0 n t dl) := by
  have e2 : 3 * (t : Int) + 1 = (n : Int) := by omega
  have e3 := wr64 (n := 3 * (t : Int)) (by omega)
  have e4 := wr64 (n := 3 * (t : Int) + 1) (by omega)
  have e5 := wr64 (n := 2 * (3 * (t : Int) + 1)) (by omega)
  have e6 := wr64 (n := 2 * (3 * (t : Int) + 1) + 2) (by omega)
  have e2' : Hid (3 * (t : Int) + 1 = (n : Int)) := e2
  have hmk : ∀ u : World, (Instr.makeSlice 53 (.int .i64 (2 * (3 * (t : Int) + 1) + 2)) (.int .i64 (2 * (3 * (t : Int) + 1) + 2))).run Try.prog u = .ok (.slice (some ⟨u.heap.size, 0, none⟩) (2 * n + 2) (2 * n + 2)) (u.alloc (.cells (List.replicate (2 * n + 2) (Value.int .i64 0)).toArray 3)) := fun u => by
    rw [show 2 * (3 * (t : Int) + 1) + 2 = ((2 * n + 2 : Nat) : Int) by omega]; exact mkI (2 * n + 2) (by omega) u
  have hn' : Hid (n = 3 * t + 1) := hn
  have hn7 : n ≤ 7 := by omega
  clear e2 hn
  go_enter Try.func20, Try.ntmps20
  go_upto_region 3 with fail
  rw [e2'.out]
  obtain ⟨u1, eu1⟩ : ∃ u1, Hid (u1 = (w.alloc (.cells (Array.replicate (2 * n + 2) (Value.int .i64 0)) 3)).alloc (.cells #[.int .i64 (n : Int), .int .i64 (t : Int), .int .i64 (bad : Int), nilS, nilS, nilS, .slice (some ⟨w.heap.size, 0, none⟩) (2 * n + 2) (2 * n + 2)] 55)) := ⟨_, rfl⟩
  have hB1 : Below w.heap.size w u1 := by rw [eu1.out]; exact balloc (balloc (bself w) _) _
  have hz1 : u1.heap.size = w.heap.size + 2 := by rw [eu1.out, World.size_alloc, World.size_alloc]
  have hM1 : ML w.heap.size n t bad dl 0 (fun _ => 0) 0 nilS u1 := by
    refine ⟨?_, ?_, ⟨rfl, .inl ⟨rfl, rfl⟩⟩, fun i i1 i2 => by omega, fun i i1 i2 => by omega, fun e => absurd rfl e, fun i i1 i2 => by omega, fun i j i1 i2 => by omega, by omega⟩
    · rw [eu1.out]
      exact CV.newAt _ [.int .i64 (n : Int), .int .i64 (t : Int), .int .i64 (bad : Int), nilS, nilS, nilS, .slice (some ⟨w.heap.size, 0, none⟩) (2 * n + 2) (2 * n + 2)] _ _ (by rw [World.size_alloc])
    · have e : Array.replicate (2 * n + 2) (Value.int .i64 0) = (List.replicate (2 * n + 2) (Value.int .i64 0)).toArray := by simp
      rw [eu1.out, e]
      exact CV.alloc (CV.new w _ _) (by rw [World.size_alloc]; omega) _
  rw [← eu1.out]
  clear eu1 e3 e4 e5 e6 hmk
  go_wp2_with fail
  go_loopw [9] (fun s9 wr => ∃ (k : Nat) (bs : Nat → Nat) (nb : Nat) (v : Value), s9 = .int .i64 ((k : Int) + 1) ∧ k ≤ n ∧ ML w.heap.size n t bad dl k bs nb v wr ∧ Below w.heap.size w wr ∧ (∀ i, 1 ≤ i → i ≤ k → bs i + 7 ≤ wr.heap.size)) (fun s9 _ => n + 1 - (intOf s9).toNat)
  case atStart => exact ⟨0, _, _, _, rfl, by omega, hM1, hB1, fun i i1 i2 => by omega⟩
  case round =>
    obtain ⟨k, bs, nb, v, rfl, hkn, hM, hB, hbs⟩ := hrel
    by_cases hk : k < n
    · have hkc : (k : Int) + 1 ≤ (n : Int) := by omega
      have ew := wr64 (n := (k : Int) + 1 + 1) (by omega)
      have hmk := cMake_ok n t ((k : Int) + 1) dl wr (by simp only [okM, decide_eq_true_eq]; have := e2'.out; omega)
      go_upto_region 9 with (first | (go_at_call 9; refine hmk.mono ?_; rintro e w2 ⟨rfl, hB2, hz2', hN2⟩; have hz2 : Hid (w2.heap.size = wr.heap.size + 7) := hz2'; clear hz2'))
      have hM2 := hM.ex hB2
      obtain ⟨v', u', b', hr, g1, g2, hM3, hB3⟩ := hM2.add (s := wr.heap.size) (ty := 52) (by omega) hN2 hM.sz (by have := hz2.out; omega) (fun i i1 i2 => hbs i i1 i2) (fun hv => (hM.on.lt hv).2)
      have hwc := hM2.cw
      have q3 := (hwc 3 _ rfl).1
      have hz3 := hB3.size
      obtain ⟨sl', c', rfl, _, hs4⟩ := hM3.on.sl
      obtain ⟨rfl, _⟩ := hs4 (by omega)
      clear hs4
      go_wp2_with (first | (at_builtin; (refine wpList_app (T := 52) (vs := v) (vx := .slice (some ⟨w2.heap.size, 0, none⟩) 1 1) (v := .slice (some ⟨b', 0, none⟩) (k + 1) c') (w' := u') (by rfl) (by rfl) (by rfl) (by rfl) ?_ ?_; exact hr)))
      exact ⟨⟨k + 1, _, _, _, by simp, by omega, hM3, (bstep hB hB2).trans hB3, fun i i1 i2 => by have := (hM3.b1 i i1 i2).2; exact this⟩, by simp [intOf]; omega⟩
    · obtain rfl : k = n := by omega
      have hkc : ¬ (k : Int) + 1 ≤ (k : Int) := by omega
      obtain ⟨p, hp1, hp2, hW⟩ := hM.wi hn'.out ht hb hd
      go_wp2
      refine bodyPost_ret (v := .pointer (some ⟨w.heap.size + 1, 0, none⟩)) (by simp [results, Try.results20, go_sem]) rfl ⟨p, by rw [hp1], hp2, hB, hW⟩
end Go.Proofs.Ythncmahhnbpbkaa
