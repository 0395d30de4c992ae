/- Walks: the reference's Mul. -/
import Derived.Test.YtajpjbhppjlehaaX0b
import Derived.Deep.DeepCutAuto
namespace Go.Proofs.Ytajpjbhppjlehaa
open Go.RowKit
set_option linter.unusedSimpArgs false
set_option linter.unusedVariables false

set_option maxRecDepth 100000 in
set_option maxHeartbeats 4000000 in
theorem rMul_any (a b c d x y z t : Int) (w : World) (ha : W64 a) (hb : W64 b) (hc : W64 c) (hd : W64 d) (hx : W64 x) (hy : W64 y) (hz : W64 z) (ht : W64 t) :
    Calls Try.prog 21 #[A4 a b c d, A4 x y z t] w fun en w' => en = .returned (WV (V a b c d * V x y z t)) ∧ Below w.heap.size w w' := by
  have hmk : ∀ w, (Instr.makeSlice 53 (.int .i64 17) (.int .i64 17)).run Try.prog w = .ok (.slice (some ⟨w.heap.size, 0, none⟩) 17 17) (w.alloc (.cells (([0, 0, 0, 0, 0, 0, 0, 0, 0, 0, 0, 0, 0, 0, 0, 0, 0] : List Int).map (Value.int .u64)).toArray 22)) := fun _ => by kernel_rfl
  go_enter Try.func21, Try.ntmps21
  go_wp2_with fail
  go_cut [5, 6] (fun t5 t6 wx => ∃ bx cx by' cy, t5 = .slice (some ⟨bx, 0, none⟩) 8 cx ∧ t6 = .slice (some ⟨by', 0, none⟩) 8 cy ∧ Below w.heap.size w wx ∧ w.heap.size + 1 + 1 < bx ∧ w.heap.size + 1 + 1 < by' ∧ bx < wx.heap.size ∧ by' < wx.heap.size ∧ RL wx bx (dg a b c d) ∧ RL wx by' (dg x y z t) ∧ CL wx (w.heap.size + 1 + 1) [0, 0, 0, 0, 0, 0, 0, 0])
  case first =>
    go_region_with (go_at_call 40; first
      | (refine (digits_RL _ a b c d _ (by unfold C4; simp [go_sem]) ha hb hc hd).mono ?_; rintro en w1 ⟨bx, cx, rfl, hbx1, hbx2, hRX, hB1⟩; obtain ⟨hcell, hfroz, hsize⟩ := bcell hB1; simp only [World.size_alloc, World.size_drew] at hsize hcell hfroz)
      | (refine (digits_RL _ x y z t _ (by unfold C4; simp [go_sem, hcell, hfroz]) hx hy hz ht).mono ?_; rintro en w2 ⟨by', cy, rfl, hby1, hby2, hRY, hB2⟩))
    have s2 := hB2.size
    have hk : CL ((((w.alloc (.cells #[.int .u64 a, .int .u64 b, .int .u64 c, .int .u64 d] 24)).alloc (.cells #[.int .u64 x, .int .u64 y, .int .u64 z, .int .u64 t] 24)).alloc (.cells #[.int .u64 0, .int .u64 0, .int .u64 0, .int .u64 0, .int .u64 0, .int .u64 0, .int .u64 0, .int .u64 0] 29)).drew) (w.heap.size + 1 + 1) [0, 0, 0, 0, 0, 0, 0, 0] := (CL.newAt ((w.alloc _).alloc _) [0, 0, 0, 0, 0, 0, 0, 0] 29 _ (by simp)).drew
    have hZ : CL w2 (w.heap.size + 1 + 1) [0, 0, 0, 0, 0, 0, 0, 0] := (hk.below hB1 (by simp)).below hB2 (by omega)
    have q2 : Below w.heap.size w w2 := bstep (bstep (Below.drew (balloc (balloc (balloc (bself w) _) _) _)) hB1) hB2
    have hRX2 := hRX.below hB2 (by omega)
    simp only [World.size_alloc, World.size_drew] at hbx1
    clear hcell hfroz hk hB1
    go_wp2
    go_meet
    exact ⟨bx, cx, by', cy, rfl, rfl, q2, by omega, by omega, by omega, by omega, hRX2, hRY, hZ⟩
  case rest =>
    obtain ⟨bx, cx, by', cy, rfl, rfl, q1, x1, y1, x2, y2, hRX, hRY, hZ⟩ := hcut
    go_wp2_with fail
    have hM0 : MW w (wc.alloc (.cells (([0, 0, 0, 0, 0, 0, 0, 0, 0, 0, 0, 0, 0, 0, 0, 0, 0] : List Int).map (Value.int .u64)).toArray 22)) wc.heap.size bx by' (w.heap.size + 1 + 1) (dg a b c d) (dg x y z t) [0, 0, 0, 0, 0, 0, 0, 0, 0, 0, 0, 0, 0, 0, 0, 0, 0] 0 :=
      { bel := balloc q1 _, sz := by simp, rx := hRX.below (balloc (bself wc) _) x2, ry := hRY.below (balloc (bself wc) _) y2, ko := CL.new wc [0, 0, 0, 0, 0, 0, 0, 0, 0, 0, 0, 0, 0, 0, 0, 0, 0] 22, kz := hZ.alloc (by omega) _, ll := rfl, lw := by intro x hx; simp only [List.mem_cons, List.not_mem_nil, or_false, or_self] at hx; subst hx; exact ⟨by omega, by omega⟩,
        hz := fun j h1 h2 => by
          have : j = 8 ∨ j = 9 ∨ j = 10 ∨ j = 11 ∨ j = 12 ∨ j = 13 ∨ j = 14 ∨ j = 15 ∨ j = 16 := by omega
          rcases this with rfl | rfl | rfl | rfl | rfl | rfl | rfl | rfl | rfl <;> rfl }
    clear hRX hRY hZ q1 hmk
    obtain ⟨no, hno⟩ : ∃ no, no = wc.heap.size := ⟨_, rfl⟩
    rw [← hno] at hM0 x2 y2 ⊢
    have hno' : w.heap.size + 1 + 1 < no := by omega
    clear hno
    have dX := dg_H32 a b c d ha hb hc hd
    have dY := dg_H32 x y z t hx hy hz ht
    go_loopw [8] (fun i wr => ∃ (k : Nat) (ol : List Int), k ≤ 8 ∧ i = .int .i64 k ∧ MW w wr no bx by' (w.heap.size + 1 + 1) (dg a b c d) (dg x y z t) ol k ∧ HB ol = HB ((dg a b c d).take k) * HB (dg x y z t)) (fun i _ => 8 - (intOf i).toNat)
    case atStart =>
      exact ⟨0, [0, 0, 0, 0, 0, 0, 0, 0, 0, 0, 0, 0, 0, 0, 0, 0, 0], by omega, rfl, hM0, by simp [HB]⟩
    case round =>
      obtain ⟨k, ol, hk, rfl, hM, hE⟩ := hrel
      clear hM0
      by_cases h8 : k = 8
      · subst h8
        go_wp2_with fail
        obtain ⟨q0, q1, q2, q3, q4, q5, q6, q7, q8, q9, q10, q11, q12, q13, q14, q15, q16, rfl⟩ := list17 ol hM.ll
        have e16 : q16 = 0 := by
          have := hM.hz 16 (by omega) (by omega)
          simpa using this
        subst e16
        have l := hM.lw
        have l0 := l q0 (by simp)
        have l1 := l q1 (by simp)
        have l2 := l q2 (by simp)
        have l3 := l q3 (by simp)
        have l4 := l q4 (by simp)
        have l5 := l q5 (by simp)
        have l6 := l q6 (by simp)
        have l7 := l q7 (by simp)
        have l8 := l q8 (by simp)
        have l9 := l q9 (by simp)
        have l10 := l q10 (by simp)
        have l11 := l q11 (by simp)
        have l12 := l q12 (by simp)
        have l13 := l q13 (by simp)
        have l14 := l q14 (by simp)
        have l15 := l q15 (by simp)
        have hw := (wide_of (V a b c d * V x y z t) q0 q1 q2 q3 q4 q5 q6 q7 q8 q9 q10 q11 q12 q13 q14 q15 no wr l0 l1 l2 l3 l4 l5 l6 l7 l8 l9 l10 l11 l12 l13 l14 l15 hM.ko (by rw [hE, ← HB_dg a b c d, ← HB_dg x y z t]; rfl))
        refine hw.mono ?_
        clear hw
        rintro en w3 ⟨rfl, hB3⟩
        clear l
        have hz3 := hM.kz.below hB3 (by have := hM.sz; omega)
        have q3 : Below w.heap.size w w3 := bstep hM.bel hB3
        clear hM hB3 hE
        have f0 := (hz3 0 _ rfl).1; have f1 := (hz3 1 _ rfl).1; have f2 := (hz3 2 _ rfl).1; have f3 := (hz3 3 _ rfl).1; have f4 := (hz3 4 _ rfl).1; have f5 := (hz3 5 _ rfl).1; have f6 := (hz3 6 _ rfl).1; have f7 := (hz3 7 _ rfl).1
        have g0 := (hz3 0 _ rfl).2; have g1 := (hz3 1 _ rfl).2; have g2 := (hz3 2 _ rfl).2; have g3 := (hz3 3 _ rfl).2; have g4 := (hz3 4 _ rfl).2; have g5 := (hz3 5 _ rfl).2; have g6 := (hz3 6 _ rfl).2; have g7 := (hz3 7 _ rfl).2
        go_wp2
        refine bodyPost_ret (v := WV (V a b c d * V x y z t)) (by simp [results, Try.results21, go_sem, *]) rfl ⟨rfl, ?_⟩
        go_grown
      · have hk7 : k ≤ 7 := by omega
        go_wp2_with fail
        obtain ⟨xi, hxi⟩ := dg_at a b c d k (by omega)
        have wxi := dX xi (List.mem_of_getElem? hxi)
        go_loopw [9, 10] (fun cr kk wq => ∃ (m : Nat) (cv : Int) (ol' : List Int), m ≤ 8 ∧ kk = .int .i64 m ∧ cr = .int .u64 cv ∧ H32 cv ∧ MW w wq no bx by' (w.heap.size + 1 + 1) (dg a b c d) (dg x y z t) ol' k ∧ HB ol' + cv * 4294967296 ^ (k + m) = HB ((dg a b c d).take k) * HB (dg x y z t) + xi * HB ((dg x y z t).take m) * 4294967296 ^ k) (fun _ kk _ => 8 - (intOf kk).toNat)
        case atStart =>
          exact ⟨0, 0, ol, by omega, rfl, rfl, ⟨by omega, by omega⟩, hM, by simp [HB, hE]⟩
        case round =>
          obtain ⟨m, cv, ol', hm, rfl, rfl, hcv, hM', hE'⟩ := hrel
          clear hM hE
          by_cases hm8 : m = 8
          · subst hm8
            obtain ⟨o, ho, _, hc1, hf1⟩ := hM'.at (k + 8) (by omega)
            have o0 : o = 0 := by
              have := hM'.hz (k + 8) (by omega) (by omega)
              rw [ho] at this; injection this
            subst o0
            have nM := hM'.set (k + 1) (k + 8) cv hcv (by omega) (by omega) (by omega) (by omega) (by omega) (by omega) (by omega)
            have nE : HB (ol'.set (k + 8) cv) = HB ((dg a b c d).take (k + 1)) * HB (dg x y z t) := by
              rw [HB_set cv 0 ol' (k + 8) ho, HB_take xi (dg a b c d) k hxi]
              have hE2 : HB ol' + cv * 4294967296 ^ (k + 8) = HB ((dg a b c d).take k) * HB (dg x y z t) + xi * HB (dg x y z t) * 4294967296 ^ k := hE'
              generalize HB (dg x y z t) = Y at *
              generalize HB ((dg a b c d).take k) = X at *
              generalize HB ol' = O at *
              generalize (4294967296 : Int) ^ (k + 8) = P at *
              generalize (4294967296 : Int) ^ k = Q at *
              grind
            have c1 : ((k : Int) + 8).toNat = k + 8 := by omega
            clear hM' hE' ho
            go_wp2
            refine ⟨⟨k + 1, _, by omega, by simp, nM, nE⟩, ?_⟩
            simp [intOf]; omega
          · have hm7 : m ≤ 7 := by omega
            obtain ⟨yk, hyk⟩ := dg_at x y z t m (by omega)
            have wyk := dY yk (List.mem_of_getElem? hyk)
            obtain ⟨o, ho, wo, hc1, hf1⟩ := hM'.at (k + m) (by omega)
            have hcx := hM'.rx k xi hxi
            have hcy := hM'.ry m yk hyk
            obtain ⟨n1, n2, n3, n4⟩ := dig_bd o xi yk cv wo wxi wyk hcv
            go_upto_region 10 with fail
            have hw1 : IntKind.u64.wrap (o + xi * yk) = o + xi * yk := by rw [IntKind.wrap_u64]; obtain ⟨c1, c2⟩ := hcv; obtain ⟨o1, o2⟩ := wo; omega
            have hw2 : IntKind.u64.wrap (o + xi * yk + cv) = o + xi * yk + cv := by rw [IntKind.wrap_u64]; omega
            go_region
            obtain ⟨n, hn⟩ : ∃ n, n = o + xi * yk + cv := ⟨_, rfl⟩
            rw [← hn] at n3 n4 ⊢
            have nE := mul_round (HB ol') cv (4294967296 ^ (k + m)) (HB ((dg a b c d).take k) * HB (dg x y z t)) xi (HB ((dg x y z t).take m)) (4294967296 ^ k) (4294967296 ^ m) yk o n (Int.pow_add _ _ _) hE' hn
            rw [← HB_set (n % 4294967296) o ol' (k + m) ho, ← HB_take yk (dg x y z t) m hyk, ← Int.pow_succ] at nE
            have nM := hM'.drew.set k (k + m) (n % 4294967296) ⟨by omega, by omega⟩ (by omega) (by omega) (by omega) (by omega) (by omega) (by omega) (by omega)
            have t1 : n.tmod 4294967296 = n % 4294967296 := tm32 n n3
            have t2 : IntKind.u64.wrap (n.tdiv 4294967296) = n / 4294967296 := td32 n n3 n4
            have hq : H32 (n / 4294967296) := ⟨by omega, by omega⟩
            clear hE' hn hw1 hw2 n1 n2 hcx hcy ho wo hM' dX dY wxi wyk hxi hyk
            go_wp2
            refine ⟨⟨m + 1, n / 4294967296, _, by omega, by simp, rfl, hq, nM, nE⟩, ?_⟩
            simp [intOf]; omega
end Go.Proofs.Ytajpjbhppjlehaa
