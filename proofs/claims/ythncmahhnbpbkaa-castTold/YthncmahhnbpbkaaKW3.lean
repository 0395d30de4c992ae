/- Cast: a message waits for all. -/
import Derived.Test.YthncmahhnbpbkaaKW2
namespace Go.Proofs.Ythncmahhnbpbkaa
open Go.RowKit
set_option linter.unusedVariables false
set_option linter.unusedSimpArgs false
set_option maxRecDepth 100000
theorem sentN_one {s : Nat → Int} {m : Mg} (h : ¬ 1 < m.1) : sentN s (some m) = s := if_neg h
theorem sentN_two {s : Nat → Int} {m : Mg} (h : 1 < m.1) : sentN s (some m) = upN s (2 * m.2.1 + m.1 - 2).toNat (s (2 * m.2.1 + m.1 - 2).toNat + 1) := if_pos h
/-- One is counted as sent. -/
theorem WQ.sent {p : Pl} {t bad n tb mb : Nat} {vt vm : Value} {u : World} {W : Wd} (h : WQ p t bad n tb mb vt vm u W) {j : Nat} (hj : j < 2 * n + 2) (x : Int) (h1 : vt ≠ nilS → p.sb ≠ tb) (h2 : vm ≠ nilS → p.sb ≠ mb) : WQ p t bad n tb mb vt vm (u.setCell ⟨p.sb, j, none⟩ (.int .i64 x)).drew { W with sent := upN W.sent j x } := by
  have hk : Ex (fun k => k = p.sb) u (u.setCell ⟨p.sb, j, none⟩ (.int .i64 x)).drew := by
    have := Ex.cell (A := fun k => k = p.sb) (Ex.refl _ u) (p := ⟨p.sb, j, none⟩) rfl (.int .i64 x)
    exact ⟨this.os, this.tape, this.output, this.size, this.block⟩
  have hs := hk.size
  refine ⟨⟨⟨h.ok.w1.1, by have := h.ok.w1.2; omega⟩, ⟨h.ok.n1.1, by have := h.ok.n1.2; omega⟩, ⟨h.ok.s1.1, by have := h.ok.s1.2; omega⟩, fun i i1 i2 => ⟨(h.ok.b1 i i1 i2).1, by have := (h.ok.b1 i i1 i2).2; omega⟩, h.ok.d1, h.ok.d2, h.ok.d3, h.ok.c1⟩, h.cw.ex hk h.ok.w1.2 h.ok.d1.2.1, fun i hi => ?_, fun i hi => ?_, h.ot.up (fun hv hb => hk.block _ hb fun e => h1 hv e.symm) hs, h.om.up (fun hv hb => hk.block _ hb fun e => h2 hv e.symm) hs, fun i i1 i2 => (h.nm i i1 i2).ex hk fun k k1 k2 e => ?_, h.dt, h.dm, h.tm⟩
  · rw [World.cell?_of_block (w := u) (hk.block _ h.ok.n1.2 h.ok.d1.2.2)]; exact h.nr i hi
  · have hso := h.sr i hi
    have hsj := h.sr j hj
    by_cases e : i = j
    · subst e
      have h3 : (u.setCell ⟨p.sb, i, none⟩ (.int .i64 x)).cell? ⟨p.sb, i, none⟩ = some (.int .i64 x) := World.cell?_setCell_same u ⟨p.sb, i, none⟩ (.int .i64 x) hsj.1
      refine ⟨?_, ?_⟩
      · show (u.setCell ⟨p.sb, i, none⟩ (.int .i64 x)).cell? _ = _
        rw [h3]
        show some (Value.int .i64 x) = some (.int .i64 (upN W.sent i x i))
        rw [upN_self]
      · show (u.setCell ⟨p.sb, i, none⟩ (.int .i64 x)).frozen? _ = _
        rw [World.frozen?_setCell]; exact hsj.2
    · refine ⟨?_, ?_⟩
      · show (u.setCell ⟨p.sb, j, none⟩ (.int .i64 x)).cell? _ = _
        rw [World.cell?_setCell_other _ _ _ _ (fun e2 => e (by injection e2 with _ e3 _; exact e3.symm))]
        show _ = some (Value.int .i64 (upN W.sent j x i))
        rw [upN_ne _ _ e]; exact hso.1
      · show (u.setCell ⟨p.sb, j, none⟩ (.int .i64 x)).frozen? _ = _
        rw [World.frozen?_setCell]; exact hso.2
  · have := (h.ok.d2 i i1 i2).2.2; omega
set_option maxHeartbeats 8000000 in
theorem cAll_some (p : Pl) (t bad n : Nat) (W : Wd) (m : Mg) (lb tb mb : Nat) (vt vm : Value) (u0 : World) (hQ0 : WQ p t bad n tb mb vt vm u0 W) (hn : bad ≤ n ∧ n ≤ 16) (hL0 : W.wait.length + (n - bad) ≤ 1000) (hlb : CV u0 lb (mC m)) (hoff : p.off n lb) (hs1 : vt ≠ nilS → lb ≠ tb) (hs2 : vm ≠ nilS → lb ≠ mb) (hk : m.1 = 1 ∨ ((m.1 = 2 ∨ m.1 = 3) ∧ 1 ≤ m.2.1 ∧ m.2.1 ≤ n)) (hsn : 1 < m.1 → 0 ≤ W.sent (2 * m.2.1 + m.1 - 2).toNat ∧ W.sent (2 * m.2.1 + m.1 - 2).toNat ≤ 1000) (hlo : p.lo ≤ u0.heap.size) :
    Calls Try.prog 21 #[pW p.wb, .slice (some ⟨lb, 0, none⟩) 1 1] u0 fun e' u' => e' = .returned (.tuple #[]) ∧ WM p t bad n u' (W.all bad n (some m)) ∧ Below p.lo u0 u' ∧ ∀ k, k < u0.heap.size → p.off n k → (vt ≠ nilS → k ≠ tb) → (vm ≠ nilS → k ≠ mb) → u'.heap[k]? = u0.heap[k]? := by
  obtain ⟨Gd, eGd⟩ : ∃ G : Nat → Prop, ∀ k, G k ↔ (k < u0.heap.size ∧ p.off n k ∧ (vt ≠ nilS → k ≠ tb) ∧ (vm ≠ nilS → k ≠ mb)) := ⟨_, fun _ => Iff.rfl⟩
  have hGlb : Gd lb := (eGd lb).2 ⟨hlb.lt (by simp), hoff, hs1, hs2⟩
  have hlb0 := hlb
  have hc := hQ0.cw
  have c0 := (hc 0 _ rfl).1
  have c2 := (hc 2 _ rfl).1
  have c6 := (hc 6 _ rfl).1
  have l0 := (hlb 0 _ rfl).1
  have l1 := (hlb 1 _ rfl).1
  have hss1 : vt ≠ nilS → p.sb ≠ tb := fun h e => (hQ0.dt h).2.2.1 e.symm
  have hss2 : vm ≠ nilS → p.sb ≠ mb := fun h e => (hQ0.dm h).2.2.1 e.symm
  go_enter Try.func21, Try.ntmps21
  go_wp2_with fail
  go_loopw [4] (fun s4 wr => (s4 = .int .i64 0 ∧ wr = u0) ∨ (s4 = .int .i64 1 ∧ WM p t bad n wr (W.all bad n (some m)) ∧ Below p.lo u0 wr ∧ ∀ k, Gd k → wr.heap[k]? = u0.heap[k]?)) (fun s4 _ => 1 - (intOf s4).toNat)
  case atStart => exact .inl ⟨rfl, rfl⟩
  case round =>
    rcases hrel with ⟨rfl, hwr⟩ | ⟨rfl, hr1, hr2, hr3⟩
    · rw [hwr]
      clear hwr
      obtain ⟨W1, eW1⟩ : ∃ W1 : Wd, Hid (W1 = { W with sent := sentN W.sent (some m) }) := ⟨_, rfl⟩
      have hall : ∀ u, WM p t bad n u { W1 with wait := W1.wait ++ (List.range (n - bad)).map fun i => (bad + 1 + i, m) } → WM p t bad n u (W.all bad n (some m)) := fun u h => by rw [eW1.out] at h; exact h
      have hWl1 : W1.wait.length + (n - bad) ≤ 1000 := by rw [eW1.out]; exact hL0
      rcases hk with hk | ⟨hk, f1, f2⟩
      · have hκ : ¬ 1 < m.1 := by omega
        have hQ1' : WQ p t bad n tb mb vt vm u0 W1 := by
          rw [eW1.out, sentN_one hκ]; exact hQ0
        go_upto_region 5 with fail
        obtain ⟨u1, eu1⟩ : ∃ u1, Hid (u1 = u0) := ⟨_, rfl⟩
        have hQ1 : WQ p t bad n tb mb vt vm u1 W1 := by rw [eu1.out]; exact hQ1'
        have hGu : ∀ k, Gd k → u1.heap[k]? = u0.heap[k]? := fun k _ => by rw [eu1.out]
        have hBz : Below p.lo u0 u1 := by rw [eu1.out]; exact Below.refl _ _
        have hz1 := hBz.size
        rw [← eu1.out]
        clear c0 c2 c6 l0 l1 hc hQ1' hQ0 hlb
        have d0 := (hQ1.cw 0 _ rfl).1
        have d2 := (hQ1.cw 2 _ rfl).1
        have eb := wr64 (n := (bad : Int) + 1) (by omega)
        have hlo1 : p.lo ≤ u1.heap.size := Nat.le_trans hlo hz1
        go_wp2_with fail
        go_loopw [5] (fun s5 wr => ∃ j : Nat, j ≤ n - bad ∧ s5 = .int .i64 ((bad + 1 + j : Nat) : Int) ∧ (∃ tb mb vt vm, WQ p t bad n tb mb vt vm wr { W1 with wait := W1.wait ++ (List.range j).map fun i => (bad + 1 + i, m) } ∧ ∀ k, Gd k → (vt ≠ nilS → k ≠ tb) ∧ (vm ≠ nilS → k ≠ mb)) ∧ (∀ k, Gd k → wr.heap[k]? = u0.heap[k]?) ∧ Below p.lo u1 wr ∧ u1.heap.size ≤ wr.heap.size) (fun s5 _ => n + 1 - (intOf s5).toNat)
        case atStart => exact ⟨0, by omega, by congr 1, ⟨tb, mb, vt, vm, by simpa using hQ1, fun k hk => ((eGd k).1 hk).2.2⟩, hGu, Below.refl _ _, Nat.le_refl _⟩
        case round =>
          obtain ⟨j, hj, rfl, ⟨tb, mb, vt, vm, hQ, hG2⟩, hGh, hBw, hz⟩ := hrel
          have hs1 := (hG2 lb hGlb).1
          have hs2 := (hG2 lb hGlb).2
          have hlb : CV wr lb (mC m) := fun i v hi => by
            have e := hGh lb hGlb
            rw [World.cell?_of_block (w := u0) (a := ⟨lb, i, none⟩) e, World.frozen?_of_block (w := u0) (a := ⟨lb, i, none⟩) e]; exact hlb0 i v hi
          have hc := hQ.cw
          have c0 := (hc 0 _ rfl).1
          by_cases hjn : j < n - bad
          · have hjc : ((bad + 1 + j : Nat) : Int) ≤ (n : Int) := by omega
            obtain ⟨Wj, eWj⟩ : ∃ Wj : Wd, Wj = { W1 with wait := W1.wait ++ (List.range j).map fun i => (bad + 1 + i, m) } := ⟨_, rfl⟩
            rw [← eWj] at hQ
            have hWl : Wj.wait.length ≤ 1000 := by rw [eWj]; simp; omega
            have hlo : p.lo ≤ wr.heap.size := Nat.le_trans hlo1 hz
            obtain ⟨slt, ct, evt, _⟩ := hQ.ot.sl
            obtain ⟨slm, cm, evm, _⟩ := hQ.om.sl
            have hwt : ¬ (vt ≠ nilS ∧ p.wb = tb) := fun h => (hQ.dt h.1).1 h.2.symm
            have htl : vt ≠ nilS → tb < wr.heap.size := fun h => (hQ.ot.lt h).2
            have hml : vm ≠ nilS → mb < wr.heap.size := fun h => (hQ.om.lt h).2
            have htm := hQ.tm
            have hQt := hQ.ot
            have hQm := hQ.om
            have hw1 : vt ≠ nilS → p.wb ≠ tb := fun h e => (hQ.dt h).1 e.symm
            have hw2 : vm ≠ nilS → p.wb ≠ mb := fun h e => (hQ.dm h).1 e.symm
            have hlb1 := hlb.lt (by simp)
            have hlt : ¬ (vt ≠ nilS ∧ lb = tb) := fun h => hs1 h.1 h.2
            have hL := hWl
            clear d0 d2 hc
            go_upto_region 8 with fail
            refine region_drawn [52, 53, 54, 55, 56, 57, 58, 59, 60, 61, 62, 63, 64, 65, 66, 67, 68, 69, 70, 71, 72, 73, 74] (fun fZ tZ uZ => Gs fZ tZ [(0, 52, .pointer (some ⟨p.wb, 0, none⟩)), (1, 53, .pointer (some ⟨p.wb, 0, none⟩)), (2, 54, .pointer (some ⟨p.wb, 0, none⟩)), (3, 55, .pointer (some ⟨p.wb, 0, none⟩)), (4, 56, .pointer (some ⟨p.wb, 4, none⟩)), (5, 57, vt), (6, 58, .int .i64 ((bad + 1 + j : Nat) : Int)), (9, 61, .pointer (some ⟨p.wb, 0, none⟩)), (10, 62, .pointer (some ⟨p.wb, 0, none⟩)), (11, 63, .pointer (some ⟨p.wb, 5, none⟩)), (12, 64, vm), (13, 65, .slice (some ⟨lb, 0, none⟩) 1 1), (14, 66, .int .i64 0), (15, 67, .pointer (some ⟨lb, 0, none⟩)), (16, 68, .agg #[.int .i64 m.1, .int .i64 m.2.1, .string m.2.2]), (19, 71, .pointer (some ⟨p.wb, 0, none⟩)), (20, 72, .pointer (some ⟨p.wb, 4, none⟩)), (22, 73, .pointer (some ⟨p.wb, 0, none⟩)), (23, 74, .pointer (some ⟨p.wb, 5, none⟩))] ∧ Os fZ [(8, 5), (8, 7), (18, 8), (18, 12), (18, 17), (17, 16), (21, 18), (21, 8), (24, 21), (24, 18), (24, 8)] ∧ CA p tb mb vt vm (Wj.wait.map fun q => Value.int .i64 (q.1 : Int)) (Wj.wait.flatMap fun q => mC q.2) (bad + 1 + j) m Wj.wait.length wr (fZ 7) (fZ 8) (fZ 17) (fZ 18) (fZ 21) (fZ 24) (tZ 59) (tZ 60) (tZ 69) (tZ 70) uZ (wC n t bad p.nb p.cn p.sb)) (by kernel_rfl) (by kernel_rfl) ?_ ?_ ?_
            · exact ⟨Gs.none _ _, Os.none _, ⟨Nat.le_refl _, fun _ => (bself wr).drew, nofun, nofun, nofun, nofun, nofun, nofun⟩⟩
            · rintro fZ tZ uZ iZ oZ aZ hF ⟨hG, hO, hC⟩ ho hfi hdep
              have hS : [52, 53, 54, 55, 56, 57, 58, 59, 60, 61, 62, 63, 64, 65, 66, 67, 68, 69, 70, 71, 72, 73, 74].Nodup := by decide
              have hV := hF.evs (N := 75) (by decide) rfl (by decide)
              have il : iZ < 25 := (Array.getElem?_eq_some_iff.1 ho).1
              have ix : iZ = 0 ∨ iZ = 1 ∨ iZ = 2 ∨ iZ = 3 ∨ iZ = 4 ∨ iZ = 5 ∨ iZ = 6 ∨ iZ = 7 ∨ iZ = 8 ∨ iZ = 9 ∨ iZ = 10 ∨ iZ = 11 ∨ iZ = 12 ∨ iZ = 13 ∨ iZ = 14 ∨ iZ = 15 ∨ iZ = 16 ∨ iZ = 17 ∨ iZ = 18 ∨ iZ = 19 ∨ iZ = 20 ∨ iZ = 21 ∨ iZ = 22 ∨ iZ = 23 ∨ iZ = 24 := by omega
              rcases ix with rfl | rfl | rfl | rfl | rfl | rfl | rfl | rfl | rfl | rfl | rfl | rfl | rfl | rfl | rfl | rfl | rfl | rfl | rfl | rfl | rfl | rfl | rfl | rfl | rfl
              · cases ho
                refine op_plain rfl rfl (fun K hK => ?_)
                refine wp_move rfl ((hF.out 0 (by decide)).trans rfl) ?_
                exact tell hK hF hS (by decide) ⟨Gs.stepA hG rfl rfl, ⟨hO.1, hO.2.1, hO.2.2.1, hO.2.2.2.1, hO.2.2.2.2.1, hO.2.2.2.2.2.1, hO.2.2.2.2.2.2.1, hO.2.2.2.2.2.2.2.1, hO.2.2.2.2.2.2.2.2.1, hO.2.2.2.2.2.2.2.2.2.1, hO.2.2.2.2.2.2.2.2.2.2.1, trivial⟩, hC⟩
              · cases ho
                refine op_plain rfl rfl (fun K hK => ?_)
                refine wp_move rfl ((hF.out 0 (by decide)).trans rfl) ?_
                exact tell hK hF hS (by decide) ⟨Gs.stepA hG rfl rfl, ⟨hO.1, hO.2.1, hO.2.2.1, hO.2.2.2.1, hO.2.2.2.2.1, hO.2.2.2.2.2.1, hO.2.2.2.2.2.2.1, hO.2.2.2.2.2.2.2.1, hO.2.2.2.2.2.2.2.2.1, hO.2.2.2.2.2.2.2.2.2.1, hO.2.2.2.2.2.2.2.2.2.2.1, trivial⟩, hC⟩
              · cases ho
                refine op_plain rfl rfl (fun K hK => ?_)
                refine wp_move rfl ((hF.out 0 (by decide)).trans rfl) ?_
                exact tell hK hF hS (by decide) ⟨Gs.stepA hG rfl rfl, ⟨hO.1, hO.2.1, hO.2.2.1, hO.2.2.2.1, hO.2.2.2.2.1, hO.2.2.2.2.2.1, hO.2.2.2.2.2.2.1, hO.2.2.2.2.2.2.2.1, hO.2.2.2.2.2.2.2.2.1, hO.2.2.2.2.2.2.2.2.2.1, hO.2.2.2.2.2.2.2.2.2.2.1, trivial⟩, hC⟩
              · cases ho
                refine op_plain rfl rfl (fun K hK => ?_)
                refine wp_nil rfl ((hV 54 (by decide)).trans (hG.2.2.1 (hdep ⟨2, .data⟩ (by simp) rfl))) ?_
                exact tell hK hF hS (by decide) ⟨Gs.stepA hG rfl rfl, ⟨hO.1, hO.2.1, hO.2.2.1, hO.2.2.2.1, hO.2.2.2.2.1, hO.2.2.2.2.2.1, hO.2.2.2.2.2.2.1, hO.2.2.2.2.2.2.2.1, hO.2.2.2.2.2.2.2.2.1, hO.2.2.2.2.2.2.2.2.2.1, hO.2.2.2.2.2.2.2.2.2.2.1, trivial⟩, hC⟩
              · cases ho
                refine op_plain rfl rfl (fun K hK => ?_)
                refine wp_field rfl ((hV 55 (by decide)).trans (hG.2.2.2.1 (hdep ⟨3, .data⟩ (by simp) rfl))) (fk_seneschallaw15_world_4 _ _ uZ) ?_
                exact tell hK hF hS (by decide) ⟨Gs.stepA hG rfl rfl, ⟨hO.1, hO.2.1, hO.2.2.1, hO.2.2.2.1, hO.2.2.2.2.1, hO.2.2.2.2.2.1, hO.2.2.2.2.2.2.1, hO.2.2.2.2.2.2.2.1, hO.2.2.2.2.2.2.2.2.1, hO.2.2.2.2.2.2.2.2.2.1, hO.2.2.2.2.2.2.2.2.2.2.1, trivial⟩, hC⟩
              · cases ho
                refine op_plain rfl rfl (fun K hK => ?_)
                have n8 : fZ 8 = false := Os.not (hO.1) hfi
                have n18 : fZ 18 = false := Os.not (hO.2.2.1) n8
                have hC2 := hC
                rw [n18] at hC2
                refine wp_load rfl ((hV 56 (by decide)).trans (hG.2.2.2.2.1 (hdep ⟨4, .data⟩ (by simp) rfl))) (lSiv uZ evt ((hQ.cw.ex hC2.early hQ.ok.w1.2 hwt) 4 _ rfl).1) ?_
                exact tell hK hF hS (by decide) ⟨Gs.stepA hG rfl rfl, ⟨fun _ => rfl, hO.2.1, hO.2.2.1, hO.2.2.2.1, hO.2.2.2.2.1, hO.2.2.2.2.2.1, hO.2.2.2.2.2.2.1, hO.2.2.2.2.2.2.2.1, hO.2.2.2.2.2.2.2.2.1, hO.2.2.2.2.2.2.2.2.2.1, hO.2.2.2.2.2.2.2.2.2.2.1, trivial⟩, hC⟩
              · cases ho
                refine op_plain rfl rfl (fun K hK => ?_)
                refine wp_move rfl ((hF.out 5 (by decide)).trans rfl) ?_
                exact tell hK hF hS (by decide) ⟨Gs.stepA hG rfl rfl, ⟨hO.1, hO.2.1, hO.2.2.1, hO.2.2.2.1, hO.2.2.2.2.1, hO.2.2.2.2.2.1, hO.2.2.2.2.2.2.1, hO.2.2.2.2.2.2.2.1, hO.2.2.2.2.2.2.2.2.1, hO.2.2.2.2.2.2.2.2.2.1, hO.2.2.2.2.2.2.2.2.2.2.1, trivial⟩, hC⟩
              · cases ho
                refine op_plain rfl rfl (fun K hK => ?_)
                have n8 : fZ 8 = false := Os.not (hO.2.1) hfi
                have n18 : fZ 18 = false := Os.not (hO.2.2.1) n8
                have n21 : fZ 21 = false := Os.not (hO.2.2.2.2.2.2.1) n18
                have n24 : fZ 24 = false := Os.not (hO.2.2.2.2.2.2.2.2.1) n21
                have hC2 := hC
                rw [n8, n18, n21, n24] at hC2
                have hC3 := hC2.grow7 3
                refine wp_bS (xs := [(0, .tmp 58)]) rfl (vs := [.int .i64 ((bad + 1 + j : Nat) : Int)]) (by show [aZ.eval (.tmp 58)] = _; rw [((hV 58 (by decide)).trans (hG.2.2.2.2.2.2.1 (hdep ⟨6, .data⟩ (by simp) rfl)))]) (bS1i _ uZ) ?_
                exact tell hK hF hS (by decide) ⟨Gs.other rfl hG, ⟨hO.1, fun _ => rfl, hO.2.2.1, hO.2.2.2.1, hO.2.2.2.2.1, hO.2.2.2.2.2.1, hO.2.2.2.2.2.2.1, hO.2.2.2.2.2.2.2.1, hO.2.2.2.2.2.2.2.2.1, hO.2.2.2.2.2.2.2.2.2.1, hO.2.2.2.2.2.2.2.2.2.2.1, trivial⟩, (by simpa [updF, updT, n8, n18, n21, n24] using hC3)⟩
              · cases ho
                refine op_plain rfl rfl (fun K hK => ?_)
                have n18 : fZ 18 = false := Os.not (hO.2.2.1) hfi
                have n21 : fZ 21 = false := Os.not (hO.2.2.2.2.2.2.1) n18
                have n24 : fZ 24 = false := Os.not (hO.2.2.2.2.2.2.2.2.1) n21
                have y7 : fZ 7 = true := hdep ⟨7, .data⟩ (by simp) rfl
                have hC2 := hC
                rw [y7, hfi, n18, n21, n24] at hC2
                obtain ⟨v, u', hr, hC3⟩ := hC2.app8 htl hlo hL hQt
                refine wp_app rfl ((hV 57 (by decide)).trans (hG.2.2.2.2.2.1 (hdep ⟨5, .data⟩ (by simp) rfl))) (hV 59 (by decide)) hr ?_
                exact tell hK hF hS (by decide) ⟨Gs.other rfl hG, ⟨fun _ => hdep ⟨5, .data⟩ (by simp) rfl, fun _ => hdep ⟨7, .data⟩ (by simp) rfl, fun _ => rfl, hO.2.2.2.1, hO.2.2.2.2.1, hO.2.2.2.2.2.1, hO.2.2.2.2.2.2.1, fun _ => rfl, hO.2.2.2.2.2.2.2.2.1, hO.2.2.2.2.2.2.2.2.2.1, fun _ => rfl, trivial⟩, (by simpa [updF, updT, y7, n18, n21, n24] using hC3)⟩
              · cases ho
                refine op_plain rfl rfl (fun K hK => ?_)
                refine wp_move rfl ((hF.out 0 (by decide)).trans rfl) ?_
                exact tell hK hF hS (by decide) ⟨Gs.stepA hG rfl rfl, ⟨hO.1, hO.2.1, hO.2.2.1, hO.2.2.2.1, hO.2.2.2.2.1, hO.2.2.2.2.2.1, hO.2.2.2.2.2.2.1, hO.2.2.2.2.2.2.2.1, hO.2.2.2.2.2.2.2.2.1, hO.2.2.2.2.2.2.2.2.2.1, hO.2.2.2.2.2.2.2.2.2.2.1, trivial⟩, hC⟩
              · cases ho
                refine op_plain rfl rfl (fun K hK => ?_)
                refine wp_nil rfl ((hV 61 (by decide)).trans (hG.2.2.2.2.2.2.2.1 (hdep ⟨9, .data⟩ (by simp) rfl))) ?_
                exact tell hK hF hS (by decide) ⟨Gs.stepA hG rfl rfl, ⟨hO.1, hO.2.1, hO.2.2.1, hO.2.2.2.1, hO.2.2.2.2.1, hO.2.2.2.2.2.1, hO.2.2.2.2.2.2.1, hO.2.2.2.2.2.2.2.1, hO.2.2.2.2.2.2.2.2.1, hO.2.2.2.2.2.2.2.2.2.1, hO.2.2.2.2.2.2.2.2.2.2.1, trivial⟩, hC⟩
              · cases ho
                refine op_plain rfl rfl (fun K hK => ?_)
                refine wp_field rfl ((hV 62 (by decide)).trans (hG.2.2.2.2.2.2.2.2.1 (hdep ⟨10, .data⟩ (by simp) rfl))) (fk_seneschallaw15_world_5 _ _ uZ) ?_
                exact tell hK hF hS (by decide) ⟨Gs.stepA hG rfl rfl, ⟨hO.1, hO.2.1, hO.2.2.1, hO.2.2.2.1, hO.2.2.2.2.1, hO.2.2.2.2.2.1, hO.2.2.2.2.2.2.1, hO.2.2.2.2.2.2.2.1, hO.2.2.2.2.2.2.2.2.1, hO.2.2.2.2.2.2.2.2.2.1, hO.2.2.2.2.2.2.2.2.2.2.1, trivial⟩, hC⟩
              · cases ho
                refine op_plain rfl rfl (fun K hK => ?_)
                have n18 : fZ 18 = false := Os.not (hO.2.2.2.1) hfi
                have hC2 := hC
                rw [n18] at hC2
                refine wp_load rfl ((hV 63 (by decide)).trans (hG.2.2.2.2.2.2.2.2.2.1 (hdep ⟨11, .data⟩ (by simp) rfl))) (lSmv uZ evm ((hQ.cw.ex hC2.early hQ.ok.w1.2 hwt) 5 _ rfl).1) ?_
                exact tell hK hF hS (by decide) ⟨Gs.stepA hG rfl rfl, ⟨hO.1, hO.2.1, hO.2.2.1, fun _ => rfl, hO.2.2.2.2.1, hO.2.2.2.2.2.1, hO.2.2.2.2.2.2.1, hO.2.2.2.2.2.2.2.1, hO.2.2.2.2.2.2.2.2.1, hO.2.2.2.2.2.2.2.2.2.1, hO.2.2.2.2.2.2.2.2.2.2.1, trivial⟩, hC⟩
              · cases ho
                refine op_plain rfl rfl (fun K hK => ?_)
                refine wp_move rfl ((hF.out 1 (by decide)).trans rfl) ?_
                exact tell hK hF hS (by decide) ⟨Gs.stepA hG rfl rfl, ⟨hO.1, hO.2.1, hO.2.2.1, hO.2.2.2.1, hO.2.2.2.2.1, hO.2.2.2.2.2.1, hO.2.2.2.2.2.2.1, hO.2.2.2.2.2.2.2.1, hO.2.2.2.2.2.2.2.2.1, hO.2.2.2.2.2.2.2.2.2.1, hO.2.2.2.2.2.2.2.2.2.2.1, trivial⟩, hC⟩
              · cases ho
                refine op_plain rfl rfl (fun K hK => ?_)
                refine wp_move rfl ((hF.out 4 (by decide)).trans rfl) ?_
                exact tell hK hF hS (by decide) ⟨Gs.stepA hG rfl rfl, ⟨hO.1, hO.2.1, hO.2.2.1, hO.2.2.2.1, hO.2.2.2.2.1, hO.2.2.2.2.2.1, hO.2.2.2.2.2.2.1, hO.2.2.2.2.2.2.2.1, hO.2.2.2.2.2.2.2.2.1, hO.2.2.2.2.2.2.2.2.2.1, hO.2.2.2.2.2.2.2.2.2.2.1, trivial⟩, hC⟩
              · cases ho
                refine op_plain rfl rfl (fun K hK => ?_)
                refine wp_index rfl ((hV 65 (by decide)).trans (hG.2.2.2.2.2.2.2.2.2.2.2.1 (hdep ⟨13, .data⟩ (by simp) rfl))) ((hV 66 (by decide)).trans (hG.2.2.2.2.2.2.2.2.2.2.2.2.1 (hdep ⟨14, .data⟩ (by simp) rfl))) (ixM0 lb uZ) ?_
                exact tell hK hF hS (by decide) ⟨Gs.stepA hG rfl rfl, ⟨hO.1, hO.2.1, hO.2.2.1, hO.2.2.2.1, hO.2.2.2.2.1, hO.2.2.2.2.2.1, hO.2.2.2.2.2.2.1, hO.2.2.2.2.2.2.2.1, hO.2.2.2.2.2.2.2.2.1, hO.2.2.2.2.2.2.2.2.2.1, hO.2.2.2.2.2.2.2.2.2.2.1, trivial⟩, hC⟩
              · cases ho
                refine op_plain rfl rfl (fun K hK => ?_)
                have n17 : fZ 17 = false := Os.not (hO.2.2.2.2.2.1) hfi
                have n18 : fZ 18 = false := Os.not (hO.2.2.2.2.1) n17
                have hC2 := hC
                rw [n18] at hC2
                refine wp_load_mid 32 _ rfl lb 0 ((hV 67 (by decide)).trans (hG.2.2.2.2.2.2.2.2.2.2.2.2.2.1 (hdep ⟨15, .data⟩ (by simp) rfl))) (mC m) _ (CV.range (hlb.ex hC2.early hlb1 hlt)) Try.underlying32 rfl info_cast_Message ?_
                exact tell hK hF hS (by decide) ⟨Gs.stepA hG rfl rfl, ⟨hO.1, hO.2.1, hO.2.2.1, hO.2.2.2.1, hO.2.2.2.2.1, fun _ => rfl, hO.2.2.2.2.2.2.1, hO.2.2.2.2.2.2.2.1, hO.2.2.2.2.2.2.2.2.1, hO.2.2.2.2.2.2.2.2.2.1, hO.2.2.2.2.2.2.2.2.2.2.1, trivial⟩, hC⟩
              · cases ho
                refine op_plain rfl rfl (fun K hK => ?_)
                have n18 : fZ 18 = false := Os.not (hO.2.2.2.2.1) hfi
                have n21 : fZ 21 = false := Os.not (hO.2.2.2.2.2.2.1) n18
                have n24 : fZ 24 = false := Os.not (hO.2.2.2.2.2.2.2.2.1) n21
                have hC2 := hC
                rw [n18, n21, n24] at hC2
                have hC3 := hC2.grow17 htl 32
                refine wp_bS (xs := [(0, .tmp 68)]) rfl (vs := [MX m.1 m.2.1 m.2.2]) (by show [aZ.eval (.tmp 68)] = _; rw [((hV 68 (by decide)).trans (hG.2.2.2.2.2.2.2.2.2.2.2.2.2.2.1 (hdep ⟨16, .data⟩ (by simp) rfl)))]) (bS1m m uZ) ?_
                exact tell hK hF hS (by decide) ⟨Gs.other rfl hG, ⟨hO.1, hO.2.1, hO.2.2.1, hO.2.2.2.1, fun _ => rfl, fun _ => hdep ⟨16, .data⟩ (by simp) rfl, hO.2.2.2.2.2.2.1, hO.2.2.2.2.2.2.2.1, hO.2.2.2.2.2.2.2.2.1, hO.2.2.2.2.2.2.2.2.2.1, hO.2.2.2.2.2.2.2.2.2.2.1, trivial⟩, (by simpa [updF, updT, n18, n21, n24] using hC3)⟩
              · cases ho
                refine op_plain rfl rfl (fun K hK => ?_)
                have n21 : fZ 21 = false := Os.not (hO.2.2.2.2.2.2.1) hfi
                have n24 : fZ 24 = false := Os.not (hO.2.2.2.2.2.2.2.2.1) n21
                have y17 : fZ 17 = true := hdep ⟨17, .data⟩ (by simp) rfl
                have y8 : fZ 8 = true := hdep ⟨8, .chain⟩ (by simp) rfl
                have hC2 := hC
                rw [y8, y17, hfi, n21, n24] at hC2
                obtain ⟨v, u', hr, hC3⟩ := hC2.app18 htl hml htm hlo hL hQm
                refine wp_app rfl ((hV 64 (by decide)).trans (hG.2.2.2.2.2.2.2.2.2.2.1 (hdep ⟨12, .data⟩ (by simp) rfl))) (hV 69 (by decide)) hr ?_
                exact tell hK hF hS (by decide) ⟨Gs.other rfl hG, ⟨hO.1, hO.2.1, fun _ => hdep ⟨8, .chain⟩ (by simp) rfl, fun _ => hdep ⟨12, .data⟩ (by simp) rfl, fun _ => hdep ⟨17, .data⟩ (by simp) rfl, hO.2.2.2.2.2.1, fun _ => rfl, hO.2.2.2.2.2.2.2.1, hO.2.2.2.2.2.2.2.2.1, fun _ => rfl, hO.2.2.2.2.2.2.2.2.2.2.1, trivial⟩, (by simpa [updF, updT, y8, y17, n21, n24] using hC3)⟩
              · cases ho
                refine op_plain rfl rfl (fun K hK => ?_)
                refine wp_nil rfl ((hV 52 (by decide)).trans (hG.1 (hdep ⟨0, .data⟩ (by simp) rfl))) ?_
                exact tell hK hF hS (by decide) ⟨Gs.stepA hG rfl rfl, ⟨hO.1, hO.2.1, hO.2.2.1, hO.2.2.2.1, hO.2.2.2.2.1, hO.2.2.2.2.2.1, hO.2.2.2.2.2.2.1, hO.2.2.2.2.2.2.2.1, hO.2.2.2.2.2.2.2.2.1, hO.2.2.2.2.2.2.2.2.2.1, hO.2.2.2.2.2.2.2.2.2.2.1, trivial⟩, hC⟩
              · cases ho
                refine op_plain rfl rfl (fun K hK => ?_)
                refine wp_field rfl ((hV 71 (by decide)).trans (hG.2.2.2.2.2.2.2.2.2.2.2.2.2.2.2.1 (hdep ⟨19, .data⟩ (by simp) rfl))) (fk_seneschallaw15_world_4 _ _ uZ) ?_
                exact tell hK hF hS (by decide) ⟨Gs.stepA hG rfl rfl, ⟨hO.1, hO.2.1, hO.2.2.1, hO.2.2.2.1, hO.2.2.2.2.1, hO.2.2.2.2.2.1, hO.2.2.2.2.2.2.1, hO.2.2.2.2.2.2.2.1, hO.2.2.2.2.2.2.2.2.1, hO.2.2.2.2.2.2.2.2.2.1, hO.2.2.2.2.2.2.2.2.2.2.1, trivial⟩, hC⟩
              · cases ho
                refine op_plain rfl rfl (fun K hK => ?_)
                have n24 : fZ 24 = false := Os.not (hO.2.2.2.2.2.2.2.2.1) hfi
                have y18 : fZ 18 = true := hdep ⟨18, .chain⟩ (by simp) rfl
                have y8 : fZ 8 = true := hdep ⟨8, .data⟩ (by simp) rfl
                have hC2 := hC
                rw [y18, hfi, n24] at hC2
                obtain ⟨hr, hC3⟩ := hC2.st21 hQ.cw hQ.ok.w1.2 hw1 hw2 y8
                refine wp_store rfl ((hV 72 (by decide)).trans (hG.2.2.2.2.2.2.2.2.2.2.2.2.2.2.2.2.1 (hdep ⟨20, .data⟩ (by simp) rfl))) (hV 60 (by decide)) hr ?_
                exact tell0 hK hF ⟨Gs.idle rfl hG, ⟨hO.1, hO.2.1, hO.2.2.1, hO.2.2.2.1, hO.2.2.2.2.1, hO.2.2.2.2.2.1, fun _ => hdep ⟨18, .chain⟩ (by simp) rfl, fun _ => hdep ⟨8, .data⟩ (by simp) rfl, fun _ => rfl, hO.2.2.2.2.2.2.2.2.2.1, hO.2.2.2.2.2.2.2.2.2.2.1, trivial⟩, (by simpa [updF, updT, y18, n24] using hC3)⟩
              · cases ho
                refine op_plain rfl rfl (fun K hK => ?_)
                refine wp_nil rfl ((hV 53 (by decide)).trans (hG.2.1 (hdep ⟨1, .data⟩ (by simp) rfl))) ?_
                exact tell hK hF hS (by decide) ⟨Gs.stepA hG rfl rfl, ⟨hO.1, hO.2.1, hO.2.2.1, hO.2.2.2.1, hO.2.2.2.2.1, hO.2.2.2.2.2.1, hO.2.2.2.2.2.2.1, hO.2.2.2.2.2.2.2.1, hO.2.2.2.2.2.2.2.2.1, hO.2.2.2.2.2.2.2.2.2.1, hO.2.2.2.2.2.2.2.2.2.2.1, trivial⟩, hC⟩
              · cases ho
                refine op_plain rfl rfl (fun K hK => ?_)
                refine wp_field rfl ((hV 73 (by decide)).trans (hG.2.2.2.2.2.2.2.2.2.2.2.2.2.2.2.2.2.1 (hdep ⟨22, .data⟩ (by simp) rfl))) (fk_seneschallaw15_world_5 _ _ uZ) ?_
                exact tell hK hF hS (by decide) ⟨Gs.stepA hG rfl rfl, ⟨hO.1, hO.2.1, hO.2.2.1, hO.2.2.2.1, hO.2.2.2.2.1, hO.2.2.2.2.2.1, hO.2.2.2.2.2.2.1, hO.2.2.2.2.2.2.2.1, hO.2.2.2.2.2.2.2.2.1, hO.2.2.2.2.2.2.2.2.2.1, hO.2.2.2.2.2.2.2.2.2.2.1, trivial⟩, hC⟩
              · cases ho
                refine op_plain rfl rfl (fun K hK => ?_)
                have y21 : fZ 21 = true := hdep ⟨21, .chain⟩ (by simp) rfl
                have y18 : fZ 18 = true := hdep ⟨18, .data⟩ (by simp) rfl
                have y8 : fZ 8 = true := hdep ⟨8, .phase⟩ (by simp) rfl
                have hC2 := hC
                rw [y21, hfi] at hC2
                obtain ⟨hr, hC3⟩ := hC2.st24 hQ.ok.w1.2 hw1 hw2 y8 y18
                refine wp_store rfl ((hV 74 (by decide)).trans (hG.2.2.2.2.2.2.2.2.2.2.2.2.2.2.2.2.2.2.1 (hdep ⟨23, .data⟩ (by simp) rfl))) (hV 70 (by decide)) hr ?_
                exact tell0 hK hF ⟨Gs.idle rfl hG, ⟨hO.1, hO.2.1, hO.2.2.1, hO.2.2.2.1, hO.2.2.2.2.1, hO.2.2.2.2.2.1, hO.2.2.2.2.2.2.1, hO.2.2.2.2.2.2.2.1, fun _ => hdep ⟨21, .chain⟩ (by simp) rfl, fun _ => hdep ⟨18, .data⟩ (by simp) rfl, fun _ => hdep ⟨8, .phase⟩ (by simp) rfl, trivial⟩, (by simpa [updF, updT, y21] using hC3)⟩
            · rintro fZ tZ uZ ⟨hG, hO, hC⟩ hall
              obtain ⟨e52, e53, e54, e55, e56, e57, e58, e61, e62, e63, e64, e65, e66, e67, e68, e71, e72, e73, e74, -⟩ := Gs.all 25 hall hG rfl
              have hC2 := hC
              rw [hall 24 (by decide)] at hC2
              obtain ⟨tb', mb', vt', vm', hQ', hsep⟩ := hC2.last hQ rfl rfl rfl
              have hEx := (hC2.a4 rfl).1
              have hGz : ∀ j, Gd j → uZ.heap[j]? = u0.heap[j]? := fun j hj => by
                have hjl : j < wr.heap.size := by have := (eGd j).1 hj; omega
                refine (hEx.block j hjl fun ha => ?_).trans (hGh j hj)
                rcases ha with (⟨a1, a2⟩ | ⟨a1, a2⟩) | a1
                · exact (hG2 j hj).1 a1 a2
                · exact (hG2 j hj).2 a1 a2
                · exact ((eGd j).1 hj).2.1.1 a1
              have hBl : Below p.lo wr uZ := hEx.bel (fun j hj => by
                rcases hj with (⟨a1, rfl⟩ | ⟨a1, rfl⟩) | rfl
                · exact (hQ.ot.lt a1).1
                · exact (hQ.om.lt a1).1
                · exact hQ.ok.w1.1) hlo
              have hz0 := hEx.size
              simp only [ovr, List.set_cons_zero, List.set_cons_succ, e52, e53, e54, e55, e56, e57, e58, e61, e62, e63, e64, e65, e66, e67, e68, e71, e72, e73, e74]
              clear hG hO hC hC2 hall
              have ek := wr64 (n := ((bad + 1 + j : Nat) : Int) + 1) (by omega)
              go_wp2
              refine ⟨⟨j + 1, by omega, by simp; omega, ⟨tb', mb', vt', vm', ?_, fun i hi => ⟨fun _ => (hsep i (by have := (eGd i).1 hi; omega) (hG2 i hi).1 (hG2 i hi).2).1, fun _ => (hsep i (by have := (eGd i).1 hi; omega) (hG2 i hi).1 (hG2 i hi).2).2⟩⟩, hGz, hBw.trans hBl, by omega⟩, by simp [intOf]; omega⟩
              have ew : ({ W1 with wait := (W1.wait ++ (List.range j).map fun i => (bad + 1 + i, m)) ++ [(bad + 1 + j, m)] } : Wd) = { W1 with wait := W1.wait ++ (List.range (j + 1)).map fun i => (bad + 1 + i, m) } := by rw [List.range_succ, List.map_append, List.append_assoc]; rfl
              rw [eWj] at hQ'
              exact ew ▸ hQ'
          · obtain rfl : j = n - bad := by omega
            have hjc : ¬ ((bad + 1 + (n - bad) : Nat) : Int) ≤ (n : Int) := by omega
            go_wp2
            exact ⟨.inr ⟨rfl, hall _ ⟨tb, mb, vt, vm, hQ⟩, hBz.trans hBw, hGh⟩, by simp [intOf]⟩
      · have hκ : 1 < m.1 := by omega
        have ew1 := wr64 (n := 2 * m.2.1) (by omega)
        have ew2 := wr64 (n := 2 * m.2.1 + m.1) (by omega)
        have ew3 := wr64 (n := 2 * m.2.1 + m.1 - 2) (by omega)
        have hj0 : 0 ≤ 2 * m.2.1 + m.1 - 2 := by omega
        have hj1 : 2 * m.2.1 + m.1 - 2 < ((2 * n + 2 : Nat) : Int) := by omega
        have hj2 : (2 * m.2.1 + m.1 - 2).toNat < 2 * n + 2 := by omega
        have hsr := hQ0.sr (2 * m.2.1 + m.1 - 2).toNat hj2
        have s0 := hsr.1
        have sf := hsr.2
        have hs9 := hsn hκ
        have ew4 := wr64 (n := W.sent (2 * m.2.1 + m.1 - 2).toNat + 1) (by omega)
        have hQ1' : WQ p t bad n tb mb vt vm (u0.setCell ⟨p.sb, (2 * m.2.1 + m.1 - 2).toNat, none⟩ (.int .i64 (W.sent (2 * m.2.1 + m.1 - 2).toNat + 1))).drew W1 := by
          rw [eW1.out, sentN_two hκ]; exact hQ0.sent hj2 _ hss1 hss2
        have hGu1 : ∀ k, Gd k → (u0.setCell ⟨p.sb, (2 * m.2.1 + m.1 - 2).toNat, none⟩ (.int .i64 (W.sent (2 * m.2.1 + m.1 - 2).toNat + 1))).drew.heap[k]? = u0.heap[k]? := fun k hk => Below.heap_setCell _ _ _ _ ((eGd k).1 hk).2.1.2.2.1
        have hBz1 : Below p.lo u0 (u0.setCell ⟨p.sb, (2 * m.2.1 + m.1 - 2).toNat, none⟩ (.int .i64 (W.sent (2 * m.2.1 + m.1 - 2).toNat + 1))).drew := ((Below.refl p.lo u0).setCell (p := ⟨p.sb, _, none⟩) hQ0.ok.s1.1 _).drew
        go_upto_region 4 with fail
        go_region
        go_upto_region 5 with fail
        obtain ⟨u1, eu1⟩ : ∃ u1, Hid (u1 = (u0.setCell ⟨p.sb, (2 * m.2.1 + m.1 - 2).toNat, none⟩ (.int .i64 (W.sent (2 * m.2.1 + m.1 - 2).toNat + 1))).drew) := ⟨_, rfl⟩
        rw [← eu1.out] at hQ1' hGu1 hBz1 ⊢
        have hQ1 := hQ1'
        have hGu := hGu1
        have hBz := hBz1
        have hz1 := hBz.size
        clear c0 c2 c6 l0 l1 hc hQ1' hQ0 hlb s0 sf hsr ew1 ew2 ew3 ew4 hGu1 hBz1
        have d0 := (hQ1.cw 0 _ rfl).1
        have d2 := (hQ1.cw 2 _ rfl).1
        have eb := wr64 (n := (bad : Int) + 1) (by omega)
        have hlo1 : p.lo ≤ u1.heap.size := Nat.le_trans hlo hz1
        go_wp2_with fail
        go_loopw [5] (fun s5 wr => ∃ j : Nat, j ≤ n - bad ∧ s5 = .int .i64 ((bad + 1 + j : Nat) : Int) ∧ (∃ tb mb vt vm, WQ p t bad n tb mb vt vm wr { W1 with wait := W1.wait ++ (List.range j).map fun i => (bad + 1 + i, m) } ∧ ∀ k, Gd k → (vt ≠ nilS → k ≠ tb) ∧ (vm ≠ nilS → k ≠ mb)) ∧ (∀ k, Gd k → wr.heap[k]? = u0.heap[k]?) ∧ Below p.lo u1 wr ∧ u1.heap.size ≤ wr.heap.size) (fun s5 _ => n + 1 - (intOf s5).toNat)
        case atStart => exact ⟨0, by omega, by congr 1, ⟨tb, mb, vt, vm, by simpa using hQ1, fun k hk => ((eGd k).1 hk).2.2⟩, hGu, Below.refl _ _, Nat.le_refl _⟩
        case round =>
          obtain ⟨j, hj, rfl, ⟨tb, mb, vt, vm, hQ, hG2⟩, hGh, hBw, hz⟩ := hrel
          have hs1 := (hG2 lb hGlb).1
          have hs2 := (hG2 lb hGlb).2
          have hlb : CV wr lb (mC m) := fun i v hi => by
            have e := hGh lb hGlb
            rw [World.cell?_of_block (w := u0) (a := ⟨lb, i, none⟩) e, World.frozen?_of_block (w := u0) (a := ⟨lb, i, none⟩) e]; exact hlb0 i v hi
          have hc := hQ.cw
          have c0 := (hc 0 _ rfl).1
          by_cases hjn : j < n - bad
          · have hjc : ((bad + 1 + j : Nat) : Int) ≤ (n : Int) := by omega
            obtain ⟨Wj, eWj⟩ : ∃ Wj : Wd, Wj = { W1 with wait := W1.wait ++ (List.range j).map fun i => (bad + 1 + i, m) } := ⟨_, rfl⟩
            rw [← eWj] at hQ
            have hWl : Wj.wait.length ≤ 1000 := by rw [eWj]; simp; omega
            have hlo : p.lo ≤ wr.heap.size := Nat.le_trans hlo1 hz
            obtain ⟨slt, ct, evt, _⟩ := hQ.ot.sl
            obtain ⟨slm, cm, evm, _⟩ := hQ.om.sl
            have hwt : ¬ (vt ≠ nilS ∧ p.wb = tb) := fun h => (hQ.dt h.1).1 h.2.symm
            have htl : vt ≠ nilS → tb < wr.heap.size := fun h => (hQ.ot.lt h).2
            have hml : vm ≠ nilS → mb < wr.heap.size := fun h => (hQ.om.lt h).2
            have htm := hQ.tm
            have hQt := hQ.ot
            have hQm := hQ.om
            have hw1 : vt ≠ nilS → p.wb ≠ tb := fun h e => (hQ.dt h).1 e.symm
            have hw2 : vm ≠ nilS → p.wb ≠ mb := fun h e => (hQ.dm h).1 e.symm
            have hlb1 := hlb.lt (by simp)
            have hlt : ¬ (vt ≠ nilS ∧ lb = tb) := fun h => hs1 h.1 h.2
            have hL := hWl
            clear d0 d2 hc
            go_upto_region 8 with fail
            refine region_drawn [52, 53, 54, 55, 56, 57, 58, 59, 60, 61, 62, 63, 64, 65, 66, 67, 68, 69, 70, 71, 72, 73, 74] (fun fZ tZ uZ => Gs fZ tZ [(0, 52, .pointer (some ⟨p.wb, 0, none⟩)), (1, 53, .pointer (some ⟨p.wb, 0, none⟩)), (2, 54, .pointer (some ⟨p.wb, 0, none⟩)), (3, 55, .pointer (some ⟨p.wb, 0, none⟩)), (4, 56, .pointer (some ⟨p.wb, 4, none⟩)), (5, 57, vt), (6, 58, .int .i64 ((bad + 1 + j : Nat) : Int)), (9, 61, .pointer (some ⟨p.wb, 0, none⟩)), (10, 62, .pointer (some ⟨p.wb, 0, none⟩)), (11, 63, .pointer (some ⟨p.wb, 5, none⟩)), (12, 64, vm), (13, 65, .slice (some ⟨lb, 0, none⟩) 1 1), (14, 66, .int .i64 0), (15, 67, .pointer (some ⟨lb, 0, none⟩)), (16, 68, .agg #[.int .i64 m.1, .int .i64 m.2.1, .string m.2.2]), (19, 71, .pointer (some ⟨p.wb, 0, none⟩)), (20, 72, .pointer (some ⟨p.wb, 4, none⟩)), (22, 73, .pointer (some ⟨p.wb, 0, none⟩)), (23, 74, .pointer (some ⟨p.wb, 5, none⟩))] ∧ Os fZ [(8, 5), (8, 7), (18, 8), (18, 12), (18, 17), (17, 16), (21, 18), (21, 8), (24, 21), (24, 18), (24, 8)] ∧ CA p tb mb vt vm (Wj.wait.map fun q => Value.int .i64 (q.1 : Int)) (Wj.wait.flatMap fun q => mC q.2) (bad + 1 + j) m Wj.wait.length wr (fZ 7) (fZ 8) (fZ 17) (fZ 18) (fZ 21) (fZ 24) (tZ 59) (tZ 60) (tZ 69) (tZ 70) uZ (wC n t bad p.nb p.cn p.sb)) (by kernel_rfl) (by kernel_rfl) ?_ ?_ ?_
            · exact ⟨Gs.none _ _, Os.none _, ⟨Nat.le_refl _, fun _ => (bself wr).drew, nofun, nofun, nofun, nofun, nofun, nofun⟩⟩
            · rintro fZ tZ uZ iZ oZ aZ hF ⟨hG, hO, hC⟩ ho hfi hdep
              have hS : [52, 53, 54, 55, 56, 57, 58, 59, 60, 61, 62, 63, 64, 65, 66, 67, 68, 69, 70, 71, 72, 73, 74].Nodup := by decide
              have hV := hF.evs (N := 75) (by decide) rfl (by decide)
              have il : iZ < 25 := (Array.getElem?_eq_some_iff.1 ho).1
              have ix : iZ = 0 ∨ iZ = 1 ∨ iZ = 2 ∨ iZ = 3 ∨ iZ = 4 ∨ iZ = 5 ∨ iZ = 6 ∨ iZ = 7 ∨ iZ = 8 ∨ iZ = 9 ∨ iZ = 10 ∨ iZ = 11 ∨ iZ = 12 ∨ iZ = 13 ∨ iZ = 14 ∨ iZ = 15 ∨ iZ = 16 ∨ iZ = 17 ∨ iZ = 18 ∨ iZ = 19 ∨ iZ = 20 ∨ iZ = 21 ∨ iZ = 22 ∨ iZ = 23 ∨ iZ = 24 := by omega
              rcases ix with rfl | rfl | rfl | rfl | rfl | rfl | rfl | rfl | rfl | rfl | rfl | rfl | rfl | rfl | rfl | rfl | rfl | rfl | rfl | rfl | rfl | rfl | rfl | rfl | rfl
              · cases ho
                refine op_plain rfl rfl (fun K hK => ?_)
                refine wp_move rfl ((hF.out 0 (by decide)).trans rfl) ?_
                exact tell hK hF hS (by decide) ⟨Gs.stepA hG rfl rfl, ⟨hO.1, hO.2.1, hO.2.2.1, hO.2.2.2.1, hO.2.2.2.2.1, hO.2.2.2.2.2.1, hO.2.2.2.2.2.2.1, hO.2.2.2.2.2.2.2.1, hO.2.2.2.2.2.2.2.2.1, hO.2.2.2.2.2.2.2.2.2.1, hO.2.2.2.2.2.2.2.2.2.2.1, trivial⟩, hC⟩
              · cases ho
                refine op_plain rfl rfl (fun K hK => ?_)
                refine wp_move rfl ((hF.out 0 (by decide)).trans rfl) ?_
                exact tell hK hF hS (by decide) ⟨Gs.stepA hG rfl rfl, ⟨hO.1, hO.2.1, hO.2.2.1, hO.2.2.2.1, hO.2.2.2.2.1, hO.2.2.2.2.2.1, hO.2.2.2.2.2.2.1, hO.2.2.2.2.2.2.2.1, hO.2.2.2.2.2.2.2.2.1, hO.2.2.2.2.2.2.2.2.2.1, hO.2.2.2.2.2.2.2.2.2.2.1, trivial⟩, hC⟩
              · cases ho
                refine op_plain rfl rfl (fun K hK => ?_)
                refine wp_move rfl ((hF.out 0 (by decide)).trans rfl) ?_
                exact tell hK hF hS (by decide) ⟨Gs.stepA hG rfl rfl, ⟨hO.1, hO.2.1, hO.2.2.1, hO.2.2.2.1, hO.2.2.2.2.1, hO.2.2.2.2.2.1, hO.2.2.2.2.2.2.1, hO.2.2.2.2.2.2.2.1, hO.2.2.2.2.2.2.2.2.1, hO.2.2.2.2.2.2.2.2.2.1, hO.2.2.2.2.2.2.2.2.2.2.1, trivial⟩, hC⟩
              · cases ho
                refine op_plain rfl rfl (fun K hK => ?_)
                refine wp_nil rfl ((hV 54 (by decide)).trans (hG.2.2.1 (hdep ⟨2, .data⟩ (by simp) rfl))) ?_
                exact tell hK hF hS (by decide) ⟨Gs.stepA hG rfl rfl, ⟨hO.1, hO.2.1, hO.2.2.1, hO.2.2.2.1, hO.2.2.2.2.1, hO.2.2.2.2.2.1, hO.2.2.2.2.2.2.1, hO.2.2.2.2.2.2.2.1, hO.2.2.2.2.2.2.2.2.1, hO.2.2.2.2.2.2.2.2.2.1, hO.2.2.2.2.2.2.2.2.2.2.1, trivial⟩, hC⟩
              · cases ho
                refine op_plain rfl rfl (fun K hK => ?_)
                refine wp_field rfl ((hV 55 (by decide)).trans (hG.2.2.2.1 (hdep ⟨3, .data⟩ (by simp) rfl))) (fk_seneschallaw15_world_4 _ _ uZ) ?_
                exact tell hK hF hS (by decide) ⟨Gs.stepA hG rfl rfl, ⟨hO.1, hO.2.1, hO.2.2.1, hO.2.2.2.1, hO.2.2.2.2.1, hO.2.2.2.2.2.1, hO.2.2.2.2.2.2.1, hO.2.2.2.2.2.2.2.1, hO.2.2.2.2.2.2.2.2.1, hO.2.2.2.2.2.2.2.2.2.1, hO.2.2.2.2.2.2.2.2.2.2.1, trivial⟩, hC⟩
              · cases ho
                refine op_plain rfl rfl (fun K hK => ?_)
                have n8 : fZ 8 = false := Os.not (hO.1) hfi
                have n18 : fZ 18 = false := Os.not (hO.2.2.1) n8
                have hC2 := hC
                rw [n18] at hC2
                refine wp_load rfl ((hV 56 (by decide)).trans (hG.2.2.2.2.1 (hdep ⟨4, .data⟩ (by simp) rfl))) (lSiv uZ evt ((hQ.cw.ex hC2.early hQ.ok.w1.2 hwt) 4 _ rfl).1) ?_
                exact tell hK hF hS (by decide) ⟨Gs.stepA hG rfl rfl, ⟨fun _ => rfl, hO.2.1, hO.2.2.1, hO.2.2.2.1, hO.2.2.2.2.1, hO.2.2.2.2.2.1, hO.2.2.2.2.2.2.1, hO.2.2.2.2.2.2.2.1, hO.2.2.2.2.2.2.2.2.1, hO.2.2.2.2.2.2.2.2.2.1, hO.2.2.2.2.2.2.2.2.2.2.1, trivial⟩, hC⟩
              · cases ho
                refine op_plain rfl rfl (fun K hK => ?_)
                refine wp_move rfl ((hF.out 5 (by decide)).trans rfl) ?_
                exact tell hK hF hS (by decide) ⟨Gs.stepA hG rfl rfl, ⟨hO.1, hO.2.1, hO.2.2.1, hO.2.2.2.1, hO.2.2.2.2.1, hO.2.2.2.2.2.1, hO.2.2.2.2.2.2.1, hO.2.2.2.2.2.2.2.1, hO.2.2.2.2.2.2.2.2.1, hO.2.2.2.2.2.2.2.2.2.1, hO.2.2.2.2.2.2.2.2.2.2.1, trivial⟩, hC⟩
              · cases ho
                refine op_plain rfl rfl (fun K hK => ?_)
                have n8 : fZ 8 = false := Os.not (hO.2.1) hfi
                have n18 : fZ 18 = false := Os.not (hO.2.2.1) n8
                have n21 : fZ 21 = false := Os.not (hO.2.2.2.2.2.2.1) n18
                have n24 : fZ 24 = false := Os.not (hO.2.2.2.2.2.2.2.2.1) n21
                have hC2 := hC
                rw [n8, n18, n21, n24] at hC2
                have hC3 := hC2.grow7 3
                refine wp_bS (xs := [(0, .tmp 58)]) rfl (vs := [.int .i64 ((bad + 1 + j : Nat) : Int)]) (by show [aZ.eval (.tmp 58)] = _; rw [((hV 58 (by decide)).trans (hG.2.2.2.2.2.2.1 (hdep ⟨6, .data⟩ (by simp) rfl)))]) (bS1i _ uZ) ?_
                exact tell hK hF hS (by decide) ⟨Gs.other rfl hG, ⟨hO.1, fun _ => rfl, hO.2.2.1, hO.2.2.2.1, hO.2.2.2.2.1, hO.2.2.2.2.2.1, hO.2.2.2.2.2.2.1, hO.2.2.2.2.2.2.2.1, hO.2.2.2.2.2.2.2.2.1, hO.2.2.2.2.2.2.2.2.2.1, hO.2.2.2.2.2.2.2.2.2.2.1, trivial⟩, (by simpa [updF, updT, n8, n18, n21, n24] using hC3)⟩
              · cases ho
                refine op_plain rfl rfl (fun K hK => ?_)
                have n18 : fZ 18 = false := Os.not (hO.2.2.1) hfi
                have n21 : fZ 21 = false := Os.not (hO.2.2.2.2.2.2.1) n18
                have n24 : fZ 24 = false := Os.not (hO.2.2.2.2.2.2.2.2.1) n21
                have y7 : fZ 7 = true := hdep ⟨7, .data⟩ (by simp) rfl
                have hC2 := hC
                rw [y7, hfi, n18, n21, n24] at hC2
                obtain ⟨v, u', hr, hC3⟩ := hC2.app8 htl hlo hL hQt
                refine wp_app rfl ((hV 57 (by decide)).trans (hG.2.2.2.2.2.1 (hdep ⟨5, .data⟩ (by simp) rfl))) (hV 59 (by decide)) hr ?_
                exact tell hK hF hS (by decide) ⟨Gs.other rfl hG, ⟨fun _ => hdep ⟨5, .data⟩ (by simp) rfl, fun _ => hdep ⟨7, .data⟩ (by simp) rfl, fun _ => rfl, hO.2.2.2.1, hO.2.2.2.2.1, hO.2.2.2.2.2.1, hO.2.2.2.2.2.2.1, fun _ => rfl, hO.2.2.2.2.2.2.2.2.1, hO.2.2.2.2.2.2.2.2.2.1, fun _ => rfl, trivial⟩, (by simpa [updF, updT, y7, n18, n21, n24] using hC3)⟩
              · cases ho
                refine op_plain rfl rfl (fun K hK => ?_)
                refine wp_move rfl ((hF.out 0 (by decide)).trans rfl) ?_
                exact tell hK hF hS (by decide) ⟨Gs.stepA hG rfl rfl, ⟨hO.1, hO.2.1, hO.2.2.1, hO.2.2.2.1, hO.2.2.2.2.1, hO.2.2.2.2.2.1, hO.2.2.2.2.2.2.1, hO.2.2.2.2.2.2.2.1, hO.2.2.2.2.2.2.2.2.1, hO.2.2.2.2.2.2.2.2.2.1, hO.2.2.2.2.2.2.2.2.2.2.1, trivial⟩, hC⟩
              · cases ho
                refine op_plain rfl rfl (fun K hK => ?_)
                refine wp_nil rfl ((hV 61 (by decide)).trans (hG.2.2.2.2.2.2.2.1 (hdep ⟨9, .data⟩ (by simp) rfl))) ?_
                exact tell hK hF hS (by decide) ⟨Gs.stepA hG rfl rfl, ⟨hO.1, hO.2.1, hO.2.2.1, hO.2.2.2.1, hO.2.2.2.2.1, hO.2.2.2.2.2.1, hO.2.2.2.2.2.2.1, hO.2.2.2.2.2.2.2.1, hO.2.2.2.2.2.2.2.2.1, hO.2.2.2.2.2.2.2.2.2.1, hO.2.2.2.2.2.2.2.2.2.2.1, trivial⟩, hC⟩
              · cases ho
                refine op_plain rfl rfl (fun K hK => ?_)
                refine wp_field rfl ((hV 62 (by decide)).trans (hG.2.2.2.2.2.2.2.2.1 (hdep ⟨10, .data⟩ (by simp) rfl))) (fk_seneschallaw15_world_5 _ _ uZ) ?_
                exact tell hK hF hS (by decide) ⟨Gs.stepA hG rfl rfl, ⟨hO.1, hO.2.1, hO.2.2.1, hO.2.2.2.1, hO.2.2.2.2.1, hO.2.2.2.2.2.1, hO.2.2.2.2.2.2.1, hO.2.2.2.2.2.2.2.1, hO.2.2.2.2.2.2.2.2.1, hO.2.2.2.2.2.2.2.2.2.1, hO.2.2.2.2.2.2.2.2.2.2.1, trivial⟩, hC⟩
              · cases ho
                refine op_plain rfl rfl (fun K hK => ?_)
                have n18 : fZ 18 = false := Os.not (hO.2.2.2.1) hfi
                have hC2 := hC
                rw [n18] at hC2
                refine wp_load rfl ((hV 63 (by decide)).trans (hG.2.2.2.2.2.2.2.2.2.1 (hdep ⟨11, .data⟩ (by simp) rfl))) (lSmv uZ evm ((hQ.cw.ex hC2.early hQ.ok.w1.2 hwt) 5 _ rfl).1) ?_
                exact tell hK hF hS (by decide) ⟨Gs.stepA hG rfl rfl, ⟨hO.1, hO.2.1, hO.2.2.1, fun _ => rfl, hO.2.2.2.2.1, hO.2.2.2.2.2.1, hO.2.2.2.2.2.2.1, hO.2.2.2.2.2.2.2.1, hO.2.2.2.2.2.2.2.2.1, hO.2.2.2.2.2.2.2.2.2.1, hO.2.2.2.2.2.2.2.2.2.2.1, trivial⟩, hC⟩
              · cases ho
                refine op_plain rfl rfl (fun K hK => ?_)
                refine wp_move rfl ((hF.out 1 (by decide)).trans rfl) ?_
                exact tell hK hF hS (by decide) ⟨Gs.stepA hG rfl rfl, ⟨hO.1, hO.2.1, hO.2.2.1, hO.2.2.2.1, hO.2.2.2.2.1, hO.2.2.2.2.2.1, hO.2.2.2.2.2.2.1, hO.2.2.2.2.2.2.2.1, hO.2.2.2.2.2.2.2.2.1, hO.2.2.2.2.2.2.2.2.2.1, hO.2.2.2.2.2.2.2.2.2.2.1, trivial⟩, hC⟩
              · cases ho
                refine op_plain rfl rfl (fun K hK => ?_)
                refine wp_move rfl ((hF.out 4 (by decide)).trans rfl) ?_
                exact tell hK hF hS (by decide) ⟨Gs.stepA hG rfl rfl, ⟨hO.1, hO.2.1, hO.2.2.1, hO.2.2.2.1, hO.2.2.2.2.1, hO.2.2.2.2.2.1, hO.2.2.2.2.2.2.1, hO.2.2.2.2.2.2.2.1, hO.2.2.2.2.2.2.2.2.1, hO.2.2.2.2.2.2.2.2.2.1, hO.2.2.2.2.2.2.2.2.2.2.1, trivial⟩, hC⟩
              · cases ho
                refine op_plain rfl rfl (fun K hK => ?_)
                refine wp_index rfl ((hV 65 (by decide)).trans (hG.2.2.2.2.2.2.2.2.2.2.2.1 (hdep ⟨13, .data⟩ (by simp) rfl))) ((hV 66 (by decide)).trans (hG.2.2.2.2.2.2.2.2.2.2.2.2.1 (hdep ⟨14, .data⟩ (by simp) rfl))) (ixM0 lb uZ) ?_
                exact tell hK hF hS (by decide) ⟨Gs.stepA hG rfl rfl, ⟨hO.1, hO.2.1, hO.2.2.1, hO.2.2.2.1, hO.2.2.2.2.1, hO.2.2.2.2.2.1, hO.2.2.2.2.2.2.1, hO.2.2.2.2.2.2.2.1, hO.2.2.2.2.2.2.2.2.1, hO.2.2.2.2.2.2.2.2.2.1, hO.2.2.2.2.2.2.2.2.2.2.1, trivial⟩, hC⟩
              · cases ho
                refine op_plain rfl rfl (fun K hK => ?_)
                have n17 : fZ 17 = false := Os.not (hO.2.2.2.2.2.1) hfi
                have n18 : fZ 18 = false := Os.not (hO.2.2.2.2.1) n17
                have hC2 := hC
                rw [n18] at hC2
                refine wp_load_mid 32 _ rfl lb 0 ((hV 67 (by decide)).trans (hG.2.2.2.2.2.2.2.2.2.2.2.2.2.1 (hdep ⟨15, .data⟩ (by simp) rfl))) (mC m) _ (CV.range (hlb.ex hC2.early hlb1 hlt)) Try.underlying32 rfl info_cast_Message ?_
                exact tell hK hF hS (by decide) ⟨Gs.stepA hG rfl rfl, ⟨hO.1, hO.2.1, hO.2.2.1, hO.2.2.2.1, hO.2.2.2.2.1, fun _ => rfl, hO.2.2.2.2.2.2.1, hO.2.2.2.2.2.2.2.1, hO.2.2.2.2.2.2.2.2.1, hO.2.2.2.2.2.2.2.2.2.1, hO.2.2.2.2.2.2.2.2.2.2.1, trivial⟩, hC⟩
              · cases ho
                refine op_plain rfl rfl (fun K hK => ?_)
                have n18 : fZ 18 = false := Os.not (hO.2.2.2.2.1) hfi
                have n21 : fZ 21 = false := Os.not (hO.2.2.2.2.2.2.1) n18
                have n24 : fZ 24 = false := Os.not (hO.2.2.2.2.2.2.2.2.1) n21
                have hC2 := hC
                rw [n18, n21, n24] at hC2
                have hC3 := hC2.grow17 htl 32
                refine wp_bS (xs := [(0, .tmp 68)]) rfl (vs := [MX m.1 m.2.1 m.2.2]) (by show [aZ.eval (.tmp 68)] = _; rw [((hV 68 (by decide)).trans (hG.2.2.2.2.2.2.2.2.2.2.2.2.2.2.1 (hdep ⟨16, .data⟩ (by simp) rfl)))]) (bS1m m uZ) ?_
                exact tell hK hF hS (by decide) ⟨Gs.other rfl hG, ⟨hO.1, hO.2.1, hO.2.2.1, hO.2.2.2.1, fun _ => rfl, fun _ => hdep ⟨16, .data⟩ (by simp) rfl, hO.2.2.2.2.2.2.1, hO.2.2.2.2.2.2.2.1, hO.2.2.2.2.2.2.2.2.1, hO.2.2.2.2.2.2.2.2.2.1, hO.2.2.2.2.2.2.2.2.2.2.1, trivial⟩, (by simpa [updF, updT, n18, n21, n24] using hC3)⟩
              · cases ho
                refine op_plain rfl rfl (fun K hK => ?_)
                have n21 : fZ 21 = false := Os.not (hO.2.2.2.2.2.2.1) hfi
                have n24 : fZ 24 = false := Os.not (hO.2.2.2.2.2.2.2.2.1) n21
                have y17 : fZ 17 = true := hdep ⟨17, .data⟩ (by simp) rfl
                have y8 : fZ 8 = true := hdep ⟨8, .chain⟩ (by simp) rfl
                have hC2 := hC
                rw [y8, y17, hfi, n21, n24] at hC2
                obtain ⟨v, u', hr, hC3⟩ := hC2.app18 htl hml htm hlo hL hQm
                refine wp_app rfl ((hV 64 (by decide)).trans (hG.2.2.2.2.2.2.2.2.2.2.1 (hdep ⟨12, .data⟩ (by simp) rfl))) (hV 69 (by decide)) hr ?_
                exact tell hK hF hS (by decide) ⟨Gs.other rfl hG, ⟨hO.1, hO.2.1, fun _ => hdep ⟨8, .chain⟩ (by simp) rfl, fun _ => hdep ⟨12, .data⟩ (by simp) rfl, fun _ => hdep ⟨17, .data⟩ (by simp) rfl, hO.2.2.2.2.2.1, fun _ => rfl, hO.2.2.2.2.2.2.2.1, hO.2.2.2.2.2.2.2.2.1, fun _ => rfl, hO.2.2.2.2.2.2.2.2.2.2.1, trivial⟩, (by simpa [updF, updT, y8, y17, n21, n24] using hC3)⟩
              · cases ho
                refine op_plain rfl rfl (fun K hK => ?_)
                refine wp_nil rfl ((hV 52 (by decide)).trans (hG.1 (hdep ⟨0, .data⟩ (by simp) rfl))) ?_
                exact tell hK hF hS (by decide) ⟨Gs.stepA hG rfl rfl, ⟨hO.1, hO.2.1, hO.2.2.1, hO.2.2.2.1, hO.2.2.2.2.1, hO.2.2.2.2.2.1, hO.2.2.2.2.2.2.1, hO.2.2.2.2.2.2.2.1, hO.2.2.2.2.2.2.2.2.1, hO.2.2.2.2.2.2.2.2.2.1, hO.2.2.2.2.2.2.2.2.2.2.1, trivial⟩, hC⟩
              · cases ho
                refine op_plain rfl rfl (fun K hK => ?_)
                refine wp_field rfl ((hV 71 (by decide)).trans (hG.2.2.2.2.2.2.2.2.2.2.2.2.2.2.2.1 (hdep ⟨19, .data⟩ (by simp) rfl))) (fk_seneschallaw15_world_4 _ _ uZ) ?_
                exact tell hK hF hS (by decide) ⟨Gs.stepA hG rfl rfl, ⟨hO.1, hO.2.1, hO.2.2.1, hO.2.2.2.1, hO.2.2.2.2.1, hO.2.2.2.2.2.1, hO.2.2.2.2.2.2.1, hO.2.2.2.2.2.2.2.1, hO.2.2.2.2.2.2.2.2.1, hO.2.2.2.2.2.2.2.2.2.1, hO.2.2.2.2.2.2.2.2.2.2.1, trivial⟩, hC⟩
              · cases ho
                refine op_plain rfl rfl (fun K hK => ?_)
                have n24 : fZ 24 = false := Os.not (hO.2.2.2.2.2.2.2.2.1) hfi
                have y18 : fZ 18 = true := hdep ⟨18, .chain⟩ (by simp) rfl
                have y8 : fZ 8 = true := hdep ⟨8, .data⟩ (by simp) rfl
                have hC2 := hC
                rw [y18, hfi, n24] at hC2
                obtain ⟨hr, hC3⟩ := hC2.st21 hQ.cw hQ.ok.w1.2 hw1 hw2 y8
                refine wp_store rfl ((hV 72 (by decide)).trans (hG.2.2.2.2.2.2.2.2.2.2.2.2.2.2.2.2.1 (hdep ⟨20, .data⟩ (by simp) rfl))) (hV 60 (by decide)) hr ?_
                exact tell0 hK hF ⟨Gs.idle rfl hG, ⟨hO.1, hO.2.1, hO.2.2.1, hO.2.2.2.1, hO.2.2.2.2.1, hO.2.2.2.2.2.1, fun _ => hdep ⟨18, .chain⟩ (by simp) rfl, fun _ => hdep ⟨8, .data⟩ (by simp) rfl, fun _ => rfl, hO.2.2.2.2.2.2.2.2.2.1, hO.2.2.2.2.2.2.2.2.2.2.1, trivial⟩, (by simpa [updF, updT, y18, n24] using hC3)⟩
              · cases ho
                refine op_plain rfl rfl (fun K hK => ?_)
                refine wp_nil rfl ((hV 53 (by decide)).trans (hG.2.1 (hdep ⟨1, .data⟩ (by simp) rfl))) ?_
                exact tell hK hF hS (by decide) ⟨Gs.stepA hG rfl rfl, ⟨hO.1, hO.2.1, hO.2.2.1, hO.2.2.2.1, hO.2.2.2.2.1, hO.2.2.2.2.2.1, hO.2.2.2.2.2.2.1, hO.2.2.2.2.2.2.2.1, hO.2.2.2.2.2.2.2.2.1, hO.2.2.2.2.2.2.2.2.2.1, hO.2.2.2.2.2.2.2.2.2.2.1, trivial⟩, hC⟩
              · cases ho
                refine op_plain rfl rfl (fun K hK => ?_)
                refine wp_field rfl ((hV 73 (by decide)).trans (hG.2.2.2.2.2.2.2.2.2.2.2.2.2.2.2.2.2.1 (hdep ⟨22, .data⟩ (by simp) rfl))) (fk_seneschallaw15_world_5 _ _ uZ) ?_
                exact tell hK hF hS (by decide) ⟨Gs.stepA hG rfl rfl, ⟨hO.1, hO.2.1, hO.2.2.1, hO.2.2.2.1, hO.2.2.2.2.1, hO.2.2.2.2.2.1, hO.2.2.2.2.2.2.1, hO.2.2.2.2.2.2.2.1, hO.2.2.2.2.2.2.2.2.1, hO.2.2.2.2.2.2.2.2.2.1, hO.2.2.2.2.2.2.2.2.2.2.1, trivial⟩, hC⟩
              · cases ho
                refine op_plain rfl rfl (fun K hK => ?_)
                have y21 : fZ 21 = true := hdep ⟨21, .chain⟩ (by simp) rfl
                have y18 : fZ 18 = true := hdep ⟨18, .data⟩ (by simp) rfl
                have y8 : fZ 8 = true := hdep ⟨8, .phase⟩ (by simp) rfl
                have hC2 := hC
                rw [y21, hfi] at hC2
                obtain ⟨hr, hC3⟩ := hC2.st24 hQ.ok.w1.2 hw1 hw2 y8 y18
                refine wp_store rfl ((hV 74 (by decide)).trans (hG.2.2.2.2.2.2.2.2.2.2.2.2.2.2.2.2.2.2.1 (hdep ⟨23, .data⟩ (by simp) rfl))) (hV 70 (by decide)) hr ?_
                exact tell0 hK hF ⟨Gs.idle rfl hG, ⟨hO.1, hO.2.1, hO.2.2.1, hO.2.2.2.1, hO.2.2.2.2.1, hO.2.2.2.2.2.1, hO.2.2.2.2.2.2.1, hO.2.2.2.2.2.2.2.1, fun _ => hdep ⟨21, .chain⟩ (by simp) rfl, fun _ => hdep ⟨18, .data⟩ (by simp) rfl, fun _ => hdep ⟨8, .phase⟩ (by simp) rfl, trivial⟩, (by simpa [updF, updT, y21] using hC3)⟩
            · rintro fZ tZ uZ ⟨hG, hO, hC⟩ hall
              obtain ⟨e52, e53, e54, e55, e56, e57, e58, e61, e62, e63, e64, e65, e66, e67, e68, e71, e72, e73, e74, -⟩ := Gs.all 25 hall hG rfl
              have hC2 := hC
              rw [hall 24 (by decide)] at hC2
              obtain ⟨tb', mb', vt', vm', hQ', hsep⟩ := hC2.last hQ rfl rfl rfl
              have hEx := (hC2.a4 rfl).1
              have hGz : ∀ j, Gd j → uZ.heap[j]? = u0.heap[j]? := fun j hj => by
                have hjl : j < wr.heap.size := by have := (eGd j).1 hj; omega
                refine (hEx.block j hjl fun ha => ?_).trans (hGh j hj)
                rcases ha with (⟨a1, a2⟩ | ⟨a1, a2⟩) | a1
                · exact (hG2 j hj).1 a1 a2
                · exact (hG2 j hj).2 a1 a2
                · exact ((eGd j).1 hj).2.1.1 a1
              have hBl : Below p.lo wr uZ := hEx.bel (fun j hj => by
                rcases hj with (⟨a1, rfl⟩ | ⟨a1, rfl⟩) | rfl
                · exact (hQ.ot.lt a1).1
                · exact (hQ.om.lt a1).1
                · exact hQ.ok.w1.1) hlo
              have hz0 := hEx.size
              simp only [ovr, List.set_cons_zero, List.set_cons_succ, e52, e53, e54, e55, e56, e57, e58, e61, e62, e63, e64, e65, e66, e67, e68, e71, e72, e73, e74]
              clear hG hO hC hC2 hall
              have ek := wr64 (n := ((bad + 1 + j : Nat) : Int) + 1) (by omega)
              go_wp2
              refine ⟨⟨j + 1, by omega, by simp; omega, ⟨tb', mb', vt', vm', ?_, fun i hi => ⟨fun _ => (hsep i (by have := (eGd i).1 hi; omega) (hG2 i hi).1 (hG2 i hi).2).1, fun _ => (hsep i (by have := (eGd i).1 hi; omega) (hG2 i hi).1 (hG2 i hi).2).2⟩⟩, hGz, hBw.trans hBl, by omega⟩, by simp [intOf]; omega⟩
              have ew : ({ W1 with wait := (W1.wait ++ (List.range j).map fun i => (bad + 1 + i, m)) ++ [(bad + 1 + j, m)] } : Wd) = { W1 with wait := W1.wait ++ (List.range (j + 1)).map fun i => (bad + 1 + i, m) } := by rw [List.range_succ, List.map_append, List.append_assoc]; rfl
              rw [eWj] at hQ'
              exact ew ▸ hQ'
          · obtain rfl : j = n - bad := by omega
            have hjc : ¬ ((bad + 1 + (n - bad) : Nat) : Int) ≤ (n : Int) := by omega
            go_wp2
            exact ⟨.inr ⟨rfl, hall _ ⟨tb, mb, vt, vm, hQ⟩, hBz.trans hBw, hGh⟩, by simp [intOf]⟩
    · go_wp2
      refine bodyPost_end (v := .tuple #[]) (by simp [results, Try.results21, go_sem]) rfl ⟨rfl, hr1, hr2, fun k k1 k2 k3 k4 => hr3 k ((eGd k).2 ⟨k1, k2, k3, k4⟩)⟩
theorem cAll_none (wb : Nat) (u0 : World) : Calls Try.prog 21 #[pW wb, nilS] u0 fun e' u' => e' = .returned (.tuple #[]) ∧ u' = u0 := by
  go_enter Try.func21, Try.ntmps21
  go_wp2_with fail
  go_loopw [4] (fun s4 wr => s4 = .int .i64 0 ∧ wr = u0) (fun s4 _ => 1 - (intOf s4).toNat)
  case atStart => exact ⟨rfl, rfl⟩
  case round =>
    obtain ⟨rfl, hwr⟩ := hrel
    rw [hwr]
    go_wp2
    refine bodyPost_end (v := .tuple #[]) (by simp [results, Try.results21, go_sem]) rfl ⟨rfl, rfl⟩
end Go.Proofs.Ythncmahhnbpbkaa
