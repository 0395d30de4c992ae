/- Cast: what waits is handed on. -/
import Derived.Test.YthncmahhnbpbkaaKW5
namespace Go.Proofs.Ythncmahhnbpbkaa
open Go.RowKit
set_option linter.unusedVariables false
set_option linter.unusedSimpArgs false
set_option maxRecDepth 100000
/-- One of what waits was taken out. -/
theorem WQ.cut {p : Pl} {t bad n tb mb tb' mb' : Nat} {vt vm v60 v70 : Value} {u u4 : World} {W : Wd} {l : List (Nat × Mg)} (h : WQ p t bad n tb mb vt vm u W) (hk : Ex (fun j => j = p.wb) u u4) (hcw : CV u4 p.wb (wC n t bad p.nb p.cn p.sb v60 v70)) (h1 : OR p.lo 1 l.length (l.map fun q => Value.int .i64 (q.1 : Int)) tb' u4 v60) (h2 : OR p.lo 3 l.length (l.flatMap fun q => mC q.2) mb' u4 v70) (t1 : u.heap.size ≤ tb') (m1 : u.heap.size ≤ mb') (hne : tb' ≠ mb') : WQ p t bad n tb' mb' v60 v70 u4 { W with wait := l } := by
  have hs := hk.size
  have off : ∀ b, u.heap.size ≤ b → p.off n b := fun b hb => ⟨by have := h.ok.w1.2; omega, by have := h.ok.n1.2; omega, by have := h.ok.s1.2; omega, fun i i1 i2 => by have := (h.ok.b1 i i1 i2).2; omega⟩
  refine ⟨⟨⟨h.ok.w1.1, by have := h.ok.w1.2; omega⟩, ⟨h.ok.n1.1, by have := h.ok.n1.2; omega⟩, ⟨h.ok.s1.1, by have := h.ok.s1.2; omega⟩, fun j j1 j2 => ⟨(h.ok.b1 j j1 j2).1, by have := (h.ok.b1 j j1 j2).2; omega⟩, h.ok.d1, h.ok.d2, h.ok.d3, h.ok.c1⟩, hcw, fun j hj => ?_, fun j hj => ?_, h1, h2, fun j j1 j2 => (h.nm j j1 j2).ex hk fun k k1 k2 e => ?_, fun _ => off _ t1, fun _ => off _ m1, fun _ _ => hne⟩
  · rw [World.cell?_of_block (w := u) (hk.block _ h.ok.n1.2 fun e => h.ok.d1.1 e.symm)]; exact h.nr j hj
  · have e := hk.block _ h.ok.s1.2 fun e => h.ok.d1.2.1 e.symm
    rw [World.cell?_of_block (w := u) e, World.frozen?_of_block (w := u) e]; exact h.sr j hj
  · have := (h.ok.d2 j j1 j2).1; omega
set_option maxHeartbeats 8000000 in
theorem cHand_core (p : Pl) (t bad n dl : Nat) (vl : Option ByteArray) (W : Wd) (tb mb : Nat) (vt vm : Value) (u0 : World) (at' : Int) (hQ : WQ p t bad n tb mb vt vm u0 W) (hI : InvB t bad n dl vl W W.wait) (hb : bad ≤ t) (hn : bad ≤ n ∧ n ≤ 16) (hL0 : W.wait.length + (n - bad) ≤ 900) (hlo : p.lo ≤ u0.heap.size) (hne : 0 < W.wait.length) :
    Calls Try.prog 37 #[pW p.wb, .int .i64 at'] u0 fun e' u' => e' = .returned (.tuple #[]) ∧ ∃ W', WM p t bad n u' W' ∧ InvB t bad n dl vl W' W'.wait ∧ W'.pot bad n + 1 = W.pot bad n ∧ Below p.lo u0 u' := by
  obtain ⟨L, eL⟩ : ∃ L, Hid (W.wait.length = L) := ⟨_, rfl⟩
  have hL : L ≤ 1000 := by have := eL.out; omega
  have hL1 : 0 < L := by have := eL.out; omega
  have hot0 := hQ.ot
  have hom0 := hQ.om
  rw [eL.out] at hot0 hom0
  obtain ⟨slt, ct, evt, hct, ht2⟩ := hot0.sl
  obtain ⟨slm, cm, evm, hcm, hm2⟩ := hom0.sl
  obtain ⟨rfl, tlo, htb0, hct0⟩ := ht2 hL1
  obtain ⟨rfl, mlo, hmb0, hcm0⟩ := hm2 hL1
  subst evt
  subst evm
  have hc := hQ.cw
  have c4 := (hc 4 _ rfl).1
  have c5 := (hc 5 _ rfl).1
  have c3 := (hc 3 _ rfl).1
  have hA := fun w => cAmong at' L w (by omega)
  have hLz : ¬ ((L : Int) = 0) := by omega
  go_enter Try.func37, Try.ntmps37
  go_upto_region 2 with (first | (go_at_call 19; refine (hA _).mono ?_; rintro e w1 ⟨k, hkL, rfl, hw1⟩; rw [hw1]; clear hw1))
  have hkl : k < W.wait.length := by rw [eL.out]; exact hkL
  obtain ⟨q, hq⟩ : ∃ q, W.wait[k]? = some q := ⟨_, List.getElem?_eq_getElem hkl⟩
  have hto := hct0 k (.int .i64 (q.1 : Int)) (by rw [List.getElem?_map, hq]; rfl)
  have hm0 := hcm0 (k * 3 + 0) _ ((flat_at (fun q : Nat × Mg => mC q.2) 3 (fun _ => rfl) W.wait k q hq 0 (by omega)).trans rfl)
  have hm1 := hcm0 (k * 3 + 1) _ ((flat_at (fun q : Nat × Mg => mC q.2) 3 (fun _ => rfl) W.wait k q hq 1 (by omega)).trans rfl)
  have hm2' := hcm0 (k * 3 + 2) _ ((flat_at (fun q : Nat × Mg => mC q.2) 3 (fun _ => rfl) W.wait k q hq 2 (by omega)).trans rfl)
  have y0 := hto.1
  have y1 : u0.cell? ⟨mb, k * 3, none⟩ = some (.int .i64 q.2.1) := hm0.1
  have lw := hQ.ok.w1.2
  have y2 := hm1.1
  have y3 := hm2'.1
  have hkc : (k : Int) < (L : Int) := by omega
  go_region
  go_upto_region 3 with fail
  obtain ⟨u2, eu2⟩ : ∃ u2, Hid (u2 = (u0.alloc (.cells #[.int .i64 q.2.1, .int .i64 q.2.2.1, .string q.2.2.2] 32)).drew) := ⟨_, rfl⟩
  have hBu : Below u0.heap.size u0 u2 := by rw [eu2.out]; exact (balloc (bself u0) _).drew
  have hb6 : CV u2 u0.heap.size (mC q.2) := by rw [eu2.out]; exact CV.drew (CV.new u0 (mC q.2) _)
  have hb6l : u0.heap.size < u2.heap.size := hb6.lt (by simp)
  have hb6w : ¬ u0.heap.size = p.wb := by omega
  have hQ2 := hQ.ex (Ex.of_bel (A := fun _ => False) hBu) (fun _ e => e.elim)
  have hB2 : Below p.lo u0 u2 := hBu.mono hlo
  rw [← eu2.out]
  have hzu := hBu.size
  have hcw := hQ2.cw
  have hwl := hQ2.ok.w1.2
  have hct2 : CV u2 tb (W.wait.map fun q => Value.int .i64 (q.1 : Int)) := hct0.below hBu htb0
  have hcm20 : CV u2 mb (W.wait.flatMap fun q => mC q.2) := hcm0.below hBu hmb0
  have htb : tb < u2.heap.size := by omega
  have hmb : mb < u2.heap.size := by omega
  have hwt : ¬ tb = p.wb := (hQ.dt (by simp)).1
  have hwm : ¬ mb = p.wb := (hQ.dm (by simp)).1
  have hxt : (W.wait.map fun q => Value.int .i64 (q.1 : Int)).length = L * 1 := by rw [List.length_map, eL.out, Nat.mul_one]
  have hxm : (W.wait.flatMap fun q => mC q.2).length = L * 3 := by rw [flat_len _ 3 (fun _ => rfl), eL.out]
  have h1t : ∀ v ∈ (W.wait.map fun q => Value.int .i64 (q.1 : Int)), v.oneCell' = true := fun v hv => by obtain ⟨q, _, rfl⟩ := List.mem_map.1 hv; rfl
  have h1m : ∀ v ∈ (W.wait.flatMap fun q => mC q.2), v.oneCell' = true := fun v hv => by
    obtain ⟨q, _, hv⟩ := List.mem_flatMap.1 hv
    simp at hv
    rcases hv with e | e | e <;> (subst e; rfl)
  obtain ⟨ot, hot, hst⟩ := slLoi tb L ct (k + 1) (by omega) hct
  obtain ⟨om, hom, hsm⟩ := slLom mb L cm (k + 1) (by omega) hcm
  clear c3 c4 c5 hc y0 y1 y2 y3 hto hm0 hm1 hm2' hot0 hom0 hct0 hcm0 lw
  refine region_drawn [34, 35, 36, 37, 38, 39, 40, 41, 42, 43, 44, 45, 46, 47, 48, 49, 50, 51, 52] (fun fZ tZ uZ => Gs fZ tZ [(0, 34, .pointer (some ⟨p.wb, 0, none⟩)), (2, 36, .pointer (some ⟨p.wb, 0, none⟩)), (3, 37, .pointer (some ⟨p.wb, 0, none⟩)), (4, 38, .pointer (some ⟨p.wb, 4, none⟩)), (5, 39, .slice (some ⟨tb, 0, none⟩) L ct), (6, 40, .int .i64 (k : Int)), (7, 41, .slice (some ⟨tb, 0, none⟩) k ct), (9, 43, .pointer (some ⟨p.wb, 0, none⟩)), (10, 44, .pointer (some ⟨p.wb, 0, none⟩)), (11, 45, .pointer (some ⟨p.wb, 4, none⟩)), (12, 46, .slice (some ⟨tb, 0, none⟩) L ct), (13, 47, .int .i64 (k : Int)), (14, 48, .int .i64 ((k + 1 : Nat) : Int)), (15, 49, .slice (some ⟨tb, ot, none⟩) (L - (k + 1)) (ct - (k + 1))), (17, 51, .pointer (some ⟨p.wb, 0, none⟩)), (18, 52, .pointer (some ⟨p.wb, 4, none⟩))] ∧ Os fZ [(7, 5), (8, 1), (8, 7), (15, 12), (16, 8), (16, 15), (19, 16), (19, 8), (19, 18)] ∧ CB u2 1 L k (W.wait.map fun q => Value.int .i64 (q.1 : Int)) p.wb 4 (wC n t bad p.nb p.cn p.sb (.slice (some ⟨tb, 0, none⟩) L ct) (.slice (some ⟨mb, 0, none⟩) L cm)) (fZ 1) (fZ 8) (fZ 16) (fZ 19) (tZ 35) (tZ 42) (tZ 50) uZ) (by kernel_rfl) (by kernel_rfl) ?_ ?_ ?_
  · exact ⟨Gs.none _ _, Os.none _, ⟨Nat.le_refl _, fun _ => (bself u2).drew, nofun, nofun, nofun, nofun⟩⟩
  · rintro fZ tZ uZ iZ oZ aZ hF ⟨hG, hO, hC⟩ ho hfi hdep
    have hS : [34, 35, 36, 37, 38, 39, 40, 41, 42, 43, 44, 45, 46, 47, 48, 49, 50, 51, 52].Nodup := by decide
    have hV := hF.evs (N := 84) (by decide) rfl (by decide)
    have il : iZ < 20 := (Array.getElem?_eq_some_iff.1 ho).1
    have ix : iZ = 0 ∨ iZ = 1 ∨ iZ = 2 ∨ iZ = 3 ∨ iZ = 4 ∨ iZ = 5 ∨ iZ = 6 ∨ iZ = 7 ∨ iZ = 8 ∨ iZ = 9 ∨ iZ = 10 ∨ iZ = 11 ∨ iZ = 12 ∨ iZ = 13 ∨ iZ = 14 ∨ iZ = 15 ∨ iZ = 16 ∨ iZ = 17 ∨ iZ = 18 ∨ iZ = 19 := by omega
    rcases ix with rfl | rfl | rfl | rfl | rfl | rfl | rfl | rfl | rfl | rfl | rfl | rfl | rfl | rfl | rfl | rfl | rfl | rfl | rfl | rfl
    · cases ho
      refine op_plain rfl rfl (fun K hK => ?_)
      refine wp_move rfl ((hF.out 0 (by decide)).trans rfl) ?_
      exact tell hK hF hS (by decide) ⟨Gs.stepA hG rfl rfl, ⟨hO.1, hO.2.1, hO.2.2.1, hO.2.2.2.1, hO.2.2.2.2.1, hO.2.2.2.2.2.1, hO.2.2.2.2.2.2.1, hO.2.2.2.2.2.2.2.1, hO.2.2.2.2.2.2.2.2.1, trivial⟩, hC⟩
    · cases ho
      refine op_plain rfl rfl (fun K hK => ?_)
      have n8 : fZ 8 = false := Os.not (hO.2.1) hfi
      have n16 : fZ 16 = false := Os.not (hO.2.2.2.2.1) n8
      have n19 : fZ 19 = false := Os.not (hO.2.2.2.2.2.2.1) n16
      have hC2 := hC
      rw [n8, n16, n19] at hC2
      have hC3 := hC2.new 3
      refine wp_bS (xs := []) rfl (vs := []) rfl (bS0i uZ) ?_
      exact tell hK hF hS (by decide) ⟨Gs.other rfl hG, ⟨hO.1, fun _ => rfl, hO.2.2.1, hO.2.2.2.1, hO.2.2.2.2.1, hO.2.2.2.2.2.1, hO.2.2.2.2.2.2.1, hO.2.2.2.2.2.2.2.1, hO.2.2.2.2.2.2.2.2.1, trivial⟩, (by simpa [updF, updT, n8, n16, n19] using hC3)⟩
    · cases ho
      refine op_plain rfl rfl (fun K hK => ?_)
      refine wp_move rfl ((hF.out 0 (by decide)).trans rfl) ?_
      exact tell hK hF hS (by decide) ⟨Gs.stepA hG rfl rfl, ⟨hO.1, hO.2.1, hO.2.2.1, hO.2.2.2.1, hO.2.2.2.2.1, hO.2.2.2.2.2.1, hO.2.2.2.2.2.2.1, hO.2.2.2.2.2.2.2.1, hO.2.2.2.2.2.2.2.2.1, trivial⟩, hC⟩
    · cases ho
      refine op_plain rfl rfl (fun K hK => ?_)
      refine wp_nil rfl ((hV 36 (by decide)).trans (hG.2.1 (hdep ⟨2, .data⟩ (by simp) rfl))) ?_
      exact tell hK hF hS (by decide) ⟨Gs.stepA hG rfl rfl, ⟨hO.1, hO.2.1, hO.2.2.1, hO.2.2.2.1, hO.2.2.2.2.1, hO.2.2.2.2.2.1, hO.2.2.2.2.2.2.1, hO.2.2.2.2.2.2.2.1, hO.2.2.2.2.2.2.2.2.1, trivial⟩, hC⟩
    · cases ho
      refine op_plain rfl rfl (fun K hK => ?_)
      refine wp_field rfl ((hV 37 (by decide)).trans (hG.2.2.1 (hdep ⟨3, .data⟩ (by simp) rfl))) (fk_seneschallaw15_world_4 _ _ uZ) ?_
      exact tell hK hF hS (by decide) ⟨Gs.stepA hG rfl rfl, ⟨hO.1, hO.2.1, hO.2.2.1, hO.2.2.2.1, hO.2.2.2.2.1, hO.2.2.2.2.2.1, hO.2.2.2.2.2.2.1, hO.2.2.2.2.2.2.2.1, hO.2.2.2.2.2.2.2.2.1, trivial⟩, hC⟩
    · cases ho
      refine op_plain rfl rfl (fun K hK => ?_)
      have n16 : fZ 16 = false := Os.not (hO.2.2.2.2.1) (Os.not (hO.2.2.1) (Os.not (hO.1) hfi))
      have n19 : fZ 19 = false := Os.not (hO.2.2.2.2.2.2.1) n16
      have hB := hC.b0 n19
      refine wp_load rfl ((hV 38 (by decide)).trans (hG.2.2.2.1 (hdep ⟨4, .data⟩ (by simp) rfl))) (lSi uZ ((hcw.below hB hwl) 4 _ rfl).1) ?_
      exact tell hK hF hS (by decide) ⟨Gs.stepA hG rfl rfl, ⟨fun _ => rfl, hO.2.1, hO.2.2.1, hO.2.2.2.1, hO.2.2.2.2.1, hO.2.2.2.2.2.1, hO.2.2.2.2.2.2.1, hO.2.2.2.2.2.2.2.1, hO.2.2.2.2.2.2.2.2.1, trivial⟩, hC⟩
    · cases ho
      refine op_plain rfl rfl (fun K hK => ?_)
      refine wp_move rfl ((hF.out 4 (by decide)).trans rfl) ?_
      exact tell hK hF hS (by decide) ⟨Gs.stepA hG rfl rfl, ⟨hO.1, hO.2.1, hO.2.2.1, hO.2.2.2.1, hO.2.2.2.2.1, hO.2.2.2.2.2.1, hO.2.2.2.2.2.2.1, hO.2.2.2.2.2.2.2.1, hO.2.2.2.2.2.2.2.2.1, trivial⟩, hC⟩
    · cases ho
      refine op_plain rfl rfl (fun K hK => ?_)
      refine wp_slice rfl ((hV 39 (by decide)).trans (hG.2.2.2.2.1 (hdep ⟨5, .data⟩ (by simp) rfl))) (vl := none) (vh := some (.int .i64 (k : Int))) (vm := none) rfl (by show some (aZ.eval (.tmp 40)) = _; rw [((hV 40 (by decide)).trans (hG.2.2.2.2.2.1 (hdep ⟨6, .data⟩ (by simp) rfl)))]) rfl (slHii tb L ct k (by omega) hct uZ) ?_
      exact tell hK hF hS (by decide) ⟨Gs.stepA hG rfl rfl, ⟨fun _ => hdep ⟨5, .data⟩ (by simp) rfl, hO.2.1, fun _ => rfl, hO.2.2.2.1, hO.2.2.2.2.1, hO.2.2.2.2.2.1, hO.2.2.2.2.2.2.1, hO.2.2.2.2.2.2.2.1, hO.2.2.2.2.2.2.2.2.1, trivial⟩, hC⟩
    · cases ho
      refine op_plain rfl rfl (fun K hK => ?_)
      have n16 : fZ 16 = false := Os.not (hO.2.2.2.2.1) hfi
      have n19 : fZ 19 = false := Os.not (hO.2.2.2.2.2.2.1) n16
      have y1 : fZ 1 = true := hdep ⟨1, .data⟩ (by simp) rfl
      have hC2 := hC
      rw [y1, hfi, n16, n19] at hC2
      obtain ⟨v, u', hr, hC3⟩ := hC2.app8 (sz := 1) (T := 53) (E := 3) (bt := 8) (z := .int .i64 0) (co := ct) Try.underlying53 (by kernel_rfl) rfl (by omega) hkL hL hxt hct2 htb h1t
      refine wp_app rfl (hV 35 (by decide)) ((hV 41 (by decide)).trans (hG.2.2.2.2.2.2.1 (hdep ⟨7, .data⟩ (by simp) rfl))) hr ?_
      exact tell hK hF hS (by decide) ⟨Gs.other rfl hG, ⟨hO.1, fun _ => hdep ⟨1, .data⟩ (by simp) rfl, fun _ => hdep ⟨7, .data⟩ (by simp) rfl, hO.2.2.2.1, fun _ => rfl, hO.2.2.2.2.2.1, hO.2.2.2.2.2.2.1, fun _ => rfl, hO.2.2.2.2.2.2.2.2.1, trivial⟩, (by simpa [updF, updT, y1, n16, n19] using hC3)⟩
    · cases ho
      refine op_plain rfl rfl (fun K hK => ?_)
      refine wp_move rfl ((hF.out 0 (by decide)).trans rfl) ?_
      exact tell hK hF hS (by decide) ⟨Gs.stepA hG rfl rfl, ⟨hO.1, hO.2.1, hO.2.2.1, hO.2.2.2.1, hO.2.2.2.2.1, hO.2.2.2.2.2.1, hO.2.2.2.2.2.2.1, hO.2.2.2.2.2.2.2.1, hO.2.2.2.2.2.2.2.2.1, trivial⟩, hC⟩
    · cases ho
      refine op_plain rfl rfl (fun K hK => ?_)
      refine wp_nil rfl ((hV 43 (by decide)).trans (hG.2.2.2.2.2.2.2.1 (hdep ⟨9, .data⟩ (by simp) rfl))) ?_
      exact tell hK hF hS (by decide) ⟨Gs.stepA hG rfl rfl, ⟨hO.1, hO.2.1, hO.2.2.1, hO.2.2.2.1, hO.2.2.2.2.1, hO.2.2.2.2.2.1, hO.2.2.2.2.2.2.1, hO.2.2.2.2.2.2.2.1, hO.2.2.2.2.2.2.2.2.1, trivial⟩, hC⟩
    · cases ho
      refine op_plain rfl rfl (fun K hK => ?_)
      refine wp_field rfl ((hV 44 (by decide)).trans (hG.2.2.2.2.2.2.2.2.1 (hdep ⟨10, .data⟩ (by simp) rfl))) (fk_seneschallaw15_world_4 _ _ uZ) ?_
      exact tell hK hF hS (by decide) ⟨Gs.stepA hG rfl rfl, ⟨hO.1, hO.2.1, hO.2.2.1, hO.2.2.2.1, hO.2.2.2.2.1, hO.2.2.2.2.2.1, hO.2.2.2.2.2.2.1, hO.2.2.2.2.2.2.2.1, hO.2.2.2.2.2.2.2.2.1, trivial⟩, hC⟩
    · cases ho
      refine op_plain rfl rfl (fun K hK => ?_)
      have n16 : fZ 16 = false := Os.not (hO.2.2.2.2.2.1) (Os.not (hO.2.2.2.1) hfi)
      have n19 : fZ 19 = false := Os.not (hO.2.2.2.2.2.2.1) n16
      have hB := hC.b0 n19
      refine wp_load rfl ((hV 45 (by decide)).trans (hG.2.2.2.2.2.2.2.2.2.1 (hdep ⟨11, .data⟩ (by simp) rfl))) (lSi uZ ((hcw.below hB hwl) 4 _ rfl).1) ?_
      exact tell hK hF hS (by decide) ⟨Gs.stepA hG rfl rfl, ⟨hO.1, hO.2.1, hO.2.2.1, fun _ => rfl, hO.2.2.2.2.1, hO.2.2.2.2.2.1, hO.2.2.2.2.2.2.1, hO.2.2.2.2.2.2.2.1, hO.2.2.2.2.2.2.2.2.1, trivial⟩, hC⟩
    · cases ho
      refine op_plain rfl rfl (fun K hK => ?_)
      refine wp_move rfl ((hF.out 4 (by decide)).trans rfl) ?_
      exact tell hK hF hS (by decide) ⟨Gs.stepA hG rfl rfl, ⟨hO.1, hO.2.1, hO.2.2.1, hO.2.2.2.1, hO.2.2.2.2.1, hO.2.2.2.2.2.1, hO.2.2.2.2.2.2.1, hO.2.2.2.2.2.2.2.1, hO.2.2.2.2.2.2.2.2.1, trivial⟩, hC⟩
    · cases ho
      refine op_plain rfl rfl (fun K hK => ?_)
      refine wp_bin rfl ((hV 47 (by decide)).trans (hG.2.2.2.2.2.2.2.2.2.2.2.1 (hdep ⟨13, .data⟩ (by simp) rfl))) rfl (add_i _ _ (k : Int) 1 ((k + 1 : Nat) : Int) uZ (by omega) (by omega) (by omega)) ?_
      exact tell hK hF hS (by decide) ⟨Gs.stepA hG rfl rfl, ⟨hO.1, hO.2.1, hO.2.2.1, hO.2.2.2.1, hO.2.2.2.2.1, hO.2.2.2.2.2.1, hO.2.2.2.2.2.2.1, hO.2.2.2.2.2.2.2.1, hO.2.2.2.2.2.2.2.2.1, trivial⟩, hC⟩
    · cases ho
      refine op_plain rfl rfl (fun K hK => ?_)
      refine wp_slice rfl ((hV 46 (by decide)).trans (hG.2.2.2.2.2.2.2.2.2.2.1 (hdep ⟨12, .data⟩ (by simp) rfl))) (vl := some (.int .i64 ((k + 1 : Nat) : Int))) (vh := none) (vm := none) (by show some (aZ.eval (.tmp 48)) = _; rw [((hV 48 (by decide)).trans (hG.2.2.2.2.2.2.2.2.2.2.2.2.1 (hdep ⟨14, .data⟩ (by simp) rfl)))]) rfl rfl (hst uZ) ?_
      exact tell hK hF hS (by decide) ⟨Gs.stepA hG rfl rfl, ⟨hO.1, hO.2.1, hO.2.2.1, fun _ => hdep ⟨12, .data⟩ (by simp) rfl, hO.2.2.2.2.1, fun _ => rfl, hO.2.2.2.2.2.2.1, hO.2.2.2.2.2.2.2.1, hO.2.2.2.2.2.2.2.2.1, trivial⟩, hC⟩
    · cases ho
      refine op_plain rfl rfl (fun K hK => ?_)
      have n19 : fZ 19 = false := Os.not (hO.2.2.2.2.2.2.1) hfi
      have y8 : fZ 8 = true := hdep ⟨8, .data⟩ (by simp) rfl
      have hC2 := hC
      rw [y8, hfi, n19] at hC2
      obtain ⟨v, u', hr, hC3⟩ := hC2.app16 (sz := 1) (T := 53) (E := 3) (bt := 8) (z := .int .i64 0) (co := ct - (k + 1)) (o := ot) Try.underlying53 (by kernel_rfl) rfl (by omega) hkL hL hxt hct2 htb h1t hot
      refine wp_app rfl (hV 42 (by decide)) ((hV 49 (by decide)).trans (hG.2.2.2.2.2.2.2.2.2.2.2.2.2.1 (hdep ⟨15, .data⟩ (by simp) rfl))) hr ?_
      exact tell hK hF hS (by decide) ⟨Gs.other rfl hG, ⟨hO.1, hO.2.1, hO.2.2.1, hO.2.2.2.1, fun _ => hdep ⟨8, .data⟩ (by simp) rfl, fun _ => hdep ⟨15, .data⟩ (by simp) rfl, fun _ => rfl, hO.2.2.2.2.2.2.2.1, hO.2.2.2.2.2.2.2.2.1, trivial⟩, (by simpa [updF, updT, y8, n19] using hC3)⟩
    · cases ho
      refine op_plain rfl rfl (fun K hK => ?_)
      refine wp_nil rfl ((hV 34 (by decide)).trans (hG.1 (hdep ⟨0, .data⟩ (by simp) rfl))) ?_
      exact tell hK hF hS (by decide) ⟨Gs.stepA hG rfl rfl, ⟨hO.1, hO.2.1, hO.2.2.1, hO.2.2.2.1, hO.2.2.2.2.1, hO.2.2.2.2.2.1, hO.2.2.2.2.2.2.1, hO.2.2.2.2.2.2.2.1, hO.2.2.2.2.2.2.2.2.1, trivial⟩, hC⟩
    · cases ho
      refine op_plain rfl rfl (fun K hK => ?_)
      refine wp_field rfl ((hV 51 (by decide)).trans (hG.2.2.2.2.2.2.2.2.2.2.2.2.2.2.1 (hdep ⟨17, .data⟩ (by simp) rfl))) (fk_seneschallaw15_world_4 _ _ uZ) ?_
      exact tell hK hF hS (by decide) ⟨Gs.stepA hG rfl rfl, ⟨hO.1, hO.2.1, hO.2.2.1, hO.2.2.2.1, hO.2.2.2.2.1, hO.2.2.2.2.2.1, hO.2.2.2.2.2.2.1, hO.2.2.2.2.2.2.2.1, fun _ => rfl, trivial⟩, hC⟩
    · cases ho
      refine op_plain rfl rfl (fun K hK => ?_)
      have y16 : fZ 16 = true := hdep ⟨16, .data⟩ (by simp) rfl
      have y8 : fZ 8 = true := hdep ⟨8, .phase⟩ (by simp) rfl
      have hC2 := hC
      rw [y16, hfi] at hC2
      obtain ⟨⟨q1, q2, sl9, n9, c9, q3⟩, hC3⟩ := hC2.st19 y8 hcw hwl (by simp) (v0 := .slice (some ⟨tb, 0, none⟩) L ct) rfl
      refine wp_store rfl ((hV 52 (by decide)).trans (hG.2.2.2.2.2.2.2.2.2.2.2.2.2.2.2.1 (hdep ⟨18, .data⟩ (by simp) rfl))) (hV 50 (by decide)) (by rw [q3]; exact stSi uZ q1 q2) ?_
      exact tell0 hK hF ⟨Gs.idle rfl hG, ⟨hO.1, hO.2.1, hO.2.2.1, hO.2.2.2.1, hO.2.2.2.2.1, hO.2.2.2.2.2.1, fun _ => hdep ⟨16, .data⟩ (by simp) rfl, fun _ => hdep ⟨8, .phase⟩ (by simp) rfl, fun _ => hdep ⟨18, .data⟩ (by simp) rfl, trivial⟩, (by rw [q3] at hC3; simpa [updF, updT, y16, q3] using hC3)⟩
  · rintro fZ tZ uZ ⟨hG, hO, hC⟩ hall
    obtain ⟨e34, e36, e37, e38, e39, e40, e41, e43, e44, e45, e46, e47, e48, e49, e51, e52, -⟩ := Gs.all 20 hall hG rfl
    have hC2 := hC
    rw [hall 19 (by decide)] at hC2
    obtain ⟨hE3, hF3, hcw3⟩ := hC2.e19 rfl
    simp only [ovr, List.set_cons_zero, List.set_cons_succ, e34, e36, e37, e38, e39, e40, e41, e43, e44, e45, e46, e47, e48, e49, e51, e52]
    clear hG hO hC hC2 hall
    generalize tZ 50 = v60 at *
    obtain ⟨u3, rfl⟩ : ∃ x, x = uZ := ⟨_, rfl⟩
    have hcw : CV u3 p.wb (wC n t bad p.nb p.cn p.sb v60 (.slice (some ⟨mb, 0, none⟩) L cm)) := hcw3
    have hz3 := hE3.size
    have hwl : p.wb < u3.heap.size := by omega
    have hcm2 : CV u3 mb (W.wait.flatMap fun q => mC q.2) := hcm20.ex hE3 hmb hwm
    have hmb : mb < u3.heap.size := by omega
    have hb6 : CV u3 u0.heap.size (mC q.2) := hb6.ex hE3 hb6l hb6w
    have hb6l : u0.heap.size < u3.heap.size := by omega
    clear hcw3
    go_upto_region 4 with fail
    refine region_drawn [53, 54, 55, 56, 57, 58, 59, 60, 61, 62, 63, 64, 65, 66, 67, 68, 69, 70, 71] (fun fZ tZ uZ => Gs fZ tZ [(0, 53, .pointer (some ⟨p.wb, 0, none⟩)), (2, 55, .pointer (some ⟨p.wb, 0, none⟩)), (3, 56, .pointer (some ⟨p.wb, 0, none⟩)), (4, 57, .pointer (some ⟨p.wb, 5, none⟩)), (5, 58, .slice (some ⟨mb, 0, none⟩) L cm), (6, 59, .int .i64 (k : Int)), (7, 60, .slice (some ⟨mb, 0, none⟩) k cm), (9, 62, .pointer (some ⟨p.wb, 0, none⟩)), (10, 63, .pointer (some ⟨p.wb, 0, none⟩)), (11, 64, .pointer (some ⟨p.wb, 5, none⟩)), (12, 65, .slice (some ⟨mb, 0, none⟩) L cm), (13, 66, .int .i64 (k : Int)), (14, 67, .int .i64 ((k + 1 : Nat) : Int)), (15, 68, .slice (some ⟨mb, om, none⟩) (L - (k + 1)) (cm - (k + 1))), (17, 70, .pointer (some ⟨p.wb, 0, none⟩)), (18, 71, .pointer (some ⟨p.wb, 5, none⟩))] ∧ Os fZ [(7, 5), (8, 1), (8, 7), (15, 12), (16, 8), (16, 15), (19, 16), (19, 8), (19, 18)] ∧ CB u3 3 L k (W.wait.flatMap fun q => mC q.2) p.wb 5 (wC n t bad p.nb p.cn p.sb v60 (.slice (some ⟨mb, 0, none⟩) L cm)) (fZ 1) (fZ 8) (fZ 16) (fZ 19) (tZ 54) (tZ 61) (tZ 69) uZ) (by kernel_rfl) (by kernel_rfl) ?_ ?_ ?_
    · exact ⟨Gs.none _ _, Os.none _, ⟨Nat.le_refl _, fun _ => (bself u3).drew, nofun, nofun, nofun, nofun⟩⟩
    · rintro fZ tZ uZ iZ oZ aZ hF ⟨hG, hO, hC⟩ ho hfi hdep
      have hS : [53, 54, 55, 56, 57, 58, 59, 60, 61, 62, 63, 64, 65, 66, 67, 68, 69, 70, 71].Nodup := by decide
      have hV := hF.evs (N := 84) (by decide) rfl (by decide)
      have il : iZ < 20 := (Array.getElem?_eq_some_iff.1 ho).1
      have ix : iZ = 0 ∨ iZ = 1 ∨ iZ = 2 ∨ iZ = 3 ∨ iZ = 4 ∨ iZ = 5 ∨ iZ = 6 ∨ iZ = 7 ∨ iZ = 8 ∨ iZ = 9 ∨ iZ = 10 ∨ iZ = 11 ∨ iZ = 12 ∨ iZ = 13 ∨ iZ = 14 ∨ iZ = 15 ∨ iZ = 16 ∨ iZ = 17 ∨ iZ = 18 ∨ iZ = 19 := by omega
      rcases ix with rfl | rfl | rfl | rfl | rfl | rfl | rfl | rfl | rfl | rfl | rfl | rfl | rfl | rfl | rfl | rfl | rfl | rfl | rfl | rfl
      · cases ho
        refine op_plain rfl rfl (fun K hK => ?_)
        refine wp_move rfl ((hF.out 0 (by decide)).trans rfl) ?_
        exact tell hK hF hS (by decide) ⟨Gs.stepA hG rfl rfl, ⟨hO.1, hO.2.1, hO.2.2.1, hO.2.2.2.1, hO.2.2.2.2.1, hO.2.2.2.2.2.1, hO.2.2.2.2.2.2.1, hO.2.2.2.2.2.2.2.1, hO.2.2.2.2.2.2.2.2.1, trivial⟩, hC⟩
      · cases ho
        refine op_plain rfl rfl (fun K hK => ?_)
        have n8 : fZ 8 = false := Os.not (hO.2.1) hfi
        have n16 : fZ 16 = false := Os.not (hO.2.2.2.2.1) n8
        have n19 : fZ 19 = false := Os.not (hO.2.2.2.2.2.2.1) n16
        have hC2 := hC
        rw [n8, n16, n19] at hC2
        have hC3 := hC2.new 32
        refine wp_bS (xs := []) rfl (vs := []) rfl (bS0m uZ) ?_
        exact tell hK hF hS (by decide) ⟨Gs.other rfl hG, ⟨hO.1, fun _ => rfl, hO.2.2.1, hO.2.2.2.1, hO.2.2.2.2.1, hO.2.2.2.2.2.1, hO.2.2.2.2.2.2.1, hO.2.2.2.2.2.2.2.1, hO.2.2.2.2.2.2.2.2.1, trivial⟩, (by simpa [updF, updT, n8, n16, n19] using hC3)⟩
      · cases ho
        refine op_plain rfl rfl (fun K hK => ?_)
        refine wp_move rfl ((hF.out 0 (by decide)).trans rfl) ?_
        exact tell hK hF hS (by decide) ⟨Gs.stepA hG rfl rfl, ⟨hO.1, hO.2.1, hO.2.2.1, hO.2.2.2.1, hO.2.2.2.2.1, hO.2.2.2.2.2.1, hO.2.2.2.2.2.2.1, hO.2.2.2.2.2.2.2.1, hO.2.2.2.2.2.2.2.2.1, trivial⟩, hC⟩
      · cases ho
        refine op_plain rfl rfl (fun K hK => ?_)
        refine wp_nil rfl ((hV 55 (by decide)).trans (hG.2.1 (hdep ⟨2, .data⟩ (by simp) rfl))) ?_
        exact tell hK hF hS (by decide) ⟨Gs.stepA hG rfl rfl, ⟨hO.1, hO.2.1, hO.2.2.1, hO.2.2.2.1, hO.2.2.2.2.1, hO.2.2.2.2.2.1, hO.2.2.2.2.2.2.1, hO.2.2.2.2.2.2.2.1, hO.2.2.2.2.2.2.2.2.1, trivial⟩, hC⟩
      · cases ho
        refine op_plain rfl rfl (fun K hK => ?_)
        refine wp_field rfl ((hV 56 (by decide)).trans (hG.2.2.1 (hdep ⟨3, .data⟩ (by simp) rfl))) (fk_seneschallaw15_world_5 _ _ uZ) ?_
        exact tell hK hF hS (by decide) ⟨Gs.stepA hG rfl rfl, ⟨hO.1, hO.2.1, hO.2.2.1, hO.2.2.2.1, hO.2.2.2.2.1, hO.2.2.2.2.2.1, hO.2.2.2.2.2.2.1, hO.2.2.2.2.2.2.2.1, hO.2.2.2.2.2.2.2.2.1, trivial⟩, hC⟩
      · cases ho
        refine op_plain rfl rfl (fun K hK => ?_)
        have n16 : fZ 16 = false := Os.not (hO.2.2.2.2.1) (Os.not (hO.2.2.1) (Os.not (hO.1) hfi))
        have n19 : fZ 19 = false := Os.not (hO.2.2.2.2.2.2.1) n16
        have hB := hC.b0 n19
        refine wp_load rfl ((hV 57 (by decide)).trans (hG.2.2.2.1 (hdep ⟨4, .data⟩ (by simp) rfl))) (lSm uZ ((hcw.below hB hwl) 5 _ rfl).1) ?_
        exact tell hK hF hS (by decide) ⟨Gs.stepA hG rfl rfl, ⟨fun _ => rfl, hO.2.1, hO.2.2.1, hO.2.2.2.1, hO.2.2.2.2.1, hO.2.2.2.2.2.1, hO.2.2.2.2.2.2.1, hO.2.2.2.2.2.2.2.1, hO.2.2.2.2.2.2.2.2.1, trivial⟩, hC⟩
      · cases ho
        refine op_plain rfl rfl (fun K hK => ?_)
        refine wp_move rfl ((hF.out 4 (by decide)).trans rfl) ?_
        exact tell hK hF hS (by decide) ⟨Gs.stepA hG rfl rfl, ⟨hO.1, hO.2.1, hO.2.2.1, hO.2.2.2.1, hO.2.2.2.2.1, hO.2.2.2.2.2.1, hO.2.2.2.2.2.2.1, hO.2.2.2.2.2.2.2.1, hO.2.2.2.2.2.2.2.2.1, trivial⟩, hC⟩
      · cases ho
        refine op_plain rfl rfl (fun K hK => ?_)
        refine wp_slice rfl ((hV 58 (by decide)).trans (hG.2.2.2.2.1 (hdep ⟨5, .data⟩ (by simp) rfl))) (vl := none) (vh := some (.int .i64 (k : Int))) (vm := none) rfl (by show some (aZ.eval (.tmp 59)) = _; rw [((hV 59 (by decide)).trans (hG.2.2.2.2.2.1 (hdep ⟨6, .data⟩ (by simp) rfl)))]) rfl (slHim mb L cm k (by omega) hcm uZ) ?_
        exact tell hK hF hS (by decide) ⟨Gs.stepA hG rfl rfl, ⟨fun _ => hdep ⟨5, .data⟩ (by simp) rfl, hO.2.1, fun _ => rfl, hO.2.2.2.1, hO.2.2.2.2.1, hO.2.2.2.2.2.1, hO.2.2.2.2.2.2.1, hO.2.2.2.2.2.2.2.1, hO.2.2.2.2.2.2.2.2.1, trivial⟩, hC⟩
      · cases ho
        refine op_plain rfl rfl (fun K hK => ?_)
        have n16 : fZ 16 = false := Os.not (hO.2.2.2.2.1) hfi
        have n19 : fZ 19 = false := Os.not (hO.2.2.2.2.2.2.1) n16
        have y1 : fZ 1 = true := hdep ⟨1, .data⟩ (by simp) rfl
        have hC2 := hC
        rw [y1, hfi, n16, n19] at hC2
        obtain ⟨v, u', hr, hC3⟩ := hC2.app8 (sz := 3) (T := 22) (E := 32) (bt := 32) (z := .agg #[.int .i64 0, .int .i64 0, .string noS]) (co := cm) Try.underlying22 (by kernel_rfl) rfl (by omega) hkL hL hxm hcm2 hmb h1m
        refine wp_app rfl (hV 54 (by decide)) ((hV 60 (by decide)).trans (hG.2.2.2.2.2.2.1 (hdep ⟨7, .data⟩ (by simp) rfl))) hr ?_
        exact tell hK hF hS (by decide) ⟨Gs.other rfl hG, ⟨hO.1, fun _ => hdep ⟨1, .data⟩ (by simp) rfl, fun _ => hdep ⟨7, .data⟩ (by simp) rfl, hO.2.2.2.1, fun _ => rfl, hO.2.2.2.2.2.1, hO.2.2.2.2.2.2.1, fun _ => rfl, hO.2.2.2.2.2.2.2.2.1, trivial⟩, (by simpa [updF, updT, y1, n16, n19] using hC3)⟩
      · cases ho
        refine op_plain rfl rfl (fun K hK => ?_)
        refine wp_move rfl ((hF.out 0 (by decide)).trans rfl) ?_
        exact tell hK hF hS (by decide) ⟨Gs.stepA hG rfl rfl, ⟨hO.1, hO.2.1, hO.2.2.1, hO.2.2.2.1, hO.2.2.2.2.1, hO.2.2.2.2.2.1, hO.2.2.2.2.2.2.1, hO.2.2.2.2.2.2.2.1, hO.2.2.2.2.2.2.2.2.1, trivial⟩, hC⟩
      · cases ho
        refine op_plain rfl rfl (fun K hK => ?_)
        refine wp_nil rfl ((hV 62 (by decide)).trans (hG.2.2.2.2.2.2.2.1 (hdep ⟨9, .data⟩ (by simp) rfl))) ?_
        exact tell hK hF hS (by decide) ⟨Gs.stepA hG rfl rfl, ⟨hO.1, hO.2.1, hO.2.2.1, hO.2.2.2.1, hO.2.2.2.2.1, hO.2.2.2.2.2.1, hO.2.2.2.2.2.2.1, hO.2.2.2.2.2.2.2.1, hO.2.2.2.2.2.2.2.2.1, trivial⟩, hC⟩
      · cases ho
        refine op_plain rfl rfl (fun K hK => ?_)
        refine wp_field rfl ((hV 63 (by decide)).trans (hG.2.2.2.2.2.2.2.2.1 (hdep ⟨10, .data⟩ (by simp) rfl))) (fk_seneschallaw15_world_5 _ _ uZ) ?_
        exact tell hK hF hS (by decide) ⟨Gs.stepA hG rfl rfl, ⟨hO.1, hO.2.1, hO.2.2.1, hO.2.2.2.1, hO.2.2.2.2.1, hO.2.2.2.2.2.1, hO.2.2.2.2.2.2.1, hO.2.2.2.2.2.2.2.1, hO.2.2.2.2.2.2.2.2.1, trivial⟩, hC⟩
      · cases ho
        refine op_plain rfl rfl (fun K hK => ?_)
        have n16 : fZ 16 = false := Os.not (hO.2.2.2.2.2.1) (Os.not (hO.2.2.2.1) hfi)
        have n19 : fZ 19 = false := Os.not (hO.2.2.2.2.2.2.1) n16
        have hB := hC.b0 n19
        refine wp_load rfl ((hV 64 (by decide)).trans (hG.2.2.2.2.2.2.2.2.2.1 (hdep ⟨11, .data⟩ (by simp) rfl))) (lSm uZ ((hcw.below hB hwl) 5 _ rfl).1) ?_
        exact tell hK hF hS (by decide) ⟨Gs.stepA hG rfl rfl, ⟨hO.1, hO.2.1, hO.2.2.1, fun _ => rfl, hO.2.2.2.2.1, hO.2.2.2.2.2.1, hO.2.2.2.2.2.2.1, hO.2.2.2.2.2.2.2.1, hO.2.2.2.2.2.2.2.2.1, trivial⟩, hC⟩
      · cases ho
        refine op_plain rfl rfl (fun K hK => ?_)
        refine wp_move rfl ((hF.out 4 (by decide)).trans rfl) ?_
        exact tell hK hF hS (by decide) ⟨Gs.stepA hG rfl rfl, ⟨hO.1, hO.2.1, hO.2.2.1, hO.2.2.2.1, hO.2.2.2.2.1, hO.2.2.2.2.2.1, hO.2.2.2.2.2.2.1, hO.2.2.2.2.2.2.2.1, hO.2.2.2.2.2.2.2.2.1, trivial⟩, hC⟩
      · cases ho
        refine op_plain rfl rfl (fun K hK => ?_)
        refine wp_bin rfl ((hV 66 (by decide)).trans (hG.2.2.2.2.2.2.2.2.2.2.2.1 (hdep ⟨13, .data⟩ (by simp) rfl))) rfl (add_i _ _ (k : Int) 1 ((k + 1 : Nat) : Int) uZ (by omega) (by omega) (by omega)) ?_
        exact tell hK hF hS (by decide) ⟨Gs.stepA hG rfl rfl, ⟨hO.1, hO.2.1, hO.2.2.1, hO.2.2.2.1, hO.2.2.2.2.1, hO.2.2.2.2.2.1, hO.2.2.2.2.2.2.1, hO.2.2.2.2.2.2.2.1, hO.2.2.2.2.2.2.2.2.1, trivial⟩, hC⟩
      · cases ho
        refine op_plain rfl rfl (fun K hK => ?_)
        refine wp_slice rfl ((hV 65 (by decide)).trans (hG.2.2.2.2.2.2.2.2.2.2.1 (hdep ⟨12, .data⟩ (by simp) rfl))) (vl := some (.int .i64 ((k + 1 : Nat) : Int))) (vh := none) (vm := none) (by show some (aZ.eval (.tmp 67)) = _; rw [((hV 67 (by decide)).trans (hG.2.2.2.2.2.2.2.2.2.2.2.2.1 (hdep ⟨14, .data⟩ (by simp) rfl)))]) rfl rfl (hsm uZ) ?_
        exact tell hK hF hS (by decide) ⟨Gs.stepA hG rfl rfl, ⟨hO.1, hO.2.1, hO.2.2.1, fun _ => hdep ⟨12, .data⟩ (by simp) rfl, hO.2.2.2.2.1, fun _ => rfl, hO.2.2.2.2.2.2.1, hO.2.2.2.2.2.2.2.1, hO.2.2.2.2.2.2.2.2.1, trivial⟩, hC⟩
      · cases ho
        refine op_plain rfl rfl (fun K hK => ?_)
        have n19 : fZ 19 = false := Os.not (hO.2.2.2.2.2.2.1) hfi
        have y8 : fZ 8 = true := hdep ⟨8, .data⟩ (by simp) rfl
        have hC2 := hC
        rw [y8, hfi, n19] at hC2
        obtain ⟨v, u', hr, hC3⟩ := hC2.app16 (sz := 3) (T := 22) (E := 32) (bt := 32) (z := .agg #[.int .i64 0, .int .i64 0, .string noS]) (co := cm - (k + 1)) (o := om) Try.underlying22 (by kernel_rfl) rfl (by omega) hkL hL hxm hcm2 hmb h1m hom
        refine wp_app rfl (hV 61 (by decide)) ((hV 68 (by decide)).trans (hG.2.2.2.2.2.2.2.2.2.2.2.2.2.1 (hdep ⟨15, .data⟩ (by simp) rfl))) hr ?_
        exact tell hK hF hS (by decide) ⟨Gs.other rfl hG, ⟨hO.1, hO.2.1, hO.2.2.1, hO.2.2.2.1, fun _ => hdep ⟨8, .data⟩ (by simp) rfl, fun _ => hdep ⟨15, .data⟩ (by simp) rfl, fun _ => rfl, hO.2.2.2.2.2.2.2.1, hO.2.2.2.2.2.2.2.2.1, trivial⟩, (by simpa [updF, updT, y8, n19] using hC3)⟩
      · cases ho
        refine op_plain rfl rfl (fun K hK => ?_)
        refine wp_nil rfl ((hV 53 (by decide)).trans (hG.1 (hdep ⟨0, .data⟩ (by simp) rfl))) ?_
        exact tell hK hF hS (by decide) ⟨Gs.stepA hG rfl rfl, ⟨hO.1, hO.2.1, hO.2.2.1, hO.2.2.2.1, hO.2.2.2.2.1, hO.2.2.2.2.2.1, hO.2.2.2.2.2.2.1, hO.2.2.2.2.2.2.2.1, hO.2.2.2.2.2.2.2.2.1, trivial⟩, hC⟩
      · cases ho
        refine op_plain rfl rfl (fun K hK => ?_)
        refine wp_field rfl ((hV 70 (by decide)).trans (hG.2.2.2.2.2.2.2.2.2.2.2.2.2.2.1 (hdep ⟨17, .data⟩ (by simp) rfl))) (fk_seneschallaw15_world_5 _ _ uZ) ?_
        exact tell hK hF hS (by decide) ⟨Gs.stepA hG rfl rfl, ⟨hO.1, hO.2.1, hO.2.2.1, hO.2.2.2.1, hO.2.2.2.2.1, hO.2.2.2.2.2.1, hO.2.2.2.2.2.2.1, hO.2.2.2.2.2.2.2.1, fun _ => rfl, trivial⟩, hC⟩
      · cases ho
        refine op_plain rfl rfl (fun K hK => ?_)
        have y16 : fZ 16 = true := hdep ⟨16, .data⟩ (by simp) rfl
        have y8 : fZ 8 = true := hdep ⟨8, .phase⟩ (by simp) rfl
        have hC2 := hC
        rw [y16, hfi] at hC2
        obtain ⟨⟨q1, q2, sl9, n9, c9, q3⟩, hC3⟩ := hC2.st19 y8 hcw hwl (by simp) (v0 := .slice (some ⟨mb, 0, none⟩) L cm) rfl
        refine wp_store rfl ((hV 71 (by decide)).trans (hG.2.2.2.2.2.2.2.2.2.2.2.2.2.2.2.1 (hdep ⟨18, .data⟩ (by simp) rfl))) (hV 69 (by decide)) (by rw [q3]; exact stSm uZ q1 q2) ?_
        exact tell0 hK hF ⟨Gs.idle rfl hG, ⟨hO.1, hO.2.1, hO.2.2.1, hO.2.2.2.1, hO.2.2.2.2.1, hO.2.2.2.2.2.1, fun _ => hdep ⟨16, .data⟩ (by simp) rfl, fun _ => hdep ⟨8, .phase⟩ (by simp) rfl, fun _ => hdep ⟨18, .data⟩ (by simp) rfl, trivial⟩, (by rw [q3] at hC3; simpa [updF, updT, y16, q3] using hC3)⟩
    · rintro fZ tZ uZ ⟨hG, hO, hC⟩ hall
      obtain ⟨e53, e55, e56, e57, e58, e59, e60, e62, e63, e64, e65, e66, e67, e68, e70, e71, -⟩ := Gs.all 20 hall hG rfl
      have hC2 := hC
      rw [hall 19 (by decide)] at hC2
      obtain ⟨hE4, hF4, hcw4⟩ := hC2.e19 rfl
      simp only [ovr, List.set_cons_zero, List.set_cons_succ, e53, e55, e56, e57, e58, e59, e60, e62, e63, e64, e65, e66, e67, e68, e70, e71]
      clear hG hO hC hC2 hall
      generalize tZ 69 = v70 at *
      obtain ⟨u4, rfl⟩ : ∃ x, x = uZ := ⟨_, rfl⟩
      have hcw : CV u4 p.wb (wC n t bad p.nb p.cn p.sb v60 v70) := hcw4
      have hz4 := hE4.size
      have hb6 : CV u4 u0.heap.size (mC q.2) := hb6.ex hE4 hb6l hb6w
      obtain ⟨tb', tb1, tb2, tb3⟩ := (hF3.ex hE4 (fun k e => by have e : k = p.wb := e; omega)).or (lo := p.lo) (by omega)
      obtain ⟨mb', mb1, mb2, mb3⟩ := hF4.or (lo := p.lo) (by omega)
      obtain ⟨tb4, tb5, _⟩ := hF3.or (lo := p.lo) (by omega)
      have htm' : tb' < u3.heap.size := by
        obtain ⟨b, co, zs, g1, g2, g3, _⟩ := hF3
        rcases tb2.2 with ⟨_, e⟩ | ⟨_, _, co2, zs2, e, _⟩
        · exact absurd e tb3
        · rw [g3] at e
          injection e with e1
          injection e1 with e1
          injection e1 with e1
          rw [← e1]; exact g2
      have hQ4 : WQ p t bad n tb' mb' v60 v70 u4 { W with wait := W.wait.take k ++ W.wait.drop (k + 1) } := by
        refine hQ2.cut (hE3.trans hE4) hcw ?_ ?_ tb1 (by omega) (by omega)
        · have e1 : (W.wait.take k ++ W.wait.drop (k + 1)).length = L - 1 := by rw [List.length_append, List.length_take, List.length_drop, eL.out]; omega
          have e2 : ((W.wait.take k ++ W.wait.drop (k + 1)).map fun q => Value.int .i64 (q.1 : Int)) = (W.wait.map fun q => Value.int .i64 (q.1 : Int)).take (k * 1) ++ (W.wait.map fun q => Value.int .i64 (q.1 : Int)).drop ((k + 1) * 1) := by rw [List.map_append, List.map_take, List.map_drop, Nat.mul_one, Nat.mul_one]
          rw [e1, e2]; exact tb2
        · have e1 : (W.wait.take k ++ W.wait.drop (k + 1)).length = L - 1 := by rw [List.length_append, List.length_take, List.length_drop, eL.out]; omega
          have e2 : ((W.wait.take k ++ W.wait.drop (k + 1)).flatMap fun q => mC q.2) = (W.wait.flatMap fun q => mC q.2).take (k * 3) ++ (W.wait.flatMap fun q => mC q.2).drop ((k + 1) * 3) := by rw [List.flatMap_append, flat_take _ 3 (fun _ => rfl), flat_drop _ 3 (fun _ => rfl)]
          rw [e1, e2]; exact mb2
      have hB4 : Below p.lo u0 u4 := hB2.trans ((hE3.trans hE4).bel (fun j e => by have e : j = p.wb := e; rw [e]; exact hQ.ok.w1.1) (by omega))
      clear hcw4
      have hwq := hI.wt q (List.mem_of_getElem? hq)
      obtain ⟨i1, hi1⟩ : ∃ i1, Hid (q.1 = i1 + 1) := ⟨q.1 - 1, by show q.1 = q.1 - 1 + 1; omega⟩
      have hi1o := hi1.out
      have hqi : ((q.1 : Nat) : Int) = ((i1 : Nat) : Int) + 1 := by omega
      have hin : 1 ≤ i1 + 1 ∧ i1 + 1 ≤ n := by omega
      have hNi := hQ4.nm (i1 + 1) hin.1 hin.2
      have hnum := hI.num (i1 + 1) hin.1 hin.2
      have hvq : q.2.2.2.size ≤ maxLen := Nat.le_trans hwq.2.1 (by decide)
      have hTk := cTake (p.bs (i1 + 1)) (W.nd (i1 + 1)) q.2.1 q.2.2.1 q.2.2.2 u4.drew hvq hnum.2.2.2.2.w ⟨hNi.c, hNi.h1, hNi.m1, hNi.h2, hNi.m2⟩
      have hS := take_stp hnum.2.2.2.2 q.2.1 q.2.2.1 q.2.2.2
      obtain ⟨y, hy⟩ : ∃ y, Hid ((W.nd (i1 + 1)).take q.2.1 q.2.2.1 q.2.2.2 = y) := ⟨_, rfl⟩
      rw [hy.out] at hTk hS
      have hlen4 : (W.wait.take k ++ W.wait.drop (k + 1)).length = L - 1 := by rw [List.length_append, List.length_take, List.length_drop, eL.out]; omega
      have hQd : WQ p t bad n tb' mb' v60 v70 u4.drew { W with wait := W.wait.take k ++ W.wait.drop (k + 1) } := hQ4.ex (A := fun _ => False) ⟨rfl, rfl, rfl, Nat.le_refl _, fun _ _ _ => rfl⟩ (fun _ e => e.elim)
      have htb4 : v60 ≠ nilS → tb' < u4.drew.heap.size := fun h => (hQd.ot.lt h).2
      have hmb4 : v70 ≠ nilS → mb' < u4.drew.heap.size := fun h => (hQd.om.lt h).2
      have hlo4 : p.lo ≤ u4.drew.heap.size := by show p.lo ≤ u4.heap.size; omega
      have hAll := fun (w5 : World) (r : Value) (hk : Kp (p.bs (i1 + 1)) (p.bs (i1 + 1) + 7) u4.drew w5) (hN : NM w5 (p.bs (i1 + 1)) y.1) (hO : OutM u4.drew.heap.size w5 r y.2) => cAllO hQd.ok (hQd.node hin.1 hin.2 hk hN) htb4 hmb4 hO hn (by show (W.wait.take k ++ W.wait.drop (k + 1)).length + (n - bad) ≤ 1000; have := eL.out; omega) (fun m hm => by
        have hme := hnum.2.2.1
        rcases hS.o with ⟨e, _⟩ | ⟨e, _⟩ | ⟨e, _⟩
        · rw [hm] at e; cases e
        · rw [hm] at e; cases e
          exact .inr ⟨.inl rfl, by show 1 ≤ (W.nd (i1 + 1)).me; omega, by show (W.nd (i1 + 1)).me ≤ n; omega⟩
        · rw [hm] at e; cases e
          exact .inr ⟨.inr rfl, by show 1 ≤ (W.nd (i1 + 1)).me; omega, by show (W.nd (i1 + 1)).me ≤ n; omega⟩) (fun m hm _ => by
        have hme := hnum.2.2.1
        have h2 := hI.s2 (i1 + 1) (by omega) hin.2
        have h3 := hI.s3 (i1 + 1) (by omega) hin.2
        show 0 ≤ W.sent (2 * m.2.1 + m.1 - 2).toNat ∧ W.sent (2 * m.2.1 + m.1 - 2).toNat ≤ 1000
        rcases hS.o with ⟨e, _⟩ | ⟨e, _⟩ | ⟨e, _⟩
        · rw [hm] at e; cases e
        · rw [hm] at e; cases e
          rw [show (2 * (W.nd (i1 + 1)).me + 2 - 2).toNat = 2 * (i1 + 1) by omega, h2]
          split <;> omega
        · rw [hm] at e; cases e
          rw [show (2 * (W.nd (i1 + 1)).me + 3 - 2).toNat = 2 * (i1 + 1) + 1 by omega, h3]
          split <;> omega) (Nat.le_trans hlo4 hk.size)
      have hst := InvB.step (t := t) (dl := dl) (vl := vl) (W := { W with wait := W.wait.take k ++ W.wait.drop (k + 1) }) (L := W.wait) ⟨hI.dr, hI.num, hI.wt, hI.ec, hI.rd, hI.rq, hI.dq, hI.te, hI.tr, hI.s2, hI.s3, hI.vs, hI.ts⟩ hb (i := i1 + 1) (by omega) hin.2 q.2.1 q.2.2.1 q.2.2.2 hwq.2.1 (.inr hwq.2) (fun z hz => by
        rcases List.mem_append.1 hz with hz | hz
        · exact List.mem_of_mem_take hz
        · exact List.mem_of_mem_drop hz) (fun z hz => by
        obtain ⟨j, hj⟩ := List.getElem?_of_mem hz
        by_cases e : j = k
        · subst e
          rw [hq] at hj; cases hj
          exact .inr (by rw [← hi1.out])
        · left
          by_cases e2 : j < k
          · exact List.mem_append_left _ (List.mem_of_getElem? (i := j) (by rw [List.getElem?_take_of_lt e2]; exact hj))
          · exact List.mem_append_right _ (List.mem_of_getElem? (i := j - (k + 1)) (by rw [List.getElem?_drop, show k + 1 + (j - (k + 1)) = j by omega]; exact hj)))
      have hpot := Wd.pot_step (bad := bad) (n := n) (W := { W with wait := W.wait.take k ++ W.wait.drop (k + 1) }) (i := i1 + 1) (by omega) hin.2 hnum.2.2.2.2 q.2.1 q.2.2.1 q.2.2.2
      have hpot1 : Wd.pot bad n { W with wait := W.wait.take k ++ W.wait.drop (k + 1) } + 1 = W.pot bad n := by
        have q1 : ∀ l, Wd.pot bad n { W with wait := l } = l.length + (n - bad) * sumN (fun j => un (W.nd (bad + 1 + j))) (n - bad) := fun _ => rfl
        have q2 : W.pot bad n = W.wait.length + (n - bad) * sumN (fun j => un (W.nd (bad + 1 + j))) (n - bad) := rfl
        rw [q1, q2, hlen4]
        have := eL.out
        generalize (n - bad) * sumN (fun j => un (W.nd (bad + 1 + j))) (n - bad) = z
        omega
      have hsw : (Wd.step bad n { W with wait := W.wait.take k ++ W.wait.drop (k + 1) } (i1 + 1) (q.2.1, q.2.2.1, q.2.2.2)) = Wd.all bad n { nd := upN W.nd (i1 + 1) y.1, wait := W.wait.take k ++ W.wait.drop (k + 1), sent := W.sent } y.2 := by rw [← hy.out]; rfl
      rw [hsw] at hst hpot
      rw [hqi]
      have hcc := hQ4.cw
      have c3 := (hcc 3 _ rfl).1
      have cn := hQ4.nr i1 (by omega)
      have cn1 := hQ4.ok.c1
      have hi1n : ((i1 : Nat) : Int) < (n : Int) := by omega
      have m0 := (hb6 0 _ rfl).1
      have m1 := (hb6 1 _ rfl).1
      have m2 := (hb6 2 _ rfl).1
      have ew := wr64 (n := ((i1 : Nat) : Int) + 1 - 1) (by omega)
      have ew2 := wr64 (n := ((i1 : Nat) : Int)) (by omega)
      have hBd : Below p.lo u0 u4.drew := hB4.drew
      go_upto_region 5 with fail
      go_region_with (first | (go_at_call 14; refine hTk.mono ?_; rintro e w5 ⟨r, rfl, hk5, hN5, hO5⟩; have hal := hAll w5 r hk5 hN5 hO5) | (go_at_call 21; refine hal.mono ?_; rintro e w6 ⟨rfl, hW6, hB6, _⟩))
      all_goals
        go_wp2
        refine bodyPost_end (v := .tuple #[]) (by simp [results, Try.results37, go_sem]) rfl ⟨rfl, _, hW6, hst, by omega, (hBd.trans (hk5.bel (hQd.ok.b1 (i1 + 1) hin.1 hin.2).1 hlo4)).trans hB6⟩
end Go.Proofs.Ythncmahhnbpbkaa
