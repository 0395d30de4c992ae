/- Cast: of a dealer that does as it should all deliver its value, walked. -/
import Derived.Test.YthncmahhnbpbkaaKWE
namespace Go.Proofs.Ythncmahhnbpbkaa
open Go.RowKit
set_option linter.unusedVariables false
set_option linter.unusedSimpArgs false
set_option maxRecDepth 100000
set_option maxHeartbeats 8000000 in
theorem cTold (x : Int) (s : ByteArray) (w : World) (sl : Option Addr) (len cap gb go : Nat) (f : Nat → List Value) (hl : len ≤ 9223372036854775807) (hsl : 0 < len → sl = some ⟨gb, go, none⟩ ∧ gb < w.heap.size) (hR : Rows w gb go 6 f len) (hf : ∀ i, i < len → MovC (f i)) :
    Calls Try.prog 6 #[.int .i64 x, .string s, .slice sl len cap] w fun e' u' => e' = .returned (.bool true) ∧ Below w.heap.size w u' := by
  have am := amN_lt x (n := 3) (by omega)
  obtain ⟨t, ht⟩ : ∃ t : Nat, Hid (amN x 3 = t) := ⟨_, rfl⟩
  have hA : ∀ u, Calls Try.prog 19 #[.int .i64 x, .int .i64 3] u fun e' w' => e' = .returned (.int .i64 (t : Int)) ∧ w' = u := fun u => by
    rw [← ht.out]; exact cAm x 3 3 u rfl (by omega)
  have hto := ht.out
  obtain ⟨n1, hn1⟩ : ∃ n1 : Nat, Hid (3 * t = n1) := ⟨_, rfl⟩
  have hn1o := hn1.out
  obtain ⟨n, hn⟩ : ∃ n : Nat, Hid (3 * t + 1 = n) := ⟨_, rfl⟩
  have hno := hn.out
  have g : WN t t n 100 := ⟨by omega, by omega, by omega⟩
  have g2 : WN t t n 200 := ⟨by omega, by omega, by omega⟩
  have hmd : ∀ u : World, Calls Try.prog 20 #[.int .i64 (t : Int), .int .i64 (t : Int), .int .i64 (3 * (t : Int) + 1)] u _ := fun u => by
    rw [show 3 * (t : Int) + 1 = (n : Int) by omega]
    exact cMade t t n n u (by omega) (by omega) (by omega) (by omega)
  have et : Hid (t ≤ 2 ∧ n ≤ 7 ∧ t < n ∧ n1 + 1 = n) := ⟨by omega, by omega, by omega, by omega⟩
  have e1 := wr64 (n := 3 * (t : Int)) (by omega)
  have e2 := wr64 (n := 3 * (t : Int) + 1) (by omega)
  obtain ⟨q, hq5⟩ : ∃ q : Nat, Hid (min 50 s.size = q) := ⟨_, rfl⟩
  have hqo := hq5.out
  have hif : (if (50 : Int) < (s.size : Int) then (50 : Int) else (s.size : Int)) = (q : Int) := by split <;> omega
  have hq50 : q ≤ 50 := by omega
  have hq0 : (0 : Int) ≤ (q : Int) := by omega
  have hq1 : (q : Int) ≤ (s.size : Int) := by omega
  clear hto hno am hn1o hqo
  go_enter Try.func6, Try.ntmps6
  go_upto_region 8 with (first | (go_at_call 11; refine (cWorks _).mono ?_; rintro e w1 ⟨rfl, hB1⟩) | (go_at_call 19; refine (hA _).mono ?_; rintro e w2 ⟨rfl, hw2⟩; rw [hw2]; clear hw2) | (go_at_call 20; refine (hmd _).mono ?_; rintro e w3 ⟨p, rfl, hp, hB3, hW3⟩))
  obtain ⟨v, hv⟩ : ∃ v, Hid (v = s.extract 0 q) := ⟨_, rfl⟩
  rw [← hv.out]
  have hv50 : v.size ≤ 50 := by rw [hv.out]; simp [ByteArray.size_extract]; omega
  have hs1 := hB1.size
  obtain ⟨c0, c2, c3, hcn⟩ := hW3.m.cells
  have hto := et.out
  have cn : w3.cell? ⟨p.nb, n1, none⟩ = some (pN (p.bs n)) := by
    have := (hcn n1 (by omega)).1
    rw [hto.2.2.2] at this; exact this
  have hcc := hW3.m.ok.c1
  have hok := hW3.m.ok
  have hb7 : p.bs n + 7 ≤ w3.heap.size := (hok.b1 n (by omega) (by omega)).2
  have hSk : ∀ u : World, Kp (p.bs n) (p.bs n + 7) w3 u → u.cell? ⟨p.wb, 3, none⟩ = some (.slice (some ⟨p.nb, 0, none⟩) n p.cn) ∧ u.cell? ⟨p.wb, 0, none⟩ = some (.int .i64 (n : Int)) ∧ u.cell? ⟨p.nb, n1, none⟩ = some (pN (p.bs n)) := fun u hk => by
    have d2 := hok.d2 n (by omega) (by omega)
    exact ⟨(World.cell?_of_block (w := w3) (a := ⟨p.wb, 3, none⟩) (hk.block _ hok.w1.2 d2.1)).trans c3, (World.cell?_of_block (w := w3) (a := ⟨p.wb, 0, none⟩) (hk.block _ hok.w1.2 d2.1)).trans c0, (World.cell?_of_block (w := w3) (a := ⟨p.nb, n1, none⟩) (hk.block _ hok.n1.2 d2.2.1)).trans cn⟩
  have hSt := fun (u : World) (hB : Below w3.heap.size w3 u) => cStart1 hW3 ⟨by omega, by omega⟩ v (by omega) u hB
  have j1 := wr64 (n := (n : Int) - 1) (by omega)
  have j2 : (0 : Int) ≤ (n : Int) - 1 := by omega
  have j3 : (n : Int) - 1 < (n : Int) := by omega
  have j4 : ((n : Int) - 1).toNat = n1 := by omega
  have j5 : (1 : Int) ≤ (n : Int) := by omega
  have j6 : 1 ≤ n := by omega
  have j7 : 0 < n := by omega
  have j8 : (0 : Int) < (n : Int) := by omega
  have j9 : n - 1 = n1 := by omega
  have j10 : n - 1 < n := by omega
  clear hcn c2 hA hmd hif hq0 hq1 e1 e2
  go_region_held3 (fun u => u.cell? ⟨p.wb, 3, none⟩ = some (.slice (some ⟨p.nb, 0, none⟩) n p.cn) ∧ u.cell? ⟨p.wb, 0, none⟩ = some (.int .i64 (n : Int)) ∧ u.cell? ⟨p.nb, n1, none⟩ = some (pN (p.bs n))) (first | exact hSk _ (Kp.refl _ _ _).drew | exact hSk _ ((Kp.refl _ _ _).drew.alloc _) | exact hSk _ ((Kp.refl _ _ _).drew.trans hk5) | exact hSk _ (((Kp.refl _ _ _).drew.alloc _).trans hk5) | exact hSk _ (((Kp.refl _ _ _).drew.trans hk5).alloc _) | exact hSk _ ((((((Kp.refl _ _ _).drew.alloc _).trans hk5).cellN (Nat.le_refl _) _).cellN (Nat.le_refl _) _).cellN (Nat.le_refl _) _) | go_keep) (first | (go_at_call 12; refine (hSt _ (by first | exact (bself w3).drew | exact balloc (bself w3).drew _)).mono ?_; rintro e w5 ⟨rfl, hk5, hM5⟩; try (have z : CV w5 w3.heap.size [.int .i64 0, .int .i64 0, .string noS] := (CV.new w3.drew [.int .i64 0, .int .i64 0, .string noS] 32).kp hk5 (by rw [World.size_alloc]; exact Nat.lt_succ_self _) (.inr hb7); have z0 := (z 0 _ rfl).1; have z1 := (z 1 _ rfl).1; have z2 := (z 2 _ rfl).1; have y0 := (z 0 _ rfl).2; have y1 := (z 1 _ rfl).2; have y2 := (z 2 _ rfl).2)) | fail)
  · skip
    obtain ⟨wX, hwX⟩ : ∃ x, Hid (x = (w5.alloc (.cells #[.int .i64 1, .int .i64 (n : Int), .string v] 32))) := ⟨_, rfl⟩
    rw [← hwX.out]
    have hkX : Kp (p.bs n) (p.bs n + 7) w3 wX := by
      rw [hwX.out]
      exact ((Kp.refl _ _ w3).drew.trans hk5).alloc _
    have hMX : WM p t t n wX (WS n t n) := by
      rw [hwX.out]
      exact hM5 _ (Ex.of_bel (balloc (bself w5) _))
    have hCX : CV wX w5.heap.size (mC (1, (n : Int), v)) := by
      rw [hwX.out]
      exact CV.new w5 (mC (1, (n : Int), v)) _
    have hlX : p.lo ≤ wX.heap.size := by have := hkX.size; have := hW3.lo; omega
    have hBX : Below w1.heap.size w1 wX := hB3.trans (hkX.bel (by rw [← hp]; exact (hok.b1 n (by omega) (by omega)).1) hB3.size)
    have hX := hSk wX hkX
    have hSb : ∀ u : World, Below wX.heap.size wX u → u.cell? ⟨p.wb, 3, none⟩ = some (.slice (some ⟨p.nb, 0, none⟩) n p.cn) ∧ u.cell? ⟨p.wb, 0, none⟩ = some (.int .i64 (n : Int)) ∧ u.cell? ⟨p.nb, n1, none⟩ = some (pN (p.bs n)) := fun u hu => by
      obtain ⟨k1, k2, k3⟩ := hX
      have l1 := hMX.ok.w1.2
      have l2 := hMX.ok.n1.2
      exact ⟨(hu.cell (p := ⟨p.wb, 3, none⟩) l1).trans k1, (hu.cell (p := ⟨p.wb, 0, none⟩) l1).trans k2, (hu.cell (p := ⟨p.nb, n1, none⟩) l2).trans k3⟩
    have hS2 := fun (u : World) (hB : Below wX.heap.size wX u) => cStart2 wX hMX ⟨by omega, by omega⟩ v (by omega) u hB
    have hlC := hCX.lt (by simp)
    go_upto_region 9 with fail
    have hSbX := hSb
    go_region_held3 (fun u => u.cell? ⟨p.wb, 3, none⟩ = some (.slice (some ⟨p.nb, 0, none⟩) n p.cn) ∧ u.cell? ⟨p.wb, 0, none⟩ = some (.int .i64 (n : Int)) ∧ u.cell? ⟨p.nb, n1, none⟩ = some (pN (p.bs n))) (first | exact hSb _ (bself wX).drew | exact hSb _ (balloc (bself wX).drew _) | exact hSb _ (bstep (bself wX).drew hB8) | exact hSb _ (bstep (balloc (bself wX).drew _) hB8) | exact hSb _ (balloc (bstep (bself wX).drew hB8) _) | exact hSb _ (balloc (bself wX) _).drew | exact hSb _ (bstep (balloc (bself wX) _).drew hB8) | exact hSb _ ((((bstep (balloc (bself wX) _).drew hB8).setCell (Nat.le_refl _) _).setCell (Nat.le_refl _) _).setCell (Nat.le_refl _) _) | exact hSb _ ((((bstep (balloc (bself wX).drew _) hB8).setCell (Nat.le_refl _) _).setCell (Nat.le_refl _) _).setCell (Nat.le_refl _) _) | go_keep) (first | (go_at_call 12; refine (hS2 _ (by first | exact (bself wX).drew | exact (balloc (bself wX) _).drew | exact balloc (bself wX).drew _)).mono ?_; rintro e w8 ⟨rfl, hB8⟩; try (have z : CV w8 wX.heap.size [.int .i64 0, .int .i64 0, .string noS] := (CV.new wX.drew [.int .i64 0, .int .i64 0, .string noS] 32).below hB8 (by show wX.heap.size < (wX.alloc _).heap.size; rw [World.size_alloc]; exact Nat.lt_succ_self _); have z0 := (z 0 _ rfl).1; have z1 := (z 1 _ rfl).1; have z2 := (z 2 _ rfl).1; have y0 := (z 0 _ rfl).2; have y1 := (z 1 _ rfl).2; have y2 := (z 2 _ rfl).2)) | fail)
    · skip
      obtain ⟨wY, hwY⟩ : ∃ x, Hid (x = (w8.alloc (.cells #[.int .i64 0, .int .i64 0, .string noS] 32))) := ⟨_, rfl⟩
      rw [← hwY.out]
      have hBY : Below wX.heap.size wX wY := by
        rw [hwY.out]
        exact balloc (bstep (bself wX).drew hB8) _
      have hCY := hCX.below hBY hlC
      have x0 := (hCY 0 _ rfl).1
      have x1 := (hCY 1 _ rfl).1
      have x2 := (hCY 2 _ rfl).1
      have hzY := hBY.size
      have hAll := fun (u : World) (hB : Below wY.heap.size wY u) (hc : CV u wY.heap.size (mC (1, (n : Int), v))) => cStartAll wX hMX hlX hn.out.symm hto.1 (Nat.le_refl _) ⟨hto.2.2.1, Nat.le_refl _⟩ v (by omega) u wY.heap.size (bstep hBY hB) hzY hc
      have hP := fun (u : World) (W6 : Wd) (hW6 : WI p t t n n (some v) 200 u W6) (hB : Below w1.heap.size w1 u) => playMade hp hB1 hB hW6 g2 hto.2.2.1 sl len cap gb go f hl hsl hR hf
      clear hCX hCY hSt hSk hSb hSbX hS2 cn c3 c0 hM5 hX
      go_upto_region 14 with (first | (go_at_call 21; refine (hAll _ (by exact balloc (bself wY) _) (by exact CV.new wY (mC (1, (n : Int), v)) _)).mono ?_; rintro e w6 ⟨rfl, ⟨W6, hW6⟩, hB6⟩) | (go_at_call 22; refine (hP _ W6 hW6 (((hBX.trans (hBY.mono (by rw [← hp]; exact hlX))).trans ((balloc (bself wY) _).mono (by rw [← hp]; exact Nat.le_trans hlX hzY))).trans (hB6.mono (by rw [hp]; exact Nat.le_refl _)))).mono ?_; rintro e w7 ⟨rfl, ⟨W7, hW7⟩, hB7⟩; have hF := cFinish hW7 g2) | (go_at_call 23; refine hF.mono ?_; rintro e w9 ⟨rfl, W9, hW9, hB9, hwt⟩))
      have hBl : Below w.heap.size w w9 := hB7.trans (hB9.mono (by rw [hp]; exact hs1))
      have hI9 := hW9.i
      rw [hwt] at hI9
      have hdv : ∀ j, t < j → j ≤ n → (W9.nd j).d = some v := fun j j1 j2 => hI9.told (Nat.le_refl _) hn.out.symm hto.2.2.1 ⟨j1, j2⟩
      obtain ⟨d0, d2, d3, _⟩ := hW9.m.cells
      clear hAll hP hF x0 x1 x2
      go_wp2_with fail
      go_loopw [12] (fun s12 wr => ∃ j : Nat, t ≤ j ∧ j ≤ n ∧ s12 = .int .i64 (j : Int) ∧ Below w9.heap.size w9 wr) (fun s12 _ => n - (intOf s12).toNat)
      case atStart => exact ⟨t, Nat.le_refl _, by omega, rfl, bself w9⟩
      case round =>
        obtain ⟨j, hj1, hj2, rfl, hBr⟩ := hrel
        obtain ⟨f0, f2, f3, hcells⟩ := (hW9.m.below hBr).cells
        by_cases hjn : j < n
        · have hjc : (j : Int) < (n : Int) := by omega
          obtain ⟨r0, r1, r2, r3⟩ := hcells j hjn
          have hnum := hW9.i.num (j + 1) (by omega) (by omega)
          have hV := cValue (p.bs (j + 1) + 6) _ _ _ wr r1 r2 r3 (by have := hnum.1; omega)
          rw [hdv (j + 1) (by omega) (by omega)] at hV
          have hV : Calls Try.prog 16 #[.pointer (some ⟨p.bs (j + 1) + 6, 0, none⟩)] wr fun e' w' => e' = .returned (.tuple #[.string v, .bool true]) ∧ Below wr.heap.size wr w' := hV
          have ew := wr64 (n := (j : Int) + 1) (by omega)
          have hjx : (0 : Int) ≤ (j : Int) := by omega
          clear hcells r1 r2 r3 d0 d2 d3
          go_wp2_with (first | (go_at_call 16; refine hV.mono ?_; rintro e w10 ⟨rfl, hB10⟩))
          exact ⟨⟨j + 1, by omega, by omega, by simp, bstep hBr hB10⟩, by simp [intOf]; omega⟩
        · have hjc : ¬ (j : Int) < (n : Int) := by omega
          clear hcells d0 d2 d3
          go_wp2
          refine bodyPost_ret (v := .bool true) (by simp [results, Try.results6, go_sem]) rfl ⟨rfl, bstep hBl hBr⟩
    · skip
      obtain ⟨wY, hwY⟩ : ∃ x, Hid (x = (((w8.setCell ⟨wX.heap.size, 0, none⟩ (.int .i64 0)).setCell ⟨wX.heap.size, 1, none⟩ (.int .i64 0)).setCell ⟨wX.heap.size, 2, none⟩ (.string noS))) := ⟨_, rfl⟩
      rw [← hwY.out]
      have hBY : Below wX.heap.size wX wY := by
        rw [hwY.out]
        exact (((bstep (balloc (bself wX) _).drew hB8).setCell (Nat.le_refl _) _).setCell (Nat.le_refl _) _).setCell (Nat.le_refl _) _
      clear z z0 z1 z2 y0 y1 y2
      have hCY := hCX.below hBY hlC
      have x0 := (hCY 0 _ rfl).1
      have x1 := (hCY 1 _ rfl).1
      have x2 := (hCY 2 _ rfl).1
      have hzY := hBY.size
      have hAll := fun (u : World) (hB : Below wY.heap.size wY u) (hc : CV u wY.heap.size (mC (1, (n : Int), v))) => cStartAll wX hMX hlX hn.out.symm hto.1 (Nat.le_refl _) ⟨hto.2.2.1, Nat.le_refl _⟩ v (by omega) u wY.heap.size (bstep hBY hB) hzY hc
      have hP := fun (u : World) (W6 : Wd) (hW6 : WI p t t n n (some v) 200 u W6) (hB : Below w1.heap.size w1 u) => playMade hp hB1 hB hW6 g2 hto.2.2.1 sl len cap gb go f hl hsl hR hf
      clear hCX hCY hSt hSk hSb hSbX hS2 cn c3 c0 hM5 hX
      go_upto_region 14 with (first | (go_at_call 21; refine (hAll _ (by exact balloc (bself wY) _) (by exact CV.new wY (mC (1, (n : Int), v)) _)).mono ?_; rintro e w6 ⟨rfl, ⟨W6, hW6⟩, hB6⟩) | (go_at_call 22; refine (hP _ W6 hW6 (((hBX.trans (hBY.mono (by rw [← hp]; exact hlX))).trans ((balloc (bself wY) _).mono (by rw [← hp]; exact Nat.le_trans hlX hzY))).trans (hB6.mono (by rw [hp]; exact Nat.le_refl _)))).mono ?_; rintro e w7 ⟨rfl, ⟨W7, hW7⟩, hB7⟩; have hF := cFinish hW7 g2) | (go_at_call 23; refine hF.mono ?_; rintro e w9 ⟨rfl, W9, hW9, hB9, hwt⟩))
      have hBl : Below w.heap.size w w9 := hB7.trans (hB9.mono (by rw [hp]; exact hs1))
      have hI9 := hW9.i
      rw [hwt] at hI9
      have hdv : ∀ j, t < j → j ≤ n → (W9.nd j).d = some v := fun j j1 j2 => hI9.told (Nat.le_refl _) hn.out.symm hto.2.2.1 ⟨j1, j2⟩
      obtain ⟨d0, d2, d3, _⟩ := hW9.m.cells
      clear hAll hP hF x0 x1 x2
      go_wp2_with fail
      go_loopw [12] (fun s12 wr => ∃ j : Nat, t ≤ j ∧ j ≤ n ∧ s12 = .int .i64 (j : Int) ∧ Below w9.heap.size w9 wr) (fun s12 _ => n - (intOf s12).toNat)
      case atStart => exact ⟨t, Nat.le_refl _, by omega, rfl, bself w9⟩
      case round =>
        obtain ⟨j, hj1, hj2, rfl, hBr⟩ := hrel
        obtain ⟨f0, f2, f3, hcells⟩ := (hW9.m.below hBr).cells
        by_cases hjn : j < n
        · have hjc : (j : Int) < (n : Int) := by omega
          obtain ⟨r0, r1, r2, r3⟩ := hcells j hjn
          have hnum := hW9.i.num (j + 1) (by omega) (by omega)
          have hV := cValue (p.bs (j + 1) + 6) _ _ _ wr r1 r2 r3 (by have := hnum.1; omega)
          rw [hdv (j + 1) (by omega) (by omega)] at hV
          have hV : Calls Try.prog 16 #[.pointer (some ⟨p.bs (j + 1) + 6, 0, none⟩)] wr fun e' w' => e' = .returned (.tuple #[.string v, .bool true]) ∧ Below wr.heap.size wr w' := hV
          have ew := wr64 (n := (j : Int) + 1) (by omega)
          have hjx : (0 : Int) ≤ (j : Int) := by omega
          clear hcells r1 r2 r3 d0 d2 d3
          go_wp2_with (first | (go_at_call 16; refine hV.mono ?_; rintro e w10 ⟨rfl, hB10⟩))
          exact ⟨⟨j + 1, by omega, by omega, by simp, bstep hBr hB10⟩, by simp [intOf]; omega⟩
        · have hjc : ¬ (j : Int) < (n : Int) := by omega
          clear hcells d0 d2 d3
          go_wp2
          refine bodyPost_ret (v := .bool true) (by simp [results, Try.results6, go_sem]) rfl ⟨rfl, bstep hBl hBr⟩
  · skip
    obtain ⟨wX, hwX⟩ : ∃ x, Hid (x = (((w5.setCell ⟨w3.heap.size, 0, none⟩ (.int .i64 1)).setCell ⟨w3.heap.size, 1, none⟩ (.int .i64 (n : Int))).setCell ⟨w3.heap.size, 2, none⟩ (.string v))) := ⟨_, rfl⟩
    rw [← hwX.out]
    have hkX : Kp (p.bs n) (p.bs n + 7) w3 wX := by
      rw [hwX.out]
      exact ((((((Kp.refl _ _ w3).drew.alloc _).trans hk5).cellN (q := ⟨w3.heap.size, 0, none⟩) (Nat.le_refl _) _).cellN (q := ⟨w3.heap.size, 1, none⟩) (Nat.le_refl _) _).cellN (q := ⟨w3.heap.size, 2, none⟩) (Nat.le_refl _) _)
    have hMX : WM p t t n wX (WS n t n) := by
      rw [hwX.out]
      exact hM5 _ ((((Ex.refl _ w5).cell (p := ⟨w3.heap.size, 0, none⟩) (Nat.le_refl _) _).cell (p := ⟨w3.heap.size, 1, none⟩) (Nat.le_refl _) _).cell (p := ⟨w3.heap.size, 2, none⟩) (Nat.le_refl _) _)
    have hCX : CV wX w3.heap.size (mC (1, (n : Int), v)) := by
      rw [hwX.out]
      exact ((z.setC 0 (by simp) (.int .i64 1)).setC 1 (by simp) (.int .i64 (n : Int))).setC 2 (by simp) (.string v)
    clear z z0 z1 z2 y0 y1 y2
    have hlX : p.lo ≤ wX.heap.size := by have := hkX.size; have := hW3.lo; omega
    have hBX : Below w1.heap.size w1 wX := hB3.trans (hkX.bel (by rw [← hp]; exact (hok.b1 n (by omega) (by omega)).1) hB3.size)
    have hX := hSk wX hkX
    have hSb : ∀ u : World, Below wX.heap.size wX u → u.cell? ⟨p.wb, 3, none⟩ = some (.slice (some ⟨p.nb, 0, none⟩) n p.cn) ∧ u.cell? ⟨p.wb, 0, none⟩ = some (.int .i64 (n : Int)) ∧ u.cell? ⟨p.nb, n1, none⟩ = some (pN (p.bs n)) := fun u hu => by
      obtain ⟨k1, k2, k3⟩ := hX
      have l1 := hMX.ok.w1.2
      have l2 := hMX.ok.n1.2
      exact ⟨(hu.cell (p := ⟨p.wb, 3, none⟩) l1).trans k1, (hu.cell (p := ⟨p.wb, 0, none⟩) l1).trans k2, (hu.cell (p := ⟨p.nb, n1, none⟩) l2).trans k3⟩
    have hS2 := fun (u : World) (hB : Below wX.heap.size wX u) => cStart2 wX hMX ⟨by omega, by omega⟩ v (by omega) u hB
    have hlC := hCX.lt (by simp)
    go_upto_region 9 with fail
    have hSbX := hSb
    go_region_held3 (fun u => u.cell? ⟨p.wb, 3, none⟩ = some (.slice (some ⟨p.nb, 0, none⟩) n p.cn) ∧ u.cell? ⟨p.wb, 0, none⟩ = some (.int .i64 (n : Int)) ∧ u.cell? ⟨p.nb, n1, none⟩ = some (pN (p.bs n))) (first | exact hSb _ (bself wX).drew | exact hSb _ (balloc (bself wX).drew _) | exact hSb _ (bstep (bself wX).drew hB8) | exact hSb _ (bstep (balloc (bself wX).drew _) hB8) | exact hSb _ (balloc (bstep (bself wX).drew hB8) _) | exact hSb _ (balloc (bself wX) _).drew | exact hSb _ (bstep (balloc (bself wX) _).drew hB8) | exact hSb _ ((((bstep (balloc (bself wX) _).drew hB8).setCell (Nat.le_refl _) _).setCell (Nat.le_refl _) _).setCell (Nat.le_refl _) _) | exact hSb _ ((((bstep (balloc (bself wX).drew _) hB8).setCell (Nat.le_refl _) _).setCell (Nat.le_refl _) _).setCell (Nat.le_refl _) _) | go_keep) (first | (go_at_call 12; refine (hS2 _ (by first | exact (bself wX).drew | exact (balloc (bself wX) _).drew | exact balloc (bself wX).drew _)).mono ?_; rintro e w8 ⟨rfl, hB8⟩; try (have z : CV w8 wX.heap.size [.int .i64 0, .int .i64 0, .string noS] := (CV.new wX.drew [.int .i64 0, .int .i64 0, .string noS] 32).below hB8 (by show wX.heap.size < (wX.alloc _).heap.size; rw [World.size_alloc]; exact Nat.lt_succ_self _); have z0 := (z 0 _ rfl).1; have z1 := (z 1 _ rfl).1; have z2 := (z 2 _ rfl).1; have y0 := (z 0 _ rfl).2; have y1 := (z 1 _ rfl).2; have y2 := (z 2 _ rfl).2)) | fail)
    · skip
      obtain ⟨wY, hwY⟩ : ∃ x, Hid (x = (w8.alloc (.cells #[.int .i64 0, .int .i64 0, .string noS] 32))) := ⟨_, rfl⟩
      rw [← hwY.out]
      have hBY : Below wX.heap.size wX wY := by
        rw [hwY.out]
        exact balloc (bstep (bself wX).drew hB8) _
      have hCY := hCX.below hBY hlC
      have x0 := (hCY 0 _ rfl).1
      have x1 := (hCY 1 _ rfl).1
      have x2 := (hCY 2 _ rfl).1
      have hzY := hBY.size
      have hAll := fun (u : World) (hB : Below wY.heap.size wY u) (hc : CV u wY.heap.size (mC (1, (n : Int), v))) => cStartAll wX hMX hlX hn.out.symm hto.1 (Nat.le_refl _) ⟨hto.2.2.1, Nat.le_refl _⟩ v (by omega) u wY.heap.size (bstep hBY hB) hzY hc
      have hP := fun (u : World) (W6 : Wd) (hW6 : WI p t t n n (some v) 200 u W6) (hB : Below w1.heap.size w1 u) => playMade hp hB1 hB hW6 g2 hto.2.2.1 sl len cap gb go f hl hsl hR hf
      clear hCX hCY hSt hSk hSb hSbX hS2 cn c3 c0 hM5 hX
      go_upto_region 14 with (first | (go_at_call 21; refine (hAll _ (by exact balloc (bself wY) _) (by exact CV.new wY (mC (1, (n : Int), v)) _)).mono ?_; rintro e w6 ⟨rfl, ⟨W6, hW6⟩, hB6⟩) | (go_at_call 22; refine (hP _ W6 hW6 (((hBX.trans (hBY.mono (by rw [← hp]; exact hlX))).trans ((balloc (bself wY) _).mono (by rw [← hp]; exact Nat.le_trans hlX hzY))).trans (hB6.mono (by rw [hp]; exact Nat.le_refl _)))).mono ?_; rintro e w7 ⟨rfl, ⟨W7, hW7⟩, hB7⟩; have hF := cFinish hW7 g2) | (go_at_call 23; refine hF.mono ?_; rintro e w9 ⟨rfl, W9, hW9, hB9, hwt⟩))
      have hBl : Below w.heap.size w w9 := hB7.trans (hB9.mono (by rw [hp]; exact hs1))
      have hI9 := hW9.i
      rw [hwt] at hI9
      have hdv : ∀ j, t < j → j ≤ n → (W9.nd j).d = some v := fun j j1 j2 => hI9.told (Nat.le_refl _) hn.out.symm hto.2.2.1 ⟨j1, j2⟩
      obtain ⟨d0, d2, d3, _⟩ := hW9.m.cells
      clear hAll hP hF x0 x1 x2
      go_wp2_with fail
      go_loopw [12] (fun s12 wr => ∃ j : Nat, t ≤ j ∧ j ≤ n ∧ s12 = .int .i64 (j : Int) ∧ Below w9.heap.size w9 wr) (fun s12 _ => n - (intOf s12).toNat)
      case atStart => exact ⟨t, Nat.le_refl _, by omega, rfl, bself w9⟩
      case round =>
        obtain ⟨j, hj1, hj2, rfl, hBr⟩ := hrel
        obtain ⟨f0, f2, f3, hcells⟩ := (hW9.m.below hBr).cells
        by_cases hjn : j < n
        · have hjc : (j : Int) < (n : Int) := by omega
          obtain ⟨r0, r1, r2, r3⟩ := hcells j hjn
          have hnum := hW9.i.num (j + 1) (by omega) (by omega)
          have hV := cValue (p.bs (j + 1) + 6) _ _ _ wr r1 r2 r3 (by have := hnum.1; omega)
          rw [hdv (j + 1) (by omega) (by omega)] at hV
          have hV : Calls Try.prog 16 #[.pointer (some ⟨p.bs (j + 1) + 6, 0, none⟩)] wr fun e' w' => e' = .returned (.tuple #[.string v, .bool true]) ∧ Below wr.heap.size wr w' := hV
          have ew := wr64 (n := (j : Int) + 1) (by omega)
          have hjx : (0 : Int) ≤ (j : Int) := by omega
          clear hcells r1 r2 r3 d0 d2 d3
          go_wp2_with (first | (go_at_call 16; refine hV.mono ?_; rintro e w10 ⟨rfl, hB10⟩))
          exact ⟨⟨j + 1, by omega, by omega, by simp, bstep hBr hB10⟩, by simp [intOf]; omega⟩
        · have hjc : ¬ (j : Int) < (n : Int) := by omega
          clear hcells d0 d2 d3
          go_wp2
          refine bodyPost_ret (v := .bool true) (by simp [results, Try.results6, go_sem]) rfl ⟨rfl, bstep hBl hBr⟩
    · skip
      obtain ⟨wY, hwY⟩ : ∃ x, Hid (x = (((w8.setCell ⟨wX.heap.size, 0, none⟩ (.int .i64 0)).setCell ⟨wX.heap.size, 1, none⟩ (.int .i64 0)).setCell ⟨wX.heap.size, 2, none⟩ (.string noS))) := ⟨_, rfl⟩
      rw [← hwY.out]
      have hBY : Below wX.heap.size wX wY := by
        rw [hwY.out]
        exact (((bstep (balloc (bself wX) _).drew hB8).setCell (Nat.le_refl _) _).setCell (Nat.le_refl _) _).setCell (Nat.le_refl _) _
      clear z z0 z1 z2 y0 y1 y2
      have hCY := hCX.below hBY hlC
      have x0 := (hCY 0 _ rfl).1
      have x1 := (hCY 1 _ rfl).1
      have x2 := (hCY 2 _ rfl).1
      have hzY := hBY.size
      have hAll := fun (u : World) (hB : Below wY.heap.size wY u) (hc : CV u wY.heap.size (mC (1, (n : Int), v))) => cStartAll wX hMX hlX hn.out.symm hto.1 (Nat.le_refl _) ⟨hto.2.2.1, Nat.le_refl _⟩ v (by omega) u wY.heap.size (bstep hBY hB) hzY hc
      have hP := fun (u : World) (W6 : Wd) (hW6 : WI p t t n n (some v) 200 u W6) (hB : Below w1.heap.size w1 u) => playMade hp hB1 hB hW6 g2 hto.2.2.1 sl len cap gb go f hl hsl hR hf
      clear hCX hCY hSt hSk hSb hSbX hS2 cn c3 c0 hM5 hX
      go_upto_region 14 with (first | (go_at_call 21; refine (hAll _ (by exact balloc (bself wY) _) (by exact CV.new wY (mC (1, (n : Int), v)) _)).mono ?_; rintro e w6 ⟨rfl, ⟨W6, hW6⟩, hB6⟩) | (go_at_call 22; refine (hP _ W6 hW6 (((hBX.trans (hBY.mono (by rw [← hp]; exact hlX))).trans ((balloc (bself wY) _).mono (by rw [← hp]; exact Nat.le_trans hlX hzY))).trans (hB6.mono (by rw [hp]; exact Nat.le_refl _)))).mono ?_; rintro e w7 ⟨rfl, ⟨W7, hW7⟩, hB7⟩; have hF := cFinish hW7 g2) | (go_at_call 23; refine hF.mono ?_; rintro e w9 ⟨rfl, W9, hW9, hB9, hwt⟩))
      have hBl : Below w.heap.size w w9 := hB7.trans (hB9.mono (by rw [hp]; exact hs1))
      have hI9 := hW9.i
      rw [hwt] at hI9
      have hdv : ∀ j, t < j → j ≤ n → (W9.nd j).d = some v := fun j j1 j2 => hI9.told (Nat.le_refl _) hn.out.symm hto.2.2.1 ⟨j1, j2⟩
      obtain ⟨d0, d2, d3, _⟩ := hW9.m.cells
      clear hAll hP hF x0 x1 x2
      go_wp2_with fail
      go_loopw [12] (fun s12 wr => ∃ j : Nat, t ≤ j ∧ j ≤ n ∧ s12 = .int .i64 (j : Int) ∧ Below w9.heap.size w9 wr) (fun s12 _ => n - (intOf s12).toNat)
      case atStart => exact ⟨t, Nat.le_refl _, by omega, rfl, bself w9⟩
      case round =>
        obtain ⟨j, hj1, hj2, rfl, hBr⟩ := hrel
        obtain ⟨f0, f2, f3, hcells⟩ := (hW9.m.below hBr).cells
        by_cases hjn : j < n
        · have hjc : (j : Int) < (n : Int) := by omega
          obtain ⟨r0, r1, r2, r3⟩ := hcells j hjn
          have hnum := hW9.i.num (j + 1) (by omega) (by omega)
          have hV := cValue (p.bs (j + 1) + 6) _ _ _ wr r1 r2 r3 (by have := hnum.1; omega)
          rw [hdv (j + 1) (by omega) (by omega)] at hV
          have hV : Calls Try.prog 16 #[.pointer (some ⟨p.bs (j + 1) + 6, 0, none⟩)] wr fun e' w' => e' = .returned (.tuple #[.string v, .bool true]) ∧ Below wr.heap.size wr w' := hV
          have ew := wr64 (n := (j : Int) + 1) (by omega)
          have hjx : (0 : Int) ≤ (j : Int) := by omega
          clear hcells r1 r2 r3 d0 d2 d3
          go_wp2_with (first | (go_at_call 16; refine hV.mono ?_; rintro e w10 ⟨rfl, hB10⟩))
          exact ⟨⟨j + 1, by omega, by omega, by simp, bstep hBr hB10⟩, by simp [intOf]; omega⟩
        · have hjc : ¬ (j : Int) < (n : Int) := by omega
          clear hcells d0 d2 d3
          go_wp2
          refine bodyPost_ret (v := .bool true) (by simp [results, Try.results6, go_sem]) rfl ⟨rfl, bstep hBl hBr⟩
end Go.Proofs.Ythncmahhnbpbkaa
