/- Cast: no two deliver other values, walked. -/
import Derived.Test.YthncmahhnbpbkaaKWE
namespace Go.Proofs.Ythncmahhnbpbkaa
open Go.RowKit
set_option linter.unusedVariables false
set_option linter.unusedSimpArgs false
set_option maxRecDepth 100000
set_option maxHeartbeats 2000000 in
theorem cAgrees (x : Int) (s : ByteArray) (w : World) (sl : Option Addr) (len cap gb go : Nat) (f : Nat → List Value) (hl : len ≤ 9223372036854775807) (hsl : 0 < len → sl = some ⟨gb, go, none⟩ ∧ gb < w.heap.size) (hR : Rows w gb go 6 f len) (hf : ∀ i, i < len → MovC (f i)) :
    Calls Try.prog 4 #[.int .i64 x, .string s, .slice sl len cap] w fun e' u' => e' = .returned (.bool true) ∧ Below w.heap.size w u' := by
  have am := amN_lt x (n := 3) (by omega)
  obtain ⟨t, ht⟩ : ∃ t : Nat, Hid (amN x 3 = t) := ⟨_, rfl⟩
  have hA : ∀ u, Calls Try.prog 19 #[.int .i64 x, .int .i64 3] u fun e' w' => e' = .returned (.int .i64 (t : Int)) ∧ w' = u := fun u => by
    rw [← ht.out]; exact cAm x 3 3 u rfl (by omega)
  have hto := ht.out
  obtain ⟨n, hn⟩ : ∃ n : Nat, Hid (3 * t + 1 = n) := ⟨_, rfl⟩
  have hno := hn.out
  have g : WN t t n 100 := ⟨by omega, by omega, by omega⟩
  have g2 : WN t t n 200 := ⟨by omega, by omega, by omega⟩
  have hmd := fun u => cMade t t 1 n u (by omega) (by omega) (by omega) (by omega)
  have et : Hid (t ≤ 2 ∧ n ≤ 7 ∧ t < n) := ⟨by omega, by omega, by omega⟩
  clear hto hno am
  go_enter Try.func4, Try.ntmps4
  go_upto_region 7 with (first | (go_at_call 11; refine (cWorks _).mono ?_; rintro e w1 ⟨rfl, hB1⟩) | (go_at_call 19; refine (hA _).mono ?_; rintro e w2 ⟨rfl, hw2⟩; rw [hw2]; clear hw2) | (go_at_call 20; refine (hmd _).mono ?_; rintro e w3 ⟨p, rfl, hp, hB3, hW3⟩))
  have hs1 := hB1.size
  by_cases h0 : t = 0
  · have hq : ((t : Int) == 0) = true := by rw [h0]; rfl
    have htz : (t : Int) = 0 := by omega
    obtain ⟨c0, c2, c3, hcn⟩ := hW3.m.cells
    have hto := et.out
    have cn : w3.cell? ⟨p.nb, 0, none⟩ = some (pN (p.bs 1)) := (hcn 0 (by omega)).1
    have hcc := hW3.m.ok.c1
    have hn0 : (0 : Int) < (n : Int) := by omega
    have hok := hW3.m.ok
    have hn0' : 0 < n := by omega
    have hb7 : p.bs 1 + 7 ≤ w3.heap.size := (hok.b1 1 (by omega) (by omega)).2
    have hSk : ∀ u : World, Kp (p.bs 1) (p.bs 1 + 7) w3 u → u.cell? ⟨p.wb, 3, none⟩ = some (.slice (some ⟨p.nb, 0, none⟩) n p.cn) ∧ u.cell? ⟨p.nb, 0, none⟩ = some (pN (p.bs 1)) := fun u hk => by
      have d2 := hok.d2 1 (by omega) (by omega)
      exact ⟨(World.cell?_of_block (w := w3) (a := ⟨p.wb, 3, none⟩) (hk.block _ hok.w1.2 d2.1)).trans c3, (World.cell?_of_block (w := w3) (a := ⟨p.nb, 0, none⟩) (hk.block _ hok.n1.2 d2.2.1)).trans cn⟩
    have hSt := fun (u : World) (hB : Below w3.heap.size w3 u) (v : ByteArray) (hv : v.size ≤ 50) => cStart1 hW3 ⟨by omega, by omega⟩ v (by omega) u hB
    obtain ⟨q, hq5⟩ : ∃ q : Nat, Hid (min 50 s.size = q) := ⟨_, rfl⟩
    have hqo := hq5.out
    have hif : (if (50 : Int) < (s.size : Int) then (50 : Int) else (s.size : Int)) = (q : Int) := by split <;> omega
    have hq50 : q ≤ 50 := by omega
    have hq0 : (0 : Int) ≤ (q : Int) := by omega
    have hq1 : (q : Int) ≤ (s.size : Int) := by omega
    clear hqo hcn c0 c2 hA hmd
    go_upto_region 8 with fail
    go_region_held3 (fun u => u.cell? ⟨p.wb, 3, none⟩ = some (.slice (some ⟨p.nb, 0, none⟩) n p.cn) ∧ u.cell? ⟨p.nb, 0, none⟩ = some (pN (p.bs 1))) (first | exact hSk _ (Kp.refl _ _ _).drew | exact hSk _ ((Kp.refl _ _ _).drew.alloc _) | exact hSk _ ((Kp.refl _ _ _).drew.trans hk5) | exact hSk _ (((Kp.refl _ _ _).drew.alloc _).trans hk5) | exact hSk _ (((Kp.refl _ _ _).drew.trans hk5).alloc _) | exact hSk _ ((((((Kp.refl _ _ _).drew.alloc _).trans hk5).cellN (Nat.le_refl _) _).cellN (Nat.le_refl _) _).cellN (Nat.le_refl _) _) | exact hSk _ ((((((Kp.refl _ _ _).drew.trans hk5).alloc _).cellN hk5.size _).cellN hk5.size _).cellN hk5.size _) | go_keep) (first | (go_at_call 12; refine (hSt _ (by first | exact (bself w3).drew | exact balloc (bself w3).drew _) _ (by first | omega | (simp [ByteArray.size_extract]; omega) | (simp [ByteArray.size_extract]))).mono ?_; rintro e w5 ⟨rfl, hk5, hM5⟩; try (have z : CV w5 w3.heap.size [.int .i64 0, .int .i64 0, .string noS] := (CV.new w3.drew [.int .i64 0, .int .i64 0, .string noS] 32).kp hk5 (by rw [World.size_alloc]; exact Nat.lt_succ_self _) (.inr hb7); have z0 := (z 0 _ rfl).1; have z1 := (z 1 _ rfl).1; have z2 := (z 2 _ rfl).1; have y0 := (z 0 _ rfl).2; have y1 := (z 1 _ rfl).2; have y2 := (z 2 _ rfl).2)) | fail)
    · skip
      obtain ⟨wX, hwX⟩ : ∃ x, Hid (x = (w5.alloc (.cells #[.int .i64 1, .int .i64 1, .string (s.extract 0 q)] 32))) := ⟨_, rfl⟩
      rw [← hwX.out]
      have hkX : Kp (p.bs 1) (p.bs 1 + 7) w3 wX := by
        rw [hwX.out]
        exact ((Kp.refl _ _ w3).drew.trans hk5).alloc _
      have hMX : WM p t t n wX (WS n t 1) := by
        rw [hwX.out]
        exact hM5 _ (Ex.of_bel (balloc (bself w5) _))
      have hCX : CV wX w5.heap.size (mC (1, ((1 : Nat) : Int), s.extract 0 q)) := by
        rw [hwX.out]
        exact CV.new w5 (mC (1, ((1 : Nat) : Int), s.extract 0 q)) _
      have x0 := (hCX 0 _ rfl).1
      have x1 := (hCX 1 _ rfl).1
      have x2 := (hCX 2 _ rfl).1
      have hlX : p.lo ≤ wX.heap.size := by have := hkX.size; have := hW3.lo; omega
      have hAll := fun (u : World) (hB : Below wX.heap.size wX u) (hc : CV u wX.heap.size (mC (1, ((1 : Nat) : Int), s.extract 0 q))) => cStartAll wX hMX hlX hn.out.symm hto.1 (Nat.le_refl _) ⟨by omega, by omega⟩ (s.extract 0 q) (by simp [ByteArray.size_extract]; omega) u wX.heap.size hB (Nat.le_refl _) hc
      have hBX : Below w1.heap.size w1 wX := hB3.trans (hkX.bel (by rw [← hp]; exact (hok.b1 1 (by omega) (by omega)).1) hB3.size)
      have hP := fun (u : World) (W6 : Wd) (hW6 : WI p t t n 1 (some (s.extract 0 q)) 200 u W6) (hB : Below w1.heap.size w1 u) => playMade hp hB1 hB hW6 g2 et.out.2.2 sl len cap gb go f hl hsl hR hf
      clear hCX hSt hSk cn c3 hif hM5
      go_wp2_with (first | (go_at_call 21; refine (hAll _ (by exact balloc (bself wX) _) (by exact CV.new wX (mC (1, ((1 : Nat) : Int), s.extract 0 q)) _)).mono ?_; rintro e w6 ⟨rfl, ⟨W6, hW6⟩, hB6⟩) | (go_at_call 22; refine (hP _ W6 hW6 ((hBX.trans ((balloc (bself wX) _).mono (by rw [← hp]; exact hlX))).trans (hB6.mono (by rw [hp]; exact Nat.le_refl _)))).mono ?_; rintro e w7 ⟨rfl, _, hB7⟩))
      refine bodyPost_ret (v := .bool true) (by simp [results, Try.results4, go_sem]) rfl ⟨rfl, hB7⟩
    · skip
      obtain ⟨wX, hwX⟩ : ∃ x, Hid (x = (((w5.setCell ⟨w3.heap.size, 0, none⟩ (.int .i64 1)).setCell ⟨w3.heap.size, 1, none⟩ (.int .i64 1)).setCell ⟨w3.heap.size, 2, none⟩ (.string (s.extract 0 q)))) := ⟨_, rfl⟩
      rw [← hwX.out]
      have hkX : Kp (p.bs 1) (p.bs 1 + 7) w3 wX := by
        rw [hwX.out]
        exact ((((((Kp.refl _ _ w3).drew.alloc _).trans hk5).cellN (q := ⟨w3.heap.size, 0, none⟩) (Nat.le_refl _) _).cellN (q := ⟨w3.heap.size, 1, none⟩) (Nat.le_refl _) _).cellN (q := ⟨w3.heap.size, 2, none⟩) (Nat.le_refl _) _)
      have hMX : WM p t t n wX (WS n t 1) := by
        rw [hwX.out]
        exact hM5 _ ((((Ex.refl _ w5).cell (p := ⟨w3.heap.size, 0, none⟩) (Nat.le_refl _) _).cell (p := ⟨w3.heap.size, 1, none⟩) (Nat.le_refl _) _).cell (p := ⟨w3.heap.size, 2, none⟩) (Nat.le_refl _) _)
      have hCX : CV wX w3.heap.size (mC (1, ((1 : Nat) : Int), s.extract 0 q)) := by
        rw [hwX.out]
        exact ((z.setC 0 (by simp) (.int .i64 1)).setC 1 (by simp) (.int .i64 1)).setC 2 (by simp) (.string (s.extract 0 q))
      clear z z0 z1 z2 y0 y1 y2
      have x0 := (hCX 0 _ rfl).1
      have x1 := (hCX 1 _ rfl).1
      have x2 := (hCX 2 _ rfl).1
      have hlX : p.lo ≤ wX.heap.size := by have := hkX.size; have := hW3.lo; omega
      have hAll := fun (u : World) (hB : Below wX.heap.size wX u) (hc : CV u wX.heap.size (mC (1, ((1 : Nat) : Int), s.extract 0 q))) => cStartAll wX hMX hlX hn.out.symm hto.1 (Nat.le_refl _) ⟨by omega, by omega⟩ (s.extract 0 q) (by simp [ByteArray.size_extract]; omega) u wX.heap.size hB (Nat.le_refl _) hc
      have hBX : Below w1.heap.size w1 wX := hB3.trans (hkX.bel (by rw [← hp]; exact (hok.b1 1 (by omega) (by omega)).1) hB3.size)
      have hP := fun (u : World) (W6 : Wd) (hW6 : WI p t t n 1 (some (s.extract 0 q)) 200 u W6) (hB : Below w1.heap.size w1 u) => playMade hp hB1 hB hW6 g2 et.out.2.2 sl len cap gb go f hl hsl hR hf
      clear hCX hSt hSk cn c3 hif hM5
      go_wp2_with (first | (go_at_call 21; refine (hAll _ (by exact balloc (bself wX) _) (by exact CV.new wX (mC (1, ((1 : Nat) : Int), s.extract 0 q)) _)).mono ?_; rintro e w6 ⟨rfl, ⟨W6, hW6⟩, hB6⟩) | (go_at_call 22; refine (hP _ W6 hW6 ((hBX.trans ((balloc (bself wX) _).mono (by rw [← hp]; exact hlX))).trans (hB6.mono (by rw [hp]; exact Nat.le_refl _)))).mono ?_; rintro e w7 ⟨rfl, _, hB7⟩))
      refine bodyPost_ret (v := .bool true) (by simp [results, Try.results4, go_sem]) rfl ⟨rfl, hB7⟩
    · skip
      obtain ⟨wX, hwX⟩ : ∃ x, Hid (x = (((w5.setCell ⟨w3.heap.size, 0, none⟩ (.int .i64 1)).setCell ⟨w3.heap.size, 1, none⟩ (.int .i64 1)).setCell ⟨w3.heap.size, 2, none⟩ (.string (s.extract 0 q)))) := ⟨_, rfl⟩
      rw [← hwX.out]
      have hkX : Kp (p.bs 1) (p.bs 1 + 7) w3 wX := by
        rw [hwX.out]
        exact ((((((Kp.refl _ _ w3).drew.alloc _).trans hk5).cellN (q := ⟨w3.heap.size, 0, none⟩) (Nat.le_refl _) _).cellN (q := ⟨w3.heap.size, 1, none⟩) (Nat.le_refl _) _).cellN (q := ⟨w3.heap.size, 2, none⟩) (Nat.le_refl _) _)
      have hMX : WM p t t n wX (WS n t 1) := by
        rw [hwX.out]
        exact hM5 _ ((((Ex.refl _ w5).cell (p := ⟨w3.heap.size, 0, none⟩) (Nat.le_refl _) _).cell (p := ⟨w3.heap.size, 1, none⟩) (Nat.le_refl _) _).cell (p := ⟨w3.heap.size, 2, none⟩) (Nat.le_refl _) _)
      have hCX : CV wX w3.heap.size (mC (1, ((1 : Nat) : Int), s.extract 0 q)) := by
        rw [hwX.out]
        exact ((z.setC 0 (by simp) (.int .i64 1)).setC 1 (by simp) (.int .i64 1)).setC 2 (by simp) (.string (s.extract 0 q))
      clear z z0 z1 z2 y0 y1 y2
      have x0 := (hCX 0 _ rfl).1
      have x1 := (hCX 1 _ rfl).1
      have x2 := (hCX 2 _ rfl).1
      have hlX : p.lo ≤ wX.heap.size := by have := hkX.size; have := hW3.lo; omega
      have hAll := fun (u : World) (hB : Below wX.heap.size wX u) (hc : CV u wX.heap.size (mC (1, ((1 : Nat) : Int), s.extract 0 q))) => cStartAll wX hMX hlX hn.out.symm hto.1 (Nat.le_refl _) ⟨by omega, by omega⟩ (s.extract 0 q) (by simp [ByteArray.size_extract]; omega) u wX.heap.size hB (Nat.le_refl _) hc
      have hBX : Below w1.heap.size w1 wX := hB3.trans (hkX.bel (by rw [← hp]; exact (hok.b1 1 (by omega) (by omega)).1) hB3.size)
      have hP := fun (u : World) (W6 : Wd) (hW6 : WI p t t n 1 (some (s.extract 0 q)) 200 u W6) (hB : Below w1.heap.size w1 u) => playMade hp hB1 hB hW6 g2 et.out.2.2 sl len cap gb go f hl hsl hR hf
      clear hCX hSt hSk cn c3 hif hM5
      go_wp2_with (first | (go_at_call 21; refine (hAll _ (by exact balloc (bself wX) _) (by exact CV.new wX (mC (1, ((1 : Nat) : Int), s.extract 0 q)) _)).mono ?_; rintro e w6 ⟨rfl, ⟨W6, hW6⟩, hB6⟩) | (go_at_call 22; refine (hP _ W6 hW6 ((hBX.trans ((balloc (bself wX) _).mono (by rw [← hp]; exact hlX))).trans (hB6.mono (by rw [hp]; exact Nat.le_refl _)))).mono ?_; rintro e w7 ⟨rfl, _, hB7⟩))
      refine bodyPost_ret (v := .bool true) (by simp [results, Try.results4, go_sem]) rfl ⟨rfl, hB7⟩
  · have hq : ((t : Int) == 0) = false := by simp [h0]
    have htz : ¬ (t : Int) = 0 := by omega
    have hP := playMade hp hB1 hB3 hW3 g et.out.2.2 sl len cap gb go f hl hsl hR hf
    clear hA hmd
    go_wp2_with (first | (go_at_call 22; refine hP.mono ?_; rintro e w4 ⟨rfl, _, hB4⟩))
    refine bodyPost_ret (v := .bool true) (by simp [results, Try.results4, go_sem]) rfl ⟨rfl, hB4⟩
end Go.Proofs.Ythncmahhnbpbkaa
