/- Cast: moves. -/
import Derived.Test.YthncmahhnbpbkaaKW8
import Derived.Test.YthncmahhnbpbkaaKO
namespace Go.Proofs.Ythncmahhnbpbkaa
open Go.RowKit
set_option linter.unusedVariables false
set_option linter.unusedSimpArgs false
set_option maxRecDepth 100000
def amN (x : Int) (n : Nat) : Nat := (IntKind.u64.wrap x % (n : Int)).toNat
theorem amN_lt (x : Int) {n : Nat} (h : 1 ≤ n) : amN x n < n := by
  have h3 : 0 ≤ IntKind.u64.wrap x % (n : Int) := Int.emod_nonneg _ (by omega)
  have h4 : IntKind.u64.wrap x % (n : Int) < n := Int.emod_lt_of_pos _ (by omega)
  unfold amN; omega
theorem cAm (x : Int) (n : Nat) (m : Int) (w : World) (hm : m = (n : Int)) (h : 1 ≤ n ∧ n ≤ 100000) : Calls Try.prog 19 #[.int .i64 x, .int .i64 m] w fun e' w' => e' = .returned (.int .i64 ((amN x n : Nat) : Int)) ∧ w' = w := by
  subst hm
  have h0 : 0 ≤ IntKind.u64.wrap x := by rw [IntKind.wrap_u64]; omega
  have h2 : (IntKind.u64.wrap x).tmod n = IntKind.u64.wrap x % n := Int.tmod_eq_emod_of_nonneg h0
  have h3 : 0 ≤ IntKind.u64.wrap x % (n : Int) := Int.emod_nonneg _ (by omega)
  have h4 : IntKind.u64.wrap x % (n : Int) < n := Int.emod_lt_of_pos _ (by omega)
  go_enter Try.func19, Try.ntmps19
  have h1 : ¬ (n : Int) < 1 := by omega
  go_wp2
  have h5 : wrap64 (IntKind.u64.wrap x % (n : Int)) = IntKind.u64.wrap x % (n : Int) := by unfold wrap64; omega
  refine bodyPost_ret (v := .int .i64 (IntKind.u64.wrap x % (n : Int))) (by simp [results, Try.results19, go_sem, h2, h5]) rfl ⟨?_, rfl⟩
  congr 2
  unfold amN
  omega
section
variable {p : Pl} {t bad n dl pot : Nat} {vl : Option ByteArray} {W : Wd} {u0 : World}
/-- One of the corrupt sends to one of the others. -/
theorem cCorrupt (h : WI p t bad n dl vl pot u0 W) (g : WN t bad n pot) {u : World} (hB : Below u0.heap.size u0 u) {i : Nat} (i1 : bad < i) (i2 : i ≤ n) (k f : Int) (v : ByteArray) (hv : v.size ≤ 50) (hf : 1 ≤ f ∧ f ≤ bad) :
    Calls Try.prog 14 #[pN (p.bs i), MX k f v] u fun e' w5 => ∃ r, e' = .returned r ∧ Kp (p.bs i) (p.bs i + 7) u w5 ∧
      Calls Try.prog 21 #[pW p.wb, r] w5 fun e' u' => e' = .returned (.tuple #[]) ∧ ∃ W', WI p t bad n dl vl pot u' W' ∧ Below p.lo w5 u' ∧ ∀ b, u0.heap.size ≤ b → b < u.heap.size → u'.heap[b]? = u.heap[b]? := by
  have hin : 1 ≤ i ∧ i ≤ n := ⟨by omega, i2⟩
  have hwl := h.wl g
  obtain ⟨tb, mb, vt, vm, hQ0⟩ := h.m
  have hQ := hQ0.ex (Ex.of_bel (A := fun _ => False) hB) (fun _ e => e.elim)
  have hnum := h.i.num i hin.1 hin.2
  have hN := hQ.nm i hin.1 hin.2
  have hz := hB.size
  have hlo : p.lo ≤ u.heap.size := Nat.le_trans h.lo hz
  have hS := take_stp hnum.2.2.2.2 k f v
  refine (cTake (p.bs i) (W.nd i) k f v u (Nat.le_trans hv (by decide)) hnum.2.2.2.2.w ⟨hN.c, hN.h1, hN.m1, hN.h2, hN.m2⟩).mono ?_
  rintro e w5 ⟨r, rfl, hk, hN5, hO⟩
  refine ⟨r, rfl, hk, ?_⟩
  have hst := InvB.step (t := t) (dl := dl) (vl := vl) (W := W) (L := W.wait) h.i g.b (i := i) i1 i2 k f v (by omega) (.inl hf) (fun z hz => hz) (fun z hz => .inl hz)
  have hpot := Wd.pot_step (bad := bad) (n := n) (W := W) (i := i) i1 i2 hnum.2.2.2.2 k f v
  have hsw : Wd.step bad n W i (k, f, v) = Wd.all bad n { W with nd := upN W.nd i ((W.nd i).take k f v).1 } ((W.nd i).take k f v).2 := rfl
  rw [hsw] at hst hpot
  refine (cAllO hQ.ok (hQ.node hin.1 hin.2 hk hN5) (fun h => (hQ.ot.lt h).2) (fun h => (hQ.om.lt h).2) hO g.n (by show W.wait.length + (n - bad) ≤ 1000; omega) (fun m hm => ?_) (fun m hm _ => ?_) (Nat.le_trans hlo hk.size)).mono ?_
  · have hme := hnum.2.2.1
    rcases hS.o with ⟨e, _⟩ | ⟨e, _⟩ | ⟨e, _⟩
    · rw [hm] at e; cases e
    · rw [hm] at e; cases e
      exact .inr ⟨.inl rfl, by show 1 ≤ (W.nd i).me; omega, by show (W.nd i).me ≤ n; omega⟩
    · rw [hm] at e; cases e
      exact .inr ⟨.inr rfl, by show 1 ≤ (W.nd i).me; omega, by show (W.nd i).me ≤ n; omega⟩
  · have hme := hnum.2.2.1
    have h2 := h.i.s2 i (by omega) hin.2
    have h3 := h.i.s3 i (by omega) hin.2
    show 0 ≤ W.sent (2 * m.2.1 + m.1 - 2).toNat ∧ W.sent (2 * m.2.1 + m.1 - 2).toNat ≤ 1000
    rcases hS.o with ⟨e, _⟩ | ⟨e, _⟩ | ⟨e, _⟩
    · rw [hm] at e; cases e
    · rw [hm] at e; cases e
      rw [show (2 * (W.nd i).me + 2 - 2).toNat = 2 * i by omega, h2]
      split <;> omega
    · rw [hm] at e; cases e
      rw [show (2 * (W.nd i).me + 3 - 2).toNat = 2 * i + 1 by omega, h3]
      split <;> omega
  · rintro e u' ⟨rfl, hW', hB', hfr⟩
    have hpl := h.l
    have hBt := (hk.bel (hQ.ok.b1 i hin.1 hin.2).1 hlo).trans hB'
    refine ⟨rfl, _, ⟨hW', hst, by omega, Nat.le_trans hlo hBt.size⟩, hB', fun b b1 b2 => ?_⟩
    have hks := hk.size
    have hb7 := (h.m.ok.b1 i hin.1 hin.2).2
    have hok := h.m.ok
    rw [hfr b (by omega) ⟨by have := hok.w1.2; omega, by have := hok.n1.2; omega, by have := hok.s1.2; omega, fun j j1 j2 => by have := (hok.b1 j j1 j2).2; omega⟩ (fun hv => by have := (hQ0.ot.lt hv).2; omega) (fun hv => by have := (hQ0.om.lt hv).2; omega)]
    exact hk.block b b2 (.inr (by omega))
set_option maxHeartbeats 8000000 in
theorem cPlay (h : WI p t bad n dl vl pot u0 W) (g : WN t bad n pot) (hbn : bad < n) (hn7 : n ≤ 16) (sl : Option Addr) (len cap gb go : Nat) (f : Nat → List Value) (hl : len ≤ 9223372036854775807) (hsl : 0 < len → sl = some ⟨gb, go, none⟩ ∧ gb < p.lo) (hR : Rows u0 gb go 6 f len) (hf : ∀ i, i < len → MovC (f i)) :
    Calls Try.prog 22 #[pW p.wb, .slice sl len cap] u0 fun e' u' => e' = .returned (.bool true) ∧ (∃ W', WI p t bad n dl vl pot u' W') ∧ Below p.lo u0 u' := by
  go_enter Try.func22, Try.ntmps22
  go_wp2_with fail
  go_loopw [5] (fun s5 wr => ∃ (i : Nat) (W' : Wd), s5 = .int .i64 (i : Int) ∧ i ≤ 200 ∧ WI p t bad n dl vl pot wr W' ∧ Below p.lo u0 wr) (fun s5 _ => 200 - (intOf s5).toNat)
  case atStart => exact ⟨0, W, rfl, by omega, h, Below.refl _ _⟩
  case round =>
    obtain ⟨i, W', rfl, hi2, hW, hB⟩ := hrel
    by_cases hil : i < len
    · have hic : (i : Int) < (len : Int) := by omega
      by_cases hi3 : i < 200
      · have hic2 : (i : Int) < 200 := by omega
        obtain ⟨rfl, hgb⟩ := hsl (by omega)
        obtain ⟨a, b, c, d, e, s, efi, hmv, hs⟩ := hf i hil
        have hgbu : gb < u0.heap.size := Nat.lt_of_lt_of_le hgb h.lo
        have hx : ∀ j v, (f i)[j]? = some v → wr.cell? ⟨gb, go + i * 6 + j, none⟩ = some v := fun j v hj => by
          rw [World.cell?_of_block (w := u0) (hB.block _ hgb), Nat.add_assoc]; exact hR i hil j v hj
        rw [efi] at hx
        have x0 := hx 0 _ rfl
        have x1 := hx 1 _ rfl
        have x2 := hx 2 _ rfl
        have x3 := hx 3 _ rfl
        have x4 := hx 4 _ rfl
        have x5 := hx 5 _ rfl
        rw [Nat.add_zero] at x0
        have ew := wr64 (n := (i : Int) + 1) (by omega)
        clear hx
        go_upto_region 5 with fail
        obtain ⟨u2, eu2⟩ : ∃ u2, Hid (u2 = wr.alloc (.cells #[.int .i64 a, .int .i64 b, .int .i64 c, .int .i64 d, .int .i64 e, .string s] 80)) := ⟨_, rfl⟩
        have hBu : Below wr.heap.size wr u2 := by rw [eu2.out]; exact balloc (bself wr) _
        have hbx : CV u2 wr.heap.size [.int .i64 a, .int .i64 b, .int .i64 c, .int .i64 d, .int .i64 e, .string s] := by rw [eu2.out]; exact CV.new wr [.int .i64 a, .int .i64 b, .int .i64 c, .int .i64 d, .int .i64 e, .string s] _
        rw [← eu2.out]
        have hB2 : Below p.lo u0 u2 := hB.trans (hBu.mono hW.lo)
        have hW2 := hW.below hBu
        have hwok := hW.m.ok
        have hwz := hwok.w1.2
        have hnz := hwok.n1.2
        have hbxl := hbx.lt (by simp)
        obtain ⟨c0, c2, c3, hcn⟩ := hW2.m.cells
        have b0 := (hbx 0 _ rfl).1
        have b1 := (hbx 1 _ rfl).1
        have b2 := (hbx 2 _ rfl).1
        have b3 := (hbx 3 _ rfl).1
        have b4 := (hbx 4 _ rfl).1
        have b5 := (hbx 5 _ rfl).1
        clear x0 x1 x2 x3 x4 x5
        have hA1 := fun w => cAm a 8 8 w rfl (by omega)
        have hH := cHand b hW2 g
        by_cases hd6 : ((amN a 8 : Nat) : Int) < 6
        · go_wp2_with (first | (go_at_call 19; refine (hA1 _).mono ?_; rintro e w1 ⟨rfl, hw1⟩; rw [hw1]; clear hw1) | (go_at_call 37; refine hH.mono ?_; rintro e w3 ⟨rfl, W3, hW3, hB3, _⟩; have hAg := cAgree p t bad n dl vl W3 w3 hW3.m hW3.i g.b g.n) | (go_at_call 25; refine hAg.mono ?_; rintro e w4 ⟨rfl, hB4⟩))
          exact ⟨⟨i + 1, W3, by simp, by omega, hW3.below hB4, (hB2.trans hB3).trans (hB4.mono hW3.lo)⟩, by simp [intOf]; omega⟩
        · by_cases hbz : bad = 0
          · have c2' : u2.cell? ⟨p.wb, 2, none⟩ = some (.int .i64 0) := by rw [c2, hbz]; rfl
            clear c2 hcn
            go_wp2_with (first | (go_at_call 19; refine (hA1 _).mono ?_; rintro e w1 ⟨rfl, hw1⟩; rw [hw1]; clear hw1) | (go_at_call 37; refine hH.mono ?_; rintro e w3 ⟨rfl, W3, hW3, hB3, _⟩; have hAg := cAgree p t bad n dl vl W3 w3 hW3.m hW3.i g.b g.n) | (go_at_call 25; refine hAg.mono ?_; rintro e w4 ⟨rfl, hB4⟩))
            exact ⟨⟨i + 1, W3, by simp, by omega, hW3.below hB4, (hB2.trans hB3).trans (hB4.mono hW3.lo)⟩, by simp [intOf]; omega⟩
          · have hbi : ¬ (bad : Int) = 0 := by omega
            have hqa : decide (((amN a 8 : Nat) : Int) < 6) = false := by simp [hd6]
            have hqb : ((bad : Int) == 0) = false := by simp [hbz]
            have hqc : (decide (((amN a 8 : Nat) : Int) < 6) || (bad : Int) == 0) = false := by rw [hqa, hqb]; rfl
            clear hH
            go_upto_region 7 with (first | (go_at_call 19; refine (hA1 _).mono ?_; rintro e w1 ⟨rfl, hw1⟩; rw [hw1]; clear hw1))
            clear hA1
            have hA2 := fun w => cAm d (n - bad) ((n : Int) - (bad : Int)) w (by omega) (by omega)
            have hA3 := fun w => cAm c bad (bad : Int) w rfl (by omega)
            have am2 := amN_lt d (n := n - bad) (by omega)
            have am3 := amN_lt c (n := bad) (by omega)
            obtain ⟨j, hj⟩ : ∃ j, Hid (bad + amN d (n - bad) = j) := ⟨_, rfl⟩
            have hjo := hj.out
            have hqi : (bad : Int) + 1 + ((amN d (n - bad) : Nat) : Int) = (j : Int) + 1 := by omega
            have ewa := wr64 (n := (n : Int) - (bad : Int)) (by omega)
            have ewb := wr64 (n := (bad : Int) + 1) (by omega)
            have ewc := wr64 (n := (j : Int) + 1) (by omega)
            go_region_held3 (fun u => u.cell? ⟨p.wb, 0, none⟩ = some (.int .i64 (n : Int)) ∧ u.cell? ⟨p.wb, 2, none⟩ = some (.int .i64 (bad : Int)) ∧ u.cell? ⟨wr.heap.size, 3, none⟩ = some (.int .i64 d)) (exact ⟨c0, c2, b3⟩) (first | (go_at_call 19; refine (hA2 _).mono ?_; rintro e w1 ⟨rfl, hw1⟩; rw [hw1]; clear hw1) | fail)
            go_upto_region 8 with fail
            have cn := (hcn j (by omega)).1
            have hb7 := hwok.b1 (j + 1) (by omega) (by omega)
            have hd2 := hwok.d2 (j + 1) (by omega) (by omega)
            have hcnn := hwok.c1
            have hSb : u2.cell? ⟨p.wb, 2, none⟩ = some (.int .i64 (bad : Int)) ∧ u2.cell? ⟨p.wb, 3, none⟩ = some (.slice (some ⟨p.nb, 0, none⟩) n p.cn) ∧ u2.cell? ⟨p.nb, j, none⟩ = some (.pointer (some ⟨p.bs (j + 1) + 6, 0, none⟩)) ∧ u2.cell? ⟨wr.heap.size, 2, none⟩ = some (.int .i64 c) ∧ u2.cell? ⟨wr.heap.size, 4, none⟩ = some (.int .i64 e) ∧ u2.cell? ⟨wr.heap.size, 5, none⟩ = some (.string s) := ⟨c2, c3, cn, b2, b4, b5⟩
            have hSk : ∀ u w5 : World, u.heap = u2.heap → Kp (p.bs (j + 1)) (p.bs (j + 1) + 7) u w5 → w5.cell? ⟨p.wb, 2, none⟩ = some (.int .i64 (bad : Int)) ∧ w5.cell? ⟨p.wb, 3, none⟩ = some (.slice (some ⟨p.nb, 0, none⟩) n p.cn) ∧ w5.cell? ⟨p.nb, j, none⟩ = some (.pointer (some ⟨p.bs (j + 1) + 6, 0, none⟩)) ∧ w5.cell? ⟨wr.heap.size, 2, none⟩ = some (.int .i64 c) ∧ w5.cell? ⟨wr.heap.size, 4, none⟩ = some (.int .i64 e) ∧ w5.cell? ⟨wr.heap.size, 5, none⟩ = some (.string s) := fun u w5 hu hk => by
              have hz2 := hBu.size
              have hk1 : ∀ k, k < u2.heap.size → (k < p.bs (j + 1) ∨ p.bs (j + 1) + 7 ≤ k) → w5.heap[k]? = u2.heap[k]? := fun k k1 k2 => by rw [hk.block k (by rw [hu]; exact k1) k2, hu]
              have e1 := hk1 p.wb (by omega) (by omega)
              have e2 := hk1 p.nb (by omega) (by omega)
              have e3 := hk1 wr.heap.size hbxl (by omega)
              exact ⟨(World.cell?_of_block (w := u2) (a := ⟨p.wb, 2, none⟩) e1).trans c2, (World.cell?_of_block (w := u2) (a := ⟨p.wb, 3, none⟩) e1).trans c3, (World.cell?_of_block (w := u2) (a := ⟨p.nb, j, none⟩) e2).trans cn, (World.cell?_of_block (w := u2) (a := ⟨wr.heap.size, 2, none⟩) e3).trans b2, (World.cell?_of_block (w := u2) (a := ⟨wr.heap.size, 4, none⟩) e3).trans b4, (World.cell?_of_block (w := u2) (a := ⟨wr.heap.size, 5, none⟩) e3).trans b5⟩
            have hSa : ∀ (u w6 : World) (W6 : Wd), u.heap = u2.heap → WI p t bad n dl vl pot w6 W6 → (∀ k, wr.heap.size ≤ k → k < u.heap.size → w6.heap[k]? = u.heap[k]?) → w6.cell? ⟨p.wb, 2, none⟩ = some (.int .i64 (bad : Int)) ∧ w6.cell? ⟨p.wb, 3, none⟩ = some (.slice (some ⟨p.nb, 0, none⟩) n p.cn) ∧ w6.cell? ⟨p.nb, j, none⟩ = some (.pointer (some ⟨p.bs (j + 1) + 6, 0, none⟩)) ∧ w6.cell? ⟨wr.heap.size, 2, none⟩ = some (.int .i64 c) ∧ w6.cell? ⟨wr.heap.size, 4, none⟩ = some (.int .i64 e) ∧ w6.cell? ⟨wr.heap.size, 5, none⟩ = some (.string s) := fun u w6 W6 hu hW6 hfr => by
              have e3 : w6.heap[wr.heap.size]? = u2.heap[wr.heap.size]? := by rw [hfr _ (Nat.le_refl _) (by rw [hu]; exact hbxl), hu]
              obtain ⟨d0, d2, d3, dc⟩ := hW6.m.cells
              refine ⟨d2, d3, (dc j (by omega)).1, ?_, ?_, ?_⟩
              · rw [World.cell?_of_block (w := u2) e3]; exact b2
              · rw [World.cell?_of_block (w := u2) e3]; exact b4
              · rw [World.cell?_of_block (w := u2) e3]; exact b5
            have hTk := fun (u : World) (hu : Below wr.heap.size wr u) (v : ByteArray) (hv : v.size ≤ 50) => cCorrupt hW g hu (i := j + 1) (by omega) (by omega) e (1 + ((amN c bad : Nat) : Int)) v hv (by omega)
            have ewd := wr64 (n := (j : Int) + 1 - 1) (by omega)
            have ewf := wr64 (n := (j : Int)) (by omega)
            have ewe := wr64 (n := 1 + ((amN c bad : Nat) : Int)) (by omega)
            have hjn : (j : Int) < (n : Int) := by omega
            have hj0 : (0 : Int) ≤ (j : Int) := by omega
            clear hcn c0 c2 c3 cn b0 b1 b2 b3 b4 b5 hqi ewa ewb ewc hA2
            obtain ⟨q, hq⟩ : ∃ q : Nat, Hid (min 50 s.size = q) := ⟨_, rfl⟩
            have hqo := hq.out
            have hif : (if (50 : Int) < (s.size : Int) then (50 : Int) else (s.size : Int)) = (q : Int) := by split <;> omega
            have hq50 : q ≤ 50 := by omega
            have hq0 : (0 : Int) ≤ (q : Int) := by omega
            have hq1 : (q : Int) ≤ (s.size : Int) := by omega
            clear hqo
            go_region_held3 (fun u => u.cell? ⟨p.wb, 2, none⟩ = some (.int .i64 (bad : Int)) ∧ u.cell? ⟨p.wb, 3, none⟩ = some (.slice (some ⟨p.nb, 0, none⟩) n p.cn) ∧ u.cell? ⟨p.nb, j, none⟩ = some (.pointer (some ⟨p.bs (j + 1) + 6, 0, none⟩)) ∧ u.cell? ⟨wr.heap.size, 2, none⟩ = some (.int .i64 c) ∧ u.cell? ⟨wr.heap.size, 4, none⟩ = some (.int .i64 e) ∧ u.cell? ⟨wr.heap.size, 5, none⟩ = some (.string s)) (first | exact hSb | exact hSk _ _ (by rfl) hk5 | exact hSa _ _ _ (by rfl) hW6 hfr) (first | (go_at_call 19; refine (hA3 _).mono ?_; rintro e w1 ⟨rfl, hw1⟩; rw [hw1]; clear hw1) | (go_at_call 14; refine (hTk _ (by first | exact hBu.drew | exact hBu.drew.drew | exact hBu.drew.drew.drew) _ (by first | omega | (simp [ByteArray.size_extract]; omega) | (simp [ByteArray.size_extract]))).mono ?_; rintro e w5 ⟨r5, rfl, hk5, hAl⟩) | (go_at_call 21; refine hAl.mono ?_; rintro e w6 ⟨rfl, W6, hW6, hB6, hfr⟩) | fail)
            all_goals
              have hAg := cAgree p t bad n dl vl W6 w6 hW6.m hW6.i g.b g.n
              go_wp2_with (first | (go_at_call 25; refine hAg.mono ?_; rintro e w4 ⟨rfl, hB4⟩))
              exact ⟨⟨i + 1, W6, by simp, by omega, hW6.below hB4, (hB2.drew.drew.trans (hk5.bel hb7.1 (by show p.lo ≤ u2.heap.size; have := hBu.size; have := hW.lo; omega))).trans (hB6.trans (hB4.mono hW6.lo))⟩, by simp [intOf]; omega⟩
      · have hic2 : ¬ (i : Int) < 200 := by omega
        go_wp2
        refine bodyPost_ret (v := .bool true) (by simp [results, Try.results22, go_sem]) rfl ⟨rfl, ⟨_, hW⟩, hB⟩
    · have hic : ¬ (i : Int) < (len : Int) := by omega
      go_wp2
      refine bodyPost_ret (v := .bool true) (by simp [results, Try.results22, go_sem]) rfl ⟨rfl, ⟨_, hW⟩, hB⟩
end
end Go.Proofs.Ythncmahhnbpbkaa
