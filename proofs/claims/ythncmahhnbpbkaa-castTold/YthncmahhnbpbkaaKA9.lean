/- Cast: Take of a ready; of whatever comes. -/
import Derived.Test.YthncmahhnbpbkaaKA8
namespace Go.Proofs.Ythncmahhnbpbkaa
open Go.RowKit Go.ChangeMaps Go.Maps Go.WideMaps
set_option linter.unusedVariables false
set_option linter.unusedSimpArgs false
theorem MM.drew {w : World} {b : Nat} {f : ByteArray → Int} (h : MM w b f) : MM w.drew b f := h
set_option maxHeartbeats 4000000 in
theorem cTake3 (s : Nat) (x : Nd) (f : Int) (v : ByteArray) (w : World) (hf : (Lit.int .i64 f).wf = true) (hv : v.size ≤ maxLen) (hw : NW0 x) (h : NM w s x) (hb : mb x 3 f v = true) (tk : Nd × Option (Int × Int × ByteArray)) (htk : Hid (tk = if f ∈ fs x.rd then (x, none) else ((x.addR f v).tkD v).tkC v)) :
    Calls Try.prog 14 #[pN s, MX 3 f v] w fun e' w' => ∃ r, e' = .returned r ∧ Kp s (s + 7) w w' ∧ NM w' s tk.1 ∧ OutM w.heap.size w' r tk.2 := by
  go_enter Try.func14, Try.ntmps14
  go_upto_region 1 with fail
  have hB0 : Below w.heap.size w (w.alloc (.cells #[.int .i64 3, .int .i64 f, .string v] 32)) := balloc (bself w) _
  have hm : CV (w.alloc (.cells #[.int .i64 3, .int .i64 f, .string v] 32)) w.heap.size [.int .i64 3, .int .i64 f, .string v] := CV.new w [.int .i64 3, .int .i64 f, .string v] _
  have ls := h.c.lt (by simp)
  have lm := hm.lt (by simp)
  have hx := h.kp (lo := s + 7) (hi := s + 7) hB0.kp (.inl (Nat.le_refl _))
  generalize (w.alloc (.cells #[.int .i64 3, .int .i64 f, .string v] 32)) = v0 at *
  have m0 := (hm 0 _ rfl).1
  have m1 := (hm 1 _ rfl).1
  have m2 := (hm 2 _ rfl).1
  have hxc := hx.c
  have x0 := (hxc 0 _ rfl).1
  have hi := cIsMade (s + 6) x.n v0 x0
  have hn := hw.n
  have ht := hw.t
  rw [decide_eq_true (show 0 < x.n by omega)] at hi
  have hmb := cMayBe s x 3 f v v0 hv hx.c
  rw [hb] at hmb
  have hl1 := hw.l1
  have hl2 := hw.l2
  have hcn := fun (u : World) (hu : Below v0.heap.size v0 u) (bb : Bool) (hbb : decide (f ∉ fs x.rd) = bb) => cCount3 s x f v u hf hv (by omega) (hx.kp (lo := s + 7) (hi := s + 7) hu.kp (.inl (Nat.le_refl _))) bb hbb
  by_cases he : f ∈ fs x.rd
  · have hbb : decide (f ∉ fs x.rd) = false := by simp [he]
    have htk : Hid (tk = (x, none)) := by have := htk.out; rw [if_pos he] at this; exact this
    have hy : x.addR f v = x := by unfold Nd.addR; rw [if_pos he]
    rw [hy] at hcn
    go_wp2_with (first | (go_at_call 28; refine hi.mono ?_; rintro e w1 ⟨rfl, hu⟩; rw [hu]; clear hu) | (go_at_call 29; refine hmb.mono ?_; rintro e w1 ⟨rfl, hB1⟩; have q0 := ((hm.below hB1 lm) 0 _ rfl).1; have q1 := ((hm.below hB1 lm) 1 _ rfl).1; have q2 := ((hm.below hB1 lm) 2 _ rfl).1) | (go_at_call 30; refine (hcn _ hB1 false hbb).mono ?_; rintro e w2 ⟨rfl, hk2, hN2⟩))
    refine bodyPost_ret (v := .slice none 0 0) (by simp [results, Try.results14, go_sem]) rfl ⟨_, rfl, (hB0.kp.trans hB1.kp).trans hk2, by rw [htk.out]; exact hN2, by rw [htk.out]; rfl⟩
  · have hbb : decide (f ∉ fs x.rd) = true := by simp [he]
    have htk : Hid (tk = ((x.addR f v).tkD v).tkC v) := by have := htk.out; rw [if_neg he] at this; exact this
    have hyn := addR_n x f v
    obtain ⟨y, hy⟩ : ∃ y, Hid (x.addR f v = y) := ⟨_, rfl⟩
    have hcn : ∀ u, Below v0.heap.size v0 u → ∀ bb, decide (f ∉ fs x.rd) = bb → Calls Try.prog 30 #[pN s, MX 3 f v] u fun e' w' => e' = .returned (.bool bb) ∧ Kp s (s + 7) u w' ∧ NM w' s y := by rw [← hy.out]; exact hcn
    rw [hy.out] at htk hyn
    have hye := congrArg List.length hyn.2.2.2.1
    have hyb : (0 ≤ y.t ∧ y.t ≤ 5) ∧ (1 ≤ y.n ∧ y.n ≤ 16) ∧ y.ec.length ≤ 51 := by omega
    clear hyn hye
    go_upto_region 3 with (first | (go_at_call 28; refine hi.mono ?_; rintro e w1 ⟨rfl, hu⟩; rw [hu]; clear hu) | (go_at_call 29; refine hmb.mono ?_; rintro e w1 ⟨rfl, hB1⟩; have q0 := ((hm.below hB1 lm) 0 _ rfl).1; have q1 := ((hm.below hB1 lm) 1 _ rfl).1; have q2 := ((hm.below hB1 lm) 2 _ rfl).1) | (go_at_call 30; refine (hcn _ hB1 true hbb).mono ?_; rintro e w2 ⟨rfl, hk2, hN2⟩))
    have hka : Kp s (s + 7) w w2 := (hB0.kp.trans hB1.kp).trans hk2
    have hmm := (hm.below hB1 lm).kp hk2 (Nat.lt_of_lt_of_le lm hB1.size) (.inr (by omega))
    clear m0 m1 m2 hm q0 q1 q2
    have m0 := (hmm 0 _ rfl).1
    have lm2 := hmm.lt (by simp)
    have hz2 := hka.size
    go_upto_region 8 with fail
    have hNc := hN2.c
    have ls2 := hNc.lt (by simp)
    have hS : ∀ u, Below w2.heap.size w2 u → u.cell? ⟨s + 6, 7, none⟩ = some (.map (some (s + 4))) ∧ u.cell? ⟨s + 6, 8, none⟩ = some (.map (some (s + 5))) ∧ u.cell? ⟨s + 6, 1, none⟩ = some (iV1 y.t) ∧ u.cell? ⟨w.heap.size, 2, none⟩ = some (.string v) := fun u hu => by
      have hc := hNc.below hu ls2
      exact ⟨(hc 7 _ rfl).1, (hc 8 _ rfl).1, (hc 1 _ rfl).1, ((hmm.below hu lm2) 2 _ rfl).1⟩
    have hof := cOf (s + 5) (.map (some (s + 4))) (cnt y.rd) v w2.drew hv hN2.m2.drew
    have et := wr64 (n := 2 * y.t) (by omega)
    obtain ⟨c2, hc2⟩ : ∃ c, Hid (cnt y.rd v = c) := ⟨_, rfl⟩
    rw [hc2.out] at hof
    by_cases hd : 2 * y.t < c2
    · have htk : Hid (tk = (y.sdD v).tkC v) := by have := htk.out; unfold Nd.tkD at this; rw [hc2.out, if_pos hd] at this; exact this
      go_region_held3 (fun u => u.cell? ⟨s + 6, 7, none⟩ = some (.map (some (s + 4))) ∧ u.cell? ⟨s + 6, 8, none⟩ = some (.map (some (s + 5))) ∧ u.cell? ⟨s + 6, 1, none⟩ = some (iV1 y.t) ∧ u.cell? ⟨w.heap.size, 2, none⟩ = some (.string v)) (first | exact hS _ (bself w2).drew | exact hS _ (bstep (bself w2).drew hB3)) (first | (go_at_call 32; refine hof.mono ?_; rintro e w3 ⟨rfl, hB3⟩) | fail)
      have hB3' : Below w2.heap.size w2 w3 := bstep (bself w2).drew hB3
      have hN3 := hN2.kp (lo := s + 7) (hi := s + 7) hB3'.kp (.inl (Nat.le_refl _))
      have hm3 := hmm.below hB3' lm2
      have n2 := (hm3 2 _ rfl).1
      have hch := cChooseD s y v w3.drew ⟨hN3.c, hN3.h1, hN3.m1, hN3.h2, hN3.m2⟩
      go_upto_region 9 with fail
      go_region_with (go_at_call 33; refine hch.mono ?_; rintro e w4 ⟨bb4, rfl, hk4, hN4⟩)
      have lm3 := hm3.lt (by simp)
      have hm4 := hm3.drew.kp hk4 lm3 (.inr (by omega))
      have lm4 := hm4.lt (by simp)
      have hkb : Kp s (s + 7) w w4 := (hka.trans hB3'.kp).drew.trans hk4
      have n4 := (hm4 2 _ rfl).1
      have hz4 := hkb.size
      obtain ⟨z, hz⟩ : ∃ z, Hid (y.sdD v = z) := ⟨_, rfl⟩
      have hzb : (0 ≤ z.t ∧ z.t ≤ 5) ∧ (1 ≤ z.n ∧ z.n ≤ 16) ∧ z.ec.length ≤ 51 := by rw [← hz.out]; exact hyb
      rw [hz.out] at htk hN4
      have hcl := cCalls s z v w4 hv (by omega) (by omega) hN4
      cases hr : rdy z v with
      | false =>
        rw [hr] at hcl
        have htk : Hid (tk = (z, none)) := by have := htk.out; unfold Nd.tkC at this; rw [hr] at this; exact this
        go_wp2_with (first | (go_at_call 34; refine hcl.mono ?_; rintro e w6 ⟨rfl, hB6⟩))
        refine bodyPost_ret (v := .slice none 0 0) (by simp [results, Try.results14, go_sem]) rfl ⟨_, rfl, hkb.trans hB6.kp, by rw [htk.out]; exact hN4.kp (lo := s + 7) (hi := s + 7) hB6.kp (.inl (Nat.le_refl _)), by rw [htk.out]; rfl⟩
      | true =>
        rw [hr] at hcl
        have htk : Hid (tk = (z.sdR v, z.otR 3 v)) := by have := htk.out; unfold Nd.tkC at this; rw [hr] at this; exact this
        go_upto_region 11 with (first | (go_at_call 34; refine hcl.mono ?_; rintro e w6 ⟨rfl, hB6⟩))
        have hN6 := hN4.kp (lo := s + 7) (hi := s + 7) hB6.kp (.inl (Nat.le_refl _))
        have p0 := ((hm4.below hB6 lm4) 0 _ rfl).1
        have p2 := ((hm4.below hB6 lm4) 2 _ rfl).1
        have hz6 := hB6.size
        have hsd := cSendR s z 3 v w6.drew ⟨hN6.c, hN6.h1, hN6.m1, hN6.h2, hN6.m2⟩
        go_region_with (go_at_call 31; refine hsd.mono ?_; rintro e w7 ⟨r, rfl, hk7, hN7, ho7⟩)
        all_goals
          go_wp2
          refine bodyPost_ret (v := r) (by simp [results, Try.results14, go_sem]) rfl ⟨_, rfl, (hkb.trans hB6.kp).drew.trans hk7, by rw [htk.out]; exact hN7, ?_⟩
          rw [htk.out]
          exact ho7.mono (Nat.le_trans hz4 hz6)
    · have htk : Hid (tk = y.tkC v) := by have := htk.out; unfold Nd.tkD at this; rw [hc2.out, if_neg hd] at this; exact this
      go_region_held3 (fun u => u.cell? ⟨s + 6, 7, none⟩ = some (.map (some (s + 4))) ∧ u.cell? ⟨s + 6, 8, none⟩ = some (.map (some (s + 5))) ∧ u.cell? ⟨s + 6, 1, none⟩ = some (iV1 y.t) ∧ u.cell? ⟨w.heap.size, 2, none⟩ = some (.string v)) (first | exact hS _ (bself w2).drew | exact hS _ (bstep (bself w2).drew hB3)) (first | (go_at_call 32; refine hof.mono ?_; rintro e w3 ⟨rfl, hB3⟩) | fail)
      have hB3' : Below w2.heap.size w2 w3 := bstep (bself w2).drew hB3
      have hN3 := hN2.kp (lo := s + 7) (hi := s + 7) hB3'.kp (.inl (Nat.le_refl _))
      have hm3 := hmm.below hB3' lm2
      have lm3 := hm3.lt (by simp)
      have n2 := (hm3 2 _ rfl).1
      have hkb : Kp s (s + 7) w w3 := hka.trans hB3'.kp
      have hz4 := hkb.size
      have hcl := cCalls s y v w3 hv (by omega) (by omega) hN3
      cases hr : rdy y v with
      | false =>
        rw [hr] at hcl
        have htk : Hid (tk = (y, none)) := by have := htk.out; unfold Nd.tkC at this; rw [hr] at this; exact this
        go_wp2_with (first | (go_at_call 34; refine hcl.mono ?_; rintro e w6 ⟨rfl, hB6⟩))
        refine bodyPost_ret (v := .slice none 0 0) (by simp [results, Try.results14, go_sem]) rfl ⟨_, rfl, hkb.trans hB6.kp, by rw [htk.out]; exact hN3.kp (lo := s + 7) (hi := s + 7) hB6.kp (.inl (Nat.le_refl _)), by rw [htk.out]; rfl⟩
      | true =>
        rw [hr] at hcl
        have htk : Hid (tk = (y.sdR v, y.otR 3 v)) := by have := htk.out; unfold Nd.tkC at this; rw [hr] at this; exact this
        go_upto_region 11 with (first | (go_at_call 34; refine hcl.mono ?_; rintro e w6 ⟨rfl, hB6⟩))
        have hN6 := hN3.kp (lo := s + 7) (hi := s + 7) hB6.kp (.inl (Nat.le_refl _))
        have p0 := ((hm3.below hB6 lm3) 0 _ rfl).1
        have p2 := ((hm3.below hB6 lm3) 2 _ rfl).1
        have hz6 := hB6.size
        have hsd := cSendR s y 3 v w6.drew ⟨hN6.c, hN6.h1, hN6.m1, hN6.h2, hN6.m2⟩
        go_region_with (go_at_call 31; refine hsd.mono ?_; rintro e w7 ⟨r, rfl, hk7, hN7, ho7⟩)
        all_goals
          go_wp2
          refine bodyPost_ret (v := r) (by simp [results, Try.results14, go_sem]) rfl ⟨_, rfl, (hkb.trans hB6.kp).drew.trans hk7, by rw [htk.out]; exact hN7, ?_⟩
          rw [htk.out]
          exact ho7.mono (Nat.le_trans hz4 hz6)
end Go.Proofs.Ythncmahhnbpbkaa
