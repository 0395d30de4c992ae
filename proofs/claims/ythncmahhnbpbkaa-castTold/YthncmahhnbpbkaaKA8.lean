/- Cast: Take. -/
import Derived.Test.YthncmahhnbpbkaaKA7
import Derived.Deep.RegionHeld3
namespace Go.Proofs.Ythncmahhnbpbkaa
open Go.RowKit Go.ChangeMaps Go.Maps Go.WideMaps
set_option linter.unusedVariables false
set_option linter.unusedSimpArgs false
/-- What a node does with a message: what becomes of it, and what it sends. -/
def Nd.tkE (x : Nd) (v : ByteArray) : Nd × Option (Int × Int × ByteArray) := if x.e.isSome then (x, none) else (x.sdE v, x.otE 2 v)
/-- A ready, if one is called for. -/
def Nd.tkC (x : Nd) (v : ByteArray) : Nd × Option (Int × Int × ByteArray) := if rdy x v then (x.sdR v, x.otR 3 v) else (x, none)
/-- A value is delivered, if enough readies came. -/
def Nd.tkD (x : Nd) (v : ByteArray) : Nd := if 2 * x.t < cnt x.rd v then x.sdD v else x
def Nd.take (x : Nd) (k f : Int) (v : ByteArray) : Nd × Option (Int × Int × ByteArray) :=
  if mb x k f v = false then (x, none)
  else if k = 1 then x.tkE v
  else if k = 2 then (if f ∈ fs x.ec then (x, none) else (x.addE f v).tkC v)
  else if f ∈ fs x.rd then (x, none) else ((x.addR f v).tkD v).tkC v
/-- What a node's numbers are. -/
structure NW0 (x : Nd) : Prop where
  n : 1 ≤ x.n ∧ x.n ≤ 16
  t : 0 ≤ x.t ∧ x.t ≤ 5
  l1 : x.ec.length ≤ 50
  l2 : x.rd.length ≤ 50
theorem ent_mayBe (vs : Array Value) (w : World) : (callFunc 29 vs).run Try.prog w = .ok (.enter 29 vs) w := by kernel_rfl
set_option maxHeartbeats 2000000 in
theorem cTake_no (s : Nat) (x : Nd) (k f : Int) (v : ByteArray) (w : World) (hv : v.size ≤ maxLen) (hw : NW0 x) (h : NM w s x) (hb : mb x k f v = false) :
    Calls Try.prog 14 #[pN s, MX k f v] w fun e' w' => e' = .returned (.slice none 0 0) ∧ Below w.heap.size w w' := by
  go_enter Try.func14, Try.ntmps14
  go_upto_region 1 with fail
  have hB0 : Below w.heap.size w (w.alloc (.cells #[.int .i64 k, .int .i64 f, .string v] 32)) := balloc (bself w) _
  have hm : CV (w.alloc (.cells #[.int .i64 k, .int .i64 f, .string v] 32)) w.heap.size [.int .i64 k, .int .i64 f, .string v] := CV.new w [.int .i64 k, .int .i64 f, .string v] _
  have ls := h.c.lt (by simp)
  have hx := h.kp (lo := s + 7) (hi := s + 7) hB0.kp (.inl (Nat.le_refl _))
  generalize (w.alloc (.cells #[.int .i64 k, .int .i64 f, .string v] 32)) = v0 at *
  have m0 := (hm 0 _ rfl).1
  have m1 := (hm 1 _ rfl).1
  have m2 := (hm 2 _ rfl).1
  have hxc := hx.c
  have x0 := (hxc 0 _ rfl).1
  have hi := cIsMade (s + 6) x.n v0 x0
  have hn := hw.n
  rw [decide_eq_true (show 0 < x.n by omega)] at hi
  have hmb := cMayBe s x k f v v0 hv hxc
  rw [hb] at hmb
  clear hxc hx h
  go_wp2_with (first | (go_at_call 28; refine hi.mono ?_; rintro e w1 ⟨rfl, hu⟩; rw [hu]; clear hu) | (go_at_call 29; refine hmb.mono ?_; rintro e w1 ⟨rfl, hB1⟩))
  refine bodyPost_ret (v := .slice none 0 0) (by simp [results, Try.results14, go_sem]) rfl ⟨rfl, bstep hB0 hB1⟩
set_option maxHeartbeats 2000000 in
theorem cTake1 (s : Nat) (x : Nd) (f : Int) (v : ByteArray) (w : World) (hv : v.size ≤ maxLen) (hw : NW0 x) (h : NM w s x) (hb : mb x 1 f v = true) :
    Calls Try.prog 14 #[pN s, MX 1 f v] w fun e' w' => ∃ r, e' = .returned r ∧ Kp s (s + 7) w w' ∧ NM w' s (x.tkE v).1 ∧ OutM w.heap.size w' r (x.tkE v).2 := by
  go_enter Try.func14, Try.ntmps14
  go_upto_region 1 with fail
  have hB0 : Below w.heap.size w (w.alloc (.cells #[.int .i64 1, .int .i64 f, .string v] 32)) := balloc (bself w) _
  have hm : CV (w.alloc (.cells #[.int .i64 1, .int .i64 f, .string v] 32)) w.heap.size [.int .i64 1, .int .i64 f, .string v] := CV.new w [.int .i64 1, .int .i64 f, .string v] _
  have ls := h.c.lt (by simp)
  have lm := hm.lt (by simp)
  have hx := h.kp (lo := s + 7) (hi := s + 7) hB0.kp (.inl (Nat.le_refl _))
  generalize (w.alloc (.cells #[.int .i64 1, .int .i64 f, .string v] 32)) = v0 at *
  have m0 := (hm 0 _ rfl).1
  have m1 := (hm 1 _ rfl).1
  have m2 := (hm 2 _ rfl).1
  have hxc := hx.c
  have x0 := (hxc 0 _ rfl).1
  have hi := cIsMade (s + 6) x.n v0 x0
  have hn := hw.n
  have ht := hw.t
  rw [decide_eq_true (show 0 < x.n by omega)] at hi
  have hmb := cMayBe s x 1 f v v0 hv hx.c
  rw [hb] at hmb
  have hcn := fun (u : World) (hu : Below v0.heap.size v0 u) => cCount1 s x f v u (hxc.below hu (hxc.lt (by simp)))
  cases he : x.e with
  | some q =>
    rw [he] at hcn
    have hcn : ∀ u, Below v0.heap.size v0 u → Calls Try.prog 30 #[pN s, MX 1 f v] u fun e' w' => e' = .returned (.bool false) ∧ Below u.heap.size u w' := hcn
    have tk : x.tkE v = (x, none) := by simp [Nd.tkE, he]
    go_wp2_with (first | (go_at_call 28; refine hi.mono ?_; rintro e w1 ⟨rfl, hu⟩; rw [hu]; clear hu) | (go_at_call 29; refine hmb.mono ?_; rintro e w1 ⟨rfl, hB1⟩; have q0 := ((hm.below hB1 lm) 0 _ rfl).1; have q1 := ((hm.below hB1 lm) 1 _ rfl).1; have q2 := ((hm.below hB1 lm) 2 _ rfl).1) | (go_at_call 30; refine (hcn _ hB1).mono ?_; rintro e w2 ⟨rfl, hB2⟩))
    have hBa := bstep hB0 (bstep hB1 hB2)
    refine bodyPost_ret (v := .slice none 0 0) (by simp [results, Try.results14, go_sem]) rfl ⟨_, rfl, hBa.kp, by rw [tk]; exact h.kp (lo := s + 7) (hi := s + 7) hBa.kp (.inl (Nat.le_refl _)), by rw [tk]; rfl⟩
  | none =>
    rw [he] at hcn
    have hcn : ∀ u, Below v0.heap.size v0 u → Calls Try.prog 30 #[pN s, MX 1 f v] u fun e' w' => e' = .returned (.bool true) ∧ Below u.heap.size u w' := hcn
    have tk : x.tkE v = (x.sdE v, x.otE 2 v) := by simp [Nd.tkE, he]
    go_upto_region 3 with (first | (go_at_call 28; refine hi.mono ?_; rintro e w1 ⟨rfl, hu⟩; rw [hu]; clear hu) | (go_at_call 29; refine hmb.mono ?_; rintro e w1 ⟨rfl, hB1⟩; have q0 := ((hm.below hB1 lm) 0 _ rfl).1; have q1 := ((hm.below hB1 lm) 1 _ rfl).1; have q2 := ((hm.below hB1 lm) 2 _ rfl).1) | (go_at_call 30; refine (hcn _ hB1).mono ?_; rintro e w2 ⟨rfl, hB2⟩))
    have hBv : Below v0.heap.size v0 w2 := bstep hB1 hB2
    have hBa := bstep hB0 hBv
    have hmm := hm.below hBv lm
    have hN := h.kp (lo := s + 7) (hi := s + 7) hBa.kp (.inl (Nat.le_refl _))
    clear m0 m1 m2 hm
    have m0 := (hmm 0 _ rfl).1
    have m2 := (hmm 2 _ rfl).1
    have hsd := cSendE s x 2 v w2.drew ⟨hN.c, hN.h1, hN.m1, hN.h2, hN.m2⟩
    go_upto_region 7 with fail
    go_region_with (go_at_call 31; refine hsd.mono ?_; rintro e w3 ⟨r, rfl, hk3, hN3, ho3⟩)
    all_goals
      go_wp2
      refine bodyPost_ret (v := r) (by simp [results, Try.results14, go_sem]) rfl ⟨_, rfl, hBa.kp.drew.trans hk3, by rw [tk]; exact hN3, ?_⟩
      rw [tk]
      have hz := hBa.size
      revert ho3
      cases (x.otE 2 v) with
      | none => exact id
      | some q => rintro ⟨b, h1, h2, h3⟩; exact ⟨b, Nat.le_trans hz h1, h2, h3⟩
theorem addE_n (x : Nd) (f : Int) (v : ByteArray) : (x.addE f v).n = x.n ∧ (x.addE f v).t = x.t ∧ (x.addE f v).me = x.me ∧ (x.addE f v).ec.length ≤ x.ec.length + 1 := by
  unfold Nd.addE; split <;> simp
theorem addR_n (x : Nd) (f : Int) (v : ByteArray) : (x.addR f v).n = x.n ∧ (x.addR f v).t = x.t ∧ (x.addR f v).me = x.me ∧ (x.addR f v).ec = x.ec ∧ (x.addR f v).rd.length ≤ x.rd.length + 1 := by
  unfold Nd.addR; split <;> simp
theorem OutM.mono {lo lo' : Nat} {w : World} {r : Value} {o : Option (Int × Int × ByteArray)} (h : OutM lo w r o) (hl : lo' ≤ lo) : OutM lo' w r o := by
  cases o with
  | none => exact h
  | some q => obtain ⟨b, h1, h2, h3⟩ := h; exact ⟨b, Nat.le_trans hl h1, h2, h3⟩
set_option maxHeartbeats 2000000 in
theorem cTake2 (s : Nat) (x : Nd) (f : Int) (v : ByteArray) (w : World) (hf : (Lit.int .i64 f).wf = true) (hv : v.size ≤ maxLen) (hw : NW0 x) (h : NM w s x) (hb : mb x 2 f v = true) (tk : Nd × Option (Int × Int × ByteArray)) (htk : Hid (tk = if f ∈ fs x.ec then (x, none) else (x.addE f v).tkC v)) :
    Calls Try.prog 14 #[pN s, MX 2 f v] w fun e' w' => ∃ r, e' = .returned r ∧ Kp s (s + 7) w w' ∧ NM w' s tk.1 ∧ OutM w.heap.size w' r tk.2 := by
  go_enter Try.func14, Try.ntmps14
  go_upto_region 1 with fail
  have hB0 : Below w.heap.size w (w.alloc (.cells #[.int .i64 2, .int .i64 f, .string v] 32)) := balloc (bself w) _
  have hm : CV (w.alloc (.cells #[.int .i64 2, .int .i64 f, .string v] 32)) w.heap.size [.int .i64 2, .int .i64 f, .string v] := CV.new w [.int .i64 2, .int .i64 f, .string v] _
  have ls := h.c.lt (by simp)
  have lm := hm.lt (by simp)
  have hx := h.kp (lo := s + 7) (hi := s + 7) hB0.kp (.inl (Nat.le_refl _))
  generalize (w.alloc (.cells #[.int .i64 2, .int .i64 f, .string v] 32)) = v0 at *
  have m0 := (hm 0 _ rfl).1
  have m1 := (hm 1 _ rfl).1
  have m2 := (hm 2 _ rfl).1
  have hxc := hx.c
  have x0 := (hxc 0 _ rfl).1
  have hi := cIsMade (s + 6) x.n v0 x0
  have hn := hw.n
  have ht := hw.t
  rw [decide_eq_true (show 0 < x.n by omega)] at hi
  have hmb := cMayBe s x 2 f v v0 hv hx.c
  rw [hb] at hmb
  have hl1 := hw.l1
  have hcn := fun (u : World) (hu : Below v0.heap.size v0 u) (bb : Bool) (hbb : decide (f ∉ fs x.ec) = bb) => cCount2 s x f v u hf hv (by omega) (hx.kp (lo := s + 7) (hi := s + 7) hu.kp (.inl (Nat.le_refl _))) bb hbb
  by_cases he : f ∈ fs x.ec
  · have hbb : decide (f ∉ fs x.ec) = false := by simp [he]
    have htk : Hid (tk = (x, none)) := by have := htk.out; rw [if_pos he] at this; exact this
    have hy : x.addE f v = x := by unfold Nd.addE; rw [if_pos he]
    rw [hy] at hcn
    go_wp2_with (first | (go_at_call 28; refine hi.mono ?_; rintro e w1 ⟨rfl, hu⟩; rw [hu]; clear hu) | (go_at_call 29; refine hmb.mono ?_; rintro e w1 ⟨rfl, hB1⟩; have q0 := ((hm.below hB1 lm) 0 _ rfl).1; have q1 := ((hm.below hB1 lm) 1 _ rfl).1; have q2 := ((hm.below hB1 lm) 2 _ rfl).1) | (go_at_call 30; refine (hcn _ hB1 false hbb).mono ?_; rintro e w2 ⟨rfl, hk2, hN2⟩))
    refine bodyPost_ret (v := .slice none 0 0) (by simp [results, Try.results14, go_sem]) rfl ⟨_, rfl, (hB0.kp.trans hB1.kp).trans hk2, by rw [htk.out]; exact hN2, by rw [htk.out]; rfl⟩
  · have hbb : decide (f ∉ fs x.ec) = true := by simp [he]
    have htk : Hid (tk = (x.addE f v).tkC v) := by have := htk.out; rw [if_neg he] at this; exact this
    have hyn := addE_n x f v
    obtain ⟨y, hy⟩ : ∃ y, Hid (x.addE f v = y) := ⟨_, rfl⟩
    have hcn : ∀ u, Below v0.heap.size v0 u → ∀ bb, decide (f ∉ fs x.ec) = bb → Calls Try.prog 30 #[pN s, MX 2 f v] u fun e' w' => e' = .returned (.bool bb) ∧ Kp s (s + 7) u w' ∧ NM w' s y := by rw [← hy.out]; exact hcn
    rw [hy.out] at htk hyn
    go_upto_region 3 with (first | (go_at_call 28; refine hi.mono ?_; rintro e w1 ⟨rfl, hu⟩; rw [hu]; clear hu) | (go_at_call 29; refine hmb.mono ?_; rintro e w1 ⟨rfl, hB1⟩; have q0 := ((hm.below hB1 lm) 0 _ rfl).1; have q1 := ((hm.below hB1 lm) 1 _ rfl).1; have q2 := ((hm.below hB1 lm) 2 _ rfl).1) | (go_at_call 30; refine (hcn _ hB1 true hbb).mono ?_; rintro e w2 ⟨rfl, hk2, hN2⟩))
    have hka : Kp s (s + 7) w w2 := (hB0.kp.trans hB1.kp).trans hk2
    have hmm := (hm.below hB1 lm).kp hk2 (Nat.lt_of_lt_of_le lm hB1.size) (.inr (by omega))
    clear m0 m1 m2 hm q0 q1 q2
    have m0 := (hmm 0 _ rfl).1
    have m2 := (hmm 2 _ rfl).1
    have lm2 := hmm.lt (by simp)
    have hcl := cCalls s y v w2 hv (by omega) (by omega) hN2
    have hz2 := hka.size
    cases hr : rdy y v with
    | false =>
      rw [hr] at hcl
      have htk : Hid (tk = (y, none)) := by have := htk.out; unfold Nd.tkC at this; rw [hr] at this; exact this
      go_wp2_with (first | (go_at_call 34; refine hcl.mono ?_; rintro e w3 ⟨rfl, hB3⟩))
      refine bodyPost_ret (v := .slice none 0 0) (by simp [results, Try.results14, go_sem]) rfl ⟨_, rfl, hka.trans hB3.kp, by rw [htk.out]; exact hN2.kp (lo := s + 7) (hi := s + 7) hB3.kp (.inl (Nat.le_refl _)), by rw [htk.out]; rfl⟩
    | true =>
      rw [hr] at hcl
      have htk : Hid (tk = (y.sdR v, y.otR 3 v)) := by have := htk.out; unfold Nd.tkC at this; rw [hr] at this; exact this
      go_upto_region 11 with (first | (go_at_call 34; refine hcl.mono ?_; rintro e w3 ⟨rfl, hB3⟩))
      have hN3 := hN2.kp (lo := s + 7) (hi := s + 7) hB3.kp (.inl (Nat.le_refl _))
      have p0 := ((hmm.below hB3 lm2) 0 _ rfl).1
      have p2 := ((hmm.below hB3 lm2) 2 _ rfl).1
      have hz3 := hB3.size
      have hsd := cSendR s y 3 v w3.drew ⟨hN3.c, hN3.h1, hN3.m1, hN3.h2, hN3.m2⟩
      go_region_with (go_at_call 31; refine hsd.mono ?_; rintro e w4 ⟨r, rfl, hk4, hN4, ho4⟩)
      all_goals
        go_wp2
        refine bodyPost_ret (v := r) (by simp [results, Try.results14, go_sem]) rfl ⟨_, rfl, (hka.trans hB3.kp).drew.trans hk4, by rw [htk.out]; exact hN4, ?_⟩
        rw [htk.out]
        exact ho4.mono (Nat.le_trans hz2 hz3)
end Go.Proofs.Ythncmahhnbpbkaa
