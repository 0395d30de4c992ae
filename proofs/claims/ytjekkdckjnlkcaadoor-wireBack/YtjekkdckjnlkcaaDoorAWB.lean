/- What wire's functions answer, as one asks of them; the laws of wire, walked over that. -/
import Derived.Test.YtjekkdckjnlkcaaDoorAWA
namespace Go.Proofs.YtjekkdckjnlkcaaDoor
open Go.RowKit
set_option linter.unusedVariables false
set_option linter.unusedSimpArgs false
/-- Fields as a law hands them on. -/
def fldOk (fs : List FldI) : Prop := fs.length ≤ 257 ∧ ∀ f ∈ fs, f.2.length ≤ 4097 ∧ (∀ x ∈ f.2, x < 256) ∧ -9223372036854775808 ≤ f.1 ∧ f.1 ≤ 9223372036854775807
def lstOk (ps : List (List Nat)) : Prop := ps.length ≤ 257 ∧ ∀ p ∈ ps, p.length ≤ 4097 ∧ ∀ x ∈ p, x < 256
def bytOk (bs : List Nat) : Prop := bs.length ≤ 4097 ∧ ∀ x ∈ bs, x < 256
def WPut (w : World) : Prop := ∀ u v fs, Below w.heap.size w u → VF u v fs → fldOk fs → Calls Tryd.prog 10 #[v] u fun e u' => ∃ y, e = .returned y ∧ PTX (putE fs) (putX fs) u' y ∧ Below u.heap.size u u'
def WGet (w : World) : Prop := ∀ u v fs tag, Below w.heap.size w u → VF u v fs → fldOk fs → -9223372036854775808 ≤ tag → tag ≤ 9223372036854775807 → Calls Tryd.prog 12 #[v, .int .i64 tag] u fun e u' => ∃ y, e = .returned y ∧ PTX (getE fs tag) (getX fs tag) u' y ∧ Below u.heap.size u u'
def WRead (w : World) : Prop := ∀ u v bs, Below w.heap.size w u → IN u u.heap.size v bs → bytOk bs → Calls Tryd.prog 18 #[v] u fun e u' => ∃ y, e = .returned y ∧ PTF (readE bs) (readX bs) u' y ∧ Below u.heap.size u u'
def WInt (w : World) : Prop := ∀ u n, Below w.heap.size w u → -9223372036854775808 ≤ n → n ≤ 9223372036854775807 → Calls Tryd.prog 26 #[.int .i64 n] u fun e u' => ∃ y, e = .returned y ∧ IN u' u'.heap.size y (int8 (u64n n) 8) ∧ Below u.heap.size u u'
def WReadInt (w : World) : Prop := ∀ u v bs, Below w.heap.size w u → IN u u.heap.size v bs → bytOk bs → Calls Tryd.prog 20 #[v] u fun e u' => e = .returned (.tuple #[.int .i64 (rdIX bs), .int .i64 (rdIE bs)]) ∧ Below u.heap.size u u'
def WList (w : World) : Prop := ∀ u v ps, Below w.heap.size w u → LV u v ps → lstOk ps → Calls Tryd.prog 29 #[v] u fun e u' => ∃ y, e = .returned y ∧ PTX (putLE ps) (putLX ps) u' y ∧ Below u.heap.size u u'
def WReadList (w : World) : Prop := ∀ u v bs, Below w.heap.size w u → IN u u.heap.size v bs → bytOk bs → Calls Tryd.prog 22 #[v] u fun e u' => ∃ y, e = .returned y ∧ PTL (readLE bs) (readLX bs) u' y ∧ Below u.heap.size u u'
theorem putX_ok {fs : List FldI} (h : fldOk fs) : bytOk (putX fs) := by
  unfold putX
  split
  · exact ⟨by simp, by simp⟩
  · split
    · exact ⟨by simp, by simp⟩
    · split
      · exact ⟨by simp, by simp⟩
      · rename_i h1 h2 h3
        refine ⟨by omega, ?_⟩
        have hb : ∀ i, i < fs.length → ¬ (tgF fs i ≤ laF 0 fs i ∨ 255 < tgF fs i ∨ 4096 < (psF fs i).length) := fun i hi hc => h2 ((badI_iff fs 0).2 ⟨i, hi, hc⟩)
        have hp := pos_of hb
        have key : ∀ l : List FldI, (∀ f ∈ l, 0 < f.1 ∧ f.1 ≤ 255 ∧ f.2.length ≤ 4096 ∧ ∀ x ∈ f.2, x < 256) → ∀ x ∈ bytesI l, x < 256 := by
          intro l
          induction l with
          | nil => intro _ x hx; simp [bytesI] at hx
          | cons f l ih =>
            obtain ⟨t, b⟩ := f
            intro hf x hx
            have h0 := hf (t, b) (by simp)
            simp only [bytesI, List.mem_append, List.mem_cons, List.not_mem_nil, or_false] at hx
            rcases hx with (hx | hx) | hx
            · rcases hx with rfl | rfl | rfl
              · have := h0.1; have := h0.2.1; simp at *; omega
              · have := h0.2.2.1; simp at *; omega
              · exact Nat.mod_lt _ (by decide)
            · exact h0.2.2.2 x hx
            · exact ih (fun f hf' => hf f (by simp [hf'])) x hx
        refine key fs fun f hf => ?_
        obtain ⟨i, hi, e⟩ := List.mem_iff_getElem.1 hf
        have e2 : fs.getD i (0, []) = f := by rw [List.getD_eq_getElem?_getD, List.getElem?_eq_getElem hi, e]; rfl
        have h4 := hb i hi
        have h5 := hp i hi
        unfold tgF at h4 h5
        unfold psF at h4
        rw [e2] at h4 h5
        exact ⟨h5, by omega, by omega, (h.2 f hf).2.1⟩
theorem getX_ok {fs : List FldI} (h : fldOk fs) (tag : Int) : bytOk (getX fs tag) := by
  have key : ∀ l : List FldI, (∀ f ∈ l, f.2.length ≤ 4097 ∧ ∀ x ∈ f.2, x < 256) → bytOk ((getI tag l).getD []) := by
    intro l
    induction l with
    | nil => intro _; exact ⟨by simp [getI], by simp [getI]⟩
    | cons f l ih =>
      obtain ⟨t, b⟩ := f
      intro hf
      rw [getI]
      split
      · exact hf (t, b) (by simp)
      · exact ih fun f hf' => hf f (by simp [hf'])
  exact key fs fun f hf => ⟨(h.2 f hf).1, (h.2 f hf).2.1⟩
theorem fewF_ok {fs : List FldI} (h : ∀ f ∈ fs, (∀ x ∈ f.2, x < 256) ∧ -9223372036854775808 ≤ f.1 ∧ f.1 ≤ 9223372036854775807) : fldOk (fewF fs) := by
  refine ⟨by rw [fewF_len]; omega, fun f hf => ?_⟩
  obtain ⟨a, b, c⟩ := fewF_mem hf
  have := c fun g hg => (h g hg).2
  exact ⟨a, b fun g hg => (h g hg).1, this⟩
theorem partsF_ok {ps : List (List Nat)} (h : ∀ p ∈ ps, ∀ x ∈ p, x < 256) : lstOk (partsF ps) := by
  refine ⟨by rw [partsF_len]; omega, fun p hp => ?_⟩
  obtain ⟨a, b⟩ := partsF_mem hp
  exact ⟨a, b h⟩
theorem cSameT {u : World} {xs : List Nat} {v v2 : Value} (h : IN u u.heap.size v xs) (h' : IN u u.heap.size v2 xs) (hx : ∀ x ∈ xs, x < 256) : Calls Tryd.prog 14 #[v, v2] u fun e w' => e = .returned (.bool true) ∧ Below u.heap.size u w' := by
  have := cSameB xs xs v v2 u h h' hx hx
  simpa using this
theorem INpos {u : World} {v : Value} {xs : List Nat} (h : IN u u.heap.size v xs) : 0 < u.heap.size := by
  obtain ⟨_, _, gb, _, _, _, _, h4, _⟩ := h; omega
theorem IN.up {w u : World} {v : Value} {xs : List Nat} (h : IN w w.heap.size v xs) (hB : Below w.heap.size w u) : IN u u.heap.size v xs := (h.below hB).mono hB.size
set_option maxRecDepth 100000 in
set_option maxHeartbeats 2000000 in
theorem wirePuts_core (v : Value) (tag : Int) (F : List FldI) (fs : List FldI) (w : World) (hF : fewF fs = F) (hFF : fewF F = F) (hok : fldOk F) (hv : VFr w v fs) (ht1 : -9223372036854775808 ≤ tag) (ht2 : tag ≤ 9223372036854775807) (hP : Hid (WPut w)) (hG : Hid (WGet w)) (hW : Hid (∀ u, Below w.heap.size w u → Calls Tryd.prog 15 #[] u fun e u' => e = .returned (.bool true) ∧ Below u.heap.size u u')) :
    Calls Tryd.prog 3 #[v, .int .i64 tag] w fun e w' => e = .returned (.bool true) ∧ Below w.heap.size w w' := by
  have h1 := cFew8r fs v w hv
  rw [hF] at h1
  have hx1 := (putX_ok hok).2
  have hx2 := (getX_ok hok tag).2
  obtain ⟨pe, epe⟩ : ∃ x, putE F = x := ⟨_, rfl⟩
  obtain ⟨px, epx⟩ : ∃ x, putX F = x := ⟨_, rfl⟩
  obtain ⟨ge, ege⟩ : ∃ x, getE F tag = x := ⟨_, rfl⟩
  obtain ⟨gx, egx⟩ : ∃ x, getX F tag = x := ⟨_, rfl⟩
  rw [epx] at hx1
  rw [egx] at hx2
  have hx1 : Hid _ := hx1
  have hx2 : Hid _ := hx2
  go_enter Tryd.func3, Tryd.ntmps3
  go_wp2_with (first
    | (go_at_call 9; refine h1.mono ?_; clear h1; rintro e ua ⟨va, rfl, hva, hBa⟩; have h2 := cFew8 F va ua hva; rw [hFF] at h2)
    | (go_at_call 9; refine h2.mono ?_; clear h2; rintro e ub ⟨vb, rfl, hvb, hBb⟩; have h3 := hP.out ub vb F (bstep hBa hBb) hvb.1 hok; rw [epe, epx] at h3)
    | (go_at_call 10; refine h3.mono ?_; clear h3; rintro e uc ⟨vc, rfl, ⟨yc, rfl, hyc⟩, hBc⟩; have h4 := cPutR F va uc (hva.1.below (bstep hBb hBc)).pos (hva.1.below (bstep hBb hBc)); rw [epe, epx] at h4)
    | (go_at_call 11; refine h4.mono ?_; clear h4; rintro e ud ⟨vd, rfl, ⟨yd, rfl, hyd⟩, hBd⟩; have hBwd : Below w.heap.size w ud := bstep (bstep (bstep hBa hBb) hBc) hBd; have hvd := hva.1.below (bstep (bstep hBb hBc) hBd); have h5 := hG.out ud va F tag hBwd hvd hok ht1 ht2; rw [ege, egx] at h5)
    | (go_at_call 12; refine h5.mono ?_; clear h5; rintro e ue ⟨ve, rfl, ⟨ye, rfl, hye⟩, hBe⟩; have h6 := cGetR F tag va ue (hvd.below hBe) (Nat.le_trans hok.1 (by decide)) (fun f hf => Nat.le_trans (hok.2 f hf).1 (by decide)); rw [ege, egx] at h6)
    | (go_at_call 13; refine h6.mono ?_; clear h6; rintro e uf ⟨vf, rfl, ⟨yf, rfl, hyf⟩, hBf⟩; have h7 := cSameT (hyc.up (bstep (bstep hBd hBe) hBf)) (hyd.up (bstep hBe hBf)) hx1.out)
    | (go_at_call 14; refine h7.mono ?_; clear h7; rintro e ug ⟨rfl, hBg⟩; have h8 := cSameT (hye.up (bstep hBf hBg)) (hyf.up hBg) hx2.out)
    | (go_at_call 14; refine h8.mono ?_; clear h8; rintro e uh ⟨rfl, hBh⟩; have hBwh : Below w.heap.size w uh := bstep (bstep (bstep (bstep hBwd hBe) hBf) hBg) hBh; have h9 := hW.out uh hBwh)
    | (go_at_call 15; refine h9.mono ?_; clear h9; rintro e ui ⟨rfl, hBi⟩))
  exact bodyPost_ret (v := .bool true) (by simp [results, Tryd.results3, go_sem]) rfl ⟨rfl, bstep hBwh hBi⟩
end Go.Proofs.YtjekkdckjnlkcaaDoor
