/- Wire: Put, List, Read, ReadList, Get. -/
import Derived.Test.YtjekkdckjnlkcaaDoorAVA
import Derived.Test.YtjekkdckjnlkcaaDoorAVD
namespace Go.Proofs.YtjekkdckjnlkcaaDoor
open Go.RowKit
set_option linter.unusedVariables false
set_option linter.unusedSimpArgs false
theorem cReadingL (bs : List Nat) (v : Value) (w : World) (hG : GW w) (h : IN w w.heap.size v bs) (hb : bytOk bs) :
    Calls Tryd.prog 37 #[v] w fun e u => ∃ y er, e = .returned (.tuple #[y, er]) ∧ EO (readLE bs) er ∧ LV u y (readLX bs) ∧ Below w.heap.size w u := by
  refine cReadingL_core bs v (rdL bs.length bs) (readLE bs) (readLX bs) w hG h hb.2 hb.1 rfl (fun h => ?_) (fun h e => ?_) (fun ms h e hm => ?_) (fun ms h e hm => ?_)
  · simp [readLE, readLX, h]
  · have h1 : ¬ 4096 < bs.length := by omega
    simp [readLE, readLX, h1, e]
  · have h1 : ¬ 4096 < bs.length := by omega
    simp [readLE, readLX, h1, e, hm]
  · have h1 : ¬ 4096 < bs.length := by omega
    have h2 : ¬ 256 < ms.length := by omega
    simp [readLE, readLX, h1, e, h2]
theorem cReading (bs : List Nat) (v : Value) (w : World) (hG : GW w) (h : IN w w.heap.size v bs) (hb : bytOk bs) :
    Calls Tryd.prog 36 #[v] w fun e u => ∃ y er, e = .returned (.tuple #[y, er]) ∧ EO (readE bs) er ∧ VF u y (readX bs) ∧ Below w.heap.size w u := by
  refine cReading_core bs v (rdF bs.length 0 bs) (readE bs) (readX bs) w hG h hb.2 hb.1 rfl (fun h => ?_) (fun h e => ?_) (fun ms h e => ?_)
  · simp [readE, readX, h]
  · have h1 : ¬ 4096 < bs.length := by omega
    simp [readE, readX, h1, e]
  · have h1 : ¬ 4096 < bs.length := by omega
    simp [readE, readX, h1, e]
theorem getD_fs {fs : List FldI} {i : Nat} (hi : i < fs.length) : fs.getD i (0, []) ∈ fs := psF_mem hi
theorem bytesI_big : ∀ (fs : List FldI), (∀ f ∈ fs, f.2.length ≤ 4097) → (bytesI fs).length ≤ 4100 * fs.length
  | [], _ => by simp [bytesI]
  | (t, b) :: l, h => by
    have h1 := h (t, b) (by simp)
    have h2 := bytesI_big l fun f hf => h f (by simp [hf])
    simp [bytesI]
    simp at h1
    omega
theorem putL_big : ∀ (ps : List (List Nat)), (∀ p ∈ ps, p.length ≤ 4097) → (putL ps).length ≤ 4100 * ps.length
  | [], _ => by simp [putL]
  | b :: l, h => by
    have h1 := h b (by simp)
    have h2 := putL_big l fun f hf => h f (by simp [hf])
    simp [putL]
    omega
theorem laF_rg {fs : List FldI} (h : fldOk fs) : ∀ i, i ≤ fs.length → -9223372036854775808 ≤ laF 0 fs i ∧ laF 0 fs i ≤ 9223372036854775807
  | 0, _ => by simp [laF]
  | i + 1, hi => (h.2 _ (getD_fs (i := i) (by omega))).2.2
theorem cValue (fs : List FldI) (v : Value) (w : World) (hG : GW w) (h : VF w v fs) (hok : fldOk fs) :
    Calls Tryd.prog 40 #[v] w fun e u => ∃ y, e = .returned y ∧ EO (if badI 0 fs then 80 else 0) y ∧ Below w.heap.size w u := by
  obtain ⟨gsl, gcap, rfl, hr⟩ := h.row
  refine cValue_core fs.length gcap gsl (tgF fs) (laF 0 fs) (psF fs) _ w hG hok.1 hr (fun i hi => (hok.2 _ (getD_fs hi)).2.2) rfl (fun i => rfl) (laF_rg hok) (fun i hi hb => ?_) (fun hg => ?_)
  · rw [if_pos ((badI_iff fs 0).2 ⟨i, hi, hb⟩)]
  · rw [if_neg (fun hc => by obtain ⟨j, j1, j2⟩ := (badI_iff fs 0).1 hc; exact hg j j1 j2)]
theorem cPutting (fs : List FldI) (v : Value) (w : World) (hG : GW w) (h : VF w v fs) (hok : fldOk fs) :
    Calls Tryd.prog 32 #[v] w fun e u => ∃ y er, e = .returned (.tuple #[y, er]) ∧ EO (putE fs) er ∧ IN u u.heap.size y (putX fs) ∧ Below w.heap.size w u := by
  obtain ⟨gsl, gcap, rfl, hr⟩ := h.row
  have hall : ∀ f ∈ fs, f.2.length ≤ 4097 := fun f hf => (hok.2 f hf).1
  have hbg := bytesI_big fs hall
  have hlen := hok.1
  refine cPutting_core fs.length gcap gsl (tgF fs) (laF 0 fs) (psF fs) (fun i => bytesI (fs.take i)) (putE fs) (if badI 0 fs then 80 else 0) (putX fs) w hG h.pos hok.1 hr (fun u hB => cValue fs _ u (hG.below hB) (h.below hB) hok) (fun i hi => hall _ (getD_fs hi)) rfl (fun i hi => bytesI_step hi) (fun i hi => ?_) ?_ (fun h => ?_) (fun hn hb => ?_) (fun hn hb hl => ?_) (fun hn hb hl => ?_) (fun hb i hi => ?_)
  · show (bytesI (fs.take i)).length ≤ (bytesI (fs.take fs.length)).length
    rw [List.take_length]; exact bytesI_le fs i
  · show (bytesI (fs.take fs.length)).length ≤ 1100000
    rw [List.take_length]; omega
  · unfold putE putX; rw [if_pos h, if_pos h]; exact ⟨rfl, rfl⟩
  · have h1 : ¬ 256 < fs.length := by omega
    have hbad : badI 0 fs = true := by
      by_cases hc : badI 0 fs = true
      · exact hc
      · rw [if_neg hc] at hb; exact absurd rfl hb
    simp [putE, putX, h1, hbad]
  · have hbad : ¬ badI 0 fs = true := fun hc => by rw [if_pos hc] at hb; exact absurd hb (by decide)
    simp only [List.take_length] at hl
    have h1 : ¬ 256 < fs.length := by omega
    simp [putE, putX, h1, hbad, hl]
  · have hbad : ¬ badI 0 fs = true := fun hc => by rw [if_pos hc] at hb; exact absurd hb (by decide)
    simp only [List.take_length] at hl ⊢
    have h1 : ¬ 256 < fs.length := by omega
    have h2 : ¬ 4096 < (bytesI fs).length := by omega
    simp [putE, putX, h1, hbad, h2]
  · have hg : ∀ j, j < fs.length → ¬ (tgF fs j ≤ laF 0 fs j ∨ 255 < tgF fs j ∨ 4096 < (psF fs j).length) := fun j hj hc => by
      rw [if_pos ((badI_iff fs 0).2 ⟨j, hj, hc⟩)] at hb; exact absurd hb (by decide)
    have := pos_of hg i hi
    have := hg i hi
    omega
theorem cListing (ps : List (List Nat)) (v : Value) (w : World) (hG : GW w) (h : LV w v ps) (hok : lstOk ps) :
    Calls Tryd.prog 38 #[v] w fun e u => ∃ y er, e = .returned (.tuple #[y, er]) ∧ EO (putLE ps) er ∧ IN u u.heap.size y (putLX ps) ∧ Below w.heap.size w u := by
  obtain ⟨sl, cap, gl, go, rfl, h3, h4, h5⟩ := h
  have hgd : ∀ i, i < ps.length → ps.getD i [] ∈ ps := fun i hi => by
    have e2 : ps.getD i [] = ps[i] := by rw [List.getD_eq_getElem?_getD, List.getElem?_eq_getElem hi]; rfl
    rw [e2]; exact List.getElem_mem hi
  have hall : ∀ p ∈ ps, p.length ≤ 4097 := fun p hp => (hok.2 p hp).1
  have hbg := putL_big ps hall
  have hlen := hok.1
  refine cListing_core ps.length cap sl (fun i => ps.getD i []) (fun i => putL (ps.take i)) (putLE ps) (putLX ps) w hG (Nat.lt_of_le_of_lt (Nat.zero_le _) h4) hok.1 (fun h0 => ⟨gl, go, h3.resolve_left (by omega), h4, fun i hi => ?_⟩) (fun i hi => hall _ (hgd i hi)) rfl (fun i hi => putL_step hi) (fun i hi => ?_) ?_ (fun h => ?_) (fun hn hb => ?_) (fun hn hb => ?_)
  · have e : ps.getD i [] = ps[i] := by rw [List.getD_eq_getElem?_getD, List.getElem?_eq_getElem hi]; rfl
    obtain ⟨x, b, c⟩ := h5 i ps[i] (List.getElem?_eq_getElem hi)
    simp only [e]
    obtain ⟨s2, c2, g2, o2, q1, q2⟩ := c
    exact ⟨s2, c2, by rw [← q1]; exact b, s2, c2, g2, o2, rfl, q2⟩
  · show (putL (ps.take i)).length ≤ (putL (ps.take ps.length)).length
    rw [List.take_length]; exact putL_le ps i
  · show (putL (ps.take ps.length)).length ≤ 1100000
    rw [List.take_length]; omega
  · have e : putLE ps = 3 := by unfold putLE; rw [if_pos h]
    exact ⟨e, by unfold putLX; rw [if_neg (by rw [e]; decide)]⟩
  · simp only [List.take_length] at hb
    have h1 : ¬ 256 < ps.length := by omega
    have e : putLE ps = 3 := by
      unfold putLE; rw [if_neg h1]
      split
      · rfl
      · first | rfl | rw [if_pos hb]
    exact ⟨e, by unfold putLX; rw [if_neg (by rw [e]; decide)]⟩
  · have h1 : ¬ 256 < ps.length := by omega
    simp only [List.take_length] at hb ⊢
    have h2 : ¬ 4096 < (putL ps).length := by omega
    have h3 : ¬ (ps.any fun p => decide (4096 < p.length)) = true := fun hc => by
      obtain ⟨p, p1, p2⟩ := List.any_eq_true.1 hc
      have := putL_one p1
      simp at p2; omega
    have e : putLE ps = 0 := by unfold putLE; rw [if_neg h1, if_neg h3, if_neg h2]
    exact ⟨e, by unfold putLX; rw [if_pos e]⟩
set_option maxRecDepth 100000 in
theorem cPutW (fs : List FldI) (v : Value) (w : World) (hG : GW w) (h : VF w v fs) (hok : fldOk fs) :
    Calls Tryd.prog 10 #[v] w fun e u => ∃ y, e = .returned y ∧ PTX (putE fs) (putX fs) u y ∧ Below w.heap.size w u := by
  have hI := cPutting fs v w hG h hok
  obtain ⟨sl, n, cap, rfl⟩ : ∃ sl n cap, v = .slice sl n cap := by obtain ⟨sl, cap, _, _, e, _⟩ := h; exact ⟨_, _, _, e⟩
  obtain ⟨ev, eev⟩ : ∃ x, putE fs = x := ⟨_, rfl⟩
  obtain ⟨ex, eex⟩ : ∃ x, putX fs = x := ⟨_, rfl⟩
  rw [eev, eex] at hI ⊢
  clear h hok eev eex
  go_enter Tryd.func10, Tryd.ntmps10
  go_wp2_with (first
    | (go_at_call 32; refine hI.mono ?_; clear hI; rintro e ua ⟨y, er, rfl, hE, hy, hBa⟩; obtain ⟨s1, n1, c1, rfl⟩ : ∃ sl n cap, y = .slice sl n cap := (by obtain ⟨sl, cap, _, _, e, _⟩ := hy; exact ⟨_, _, _, e⟩); have hT := cTold ev er ua (hG.below hBa) hE; replace hE : Hid _ := hE; replace hy : Hid (IN ua ua.heap.size (.slice s1 n1 c1) ex) := hy)
    | (go_at_call 33; refine hT.mono ?_; clear hT; rintro e ub ⟨rfl, hBb⟩))
  exact bodyPost_ret (v := .tuple #[.slice s1 n1 c1, .int .i64 ev]) (by simp [results, Tryd.results10, go_sem]) rfl ⟨_, rfl, ⟨_, rfl, hy.out.up hBb⟩, bstep hBa hBb⟩
set_option maxRecDepth 100000 in
theorem cListW (ps : List (List Nat)) (v : Value) (w : World) (hG : GW w) (h : LV w v ps) (hok : lstOk ps) :
    Calls Tryd.prog 29 #[v] w fun e u => ∃ y, e = .returned y ∧ PTX (putLE ps) (putLX ps) u y ∧ Below w.heap.size w u := by
  have hI := cListing ps v w hG h hok
  obtain ⟨sl, n, cap, rfl⟩ : ∃ sl n cap, v = .slice sl n cap := by obtain ⟨sl, cap, _, _, e, _⟩ := h; exact ⟨_, _, _, e⟩
  obtain ⟨ev, eev⟩ : ∃ x, putLE ps = x := ⟨_, rfl⟩
  obtain ⟨ex, eex⟩ : ∃ x, putLX ps = x := ⟨_, rfl⟩
  rw [eev, eex] at hI ⊢
  clear h hok eev eex
  go_enter Tryd.func29, Tryd.ntmps29
  go_wp2_with (first
    | (go_at_call 38; refine hI.mono ?_; clear hI; rintro e ua ⟨y, er, rfl, hE, hy, hBa⟩; obtain ⟨s1, n1, c1, rfl⟩ : ∃ sl n cap, y = .slice sl n cap := (by obtain ⟨sl, cap, _, _, e, _⟩ := hy; exact ⟨_, _, _, e⟩); have hT := cTold ev er ua (hG.below hBa) hE; replace hE : Hid _ := hE; replace hy : Hid (IN ua ua.heap.size (.slice s1 n1 c1) ex) := hy)
    | (go_at_call 33; refine hT.mono ?_; clear hT; rintro e ub ⟨rfl, hBb⟩))
  exact bodyPost_ret (v := .tuple #[.slice s1 n1 c1, .int .i64 ev]) (by simp [results, Tryd.results29, go_sem]) rfl ⟨_, rfl, ⟨_, rfl, hy.out.up hBb⟩, bstep hBa hBb⟩
set_option maxRecDepth 100000 in
theorem cReadW (bs : List Nat) (v : Value) (w : World) (hG : GW w) (h : IN w w.heap.size v bs) (hok : bytOk bs) :
    Calls Tryd.prog 18 #[v] w fun e u => ∃ y, e = .returned y ∧ PTF (readE bs) (readX bs) u y ∧ Below w.heap.size w u := by
  have hI := cReading bs v w hG h hok
  obtain ⟨sl, n, cap, rfl⟩ : ∃ sl n cap, v = .slice sl n cap := by obtain ⟨sl, cap, _, _, e, _⟩ := h; exact ⟨_, _, _, e⟩
  obtain ⟨ev, eev⟩ : ∃ x, readE bs = x := ⟨_, rfl⟩
  obtain ⟨ex, eex⟩ : ∃ x, readX bs = x := ⟨_, rfl⟩
  rw [eev, eex] at hI ⊢
  clear h hok eev eex
  go_enter Tryd.func18, Tryd.ntmps18
  go_wp2_with (first
    | (go_at_call 36; refine hI.mono ?_; clear hI; rintro e ua ⟨y, er, rfl, hE, hy, hBa⟩; obtain ⟨s1, n1, c1, rfl⟩ : ∃ sl n cap, y = .slice sl n cap := (by obtain ⟨sl, cap, _, _, e, _⟩ := hy; exact ⟨_, _, _, e⟩); have hT := cTold ev er ua (hG.below hBa) hE; replace hE : Hid _ := hE; replace hy : Hid (VF ua (.slice s1 n1 c1) ex) := hy)
    | (go_at_call 33; refine hT.mono ?_; clear hT; rintro e ub ⟨rfl, hBb⟩))
  exact bodyPost_ret (v := .tuple #[.slice s1 n1 c1, .int .i64 ev]) (by simp [results, Tryd.results18, go_sem]) rfl ⟨_, rfl, ⟨_, rfl, hy.out.below hBb⟩, bstep hBa hBb⟩
set_option maxRecDepth 100000 in
theorem cReadListW (bs : List Nat) (v : Value) (w : World) (hG : GW w) (h : IN w w.heap.size v bs) (hok : bytOk bs) :
    Calls Tryd.prog 22 #[v] w fun e u => ∃ y, e = .returned y ∧ PTL (readLE bs) (readLX bs) u y ∧ Below w.heap.size w u := by
  have hI := cReadingL bs v w hG h hok
  obtain ⟨sl, n, cap, rfl⟩ : ∃ sl n cap, v = .slice sl n cap := by obtain ⟨sl, cap, _, _, e, _⟩ := h; exact ⟨_, _, _, e⟩
  obtain ⟨ev, eev⟩ : ∃ x, readLE bs = x := ⟨_, rfl⟩
  obtain ⟨ex, eex⟩ : ∃ x, readLX bs = x := ⟨_, rfl⟩
  rw [eev, eex] at hI ⊢
  clear h hok eev eex
  go_enter Tryd.func22, Tryd.ntmps22
  go_wp2_with (first
    | (go_at_call 37; refine hI.mono ?_; clear hI; rintro e ua ⟨y, er, rfl, hE, hy, hBa⟩; obtain ⟨s1, n1, c1, rfl⟩ : ∃ sl n cap, y = .slice sl n cap := (by obtain ⟨sl, cap, _, _, e, _⟩ := hy; exact ⟨_, _, _, e⟩); have hT := cTold ev er ua (hG.below hBa) hE; replace hE : Hid _ := hE; replace hy : Hid (LV ua (.slice s1 n1 c1) ex) := hy)
    | (go_at_call 33; refine hT.mono ?_; clear hT; rintro e ub ⟨rfl, hBb⟩))
  exact bodyPost_ret (v := .tuple #[.slice s1 n1 c1, .int .i64 ev]) (by simp [results, Tryd.results22, go_sem]) rfl ⟨_, rfl, ⟨_, rfl, hy.out.below hBb⟩, bstep hBa hBb⟩
end Go.Proofs.YtjekkdckjnlkcaaDoor
