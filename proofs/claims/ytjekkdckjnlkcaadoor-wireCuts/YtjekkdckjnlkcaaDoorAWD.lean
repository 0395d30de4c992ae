/- The laws WireReads, WireLists, WireBack, WireCuts: walked. -/
import Derived.Test.YtjekkdckjnlkcaaDoorAWC
namespace Go.Proofs.YtjekkdckjnlkcaaDoor
open Go.RowKit
set_option linter.unusedVariables false
set_option linter.unusedSimpArgs false
def WWorks (w : World) : Prop := ∀ u, Below w.heap.size w u → Calls Tryd.prog 15 #[] u fun e u' => e = .returned (.bool true) ∧ Below u.heap.size u u'
theorem cSameFT {u : World} {fs : List FldI} {v v2 : Value} (h : VF u v fs) (h' : VF u v2 fs) (hx : fldOk fs) : Calls Tryd.prog 24 #[v, v2] u fun e w' => e = .returned (.bool true) ∧ Below u.heap.size u w' := by
  have := cSameF fs fs v v2 u h h' (fun f hf => (hx.2 f hf).2.1) (fun f hf => (hx.2 f hf).2.1) (Nat.le_trans hx.1 (by decide))
  simpa using this
theorem cSameLT {u : World} {ps : List (List Nat)} {v v2 : Value} (h : LV u v ps) (h' : LV u v2 ps) (hx : ps.length ≤ 257 ∧ ∀ p ∈ ps, ∀ x ∈ p, x < 256) : Calls Tryd.prog 25 #[v, v2] u fun e w' => e = .returned (.bool true) ∧ Below u.heap.size u w' := by
  have := cSameL ps ps v v2 u h h' hx.2 hx.2 (Nat.le_trans hx.1 (by decide))
  simpa using this
theorem LV.up {w u : World} {v : Value} {ps : List (List Nat)} (h : LV w v ps) (hB : Below w.heap.size w u) : LV u v ps := by
  obtain ⟨sl, cap, gl, go, h1, h2, h4, h5⟩ := h
  refine ⟨sl, cap, gl, go, h1, h2, Nat.lt_of_lt_of_le h4 hB.size, fun i f hf => ?_⟩
  obtain ⟨x, a, b⟩ := h5 i f hf
  exact ⟨x, (hB.cell (p := ⟨gl, go + i, none⟩) h4).trans a, (b.below hB).mono hB.size⟩
theorem PF_in8 {u : World} {lo x : Nat} {xs : List Nat} {y : Value} (e : int8 x 8 = xs) (h : PF lo 8 (U8 xs) u y) : IN u u.heap.size y xs := by
  have hl : xs.length = 8 := by rw [← e]; exact int8_len 8 x
  obtain ⟨b, rfl, h1, h2, h3⟩ := h
  exact ⟨_, 8, b, 0, by rw [hl], by omega, .inr rfl, h2, fun j hj => by rw [Nat.zero_add]; exact (h3 j _ (U8_get xs j hj)).1⟩
set_option maxRecDepth 100000 in
set_option maxHeartbeats 4000000 in
theorem wireReads_core (sl : Option Addr) (n0 cap m : Nat) (n : Int) (bs : List Nat) (w : World) (hmin : min (n0 : Int) 4097 = (m : Int)) (hm : m ≤ n0) (hc : n0 ≤ cap) (hsn : sl = none → cap = 0) (hin : Hid (∀ u, Below w.heap.size w u → 0 < u.heap.size → IN u u.heap.size (.slice sl m cap) bs)) (hBy : Hid (∀ u, Below w.heap.size w u → Calls Tryd.prog 17 #[.slice sl m cap] u fun e w' => ∃ v, e = .returned v ∧ PG u.heap.size 1 bs.length (U8 bs) w' v ∧ Below u.heap.size u w')) (hok : bytOk bs) (hn1 : -9223372036854775808 ≤ n) (hn2 : n ≤ 9223372036854775807) (hR : Hid (WRead w)) (hI : Hid (WReadInt w)) (hL : Hid (WReadList w)) (hN : Hid (WInt w)) (hW : Hid (WWorks w)) :
    Calls Tryd.prog 4 #[.slice sl n0 cap, .int .i64 n] w fun e w' => e = .returned (.bool true) ∧ Below w.heap.size w w' := by
  have h1 := cShort8 sl n0 cap m w hmin hm hc hsn
  have hx := hok.2
  have ho1 : Hid (fldOk (readX bs)) := readX_ok hx
  have ho2 : Hid ((readLX bs).length ≤ 257 ∧ ∀ p ∈ readLX bs, ∀ x ∈ p, x < 256) := readLX_ok hx
  have ho3 : Hid (∀ x ∈ int8 (u64n n) 8, x < 256) := int8_lt 8 _
  have ho4 : Hid (∀ x ∈ bs, x < 256) := hx
  obtain ⟨re, ere⟩ : ∃ x, readE bs = x := ⟨_, rfl⟩
  obtain ⟨rx, erx⟩ : ∃ x, readX bs = x := ⟨_, rfl⟩
  obtain ⟨ie, eie⟩ : ∃ x, rdIE bs = x := ⟨_, rfl⟩
  obtain ⟨ix, eix⟩ : ∃ x, rdIX bs = x := ⟨_, rfl⟩
  obtain ⟨le, ele⟩ : ∃ x, readLE bs = x := ⟨_, rfl⟩
  obtain ⟨lx, elx⟩ : ∃ x, readLX bs = x := ⟨_, rfl⟩
  obtain ⟨nx, enx⟩ : ∃ x, int8 (u64n n) 8 = x := ⟨_, rfl⟩
  rw [erx] at ho1
  rw [elx] at ho2
  rw [enx] at ho3
  have hok : Hid _ := hok
  go_enter Tryd.func4, Tryd.ntmps4
  go_wp2_with (first
    | (go_at_call 16; refine h1.mono ?_; clear h1; rintro e ua ⟨rfl, hBa⟩; have h2 := hBy.out ua hBa)
    | (go_at_call 17; refine h2.mono ?_; clear h2; rintro e ub ⟨vb, rfl, hpb, hBb⟩; have hib := PG_in hpb; have hpos := INpos hib; clear hpb; have hBwb := bstep hBa hBb; have h3 := hR.out ub vb bs hBwb hib hok.out; rw [ere, erx] at h3)
    | (go_at_call 18; refine h3.mono ?_; clear h3; rintro e uc ⟨vc, rfl, ⟨yc, rfl, hyc⟩, hBc⟩; have hBwc := bstep hBwb hBc; have h4 := cReadR bs _ uc (hin.out uc hBwc (by have := hBc.size; omega)) ho4.out; rw [ere, erx] at h4)
    | (go_at_call 19; refine h4.mono ?_; clear h4; rintro e ud ⟨vd, rfl, ⟨yd, rfl, hyd⟩, hBd⟩; have hBwd := bstep hBwc hBd; have h5 := hI.out ud vb bs hBwd (hib.up (bstep hBc hBd)) hok.out; rw [eie, eix] at h5)
    | (go_at_call 20; refine h5.mono ?_; clear h5; rintro e ue ⟨rfl, hBe⟩; have hBwe := bstep hBwd hBe; have h6 := cReadIntR bs _ ue (hin.out ue hBwe (by have := hBc.size; have := hBd.size; have := hBe.size; omega)) ho4.out; rw [eie, eix] at h6)
    | (go_at_call 21; refine h6.mono ?_; clear h6; rintro e uf ⟨rfl, hBf⟩; have hBwf := bstep hBwe hBf; have hBcf := bstep (bstep hBd hBe) hBf; have h7 := hL.out uf vb bs hBwf (hib.up (bstep hBc hBcf)) hok.out; rw [ele, elx] at h7)
    | (go_at_call 22; refine h7.mono ?_; clear h7; rintro e ug ⟨vg, rfl, ⟨yg, rfl, hyg⟩, hBg⟩; have hBwg := bstep hBwf hBg; have h8 := cReadListR bs _ ug (hin.out ug hBwg (by have := hBcf.size; have := hBc.size; have := hBg.size; omega)) ho4.out; rw [ele, elx] at h8)
    | (go_at_call 23; refine h8.mono ?_; clear h8; rintro e uh ⟨vh, rfl, ⟨yh, rfl, hyh⟩, hBh⟩; have hBwh := bstep hBwg hBh; have hBch := bstep (bstep hBcf hBg) hBh; have h9 := cSameFT (hyc.below hBch) (hyd.below (bstep (bstep (bstep hBe hBf) hBg) hBh)) ho1.out)
    | (go_at_call 24; refine h9.mono ?_; clear h9; rintro e ui ⟨rfl, hBi⟩; have hBwi := bstep hBwh hBi; have h10 := cSameLT (hyg.up (bstep hBh hBi)) (hyh.up hBi) ho2.out)
    | (go_at_call 25; refine h10.mono ?_; clear h10; rintro e uj ⟨rfl, hBj⟩; have hBwj := bstep hBwi hBj; have h11 := cSameT (hib.up (bstep (bstep (bstep hBc hBch) hBi) hBj)) (hin.out uj hBwj (by have := hBch.size; have := hBc.size; have := hBi.size; have := hBj.size; omega)) ho4.out)
    | (go_at_call 14; refine h11.mono ?_; clear h11; rintro e uk ⟨rfl, hBk⟩; have hBwk := bstep hBwj hBk; have h12 := hN.out uk n hBwk hn1 hn2; rw [enx] at h12)
    | (go_at_call 26; refine h12.mono ?_; clear h12; rintro e ul ⟨vl, rfl, hil, hBl⟩; have hBwl := bstep hBwk hBl; have h13 := cIntR n ul; rw [enx] at h13)
    | (go_at_call 27; refine h13.mono ?_; clear h13; rintro e um ⟨vm, rfl, hpm, hBm⟩; have hBwm := bstep hBwl hBm; have h14 := cSameT (hil.up hBm) (PF_in8 enx hpm) ho3.out)
    | (go_at_call 14; refine h14.mono ?_; clear h14; rintro e un ⟨rfl, hBn⟩; have hBwn := bstep hBwm hBn; have h15 := hW.out un hBwn)
    | (go_at_call 15; refine h15.mono ?_; clear h15; rintro e uo ⟨rfl, hBo⟩))
  exact bodyPost_ret (v := .bool true) (by simp [results, Tryd.results4, go_sem]) rfl ⟨rfl, bstep hBwn hBo⟩
end Go.Proofs.YtjekkdckjnlkcaaDoor
