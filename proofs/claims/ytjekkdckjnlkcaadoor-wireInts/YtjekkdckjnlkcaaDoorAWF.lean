/- The laws WireBack, WireCuts: walked. -/
import Derived.Test.YtjekkdckjnlkcaaDoorAWE
namespace Go.Proofs.YtjekkdckjnlkcaaDoor
open Go.RowKit
set_option linter.unusedVariables false
set_option linter.unusedSimpArgs false
set_option maxRecDepth 100000 in
set_option maxHeartbeats 8000000 in
theorem wireBack_core (v : Value) (F fs : List FldI) (sl : Option Addr) (n0 cap m : Nat) (bs : List Nat) (w : World) (hF : fewF fs = F) (hok : fldOk F) (hv : VFr w v fs) (hmin : min (n0 : Int) 4097 = (m : Int)) (hm : m ≤ n0) (hc : n0 ≤ cap) (hsn : sl = none → cap = 0) (hin : Hid (∀ u, Below w.heap.size w u → 0 < u.heap.size → IN u u.heap.size (.slice sl m cap) bs)) (hokb : bytOk bs) (hP : Hid (WPut w)) (hR : Hid (WRead w)) (hW : Hid (WWorks w)) :
    Calls Tryd.prog 6 #[v, .slice sl n0 cap] w fun e w' => e = .returned (.bool true) ∧ Below w.heap.size w w' := by
  have h0 := hW.out w (Below.refl _ _)
  have hb := putX_ok hok
  have hzz := fun h => read_put (fs := F) h (fun f hf => (hok.2 f hf).2.1)
  have hyy := fun h => put_read (bs := bs) h hokb.2
  have hnn := fun h => readX_none (bs := bs) h
  obtain ⟨pe, epe⟩ : ∃ x, putE F = x := ⟨_, rfl⟩
  obtain ⟨px, epx⟩ : ∃ x, putX F = x := ⟨_, rfl⟩
  obtain ⟨re, ere⟩ : ∃ x, readE bs = x := ⟨_, rfl⟩
  obtain ⟨rx, erx⟩ : ∃ x, readX bs = x := ⟨_, rfl⟩
  rw [epe, epx] at hzz
  rw [epx] at hb
  rw [ere, erx] at hyy hnn
  have hb : Hid _ := hb
  have hok : Hid _ := hok
  have hokb : Hid _ := hokb
  by_cases hz : pe = 0
  · obtain ⟨z1, z2⟩ := hzz hz
    subst hz
    clear hzz
    by_cases hr : re = 0
    · obtain ⟨y1, y2, y3⟩ := hyy hr
      have y3 : Hid _ := y3
      subst hr
      clear hyy hnn
      go_enter Tryd.func6, Tryd.ntmps6
      go_wp2_with (first
        | (go_at_call 15; refine h0.mono ?_; clear h0; rintro e u0 ⟨rfl, hB0⟩; have h1 := cFew8r fs v u0 (hv.below hB0); rw [hF] at h1)
        | (go_at_call 9; refine h1.mono ?_; clear h1; rintro e ua ⟨va, rfl, hva, hBa⟩; have hBwa := bstep hB0 hBa; have h2 := cShort8 sl n0 cap m ua hmin hm hc hsn)
        | (go_at_call 16; refine h2.mono ?_; clear h2; rintro e ub ⟨rfl, hBb⟩; have hBwb := bstep hBwa hBb; have h3 := hP.out ub va F hBwb (hva.1.below hBb) hok.out; rw [epe, epx] at h3)
        | (go_at_call 10; refine h3.mono ?_; clear h3; rintro e uc ⟨vc, rfl, ⟨yc, rfl, hyc⟩, hBc⟩; have hBwc := bstep hBwb hBc; have h4 := hR.out uc yc px hBwc hyc hb.out; rw [z1, z2] at h4)
        | (go_at_call 18; refine h4.mono ?_; clear h4; rintro e ud ⟨vd, rfl, ⟨yd, rfl, hyd⟩, hBd⟩; have hBwd := bstep hBwc hBd; have h5 := cSameFT hyd (hva.1.below (bstep (bstep hBb hBc) hBd)) hok.out)
        | (go_at_call 24; refine h5.mono ?_; clear h5; rintro e ue ⟨rfl, hBe⟩; have hBwe := bstep hBwd hBe; have h6 := hR.out ue _ bs hBwe (hin.out ue hBwe (by have := hva.1.pos; have := hBb.size; have := hBc.size; have := hBd.size; have := hBe.size; omega)) hokb.out; rw [ere, erx] at h6)
        | (go_at_call 18; refine h6.mono ?_; clear h6; rintro e uf ⟨vf, rfl, ⟨yf, rfl, hyf⟩, hBf⟩; have hBwf := bstep hBwe hBf; have h7 := hP.out uf yf rx hBwf hyf y3.out; rw [y1, y2] at h7)
        | (go_at_call 10; refine h7.mono ?_; clear h7; rintro e ug ⟨vg, rfl, ⟨yg, rfl, hyg⟩, hBg⟩; have hBwg := bstep hBwf hBg; have h8 := cSameT hyg (hin.out ug hBwg (INpos hyg)) hokb.out.2)
        | (go_at_call 14; refine h8.mono ?_; clear h8; rintro e uh ⟨rfl, hBh⟩))
      exact bodyPost_ret (v := .bool true) (by simp [results, Tryd.results6, go_sem]) rfl ⟨rfl, bstep hBwg hBh⟩
    · have hrx := hnn hr
      subst hrx
      clear hyy hnn
      go_enter Tryd.func6, Tryd.ntmps6
      go_wp2_with (first
        | (go_at_call 15; refine h0.mono ?_; clear h0; rintro e u0 ⟨rfl, hB0⟩; have h1 := cFew8r fs v u0 (hv.below hB0); rw [hF] at h1)
        | (go_at_call 9; refine h1.mono ?_; clear h1; rintro e ua ⟨va, rfl, hva, hBa⟩; have hBwa := bstep hB0 hBa; have h2 := cShort8 sl n0 cap m ua hmin hm hc hsn)
        | (go_at_call 16; refine h2.mono ?_; clear h2; rintro e ub ⟨rfl, hBb⟩; have hBwb := bstep hBwa hBb; have h3 := hP.out ub va F hBwb (hva.1.below hBb) hok.out; rw [epe, epx] at h3)
        | (go_at_call 10; refine h3.mono ?_; clear h3; rintro e uc ⟨vc, rfl, ⟨yc, rfl, hyc⟩, hBc⟩; have hBwc := bstep hBwb hBc; have h4 := hR.out uc yc px hBwc hyc hb.out; rw [z1, z2] at h4)
        | (go_at_call 18; refine h4.mono ?_; clear h4; rintro e ud ⟨vd, rfl, ⟨yd, rfl, hyd⟩, hBd⟩; have hBwd := bstep hBwc hBd; have h5 := cSameFT hyd (hva.1.below (bstep (bstep hBb hBc) hBd)) hok.out)
        | (go_at_call 24; refine h5.mono ?_; clear h5; rintro e ue ⟨rfl, hBe⟩; have hBwe := bstep hBwd hBe; have h6 := hR.out ue _ bs hBwe (hin.out ue hBwe (by have := hva.1.pos; have := hBb.size; have := hBc.size; have := hBd.size; have := hBe.size; omega)) hokb.out; rw [ere, erx] at h6)
        | (go_at_call 18; refine h6.mono ?_; clear h6; rintro e uf ⟨vf, rfl, ⟨yf, rfl, hyf⟩, hBf⟩; have hBwf := bstep hBwe hBf; obtain ⟨sf, cf, gf, of, rfl, _⟩ := hyf))
      exact bodyPost_ret (v := .bool true) (by simp [results, Tryd.results6, go_sem]) rfl ⟨rfl, hBwf⟩
  · clear hzz
    by_cases hr : re = 0
    · obtain ⟨y1, y2, y3⟩ := hyy hr
      have y3 : Hid _ := y3
      subst hr
      clear hyy hnn
      go_enter Tryd.func6, Tryd.ntmps6
      go_wp2_with (first
        | (go_at_call 15; refine h0.mono ?_; clear h0; rintro e u0 ⟨rfl, hB0⟩; have h1 := cFew8r fs v u0 (hv.below hB0); rw [hF] at h1)
        | (go_at_call 9; refine h1.mono ?_; clear h1; rintro e ua ⟨va, rfl, hva, hBa⟩; have hBwa := bstep hB0 hBa; have h2 := cShort8 sl n0 cap m ua hmin hm hc hsn)
        | (go_at_call 16; refine h2.mono ?_; clear h2; rintro e ub ⟨rfl, hBb⟩; have hBwb := bstep hBwa hBb; have h3 := hP.out ub va F hBwb (hva.1.below hBb) hok.out; rw [epe, epx] at h3)
        | (go_at_call 10; refine h3.mono ?_; clear h3; rintro e ue ⟨vc, rfl, ⟨yc, rfl, hyc⟩, hBc⟩; have hBwe := bstep hBwb hBc; have h6 := hR.out ue _ bs hBwe (hin.out ue hBwe (by have := hva.1.pos; have := hBb.size; have := hBc.size; omega)) hokb.out; rw [ere, erx] at h6)
        | (go_at_call 18; refine h6.mono ?_; clear h6; rintro e uf ⟨vf, rfl, ⟨yf, rfl, hyf⟩, hBf⟩; have hBwf := bstep hBwe hBf; have h7 := hP.out uf yf rx hBwf hyf y3.out; rw [y1, y2] at h7)
        | (go_at_call 10; refine h7.mono ?_; clear h7; rintro e ug ⟨vg, rfl, ⟨yg, rfl, hyg⟩, hBg⟩; have hBwg := bstep hBwf hBg; have h8 := cSameT hyg (hin.out ug hBwg (INpos hyg)) hokb.out.2)
        | (go_at_call 14; refine h8.mono ?_; clear h8; rintro e uh ⟨rfl, hBh⟩))
      exact bodyPost_ret (v := .bool true) (by simp [results, Tryd.results6, go_sem]) rfl ⟨rfl, bstep hBwg hBh⟩
    · have hrx := hnn hr
      subst hrx
      clear hyy hnn
      go_enter Tryd.func6, Tryd.ntmps6
      go_wp2_with (first
        | (go_at_call 15; refine h0.mono ?_; clear h0; rintro e u0 ⟨rfl, hB0⟩; have h1 := cFew8r fs v u0 (hv.below hB0); rw [hF] at h1)
        | (go_at_call 9; refine h1.mono ?_; clear h1; rintro e ua ⟨va, rfl, hva, hBa⟩; have hBwa := bstep hB0 hBa; have h2 := cShort8 sl n0 cap m ua hmin hm hc hsn)
        | (go_at_call 16; refine h2.mono ?_; clear h2; rintro e ub ⟨rfl, hBb⟩; have hBwb := bstep hBwa hBb; have h3 := hP.out ub va F hBwb (hva.1.below hBb) hok.out; rw [epe, epx] at h3)
        | (go_at_call 10; refine h3.mono ?_; clear h3; rintro e ue ⟨vc, rfl, ⟨yc, rfl, hyc⟩, hBc⟩; have hBwe := bstep hBwb hBc; have h6 := hR.out ue _ bs hBwe (hin.out ue hBwe (by have := hva.1.pos; have := hBb.size; have := hBc.size; omega)) hokb.out; rw [ere, erx] at h6)
        | (go_at_call 18; refine h6.mono ?_; clear h6; rintro e uf ⟨vf, rfl, ⟨yf, rfl, hyf⟩, hBf⟩; have hBwf := bstep hBwe hBf; obtain ⟨sf, cf, gf, of, rfl, _⟩ := hyf))
      exact bodyPost_ret (v := .bool true) (by simp [results, Tryd.results6, go_sem]) rfl ⟨rfl, hBwf⟩
set_option maxRecDepth 100000 in
set_option maxHeartbeats 8000000 in
theorem wireCuts_core (v : Value) (F fs : List FldI) (at_ : Int) (w : World) (hF : fewF fs = F) (hok : fldOk F) (hv : VFr w v fs) (ha1 : -9223372036854775808 ≤ at_) (ha2 : at_ ≤ 9223372036854775807) (hP : Hid (WPut w)) (hR : Hid (WRead w)) (hW : Hid (WWorks w)) :
    Calls Tryd.prog 8 #[v, .int .i64 at_] w fun e w' => e = .returned (.bool true) ∧ Below w.heap.size w w' := by
  have h0 := hW.out w (Below.refl _ _)
  have hb := putX_ok hok
  have hcc := fun k h => read_cut (fs := F) (k := k) h (fun f hf => (hok.2 f hf).2.1)
  have hnn := fun h => putX_nil (fs := F) h
  obtain ⟨pe, epe⟩ : ∃ x, putE F = x := ⟨_, rfl⟩
  obtain ⟨px, epx⟩ : ∃ x, putX F = x := ⟨_, rfl⟩
  rw [epe, epx] at hcc hnn
  rw [epx] at hb
  have hb : Hid _ := hb
  have hok : Hid _ := hok
  by_cases hz : pe = 0
  · subst hz
    have hnn := hnn rfl
    have hcc := fun k => hcc k rfl
    obtain ⟨pl, epl⟩ : ∃ x, px.length = x := ⟨_, rfl⟩
    obtain ⟨fl, efl⟩ : ∃ x, F.length = x := ⟨_, rfl⟩
    rw [epl] at hnn hcc
    rw [efl] at hnn hcc
    by_cases hpl : pl = 0
    · have hfl := hnn hpl
      subst hpl hfl
      go_enter Tryd.func8, Tryd.ntmps8
      go_wp2_with (first
        | (go_at_call 15; refine h0.mono ?_; clear h0; rintro e u0 ⟨rfl, hB0⟩; have h1 := cFew8r fs v u0 (hv.below hB0); rw [hF] at h1)
        | (go_at_call 9; refine h1.mono ?_; clear h1; rintro e ua ⟨va, rfl, hva, hBa⟩; have hBwa := bstep hB0 hBa; have h3 := hP.out ua va F hBwa hva.1 hok.out; rw [epe, epx] at h3; obtain ⟨⟨sa, ca, ga, oa, rfl, _⟩, _⟩ := hva; rw [efl] at h3; rw [efl])
        | (go_at_call 10; refine h3.mono ?_; clear h3; rintro e uc ⟨vc, rfl, ⟨yc, rfl, hyc⟩, hBc⟩; have hBwc := bstep hBwa hBc; obtain ⟨sc, cc, gc, oc, rfl, _⟩ := hyc; rw [epl]))
      exact bodyPost_ret (v := .bool true) (by simp [results, Tryd.results8, go_sem]) rfl ⟨rfl, hBwc⟩
    · obtain ⟨k, hk, hAm⟩ := among_w at_ (pl : Int) (by omega) (by have := hb.out.1; omega) ⟨ha1, ha2⟩
      have hk2 : k < pl := by omega
      have hcut := hcc k hk2
      have hpl2 : ¬ (pl : Int) = 0 := by omega
      have hbt : Hid (bytOk (px.take k)) := ⟨Nat.le_trans (List.length_take_le' _ _) hb.out.1, fun x hx => hb.out.2 x (List.mem_of_mem_take hx)⟩
      obtain ⟨re, ere⟩ : ∃ x, readE (px.take k) = x := ⟨_, rfl⟩
      obtain ⟨rx, erx⟩ : ∃ x, readX (px.take k) = x := ⟨_, rfl⟩
      rw [ere, erx] at hcut
      clear hcc hnn
      rcases hcut with rfl | ⟨rfl, hlt⟩
      · go_enter Tryd.func8, Tryd.ntmps8
        go_wp2_with (first
          | (go_at_call 15; refine h0.mono ?_; clear h0; rintro e u0 ⟨rfl, hB0⟩; have h1 := cFew8r fs v u0 (hv.below hB0); rw [hF] at h1)
          | (go_at_call 9; refine h1.mono ?_; clear h1; rintro e ua ⟨va, rfl, hva, hBa⟩; have hBwa := bstep hB0 hBa; have h3 := hP.out ua va F hBwa hva.1 hok.out; rw [epe, epx] at h3; obtain ⟨⟨sa, ca, ga, oa, rfl, _⟩, _⟩ := hva; rw [efl] at h3; rw [efl])
          | (go_at_call 10; refine h3.mono ?_; clear h3; rintro e uc ⟨vc, rfl, ⟨yc, rfl, hyc⟩, hBc⟩; have hBwc := bstep hBwa hBc; have hyc2 := hyc; obtain ⟨sc, cc, gc, oc, rfl, q2, q3, q4, q5⟩ := hyc; rw [epl] at hyc2 q2 q3; obtain rfl := q3.resolve_left hpl; have hsl := fun (u : World) => slHB (some ⟨gc, oc, none⟩) pl cc k (by omega) q2 (fun h => by cases h) u; have h4 := hAm uc; rw [epl])
          | (go_at_call 31; refine h4.mono ?_; clear h4; rintro e ud ⟨rfl, hBd⟩; have hBwd := bstep hBwc hBd; have h5 := hR.out ud _ (px.take k) hBwd (IN_pre (hyc2.up hBd) rfl epl (by omega)) hbt.out; rw [ere, erx] at h5)
          | (go_at_call 18; refine h5.mono ?_; clear h5; rintro e ue ⟨ve, rfl, ⟨ye, rfl, hye⟩, hBe⟩; have hBwe := bstep hBwd hBe; obtain ⟨se, ce, ge, oe, rfl, _⟩ := hye))
        exact bodyPost_ret (v := .bool true) (by simp [results, Tryd.results8, go_sem]) rfl ⟨rfl, hBwe⟩
      · have hlt2 : (rx.length : Int) < (fl : Int) := by omega
        go_enter Tryd.func8, Tryd.ntmps8
        go_wp2_with (first
          | (go_at_call 15; refine h0.mono ?_; clear h0; rintro e u0 ⟨rfl, hB0⟩; have h1 := cFew8r fs v u0 (hv.below hB0); rw [hF] at h1)
          | (go_at_call 9; refine h1.mono ?_; clear h1; rintro e ua ⟨va, rfl, hva, hBa⟩; have hBwa := bstep hB0 hBa; have h3 := hP.out ua va F hBwa hva.1 hok.out; rw [epe, epx] at h3; obtain ⟨⟨sa, ca, ga, oa, rfl, _⟩, _⟩ := hva; rw [efl] at h3; rw [efl])
          | (go_at_call 10; refine h3.mono ?_; clear h3; rintro e uc ⟨vc, rfl, ⟨yc, rfl, hyc⟩, hBc⟩; have hBwc := bstep hBwa hBc; have hyc2 := hyc; obtain ⟨sc, cc, gc, oc, rfl, q2, q3, q4, q5⟩ := hyc; rw [epl] at hyc2 q2 q3; obtain rfl := q3.resolve_left hpl; have hsl := fun (u : World) => slHB (some ⟨gc, oc, none⟩) pl cc k (by omega) q2 (fun h => by cases h) u; have h4 := hAm uc; rw [epl])
          | (go_at_call 31; refine h4.mono ?_; clear h4; rintro e ud ⟨rfl, hBd⟩; have hBwd := bstep hBwc hBd; have h5 := hR.out ud _ (px.take k) hBwd (IN_pre (hyc2.up hBd) rfl epl (by omega)) hbt.out; rw [ere, erx] at h5)
          | (go_at_call 18; refine h5.mono ?_; clear h5; rintro e ue ⟨ve, rfl, ⟨ye, rfl, hye⟩, hBe⟩; have hBwe := bstep hBwd hBe; obtain ⟨se, ce, ge, oe, rfl, _⟩ := hye))
        exact bodyPost_ret (v := .bool true) (by simp [results, Tryd.results8, go_sem]) rfl ⟨rfl, hBwe⟩
  · clear hcc hnn
    go_enter Tryd.func8, Tryd.ntmps8
    go_wp2_with (first
      | (go_at_call 15; refine h0.mono ?_; clear h0; rintro e u0 ⟨rfl, hB0⟩; have h1 := cFew8r fs v u0 (hv.below hB0); rw [hF] at h1)
      | (go_at_call 9; refine h1.mono ?_; clear h1; rintro e ua ⟨va, rfl, hva, hBa⟩; have hBwa := bstep hB0 hBa; have h3 := hP.out ua va F hBwa hva.1 hok.out; rw [epe, epx] at h3)
      | (go_at_call 10; refine h3.mono ?_; clear h3; rintro e uc ⟨vc, rfl, ⟨yc, rfl, hyc⟩, hBc⟩; have hBwc := bstep hBwa hBc))
    exact bodyPost_ret (v := .bool true) (by simp [results, Tryd.results8, go_sem]) rfl ⟨rfl, hBwc⟩
end Go.Proofs.YtjekkdckjnlkcaaDoor
