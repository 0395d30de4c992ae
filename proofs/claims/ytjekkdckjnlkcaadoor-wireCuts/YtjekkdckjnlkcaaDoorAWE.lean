/- The laws WireLists, WireBack, WireCuts: walked. -/
import Derived.Test.YtjekkdckjnlkcaaDoorAWD
namespace Go.Proofs.YtjekkdckjnlkcaaDoor
open Go.RowKit
set_option linter.unusedVariables false
set_option linter.unusedSimpArgs false
theorem among_w (x n : Int) (h1 : 1 ≤ n) (h2 : n ≤ 1000000) (hx : -9223372036854775808 ≤ x ∧ x ≤ 9223372036854775807) : ∃ k : Nat, (k : Int) < n ∧ ∀ w, Calls Tryd.prog 31 #[.int .i64 x, .int .i64 n] w fun e w' => e = .returned (.int .i64 (k : Int)) ∧ Below w.heap.size w w' := by
  have e1 : IntKind.u64.wrap n = n := by rw [IntKind.wrap_u64]; omega
  obtain ⟨y, ey⟩ : ∃ y, IntKind.u64.wrap x = y := ⟨_, rfl⟩
  have y0 : 0 ≤ y := by rw [← ey, IntKind.wrap_u64]; omega
  have e2 : y.tmod n = y % n := Int.tmod_eq_emod_of_nonneg y0
  have m0 := Int.emod_nonneg y (show n ≠ 0 by omega)
  have m1 := Int.emod_lt_of_pos y (show 0 < n by omega)
  have e3 : IntKind.i64.wrap (y % n) = y % n := by simp [IntKind.wrap, IntKind.signed, IntKind.bits]; omega
  have e4 : IntKind.u64.wrap (y % n) = y % n := by rw [IntKind.wrap_u64]; omega
  refine ⟨(y % n).toNat, by omega, fun w => ?_⟩
  rw [show ((y % n).toNat : Int) = y % n by omega]
  generalize y % n = z at *
  have hn1 : ¬ n < 1 := by omega
  have hn0 : n ≠ 0 := by omega
  go_enter Tryd.func31, Tryd.ntmps31
  go_wp2
  go_ret
  exact ⟨rfl, Below.refl _ _⟩
set_option maxRecDepth 100000 in
set_option maxHeartbeats 4000000 in
theorem wireLists_core (v : Value) (P ps : List (List Nat)) (w : World) (hF : partsF ps = P) (hFF : partsF P = P) (hok : lstOk P) (hv : LVr w v ps) (hP : Hid (WList w)) (hR : Hid (WReadList w)) (hW : Hid (WWorks w)) :
    Calls Tryd.prog 5 #[v] w fun e w' => e = .returned (.bool true) ∧ Below w.heap.size w w' := by
  have h1 := cParts8r ps v w hv
  rw [hF] at h1
  have hb := putLX_ok hok
  have ho : Hid (P.length ≤ 257 ∧ ∀ p ∈ P, ∀ x ∈ p, x < 256) := ⟨hok.1, fun p hp => (hok.2 p hp).2⟩
  have hzz := fun h => readL_put (ps := P) h
  obtain ⟨pe, epe⟩ : ∃ x, putLE P = x := ⟨_, rfl⟩
  obtain ⟨px, epx⟩ : ∃ x, putLX P = x := ⟨_, rfl⟩
  rw [epe, epx] at hzz
  rw [epx] at hb
  have hb : Hid _ := hb
  have hok : Hid _ := hok
  by_cases hz : pe = 0
  · obtain ⟨z1, z2⟩ := hzz hz
    subst hz
    go_enter Tryd.func5, Tryd.ntmps5
    go_wp2_with (first
      | (go_at_call 28; refine h1.mono ?_; clear h1; rintro e ua ⟨va, rfl, hva, hBa⟩; have h2 := cParts8 P va ua hva; rw [hFF] at h2)
      | (go_at_call 28; refine h2.mono ?_; clear h2; rintro e ub ⟨vb, rfl, hvb, hBb⟩; have hBwb := bstep hBa hBb; have h3 := hP.out ub vb P hBwb hvb.lv hok.out; rw [epe, epx] at h3)
      | (go_at_call 29; refine h3.mono ?_; clear h3; rintro e uc ⟨vc, rfl, ⟨yc, rfl, hyc⟩, hBc⟩; have hBwc := bstep hBwb hBc; have hvc := hva.lv.up (bstep hBb hBc); have h4 := cListR P va uc hvc; rw [epe, epx] at h4)
      | (go_at_call 30; refine h4.mono ?_; clear h4; rintro e ud ⟨vd, rfl, ⟨yd, rfl, hyd⟩, hBd⟩; have hBwd := bstep hBwc hBd; have h5 := cSameT (hyc.up hBd) hyd hb.out.2)
      | (go_at_call 14; refine h5.mono ?_; clear h5; rintro e ue ⟨rfl, hBe⟩; have hBwe := bstep hBwd hBe; have h6 := hR.out ue yc px hBwe (hyc.up (bstep hBd hBe)) hb.out; rw [z1, z2] at h6)
      | (go_at_call 22; refine h6.mono ?_; clear h6; rintro e uf ⟨vf, rfl, ⟨yf, rfl, hyf⟩, hBf⟩; have hBwf := bstep hBwe hBf; have h7 := cSameLT hyf (hvc.up (bstep (bstep hBd hBe) hBf)) ho.out)
      | (go_at_call 25; refine h7.mono ?_; clear h7; rintro e ug ⟨rfl, hBg⟩; have hBwg := bstep hBwf hBg; have h8 := hW.out ug hBwg)
      | (go_at_call 15; refine h8.mono ?_; clear h8; rintro e uh ⟨rfl, hBh⟩))
    exact bodyPost_ret (v := .bool true) (by simp [results, Tryd.results5, go_sem]) rfl ⟨rfl, bstep hBwg hBh⟩
  · clear hzz
    go_enter Tryd.func5, Tryd.ntmps5
    go_wp2_with (first
      | (go_at_call 28; refine h1.mono ?_; clear h1; rintro e ua ⟨va, rfl, hva, hBa⟩; have h2 := cParts8 P va ua hva; rw [hFF] at h2)
      | (go_at_call 28; refine h2.mono ?_; clear h2; rintro e ub ⟨vb, rfl, hvb, hBb⟩; have hBwb := bstep hBa hBb; have h3 := hP.out ub vb P hBwb hvb.lv hok.out; rw [epe, epx] at h3)
      | (go_at_call 29; refine h3.mono ?_; clear h3; rintro e uc ⟨vc, rfl, ⟨yc, rfl, hyc⟩, hBc⟩; have hBwc := bstep hBwb hBc; have hvc := hva.lv.up (bstep hBb hBc); have h4 := cListR P va uc hvc; rw [epe, epx] at h4)
      | (go_at_call 30; refine h4.mono ?_; clear h4; rintro e ud ⟨vd, rfl, ⟨yd, rfl, hyd⟩, hBd⟩; have hBwd := bstep hBwc hBd; have h5 := cSameT (hyc.up hBd) hyd hb.out.2)
      | (go_at_call 14; refine h5.mono ?_; clear h5; rintro e ue ⟨rfl, hBe⟩; have hBwe := bstep hBwd hBe; have h8 := hW.out ue hBwe)
      | (go_at_call 15; refine h8.mono ?_; clear h8; rintro e uh ⟨rfl, hBh⟩))
    exact bodyPost_ret (v := .bool true) (by simp [results, Tryd.results5, go_sem]) rfl ⟨rfl, bstep hBwe hBh⟩
end Go.Proofs.YtjekkdckjnlkcaaDoor
