/- The law MacExpands: its walk. -/
import Derived.Test.YtbgdcgboomdimaaDoorRN6
namespace Go.Proofs.YtbgdcgboomdimaaDoor
open Go.RowKit
set_option linter.unusedVariables false
set_option linter.unusedSimpArgs false
set_option maxRecDepth 100000 in
set_option maxHeartbeats 4000000 in
theorem macExpands_core (n1 cap1 m1 n2 cap2 m2 q : Nat) (sl1 sl2 : Option Addr) (s s2 : ByteArray) (x x2 e1 e2 : Int) (y1 y2 : List Nat) (w : World) (hq : min ((s.size : Nat) : Int) 100 = ((q : Nat) : Int)) (hqs : q ≤ s.size) (hs2 : s.extract 0 q = s2) (hx2a : 200 < x → x < 8161 → x2 = ((x.toNat % 200 : Nat) : Int)) (hx2b : ¬ (200 < x ∧ x < 8161) → x2 = x) (hSh1 : Hid (∀ (u : World), Calls Tryd.prog 26 #[(.slice sl1 n1 cap1)] u fun e u' => e = .returned (.slice sl1 m1 cap1) ∧ Below u.heap.size u u')) (hSh2 : Hid (∀ (u : World), Calls Tryd.prog 26 #[(.slice sl2 n2 cap2)] u fun e u' => e = .returned (.slice sl2 m2 cap2) ∧ Below u.heap.size u u'))
    (hE1 : Hid (∀ (u : World), Below w.heap.size w u → Calls Tryd.prog 34 #[(.slice sl1 m1 cap1), .string s2, .int .i64 x2] u fun e u' => ∃ v, e = .returned v ∧ PTX e1 y1 u' v ∧ Below u.heap.size u u')) (hE2 : Hid (∀ (u : World), Below w.heap.size w u → Calls Tryd.prog 35 #[(.slice sl1 m1 cap1), .string s2, .int .i64 x2] u fun e u' => ∃ v, e = .returned v ∧ PTX e1 y1 u' v ∧ Below u.heap.size u u')) (hE3 : Hid (∀ (u : World), Below w.heap.size w u → Calls Tryd.prog 36 #[(.slice sl1 m1 cap1), (.slice sl2 m2 cap2), .string s2, .int .i64 x2] u fun e u' => ∃ v, e = .returned v ∧ PTX e2 y2 u' v ∧ Below u.heap.size u u')) (hE4 : Hid (∀ (u : World), Below w.heap.size w u → Calls Tryd.prog 37 #[(.slice sl1 m1 cap1), (.slice sl2 m2 cap2), .string s2, .int .i64 x2] u fun e u' => ∃ v, e = .returned v ∧ PTX e2 y2 u' v ∧ Below u.heap.size u u')) (hSB1 : Hid (∀ (u : World) (y z : Value), IN u u.heap.size y y1 → IN u u.heap.size z y1 → Calls Tryd.prog 16 #[y, z] u fun e u' => e = .returned (.bool true) ∧ Below u.heap.size u u')) (hSB2 : Hid (∀ (u : World) (y z : Value), IN u u.heap.size y y2 → IN u u.heap.size z y2 → Calls Tryd.prog 16 #[y, z] u fun e u' => e = .returned (.bool true) ∧ Below u.heap.size u u')) (hW : Hid (∀ (u : World), Below w.heap.size w u → Calls Tryd.prog 31 #[] u fun e u' => e = .returned (.bool true) ∧ Below u.heap.size u u')) :
    Calls Tryd.prog 8 #[(.slice sl1 n1 cap1), (.slice sl2 n2 cap2), .string s, .int .i64 x] w fun e w' => e = .returned (.bool true) ∧ Below w.heap.size w w' := by
  go_enter Tryd.func8, Tryd.ntmps8
  have HB0 : Below w.heap.size w w := Below.refl _ _
  have K0_1 := Bk.nil (w.heap.size) w
  go_upto_region 1 with fail
  refine rgD K0_1 HB0 HB0.size [] [] [(0, 17, (.slice sl1 n1 cap1)), (1, 18, (.slice sl1 m1 cap1)), (2, 19, (.slice sl2 n2 cap2)), (3, 20, (.slice sl2 m2 cap2)), (4, 21, .string s), (5, 22, .string s), (6, 23, .int .i64 ((s.size : Nat) : Int)), (7, 24, .int .i64 ((q : Nat) : Int)), (8, 25, .string s2), (9, 0, (.slice sl1 m1 cap1)), (10, 1, (.slice sl2 m2 cap2)), (11, 2, .string s2)] [(9, 0), (10, 2), (11, 4), (11, 5)] [(9, 0), (10, 1), (11, 2)] [] ?_ ?_
  · refine oc g_mv ?_
    refine oc (g_cl ent_seneschallaw05_short (fun uZ => hSh1.out uZ)) ?_
    refine oc g_mv ?_
    refine oc (g_cl ent_seneschallaw05_short (fun uZ => hSh2.out uZ)) ?_
    refine oc g_mv ?_
    refine oc g_mv ?_
    refine oc (g_lnS Tryd.underlying9) ?_
    refine oc (g_mn hq) ?_
    refine oc (g_sl (fun uZ => (slStr s q hqs uZ).trans (by rw [hs2]))) ?_
    refine oc g_as ?_
    refine oc g_as ?_
    exact oc g_as on
  intro u1 HB1 sz1 K1
  simp only [fX, nK, nP, Wr.f, aK, pM] at K1
  simp only [setG, setN, List.set_cons_zero, List.set_cons_succ]
  clear HB0
  by_cases c1 : (200 : Int) < x
  · have hd1 : decide ((200 : Int) < x) = true := by simp; omega
    by_cases c2 : x < 8161
    · have hd2 : decide (x < (8161 : Int)) = true := by simp; omega
      obtain ⟨nx, rfl⟩ : ∃ nx : Nat, x = (nx : Int) := ⟨x.toNat, by omega⟩
      have hx2 : x2 = ((nx % 200 : Nat) : Int) := hx2a c1 c2
      subst hx2
      go_upto_region 2 with fail
      refine rgP K1 HB1 HB1.size [] [] [(0, 26, .int .i64 ((nx : Nat) : Int)), (1, 27, .bool true), (2, 28, .bool true), (3, 29, .int .i64 ((nx : Nat) : Int)), (4, 30, .bool true), (5, 31, .bool true)] [] [] [] ?_ ?_
      · refine oc g_mv ?_
        refine oc (g_bn (fun uZ => gtr_i _ _ ((nx : Nat) : Int) 200 _ uZ hd1)) ?_
        refine oc g_mv ?_
        refine oc g_mv ?_
        refine oc (g_bn (fun uZ => lss_i _ _ ((nx : Nat) : Int) 8161 _ uZ hd2)) ?_
        exact oc g_pk on
      intro u2 HB2 sz2 K2
      simp only [fX, nK, nP, Wr.f, aK, pM] at K2
      simp only [setG, setN, List.set_cons_zero, List.set_cons_succ]
      clear K1 HB1
      go_upto_region 3 with fail
      refine rgP K2 HB2 HB2.size [] [] [(0, 32, .int .i64 ((nx : Nat) : Int)), (1, 33, .int .i64 ((nx % 200 : Nat) : Int)), (2, 3, .int .i64 ((nx % 200 : Nat) : Int))] [(2, 0)] [(2, 3)] [] ?_ ?_
      · refine oc g_mv ?_
        refine oc (g_bn (fun uZ => rem_n _ _ nx 200 uZ (by omega) (by decide))) ?_
        exact oc g_as on
      intro u3 HB3 sz3 K3
      simp only [fX, nK, nP, Wr.f, aK, pM] at K3
      simp only [setG, setN, List.set_cons_zero, List.set_cons_succ]
      clear K2 HB2
      clear K3
      go_wp2_with (first
        | (go_at_call 34; refine (hE1.out _ HB3).mono ?_; rintro e ua ⟨va, rfl, ⟨ya, rfl, hya⟩, hBa⟩)
        | (go_at_call 35; refine (hE2.out _ (bstep HB3 hBa)).mono ?_; rintro e ub ⟨vb, rfl, ⟨yb, rfl, hyb⟩, hBb⟩)
        | (go_at_call 36; refine (hE3.out _ (bstep (bstep HB3 hBa) hBb)).mono ?_; rintro e uc ⟨vc, rfl, ⟨yc, rfl, hyc⟩, hBc⟩)
        | (go_at_call 37; refine (hE4.out _ (bstep (bstep (bstep HB3 hBa) hBb) hBc)).mono ?_; rintro e ud ⟨vd, rfl, ⟨yd, rfl, hyd⟩, hBd⟩; have hyc := (IN.below hyc hBd).mono hBd.size; have hyb := (IN.below hyb hBc).mono hBc.size; have hyb := (IN.below hyb hBd).mono hBd.size; have hya := (IN.below hya hBb).mono hBb.size; have hya := (IN.below hya hBc).mono hBc.size; have hya := (IN.below hya hBd).mono hBd.size; have HBd := bstep (bstep (bstep (bstep HB3 hBa) hBb) hBc) hBd)
        | (go_at_call 16; refine (hSB1.out _ ya yb hya hyb).mono ?_; rintro e ue ⟨rfl, hBe⟩; have hyc := (IN.below hyc hBe).mono hBe.size; have hyd := (IN.below hyd hBe).mono hBe.size)
        | (go_at_call 16; refine (hSB2.out _ yc yd hyc hyd).mono ?_; rintro e uf ⟨rfl, hBf⟩)
        | (go_at_call 31; refine (hW.out _ (bstep (bstep HBd hBe) hBf)).mono ?_; rintro e ug ⟨rfl, hBg⟩))
      exact bodyPost_ret (v := .bool true) (by simp [results, Tryd.results8, go_sem]) rfl ⟨rfl, bstep (bstep (bstep HBd hBe) hBf) hBg⟩
    · have hd2 : decide (x < (8161 : Int)) = false := by simp; omega
      have hx2 : x2 = x := hx2b (fun h => c2 h.2)
      subst hx2
      go_upto_region 2 with fail
      refine rgP K1 HB1 HB1.size [] [] [(0, 26, .int .i64 x2), (1, 27, .bool true), (2, 28, .bool true), (3, 29, .int .i64 x2), (4, 30, .bool false), (5, 31, .bool false)] [] [] [] ?_ ?_
      · refine oc g_mv ?_
        refine oc (g_bn (fun uZ => gtr_i _ _ x2 200 _ uZ hd1)) ?_
        refine oc g_mv ?_
        refine oc g_mv ?_
        refine oc (g_bn (fun uZ => lss_i _ _ x2 8161 _ uZ hd2)) ?_
        exact oc g_pk on
      intro u2 HB2 sz2 K2
      simp only [fX, nK, nP, Wr.f, aK, pM] at K2
      simp only [setG, setN, List.set_cons_zero, List.set_cons_succ]
      clear K1 HB1
      clear K2
      go_wp2_with (first
        | (go_at_call 34; refine (hE1.out _ HB2).mono ?_; rintro e ua ⟨va, rfl, ⟨ya, rfl, hya⟩, hBa⟩)
        | (go_at_call 35; refine (hE2.out _ (bstep HB2 hBa)).mono ?_; rintro e ub ⟨vb, rfl, ⟨yb, rfl, hyb⟩, hBb⟩)
        | (go_at_call 36; refine (hE3.out _ (bstep (bstep HB2 hBa) hBb)).mono ?_; rintro e uc ⟨vc, rfl, ⟨yc, rfl, hyc⟩, hBc⟩)
        | (go_at_call 37; refine (hE4.out _ (bstep (bstep (bstep HB2 hBa) hBb) hBc)).mono ?_; rintro e ud ⟨vd, rfl, ⟨yd, rfl, hyd⟩, hBd⟩; have hyc := (IN.below hyc hBd).mono hBd.size; have hyb := (IN.below hyb hBc).mono hBc.size; have hyb := (IN.below hyb hBd).mono hBd.size; have hya := (IN.below hya hBb).mono hBb.size; have hya := (IN.below hya hBc).mono hBc.size; have hya := (IN.below hya hBd).mono hBd.size; have HBd := bstep (bstep (bstep (bstep HB2 hBa) hBb) hBc) hBd)
        | (go_at_call 16; refine (hSB1.out _ ya yb hya hyb).mono ?_; rintro e ue ⟨rfl, hBe⟩; have hyc := (IN.below hyc hBe).mono hBe.size; have hyd := (IN.below hyd hBe).mono hBe.size)
        | (go_at_call 16; refine (hSB2.out _ yc yd hyc hyd).mono ?_; rintro e uf ⟨rfl, hBf⟩)
        | (go_at_call 31; refine (hW.out _ (bstep (bstep HBd hBe) hBf)).mono ?_; rintro e ug ⟨rfl, hBg⟩))
      exact bodyPost_ret (v := .bool true) (by simp [results, Tryd.results8, go_sem]) rfl ⟨rfl, bstep (bstep (bstep HBd hBe) hBf) hBg⟩
  · have hd1 : decide ((200 : Int) < x) = false := by simp; omega
    have hx2 : x2 = x := hx2b (fun h => c1 h.1)
    subst hx2
    go_upto_region 2 with fail
    refine rgP K1 HB1 HB1.size [] [] [(0, 26, .int .i64 x2), (1, 27, .bool false), (2, 28, .bool false), (3, 29, undef), (4, 30, undef), (5, 31, (Go.Value.bool Bool.false))] [] [] [] ?_ ?_
    · refine oc g_mv ?_
      refine oc (g_bn (fun uZ => gtr_i _ _ x2 200 _ uZ hd1)) ?_
      refine oc g_mv ?_
      refine oc g_sk ?_
      refine oc g_sk ?_
      exact oc g_pk on
    intro u2 HB2 sz2 K2
    simp only [fX, nK, nP, Wr.f, aK, pM] at K2
    simp only [setG, setN, List.set_cons_zero, List.set_cons_succ]
    clear K1 HB1
    clear K2
    go_wp2_with (first
      | (go_at_call 34; refine (hE1.out _ HB2).mono ?_; rintro e ua ⟨va, rfl, ⟨ya, rfl, hya⟩, hBa⟩)
      | (go_at_call 35; refine (hE2.out _ (bstep HB2 hBa)).mono ?_; rintro e ub ⟨vb, rfl, ⟨yb, rfl, hyb⟩, hBb⟩)
      | (go_at_call 36; refine (hE3.out _ (bstep (bstep HB2 hBa) hBb)).mono ?_; rintro e uc ⟨vc, rfl, ⟨yc, rfl, hyc⟩, hBc⟩)
      | (go_at_call 37; refine (hE4.out _ (bstep (bstep (bstep HB2 hBa) hBb) hBc)).mono ?_; rintro e ud ⟨vd, rfl, ⟨yd, rfl, hyd⟩, hBd⟩; have hyc := (IN.below hyc hBd).mono hBd.size; have hyb := (IN.below hyb hBc).mono hBc.size; have hyb := (IN.below hyb hBd).mono hBd.size; have hya := (IN.below hya hBb).mono hBb.size; have hya := (IN.below hya hBc).mono hBc.size; have hya := (IN.below hya hBd).mono hBd.size; have HBd := bstep (bstep (bstep (bstep HB2 hBa) hBb) hBc) hBd)
      | (go_at_call 16; refine (hSB1.out _ ya yb hya hyb).mono ?_; rintro e ue ⟨rfl, hBe⟩; have hyc := (IN.below hyc hBe).mono hBe.size; have hyd := (IN.below hyd hBe).mono hBe.size)
      | (go_at_call 16; refine (hSB2.out _ yc yd hyc hyd).mono ?_; rintro e uf ⟨rfl, hBf⟩)
      | (go_at_call 31; refine (hW.out _ (bstep (bstep HBd hBe) hBf)).mono ?_; rintro e ug ⟨rfl, hBg⟩))
    exact bodyPost_ret (v := .bool true) (by simp [results, Tryd.results8, go_sem]) rfl ⟨rfl, bstep (bstep (bstep HBd hBe) hBf) hBg⟩
end Go.Proofs.YtbgdcgboomdimaaDoor
