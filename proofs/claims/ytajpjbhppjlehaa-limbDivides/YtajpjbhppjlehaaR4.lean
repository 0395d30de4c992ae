/- Proved: for any three numbers of four words, LimbDivides returns true and leaves its arguments as they were. No condition. -/
import Derived.Test.YtajpjbhppjlehaaOpen
import Derived.Test.YtajpjbhppjlehaaL4
namespace Go.Proofs.Ytajpjbhppjlehaa
open Go.ChangeShapes Go.WideShapes Go.ChangeAt Go.RowKit
set_option linter.unusedVariables false
set_option maxRecDepth 100000 in
theorem limbDivides_lifted (os : Os) (started : os.Started) (H : Type) (enc : TypeId × Value → H) :
    ReturnsInHanded {} Try.checked os 8 .any (Rows.limbDividesSpec.pre6 enc Try.prog Try.f8 Rows.limbDividesRow.domain false) (Rows.limbDividesSpec.post enc Try.prog Try.f8 false true false false) := by
  refine returnsInHanded_of_change (C := Try.checked) Try.own started (by kernel_rfl) Try.func8
    (ChangeSpec.witness6 (enc := enc) (C := Try.checked) false ⟨#[], #[A4 0 0 0 0, A4 0 0 0 0, A4 0 0 0 0], []⟩ 8 (by kernel_rfl) (by kernel_rfl) (by kernel_rfl) (by kernel_rfl)) ?_
  intro W base args ds gs before hval0 hW hcnd _
  have hval : ∀ (j : Nat) t v, Try.f8.params[j]? = some t → args[j]? = some v → Value.okWide Try.prog W .any base t v := hval0
  have hW' := hW
  obtain ⟨p, q, hA0, hV, rfl, hfz, hnd⟩ := hW
  have hA : DataW.TrodAll enc Try.prog W 0 (fun _ => true) true Try.f8.params.toList args.toList ds p := hA0
  rw [Try.params8] at hA hval
  obtain ⟨v0, v1, v2, d0, d1, d2, p0, p1, p2, rfl, rfl, rfl, h0, h1, h2⟩ := trodAll_three hA
  obtain ⟨rfl, rfl⟩ := trodVars_none hV
  obtain ⟨a, b, c, d, rfl, rfl, rfl, ha, hb, hc, hd⟩ := open_nat (hval 0 24 v0 rfl rfl) h0
  obtain ⟨x, y, z, t, rfl, rfl, rfl, hx, hy, hz, ht⟩ := open_nat (hval 1 24 v1 rfl rfl) h1
  obtain ⟨m0, m1, m2, m3, rfl, rfl, rfl, hm0, hm1, hm2, hm3⟩ := open_nat (hval 2 24 v2 rfl rfl) h2
  clear hA0 hval0
  refine (limbDivides_any a b c d x y z t m0 m1 m2 m3 W ha hb hc hd hx hy hz ht hm0 hm1 hm2 hm3).mono fun e W' ⟨he, bel⟩ => ?_
  subst he
  exact ⟨_, rfl, _, _, _, [], [], [], hW', trodAll_mk1 (shut_bool Try.underlying4 _), trodAll_mk3 (shut_nat ha hb hc hd) (shut_nat hx hy hz ht) (shut_nat hm0 hm1 hm2 hm3), rfl, bel.frame _, fun h => by cases h⟩

theorem limbDivides_holds : Rows.LimbDividesSaid :=
  OpenClaim.holds_of_wide 8 Try.f8 rfl rfl rfl rfl rfl rfl rfl ⟨rfl, rfl, rfl, rfl, rfl⟩ rfl rfl rfl rfl rfl (by kernel_rfl) Try.func8 (by kernel_rfl)
    (of_decide_eq_true (by kernel_rfl)) (by unfold Func.isWrapper; first | (rw [if_pos (by decide +kernel)]; kernel_rfl) | (rw [if_neg (by decide +kernel)]; exact ⟨rfl, rfl⟩))
    (fun os started H enc _ => limbDivides_lifted os started H enc)
#print axioms limbDivides_holds
end Go.Proofs.Ytajpjbhppjlehaa
