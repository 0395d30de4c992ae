/- Proved: for any two numbers of four words and any of eight, LimbProducts returns true and leaves its arguments as they were. No condition. -/
import Derived.Test.YtajpjbhppjlehaaOpen8
import Derived.Test.YtajpjbhppjlehaaL5
namespace Go.Proofs.Ytajpjbhppjlehaa
open Go.ChangeShapes Go.WideShapes Go.ChangeAt Go.RowKit
set_option linter.unusedVariables false
set_option maxRecDepth 100000 in
theorem limbProducts_lifted (os : Os) (started : os.Started) (H : Type) (enc : TypeId × Value → H) :
    ReturnsInHanded {} Try.checked os 4 .any (Rows.limbProductsSpec.pre6 enc Try.prog Try.f4 Rows.limbProductsRow.domain false) (Rows.limbProductsSpec.post enc Try.prog Try.f4 false true false false) := by
  refine returnsInHanded_of_change (C := Try.checked) Try.own started (by kernel_rfl) Try.func4
    (ChangeSpec.witness6 (enc := enc) (C := Try.checked) false ⟨#[], #[A4 0 0 0 0, A4 0 0 0 0, A8 0 0 0 0 0 0 0 0], []⟩ 8 (by kernel_rfl) (by kernel_rfl) (by kernel_rfl) (by kernel_rfl)) ?_
  intro W base args ds gs before hval0 hW hcnd _
  have hval : ∀ (j : Nat) t v, Try.f4.params[j]? = some t → args[j]? = some v → Value.okWide Try.prog W .any base t v := hval0
  have hW' := hW
  obtain ⟨p, q, hA0, hV, rfl, hfz, hnd⟩ := hW
  have hA : DataW.TrodAll enc Try.prog W 0 (fun _ => true) true Try.f4.params.toList args.toList ds p := hA0
  rw [Try.params4] at hA hval
  obtain ⟨v0, v1, v2, d0, d1, d2, p0, p1, p2, rfl, rfl, rfl, h0, h1, h2⟩ := trodAll_three hA
  obtain ⟨rfl, rfl⟩ := trodVars_none hV
  obtain ⟨a, b, c, d, rfl, rfl, rfl, ha, hb, hc, hd⟩ := open_nat (hval 0 24 v0 rfl rfl) h0
  obtain ⟨x, y, z, t, rfl, rfl, rfl, hx, hy, hz, ht⟩ := open_nat (hval 1 24 v1 rfl rfl) h1
  obtain ⟨g0, g1, g2, g3, g4, g5, g6, g7, rfl, rfl, rfl, k0, k1, k2, k3, k4, k5, k6, k7⟩ := open_wide (hval 2 29 v2 rfl rfl) h2
  clear hA0 hval0
  refine (limbProducts_any a b c d x y z t g0 g1 g2 g3 g4 g5 g6 g7 W ha hb hc hd hx hy hz ht k0 k1 k2 k3 k4 k5 k6 k7).mono fun e W' ⟨he, bel⟩ => ?_
  subst he
  exact ⟨_, rfl, _, _, _, [], [], [], hW', trodAll_mk1 (shut_bool Try.underlying4 _), trodAll_mk3 (shut_nat ha hb hc hd) (shut_nat hx hy hz ht) (shut_wide k0 k1 k2 k3 k4 k5 k6 k7), rfl, bel.frame _, fun h => by cases h⟩

theorem limbProducts_holds : Rows.LimbProductsSaid :=
  OpenClaim.holds_of_wide 4 Try.f4 rfl rfl rfl rfl rfl rfl rfl ⟨rfl, rfl, rfl, rfl, rfl⟩ rfl rfl rfl rfl rfl (by kernel_rfl) Try.func4 (by kernel_rfl)
    (of_decide_eq_true (by kernel_rfl)) (by unfold Func.isWrapper; first | (rw [if_pos (by decide +kernel)]; kernel_rfl) | (rw [if_neg (by decide +kernel)]; exact ⟨rfl, rfl⟩))
    (fun os started H enc _ => limbProducts_lifted os started H enc)
#print axioms limbProducts_holds
end Go.Proofs.Ytajpjbhppjlehaa
