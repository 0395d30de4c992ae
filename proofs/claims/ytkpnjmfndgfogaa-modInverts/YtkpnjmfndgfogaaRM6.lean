/- Proved: for any two numbers of four words, ModInverts returns true and leaves its arguments as they were. No condition. -/
import Derived.Test.YtkpnjmfndgfogaaOO
import Derived.Test.YtkpnjmfndgfogaaOO
import Derived.Test.YtkpnjmfndgfogaaOO
import Derived.Test.YtkpnjmfndgfogaaLM6
namespace Go.Proofs.Ytkpnjmfndgfogaa
open Go.ChangeShapes Go.WideShapes Go.ChangeAt Go.RowKit
set_option linter.unusedVariables false
set_option maxRecDepth 100000 in
theorem modInverts_lifted (os : Go.Os) (started : os.Started) (H : Type) (enc : TypeId × Value → H) :
    ReturnsInHanded {} Try.checked os 5 .any (Rows.modInvertsSpec.pre6 enc Try.prog Try.f5 Rows.modInvertsRow.domain false) (Rows.modInvertsSpec.post enc Try.prog Try.f5 false true false false) := by
  refine returnsInHanded_of_change (C := Try.checked) Try.own started (by kernel_rfl) Try.func5
    (ChangeSpec.witness6 (enc := enc) (C := Try.checked) false ⟨#[], #[A4 0 0 0 0, A4 0 0 0 0], []⟩ 8 (by kernel_rfl) (by kernel_rfl) (by kernel_rfl) (by kernel_rfl)) ?_
  intro W base args ds gs before hval0 hW hcnd _
  have hval : ∀ (j : Nat) t v, Try.f5.params[j]? = some t → args[j]? = some v → Value.okWide Try.prog W .any base t v := hval0
  have hW' := hW
  obtain ⟨p, q, hA0, hV, rfl, hfz, hnd⟩ := hW
  have hA : DataW.TrodAll enc Try.prog W 0 (fun _ => true) true Try.f5.params.toList args.toList ds p := hA0
  rw [Try.params5] at hA hval
  obtain ⟨v0, v1, d0, d1, p0, p1, rfl, rfl, rfl, h0, h1⟩ := trodAll_two hA
  obtain ⟨rfl, rfl⟩ := trodVars_none hV
  obtain ⟨a00, a01, a02, a03, rfl, rfl, rfl, g00, g01, g02, g03⟩ := open_nat (hval 0 25 v0 rfl rfl) h0
  obtain ⟨a10, a11, a12, a13, rfl, rfl, rfl, g10, g11, g12, g13⟩ := open_nat (hval 1 25 v1 rfl rfl) h1
  clear hA0 hval0
  have hwalk := modInverts_any (V a00 a01 a02 a03) (V a10 a11 a12 a13) W (In_V g00 g01 g02 g03) (In_V g10 g11 g12 g13)
  rw [NV_V g00 g01 g02 g03, NV_V g10 g11 g12 g13] at hwalk
  refine hwalk.mono fun e W' ⟨he, bel⟩ => ?_
  subst he
  exact ⟨_, rfl, _, _, _, [], [], [], hW', trodAll_mk1 (shut_bool Try.underlying4 _), trodAll_mk2 (shut_nat g00 g01 g02 g03) (shut_nat g10 g11 g12 g13), rfl, bel.frame _, fun h => by cases h⟩
theorem modInverts_holds : Rows.ModInvertsSaid :=
  OpenClaim.holds_of_wide 5 Try.f5 rfl rfl rfl rfl rfl rfl rfl ⟨rfl, rfl, rfl, rfl, rfl⟩ rfl rfl rfl rfl rfl (by kernel_rfl) Try.func5 (by kernel_rfl)
    (of_decide_eq_true (by kernel_rfl)) (by unfold Func.isWrapper; first | (rw [if_pos (by decide +kernel)]; kernel_rfl) | (rw [if_neg (by decide +kernel)]; exact ⟨rfl, rfl⟩))
    (fun os started H enc _ => modInverts_lifted os started H enc)
#print axioms modInverts_holds
end Go.Proofs.Ytkpnjmfndgfogaa
