/- Proved: for any three numbers of four words and any number of eight, ModSums returns true and leaves its arguments as they were. No condition. -/
import Derived.Test.YtnmkbihjbnbkkaaOO
import Derived.Test.YtnmkbihjbnbkkaaLM5
namespace Go.Proofs.Ytnmkbihjbnbkkaa
open Go.ChangeShapes Go.WideShapes Go.ChangeAt Go.RowKit
set_option linter.unusedVariables false
set_option maxRecDepth 100000 in
theorem modSums_lifted (os : Go.Os) (started : os.Started) (H : Type) (enc : TypeId × Value → H) :
    ReturnsInHanded {} Try.checked os 5 .any (Rows.modSumsSpec.pre6 enc Try.prog Try.f5 Rows.modSumsRow.domain false) (Rows.modSumsSpec.post enc Try.prog Try.f5 false true false false) := by
  refine returnsInHanded_of_change (C := Try.checked) Try.own started (by kernel_rfl) Try.func5
    (ChangeSpec.witness6 (enc := enc) (C := Try.checked) false ⟨#[], #[A4 0 0 0 0, A4 0 0 0 0, A4 0 0 0 0, A8 0 0 0 0 0 0 0 0], []⟩ 8 (by kernel_rfl) (by kernel_rfl) (by kernel_rfl) (by kernel_rfl)) ?_
  intro W base args ds gs before hval0 hW hcnd _
  have hval : ∀ (j : Nat) t v, Try.f5.params[j]? = some t → args[j]? = some v → Value.okWide Try.prog W .any base t v := hval0
  have hW' := hW
  obtain ⟨p, q, hA0, hV, rfl, hfz, hnd⟩ := hW
  have hA : DataW.TrodAll enc Try.prog W 0 (fun _ => true) true Try.f5.params.toList args.toList ds p := hA0
  rw [Try.params5] at hA hval
  obtain ⟨v0, v1, v2, v3, d0, d1, d2, d3, p0, p1, p2, p3, rfl, rfl, rfl, h0, h1, h2, h3⟩ := trodAll_four hA
  obtain ⟨rfl, rfl⟩ := trodVars_none hV
  obtain ⟨a00, a01, a02, a03, rfl, rfl, rfl, g00, g01, g02, g03⟩ := open_nat (hval 0 25 v0 rfl rfl) h0
  obtain ⟨a10, a11, a12, a13, rfl, rfl, rfl, g10, g11, g12, g13⟩ := open_nat (hval 1 25 v1 rfl rfl) h1
  obtain ⟨a20, a21, a22, a23, rfl, rfl, rfl, g20, g21, g22, g23⟩ := open_nat (hval 2 25 v2 rfl rfl) h2
  obtain ⟨a30, a31, a32, a33, a34, a35, a36, a37, rfl, rfl, rfl, g30, g31, g32, g33, g34, g35, g36, g37⟩ := open_wide (hval 3 37 v3 rfl rfl) h3
  clear hA0 hval0
  have hwalk := modSums_any (V a00 a01 a02 a03) (V a10 a11 a12 a13) (V a20 a21 a22 a23) (V a30 a31 a32 a33 + V a34 a35 a36 a37 * 115792089237316195423570985008687907853269984665640564039457584007913129639936) W (In_V g00 g01 g02 g03) (In_V g10 g11 g12 g13) (In_V g20 g21 g22 g23) (In_W8 g30 g31 g32 g33 g34 g35 g36 g37)
  rw [NV_V g00 g01 g02 g03, NV_V g10 g11 g12 g13, NV_V g20 g21 g22 g23, WV_W g30 g31 g32 g33 g34 g35 g36 g37] at hwalk
  refine hwalk.mono fun e W' ⟨he, bel⟩ => ?_
  subst he
  exact ⟨_, rfl, _, _, _, [], [], [], hW', trodAll_mk1 (shut_bool Try.underlying4 _), trodAll_mk4 (shut_nat g00 g01 g02 g03) (shut_nat g10 g11 g12 g13) (shut_nat g20 g21 g22 g23) (shut_wide g30 g31 g32 g33 g34 g35 g36 g37), rfl, bel.frame _, fun h => by cases h⟩
theorem modSums_holds : Rows.ModSumsSaid :=
  OpenClaim.holds_of_wide 5 Try.f5 rfl rfl rfl rfl rfl rfl rfl ⟨rfl, rfl, rfl, rfl, rfl⟩ rfl rfl rfl rfl rfl (by kernel_rfl) Try.func5 (by kernel_rfl)
    (of_decide_eq_true (by kernel_rfl)) (by unfold Func.isWrapper; first | (rw [if_pos (by decide +kernel)]; kernel_rfl) | (rw [if_neg (by decide +kernel)]; exact ⟨rfl, rfl⟩))
    (fun os started H enc _ => modSums_lifted os started H enc)
#print axioms modSums_holds
end Go.Proofs.Ytnmkbihjbnbkkaa
