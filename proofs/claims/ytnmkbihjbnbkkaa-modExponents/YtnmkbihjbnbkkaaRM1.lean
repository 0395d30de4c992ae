/- Proved: for any three numbers of four words and any two words, ModExponents returns true and leaves its arguments as they were. No condition. -/
import Derived.Test.YtnmkbihjbnbkkaaOO
import Derived.Test.YtnmkbihjbnbkkaaOO
import Derived.Test.YtnmkbihjbnbkkaaOO
import Derived.Test.YtnmkbihjbnbkkaaLM1
namespace Go.Proofs.Ytnmkbihjbnbkkaa
open Go.ChangeShapes Go.WideShapes Go.ChangeAt Go.RowKit
set_option linter.unusedVariables false
set_option maxRecDepth 100000 in
theorem modExponents_lifted (os : Go.Os) (started : os.Started) (H : Type) (enc : TypeId × Value → H) :
    ReturnsInHanded {} Try.checked os 10 .any (Rows.modExponentsSpec.pre6 enc Try.prog Try.f10 Rows.modExponentsRow.domain false) (Rows.modExponentsSpec.post enc Try.prog Try.f10 false true false false) := by
  refine returnsInHanded_of_change (C := Try.checked) Try.own started (by kernel_rfl) Try.func10
    (ChangeSpec.witness6 (enc := enc) (C := Try.checked) false ⟨#[], #[A4 0 0 0 0, A4 0 0 0 0, .int .u64 0, .int .u64 0, A4 0 0 0 0], []⟩ 8 (by kernel_rfl) (by kernel_rfl) (by kernel_rfl) (by kernel_rfl)) ?_
  intro W base args ds gs before hval0 hW hcnd _
  have hval : ∀ (j : Nat) t v, Try.f10.params[j]? = some t → args[j]? = some v → Value.okWide Try.prog W .any base t v := hval0
  have hW' := hW
  obtain ⟨p, q, hA0, hV, rfl, hfz, hnd⟩ := hW
  have hA : DataW.TrodAll enc Try.prog W 0 (fun _ => true) true Try.f10.params.toList args.toList ds p := hA0
  rw [Try.params10] at hA hval
  obtain ⟨v0, v1, v2, v3, v4, d0, d1, d2, d3, d4, p0, p1, p2, p3, p4, rfl, rfl, rfl, h0, h1, h2, h3, h4⟩ := trodAll_five hA
  obtain ⟨rfl, rfl⟩ := trodVars_none hV
  obtain ⟨a00, a01, a02, a03, rfl, rfl, rfl, g00, g01, g02, g03⟩ := open_nat (hval 0 25 v0 rfl rfl) h0
  obtain ⟨a10, a11, a12, a13, rfl, rfl, rfl, g10, g11, g12, g13⟩ := open_nat (hval 1 25 v1 rfl rfl) h1
  obtain ⟨a2, rfl, rfl, rfl, g2⟩ := open_word (hval 2 23 v2 rfl rfl) h2
  obtain ⟨a3, rfl, rfl, rfl, g3⟩ := open_word (hval 3 23 v3 rfl rfl) h3
  obtain ⟨a40, a41, a42, a43, rfl, rfl, rfl, g40, g41, g42, g43⟩ := open_nat (hval 4 25 v4 rfl rfl) h4
  clear hA0 hval0
  have hwalk := modExponents_any (V a00 a01 a02 a03) (V a10 a11 a12 a13) a2 a3 (V a40 a41 a42 a43) W (In_V g00 g01 g02 g03) (In_V g10 g11 g12 g13) g2 g3 (In_V g40 g41 g42 g43)
  rw [NV_V g00 g01 g02 g03, NV_V g10 g11 g12 g13, NV_V g40 g41 g42 g43] at hwalk
  refine hwalk.mono fun e W' ⟨he, bel⟩ => ?_
  subst he
  exact ⟨_, rfl, _, _, _, [], [], [], hW', trodAll_mk1 (shut_bool Try.underlying4 _), trodAll_mk5 (shut_nat g00 g01 g02 g03) (shut_nat g10 g11 g12 g13) (shut_word g2) (shut_word g3) (shut_nat g40 g41 g42 g43), rfl, bel.frame _, fun h => by cases h⟩
theorem modExponents_holds : Rows.ModExponentsSaid :=
  OpenClaim.holds_of_wide 10 Try.f10 rfl rfl rfl rfl rfl rfl rfl ⟨rfl, rfl, rfl, rfl, rfl⟩ rfl rfl rfl rfl rfl (by kernel_rfl) Try.func10 (by kernel_rfl)
    (of_decide_eq_true (by kernel_rfl)) (by unfold Func.isWrapper; first | (rw [if_pos (by decide +kernel)]; kernel_rfl) | (rw [if_neg (by decide +kernel)]; exact ⟨rfl, rfl⟩))
    (fun os started H enc _ => modExponents_lifted os started H enc)
#print axioms modExponents_holds
end Go.Proofs.Ytnmkbihjbnbkkaa
