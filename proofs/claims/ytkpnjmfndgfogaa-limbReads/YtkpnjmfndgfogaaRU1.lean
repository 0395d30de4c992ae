/- Proved: for any bytes and any text, LimbReads returns true and leaves its arguments as they were. No condition. -/
import Derived.Test.YtkpnjmfndgfogaaOO
import Derived.Test.YtkpnjmfndgfogaaU8
namespace Go.Proofs.Ytkpnjmfndgfogaa
open Go.ChangeShapes Go.WideShapes Go.ChangeAt Go.RowKit
set_option linter.unusedVariables false
set_option linter.unusedSimpArgs false
theorem Try.cells5 : Try.prog.cellsOf 5 = 1 := by kernel_rfl
theorem byte_of_wf {x : Int} (h : (Lit.int .u8 x).wf = true) : 0 ≤ x ∧ x < 256 := by
  simp [Lit.wf, IntKind.min, IntKind.max, IntKind.signed, IntKind.bits] at h
  exact ⟨by omega, by omega⟩
set_option maxRecDepth 100000 in
theorem limbReads_lifted (os : Os) (started : os.Started) (H : Type) (enc : TypeId × Value → H) :
    ReturnsInHanded {} Try.checked os 3 .any (Rows.limbReadsSpec.pre6 enc Try.prog Try.f3 Rows.limbReadsRow.domain false) (Rows.limbReadsSpec.post enc Try.prog Try.f3 false true false false) := by
  refine returnsInHanded_of_change (C := Try.checked) Try.own started (by kernel_rfl) Try.func3
    (ChangeSpec.witness6 (enc := enc) (C := Try.checked) false ⟨#[], #[.slice none 0 0, .string ⟨#[]⟩], []⟩ 8 (by kernel_rfl) (by kernel_rfl) (by kernel_rfl) (by kernel_rfl)) ?_
  intro W base args ds gs before hval0 hW hcnd _
  have hval : ∀ (j : Nat) t v, Try.f3.params[j]? = some t → args[j]? = some v → Value.okWide Try.prog W .any base t v := hval0
  have hW' := hW
  obtain ⟨p, q, hA0, hV, rfl, hfz, hnd⟩ := hW
  have hA : DataW.TrodAll enc Try.prog W 0 (fun _ => true) true Try.f3.params.toList args.toList ds p := hA0
  rw [Try.params3] at hA hval
  obtain ⟨v0, v1, d0, d1, q0, q1, rfl, rfl, rfl, h0, h1⟩ := trodAll_two hA
  obtain ⟨rfl, rfl⟩ := trodVars_none hV
  simp only [List.append_nil] at hW'
  have hlt : ∀ x ∈ q0 ++ q1, x.block < W.heap.size := fun x hx => by simpa using hW'.lt x hx
  have hargs : ∀ (W' : World), Below W.heap.size W W' → DataW.Trod enc Try.prog W' 0 (fun b => decide (b < W.heap.size)) true 22 v0 d0 q0 ∧ DataW.Trod enc Try.prog W' 0 (fun b => decide (b < W.heap.size)) true 9 v1 d1 q1 :=
    fun W' hn => ⟨Below.trod Try.laidOut (by kernel_rfl) (of_decide_eq_true (by kernel_rfl)) h0 hn (fun x hx => hlt x (List.mem_append_left _ hx)), Below.trod Try.laidOut (by kernel_rfl) (of_decide_eq_true (by kernel_rfl)) h1 hn (fun x hx => hlt x (List.mem_append_right _ hx))⟩
  have key : ∃ sl len cap xs cs, v0 = .slice sl len cap ∧ v1 = .string (strOfNums cs) ∧ xs.length = len ∧ len ≤ cap ∧ (sl = none → cap = 0) ∧ Bytes8 xs ∧ Bytes8 cs ∧ (len = 0 ∨ ∃ g o, sl = some ⟨g, o, none⟩ ∧ g < W.heap.size ∧ SB W g o xs) := by
    obtain ⟨s, rfl, _, rfl, _⟩ := Go.ChangeMaps.open_string Try.underlying9 (hval 1 9 v1 rfl rfl) h1
    obtain ⟨cs, rfl, hcs⟩ := str_nums s
    obtain ⟨a0, len, cap, rfl⟩ := okWide_slice Try.underlying22 (hval 0 22 v0 rfl rfl)
    obtain ⟨fuel, hf⟩ := h0
    rcases open_ints Try.underlying22 Try.underlying5 Try.cells5 hf with ⟨hcs', hx⟩ | ⟨a, len', cap', zs, hcs', _, hl, hm, hz, hx, hcell, hwz⟩
    · simp [Value.cells] at hcs'
      obtain ⟨rfl, rfl, rfl⟩ := hcs'
      exact ⟨_, _, _, [], cs, rfl, rfl, rfl, Nat.le_refl _, fun _ => rfl, fun x hx => (by cases hx), hcs, .inl rfl⟩
    · simp [Value.cells] at hcs'
      obtain ⟨rfl, rfl, rfl⟩ := hcs'
      simp only [Prod.mk.injEq] at hx
      obtain ⟨rfl, rfl⟩ := hx
      simp only [if_true] at hz
      refine ⟨_, _, _, zs.take len, cs, rfl, rfl, by rw [List.length_take]; omega, hl, fun e => (by cases e), fun x hx => byte_of_wf (hwz x (List.mem_of_mem_take hx)), hcs, ?_⟩
      by_cases h0 : len = 0
      · exact .inl h0
      · obtain ⟨b, off, spot⟩ := a
        have hspot : spot = none := by simpa [Addr.add] using World.cell?_spot (hcell 0 (by omega))
        subst hspot
        have hb : b < W.heap.size := hlt (.cell b off) (List.mem_append_left _ (MemPlace.mem_row.2 ⟨0, by omega, by simp⟩))
        refine .inr ⟨b, off, rfl, hb, fun j hj => ?_⟩
        have hj' : j < len := by rw [List.length_take] at hj; omega
        have := hcell j (by omega)
        have hplain : (⟨b, off, none⟩ : Addr).add j = ⟨b, off + j, none⟩ := by unfold Addr.add; split <;> simp_all
        rw [hplain] at this
        rw [this]
        simp [List.getElem?_take, hj']
  obtain ⟨sl, len, cap, xs, cs, rfl, rfl, hl, hc, hsn, hx, hcs, hsl⟩ := key
  clear hA0 hval0
  refine (limbReads_any sl len cap xs cs W hl hc hsn hx hcs hsl).mono fun e W' ⟨he, bel⟩ => ?_
  subst he
  exact ⟨_, rfl, _, _, _, [], _, [], hW', trodAll_mk1 (shut_bool Try.underlying4 _), trodAll_mk2 (hargs _ bel).1 (hargs _ bel).2, rfl, bel.frame _, fun h => by cases h⟩
theorem limbReads_holds : Rows.LimbReadsSaid :=
  OpenClaim.holds_of_wide 3 Try.f3 rfl rfl rfl rfl rfl rfl rfl ⟨rfl, rfl, rfl, rfl, rfl⟩ rfl rfl rfl rfl rfl (by kernel_rfl) Try.func3 (by kernel_rfl)
    (of_decide_eq_true (by kernel_rfl)) (by unfold Func.isWrapper; first | (rw [if_pos (by decide +kernel)]; kernel_rfl) | (rw [if_neg (by decide +kernel)]; exact ⟨rfl, rfl⟩))
    (fun os started H enc _ => limbReads_lifted os started H enc)
#print axioms limbReads_holds
end Go.Proofs.Ytkpnjmfndgfogaa
