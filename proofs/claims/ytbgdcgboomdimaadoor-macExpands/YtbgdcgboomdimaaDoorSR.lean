/- Two rows alike are alike. -/
import Derived.Test.YtbgdcgboomdimaaDoorSO
import Derived.DeepKeys
namespace Go.Proofs.YtbgdcgboomdimaaDoor
open Go.RowKit
set_option linter.unusedVariables false
set_option linter.unusedSimpArgs false
theorem mapM_some {α β : Type} (f : α → Option β) : ∀ l : List α, (∀ a ∈ l, ∃ b, f a = some b) → ∃ bs, l.mapM f = some bs
  | [], _ => ⟨[], rfl⟩
  | a :: l, h => by
    obtain ⟨b, hb⟩ := h a (by simp)
    obtain ⟨bs, hbs⟩ := mapM_some f l (fun x hx => h x (by simp [hx]))
    exact ⟨b :: bs, by simp [List.mapM_cons, hb, hbs]⟩
theorem c8 : Tryd.prog.cellsOf 5 = 1 := by kernel_rfl
theorem c32a : Tryd.prog.cellsOf 24 = 32 := by kernel_rfl
theorem kl8 (ds : List Nat) (hd : BB 32 ds) : ∃ la, Tryd.prog.keyLits 2 24 (U8 ds) = some la := by
  have hl : (U8 ds).length = 32 := by rw [U8_len]; exact hd.len
  have hm : ∃ bs, (List.range 32).mapM (fun i => Tryd.prog.keyLits 1 5 (((U8 ds).drop (i * 1)).take 1)) = some bs := mapM_some _ _ fun i hi => by
    have hi : i < 32 := List.mem_range.1 hi
    have e : ((U8 ds).drop (i * 1)).take 1 = [.int .u8 ((ds.getD i 0 : Nat) : Int)] := by
      rw [Nat.mul_one, List.drop_eq_getElem_cons (by omega)]
      have := U8_get ds i (by rw [hd.len]; exact hi)
      rw [List.getElem?_eq_getElem (by omega)] at this
      rw [Option.some.inj this]; rfl
    have hw : (Lit.int .u8 ((ds.getD i 0 : Nat) : Int)).wf = true := by
      have := hd.lt i
      obtain ⟨z, ez⟩ : ∃ z, ds.getD i 0 = z := ⟨_, rfl⟩
      rw [ez] at this ⊢
      simp [Lit.wf, IntKind.min, IntKind.max, IntKind.signed, IntKind.bits]; omega
    rw [e]
    exact ⟨_, by unfold Program.keyLits; rw [Tryd.underlying5]; simp only [hw]; simp; rfl⟩
  obtain ⟨bs, hbs⟩ := hm
  refine ⟨bs.flatten, ?_⟩
  unfold Program.keyLits
  rw [Tryd.underlying24]
  simp only [hl, c32a, c8, if_true, hbs, Option.map_some]
theorem eqA8 (ds : List Nat) (hd : BB 32 ds) (w : World) : (Op.equal 24 (.agg (U8 ds).toArray) (.agg (U8 ds).toArray)).run Tryd.prog w = .ok true w := by
  obtain ⟨la, hla⟩ := kl8 ds hd
  have hf : (Value.agg (U8 ds).toArray).formed Tryd.prog 24 = true := by
    simp [Value.formed, Tryd.underlying24, c32a, U8_len, hd.len]
  obtain ⟨r, hr, hiff⟩ := run_equalIn_deep 9998 2 24 (by kernel_rfl) w 2 2 (.agg (U8 ds).toArray) (.agg (U8 ds).toArray) la la hf hf (by simpa [Value.cells] using hla) (by simpa [Value.cells] using hla)
  have : r = true := hiff.2 rfl
  subst this
  exact hr
theorem gA8 : Tryd.prog.eqGuardType Tryd.prog.depth 24 = false := by kernel_rfl
theorem eql_A8 (ds : List Nat) (hd : BB 32 ds) (p q : Operand) (w : World) : (do eqGuard .eql 24 p q (.agg (U8 ds).toArray) (.agg (U8 ds).toArray); binOp .eql 24 (.agg (U8 ds).toArray) (.agg (U8 ds).toArray) : Sem Value).run Tryd.prog w = .ok (.bool true) w := by
  have h := eqA8 ds hd w
  have hp : ∀ w, Sem.run Tryd.prog (Sem.program Sem.pure) w = .ok Tryd.prog w := fun _ => rfl
  simp [eqGuard, binOp, program, hp, gA8, h]
end Go.Proofs.YtbgdcgboomdimaaDoor
