/- Blocks, and keys of rounds, that are held against each other. -/
import Derived.Test.YtlcjbnhfmcnnfaaDoorAE8
import Derived.DeepKeys
namespace Go.Proofs.YtlcjbnhfmcnnfaaDoor
open Go.RowKit
set_option linter.unusedVariables false
set_option linter.unusedSimpArgs false
theorem mapM_all {α β : Type} (f : α → Option β) (g : α → β) : ∀ l : List α, (∀ a ∈ l, f a = some (g a)) → l.mapM f = some (l.map g)
  | [], _ => rfl
  | a :: l, h => by
    have hb := h a (by simp)
    have hbs := mapM_all f g l (fun x hx => h x (by simp [hx]))
    simp [List.mapM_cons, hb, hbs]
theorem flat1 {α β : Type} (h : α → β) : ∀ l : List α, (l.map fun i => [h i]).flatten = l.map h
  | [] => rfl
  | a :: l => by simp [flat1 h l]
theorem c16a : Tryd.prog.cellsOf 32 = 16 := by kernel_rfl
theorem c176a : Tryd.prog.cellsOf 33 = 176 := by kernel_rfl
def lit8 (ds : List Nat) (n : Nat) : List Lit := (List.range n).map fun i => Lit.int .u8 ((ds.getD i 0 : Nat) : Int)
theorem kl16 (ds : List Nat) (hd : BY 16 ds) (d : Nat) : Tryd.prog.keyLits (d + 2) 32 (U8 ds) = some (lit8 ds 16) := by
  have hl : (U8 ds).length = 16 := by rw [U8_len]; exact hd.len
  have hm : (List.range 16).mapM (fun i => Tryd.prog.keyLits (d + 1) 5 (((U8 ds).drop (i * 1)).take 1)) = some ((List.range 16).map fun i => [Lit.int .u8 ((ds.getD i 0 : Nat) : Int)]) := mapM_all _ _ _ fun i hi => by
    have hi : i < 16 := List.mem_range.1 hi
    have e : ((U8 ds).drop (i * 1)).take 1 = [.int .u8 ((ds.getD i 0 : Nat) : Int)] := by
      rw [Nat.mul_one, List.drop_eq_getElem_cons (by omega)]
      have := U8_get ds i (by rw [hd.len]; exact hi)
      rw [List.getElem?_eq_getElem (by omega)] at this
      rw [Option.some.inj this]; rfl
    have hw : (Lit.int .u8 ((ds.getD i 0 : Nat) : Int)).wf = true := by
      have := hd.lt i
      obtain ⟨z, ez⟩ : ∃ z, ds.getD i 0 = z := ⟨_, rfl⟩
      rw [ez] at this ⊢
      simp [Lit.wf, IntKind.min, IntKind.max, IntKind.signed, IntKind.bits]; omega
    rw [e]
    unfold Program.keyLits; rw [Tryd.underlying5]; simp only [hw]; simp
  unfold Program.keyLits
  rw [Tryd.underlying32]
  simp only [hl, c16a, c8, if_true, hm, Option.map_some, flat1]
  rfl
theorem rowU (l : List Nat) (i : Nat) : ((U8 l).drop (i * 16)).take 16 = U8 (rowB l i) := by
  unfold rowB U8; rw [List.map_take, List.map_drop, Nat.mul_comm]
theorem kl176 (ds : List Nat) (hd : BY 176 ds) : ∃ la, Tryd.prog.keyLits 3 33 (U8 ds) = some la := by
  have hl : (U8 ds).length = 176 := by rw [U8_len]; exact hd.len
  have hm : ∃ bs, (List.range 11).mapM (fun i => Tryd.prog.keyLits 2 32 (((U8 ds).drop (i * 16)).take 16)) = some bs := mapM_some _ _ fun i hi => by
    have hi : i < 11 := List.mem_range.1 hi
    rw [rowU]
    exact ⟨_, kl16 (rowB ds i) ⟨rowB_len (by rw [hd.len]; omega), fun j => by
      by_cases hj : j < 16
      · rw [rowB_get hj]; exact hd.lt _
      · rw [List.getD_eq_getElem?_getD, List.getElem?_eq_none (by rw [rowB_len (by rw [hd.len]; omega)]; omega)]; decide⟩ 0⟩
  obtain ⟨bs, hbs⟩ := hm
  refine ⟨bs.flatten, ?_⟩
  unfold Program.keyLits
  rw [Tryd.underlying33]
  simp only [hl, c176a, c16a, if_true, hbs, Option.map_some]
theorem eqA176 (ds : List Nat) (hd : BY 176 ds) (w : World) : (Op.equal 33 (.agg (U8 ds).toArray) (.agg (U8 ds).toArray)).run Tryd.prog w = .ok true w := by
  obtain ⟨la, hla⟩ := kl176 ds hd
  have hf : (Value.agg (U8 ds).toArray).formed Tryd.prog 33 = true := by
    simp [Value.formed, Tryd.underlying33, c176a, U8_len, hd.len]
  obtain ⟨r, hr, hiff⟩ := run_equalIn_deep 9997 3 33 (by kernel_rfl) w 3 3 (.agg (U8 ds).toArray) (.agg (U8 ds).toArray) la la hf hf (by simpa [Value.cells] using hla) (by simpa [Value.cells] using hla)
  have : r = true := hiff.2 rfl
  subst this
  exact hr
theorem gA176 : Tryd.prog.eqGuardType Tryd.prog.depth 33 = false := by kernel_rfl
theorem eql_A176 (ds : List Nat) (hd : BY 176 ds) (p q : Operand) (w : World) : (do eqGuard .eql 33 p q (.agg (U8 ds).toArray) (.agg (U8 ds).toArray); binOp .eql 33 (.agg (U8 ds).toArray) (.agg (U8 ds).toArray) : Sem Value).run Tryd.prog w = .ok (.bool true) w := by
  have h := eqA176 ds hd w
  have hp : ∀ w, Sem.run Tryd.prog (Sem.program Sem.pure) w = .ok Tryd.prog w := fun _ => rfl
  simp [eqGuard, binOp, program, hp, gA176, h]
end Go.Proofs.YtlcjbnhfmcnnfaaDoor
