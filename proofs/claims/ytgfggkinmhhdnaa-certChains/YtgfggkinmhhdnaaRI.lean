/- A region that draws its order, by one condition on which operations have come up, on the temporaries and on the world. -/
import Derived.Orders
import Derived.RegionTactic
namespace Go.Proofs.Ytgfggkinmhhdnaa
set_option linter.unusedVariables false
section
variable {P : Program} {ops : Array Oper} {Q : Exit → Act → World → Prop} {md : Region.Mode}
theorem count_set {l : List Bool} {i : Nat} (hi : l[i]? = some false) : (l.set i true).count false + 1 = l.count false := by
  induction l generalizing i with
  | nil => simp at hi
  | cons x r ih =>
    cases i with
    | zero => simp at hi; subst hi; simp
    | succ i => simp at hi; have := ih hi; simp [List.count_cons] at *; omega
/-- Dependencies that bind point back. -/
def backs (md : Region.Mode) (ops : Array Oper) : Bool := (List.range ops.size).all fun i => match ops[i]? with | some o => o.after.all fun e => decide (e.on < i) || !Region.binds md e | none => true
theorem backs_spec (h : backs md ops = true) : ∀ (i : Nat) o, ops[i]? = some o → ∀ e ∈ o.after, Region.binds md e = true → e.on < i := fun i o ho e he hbi => by
  have hi : i < ops.size := (Array.getElem?_eq_some_iff.1 ho).1
  have h1 := List.all_eq_true.1 h i (List.mem_range.2 hi)
  rw [ho] at h1
  simpa [hbi] using Array.all_eq_true_iff_forall_mem.1 h1 e he
theorem wpAny_inv {I : (Nat → Bool) → Act → World → Prop} (hb : backs md ops = true)
    (hs : ∀ f a u i o, I f a u → ops[i]? = some o → f i = false → (∀ e ∈ o.after, Region.binds md e = true → f e.on = true) → wpOp P ops Q i (fun a' u' => I (fun j => if j = i then true else f j) a' u') a u)
    (hd : ∀ f a u, I f a u → (∀ i, i < ops.size → f i = true) → Q .normal a u) :
    ∀ (fuel : Nat) (L : Array Bool) (a : Act) (u : World), L.size = ops.size → L.toList.count false ≤ fuel → I (fun j => L.getD j false) a u → wpAny P md ops Q fuel L a u := by
  have full : ∀ L : Array Bool, L.size = ops.size → Region.ready md ops L = [] → ∀ i, i < ops.size → L.getD i false = true := by
    intro L hL hr i
    induction i using Nat.strongRecOn with
    | _ i ih =>
      intro hi
      have hiL : i < L.size := by omega
      cases hv : L.getD i false with
      | true => rfl
      | false =>
        exfalso
        have hm : i ∈ Region.ready md ops L := mem_ready.2 ⟨by simp [hiL] at hv ⊢; exact hv, ops[i], Array.getElem?_eq_getElem hi, fun e he hbi => ih e.on (backs_spec hb i _ (Array.getElem?_eq_getElem hi) e he hbi) (by have := backs_spec hb i _ (Array.getElem?_eq_getElem hi) e he hbi; omega)⟩
        rw [hr] at hm
        cases hm
  intro fuel
  induction fuel with
  | zero =>
    intro L a u hL hc hI
    have hall : ∀ i, i < ops.size → L.getD i false = true := fun i hi => by
      have hiL : i < L.size := by omega
      cases hv : L.getD i false with
      | true => rfl
      | false =>
        exfalso
        simp [hiL] at hv
        have : 0 < L.toList.count false := List.count_pos_iff.2 (by rw [← hv]; simp)
        omega
    refine ⟨?_, hd _ a u hI hall⟩
    refine List.eq_nil_iff_forall_not_mem.2 fun j hj => ?_
    obtain ⟨hj0, o, ho, _⟩ := mem_ready.1 hj
    have hlt : j < ops.size := (Array.getElem?_eq_some_iff.1 ho).1
    have := hall j hlt
    have hjL : j < L.size := by omega
    simp [hjL] at this hj0
    rw [this] at hj0; cases hj0
  | succ fuel ih =>
    intro L a u hL hc hI
    refine ⟨fun hr => hd _ a u hI (full L hL hr), fun i hi => ?_⟩
    obtain ⟨hi0, o, ho, hall⟩ := mem_ready.1 hi
    have hlt : i < ops.size := (Array.getElem?_eq_some_iff.1 ho).1
    have hiL : i < L.size := by omega
    have hf : L.getD i false = false := by simp [hiL] at hi0 ⊢; exact hi0
    refine wpOp_mono (fun a' u' h => ih _ a' u' (by simpa using hL) ?_ ?_) (hs _ a u i o hI ho hf hall)
    · have hg : L.toList[i]? = some false := by
        simp [hiL] at hf ⊢; exact hf
      have := count_set hg
      rw [Array.toList_setIfInBounds]
      omega
    · refine cast ?_ h
      congr 1
      funext j
      by_cases hji : j = i
      · subst hji; simp [hiL]
      · rw [if_neg hji]; simp only [Array.getD_eq_getD_getElem?]; rw [Array.getElem?_setIfInBounds_ne (by omega)]
/-- A region that draws its order. -/
theorem wp_region_inv {id : Nat} {a : Act} {w : World} (I : (Nat → Bool) → Act → World → Prop) (hm : P.follows .mixedOrders = true) (hb : backs .any ops = true)
    (h0 : I (fun _ => false) a w.drew)
    (hs : ∀ f a u i o, I f a u → ops[i]? = some o → f i = false → (∀ e ∈ o.after, Region.binds .any e = true → f e.on = true) → wpOp P ops Q i (fun a' u' => I (fun j => if j = i then true else f j) a' u') a u)
    (hd : ∀ f a u, I f a u → (∀ i, i < ops.size → f i = true) → Q .normal a u) : (Code.region id ops true).wp P Q a w := by
  refine wp_region_any hm (wpAny_inv hb hs hd _ _ _ _ (by simp) ?_ ?_)
  · refine Nat.le_trans (List.count_le_length) (by simp)
  · refine cast ?_ h0
    congr 1
    funext j
    simp only [Array.getD_eq_getD_getElem?]
    by_cases hj : j < ops.size
    · simp [hj]
    · simp [hj]
end
end Go.Proofs.Ytgfggkinmhhdnaa
