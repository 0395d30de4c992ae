import Derived.BigQuiet
import Derived.Deep.AppendLies
import Derived.Deep.CutBlock
import Derived.Deep.DeepCutAuto
import Derived.Deep.MidRow
import Derived.Deep.QuietTactic
import Derived.Deep.RegionHeld3
import Derived.Handy
import Derived.Laws.Append
import Derived.Laws.AppendOwn
import Derived.Laws.Bits64b
import Derived.Laws.Externs
import Derived.Laws.IdiomCopy
import Derived.Laws.Pointers
import Derived.Orders
import Derived.OwnWalk
import Derived.RegionTactic
import Derived.RowKit3
import Derived.StillTactics
import Derived.WalkKit
import Derived.WalkLawsBesides
import Derived.WalkSmall
import Derived.WalkSpells
/- Small facts on words that lie in a block of their own. -/
namespace Go.Proofs.Ythncmahhnbpbkaa
open Go.RowKit
/-- Four words in a block. -/
def C4 (w : World) (n : Nat) (p q r s : Int) : Prop :=
  (w.cell? ⟨n, 0, none⟩ = some (.int .u64 p) ∧ w.cell? ⟨n, 1, none⟩ = some (.int .u64 q) ∧ w.cell? ⟨n, 2, none⟩ = some (.int .u64 r) ∧ w.cell? ⟨n, 3, none⟩ = some (.int .u64 s)) ∧
  (w.frozen? ⟨n, 0, none⟩ = false ∧ w.frozen? ⟨n, 1, none⟩ = false ∧ w.frozen? ⟨n, 2, none⟩ = false ∧ w.frozen? ⟨n, 3, none⟩ = false)
theorem C4.below {w w' : World} {m n : Nat} {p q r s : Int} (h : C4 w n p q r s) (hb : Below m w w') (hn : n < m) : C4 w' n p q r s := by
  unfold C4 at *
  rw [hb.cell (p := ⟨n, 0, none⟩) hn, hb.cell (p := ⟨n, 1, none⟩) hn, hb.cell (p := ⟨n, 2, none⟩) hn, hb.cell (p := ⟨n, 3, none⟩) hn,
    hb.frozen (p := ⟨n, 0, none⟩) hn, hb.frozen (p := ⟨n, 1, none⟩) hn, hb.frozen (p := ⟨n, 2, none⟩) hn, hb.frozen (p := ⟨n, 3, none⟩) hn]
  exact h
theorem C4.drewN {w : World} {n : Nat} {p q r s : Int} (h : C4 w n p q r s) (k : Nat) : C4 (w.drewN k) n p q r s := h
theorem C4.drew {w : World} {n : Nat} {p q r s : Int} (h : C4 w n p q r s) : C4 w.drew n p q r s := h
theorem C4.alloc {w : World} {n : Nat} {p q r s : Int} (h : C4 w n p q r s) (hn : n < w.heap.size) (o : Obj) : C4 (w.alloc o) n p q r s :=
  h.below (m := w.heap.size) ((Below.refl _ _).alloc (Nat.le_refl _) o) hn
theorem C4.new (w : World) (p q r s : Int) (t : TypeId) : C4 (w.alloc (.cells #[.int .u64 p, .int .u64 q, .int .u64 r, .int .u64 s] t)) w.heap.size p q r s := by
  unfold C4; simp [go_sem]
theorem C4.other {w : World} {n : Nat} {p q r s : Int} (h : C4 w n p q r s) (a : Addr) (ha : n ≠ a.block) (v : Value) : C4 (w.setCell a v) n p q r s := by
  have hb : (w.setCell a v).heap[n]? = w.heap[n]? := Below.heap_setCell w a v n ha
  have c : ∀ o, (w.setCell a v).cell? ⟨n, o, none⟩ = w.cell? ⟨n, o, none⟩ := fun o => World.cell?_of_block (w := w) hb
  have f : ∀ o, (w.setCell a v).frozen? ⟨n, o, none⟩ = w.frozen? ⟨n, o, none⟩ := fun o => World.frozen?_of_block (w := w) hb
  unfold C4 at *
  rw [c, c, c, c, f, f, f, f]
  exact h
theorem C4.set0 {w : World} {n : Nat} {p q r s : Int} (h : C4 w n p q r s) (v : Int) : C4 (w.setCell ⟨n, 0, none⟩ (.int .u64 v)) n v q r s := by
  obtain ⟨⟨h1, h2, h3, h4⟩, h5, h6, h7, h8⟩ := h
  unfold C4; simp [go_sem, *]
theorem C4.set1 {w : World} {n : Nat} {p q r s : Int} (h : C4 w n p q r s) (v : Int) : C4 (w.setCell ⟨n, 1, none⟩ (.int .u64 v)) n p v r s := by
  obtain ⟨⟨h1, h2, h3, h4⟩, h5, h6, h7, h8⟩ := h
  unfold C4; simp [go_sem, *]
theorem C4.set2 {w : World} {n : Nat} {p q r s : Int} (h : C4 w n p q r s) (v : Int) : C4 (w.setCell ⟨n, 2, none⟩ (.int .u64 v)) n p q v s := by
  obtain ⟨⟨h1, h2, h3, h4⟩, h5, h6, h7, h8⟩ := h
  unfold C4; simp [go_sem, *]
theorem C4.set3 {w : World} {n : Nat} {p q r s : Int} (h : C4 w n p q r s) (v : Int) : C4 (w.setCell ⟨n, 3, none⟩ (.int .u64 v)) n p q r v := by
  obtain ⟨⟨h1, h2, h3, h4⟩, h5, h6, h7, h8⟩ := h
  unfold C4; simp [go_sem, *]
theorem bstep {w v v' : World} (h : Below w.heap.size w v) (k : Below v.heap.size v v') : Below w.heap.size w v' := h.trans (k.mono h.size)
theorem balloc {w v : World} (h : Below w.heap.size w v) (o : Obj) : Below w.heap.size w (v.alloc o) := h.alloc h.size o
theorem bself (w : World) : Below w.heap.size w w := Below.refl _ _
theorem bcell {W w1 : World} (hb : Below W.heap.size W w1) : (∀ b o, b < W.heap.size → w1.cell? ⟨b, o, none⟩ = W.cell? ⟨b, o, none⟩) ∧ (∀ b o, b < W.heap.size → w1.frozen? ⟨b, o, none⟩ = W.frozen? ⟨b, o, none⟩) ∧ W.heap.size ≤ w1.heap.size :=
  ⟨fun b o h => hb.cell (p := ⟨b, o, none⟩) h, fun b o h => hb.frozen (p := ⟨b, o, none⟩) h, hb.size⟩
/-- Four words that are read alone. -/
abbrev K4 (w : World) (n : Nat) (p q r s : Int) : Prop :=
  w.cell? ⟨n, 0, none⟩ = some (.int .u64 p) ∧ w.cell? ⟨n, 1, none⟩ = some (.int .u64 q) ∧ w.cell? ⟨n, 2, none⟩ = some (.int .u64 r) ∧ w.cell? ⟨n, 3, none⟩ = some (.int .u64 s)
theorem K4.below {w w' : World} {m n : Nat} {p q r s : Int} (h : K4 w n p q r s) (hb : Below m w w') (hn : n < m) : K4 w' n p q r s := by
  unfold K4 at *
  rw [hb.cell (p := ⟨n, 0, none⟩) hn, hb.cell (p := ⟨n, 1, none⟩) hn, hb.cell (p := ⟨n, 2, none⟩) hn, hb.cell (p := ⟨n, 3, none⟩) hn]
  exact h
theorem keep1 {u u1 : World} {n0 m : Nat} {p0 q0 r0 s0 : Int} (hB : Below u.heap.size u u1) (l0 : n0 ≤ m) (h : K4 u n0 p0 q0 r0 s0 ∧ m < u.heap.size) : K4 u1 n0 p0 q0 r0 s0 ∧ m < u1.heap.size := by
  obtain ⟨h0, hm⟩ := h
  have hs := hB.size
  exact ⟨h0.below hB (by omega), by omega⟩
theorem keep2 {u u1 : World} {n0 n1 m : Nat} {p0 q0 r0 s0 p1 q1 r1 s1 : Int} (hB : Below u.heap.size u u1) (l0 : n0 ≤ m) (l1 : n1 ≤ m) (h : K4 u n0 p0 q0 r0 s0 ∧ K4 u n1 p1 q1 r1 s1 ∧ m < u.heap.size) : K4 u1 n0 p0 q0 r0 s0 ∧ K4 u1 n1 p1 q1 r1 s1 ∧ m < u1.heap.size := by
  obtain ⟨h0, h1, hm⟩ := h
  have hs := hB.size
  exact ⟨h0.below hB (by omega), h1.below hB (by omega), by omega⟩
theorem keep3 {u u1 : World} {n0 n1 n2 m : Nat} {p0 q0 r0 s0 p1 q1 r1 s1 p2 q2 r2 s2 : Int} (hB : Below u.heap.size u u1) (l0 : n0 ≤ m) (l1 : n1 ≤ m) (l2 : n2 ≤ m) (h : K4 u n0 p0 q0 r0 s0 ∧ K4 u n1 p1 q1 r1 s1 ∧ K4 u n2 p2 q2 r2 s2 ∧ m < u.heap.size) : K4 u1 n0 p0 q0 r0 s0 ∧ K4 u1 n1 p1 q1 r1 s1 ∧ K4 u1 n2 p2 q2 r2 s2 ∧ m < u1.heap.size := by
  obtain ⟨h0, h1, h2, hm⟩ := h
  have hs := hB.size
  exact ⟨h0.below hB (by omega), h1.below hB (by omega), h2.below hB (by omega), by omega⟩
theorem keep4 {u u1 : World} {n0 n1 n2 n3 m : Nat} {p0 q0 r0 s0 p1 q1 r1 s1 p2 q2 r2 s2 p3 q3 r3 s3 : Int} (hB : Below u.heap.size u u1) (l0 : n0 ≤ m) (l1 : n1 ≤ m) (l2 : n2 ≤ m) (l3 : n3 ≤ m) (h : K4 u n0 p0 q0 r0 s0 ∧ K4 u n1 p1 q1 r1 s1 ∧ K4 u n2 p2 q2 r2 s2 ∧ K4 u n3 p3 q3 r3 s3 ∧ m < u.heap.size) : K4 u1 n0 p0 q0 r0 s0 ∧ K4 u1 n1 p1 q1 r1 s1 ∧ K4 u1 n2 p2 q2 r2 s2 ∧ K4 u1 n3 p3 q3 r3 s3 ∧ m < u1.heap.size := by
  obtain ⟨h0, h1, h2, h3, hm⟩ := h
  have hs := hB.size
  exact ⟨h0.below hB (by omega), h1.below hB (by omega), h2.below hB (by omega), h3.below hB (by omega), by omega⟩
theorem keep5 {u u1 : World} {n0 n1 n2 n3 n4 m : Nat} {p0 q0 r0 s0 p1 q1 r1 s1 p2 q2 r2 s2 p3 q3 r3 s3 p4 q4 r4 s4 : Int} (hB : Below u.heap.size u u1) (l0 : n0 ≤ m) (l1 : n1 ≤ m) (l2 : n2 ≤ m) (l3 : n3 ≤ m) (l4 : n4 ≤ m) (h : K4 u n0 p0 q0 r0 s0 ∧ K4 u n1 p1 q1 r1 s1 ∧ K4 u n2 p2 q2 r2 s2 ∧ K4 u n3 p3 q3 r3 s3 ∧ K4 u n4 p4 q4 r4 s4 ∧ m < u.heap.size) : K4 u1 n0 p0 q0 r0 s0 ∧ K4 u1 n1 p1 q1 r1 s1 ∧ K4 u1 n2 p2 q2 r2 s2 ∧ K4 u1 n3 p3 q3 r3 s3 ∧ K4 u1 n4 p4 q4 r4 s4 ∧ m < u1.heap.size := by
  obtain ⟨h0, h1, h2, h3, h4, hm⟩ := h
  have hs := hB.size
  exact ⟨h0.below hB (by omega), h1.below hB (by omega), h2.below hB (by omega), h3.below hB (by omega), h4.below hB (by omega), by omega⟩
theorem keep6 {u u1 : World} {n0 n1 n2 n3 n4 n5 m : Nat} {p0 q0 r0 s0 p1 q1 r1 s1 p2 q2 r2 s2 p3 q3 r3 s3 p4 q4 r4 s4 p5 q5 r5 s5 : Int} (hB : Below u.heap.size u u1) (l0 : n0 ≤ m) (l1 : n1 ≤ m) (l2 : n2 ≤ m) (l3 : n3 ≤ m) (l4 : n4 ≤ m) (l5 : n5 ≤ m) (h : K4 u n0 p0 q0 r0 s0 ∧ K4 u n1 p1 q1 r1 s1 ∧ K4 u n2 p2 q2 r2 s2 ∧ K4 u n3 p3 q3 r3 s3 ∧ K4 u n4 p4 q4 r4 s4 ∧ K4 u n5 p5 q5 r5 s5 ∧ m < u.heap.size) : K4 u1 n0 p0 q0 r0 s0 ∧ K4 u1 n1 p1 q1 r1 s1 ∧ K4 u1 n2 p2 q2 r2 s2 ∧ K4 u1 n3 p3 q3 r3 s3 ∧ K4 u1 n4 p4 q4 r4 s4 ∧ K4 u1 n5 p5 q5 r5 s5 ∧ m < u1.heap.size := by
  obtain ⟨h0, h1, h2, h3, h4, h5, hm⟩ := h
  have hs := hB.size
  exact ⟨h0.below hB (by omega), h1.below hB (by omega), h2.below hB (by omega), h3.below hB (by omega), h4.below hB (by omega), h5.below hB (by omega), by omega⟩
theorem keep7 {u u1 : World} {n0 n1 n2 n3 n4 n5 n6 m : Nat} {p0 q0 r0 s0 p1 q1 r1 s1 p2 q2 r2 s2 p3 q3 r3 s3 p4 q4 r4 s4 p5 q5 r5 s5 p6 q6 r6 s6 : Int} (hB : Below u.heap.size u u1) (l0 : n0 ≤ m) (l1 : n1 ≤ m) (l2 : n2 ≤ m) (l3 : n3 ≤ m) (l4 : n4 ≤ m) (l5 : n5 ≤ m) (l6 : n6 ≤ m) (h : K4 u n0 p0 q0 r0 s0 ∧ K4 u n1 p1 q1 r1 s1 ∧ K4 u n2 p2 q2 r2 s2 ∧ K4 u n3 p3 q3 r3 s3 ∧ K4 u n4 p4 q4 r4 s4 ∧ K4 u n5 p5 q5 r5 s5 ∧ K4 u n6 p6 q6 r6 s6 ∧ m < u.heap.size) : K4 u1 n0 p0 q0 r0 s0 ∧ K4 u1 n1 p1 q1 r1 s1 ∧ K4 u1 n2 p2 q2 r2 s2 ∧ K4 u1 n3 p3 q3 r3 s3 ∧ K4 u1 n4 p4 q4 r4 s4 ∧ K4 u1 n5 p5 q5 r5 s5 ∧ K4 u1 n6 p6 q6 r6 s6 ∧ m < u1.heap.size := by
  obtain ⟨h0, h1, h2, h3, h4, h5, h6, hm⟩ := h
  have hs := hB.size
  exact ⟨h0.below hB (by omega), h1.below hB (by omega), h2.below hB (by omega), h3.below hB (by omega), h4.below hB (by omega), h5.below hB (by omega), h6.below hB (by omega), by omega⟩
end Go.Proofs.Ythncmahhnbpbkaa

/- A region that draws its order, by one condition on which operations have come up, on the temporaries and on the world. -/
namespace Go.Proofs.Ythncmahhnbpbkaa
set_option linter.unusedVariables false
section
variable {P : Program} {ops : Array Oper} {Q : Exit → Act → World → Prop} {md : Region.Mode}
theorem count_set {l : List Bool} {i : Nat} (hi : l[i]? = some false) : (l.set i true).count false + 1 = l.count false := by
  induction l generalizing i with
  | nil => simp at hi
  | cons x r ih =>
    cases i with
    | zero => simp at hi; subst hi; simp
    | succ i => simp at hi; have := ih hi; simp [List.count_cons] at *; omega
/-- Dependencies that bind point back. -/
def backs (md : Region.Mode) (ops : Array Oper) : Bool := (List.range ops.size).all fun i => match ops[i]? with | some o => o.after.all fun e => decide (e.on < i) || !Region.binds md e | none => true
theorem backs_spec (h : backs md ops = true) : ∀ (i : Nat) o, ops[i]? = some o → ∀ e ∈ o.after, Region.binds md e = true → e.on < i := fun i o ho e he hbi => by
  have hi : i < ops.size := (Array.getElem?_eq_some_iff.1 ho).1
  have h1 := List.all_eq_true.1 h i (List.mem_range.2 hi)
  rw [ho] at h1
  simpa [hbi] using Array.all_eq_true_iff_forall_mem.1 h1 e he
theorem wpAny_inv {I : (Nat → Bool) → Act → World → Prop} (hb : backs md ops = true)
    (hs : ∀ f a u i o, I f a u → ops[i]? = some o → f i = false → (∀ e ∈ o.after, Region.binds md e = true → f e.on = true) → wpOp P ops Q i (fun a' u' => I (fun j => if j = i then true else f j) a' u') a u)
    (hd : ∀ f a u, I f a u → (∀ i, i < ops.size → f i = true) → Q .normal a u) :
    ∀ (fuel : Nat) (L : Array Bool) (a : Act) (u : World), L.size = ops.size → L.toList.count false ≤ fuel → I (fun j => L.getD j false) a u → wpAny P md ops Q fuel L a u := by
  have full : ∀ L : Array Bool, L.size = ops.size → Region.ready md ops L = [] → ∀ i, i < ops.size → L.getD i false = true := by
    intro L hL hr i
    induction i using Nat.strongRecOn with
    | _ i ih =>
      intro hi
      have hiL : i < L.size := by omega
      cases hv : L.getD i false with
      | true => rfl
      | false =>
        exfalso
        have hm : i ∈ Region.ready md ops L := mem_ready.2 ⟨by simp [hiL] at hv ⊢; exact hv, ops[i], Array.getElem?_eq_getElem hi, fun e he hbi => ih e.on (backs_spec hb i _ (Array.getElem?_eq_getElem hi) e he hbi) (by have := backs_spec hb i _ (Array.getElem?_eq_getElem hi) e he hbi; omega)⟩
        rw [hr] at hm
        cases hm
  intro fuel
  induction fuel with
  | zero =>
    intro L a u hL hc hI
    have hall : ∀ i, i < ops.size → L.getD i false = true := fun i hi => by
      have hiL : i < L.size := by omega
      cases hv : L.getD i false with
      | true => rfl
      | false =>
        exfalso
        simp [hiL] at hv
        have : 0 < L.toList.count false := List.count_pos_iff.2 (by rw [← hv]; simp)
        omega
    refine ⟨?_, hd _ a u hI hall⟩
    refine List.eq_nil_iff_forall_not_mem.2 fun j hj => ?_
    obtain ⟨hj0, o, ho, _⟩ := mem_ready.1 hj
    have hlt : j < ops.size := (Array.getElem?_eq_some_iff.1 ho).1
    have := hall j hlt
    have hjL : j < L.size := by omega
    simp [hjL] at this hj0
    rw [this] at hj0; cases hj0
  | succ fuel ih =>
    intro L a u hL hc hI
    refine ⟨fun hr => hd _ a u hI (full L hL hr), fun i hi => ?_⟩
    obtain ⟨hi0, o, ho, hall⟩ := mem_ready.1 hi
    have hlt : i < ops.size := (Array.getElem?_eq_some_iff.1 ho).1
    have hiL : i < L.size := by omega
    have hf : L.getD i false = false := by simp [hiL] at hi0 ⊢; exact hi0
    refine wpOp_mono (fun a' u' h => ih _ a' u' (by simpa using hL) ?_ ?_) (hs _ a u i o hI ho hf hall)
    · have hg : L.toList[i]? = some false := by
        simp [hiL] at hf ⊢; exact hf
      have := count_set hg
      rw [Array.toList_setIfInBounds]
      omega
    · refine cast ?_ h
      congr 1
      funext j
      by_cases hji : j = i
      · subst hji; simp [hiL]
      · rw [if_neg hji]; simp only [Array.getD_eq_getD_getElem?]; rw [Array.getElem?_setIfInBounds_ne (by omega)]
/-- A region that draws its order. -/
theorem wp_region_inv {id : Nat} {a : Act} {w : World} (I : (Nat → Bool) → Act → World → Prop) (hm : P.follows .mixedOrders = true) (hb : backs .any ops = true)
    (h0 : I (fun _ => false) a w.drew)
    (hs : ∀ f a u i o, I f a u → ops[i]? = some o → f i = false → (∀ e ∈ o.after, Region.binds .any e = true → f e.on = true) → wpOp P ops Q i (fun a' u' => I (fun j => if j = i then true else f j) a' u') a u)
    (hd : ∀ f a u, I f a u → (∀ i, i < ops.size → f i = true) → Q .normal a u) : (Code.region id ops true).wp P Q a w := by
  refine wp_region_any hm (wpAny_inv hb hs hd _ _ _ _ (by simp) ?_ ?_)
  · refine Nat.le_trans (List.count_le_length) (by simp)
  · refine cast ?_ h0
    congr 1
    funext j
    simp only [Array.getD_eq_getD_getElem?]
    by_cases hj : j < ops.size
    · simp [hj]
    · simp [hj]
end
end Go.Proofs.Ythncmahhnbpbkaa

/- Facts for limb's Divide: the statement that lifts both. -/
namespace Go.Proofs.Ythncmahhnbpbkaa
open Go.RowKit
set_option linter.unusedSimpArgs false
set_option linter.unusedVariables false

theorem size_setCells (b : Nat) : ∀ (vs : List Value) (o : Nat) (w : World), (w.setCells b o vs).heap.size = w.heap.size
  | [], _, _ => rfl
  | v :: r, o, w => by rw [World.setCells, size_setCells b r (o + 1)]; simp
theorem below_setCells {B b : Nat} {a : World} (hb : B ≤ b) : ∀ (vs : List Value) (o : Nat) (w : World), Below B a w → Below B a (w.setCells b o vs)
  | [], _, _, h => h
  | v :: r, o, w, h => by rw [World.setCells]; exact below_setCells hb r (o + 1) _ (h.setCell (by exact hb) v)
variable {N0 N1 N2 N3 : Nat} {w u v : World} {X M cx cw cd : List Int} {up : Int} {f0 f1 f2 f3 f4 f5 f6 f7 f8 f9 f10 : Bool} {t8 t9 t23 t24 t25 t26 t27 t28 t29 : Value}
end Go.Proofs.Ythncmahhnbpbkaa

/- Memory within a region, whatever its order: blocks that are kept, blocks that are written once, blocks that are made and written once. -/
namespace Go.Proofs.Ythncmahhnbpbkaa
open Go.RowKit
set_option linter.unusedVariables false
/-- The values l lie in block b, from its beginning on, and may be written. -/
def CV (w : World) (b : Nat) (l : List Value) : Prop := ∀ j v, l[j]? = some v → w.cell? ⟨b, j, none⟩ = some v ∧ w.frozen? ⟨b, j, none⟩ = false
theorem CV.below {w w' : World} {m n : Nat} {l : List Value} (h : CV w n l) (hb : Below m w w') (hn : n < m) : CV w' n l := fun j x hj => by
  rw [hb.cell (p := ⟨n, j, none⟩) hn, hb.frozen (p := ⟨n, j, none⟩) hn]; exact h j x hj
theorem CV.drew {w : World} {n : Nat} {l : List Value} (h : CV w n l) : CV w.drew n l := h
theorem CV.cells {w : World} {n b : Nat} {l : List Value} (h : CV w n l) (hn : n ≠ b) (o : Nat) (vs : List Value) : CV (w.setCells b o vs) n l := fun j x hj => by
  rw [World.frozen?_setCells, World.cell?_setCells_out b vs o w _ (fun e => absurd e hn)]
  exact h j x hj
theorem CV.there {w : World} {b : Nat} {l : List Value} (h : CV w b l) : w.there b 0 l.length := fun j hj => by
  have := h j _ (List.getElem?_eq_getElem hj)
  rw [Nat.zero_add, this.1]; exact ⟨rfl, this.2⟩
theorem CV.put {w : World} {b : Nat} {l vs : List Value} (h : CV w b l) (hl : vs.length = l.length) : CV (w.setCells b 0 vs) b vs := fun j x hj => by
  have ht := h.there
  have hv : j < vs.length := (List.getElem?_eq_some_iff.1 hj).1
  rw [World.frozen?_setCells]
  have h1 := World.cell?_setCells_in b vs 0 w (fun i hi => (ht i (by omega)).1) j hv
  have h2 := (ht j (by omega)).2
  simp only [Nat.zero_add] at h1 h2
  refine ⟨?_, h2⟩
  rw [h1]
  obtain ⟨_, rfl⟩ := List.getElem?_eq_some_iff.1 hj
  simp
theorem CV.new (w : World) (l : List Value) (t : TypeId) : CV (w.alloc (.cells l.toArray t)) w.heap.size l := fun j x hj => by
  have hf : (w.alloc (.cells l.toArray t)).frozen? ⟨w.heap.size, j, none⟩ = false := by simp [go_sem]
  refine ⟨?_, hf⟩
  rw [cell_of_row _ w.heap.size j _ t (0, 0) (heap_alloc_new _ _)]
  simp [hj]
theorem CV.alloc {w : World} {n : Nat} {l : List Value} (h : CV w n l) (hn : n < w.heap.size) (o : Obj) : CV (w.alloc o) n l :=
  h.below (m := w.heap.size) ((Below.refl _ _).alloc (Nat.le_refl _) o) hn
theorem CV.newAt (w : World) (l : List Value) (t : TypeId) (n : Nat) (hn : n = w.heap.size) : CV (w.alloc (.cells l.toArray t)) n l := by
  subst hn; exact CV.new w l t
theorem CV.range {w : World} {b : Nat} {l : List Value} (h : CV w b l) : w.rangeAt b 0 l := fun j v hj => by
  rw [Nat.zero_add]; exact (h j v hj).1
/-- Blocks that are kept. -/
def KsP (u : World) (base : Nat) : List (Nat × List Value) → Prop
  | [] => True
  | q :: r => (q.1 < base ∧ CV u q.1 q.2) ∧ KsP u base r
theorem KsP.below {u v : World} {base m : Nat} (hb : Below m u v) (hm : base ≤ m) : ∀ {ks : List (Nat × List Value)}, KsP u base ks → KsP v base ks
  | [], _ => trivial
  | q :: r, h => ⟨⟨h.1.1, h.1.2.below hb (by have := h.1.1; omega)⟩, KsP.below hb hm h.2⟩
/-- None of them is b. -/
def AllNe (b : Nat) : List (Nat × List Value) → Prop
  | [] => True
  | q :: r => q.1 ≠ b ∧ AllNe b r
theorem KsP.ne {u : World} {base b : Nat} (hb : base ≤ b) : ∀ {ks : List (Nat × List Value)}, KsP u base ks → AllNe b ks
  | [], _ => trivial
  | q :: r, h => ⟨by have := h.1.1; omega, KsP.ne hb h.2⟩
theorem KsP.cells {u : World} {base b : Nat} (o : Nat) (vs : List Value) : ∀ {ks : List (Nat × List Value)}, KsP u base ks → AllNe b ks → KsP (u.setCells b o vs) base ks
  | [], _, _ => trivial
  | q :: r, h, n => ⟨⟨h.1.1, h.1.2.cells n.1 _ _⟩, KsP.cells o vs h.2 n.2⟩
/-- Blocks that are written once: the block, whether it is written, what lay there, what lies there then. -/
def ExP (u : World) (lo base : Nat) : List (Nat × Bool × List Value × List Value) → Prop
  | [] => True
  | q :: r => (lo ≤ q.1 ∧ q.1 < base ∧ q.2.2.2.length = q.2.2.1.length ∧ CV u q.1 (bif q.2.1 then q.2.2.2 else q.2.2.1)) ∧ ExP u lo base r
theorem ExP.below {u v : World} {lo base m : Nat} (hb : Below m u v) (hm : base ≤ m) : ∀ {ks : List (Nat × Bool × List Value × List Value)}, ExP u lo base ks → ExP v lo base ks
  | [], _ => trivial
  | q :: r, h => ⟨⟨h.1.1, h.1.2.1, h.1.2.2.1, h.1.2.2.2.below hb (by have := h.1.2.1; omega)⟩, ExP.below hb hm h.2⟩
def AllNeX (b : Nat) : List (Nat × Bool × List Value × List Value) → Prop
  | [] => True
  | q :: r => q.1 ≠ b ∧ AllNeX b r
theorem ExP.ne {u : World} {lo base b : Nat} (hb : base ≤ b) : ∀ {ks : List (Nat × Bool × List Value × List Value)}, ExP u lo base ks → AllNeX b ks
  | [], _ => trivial
  | q :: r, h => ⟨by have := h.1.2.1; omega, ExP.ne hb h.2⟩
theorem ExP.cells {u : World} {lo base b : Nat} (o : Nat) (vs : List Value) : ∀ {ks : List (Nat × Bool × List Value × List Value)}, ExP u lo base ks → AllNeX b ks → ExP (u.setCells b o vs) lo base ks
  | [], _, _ => trivial
  | q :: r, h, n => ⟨⟨h.1.1, h.1.2.1, h.1.2.2.1, h.1.2.2.2.cells n.1 _ _⟩, ExP.cells o vs h.2 n.2⟩
theorem ExP.put {u : World} {lo base b : Nat} {f : Bool} {pre post : List Value} {l2 : List (Nat × Bool × List Value × List Value)} :
    ∀ {l1 : List (Nat × Bool × List Value × List Value)}, ExP u lo base (l1 ++ (b, f, pre, post) :: l2) → AllNeX b l1 → AllNeX b l2 → ExP (u.setCells b 0 post) lo base (l1 ++ (b, true, pre, post) :: l2)
  | [], h, _, n => ⟨⟨h.1.1, h.1.2.1, h.1.2.2.1, h.1.2.2.2.put (by cases f <;> simp [h.1.2.2.1])⟩, ExP.cells _ _ h.2 n⟩
  | q :: r, h, n, m => ⟨⟨h.1.1, h.1.2.1, h.1.2.2.1, h.1.2.2.2.cells n.1 _ _⟩, ExP.put (l1 := r) h.2 n.2 m⟩
/-- Blocks that are made and written once: whether made, whether written, the pointer, what lay there first, what lies there then. -/
def NwP (u : World) (base : Nat) : List (Bool × Bool × Value × List Value × List Value) → Prop
  | [] => True
  | q :: r => (q.1 = true → ∃ b, q.2.2.1 = .pointer (some ⟨b, 0, none⟩) ∧ base ≤ b ∧ b < u.heap.size ∧ CV u b (bif q.2.1 then q.2.2.2.2 else q.2.2.2.1)) ∧ NwP u base r
theorem NwP.below {u v : World} {base : Nat} (hb : Below u.heap.size u v) : ∀ {ks : List (Bool × Bool × Value × List Value × List Value)}, NwP u base ks → NwP v base ks
  | [], _ => trivial
  | q :: r, h => ⟨fun e => by
      obtain ⟨b, h1, h2, h3, h4⟩ := h.1 e
      exact ⟨b, h1, h2, by have := hb.size; omega, h4.below hb h3⟩, NwP.below hb h.2⟩
/-- None of them is at p. -/
def NeP (p : Value) : List (Bool × Bool × Value × List Value × List Value) → Prop
  | [] => True
  | q :: r => (q.1 = true → q.2.2.1 ≠ p) ∧ NeP p r
theorem NwP.cells {u : World} {base b : Nat} (o : Nat) (vs : List Value) : ∀ {ks : List (Bool × Bool × Value × List Value × List Value)}, NwP u base ks → NeP (.pointer (some ⟨b, 0, none⟩)) ks → NwP (u.setCells b o vs) base ks
  | [], _, _ => trivial
  | q :: r, h, n => ⟨fun e => by
      obtain ⟨b', h1, h2, h3, h4⟩ := h.1 e
      exact ⟨b', h1, h2, by rw [size_setCells]; exact h3, h4.cells (fun e' => n.1 e (by rw [h1, e'])) _ _⟩, NwP.cells o vs h.2 n.2⟩
theorem NwP.far {u : World} {base : Nat} : ∀ {ks : List (Bool × Bool × Value × List Value × List Value)}, NwP u base ks → NeP (.pointer (some ⟨u.heap.size, 0, none⟩)) ks
  | [], _ => trivial
  | q :: r, h => ⟨fun e e' => by
      obtain ⟨b', h1, h2, h3, h4⟩ := h.1 e
      rw [h1] at e'; injection e' with e'; injection e' with e'; injection e' with e'; omega, NwP.far h.2⟩
theorem NwP.lo {u : World} {base b : Nat} (hb : b < base) : ∀ {ks : List (Bool × Bool × Value × List Value × List Value)}, NwP u base ks → NeP (.pointer (some ⟨b, 0, none⟩)) ks
  | [], _ => trivial
  | q :: r, h => ⟨fun e e' => by
      obtain ⟨b', h1, h2, h3, h4⟩ := h.1 e
      rw [h1] at e'; injection e' with e'; injection e' with e'; injection e' with e'; omega, NwP.lo hb h.2⟩
/-- No two of them are the same. -/
def NdP : List (Bool × Bool × Value × List Value × List Value) → Prop
  | [] => True
  | q :: r => (q.1 = true → NeP q.2.2.1 r) ∧ NdP r
theorem NeP.turn {p v v' : Value} {a a' f f' : Bool} {pre post : List Value} {l2 : List (Bool × Bool × Value × List Value × List Value)} (hv : a' = true → v' ≠ p) :
    ∀ {l1 : List (Bool × Bool × Value × List Value × List Value)}, NeP p (l1 ++ (a, f, v, pre, post) :: l2) → NeP p (l1 ++ (a', f', v', pre, post) :: l2)
  | [], h => ⟨hv, h.2⟩
  | q :: r, h => ⟨h.1, NeP.turn hv (l1 := r) h.2⟩
theorem NeP.at {p v : Value} {f : Bool} {pre post : List Value} {l2 : List (Bool × Bool × Value × List Value × List Value)} :
    ∀ {l1 : List (Bool × Bool × Value × List Value × List Value)}, NeP p (l1 ++ (true, f, v, pre, post) :: l2) → v ≠ p
  | [], h => h.1 rfl
  | q :: r, h => NeP.at (l1 := r) h.2
theorem NwP.put {u : World} {base b : Nat} {f : Bool} {pre post : List Value} {l2 : List (Bool × Bool × Value × List Value × List Value)} (hl : post.length = pre.length) :
    ∀ {l1 : List (Bool × Bool × Value × List Value × List Value)}, NwP u base (l1 ++ (true, f, .pointer (some ⟨b, 0, none⟩), pre, post) :: l2) → NdP (l1 ++ (true, f, .pointer (some ⟨b, 0, none⟩), pre, post) :: l2) →
      NwP (u.setCells b 0 post) base (l1 ++ (true, true, .pointer (some ⟨b, 0, none⟩), pre, post) :: l2)
  | [], h, n => ⟨fun e => by
      obtain ⟨b', h1, h2, h3, h4⟩ := h.1 rfl
      injection h1 with h1; injection h1 with h1; injection h1 with h1; subst h1
      exact ⟨b, rfl, h2, by rw [size_setCells]; exact h3, h4.put (by cases f <;> simp [hl])⟩, NwP.cells _ _ h.2 (n.1 rfl)⟩
  | q :: r, h, n => ⟨fun e => by
      obtain ⟨b', h1, h2, h3, h4⟩ := h.1 e
      have hne := NeP.at (n.1 e)
      exact ⟨b', h1, h2, by rw [size_setCells]; exact h3, h4.cells (fun e' => hne (by rw [h1, e'])) _ _⟩, NwP.put hl (l1 := r) h.2 n.2⟩
theorem NdP.put {v : Value} {f f' : Bool} {pre post : List Value} {l2 : List (Bool × Bool × Value × List Value × List Value)} :
    ∀ {l1 : List (Bool × Bool × Value × List Value × List Value)}, NdP (l1 ++ (true, f, v, pre, post) :: l2) → NdP (l1 ++ (true, f', v, pre, post) :: l2)
  | [], h => ⟨h.1, h.2⟩
  | q :: r, h => ⟨fun e => NeP.turn (fun _ => NeP.at (h.1 e)) (h.1 e), NdP.put (l1 := r) h.2⟩
theorem NwP.new {u : World} {base : Nat} {v : Value} {f : Bool} {pre post : List Value} {t : TypeId} (hb : base ≤ u.heap.size) {l2 : List (Bool × Bool × Value × List Value × List Value)} :
    ∀ {l1 : List (Bool × Bool × Value × List Value × List Value)}, NwP (u.alloc (.cells pre.toArray t)) base (l1 ++ (false, false, v, pre, post) :: l2) → NwP (u.alloc (.cells pre.toArray t)) base (l1 ++ (true, false, .pointer (some ⟨u.heap.size, 0, none⟩), pre, post) :: l2)
  | [], h => ⟨fun _ => ⟨_, rfl, hb, by simp, CV.new u pre t⟩, h.2⟩
  | q :: r, h => ⟨h.1, NwP.new hb (f := f) (l1 := r) h.2⟩
theorem NdP.new {u : World} {base : Nat} {v : Value} {pre post : List Value} {l2 : List (Bool × Bool × Value × List Value × List Value)} :
    ∀ {l1 : List (Bool × Bool × Value × List Value × List Value)}, NwP u base (l1 ++ (false, false, v, pre, post) :: l2) → NdP (l1 ++ (false, false, v, pre, post) :: l2) → NdP (l1 ++ (true, false, .pointer (some ⟨u.heap.size, 0, none⟩), pre, post) :: l2)
  | [], w, h => ⟨fun _ => NwP.far w.2, h.2⟩
  | q :: r, w, h => ⟨fun e => NeP.turn (fun _ e' => by
      obtain ⟨b', h1, h2, h3, h4⟩ := w.1 e
      rw [h1] at e'; injection e' with e'; injection e' with e'; injection e' with e'; omega) (h.1 e), NdP.new (l1 := r) w.2 h.2⟩
structure MR (l0 : Nat) (w : World) (base : Nat) (lk : List (Nat × List Value)) (lx : List (Nat × Bool × List Value × List Value)) (ln : List (Bool × Bool × Value × List Value × List Value)) (u : World) : Prop where
  bel : Below l0 w u
  lo : l0 ≤ base
  sz : base ≤ u.heap.size
  ks : KsP u base lk
  ex : ExP u l0 base lx
  nw : NwP u base ln
  nd : NdP ln
variable {lo : Nat} {w u v : World} {base : Nat} {ks : List (Nat × List Value)} {ex : List (Nat × Bool × List Value × List Value)} {nw : List (Bool × Bool × Value × List Value × List Value)}
theorem MR.call (h : MR lo w base ks ex nw u) (hB : Below u.heap.size u v) : MR lo w base ks ex nw v :=
  { bel := h.bel.trans (hB.mono (Nat.le_trans h.lo h.sz)), lo := h.lo, sz := Nat.le_trans h.sz hB.size, ks := h.ks.below hB h.sz, ex := h.ex.below hB h.sz, nw := h.nw.below hB, nd := h.nd }
theorem MR.new {t : TypeId} {p : Value} {pre post : List Value} {l1 l2 : List (Bool × Bool × Value × List Value × List Value)} (h : MR lo w base ks ex (l1 ++ (false, false, p, pre, post) :: l2) u) :
    MR lo w base ks ex (l1 ++ (true, false, .pointer (some ⟨u.heap.size, 0, none⟩), pre, post) :: l2) (u.alloc (.cells pre.toArray t)) :=
  have k := h.call (balloc (bself u) (.cells pre.toArray t))
  { k with nw := NwP.new (f := false) h.sz k.nw, nd := NdP.new h.nw h.nd }
theorem MR.putN {b : Nat} {f : Bool} {pre post : List Value} {l1 l2 : List (Bool × Bool × Value × List Value × List Value)} (h : MR lo w base ks ex (l1 ++ (true, f, .pointer (some ⟨b, 0, none⟩), pre, post) :: l2) u) (hb : base ≤ b) (hl : post.length = pre.length) :
    MR lo w base ks ex (l1 ++ (true, true, .pointer (some ⟨b, 0, none⟩), pre, post) :: l2) (u.setCells b 0 post) :=
  { bel := below_setCells (Nat.le_trans h.lo hb) _ _ _ h.bel, lo := h.lo, sz := by rw [size_setCells]; exact h.sz, ks := h.ks.cells _ _ (h.ks.ne hb), ex := h.ex.cells _ _ (h.ex.ne hb), nw := NwP.put hl h.nw h.nd, nd := NdP.put h.nd }
theorem ExP.at {lo' b : Nat} {f : Bool} {pre post : List Value} {l2 : List (Nat × Bool × List Value × List Value)} :
    ∀ {l1 : List (Nat × Bool × List Value × List Value)}, ExP u lo' base (l1 ++ (b, f, pre, post) :: l2) → lo' ≤ b ∧ b < base
  | [], h => ⟨h.1.1, h.1.2.1⟩
  | q :: r, h => ExP.at (l1 := r) h.2
theorem MR.putX {b : Nat} {f : Bool} {pre post : List Value} {l1 l2 : List (Nat × Bool × List Value × List Value)} (h : MR lo w base ks (l1 ++ (b, f, pre, post) :: l2) nw u) (n1 : AllNe b ks) (n2 : AllNeX b l1) (n3 : AllNeX b l2) :
    MR lo w base ks (l1 ++ (b, true, pre, post) :: l2) nw (u.setCells b 0 post) :=
  { bel := below_setCells (ExP.at h.ex).1 _ _ _ h.bel, lo := h.lo, sz := by rw [size_setCells]; exact h.sz, ks := h.ks.cells _ _ n1, ex := ExP.put h.ex n2 n3, nw := h.nw.cells _ _ (h.nw.lo (ExP.at h.ex).2), nd := h.nd }
/-- A world in which one block has turned. -/
structure Chg (b : Nat) (u v : World) : Prop where
  size : v.heap.size = u.heap.size
  oth : ∀ n l, n ≠ b → CV u n l → CV v n l
theorem Chg.cell (u : World) (b k : Nat) (x : Value) : Chg b u (u.setCell ⟨b, k, none⟩ x) where
  size := by simp
  oth := fun n l hn h j y hj => by
    have hb : (u.setCell ⟨b, k, none⟩ x).heap[n]? = u.heap[n]? := Below.heap_setCell u ⟨b, k, none⟩ x n hn
    have c : (u.setCell ⟨b, k, none⟩ x).cell? ⟨n, j, none⟩ = u.cell? ⟨n, j, none⟩ := World.cell?_of_block (w := u) hb
    have f : (u.setCell ⟨b, k, none⟩ x).frozen? ⟨n, j, none⟩ = u.frozen? ⟨n, j, none⟩ := World.frozen?_of_block (w := u) hb
    rw [c, f]; exact h j y hj
theorem CV.setC {w : World} {n : Nat} {l : List Value} (h : CV w n l) (k : Nat) (hk : k < l.length) (v : Value) : CV (w.setCell ⟨n, k, none⟩ v) n (l.set k v) := fun j x hj => by
  rw [World.frozen?_setCell]
  obtain ⟨hc, hf⟩ := h k l[k] (List.getElem?_eq_getElem hk)
  by_cases e : j = k
  · subst e
    rw [List.getElem?_set_self (by omega)] at hj
    cases hj
    refine ⟨?_, hf⟩
    simp [go_sem, hc]
  · rw [List.getElem?_set_ne (by omega)] at hj
    obtain ⟨hc', hf'⟩ := h j x hj
    refine ⟨?_, hf'⟩
    rw [World.cell?_setCell_other _ _ _ _ (by simp <;> omega)]
    exact hc'
theorem KsP.chg {b : Nat} (c : Chg b u v) : ∀ {ks : List (Nat × List Value)}, KsP u base ks → AllNe b ks → KsP v base ks
  | [], _, _ => trivial
  | q :: r, h, n => ⟨⟨h.1.1, c.oth _ _ n.1 h.1.2⟩, KsP.chg c h.2 n.2⟩
theorem ExP.chg {lo' b : Nat} (c : Chg b u v) : ∀ {ks : List (Nat × Bool × List Value × List Value)}, ExP u lo' base ks → AllNeX b ks → ExP v lo' base ks
  | [], _, _ => trivial
  | q :: r, h, n => ⟨⟨h.1.1, h.1.2.1, h.1.2.2.1, c.oth _ _ n.1 h.1.2.2.2⟩, ExP.chg c h.2 n.2⟩
theorem NwP.chg {b : Nat} (c : Chg b u v) : ∀ {ks : List (Bool × Bool × Value × List Value × List Value)}, NwP u base ks → NeP (.pointer (some ⟨b, 0, none⟩)) ks → NwP v base ks
  | [], _, _ => trivial
  | q :: r, h, n => ⟨fun e => by
      obtain ⟨b', h1, h2, h3, h4⟩ := h.1 e
      exact ⟨b', h1, h2, by rw [c.size]; exact h3, c.oth _ _ (fun e' => n.1 e (by rw [h1, e'])) h4⟩, NwP.chg c h.2 n.2⟩
theorem ExP.putG {lo' b : Nat} {f : Bool} {pre post : List Value} {l2 : List (Nat × Bool × List Value × List Value)} (c : Chg b u v) (hp : CV v b post) :
    ∀ {l1 : List (Nat × Bool × List Value × List Value)}, ExP u lo' base (l1 ++ (b, f, pre, post) :: l2) → AllNeX b l1 → AllNeX b l2 → ExP v lo' base (l1 ++ (b, true, pre, post) :: l2)
  | [], h, _, n => ⟨⟨h.1.1, h.1.2.1, h.1.2.2.1, hp⟩, ExP.chg c h.2 n⟩
  | q :: r, h, n, m => ⟨⟨h.1.1, h.1.2.1, h.1.2.2.1, c.oth _ _ n.1 h.1.2.2.2⟩, ExP.putG c hp (l1 := r) h.2 n.2 m⟩
theorem MR.putC {b k : Nat} {x : Value} {pre post : List Value} {l1 l2 : List (Nat × Bool × List Value × List Value)} (h : MR lo w base ks (l1 ++ (b, false, pre, post) :: l2) nw u) (hk : k < pre.length) (hpost : pre.set k x = post) (hc : CV u b pre) (n1 : AllNe b ks) (n2 : AllNeX b l1) (n3 : AllNeX b l2) :
    MR lo w base ks (l1 ++ (b, true, pre, post) :: l2) nw (u.setCell ⟨b, k, none⟩ x) :=
  have c := Chg.cell u b k x
  { bel := h.bel.setCell (ExP.at h.ex).1 _, lo := h.lo, sz := by rw [c.size]; exact h.sz, ks := h.ks.chg c n1, ex := ExP.putG c (by rw [← hpost]; exact hc.setC k hk x) h.ex n2 n3, nw := h.nw.chg c (h.nw.lo (ExP.at h.ex).2), nd := h.nd }
theorem KsP.up {b c : Nat} (hb : b ≤ c) : ∀ {ks : List (Nat × List Value)}, KsP u b ks → KsP u c ks
  | [], _ => trivial
  | q :: r, h => ⟨⟨Nat.lt_of_lt_of_le h.1.1 hb, h.1.2⟩, KsP.up hb h.2⟩
theorem ExP.up {lo' b c : Nat} (hb : b ≤ c) : ∀ {ks : List (Nat × Bool × List Value × List Value)}, ExP u lo' b ks → ExP u lo' c ks
  | [], _ => trivial
  | q :: r, h => ⟨⟨h.1.1, Nat.lt_of_lt_of_le h.1.2.1 hb, h.1.2.2⟩, ExP.up hb h.2⟩
theorem ExP.len {lo' b : Nat} {f : Bool} {pre post : List Value} {l2 : List (Nat × Bool × List Value × List Value)} :
    ∀ {l1 : List (Nat × Bool × List Value × List Value)}, ExP u lo' base (l1 ++ (b, f, pre, post) :: l2) → post.length = pre.length
  | [], h => h.1.2.2.1
  | q :: r, h => ExP.len (l1 := r) h.2
theorem ExP.joins {lo' : Nat} {q : Nat × Bool × List Value × List Value} {l2 : List (Nat × Bool × List Value × List Value)} : ∀ {l1 : List (Nat × Bool × List Value × List Value)}, ExP v lo' base l1 → (lo' ≤ q.1 ∧ q.1 < base ∧ q.2.2.2.length = q.2.2.1.length ∧ CV v q.1 (bif q.2.1 then q.2.2.2 else q.2.2.1)) → ExP v lo' base l2 → ExP v lo' base (l1 ++ q :: l2)
  | [], _, hq, h2 => ⟨hq, h2⟩
  | p :: r, h, hq, h2 => ⟨h.1, ExP.joins (l1 := r) h.2 hq h2⟩
/-- A call that writes one of the blocks, and nothing below it but that. -/
theorem MR.callX {b : Nat} {pre post : List Value} {l1 l2 : List (Nat × Bool × List Value × List Value)} (h : MR lo w base ks (l1 ++ (b, false, pre, post) :: l2) [] u) (hB : Below b u v) (hp : CV v b post) (n1 : KsP u b ks) (n2 : ExP u lo b l1) (n3 : ExP u lo b l2) :
    MR lo w base ks (l1 ++ (b, true, pre, post) :: l2) [] v where
  bel := h.bel.trans (hB.mono (ExP.at h.ex).1)
  lo := h.lo
  sz := Nat.le_trans h.sz hB.size
  ks := (n1.below hB (Nat.le_refl _)).up (Nat.le_of_lt (ExP.at h.ex).2)
  ex := ExP.joins ((n2.below hB (Nat.le_refl _)).up (Nat.le_of_lt (ExP.at h.ex).2)) ⟨(ExP.at h.ex).1, (ExP.at h.ex).2, ExP.len h.ex, hp⟩ ((n3.below hB (Nat.le_refl _)).up (Nat.le_of_lt (ExP.at h.ex).2))
  nw := trivial
  nd := trivial
theorem split_at {α : Type} {x : α} : ∀ {l : List α} {n : Nat}, l[n]? = some x → ∃ l1 l2, l = l1 ++ x :: l2 ∧ (∀ y, l.set n y = l1 ++ y :: l2) ∧ l1 = l.take n ∧ l2 = l.drop (n + 1)
  | [], n, h => by simp at h
  | a :: r, 0, h => by simp at h; subst h; exact ⟨[], r, rfl, fun _ => rfl, rfl, rfl⟩
  | a :: r, n + 1, h => by
    simp at h
    obtain ⟨l1, l2, h1, h2, h3, h4⟩ := split_at h
    exact ⟨a :: l1, l2, by rw [List.cons_append, ← h1], fun y => by rw [List.set_cons_succ, h2, List.cons_append], by rw [h3]; rfl, by rw [h4]; rfl⟩
/-- A new block, the n-th. -/
theorem MR.newF {t : TypeId} {fa fs : Bool} {p : Value} {pre post : List Value} (n : Nat) (h : MR lo w base ks ex nw u) (hn : nw[n]? = some (fa, fs, p, pre, post)) (ha : fa = false) (hs : fs = false) :
    MR lo w base ks ex (nw.set n (true, fs, .pointer (some ⟨u.heap.size, 0, none⟩), pre, post)) (u.alloc (.cells pre.toArray t)) := by
  subst ha hs
  obtain ⟨l1, l2, h1, h2, _, _⟩ := split_at hn
  rw [h2]
  rw [h1] at h
  exact h.new
/-- The n-th new block is written. -/
theorem MR.putF {fa fs : Bool} {p : Value} {b : Nat} {pre post : List Value} (n : Nat) (h : MR lo w base ks ex nw u) (hn : nw[n]? = some (fa, fs, p, pre, post)) (ha : fa = true) (hp : p = .pointer (some ⟨b, 0, none⟩)) (hb : base ≤ b) (hl : post.length = pre.length) :
    MR lo w base ks ex (nw.set n (fa, true, p, pre, post)) (u.setCells b 0 post) := by
  subst ha hp
  obtain ⟨l1, l2, h1, h2, _, _⟩ := split_at hn
  rw [h2]
  rw [h1] at h
  exact h.putN hb hl
/-- None of the others is b. -/
def AllNeI (b : Nat) : Nat → List (Nat × Bool × List Value × List Value) → Prop
  | _, [] => True
  | 0, _ :: r => AllNeX b r
  | n + 1, q :: r => q.1 ≠ b ∧ AllNeI b n r
theorem AllNeI.parts {b : Nat} : ∀ {n : Nat} {l : List (Nat × Bool × List Value × List Value)}, AllNeI b n l → n < l.length → AllNeX b (l.take n) ∧ AllNeX b (l.drop (n + 1))
  | 0, [], _, h => by simp at h
  | 0, _ :: r, h, _ => ⟨trivial, h⟩
  | n + 1, [], _, h => by simp at h
  | n + 1, q :: r, h, hl => by
    have := AllNeI.parts (n := n) (l := r) h.2 (by simpa using hl)
    exact ⟨⟨h.1, this.1⟩, this.2⟩
/-- The n-th block that is written. -/
theorem MR.putXF {b : Nat} {f : Bool} {pre post : List Value} (n : Nat) (h : MR lo w base ks ex nw u) (hn : ex[n]? = some (b, f, pre, post)) (n1 : AllNe b ks) (n2 : AllNeI b n ex) :
    MR lo w base ks (ex.set n (b, true, pre, post)) nw (u.setCells b 0 post) := by
  have hp := AllNeI.parts n2 (List.getElem?_eq_some_iff.1 hn).1
  obtain ⟨l1, l2, h1, h2, h3, h4⟩ := split_at hn
  rw [h2]
  rw [h1] at h
  rw [← h3, ← h4] at hp
  exact h.putX n1 hp.1 hp.2
theorem MR.putCF {b k : Nat} {f : Bool} {x : Value} {pre post : List Value} (n : Nat) (h : MR lo w base ks ex nw u) (hn : ex[n]? = some (b, f, pre, post)) (hf : f = false) (hk : k < pre.length) (hpost : pre.set k x = post) (hc : CV u b pre) (n1 : AllNe b ks) (n2 : AllNeI b n ex) :
    MR lo w base ks (ex.set n (b, true, pre, post)) nw (u.setCell ⟨b, k, none⟩ x) := by
  subst hf
  have hp := AllNeI.parts n2 (List.getElem?_eq_some_iff.1 hn).1
  obtain ⟨l1, l2, h1, h2, h3, h4⟩ := split_at hn
  rw [h2]
  rw [h1] at h
  rw [← h3, ← h4] at hp
  exact h.putC hk hpost hc n1 hp.1 hp.2
/-- A region in the order of its text. -/
theorem wp_region_seq {P : Program} {ops : Array Oper} {Q : Exit → Act → World → Prop} {id : Nat} {a : Act} {w : World} (I : (Nat → Bool) → Act → World → Prop) (hb : backs .any ops = true)
    (h0 : I (fun _ => false) a w)
    (hs : ∀ f a u i o, I f a u → ops[i]? = some o → f i = false → (∀ e ∈ o.after, Region.binds .any e = true → f e.on = true) → wpOp P ops Q i (fun a' u' => I (fun j => if j = i then true else f j) a' u') a u)
    (hd : ∀ f a u, I f a u → (∀ i, i < ops.size → f i = true) → Q .normal a u) : (Code.region id ops false).wp P Q a w := by
  refine wp_region ?_
  have key : ∀ (n k : Nat) (a : Act) (u : World), k + n = ops.size → I (fun j => decide (j < k)) a u → wpOps P ops Q (List.range' k n) a u := by
    intro n
    induction n with
    | zero => intro k a u hk hI; exact hd _ a u hI (fun i hi => by simp; omega)
    | succ n ih =>
      intro k a u hk hI
      rw [List.range'_succ, wpOps_cons]
      have hlt : k < ops.size := by omega
      refine wpOp_mono (fun a' u' h => ih (k + 1) a' u' (by omega) ?_) (hs _ a u k ops[k] hI (Array.getElem?_eq_getElem hlt) (by simp) (fun e he hbi => by
        have := backs_spec hb k _ (Array.getElem?_eq_getElem hlt) e he hbi
        simp; omega))
      refine cast ?_ h
      congr 1
      funext j
      by_cases hji : j = k
      · subst hji; simp
      · rw [if_neg hji]; simp <;> omega
  have := key ops.size 0 a w (by omega) (cast (by congr 1) h0)
  rwa [← List.range_eq_range'] at this
end Go.Proofs.Ythncmahhnbpbkaa
/- A region, whatever its order: one condition on which operations have come up, on the slots that they write, and on memory. -/
namespace Go.Proofs.Ythncmahhnbpbkaa
open Go.RowKit
set_option linter.unusedVariables false
/-- A frame in which the slots S hold what t says. -/
def ovr (fr : List Value) : List Nat → (Nat → Value) → List Value
  | [], _ => fr
  | s :: S, t => ovr (fr.set s (t s)) S t
theorem set_same {fr : List Value} {s : Nat} : fr.set s (fr.getD s undef) = fr := by
  induction fr generalizing s with
  | nil => rfl
  | cons x r ih =>
    cases s with
    | zero => rfl
    | succ s => simp only [List.set_cons_succ]; congr 1; simpa using ih (s := s)
theorem ovr_same (fr : List Value) : ∀ S : List Nat, ovr fr S (fun s => fr.getD s undef) = fr
  | [] => rfl
  | s :: S => by rw [ovr, set_same]; exact ovr_same fr S
def updF (f : Nat → Bool) (i : Nat) : Nat → Bool := fun j => if j = i then true else f j
def updT (t : Nat → Value) (d : Nat) (v : Value) : Nat → Value := fun s => if s = d then v else t s
theorem ovr_len (t : Nat → Value) : ∀ (S : List Nat) (fr : List Value), (ovr fr S t).length = fr.length
  | [], _ => rfl
  | s :: S, fr => by rw [ovr, ovr_len t S]; simp
theorem ovr_comm (t : Nat → Value) (d : Nat) (v : Value) : ∀ (S : List Nat) (fr : List Value), d ∉ S → (ovr fr S t).set d v = ovr (fr.set d v) S t
  | [], _, _ => rfl
  | s :: S, fr, h => by
    simp only [List.mem_cons, not_or] at h
    rw [ovr, ovr, ovr_comm t d v S _ h.2, List.set_comm _ _ (fun e => h.1 e.symm)]
theorem ovr_eq (t : Nat → Value) (d : Nat) (v : Value) : ∀ (S : List Nat) (fr : List Value), d ∉ S → ovr fr S (updT t d v) = ovr fr S t
  | [], _, _ => rfl
  | s :: S, fr, h => by
    simp only [List.mem_cons, not_or] at h
    rw [ovr, ovr, ovr_eq t d v S _ h.2]
    simp only [updT, if_neg (fun e => h.1 (Eq.symm e))]
theorem ovr_put (t : Nat → Value) (d : Nat) (v : Value) : ∀ (S : List Nat) (fr : List Value), S.Nodup → d ∈ S → (ovr fr S t).set d v = ovr fr S (updT t d v)
  | [], _, _, h => by cases h
  | s :: S, fr, n, h => by
    have n' := List.nodup_cons.1 n
    by_cases e : d = s
    · subst e
      rw [ovr, ovr, ovr_comm _ _ _ _ _ n'.1, ovr_eq _ _ _ _ _ n'.1, List.set_set]
      simp only [updT, if_pos]
    · have h' : d ∈ S := by simpa [e] using h
      rw [ovr, ovr, ovr_put t d v S _ n'.2 h']
      simp only [updT, if_neg (fun x => e (Eq.symm x))]
theorem ovr_out (t : Nat → Value) (d : Nat) : ∀ (S : List Nat) (fr : List Value), d ∉ S → (ovr fr S t)[d]? = fr[d]?
  | [], _, _ => rfl
  | s :: S, fr, h => by
    simp only [List.mem_cons, not_or] at h
    rw [ovr, ovr_out t d S _ h.2, List.getElem?_set_ne (fun e => h.1 e.symm)]
theorem ovr_in (t : Nat → Value) (d : Nat) : ∀ (S : List Nat) (fr : List Value), S.Nodup → d ∈ S → d < fr.length → (ovr fr S t)[d]? = some (t d)
  | [], _, _, h, _ => by cases h
  | s :: S, fr, n, h, l => by
    have n' := List.nodup_cons.1 n
    by_cases e : d = s
    · subst e
      rw [ovr, ovr_out _ _ _ _ n'.1, List.getElem?_set_self l]
    · have h' : d ∈ S := by simpa [e] using h
      rw [ovr, ovr_in t d S _ n'.2 h' (by simpa using l)]
/-- A frame in which the slots S hold what t says, and the others what fr holds. -/
def Fr (fr : List Value) (S : List Nat) (a : Act) (t : Nat → Value) : Prop := a = ⟨(ovr fr S t).toArray, []⟩
theorem Fr.ev {fr : List Value} {S : List Nat} {a : Act} {t : Nat → Value} {N : Nat} (h : Fr fr S a t) (n : S.Nodup) (hl : fr.length = N) (s : Nat) (hs : s ∈ S) (hN : s < N) : a.eval (.tmp s) = t s := by
  rw [h]
  show (ovr fr S t).toArray.getD s undef = _
  have := ovr_in t s S fr n hs (by omega)
  simp [Array.getD_eq_getD_getElem?, this]
theorem Fr.evs {fr : List Value} {S : List Nat} {a : Act} {t : Nat → Value} {N : Nat} (h : Fr fr S a t) (n : S.Nodup) (hl : fr.length = N) (hN : ∀ s ∈ S, s < N) (s : Nat) (hs : s ∈ S) : a.eval (.tmp s) = t s := h.ev n hl s hs (hN s hs)
theorem Fr.out {fr : List Value} {S : List Nat} {a : Act} {t : Nat → Value} (h : Fr fr S a t) (s : Nat) (hs : s ∉ S) : a.eval (.tmp s) = fr.getD s undef := by
  rw [h]
  show (ovr fr S t).toArray.getD s undef = _
  have := ovr_out t s S fr hs
  simp [Array.getD_eq_getD_getElem?, this]
theorem Fr.put {fr : List Value} {S : List Nat} {a : Act} {t : Nat → Value} (h : Fr fr S a t) (n : S.Nodup) {d : Nat} (hd : d ∈ S) (v : Value) : Fr fr S (a.put (some d) v) (updT t d v) := by
  rw [h]
  show Act.mk ((ovr fr S t).toArray.setIfInBounds d v) [] = _
  rw [List.setIfInBounds_toArray, ovr_put _ _ _ _ _ n hd]
section
variable {P : Program} {ops : Array Oper} {Q : Exit → Act → World → Prop} {id : Nat} {w : World} {fr : List Value}
theorem region_drawn (S : List Nat) (I : (Nat → Bool) → (Nat → Value) → World → Prop) (hm : P.follows .mixedOrders = true) (hb : backs .any ops = true)
    (h0 : I (fun _ => false) (fun s => fr.getD s undef) w.drew)
    (hs : ∀ f t u i o a, Fr fr S a t → I f t u → ops[i]? = some o → f i = false → (∀ e ∈ o.after, Region.binds .any e = true → f e.on = true) → wpOp P ops Q i (fun a' u' => ∃ t', Fr fr S a' t' ∧ I (updF f i) t' u') a u)
    (hd : ∀ f t u, I f t u → (∀ i, i < ops.size → f i = true) → Q .normal ⟨(ovr fr S t).toArray, []⟩ u) : (Code.region id ops true).wp P Q ⟨fr.toArray, []⟩ w := by
  refine wp_region_inv (fun f a u => ∃ t, Fr fr S a t ∧ I f t u) hm hb ⟨_, by unfold Fr; rw [ovr_same], h0⟩ ?_ ?_
  · rintro f a u i o ⟨t, hF, hI⟩ ho hf hdep
    exact hs f t u i o a hF hI ho hf hdep
  · rintro f a u ⟨t, rfl, hI⟩ hall
    exact hd f t u hI hall
theorem region_plain (S : List Nat) (I : (Nat → Bool) → (Nat → Value) → World → Prop) (hb : backs .any ops = true)
    (h0 : I (fun _ => false) (fun s => fr.getD s undef) w)
    (hs : ∀ f t u i o a, Fr fr S a t → I f t u → ops[i]? = some o → f i = false → (∀ e ∈ o.after, Region.binds .any e = true → f e.on = true) → wpOp P ops Q i (fun a' u' => ∃ t', Fr fr S a' t' ∧ I (updF f i) t' u') a u)
    (hd : ∀ f t u, I f t u → (∀ i, i < ops.size → f i = true) → Q .normal ⟨(ovr fr S t).toArray, []⟩ u) : (Code.region id ops false).wp P Q ⟨fr.toArray, []⟩ w := by
  refine wp_region_seq (fun f a u => ∃ t, Fr fr S a t ∧ I f t u) hb ⟨_, by unfold Fr; rw [ovr_same], h0⟩ ?_ ?_
  · rintro f a u i o ⟨t, hF, hI⟩ ho hf hdep
    exact hs f t u i o a hF hI ho hf hdep
  · rintro f a u ⟨t, rfl, hI⟩ hall
    exact hd f t u hI hall
end
theorem op_plain {P : Program} {ops : Array Oper} {Q : Exit → Act → World → Prop} {i : Nat} {o : Oper} {K : Act → World → Prop} {a : Act} {w : World} (ho : ops[i]? = some o) (hg : o.guard = none) (h : ∀ K' : Act → World → Prop, (∀ a w, K a w → K' a w) → Oper.wp P o a w K' Q) : wpOp P ops Q i K a w :=
  wpOp_step ho fun K' hK => by rw [if_pos (by unfold Region.wanted; rw [hg])]; exact h K' hK
/-- What the slots hold of the operations that have come up: the operation, its slot, its value. -/
def Gs (f : Nat → Bool) (t : Nat → Value) : List (Nat × Nat × Value) → Prop
  | [] => True
  | q :: r => (f q.1 = true → t q.2.1 = q.2.2) ∧ Gs f t r
theorem Gs.none (t : Nat → Value) : ∀ l : List (Nat × Nat × Value), Gs (fun _ => false) t l
  | [] => trivial
  | q :: r => ⟨fun e => (by cases e), Gs.none t r⟩
/-- Each operation has a slot of its own. -/
def owns (i d : Nat) : List (Nat × Nat × Value) → Bool
  | [] => true
  | q :: r => (decide (q.1 ≠ i) && decide (q.2.1 ≠ d)) && owns i d r
theorem Gs.other {f : Nat → Bool} {t : Nat → Value} {i d : Nat} {v : Value} : ∀ {l : List (Nat × Nat × Value)}, owns i d l = true → Gs f t l → Gs (updF f i) (updT t d v) l
  | [], _, _ => trivial
  | q :: r, ho, h => by
    simp only [owns, Bool.and_eq_true, decide_eq_true_eq] at ho
    refine ⟨fun e => ?_, Gs.other ho.2 h.2⟩
    simp only [updF, if_neg ho.1.1] at e
    simp only [updT, if_neg ho.1.2]
    exact h.1 e
theorem Gs.step {f : Nat → Bool} {t : Nat → Value} {i d : Nat} {v : Value} {l2 : List (Nat × Nat × Value)} : ∀ {l1 : List (Nat × Nat × Value)}, Gs f t (l1 ++ (i, d, v) :: l2) → owns i d l1 = true → owns i d l2 = true → Gs (updF f i) (updT t d v) (l1 ++ (i, d, v) :: l2)
  | [], h, _, o2 => ⟨fun _ => by simp [updT], Gs.other o2 h.2⟩
  | q :: r, h, o1, o2 => by
    simp only [owns, Bool.and_eq_true, decide_eq_true_eq] at o1
    refine ⟨fun e => ?_, Gs.step (l1 := r) h.2 o1.2 o2⟩
    simp only [updF, if_neg o1.1.1] at e
    simp only [updT, if_neg o1.1.2]
    exact h.1 e
/-- The value of operation i. -/
def pickV (i : Nat) : List (Nat × Nat × Value) → Option Value
  | [] => none
  | q :: r => if q.1 = i then some q.2.2 else pickV i r
def ownsA (i d : Nat) : List (Nat × Nat × Value) → Bool
  | [] => false
  | q :: r => if q.1 = i then decide (q.2.1 = d) && owns i d r else decide (q.2.1 ≠ d) && ownsA i d r
theorem Gs.stepA {f : Nat → Bool} {t : Nat → Value} {i d : Nat} {v : Value} : ∀ {l : List (Nat × Nat × Value)}, Gs f t l → ownsA i d l = true → pickV i l = some v → Gs (updF f i) (updT t d v) l
  | [], _, o, _ => by cases o
  | q :: r, h, o, hv => by
    by_cases hq : q.1 = i
    · simp only [ownsA, if_pos hq, Bool.and_eq_true, decide_eq_true_eq] at o
      simp only [pickV, if_pos hq, Option.some.injEq] at hv
      refine ⟨fun _ => ?_, Gs.other o.2 h.2⟩
      simp only [updT, if_pos o.1]; exact hv.symm
    · simp only [ownsA, if_neg hq, Bool.and_eq_true, decide_eq_true_eq] at o
      simp only [pickV, if_neg hq] at hv
      refine ⟨fun e => ?_, Gs.stepA h.2 o.2 hv⟩
      simp only [updF, if_neg hq] at e
      simp only [updT, if_neg o.1]
      exact h.1 e
/-- An operation that writes no slot. -/
def lacks (i : Nat) : List (Nat × Nat × Value) → Bool
  | [] => true
  | q :: r => decide (q.1 ≠ i) && lacks i r
theorem Gs.idle {f : Nat → Bool} {t : Nat → Value} {i : Nat} : ∀ {l : List (Nat × Nat × Value)}, lacks i l = true → Gs f t l → Gs (updF f i) t l
  | [], _, _ => trivial
  | q :: r, ho, h => by
    simp only [lacks, Bool.and_eq_true, decide_eq_true_eq] at ho
    refine ⟨fun e => ?_, Gs.idle ho.2 h.2⟩
    simp only [updF, if_neg ho.1] at e
    exact h.1 e
/-- What the slots hold of the operations that have not come up. -/
def Ns (f : Nat → Bool) (t : Nat → Value) : List (Nat × Nat × Value) → Prop
  | [] => True
  | q :: r => (f q.1 = false → t q.2.1 = q.2.2) ∧ Ns f t r
def apart (i d : Nat) : List (Nat × Nat × Value) → Bool
  | [] => true
  | q :: r => (decide (q.1 = i) || decide (q.2.1 ≠ d)) && apart i d r
theorem Ns.step {f : Nat → Bool} {t : Nat → Value} {i d : Nat} {v : Value} : ∀ {l : List (Nat × Nat × Value)}, Ns f t l → apart i d l = true → Ns (updF f i) (updT t d v) l
  | [], _, _ => trivial
  | q :: r, h, o => by
    simp only [apart, Bool.and_eq_true, Bool.or_eq_true, decide_eq_true_eq] at o
    refine ⟨fun e => ?_, Ns.step h.2 o.2⟩
    simp only [updF] at e
    by_cases hq : q.1 = i
    · rw [if_pos hq] at e; cases e
    · rw [if_neg hq] at e
      simp only [updT, if_neg (o.1.resolve_left hq)]
      exact h.1 e
theorem Ns.idle {f : Nat → Bool} {t : Nat → Value} {i : Nat} : ∀ {l : List (Nat × Nat × Value)}, Ns f t l → Ns (updF f i) t l
  | [], _ => trivial
  | q :: r, h => by
    refine ⟨fun e => ?_, Ns.idle h.2⟩
    simp only [updF] at e
    by_cases hq : q.1 = i
    · rw [if_pos hq] at e; cases e
    · rw [if_neg hq] at e; exact h.1 e
/-- A store comes behind the loads. -/
def Os (f : Nat → Bool) : List (Nat × Nat) → Prop
  | [] => True
  | q :: r => (f q.1 = true → f q.2 = true) ∧ Os f r
theorem Os.none : ∀ l : List (Nat × Nat), Os (fun _ => false) l
  | [] => trivial
  | q :: r => ⟨fun e => (by cases e), Os.none r⟩
theorem Os.step {f : Nat → Bool} {i : Nat} : ∀ {l : List (Nat × Nat)}, Os f l → (∀ q ∈ l, q.1 = i → f q.2 = true) → Os (updF f i) l
  | [], _, _ => trivial
  | q :: r, h, k => by
    refine ⟨fun e => ?_, Os.step h.2 (fun q' hq => k q' (List.mem_cons_of_mem _ hq))⟩
    simp only [updF] at e ⊢
    split
    · rfl
    · by_cases h1 : q.1 = i
      · exact k q (List.mem_cons_self) h1
      · rw [if_neg h1] at e; exact h.1 e
theorem Os.not {f : Nat → Bool} {s i : Nat} (h : f s = true → f i = true) (hi : f i = false) : f s = false := by
  cases hg : f s
  · rfl
  · have := h hg; rw [hi] at this; cases this
end Go.Proofs.Ythncmahhnbpbkaa
/- Operations, one by one, as rules. -/
namespace Go.Proofs.Ythncmahhnbpbkaa
open Go.RowKit
set_option linter.unusedVariables false
section
variable {P : Program} {o : Oper} {a : Act} {w : World} {K : Act → World → Prop} {Q : Exit → Act → World → Prop}
theorem wp_val {v : Value} {w' : World} (h : (execOp a.eval o).run P w = .ok (.value v) w') (hk : K (a.put o.dst v) w') : o.wp P a w K Q := by
  unfold Oper.wp; rw [h]; exact hk
theorem wp_move {x : Operand} {v : Value} (ho : o.op = .move x) (hx : a.eval x = v) (hk : K (a.put o.dst v) w) : o.wp P a w K Q :=
  wp_val (by unfold execOp; rw [ho]; show Sem.run P (pure (Next.value (a.eval x))) w = _; rw [hx]; rfl) hk
theorem wp_assign {x : Operand} {v : Value} (ho : o.op = .assign x) (hx : a.eval x = v) (hk : K (a.put o.dst v) w) : o.wp P a w K Q :=
  wp_val (by unfold execOp; rw [ho]; show Sem.run P (pure (Next.value (a.eval x))) w = _; rw [hx]; rfl) hk
theorem wp_extract {x : Operand} {k : Nat} {cs : Array Value} {v : Value} (ho : o.op = .extract x k) (hx : a.eval x = .tuple cs) (hv : cs[k]? = some v) (hk : K (a.put o.dst v) w) : o.wp P a w K Q :=
  wp_val (by
    unfold execOp; rw [ho]
    show Sem.run P (do pure (Next.value (← Instr.extract (a.eval x) k))) w = _
    rw [hx]
    simp only [Instr.extract, hv, Sem.run_bind, Sem.run_pure, Result.andThen_ok]) hk
theorem wp_alloc {T : TypeId} {v : Value} {w' : World} (ho : o.op = .alloc T) (hr : (Instr.alloc T true (.tuple #[])).run P w = .ok v w') (hk : K (a.put o.dst v) w') : o.wp P a w K Q :=
  wp_val (by
    unfold execOp; rw [ho]
    show Sem.run P (do pure (Next.value (← Instr.alloc T true (.tuple #[])))) w = _
    simp only [hr, Sem.run_bind, Sem.run_pure, Result.andThen_ok]) hk
theorem wp_box {T : TypeId} {x : Operand} {v r : Value} {w' : World} (ho : o.op = .box T x) (hx : a.eval x = v) (hr : (Instr.box T v).run P w = .ok r w') (hk : K (a.put o.dst r) w') : o.wp P a w K Q :=
  wp_val (by
    unfold execOp; rw [ho]
    show Sem.run P (do pure (Next.value (← Instr.box T (a.eval x)))) w = _
    simp only [hx, hr, Sem.run_bind, Sem.run_pure, Result.andThen_ok]) hk
theorem wp_enter {f : FuncId} {vs : Array Value} {R : Value} (h : (execOp a.eval o).run P w = .ok (.enter f vs) w)
    (hc : Calls P f vs w fun e w' => e = .returned R ∧ Below w.heap.size w w') (hk : ∀ w', Below w.heap.size w w' → K (a.put o.dst R) w') : o.wp P a w K Q := by
  unfold Oper.wp; rw [h, Oper.upon_enter]
  refine hc.mono ?_
  rintro e w' ⟨rfl, hB⟩
  exact hk w' hB
theorem wp_callF {N : FuncId} {args : List Operand} {tys : Array TypeId} {vs : List Value} {R : Value} (ho : o.op = .call { callee := .value (.func N), args := args.toArray, argTypes := tys }) (hv : args.map a.eval = vs)
    (hr : ∀ (vs : Array Value) (w : World), (callFunc N vs).run P w = .ok (.enter N vs) w)
    (hc : Calls P N vs.toArray w fun e w' => e = .returned R ∧ Below w.heap.size w w') (hk : ∀ w', Below w.heap.size w w' → K (a.put o.dst R) w') : o.wp P a w K Q :=
  wp_enter (by
    unfold execOp; rw [ho]
    show Sem.run P (do let d ← (Deferred.ofValue (.func (.func N) #[] #[]) (args.toArray.map a.eval)); invoke d.target d.args) w = _
    rw [List.map_toArray, hv]
    show Sem.run P (do let d ← (pure { target := .fn (.func N) #[], args := #[] ++ vs.toArray } : Sem Deferred); invoke d.target d.args) w = _
    rw [Sem.run_bind, Sem.run_pure, Result.andThen_ok]
    show Sem.run P (callFunc N (#[] ++ vs.toArray ++ #[])) w = _
    rw [show (#[] ++ vs.toArray ++ #[] : Array Value) = vs.toArray by simp, hr]) hc hk
theorem wp_bin {op : BinOp} {T T2 : TypeId} {x y : Operand} {vx vy v : Value} (ho : o.op = .binOp op T x y T2) (hx : a.eval x = vx) (hy : a.eval y = vy)
    (hr : (do eqGuard op T x y vx vy; binOp op T vx vy : Sem Value).run P w = .ok v w) (hk : K (a.put o.dst v) w) : o.wp P a w K Q :=
  wp_val (by
    unfold execOp; rw [ho]
    show Sem.run P (do pure (Next.value (← (do eqGuard op T x y (a.eval x) (a.eval y); binOp op T (a.eval x) (a.eval y) : Sem Value)))) w = _
    rw [hx, hy, Sem.run_bind, hr, Result.andThen_ok, Sem.run_pure]) hk
theorem wp_un {op : UnOp} {T : TypeId} {x : Operand} {vx v : Value} (ho : o.op = .unOp op T x) (hx : a.eval x = vx)
    (hr : (Op.unary op vx).run P w = .ok v w) (hk : K (a.put o.dst v) w) : o.wp P a w K Q :=
  wp_val (by
    unfold execOp; rw [ho]
    show Sem.run P (do pure (Next.value (← Op.unary op (a.eval x)))) w = _
    rw [hx, Sem.run_bind, hr, Result.andThen_ok, Sem.run_pure]) hk
theorem wp_pick {c x y : Operand} {b : Bool} {v : Value} (ho : o.op = .pick c x y) (hc : a.eval c = .bool b) (hv : (if b then a.eval x else a.eval y) = v) (hk : K (a.put o.dst v) w) : o.wp P a w K Q :=
  wp_val (by
    unfold execOp; rw [ho]
    show Sem.run P (do pure (Next.value (if ← asBool (a.eval c) then a.eval x else a.eval y))) w = _
    rw [hc, ← hv]; rfl) hk
theorem wp_index {T : TypeId} {x ix : Operand} {vx vi v : Value} (ho : o.op = .indexAddr T x ix) (hx : a.eval x = vx) (hi : a.eval ix = vi)
    (hr : (Instr.indexAt T vx vi).run P w = .ok v w) (hk : K (a.put o.dst v) w) : o.wp P a w K Q :=
  wp_val (by
    unfold execOp; rw [ho]
    show Sem.run P (do pure (Next.value (← Instr.indexAt T (a.eval x) (a.eval ix)))) w = _
    rw [hx, hi, Sem.run_bind, hr, Result.andThen_ok, Sem.run_pure]) hk
theorem wp_load {T : TypeId} {x : Operand} {vx v : Value} (ho : o.op = .load T x) (hx : a.eval x = vx)
    (hr : (Instr.loadAt T vx).run P w = .ok v w) (hk : K (a.put o.dst v) w) : o.wp P a w K Q :=
  wp_val (by
    unfold execOp; rw [ho]
    show Sem.run P (do pure (Next.value (← Instr.loadAt T (a.eval x)))) w = _
    rw [hx, Sem.run_bind, hr, Result.andThen_ok, Sem.run_pure]) hk
theorem wp_store {T : TypeId} {x y : Operand} {vx vy : Value} {w' : World} (ho : o.op = .store T x y) (hx : a.eval x = vx) (hy : a.eval y = vy)
    (hr : (Instr.storeAt T vx vy).run P w = .ok () w') (hk : K (a.put o.dst undef) w') : o.wp P a w K Q := by
  unfold Oper.wp execOp; rw [ho]
  show o.upon P a K Q (Sem.run P (do Instr.storeAt T (a.eval x) (a.eval y); pure Next.skip) w)
  rw [hx, hy, Sem.run_bind, hr, Result.andThen_ok, Sem.run_pure]
  exact hk
theorem wp_callE {N : FuncId} {args : List Operand} {tys : Array TypeId} {vs : List Value} {v : Value} (ho : o.op = .call { callee := .value (.func N), args := args.toArray, argTypes := tys }) (hv : args.map a.eval = vs)
    (hr : (callFunc N vs.toArray).run P w = .ok (.value v) w) (hk : K (a.put o.dst v) w) : o.wp P a w K Q :=
  wp_val (by
    unfold execOp; rw [ho]
    show Sem.run P (do let d ← (Deferred.ofValue (.func (.func N) #[] #[]) (args.toArray.map a.eval)); invoke d.target d.args) w = _
    rw [List.map_toArray, hv]
    show Sem.run P (do let d ← (pure { target := .fn (.func N) #[], args := #[] ++ vs.toArray } : Sem Deferred); invoke d.target d.args) w = _
    rw [Sem.run_bind, Sem.run_pure, Result.andThen_ok]
    show Sem.run P (callFunc N (#[] ++ vs.toArray ++ #[])) w = _
    rw [show (#[] ++ vs.toArray ++ #[] : Array Value) = vs.toArray by simp, hr]) hk
theorem wp_callV {N : FuncId} {c : Operand} {args : List Operand} {tys : Array TypeId} {first vs : List Value} {R : Value} (ho : o.op = .call { callee := .value c, args := args.toArray, argTypes := tys }) (hc : a.eval c = .func (.func N) first.toArray #[]) (hv : args.map a.eval = vs)
    (hr : ∀ (vs : Array Value) (w : World), (callFunc N vs).run P w = .ok (.enter N vs) w)
    (hC : Calls P N (first ++ vs).toArray w fun e w' => e = .returned R ∧ Below w.heap.size w w') (hk : ∀ w', Below w.heap.size w w' → K (a.put o.dst R) w') : o.wp P a w K Q :=
  wp_enter (by
    unfold execOp; rw [ho]
    show Sem.run P (do let d ← (Deferred.ofValue (a.eval c) (args.toArray.map a.eval)); invoke d.target d.args) w = _
    rw [List.map_toArray, hv, hc]
    show Sem.run P (do let d ← (pure { target := .fn (.func N) #[], args := first.toArray ++ vs.toArray } : Sem Deferred); invoke d.target d.args) w = _
    rw [Sem.run_bind, Sem.run_pure, Result.andThen_ok]
    show Sem.run P (callFunc N (first.toArray ++ vs.toArray ++ #[])) w = _
    rw [show (first.toArray ++ vs.toArray ++ #[] : Array Value) = (first ++ vs).toArray by simp, hr]) hC hk
theorem wp_callX {N : FuncId} {args : List Operand} {tys : Array TypeId} {vs : List Value} {R : Value} {B : World → Prop} (ho : o.op = .call { callee := .value (.func N), args := args.toArray, argTypes := tys }) (hv : args.map a.eval = vs)
    (hr : ∀ (vs : Array Value) (w : World), (callFunc N vs).run P w = .ok (.enter N vs) w)
    (hc : Calls P N vs.toArray w fun e w' => e = .returned R ∧ B w') (hk : ∀ w', B w' → K (a.put o.dst R) w') : o.wp P a w K Q := by
  have h : (execOp a.eval o).run P w = .ok (.enter N vs.toArray) w := by
    unfold execOp; rw [ho]
    show Sem.run P (do let d ← (Deferred.ofValue (.func (.func N) #[] #[]) (args.toArray.map a.eval)); invoke d.target d.args) w = _
    rw [List.map_toArray, hv]
    show Sem.run P (do let d ← (pure { target := .fn (.func N) #[], args := #[] ++ vs.toArray } : Sem Deferred); invoke d.target d.args) w = _
    rw [Sem.run_bind, Sem.run_pure, Result.andThen_ok]
    show Sem.run P (callFunc N (#[] ++ vs.toArray ++ #[])) w = _
    rw [show (#[] ++ vs.toArray ++ #[] : Array Value) = vs.toArray by simp, hr]
  unfold Oper.wp; rw [h, Oper.upon_enter]
  refine hc.mono ?_
  rintro e w' ⟨rfl, hB⟩
  exact hk w' hB
theorem wp_nil {x : Operand} {p : Addr} (ho : o.op = .nilCheck x) (hx : a.eval x = .pointer (some p)) (hk : K (a.put o.dst (.pointer (some p))) w) : o.wp P a w K Q :=
  wp_val (by unfold execOp; rw [ho]; simp only [hx]; rfl) hk
theorem wp_field {T : TypeId} {x : Operand} {k : Nat} {vx v : Value} (ho : o.op = .fieldAddr T x k) (hx : a.eval x = vx) (hr : (Instr.fieldAt T vx k).run P w = .ok v w) (hk : K (a.put o.dst v) w) : o.wp P a w K Q :=
  wp_val (by
    unfold execOp; rw [ho]
    show Sem.run P (do pure (Next.value (← Instr.fieldAt T (a.eval x) k))) w = _
    rw [hx, Sem.run_bind, hr, Result.andThen_ok, Sem.run_pure]) hk
def allOne : List Value → Bool
  | [] => true
  | v :: r => v.oneCell' && allOne r
theorem all_one : ∀ {l : List Value}, allOne l = true → l.toArray.all (·.oneCell') = true
  | l, h => by
    rw [List.all_toArray]
    induction l with
    | nil => rfl
    | cons v r ih =>
      simp only [allOne, Bool.and_eq_true] at h
      simp [h.1, ih h.2]
end
/-- A step of a region, told to the condition. -/
theorem tell {fr : List Value} {S : List Nat} {a : Act} {t : Nat → Value} {d : Nat} {v : Value} {u : World} {I : (Nat → Value) → World → Prop} {K : Act → World → Prop} (hK : ∀ a u, (∃ t', Fr fr S a t' ∧ I t' u) → K a u) (hF : Fr fr S a t) (n : S.Nodup) (h : d ∈ S) (hI : I (updT t d v) u) : K (a.put (some d) v) u :=
  hK _ _ ⟨_, hF.put n h v, hI⟩
theorem tell0 {fr : List Value} {S : List Nat} {a : Act} {t : Nat → Value} {v : Value} {u : World} {I : (Nat → Value) → World → Prop} {K : Act → World → Prop} (hK : ∀ a u, (∃ t', Fr fr S a t' ∧ I t' u) → K a u) (hF : Fr fr S a t) (hI : I t u) : K (a.put none v) u :=
  hK _ _ ⟨t, hF, hI⟩
end Go.Proofs.Ythncmahhnbpbkaa
namespace Go.Proofs.Ythncmahhnbpbkaa
open Go.RowKit
set_option linter.unusedVariables false
section
variable {P : Program} {ops : Array Oper} {Q : Exit → Act → World → Prop} {i : Nat} {o : Oper} {a : Act} {w : World} {fr : List Value} {S : List Nat} {t : Nat → Value} {I : (Nat → Value) → World → Prop} {d : Nat} {v : Value}
theorem t_move {x : Operand} (hx : a.eval x = v) (hF : Fr fr S a t) (n : S.Nodup) (ho : ops[i]? = some o) (hg : o.guard = none) (hop : o.op = .move x) (hd : o.dst = some d) (h : d ∈ S) (hI : I (updT t d v) w) : wpOp P ops Q i (fun a' u' => ∃ t', Fr fr S a' t' ∧ I t' u') a w :=
  op_plain ho hg fun K hK => wp_move hop hx (by rw [hd]; exact tell hK hF n h hI)
theorem t_assign {x : Operand} (hx : a.eval x = v) (hF : Fr fr S a t) (n : S.Nodup) (ho : ops[i]? = some o) (hg : o.guard = none) (hop : o.op = .assign x) (hd : o.dst = some d) (h : d ∈ S) (hI : I (updT t d v) w) : wpOp P ops Q i (fun a' u' => ∃ t', Fr fr S a' t' ∧ I t' u') a w :=
  op_plain ho hg fun K hK => wp_assign hop hx (by rw [hd]; exact tell hK hF n h hI)
theorem t_extract {x : Operand} {k : Nat} {cs : Array Value} (hx : a.eval x = .tuple cs) (hF : Fr fr S a t) (n : S.Nodup) (ho : ops[i]? = some o) (hg : o.guard = none) (hop : o.op = .extract x k) (hv : cs[k]? = some v) (hd : o.dst = some d) (h : d ∈ S) (hI : I (updT t d v) w) : wpOp P ops Q i (fun a' u' => ∃ t', Fr fr S a' t' ∧ I t' u') a w :=
  op_plain ho hg fun K hK => wp_extract hop hx hv (by rw [hd]; exact tell hK hF n h hI)
theorem t_load {T : TypeId} {x : Operand} {b : Nat} {cs : List Value} {dd : TypeDesc} (hx : a.eval x = .pointer (some ⟨b, 0, none⟩)) (hc : CV w b cs) (hu : P.underlying T = some dd) (hi : (P.info? T).map (·.size) = some cs.length) (hF : Fr fr S a t) (n : S.Nodup) (ho : ops[i]? = some o) (hg : o.guard = none) (hop : o.op = .load T x) (hr : dd.isRow = true) (hd : o.dst = some d) (h : d ∈ S) (hI : I (updT t d (.agg cs.toArray)) w) : wpOp P ops Q i (fun a' u' => ∃ t', Fr fr S a' t' ∧ I t' u') a w :=
  op_plain ho hg fun K hK => wp_load_mid T x hop b 0 hx cs dd hc.range hu hr hi (by rw [hd]; exact tell hK hF n h hI)
theorem t_call {N : FuncId} {args : List Operand} {tys : Array TypeId} {vs : List Value} {R : Value} (hv : args.map a.eval = vs)
    (hr : ∀ (vs : Array Value) (w : World), (callFunc N vs).run P w = .ok (.enter N vs) w) (hc : Calls P N vs.toArray w fun e w' => e = .returned R ∧ Below w.heap.size w w') (hF : Fr fr S a t) (n : S.Nodup) (ho : ops[i]? = some o) (hg : o.guard = none) (hop : o.op = .call { callee := .value (.func N), args := args.toArray, argTypes := tys }) (hd : o.dst = some d) (h : d ∈ S)
    (hI : ∀ v, Below w.heap.size w v → I (updT t d R) v) : wpOp P ops Q i (fun a' u' => ∃ t', Fr fr S a' t' ∧ I t' u') a w :=
  op_plain ho hg fun K hK => wp_callF hop hv hr hc fun v hB => by rw [hd]; exact tell hK hF n h (hI v hB)
end
theorem NwP.get {u : World} {base : Nat} {q : Bool × Bool × Value × List Value × List Value} : ∀ {nw : List (Bool × Bool × Value × List Value × List Value)} {n : Nat}, NwP u base nw → nw[n]? = some q → q.1 = true → ∃ b, q.2.2.1 = .pointer (some ⟨b, 0, none⟩) ∧ base ≤ b ∧ b < u.heap.size ∧ CV u b (bif q.2.1 then q.2.2.2.2 else q.2.2.2.1)
  | [], n, _, h, _ => by simp at h
  | x :: r, 0, h, e, k => by simp at e; subst e; exact h.1 k
  | x :: r, n + 1, h, e, k => NwP.get (nw := r) (n := n) h.2 (by simpa using e) k
section
variable {P : Program} {ops : Array Oper} {Q : Exit → Act → World → Prop} {i : Nat} {o : Oper} {a : Act} {fr : List Value} {S : List Nat} {t : Nat → Value} {I : (Nat → Value) → World → Prop} {d : Nat} {lo base : Nat} {w u : World} {ks : List (Nat × List Value)} {ex : List (Nat × Bool × List Value × List Value)} {nw : List (Bool × Bool × Value × List Value × List Value)}
theorem t_alloc {T : TypeId} {v : Value} {u' : World} (hr : (Instr.alloc T true (.tuple #[])).run P u = .ok v u') (hF : Fr fr S a t) (n : S.Nodup) (ho : ops[i]? = some o) (hg : o.guard = none) (hop : o.op = .alloc T) (hd : o.dst = some d) (h : d ∈ S) (hI : I (updT t d v) u') : wpOp P ops Q i (fun a' u' => ∃ t', Fr fr S a' t' ∧ I t' u') a u :=
  op_plain ho hg fun K hK => wp_alloc hop hr (by rw [hd]; exact tell hK hF n h hI)
theorem t_storeN {T : TypeId} {x y : Operand} {fa fs : Bool} {p : Value} {pre post : List Value} (n : Nat) (hM : MR lo w base ks ex nw u) (hn : nw[n]? = some (fa, fs, p, pre, post)) (ha : fa = true) (hs : fs = false) (hx : a.eval x = p) (hy : a.eval y = .agg post.toArray) (hl : post.length = pre.length) (hi : (P.info? T).map (·.size) = some post.length) (h1 : allOne post = true)
    (hF : Fr fr S a t) (ho : ops[i]? = some o) (hg : o.guard = none) (hop : o.op = .store T x y) (hd : o.dst = none) (hI : ∀ v, MR lo w base ks ex (nw.set n (fa, true, p, pre, post)) v → I t v) : wpOp P ops Q i (fun a' u' => ∃ t', Fr fr S a' t' ∧ I t' u') a u := by
  obtain ⟨b, e, b1, b2, b3⟩ := hM.nw.get hn ha
  have e : p = .pointer (some ⟨b, 0, none⟩) := e
  have b3 : CV u b (bif fs then post else pre) := b3
  rw [hs] at b3
  refine op_plain ho hg fun K hK => wp_store_mid T x y hop b 0 post.toArray (by rw [hx, e]) hy (by rw [List.size_toArray, hl]; exact CV.there b3) (by rw [List.size_toArray]; exact hi) (all_one h1) ?_
  rw [hd]
  exact tell0 hK hF (hI _ (MR.putF n hM hn ha e b1 hl))
end
/-- All of them. -/
def AllEq (t : Nat → Value) : List (Nat × Nat × Value) → Prop
  | [] => True
  | q :: r => t q.2.1 = q.2.2 ∧ AllEq t r
theorem Gs.all {f : Nat → Bool} {t : Nat → Value} (N : Nat) (hall : ∀ i, i < N → f i = true) : ∀ {l : List (Nat × Nat × Value)}, Gs f t l → (l.all fun q => decide (q.1 < N)) = true → AllEq t l
  | [], _, _ => trivial
  | q :: r, h, k => by
    simp only [List.all_cons, Bool.and_eq_true, decide_eq_true_eq] at k
    exact ⟨h.1 (hall _ k.1), Gs.all N hall h.2 k.2⟩
theorem Os.keep {f : Nat → Bool} {i : Nat} : ∀ {l : List (Nat × Nat)}, Os f l → (l.all fun q => decide (q.1 ≠ i)) = true → Os (updF f i) l := fun h hk => h.step fun q hq e => by
  have := List.all_eq_true.1 hk q hq
  simp only [decide_eq_true_eq] at this
  exact absurd e this
theorem Jm {A : Prop} {f : Nat → Bool} {t : Nat → Value} {i d : Nat} {v : Value} {l n : List (Nat × Nat × Value)} {o : List (Nat × Nat)} (hM : A) (hG : Gs f t l) (hO : Os f o) (hN : Ns f t n) (h1 : ownsA i d l = true := by rfl) (h2 : pickV i l = some v := by rfl) (h3 : (o.all fun q => decide (q.1 ≠ i)) = true := by rfl) (h4 : apart i d n = true := by rfl) : A ∧ Gs (updF f i) (updT t d v) l ∧ Os (updF f i) o ∧ Ns (updF f i) (updT t d v) n := ⟨hM, Gs.stepA hG h1 h2, hO.keep h3, Ns.step hN h4⟩
theorem Jt {A : Prop} {f : Nat → Bool} {t : Nat → Value} {i d : Nat} {v : Value} {l n : List (Nat × Nat × Value)} (hM : A) (hG : Gs f t l) (hN : Ns f t n) (h1 : ownsA i d l = true := by rfl) (h2 : pickV i l = some v := by rfl) (h4 : apart i d n = true := by rfl) : A ∧ Gs (updF f i) (updT t d v) l ∧ True ∧ Ns (updF f i) (updT t d v) n := ⟨hM, Gs.stepA hG h1 h2, trivial, Ns.step hN h4⟩
theorem cZ1 {α : Type} {ops : Array α} {i : Nat} {o : α} (ho : ops[i]? = some o) (h : ops.size = 1 := by rfl) : i = 0 := by
  have := (Array.getElem?_eq_some_iff.1 ho).1
  omega
theorem cZ2 {α : Type} {ops : Array α} {i : Nat} {o : α} (ho : ops[i]? = some o) (h : ops.size = 2 := by rfl) : i = 0 ∨ i = 1 := by
  have := (Array.getElem?_eq_some_iff.1 ho).1
  omega
theorem cZ3 {α : Type} {ops : Array α} {i : Nat} {o : α} (ho : ops[i]? = some o) (h : ops.size = 3 := by rfl) : i = 0 ∨ i = 1 ∨ i = 2 := by
  have := (Array.getElem?_eq_some_iff.1 ho).1
  omega
theorem cZ4 {α : Type} {ops : Array α} {i : Nat} {o : α} (ho : ops[i]? = some o) (h : ops.size = 4 := by rfl) : i = 0 ∨ i = 1 ∨ i = 2 ∨ i = 3 := by
  have := (Array.getElem?_eq_some_iff.1 ho).1
  omega
theorem cZ5 {α : Type} {ops : Array α} {i : Nat} {o : α} (ho : ops[i]? = some o) (h : ops.size = 5 := by rfl) : i = 0 ∨ i = 1 ∨ i = 2 ∨ i = 3 ∨ i = 4 := by
  have := (Array.getElem?_eq_some_iff.1 ho).1
  omega
theorem cZ6 {α : Type} {ops : Array α} {i : Nat} {o : α} (ho : ops[i]? = some o) (h : ops.size = 6 := by rfl) : i = 0 ∨ i = 1 ∨ i = 2 ∨ i = 3 ∨ i = 4 ∨ i = 5 := by
  have := (Array.getElem?_eq_some_iff.1 ho).1
  omega
theorem cZ7 {α : Type} {ops : Array α} {i : Nat} {o : α} (ho : ops[i]? = some o) (h : ops.size = 7 := by rfl) : i = 0 ∨ i = 1 ∨ i = 2 ∨ i = 3 ∨ i = 4 ∨ i = 5 ∨ i = 6 := by
  have := (Array.getElem?_eq_some_iff.1 ho).1
  omega
theorem cZ8 {α : Type} {ops : Array α} {i : Nat} {o : α} (ho : ops[i]? = some o) (h : ops.size = 8 := by rfl) : i = 0 ∨ i = 1 ∨ i = 2 ∨ i = 3 ∨ i = 4 ∨ i = 5 ∨ i = 6 ∨ i = 7 := by
  have := (Array.getElem?_eq_some_iff.1 ho).1
  omega
theorem cZ9 {α : Type} {ops : Array α} {i : Nat} {o : α} (ho : ops[i]? = some o) (h : ops.size = 9 := by rfl) : i = 0 ∨ i = 1 ∨ i = 2 ∨ i = 3 ∨ i = 4 ∨ i = 5 ∨ i = 6 ∨ i = 7 ∨ i = 8 := by
  have := (Array.getElem?_eq_some_iff.1 ho).1
  omega
theorem cZ10 {α : Type} {ops : Array α} {i : Nat} {o : α} (ho : ops[i]? = some o) (h : ops.size = 10 := by rfl) : i = 0 ∨ i = 1 ∨ i = 2 ∨ i = 3 ∨ i = 4 ∨ i = 5 ∨ i = 6 ∨ i = 7 ∨ i = 8 ∨ i = 9 := by
  have := (Array.getElem?_eq_some_iff.1 ho).1
  omega
theorem cZ11 {α : Type} {ops : Array α} {i : Nat} {o : α} (ho : ops[i]? = some o) (h : ops.size = 11 := by rfl) : i = 0 ∨ i = 1 ∨ i = 2 ∨ i = 3 ∨ i = 4 ∨ i = 5 ∨ i = 6 ∨ i = 7 ∨ i = 8 ∨ i = 9 ∨ i = 10 := by
  have := (Array.getElem?_eq_some_iff.1 ho).1
  omega
theorem cZ12 {α : Type} {ops : Array α} {i : Nat} {o : α} (ho : ops[i]? = some o) (h : ops.size = 12 := by rfl) : i = 0 ∨ i = 1 ∨ i = 2 ∨ i = 3 ∨ i = 4 ∨ i = 5 ∨ i = 6 ∨ i = 7 ∨ i = 8 ∨ i = 9 ∨ i = 10 ∨ i = 11 := by
  have := (Array.getElem?_eq_some_iff.1 ho).1
  omega
theorem cZ13 {α : Type} {ops : Array α} {i : Nat} {o : α} (ho : ops[i]? = some o) (h : ops.size = 13 := by rfl) : i = 0 ∨ i = 1 ∨ i = 2 ∨ i = 3 ∨ i = 4 ∨ i = 5 ∨ i = 6 ∨ i = 7 ∨ i = 8 ∨ i = 9 ∨ i = 10 ∨ i = 11 ∨ i = 12 := by
  have := (Array.getElem?_eq_some_iff.1 ho).1
  omega
theorem cZ14 {α : Type} {ops : Array α} {i : Nat} {o : α} (ho : ops[i]? = some o) (h : ops.size = 14 := by rfl) : i = 0 ∨ i = 1 ∨ i = 2 ∨ i = 3 ∨ i = 4 ∨ i = 5 ∨ i = 6 ∨ i = 7 ∨ i = 8 ∨ i = 9 ∨ i = 10 ∨ i = 11 ∨ i = 12 ∨ i = 13 := by
  have := (Array.getElem?_eq_some_iff.1 ho).1
  omega
theorem cZ15 {α : Type} {ops : Array α} {i : Nat} {o : α} (ho : ops[i]? = some o) (h : ops.size = 15 := by rfl) : i = 0 ∨ i = 1 ∨ i = 2 ∨ i = 3 ∨ i = 4 ∨ i = 5 ∨ i = 6 ∨ i = 7 ∨ i = 8 ∨ i = 9 ∨ i = 10 ∨ i = 11 ∨ i = 12 ∨ i = 13 ∨ i = 14 := by
  have := (Array.getElem?_eq_some_iff.1 ho).1
  omega
theorem cZ16 {α : Type} {ops : Array α} {i : Nat} {o : α} (ho : ops[i]? = some o) (h : ops.size = 16 := by rfl) : i = 0 ∨ i = 1 ∨ i = 2 ∨ i = 3 ∨ i = 4 ∨ i = 5 ∨ i = 6 ∨ i = 7 ∨ i = 8 ∨ i = 9 ∨ i = 10 ∨ i = 11 ∨ i = 12 ∨ i = 13 ∨ i = 14 ∨ i = 15 := by
  have := (Array.getElem?_eq_some_iff.1 ho).1
  omega
theorem cZ17 {α : Type} {ops : Array α} {i : Nat} {o : α} (ho : ops[i]? = some o) (h : ops.size = 17 := by rfl) : i = 0 ∨ i = 1 ∨ i = 2 ∨ i = 3 ∨ i = 4 ∨ i = 5 ∨ i = 6 ∨ i = 7 ∨ i = 8 ∨ i = 9 ∨ i = 10 ∨ i = 11 ∨ i = 12 ∨ i = 13 ∨ i = 14 ∨ i = 15 ∨ i = 16 := by
  have := (Array.getElem?_eq_some_iff.1 ho).1
  omega
theorem cZ18 {α : Type} {ops : Array α} {i : Nat} {o : α} (ho : ops[i]? = some o) (h : ops.size = 18 := by rfl) : i = 0 ∨ i = 1 ∨ i = 2 ∨ i = 3 ∨ i = 4 ∨ i = 5 ∨ i = 6 ∨ i = 7 ∨ i = 8 ∨ i = 9 ∨ i = 10 ∨ i = 11 ∨ i = 12 ∨ i = 13 ∨ i = 14 ∨ i = 15 ∨ i = 16 ∨ i = 17 := by
  have := (Array.getElem?_eq_some_iff.1 ho).1
  omega
theorem cZ19 {α : Type} {ops : Array α} {i : Nat} {o : α} (ho : ops[i]? = some o) (h : ops.size = 19 := by rfl) : i = 0 ∨ i = 1 ∨ i = 2 ∨ i = 3 ∨ i = 4 ∨ i = 5 ∨ i = 6 ∨ i = 7 ∨ i = 8 ∨ i = 9 ∨ i = 10 ∨ i = 11 ∨ i = 12 ∨ i = 13 ∨ i = 14 ∨ i = 15 ∨ i = 16 ∨ i = 17 ∨ i = 18 := by
  have := (Array.getElem?_eq_some_iff.1 ho).1
  omega
theorem cZ20 {α : Type} {ops : Array α} {i : Nat} {o : α} (ho : ops[i]? = some o) (h : ops.size = 20 := by rfl) : i = 0 ∨ i = 1 ∨ i = 2 ∨ i = 3 ∨ i = 4 ∨ i = 5 ∨ i = 6 ∨ i = 7 ∨ i = 8 ∨ i = 9 ∨ i = 10 ∨ i = 11 ∨ i = 12 ∨ i = 13 ∨ i = 14 ∨ i = 15 ∨ i = 16 ∨ i = 17 ∨ i = 18 ∨ i = 19 := by
  have := (Array.getElem?_eq_some_iff.1 ho).1
  omega
theorem cZ21 {α : Type} {ops : Array α} {i : Nat} {o : α} (ho : ops[i]? = some o) (h : ops.size = 21 := by rfl) : i = 0 ∨ i = 1 ∨ i = 2 ∨ i = 3 ∨ i = 4 ∨ i = 5 ∨ i = 6 ∨ i = 7 ∨ i = 8 ∨ i = 9 ∨ i = 10 ∨ i = 11 ∨ i = 12 ∨ i = 13 ∨ i = 14 ∨ i = 15 ∨ i = 16 ∨ i = 17 ∨ i = 18 ∨ i = 19 ∨ i = 20 := by
  have := (Array.getElem?_eq_some_iff.1 ho).1
  omega
theorem cZ22 {α : Type} {ops : Array α} {i : Nat} {o : α} (ho : ops[i]? = some o) (h : ops.size = 22 := by rfl) : i = 0 ∨ i = 1 ∨ i = 2 ∨ i = 3 ∨ i = 4 ∨ i = 5 ∨ i = 6 ∨ i = 7 ∨ i = 8 ∨ i = 9 ∨ i = 10 ∨ i = 11 ∨ i = 12 ∨ i = 13 ∨ i = 14 ∨ i = 15 ∨ i = 16 ∨ i = 17 ∨ i = 18 ∨ i = 19 ∨ i = 20 ∨ i = 21 := by
  have := (Array.getElem?_eq_some_iff.1 ho).1
  omega
theorem cZ23 {α : Type} {ops : Array α} {i : Nat} {o : α} (ho : ops[i]? = some o) (h : ops.size = 23 := by rfl) : i = 0 ∨ i = 1 ∨ i = 2 ∨ i = 3 ∨ i = 4 ∨ i = 5 ∨ i = 6 ∨ i = 7 ∨ i = 8 ∨ i = 9 ∨ i = 10 ∨ i = 11 ∨ i = 12 ∨ i = 13 ∨ i = 14 ∨ i = 15 ∨ i = 16 ∨ i = 17 ∨ i = 18 ∨ i = 19 ∨ i = 20 ∨ i = 21 ∨ i = 22 := by
  have := (Array.getElem?_eq_some_iff.1 ho).1
  omega
theorem cZ24 {α : Type} {ops : Array α} {i : Nat} {o : α} (ho : ops[i]? = some o) (h : ops.size = 24 := by rfl) : i = 0 ∨ i = 1 ∨ i = 2 ∨ i = 3 ∨ i = 4 ∨ i = 5 ∨ i = 6 ∨ i = 7 ∨ i = 8 ∨ i = 9 ∨ i = 10 ∨ i = 11 ∨ i = 12 ∨ i = 13 ∨ i = 14 ∨ i = 15 ∨ i = 16 ∨ i = 17 ∨ i = 18 ∨ i = 19 ∨ i = 20 ∨ i = 21 ∨ i = 22 ∨ i = 23 := by
  have := (Array.getElem?_eq_some_iff.1 ho).1
  omega
theorem cZ25 {α : Type} {ops : Array α} {i : Nat} {o : α} (ho : ops[i]? = some o) (h : ops.size = 25 := by rfl) : i = 0 ∨ i = 1 ∨ i = 2 ∨ i = 3 ∨ i = 4 ∨ i = 5 ∨ i = 6 ∨ i = 7 ∨ i = 8 ∨ i = 9 ∨ i = 10 ∨ i = 11 ∨ i = 12 ∨ i = 13 ∨ i = 14 ∨ i = 15 ∨ i = 16 ∨ i = 17 ∨ i = 18 ∨ i = 19 ∨ i = 20 ∨ i = 21 ∨ i = 22 ∨ i = 23 ∨ i = 24 := by
  have := (Array.getElem?_eq_some_iff.1 ho).1
  omega
theorem cZ26 {α : Type} {ops : Array α} {i : Nat} {o : α} (ho : ops[i]? = some o) (h : ops.size = 26 := by rfl) : i = 0 ∨ i = 1 ∨ i = 2 ∨ i = 3 ∨ i = 4 ∨ i = 5 ∨ i = 6 ∨ i = 7 ∨ i = 8 ∨ i = 9 ∨ i = 10 ∨ i = 11 ∨ i = 12 ∨ i = 13 ∨ i = 14 ∨ i = 15 ∨ i = 16 ∨ i = 17 ∨ i = 18 ∨ i = 19 ∨ i = 20 ∨ i = 21 ∨ i = 22 ∨ i = 23 ∨ i = 24 ∨ i = 25 := by
  have := (Array.getElem?_eq_some_iff.1 ho).1
  omega
theorem cZ27 {α : Type} {ops : Array α} {i : Nat} {o : α} (ho : ops[i]? = some o) (h : ops.size = 27 := by rfl) : i = 0 ∨ i = 1 ∨ i = 2 ∨ i = 3 ∨ i = 4 ∨ i = 5 ∨ i = 6 ∨ i = 7 ∨ i = 8 ∨ i = 9 ∨ i = 10 ∨ i = 11 ∨ i = 12 ∨ i = 13 ∨ i = 14 ∨ i = 15 ∨ i = 16 ∨ i = 17 ∨ i = 18 ∨ i = 19 ∨ i = 20 ∨ i = 21 ∨ i = 22 ∨ i = 23 ∨ i = 24 ∨ i = 25 ∨ i = 26 := by
  have := (Array.getElem?_eq_some_iff.1 ho).1
  omega
theorem cZ28 {α : Type} {ops : Array α} {i : Nat} {o : α} (ho : ops[i]? = some o) (h : ops.size = 28 := by rfl) : i = 0 ∨ i = 1 ∨ i = 2 ∨ i = 3 ∨ i = 4 ∨ i = 5 ∨ i = 6 ∨ i = 7 ∨ i = 8 ∨ i = 9 ∨ i = 10 ∨ i = 11 ∨ i = 12 ∨ i = 13 ∨ i = 14 ∨ i = 15 ∨ i = 16 ∨ i = 17 ∨ i = 18 ∨ i = 19 ∨ i = 20 ∨ i = 21 ∨ i = 22 ∨ i = 23 ∨ i = 24 ∨ i = 25 ∨ i = 26 ∨ i = 27 := by
  have := (Array.getElem?_eq_some_iff.1 ho).1
  omega
theorem cZ29 {α : Type} {ops : Array α} {i : Nat} {o : α} (ho : ops[i]? = some o) (h : ops.size = 29 := by rfl) : i = 0 ∨ i = 1 ∨ i = 2 ∨ i = 3 ∨ i = 4 ∨ i = 5 ∨ i = 6 ∨ i = 7 ∨ i = 8 ∨ i = 9 ∨ i = 10 ∨ i = 11 ∨ i = 12 ∨ i = 13 ∨ i = 14 ∨ i = 15 ∨ i = 16 ∨ i = 17 ∨ i = 18 ∨ i = 19 ∨ i = 20 ∨ i = 21 ∨ i = 22 ∨ i = 23 ∨ i = 24 ∨ i = 25 ∨ i = 26 ∨ i = 27 ∨ i = 28 := by
  have := (Array.getElem?_eq_some_iff.1 ho).1
  omega
theorem cZ30 {α : Type} {ops : Array α} {i : Nat} {o : α} (ho : ops[i]? = some o) (h : ops.size = 30 := by rfl) : i = 0 ∨ i = 1 ∨ i = 2 ∨ i = 3 ∨ i = 4 ∨ i = 5 ∨ i = 6 ∨ i = 7 ∨ i = 8 ∨ i = 9 ∨ i = 10 ∨ i = 11 ∨ i = 12 ∨ i = 13 ∨ i = 14 ∨ i = 15 ∨ i = 16 ∨ i = 17 ∨ i = 18 ∨ i = 19 ∨ i = 20 ∨ i = 21 ∨ i = 22 ∨ i = 23 ∨ i = 24 ∨ i = 25 ∨ i = 26 ∨ i = 27 ∨ i = 28 ∨ i = 29 := by
  have := (Array.getElem?_eq_some_iff.1 ho).1
  omega
theorem cZ31 {α : Type} {ops : Array α} {i : Nat} {o : α} (ho : ops[i]? = some o) (h : ops.size = 31 := by rfl) : i = 0 ∨ i = 1 ∨ i = 2 ∨ i = 3 ∨ i = 4 ∨ i = 5 ∨ i = 6 ∨ i = 7 ∨ i = 8 ∨ i = 9 ∨ i = 10 ∨ i = 11 ∨ i = 12 ∨ i = 13 ∨ i = 14 ∨ i = 15 ∨ i = 16 ∨ i = 17 ∨ i = 18 ∨ i = 19 ∨ i = 20 ∨ i = 21 ∨ i = 22 ∨ i = 23 ∨ i = 24 ∨ i = 25 ∨ i = 26 ∨ i = 27 ∨ i = 28 ∨ i = 29 ∨ i = 30 := by
  have := (Array.getElem?_eq_some_iff.1 ho).1
  omega
theorem cZ32 {α : Type} {ops : Array α} {i : Nat} {o : α} (ho : ops[i]? = some o) (h : ops.size = 32 := by rfl) : i = 0 ∨ i = 1 ∨ i = 2 ∨ i = 3 ∨ i = 4 ∨ i = 5 ∨ i = 6 ∨ i = 7 ∨ i = 8 ∨ i = 9 ∨ i = 10 ∨ i = 11 ∨ i = 12 ∨ i = 13 ∨ i = 14 ∨ i = 15 ∨ i = 16 ∨ i = 17 ∨ i = 18 ∨ i = 19 ∨ i = 20 ∨ i = 21 ∨ i = 22 ∨ i = 23 ∨ i = 24 ∨ i = 25 ∨ i = 26 ∨ i = 27 ∨ i = 28 ∨ i = 29 ∨ i = 30 ∨ i = 31 := by
  have := (Array.getElem?_eq_some_iff.1 ho).1
  omega
theorem cZ33 {α : Type} {ops : Array α} {i : Nat} {o : α} (ho : ops[i]? = some o) (h : ops.size = 33 := by rfl) : i = 0 ∨ i = 1 ∨ i = 2 ∨ i = 3 ∨ i = 4 ∨ i = 5 ∨ i = 6 ∨ i = 7 ∨ i = 8 ∨ i = 9 ∨ i = 10 ∨ i = 11 ∨ i = 12 ∨ i = 13 ∨ i = 14 ∨ i = 15 ∨ i = 16 ∨ i = 17 ∨ i = 18 ∨ i = 19 ∨ i = 20 ∨ i = 21 ∨ i = 22 ∨ i = 23 ∨ i = 24 ∨ i = 25 ∨ i = 26 ∨ i = 27 ∨ i = 28 ∨ i = 29 ∨ i = 30 ∨ i = 31 ∨ i = 32 := by
  have := (Array.getElem?_eq_some_iff.1 ho).1
  omega
theorem cZ34 {α : Type} {ops : Array α} {i : Nat} {o : α} (ho : ops[i]? = some o) (h : ops.size = 34 := by rfl) : i = 0 ∨ i = 1 ∨ i = 2 ∨ i = 3 ∨ i = 4 ∨ i = 5 ∨ i = 6 ∨ i = 7 ∨ i = 8 ∨ i = 9 ∨ i = 10 ∨ i = 11 ∨ i = 12 ∨ i = 13 ∨ i = 14 ∨ i = 15 ∨ i = 16 ∨ i = 17 ∨ i = 18 ∨ i = 19 ∨ i = 20 ∨ i = 21 ∨ i = 22 ∨ i = 23 ∨ i = 24 ∨ i = 25 ∨ i = 26 ∨ i = 27 ∨ i = 28 ∨ i = 29 ∨ i = 30 ∨ i = 31 ∨ i = 32 ∨ i = 33 := by
  have := (Array.getElem?_eq_some_iff.1 ho).1
  omega
theorem cZ35 {α : Type} {ops : Array α} {i : Nat} {o : α} (ho : ops[i]? = some o) (h : ops.size = 35 := by rfl) : i = 0 ∨ i = 1 ∨ i = 2 ∨ i = 3 ∨ i = 4 ∨ i = 5 ∨ i = 6 ∨ i = 7 ∨ i = 8 ∨ i = 9 ∨ i = 10 ∨ i = 11 ∨ i = 12 ∨ i = 13 ∨ i = 14 ∨ i = 15 ∨ i = 16 ∨ i = 17 ∨ i = 18 ∨ i = 19 ∨ i = 20 ∨ i = 21 ∨ i = 22 ∨ i = 23 ∨ i = 24 ∨ i = 25 ∨ i = 26 ∨ i = 27 ∨ i = 28 ∨ i = 29 ∨ i = 30 ∨ i = 31 ∨ i = 32 ∨ i = 33 ∨ i = 34 := by
  have := (Array.getElem?_eq_some_iff.1 ho).1
  omega
theorem cZ36 {α : Type} {ops : Array α} {i : Nat} {o : α} (ho : ops[i]? = some o) (h : ops.size = 36 := by rfl) : i = 0 ∨ i = 1 ∨ i = 2 ∨ i = 3 ∨ i = 4 ∨ i = 5 ∨ i = 6 ∨ i = 7 ∨ i = 8 ∨ i = 9 ∨ i = 10 ∨ i = 11 ∨ i = 12 ∨ i = 13 ∨ i = 14 ∨ i = 15 ∨ i = 16 ∨ i = 17 ∨ i = 18 ∨ i = 19 ∨ i = 20 ∨ i = 21 ∨ i = 22 ∨ i = 23 ∨ i = 24 ∨ i = 25 ∨ i = 26 ∨ i = 27 ∨ i = 28 ∨ i = 29 ∨ i = 30 ∨ i = 31 ∨ i = 32 ∨ i = 33 ∨ i = 34 ∨ i = 35 := by
  have := (Array.getElem?_eq_some_iff.1 ho).1
  omega
theorem cZ37 {α : Type} {ops : Array α} {i : Nat} {o : α} (ho : ops[i]? = some o) (h : ops.size = 37 := by rfl) : i = 0 ∨ i = 1 ∨ i = 2 ∨ i = 3 ∨ i = 4 ∨ i = 5 ∨ i = 6 ∨ i = 7 ∨ i = 8 ∨ i = 9 ∨ i = 10 ∨ i = 11 ∨ i = 12 ∨ i = 13 ∨ i = 14 ∨ i = 15 ∨ i = 16 ∨ i = 17 ∨ i = 18 ∨ i = 19 ∨ i = 20 ∨ i = 21 ∨ i = 22 ∨ i = 23 ∨ i = 24 ∨ i = 25 ∨ i = 26 ∨ i = 27 ∨ i = 28 ∨ i = 29 ∨ i = 30 ∨ i = 31 ∨ i = 32 ∨ i = 33 ∨ i = 34 ∨ i = 35 ∨ i = 36 := by
  have := (Array.getElem?_eq_some_iff.1 ho).1
  omega
theorem cZ38 {α : Type} {ops : Array α} {i : Nat} {o : α} (ho : ops[i]? = some o) (h : ops.size = 38 := by rfl) : i = 0 ∨ i = 1 ∨ i = 2 ∨ i = 3 ∨ i = 4 ∨ i = 5 ∨ i = 6 ∨ i = 7 ∨ i = 8 ∨ i = 9 ∨ i = 10 ∨ i = 11 ∨ i = 12 ∨ i = 13 ∨ i = 14 ∨ i = 15 ∨ i = 16 ∨ i = 17 ∨ i = 18 ∨ i = 19 ∨ i = 20 ∨ i = 21 ∨ i = 22 ∨ i = 23 ∨ i = 24 ∨ i = 25 ∨ i = 26 ∨ i = 27 ∨ i = 28 ∨ i = 29 ∨ i = 30 ∨ i = 31 ∨ i = 32 ∨ i = 33 ∨ i = 34 ∨ i = 35 ∨ i = 36 ∨ i = 37 := by
  have := (Array.getElem?_eq_some_iff.1 ho).1
  omega
theorem cZ39 {α : Type} {ops : Array α} {i : Nat} {o : α} (ho : ops[i]? = some o) (h : ops.size = 39 := by rfl) : i = 0 ∨ i = 1 ∨ i = 2 ∨ i = 3 ∨ i = 4 ∨ i = 5 ∨ i = 6 ∨ i = 7 ∨ i = 8 ∨ i = 9 ∨ i = 10 ∨ i = 11 ∨ i = 12 ∨ i = 13 ∨ i = 14 ∨ i = 15 ∨ i = 16 ∨ i = 17 ∨ i = 18 ∨ i = 19 ∨ i = 20 ∨ i = 21 ∨ i = 22 ∨ i = 23 ∨ i = 24 ∨ i = 25 ∨ i = 26 ∨ i = 27 ∨ i = 28 ∨ i = 29 ∨ i = 30 ∨ i = 31 ∨ i = 32 ∨ i = 33 ∨ i = 34 ∨ i = 35 ∨ i = 36 ∨ i = 37 ∨ i = 38 := by
  have := (Array.getElem?_eq_some_iff.1 ho).1
  omega
theorem cZ40 {α : Type} {ops : Array α} {i : Nat} {o : α} (ho : ops[i]? = some o) (h : ops.size = 40 := by rfl) : i = 0 ∨ i = 1 ∨ i = 2 ∨ i = 3 ∨ i = 4 ∨ i = 5 ∨ i = 6 ∨ i = 7 ∨ i = 8 ∨ i = 9 ∨ i = 10 ∨ i = 11 ∨ i = 12 ∨ i = 13 ∨ i = 14 ∨ i = 15 ∨ i = 16 ∨ i = 17 ∨ i = 18 ∨ i = 19 ∨ i = 20 ∨ i = 21 ∨ i = 22 ∨ i = 23 ∨ i = 24 ∨ i = 25 ∨ i = 26 ∨ i = 27 ∨ i = 28 ∨ i = 29 ∨ i = 30 ∨ i = 31 ∨ i = 32 ∨ i = 33 ∨ i = 34 ∨ i = 35 ∨ i = 36 ∨ i = 37 ∨ i = 38 ∨ i = 39 := by
  have := (Array.getElem?_eq_some_iff.1 ho).1
  omega
theorem Fr.two {fr : List Value} {S : List Nat} {a : Act} {t : Nat → Value} (h : Fr fr S a t) (N : Nat) (n : S.Nodup) (hl : fr.length = N) (hN : ∀ s ∈ S, s < N) : S.Nodup ∧ ∀ s, s ∈ S → a.eval (.tmp s) = t s := ⟨n, fun s hs => h.evs n hl hN s hs⟩
theorem dd (n : Nat) {f : Nat → Bool} {l : Array Edge} {m : Region.Mode} (hdep : ∀ e ∈ l, Region.binds m e = true → f e.on = true) (h1 : (⟨n, .data⟩ : Edge) ∈ l := by simp) (h2 : Region.binds m ⟨n, .data⟩ = true := by rfl) : f n = true := hdep _ h1 h2
theorem ve {a : Act} {t : Nat → Value} {S : List Nat} {v : Value} (s : Nat) (hV : ∀ s, s ∈ S → a.eval (.tmp s) = t s) (e : t s = v) (h : s ∈ S := by decide) : a.eval (.tmp s) = v := (hV s h).trans e
end Go.Proofs.Ythncmahhnbpbkaa
/- Which functions are entered, and what a new variable holds. -/
namespace Go.Proofs.Ythncmahhnbpbkaa
end Go.Proofs.Ythncmahhnbpbkaa

/- What is held against what: numbers and words. -/
namespace Go.Proofs.Ythncmahhnbpbkaa
open Go.RowKit
set_option linter.unusedVariables false
set_option linter.unusedSimpArgs false
theorem CV.pre {w : World} {b : Nat} {l r : List Value} (h : CV w b (l ++ r)) : CV w b l := fun j v hj => h j v (by
  have hl : j < l.length := (List.getElem?_eq_some_iff.1 hj).1
  rw [List.getElem?_append_left hl]; exact hj)
end Go.Proofs.Ythncmahhnbpbkaa
/- A number that lies in memory, as a measure. -/
namespace Go.Proofs.Ythncmahhnbpbkaa
set_option linter.unusedVariables false
def wordAt (w : World) (b k : Nat) : Int := match w.cell? ⟨b, k, none⟩ with | some (.int _ x) => x | _ => 0
end Go.Proofs.Ythncmahhnbpbkaa
/- More rules: cells of one block that are written one by one; slices; arrays of five. -/
namespace Go.Proofs.Ythncmahhnbpbkaa
open Go.RowKit
set_option linter.unusedVariables false
theorem KsP.putK {u : World} {base b k : Nat} {x : Value} {l : List Value} {k2 : List (Nat × List Value)} (hk : k < l.length) :
    ∀ {k1 : List (Nat × List Value)}, KsP u base (k1 ++ (b, l) :: k2) → AllNe b k1 → AllNe b k2 → KsP (u.setCell ⟨b, k, none⟩ x) base (k1 ++ (b, l.set k x) :: k2)
  | [], h, _, n => ⟨⟨h.1.1, h.1.2.setC k hk x⟩, KsP.chg (Chg.cell u b k x) h.2 n⟩
  | q :: r, h, n, m => ⟨⟨h.1.1, (Chg.cell u b k x).oth _ _ n.1 h.1.2⟩, KsP.putK hk (k1 := r) h.2 n.2 m⟩
theorem KsP.atK {u : World} {base b : Nat} {l : List Value} {k2 : List (Nat × List Value)} : ∀ {k1 : List (Nat × List Value)}, KsP u base (k1 ++ (b, l) :: k2) → b < base
  | [], h => h.1.1
  | q :: r, h => KsP.atK (k1 := r) h.2
theorem MR.putK {lo base b k : Nat} {w u : World} {x : Value} {l : List Value} {k1 k2 : List (Nat × List Value)} {ex : List (Nat × Bool × List Value × List Value)} {nw : List (Bool × Bool × Value × List Value × List Value)} (h : MR lo w base (k1 ++ (b, l) :: k2) ex nw u) (hk : k < l.length) (hlo : lo ≤ b) (n1 : AllNe b k1) (n2 : AllNe b k2) (n3 : AllNeX b ex) :
    MR lo w base (k1 ++ (b, l.set k x) :: k2) ex nw (u.setCell ⟨b, k, none⟩ x) :=
  have c := Chg.cell u b k x
  { bel := h.bel.setCell hlo _, lo := h.lo, sz := by rw [c.size]; exact h.sz, ks := KsP.putK hk h.ks n1 n2, ex := h.ex.chg c n3, nw := h.nw.chg c (h.nw.lo (KsP.atK h.ks)), nd := h.nd }
section
variable {P : Program} {o : Oper} {a : Act} {w : World} {K : Act → World → Prop} {Q : Exit → Act → World → Prop}
theorem wp_slice {T : TypeId} {x : Operand} {lo hi mx : Option Operand} {vx v : Value} {vl vh vm : Option Value} (ho : o.op = .slice T x lo hi mx) (hx : a.eval x = vx) (hl : lo.map a.eval = vl) (hh : hi.map a.eval = vh) (hm : mx.map a.eval = vm)
    (hr : (Instr.sliceAt T vx vl vh vm).run P w = .ok v w) (hk : K (a.put o.dst v) w) : o.wp P a w K Q :=
  wp_val (by
    unfold execOp; rw [ho]
    show Sem.run P (do pure (Next.value (← Instr.sliceAt T (a.eval x) (lo.map a.eval) (hi.map a.eval) (mx.map a.eval)))) w = _
    rw [hx, hl, hh, hm, Sem.run_bind, hr, Result.andThen_ok, Sem.run_pure]) hk
theorem wp_sap {T : TypeId} {x : Operand} {vx v : Value} (ho : o.op = .sliceToArrayPointer T x) (hx : a.eval x = vx)
    (hr : (Instr.arrayAt T vx).run P w = .ok v w) (hk : K (a.put o.dst v) w) : o.wp P a w K Q :=
  wp_val (by
    unfold execOp; rw [ho]
    show Sem.run P (do pure (Next.value (← Instr.arrayAt T (a.eval x)))) w = _
    rw [hx, Sem.run_bind, hr, Result.andThen_ok, Sem.run_pure]) hk
theorem wp_make {fn : Fn} {first cap : List Operand} {vf : List Value} (ho : o.op = .makeFunc fn first.toArray cap.toArray) (hf : first.map a.eval = vf) (hc : cap = [])
    {v : Value} (hr : (Instr.makeFunc fn vf.toArray #[]).run P w = .ok v w) (hk : K (a.put o.dst v) w) : o.wp P a w K Q :=
  wp_val (by
    subst hc
    unfold execOp; rw [ho]
    show Sem.run P (do pure (Next.value (← Instr.makeFunc fn (first.toArray.map a.eval) (#[].map a.eval)))) w = _
    rw [List.map_toArray, hf, show (#[].map a.eval : Array Value) = #[] by simp, Sem.run_bind, hr, Result.andThen_ok, Sem.run_pure]) hk
end
abbrev L05 : List Value := [.int .u64 0, .int .u64 0, .int .u64 0, .int .u64 0, .int .u64 0]
end Go.Proofs.Ythncmahhnbpbkaa
/- Guards, and what integers are held against. -/
namespace Go.Proofs.Ythncmahhnbpbkaa
open Go.RowKit
set_option linter.unusedVariables false
theorem wanted_of {ops : Array Oper} {a : Act} {o : Oper} {g s : Nat} {b : Bool} (hg : o.guard = some (g, b)) (hs : (ops[g]?.bind fun x => x.dst) = some s) (hx : a.tmps[s]? = some (.bool b)) : Region.wanted o (yielded ops a.tmps) = true := by
  unfold Region.wanted yielded
  rw [hg]
  simp only [hs, Option.bind_some, hx]
  cases b <;> rfl
theorem unwanted_of {ops : Array Oper} {a : Act} {o : Oper} {g s : Nat} {b c : Bool} (hg : o.guard = some (g, b)) (hs : (ops[g]?.bind fun x => x.dst) = some s) (hx : a.tmps[s]? = some (.bool c)) (hn : c = !b) : ¬ Region.wanted o (yielded ops a.tmps) = true := by
  unfold Region.wanted yielded
  rw [hg]
  simp only [hs, Option.bind_some, hx, hn]
  cases b <;> simp
theorem Fr.tmps {fr : List Value} {S : List Nat} {a : Act} {t : Nat → Value} {N : Nat} (h : Fr fr S a t) (n : S.Nodup) (hl : fr.length = N) (s : Nat) (hs : s ∈ S) (hN : s < N) : a.tmps[s]? = some (t s) := by
  rw [h]
  show (ovr fr S t).toArray[s]? = _
  have := ovr_in t s S fr n hs (by omega)
  simpa using this
end Go.Proofs.Ythncmahhnbpbkaa

/- Regions by one record: what lies where, what each operation yields; the rest is reckoned. -/
namespace Go.Proofs.Ythncmahhnbpbkaa
open Go.RowKit
set_option linter.unusedVariables false
set_option linter.unusedSimpArgs false
/-- What a region writes into a block: nothing, the whole by one operation, cells by some. -/
inductive Wr where
  | no
  | all (i : Nat) (post : List Value)
  | cs (l : List (Nat × Nat × Value))
def cellsF (f : Nat → Bool) : List (Nat × Nat × Value) → List Value → List Value
  | [], l => l
  | q :: r, l => cellsF f r (bif f q.2.1 then l.set q.1 q.2.2 else l)
def Wr.val (f : Nat → Bool) (l : List Value) : Wr → List Value
  | .no => l
  | .all i p => bif f i then p else l
  | .cs c => cellsF f c l
def Wr.free (i : Nat) : Wr → Bool
  | .no => true
  | .all j _ => j != i
  | .cs c => c.all fun q => q.2.1 != i
def Wr.f (l : List Value) : Wr → List Value
  | .no => l
  | .all _ p => p
  | .cs c => c.foldl (fun l q => l.set q.1 q.2.2) l
/-- All operations that it names are among the first n. -/
def Wr.upto (n : Nat) : Wr → Bool
  | .no => true
  | .all j _ => decide (j < n)
  | .cs c => c.all fun q => decide (q.2.1 < n)
theorem updF_ne {f : Nat → Bool} {i j : Nat} (h : j ≠ i) : updF f i j = f j := by simp [updF, h]
theorem updF_eq {f : Nat → Bool} {i : Nat} : updF f i i = true := by simp [updF]
theorem cellsF_free {f : Nat → Bool} {i : Nat} : ∀ {c : List (Nat × Nat × Value)} {l : List Value}, (c.all fun q => q.2.1 != i) = true → cellsF (updF f i) c l = cellsF f c l
  | [], _, _ => rfl
  | q :: r, l, h => by
    simp only [List.all_cons, Bool.and_eq_true, bne_iff_ne, ne_eq] at h
    rw [cellsF, cellsF, updF_ne h.1]
    exact cellsF_free (by simpa using h.2)
theorem Wr.val_free {f : Nat → Bool} {i : Nat} {l : List Value} {x : Wr} (h : x.free i = true) : x.val (updF f i) l = x.val f l := by
  cases x with
  | no => rfl
  | all j p => simp only [Wr.free, bne_iff_ne, ne_eq] at h; simp only [Wr.val, updF_ne h]
  | cs c => exact cellsF_free h
theorem cellsF_all {f : Nat → Bool} {n : Nat} (hf : ∀ i, i < n → f i = true) : ∀ {c : List (Nat × Nat × Value)} {l : List Value}, (c.all fun q => decide (q.2.1 < n)) = true → cellsF f c l = c.foldl (fun l q => l.set q.1 q.2.2) l
  | [], _, _ => rfl
  | q :: r, l, h => by
    simp only [List.all_cons, Bool.and_eq_true, decide_eq_true_eq] at h
    rw [cellsF, hf _ h.1, List.foldl_cons]
    exact cellsF_all hf h.2
theorem Wr.val_all {f : Nat → Bool} {n : Nat} (hf : ∀ i, i < n → f i = true) {l : List Value} {x : Wr} (h : x.upto n = true) : x.val f l = x.f l := by
  cases x with
  | no => rfl
  | all j p => simp only [Wr.upto, decide_eq_true_eq] at h; simp only [Wr.val, Wr.f, hf _ h, cond_true]
  | cs c => exact cellsF_all hf h
theorem cellsF_none : ∀ {c : List (Nat × Nat × Value)} {l : List Value}, cellsF (fun _ => false) c l = l
  | [], _ => rfl
  | q :: r, l => by rw [cellsF]; exact cellsF_none
theorem Wr.val_none {l : List Value} {x : Wr} : x.val (fun _ => false) l = l := by
  cases x with
  | no => rfl
  | all j p => rfl
  | cs c => exact cellsF_none
abbrev Blk := Bool × Nat × List Value
abbrev Ent := Bool × Nat × List Value × Wr
/-- The blocks of a list lie in the world; those that are one's own are not below lo. -/
def KA (lo : Nat) (u : World) : List Blk → Prop
  | [] => True
  | q :: r => (q.2.1 < u.heap.size ∧ (q.1 = true → lo ≤ q.2.1) ∧ CV u q.2.1 q.2.2) ∧ KA lo u r
structure Bk (lo : Nat) (u : World) (ks : List Blk) : Prop where
  a : KA lo u ks
  n : (ks.map (·.2.1)).Nodup
def KC (f : Nat → Bool) (u : World) (lo base : Nat) : List Ent → Prop
  | [] => True
  | q :: r => (q.2.1 < base ∧ (q.1 = true → lo ≤ q.2.1) ∧ CV u q.2.1 (q.2.2.2.val f q.2.2.1)) ∧ KC f u lo base r
def withX : List Blk → List Wr → List Ent
  | [], _ => []
  | q :: r, [] => (q.1, q.2.1, q.2.2, .no) :: withX r []
  | q :: r, x :: xs => (q.1, q.2.1, q.2.2, x) :: withX r xs
def fX : List Blk → List Wr → List Blk
  | [], _ => []
  | q :: r, [] => q :: fX r []
  | q :: r, x :: xs => (q.1, q.2.1, x.f q.2.2) :: fX r xs
theorem withX_map : ∀ (ks : List Blk) (xs : List Wr), (withX ks xs).map (·.2.1) = ks.map (·.2.1)
  | [], _ => rfl
  | q :: r, [] => by simp only [withX, List.map_cons, withX_map r []]
  | q :: r, x :: xs => by simp only [withX, List.map_cons, withX_map r xs]
theorem fX_map : ∀ (ks : List Blk) (xs : List Wr), (fX ks xs).map (·.2.1) = ks.map (·.2.1)
  | [], _ => rfl
  | q :: r, [] => by simp only [fX, List.map_cons, fX_map r []]
  | q :: r, x :: xs => by simp only [fX, List.map_cons, fX_map r xs]
theorem KA.start {lo : Nat} {u : World} : ∀ {ks : List Blk} (xs : List Wr), KA lo u ks → KC (fun _ => false) u lo u.heap.size (withX ks xs)
  | [], _, _ => trivial
  | q :: r, [], h => ⟨⟨h.1.1, h.1.2.1, h.1.2.2⟩, KA.start [] h.2⟩
  | q :: r, x :: xs, h => ⟨⟨h.1.1, h.1.2.1, by rw [Wr.val_none]; exact h.1.2.2⟩, KA.start xs h.2⟩
theorem KC.fin {f : Nat → Bool} {u : World} {lo base n : Nat} (hf : ∀ i, i < n → f i = true) (hb : base ≤ u.heap.size) : ∀ {ks : List Blk} (xs : List Wr), (xs.all (Wr.upto n)) = true → KC f u lo base (withX ks xs) → KA lo u (fX ks xs)
  | [], _, _, _ => trivial
  | q :: r, [], hx, h => ⟨⟨Nat.lt_of_lt_of_le h.1.1 hb, h.1.2.1, h.1.2.2⟩, KC.fin hf hb [] rfl h.2⟩
  | q :: r, x :: xs, hx, h => by
    simp only [List.all_cons, Bool.and_eq_true] at hx
    have h1 := h.1.2.2
    have h1 : CV u q.2.1 (x.val f q.2.2) := h1
    rw [Wr.val_all hf hx.1] at h1
    exact ⟨⟨Nat.lt_of_lt_of_le h.1.1 hb, h.1.2.1, h1⟩, KC.fin hf hb xs hx.2 h.2⟩
theorem KC.below {f : Nat → Bool} {u v : World} {lo base m : Nat} (hB : Below m u v) (hm : base ≤ m) : ∀ {es : List Ent}, KC f u lo base es → KC f v lo base es
  | [], _ => trivial
  | q :: r, h => ⟨⟨h.1.1, h.1.2.1, h.1.2.2.below hB (Nat.lt_of_lt_of_le h.1.1 hm)⟩, KC.below hB hm h.2⟩
theorem KC.free {f : Nat → Bool} {u : World} {lo base i : Nat} : ∀ {es : List Ent}, (es.all fun q => q.2.2.2.free i) = true → KC f u lo base es → KC (updF f i) u lo base es
  | [], _, _ => trivial
  | q :: r, hx, h => by
    simp only [List.all_cons, Bool.and_eq_true] at hx
    exact ⟨⟨h.1.1, h.1.2.1, by rw [Wr.val_free hx.1]; exact h.1.2.2⟩, KC.free hx.2 h.2⟩
theorem KC.get {f : Nat → Bool} {u : World} {lo base : Nat} {q : Ent} : ∀ {es : List Ent} {k : Nat}, KC f u lo base es → es[k]? = some q → q.2.1 < base ∧ (q.1 = true → lo ≤ q.2.1) ∧ CV u q.2.1 (q.2.2.2.val f q.2.2.1)
  | [], k, _, h => by simp at h
  | x :: r, 0, h, e => by simp at e; subst e; exact h.1
  | x :: r, k + 1, h, e => KC.get (es := r) (k := k) h.2 (by simpa using e)
theorem KA.get {u : World} {lo : Nat} {q : Blk} : ∀ {ks : List Blk} {k : Nat}, KA lo u ks → ks[k]? = some q → q.2.1 < u.heap.size ∧ (q.1 = true → lo ≤ q.2.1) ∧ CV u q.2.1 q.2.2
  | [], k, _, h => by simp at h
  | x :: r, 0, h, e => by simp at e; subst e; exact h.1
  | x :: r, k + 1, h, e => KA.get (ks := r) (k := k) h.2 (by simpa using e)
theorem Bk.cv {lo : Nat} {u : World} {ks : List Blk} {o : Bool} {b : Nat} {l : List Value} (h : Bk lo u ks) (k : Nat) (e : ks[k]? = some (o, b, l) := by rfl) : CV u b l := (h.a.get e).2.2
theorem Bk.lt {lo : Nat} {u : World} {ks : List Blk} {o : Bool} {b : Nat} {l : List Value} (h : Bk lo u ks) (k : Nat) (e : ks[k]? = some (o, b, l) := by rfl) : b < u.heap.size := (h.a.get e).1
theorem Bk.lo {lo : Nat} {u : World} {ks : List Blk} {b : Nat} {l : List Value} (h : Bk lo u ks) (k : Nat) (e : ks[k]? = some (true, b, l) := by rfl) : lo ≤ b := (h.a.get e).2.1 rfl
/-- One block turns, by the operation i. -/
theorem KC.put {f : Nat → Bool} {u v : World} {lo base i b : Nat} (c : Chg b u v) : ∀ {es : List Ent} {k : Nat} {o : Bool} {l : List Value} {x : Wr}, KC f u lo base es → es[k]? = some (o, b, l, x) → (es.map (·.2.1)).Nodup →
    ((es.eraseIdx k).all fun q => q.2.2.2.free i) = true → CV v b (x.val (updF f i) l) → KC (updF f i) v lo base es
  | [], k, _, _, _, _, h, _, _, _ => by simp at h
  | q :: r, 0, o, l, x, h, e, n, hx, hv => by
    simp at e; subst e
    simp only [List.map_cons, List.nodup_cons] at n
    simp only [List.eraseIdx_cons_zero] at hx
    refine ⟨⟨h.1.1, h.1.2.1, hv⟩, ?_⟩
    have hr : ∀ {es : List Ent}, b ∉ es.map (·.2.1) → (es.all fun q => q.2.2.2.free i) = true → KC f u lo base es → KC (updF f i) v lo base es := by
      intro es
      induction es with
      | nil => intros; trivial
      | cons y ys ih =>
        intro hb hy hk
        simp only [List.map_cons, List.mem_cons, not_or] at hb
        simp only [List.all_cons, Bool.and_eq_true] at hy
        exact ⟨⟨hk.1.1, hk.1.2.1, by rw [Wr.val_free hy.1]; exact c.oth _ _ (fun e => hb.1 e.symm) hk.1.2.2⟩, ih hb.2 hy.2 hk.2⟩
    exact hr n.1 hx h.2
  | q :: r, k + 1, o, l, x, h, e, n, hx, hv => by
    simp only [List.map_cons, List.nodup_cons] at n
    simp only [List.eraseIdx_cons_succ, List.all_cons, Bool.and_eq_true] at hx
    have e' : r[k]? = some (o, b, l, x) := by simpa using e
    have hne : q.2.1 ≠ b := fun hq => n.1 (by rw [hq]; exact List.mem_map.2 ⟨_, List.mem_of_getElem? e', rfl⟩)
    exact ⟨⟨h.1.1, h.1.2.1, by rw [Wr.val_free hx.1]; exact c.oth _ _ hne h.1.2.2⟩, KC.put c (es := r) (k := k) h.2 e' n.2 hx.2 hv⟩
theorem Chg.cells (u : World) (b : Nat) (vs : List Value) : Chg b u (u.setCells b 0 vs) where
  size := by rw [size_setCells]
  oth := fun n l hn h => h.cells hn _ _
/-- A value that an operation makes, whatever it is: the operation, its slot, the operation that uses it up, and what is known of it till then. -/
structure En where
  i : Nat
  d : Nat
  c : Option Nat
  p : World → Value → Prop
def Es (f : Nat → Bool) (t : Nat → Value) (u : World) : List En → Prop
  | [] => True
  | q :: r => (f q.i = true → (∀ c, q.c = some c → f c = false) → q.p u (t q.d)) ∧ Es f t u r
def Stab (E : List En) : Prop := ∀ q ∈ E, ∀ u v x, Below u.heap.size u v → q.p u x → q.p v x
def eFree (i d : Nat) (E : List En) : Bool := E.all fun q => q.i != i && q.d != d
theorem Es.step {f : Nat → Bool} {t : Nat → Value} {u v : World} {i d : Nat} {x : Value} (hB : Below u.heap.size u v) : ∀ {E : List En}, Stab E → eFree i d E = true → Es f t u E → Es (updF f i) (updT t d x) v E
  | [], _, _, _ => trivial
  | q :: r, hs, he, h => by
    unfold eFree at he
    simp only [List.all_cons, Bool.and_eq_true, bne_iff_ne, ne_eq] at he
    refine ⟨fun h1 h2 => ?_, Es.step hB (fun q hq => hs q (List.mem_cons_of_mem _ hq)) (by unfold eFree; simpa using he.2) h.2⟩
    rw [updF_ne he.1.1] at h1
    have := h.1 h1 (fun c hc => by
      have h3 := h2 c hc
      by_cases e : c = i
      · subst e; rw [updF_eq] at h3; cases h3
      · rwa [updF_ne e] at h3)
    simp only [updT, if_neg he.1.2]
    exact hs q List.mem_cons_self _ _ _ hB this
/-- A region. -/
structure Rg where
  fr : List Value
  S : List Nat
  lo : Nat
  w : World
  base : Nat
  es : List Ent
  nw : List (Nat × Nat × List Value × Option (Nat × List Value))
  G : List (Nat × Nat × Value)
  O : List (Nat × Nat)
  N : List (Nat × Nat)
  E : List En
def nwF (f : Nat → Bool) (t : Nat → Value) : List (Nat × Nat × List Value × Option (Nat × List Value)) → List (Bool × Bool × Value × List Value × List Value)
  | [] => []
  | (i, d, pre, none) :: r => (f i, false, t d, pre, pre) :: nwF f t r
  | (i, d, pre, some (s, post)) :: r => (f i, f s, t d, pre, post) :: nwF f t r
def Rg.Ns (R : Rg) : List (Nat × Nat × Value) := R.N.map fun q => (q.1, q.2, R.fr.getD q.2 undef)
def Inv (R : Rg) (f : Nat → Bool) (t : Nat → Value) (u : World) : Prop :=
  MR R.lo R.w R.base [] [] (nwF f t R.nw) u ∧ KC f u R.lo R.base R.es ∧ Gs f t R.G ∧ Os f R.O ∧ Ns f t R.Ns ∧ Es f t u R.E
def Rg.ok (R : Rg) : Bool := decide R.S.Nodup && (R.S.all fun s => decide (s < R.fr.length)) && (R.G.all fun q => R.S.contains q.2.1) && (R.N.all fun q => R.S.contains q.2)
structure Xs (R : Rg) (ops : Array Oper) (f : Nat → Bool) (t : Nat → Value) (u : World) (a : Act) (i : Nat) (o : Oper) : Prop where
  ok : R.ok = true
  nd : (R.es.map (·.2.1)).Nodup
  st : Stab R.E
  F : Fr R.fr R.S a t
  I : Inv R f t u
  ho : ops[i]? = some o
  fi : f i = false
  dep : ∀ e ∈ o.after, Region.binds .any e = true → f e.on = true
/-- An operation of the region is right. -/
def OG (R : Rg) (P : Program) (ops : Array Oper) (Q : Exit → Act → World → Prop) (i : Nat) (o : Oper) : Prop :=
  ∀ f t u a, Xs R ops f t u a i o → wpOp P ops Q i (fun a' u' => ∃ t', Fr R.fr R.S a' t' ∧ Inv R (updF f i) t' u') a u
def hasDep (o : Oper) (n : Nat) : Bool := o.after.toList.any fun e => e.on == n && Region.binds .any e
theorem hasDep_spec {o : Oper} {n : Nat} {f : Nat → Bool} (h : hasDep o n = true) (dep : ∀ e ∈ o.after, Region.binds .any e = true → f e.on = true) : f n = true := by
  unfold hasDep at h
  rw [List.any_eq_true] at h
  obtain ⟨e, he, h⟩ := h
  rw [Array.mem_toList_iff] at he
  simp only [Bool.and_eq_true, beq_iff_eq] at h
  rw [← h.1]; exact dep e he h.2
/-- What an operand holds when operation i comes up. -/
def evR (R : Rg) (i : Nat) (o : Oper) : Operand → Option Value
  | .tmp s => match R.N.find? (fun q => q.2 == s && (q.1 == i || R.O.any fun p => p.1 == q.1 && p.2 == i)) with
    | some _ => some (R.fr.getD s undef)
    | none => match R.G.find? (fun q => q.2.1 == s) with
      | some q => if hasDep o q.1 then some q.2.2 else none
      | none => if R.S.contains s then none else some (R.fr.getD s undef)
  | .const v => some v
  | .global g => some (.pointer (some ⟨g, 0, none⟩))
  | .func f => some (.func (.func f) #[] #[])
theorem Ns.get {f : Nat → Bool} {t : Nat → Value} {q : Nat × Nat × Value} : ∀ {l : List (Nat × Nat × Value)}, Ns f t l → q ∈ l → f q.1 = false → t q.2.1 = q.2.2
  | [], _, h, _ => by cases h
  | x :: r, h, hq, hf => by
    rcases List.mem_cons.1 hq with rfl | hq
    · exact h.1 hf
    · exact Ns.get h.2 hq hf
theorem Gs.get {f : Nat → Bool} {t : Nat → Value} {q : Nat × Nat × Value} : ∀ {l : List (Nat × Nat × Value)}, Gs f t l → q ∈ l → f q.1 = true → t q.2.1 = q.2.2
  | [], _, h, _ => by cases h
  | x :: r, h, hq, hf => by
    rcases List.mem_cons.1 hq with rfl | hq
    · exact h.1 hf
    · exact Gs.get h.2 hq hf
theorem Os.get {f : Nat → Bool} {q : Nat × Nat} : ∀ {l : List (Nat × Nat)}, Os f l → q ∈ l → f q.1 = true → f q.2 = true
  | [], _, h, _ => by cases h
  | x :: r, h, hq, hf => by
    rcases List.mem_cons.1 hq with rfl | hq
    · exact h.1 hf
    · exact Os.get h.2 hq hf
section
variable {R : Rg} {P : Program} {ops : Array Oper} {Q : Exit → Act → World → Prop} {f : Nat → Bool} {t : Nat → Value} {u : World} {a : Act} {i : Nat} {o : Oper}
theorem Xs.parts (X : Xs R ops f t u a i o) : R.S.Nodup ∧ (∀ s ∈ R.S, s < R.fr.length) ∧ (∀ q ∈ R.G, q.2.1 ∈ R.S) ∧ (∀ q ∈ R.N, q.2 ∈ R.S) := by
  have := X.ok
  unfold Rg.ok at this
  simp only [Bool.and_eq_true, decide_eq_true_eq, List.all_eq_true, List.contains_iff_mem] at this
  exact ⟨this.1.1.1, this.1.1.2, this.1.2, this.2⟩
theorem Xs.inS (X : Xs R ops f t u a i o) {s : Nat} (hs : s ∈ R.S) : a.eval (.tmp s) = t s := X.F.evs X.parts.1 rfl X.parts.2.1 s hs
theorem Xs.ev (X : Xs R ops f t u a i o) {x : Operand} {v : Value} (h : evR R i o x = some v) : a.eval x = v := by
  cases x with
  | const v' => simp only [evR, Option.some.injEq] at h; subst h; rfl
  | global g => simp only [evR, Option.some.injEq] at h; subst h; rfl
  | func g => simp only [evR, Option.some.injEq] at h; subst h; rfl
  | tmp s =>
    simp only [evR] at h
    split at h
    · rename_i q hq
      simp only [Option.some.injEq] at h
      have hm := List.mem_of_find?_eq_some hq
      have hp := List.find?_some hq
      simp only [Bool.and_eq_true, beq_iff_eq, Bool.or_eq_true, List.any_eq_true] at hp
      have hf : f q.1 = false := by
        rcases hp.2 with e | ⟨p, hpm, e1, e2⟩
        · rw [e]; exact X.fi
        · have := X.I.2.2.2.1.get hpm
          rw [e1, e2] at this
          exact Os.not this X.fi
      have hn := X.I.2.2.2.2.1.get (q := (q.1, q.2, R.fr.getD q.2 undef)) (List.mem_map.2 ⟨q, hm, rfl⟩) hf
      rw [← hp.1] at h ⊢
      rw [X.inS (X.parts.2.2.2 q hm)]
      exact hn.trans h
    · split at h
      · rename_i q hq
        have hm := List.mem_of_find?_eq_some hq
        have hp := List.find?_some hq
        simp only [beq_iff_eq] at hp
        split at h
        · rename_i hd
          simp only [Option.some.injEq] at h
          rw [← hp, X.inS (X.parts.2.2.1 q hm), X.I.2.2.1.get hm (hasDep_spec hd X.dep), h]
        · cases h
      · split at h
        · cases h
        · rename_i hs
          simp only [Option.some.injEq] at h
          rw [X.F.out s (by simpa using hs), h]
def evL (R : Rg) (i : Nat) (o : Oper) : List Operand → List Value → Prop
  | [], [] => True
  | x :: r, v :: l => evR R i o x = some v ∧ evL R i o r l
  | _, _ => False
theorem Xs.evs (X : Xs R ops f t u a i o) : ∀ {xs : List Operand} {vs : List Value}, xs.mapM (evR R i o) = some vs → xs.map a.eval = vs
  | [], vs, h => by simp at h; subst h; rfl
  | x :: r, vs, h => by
    simp only [List.mapM_cons, Option.bind_eq_bind, Option.bind_eq_some_iff, Option.pure_def, Option.some.injEq] at h
    obtain ⟨v, hv, l, hl, rfl⟩ := h
    rw [List.map_cons, X.ev hv, X.evs hl]
/-- Does the guard let it? -/
def wants (R : Rg) (ops : Array Oper) (o : Oper) : Option Bool :=
  match o.guard with
  | none => some true
  | some (g, b) => match ops[g]?.bind (fun x => x.dst), R.G.find? (fun q => q.1 == g) with
    | some s, some (_, s', .bool c) => if s == s' && hasDep o g then some (c == b) else none
    | some s, some (_, s', .tuple _) => if s == s' && hasDep o g then some false else none
    | _, _ => none
theorem Xs.wanted (X : Xs R ops f t u a i o) {c : Bool} (h : wants R ops o = some c) : Region.wanted o (yielded ops a.tmps) = c := by
  unfold wants at h
  split at h
  · rename_i hg
    simp only [Option.some.injEq] at h; subst h
    unfold Region.wanted; rw [hg]
  · rename_i g b hg
    split at h
    · rename_i s q0 s' c' hs hq
      have hm := List.mem_of_find?_eq_some hq
      have hp := List.find?_some hq
      simp only [beq_iff_eq] at hp
      split at h
      · rename_i hd
        simp only [Bool.and_eq_true, beq_iff_eq] at hd
        simp only [Option.some.injEq] at h
        obtain ⟨rfl, hd⟩ := hd
        have hin := X.parts.2.2.1 _ hm
        have ht : a.tmps[s]? = some (.bool c') := by
          have h1 := X.F.tmps X.parts.1 rfl s hin (X.parts.2.1 s hin)
          have h2 := X.I.2.2.1.get hm (by rw [hp]; exact hasDep_spec hd X.dep)
          rw [h1, h2]
        by_cases e : c' = b
        · subst e
          rw [wanted_of hg hs ht, ← h]; simp
        · have e2 : c' = !b := by cases c' <;> cases b <;> simp_all
          have h3 := unwanted_of hg hs ht e2
          rw [← h]
          have : (c' == b) = false := by simpa using e
          rw [this]; simpa using h3
      · cases h
    · rename_i s q0 s' vs hs hq
      have hm := List.mem_of_find?_eq_some hq
      have hp := List.find?_some hq
      simp only [beq_iff_eq] at hp
      split at h
      · rename_i hd
        simp only [Bool.and_eq_true, beq_iff_eq] at hd
        simp only [Option.some.injEq] at h
        obtain ⟨rfl, hd⟩ := hd
        have hin := X.parts.2.2.1 _ hm
        have ht : a.tmps[s]? = some (.tuple vs) := by
          have h1 := X.F.tmps X.parts.1 rfl s hin (X.parts.2.1 s hin)
          have h2 := X.I.2.2.1.get hm (by rw [hp]; exact hasDep_spec hd X.dep)
          rw [h1, h2]
        rw [← h]
        unfold Region.wanted yielded
        rw [hg]
        simp only [hs, Option.bind_some, ht]
        rfl
      · cases h
    · cases h
theorem Xs.go (X : Xs R ops f t u a i o) {K : Act → World → Prop} (hw : wants R ops o = some true) (h : ∀ K' : Act → World → Prop, (∀ a w, K a w → K' a w) → Oper.wp P o a u K' Q) : wpOp P ops Q i K a u :=
  wpOp_step X.ho fun K' hK => by rw [if_pos (X.wanted hw)]; exact h K' hK
end
end Go.Proofs.Ythncmahhnbpbkaa
/- Regions by one record: the operations, one by one. -/
namespace Go.Proofs.Ythncmahhnbpbkaa
open Go.RowKit
set_option linter.unusedVariables false
set_option linter.unusedSimpArgs false
def Rg.okO (R : Rg) (i : Nat) (o : Oper) : Bool := R.O.all fun p => p.1 != i || hasDep o p.2 || R.O.any fun q => q.2 == p.2 && hasDep o q.1
def Rg.nwfree (R : Rg) (i d : Nat) : Bool := (R.nw.all fun q => q.1 != i && q.2.1 != d && (match q.2.2.2 with | none => true | some p => p.1 != i)) && eFree i d R.E
def Rg.nwfree0 (R : Rg) (i : Nat) : Bool := R.nw.all fun q => q.1 != i && (match q.2.2.2 with | none => true | some p => p.1 != i)
/-- All that is asked of an operation that yields a value. -/
def Rg.chk (R : Rg) (ops : Array Oper) (i : Nat) (o : Oper) : Bool :=
  (match o.dst with | some d => ownsA i d R.G && apart i d R.Ns && R.nwfree i d && R.S.contains d | none => false) && R.okO i o && (R.es.all fun q => q.2.2.2.free i) && (wants R ops o == some true)
theorem nwF_free {f : Nat → Bool} {t : Nat → Value} {i d : Nat} {v : Value} : ∀ {nw : List (Nat × Nat × List Value × Option (Nat × List Value))}, (nw.all fun q => q.1 != i && q.2.1 != d && (match q.2.2.2 with | none => true | some p => p.1 != i)) = true → nwF (updF f i) (updT t d v) nw = nwF f t nw
  | [], _ => rfl
  | (j, e, pre, none) :: r, h => by
    simp only [List.all_cons, Bool.and_eq_true, bne_iff_ne, ne_eq, Bool.true_eq, and_true] at h
    rw [nwF, nwF, updF_ne h.1.1, nwF_free (nw := r) (by simpa using h.2)]
    simp only [updT, if_neg h.1.2]
  | (j, e, pre, some (s, post)) :: r, h => by
    simp only [List.all_cons, Bool.and_eq_true, bne_iff_ne, ne_eq] at h
    rw [nwF, nwF, updF_ne h.1.1.1, updF_ne h.1.2, nwF_free (nw := r) (by simpa using h.2)]
    simp only [updT, if_neg h.1.1.2]
theorem nwF_free0 {f : Nat → Bool} {t : Nat → Value} {i : Nat} : ∀ {nw : List (Nat × Nat × List Value × Option (Nat × List Value))}, (nw.all fun q => q.1 != i && (match q.2.2.2 with | none => true | some p => p.1 != i)) = true → nwF (updF f i) t nw = nwF f t nw
  | [], _ => rfl
  | (j, e, pre, none) :: r, h => by
    simp only [List.all_cons, Bool.and_eq_true, bne_iff_ne, ne_eq, Bool.true_eq, and_true] at h
    rw [nwF, nwF, updF_ne h.1, nwF_free0 (nw := r) (by simpa using h.2)]
  | (j, e, pre, some (s, post)) :: r, h => by
    simp only [List.all_cons, Bool.and_eq_true, bne_iff_ne, ne_eq] at h
    rw [nwF, nwF, updF_ne h.1.1, updF_ne h.1.2, nwF_free0 (nw := r) (by simpa using h.2)]
theorem okO_spec {R : Rg} {f : Nat → Bool} {i : Nat} {o : Oper} (h : R.okO i o = true) (hO : Os f R.O) (dep : ∀ e ∈ o.after, Region.binds .any e = true → f e.on = true) : Os (updF f i) R.O :=
  hO.step fun p hp e => by
    unfold Rg.okO at h
    have := List.all_eq_true.1 h p hp
    simp only [Bool.or_eq_true, bne_iff_ne, ne_eq, List.any_eq_true, Bool.and_eq_true, beq_iff_eq] at this
    rcases this with (h1 | h1) | ⟨q, hq, h1, h2⟩
    · exact absurd e h1
    · exact hasDep_spec h1 dep
    · rw [← h1]; exact hO.get hq (hasDep_spec h2 dep)
theorem pick_some {i d : Nat} : ∀ {l : List (Nat × Nat × Value)}, ownsA i d l = true → ∃ v, pickV i l = some v
  | [], h => by cases h
  | q :: r, h => by
    by_cases e : q.1 = i
    · exact ⟨q.2.2, by simp [pickV, e]⟩
    · simp only [ownsA, if_neg e, Bool.and_eq_true] at h
      obtain ⟨v, hv⟩ := pick_some h.2
      exact ⟨v, by simp [pickV, e, hv]⟩
section
variable {R : Rg} {P : Program} {ops : Array Oper} {Q : Exit → Act → World → Prop} {f : Nat → Bool} {t : Nat → Value} {u : World} {a : Act} {i : Nat} {o : Oper}
theorem chk_parts (h : R.chk ops i o = true) : ∃ d, o.dst = some d ∧ ownsA i d R.G = true ∧ apart i d R.Ns = true ∧ ((R.nw.all fun q => q.1 != i && q.2.1 != d && (match q.2.2.2 with | none => true | some p => p.1 != i)) = true ∧ eFree i d R.E = true) ∧ d ∈ R.S ∧ R.okO i o = true ∧ (R.es.all fun q => q.2.2.2.free i) = true ∧ wants R ops o = some true := by
  unfold Rg.chk at h
  cases hd : o.dst with
  | none => rw [hd] at h; simp at h
  | some d =>
    rw [hd] at h
    rw [Bool.and_eq_true, Bool.and_eq_true, Bool.and_eq_true, Bool.and_eq_true, Bool.and_eq_true, Bool.and_eq_true, List.contains_iff_mem, beq_iff_eq] at h
    have h3 := h.1.1.1.1.2
    unfold Rg.nwfree at h3
    rw [Bool.and_eq_true] at h3
    exact ⟨d, rfl, h.1.1.1.1.1.1, h.1.1.1.1.1.2, h3, h.1.1.1.2, h.1.1.2, h.1.2, h.2⟩
theorem Xs.put (X : Xs R ops f t u a i o) {v : Value} {u' : World} (hv : some v = pickV i R.G) (hc : R.chk ops i o = true) (hM : MR R.lo R.w R.base [] [] (nwF f t R.nw) u') (hK : KC f u' R.lo R.base R.es) (hB : Below u.heap.size u u') :
    ∃ t', Fr R.fr R.S (a.put o.dst v) t' ∧ Inv R (updF f i) t' u' := by
  obtain ⟨d, hd, h1, h2, h3, h4, h5, h6, h7⟩ := chk_parts hc
  refine ⟨updT t d v, by rw [hd]; exact X.F.put X.parts.1 h4 v, ?_, hK.free h6, Gs.stepA X.I.2.2.1 h1 hv.symm, okO_spec h5 X.I.2.2.2.1 X.dep, Ns.step X.I.2.2.2.2.1 h2, Es.step hB X.st h3.2 X.I.2.2.2.2.2⟩
  rw [nwF_free h3.1]; exact hM
/-- An operation that yields a value and touches nothing. -/
theorem g_pure {v : Value} (hv : some v = pickV i R.G) (hc : R.chk ops i o = true) (h : ∀ f t u a, Xs R ops f t u a i o → ∀ K : Act → World → Prop, K (a.put o.dst v) u → Oper.wp P o a u K Q) : OG R P ops Q i o := fun f t u a X =>
  X.go (chk_parts hc).choose_spec.2.2.2.2.2.2.2 fun K hK => h f t u a X K (hK _ _ (X.put hv hc X.I.1 X.I.2.1 (Below.refl _ _)))
theorem g_mv {x : Operand} {v : Value} (hop : o.op = .move x := by rfl) (hx : evR R i o x = some v := by rfl) (hv : some v = pickV i R.G := by rfl) (hc : R.chk ops i o = true := by rfl) : OG R P ops Q i o :=
  g_pure hv hc fun f t u a X K hK => wp_move hop (X.ev hx) hK
theorem g_as {x : Operand} {v : Value} (hop : o.op = .assign x := by rfl) (hx : evR R i o x = some v := by rfl) (hv : some v = pickV i R.G := by rfl) (hc : R.chk ops i o = true := by rfl) : OG R P ops Q i o :=
  g_pure hv hc fun f t u a X K hK => wp_assign hop (X.ev hx) hK
theorem g_ex {x : Operand} {k : Nat} {cs : Array Value} {v : Value} (hop : o.op = .extract x k := by rfl) (hx : evR R i o x = some (.tuple cs) := by rfl) (hk : cs[k]? = some v := by rfl) (hv : some v = pickV i R.G := by rfl) (hc : R.chk ops i o = true := by rfl) : OG R P ops Q i o :=
  g_pure hv hc fun f t u a X K hK => wp_extract hop (X.ev hx) hk hK
theorem g_pk {c x y : Operand} {b : Bool} {v : Value} (hop : o.op = .pick c x y := by rfl) (hb : evR R i o c = some (.bool b) := by rfl) (hx : evR R i o (bif b then x else y) = some v := by rfl) (hv : some v = pickV i R.G := by rfl) (hc : R.chk ops i o = true := by rfl) : OG R P ops Q i o :=
  g_pure hv hc fun f t u a X K hK => wp_pick hop (X.ev hb) (by have := X.ev hx; cases b <;> exact this) hK
theorem g_bn {op : BinOp} {T T2 : TypeId} {x y : Operand} {vx vy v : Value} (hr : ∀ w, (do eqGuard op T x y vx vy; binOp op T vx vy : Sem Value).run P w = .ok v w) (hop : o.op = .binOp op T x y T2 := by rfl) (hx : evR R i o x = some vx := by rfl) (hy : evR R i o y = some vy := by rfl) (hv : some v = pickV i R.G := by rfl) (hc : R.chk ops i o = true := by rfl) : OG R P ops Q i o :=
  g_pure hv hc fun f t u a X K hK => wp_bin hop (X.ev hx) (X.ev hy) (hr u) hK
theorem g_un {op : UnOp} {T : TypeId} {x : Operand} {vx v : Value} (hr : ∀ w, (Op.unary op vx).run P w = .ok v w) (hop : o.op = .unOp op T x := by rfl) (hx : evR R i o x = some vx := by rfl) (hv : some v = pickV i R.G := by rfl) (hc : R.chk ops i o = true := by rfl) : OG R P ops Q i o :=
  g_pure hv hc fun f t u a X K hK => wp_un hop (X.ev hx) (hr u) hK
theorem g_ix {T : TypeId} {x y : Operand} {vx vy v : Value} (hr : ∀ w, (Instr.indexAt T vx vy).run P w = .ok v w) (hop : o.op = .indexAddr T x y := by rfl) (hx : evR R i o x = some vx := by rfl) (hy : evR R i o y = some vy := by rfl) (hv : some v = pickV i R.G := by rfl) (hc : R.chk ops i o = true := by rfl) : OG R P ops Q i o :=
  g_pure hv hc fun f t u a X K hK => wp_index hop (X.ev hx) (X.ev hy) (hr u) hK
theorem g_nl {x : Operand} {p : Addr} (hop : o.op = .nilCheck x := by rfl) (hx : evR R i o x = some (.pointer (some p)) := by rfl) (hv : some (.pointer (some p)) = pickV i R.G := by rfl) (hc : R.chk ops i o = true := by rfl) : OG R P ops Q i o :=
  g_pure hv hc fun f t u a X K hK => wp_nil hop (X.ev hx) hK
theorem g_fd {T : TypeId} {x : Operand} {k : Nat} {vx v : Value} (hr : ∀ w, (Instr.fieldAt T vx k).run P w = .ok v w) (hop : o.op = .fieldAddr T x k := by rfl) (hx : evR R i o x = some vx := by rfl) (hv : some v = pickV i R.G := by rfl) (hc : R.chk ops i o = true := by rfl) : OG R P ops Q i o :=
  g_pure hv hc fun f t u a X K hK => wp_field hop (X.ev hx) (hr u) hK
theorem g_sp {T : TypeId} {x : Operand} {vx v : Value} (hr : ∀ w, (Instr.arrayAt T vx).run P w = .ok v w) (hop : o.op = .sliceToArrayPointer T x := by rfl) (hx : evR R i o x = some vx := by rfl) (hv : some v = pickV i R.G := by rfl) (hc : R.chk ops i o = true := by rfl) : OG R P ops Q i o :=
  g_pure hv hc fun f t u a X K hK => wp_sap hop (X.ev hx) (hr u) hK
def evO (R : Rg) (i : Nat) (o : Oper) : Option Operand → Option (Option Value)
  | none => some none
  | some x => (evR R i o x).map some
theorem Xs.evO (X : Xs R ops f t u a i o) {x : Option Operand} {v : Option Value} (h : evO R i o x = some v) : x.map a.eval = v := by
  cases x with
  | none => simp only [Go.Proofs.Ythncmahhnbpbkaa.evO, Option.some.injEq] at h; subst h; rfl
  | some x =>
    simp only [Go.Proofs.Ythncmahhnbpbkaa.evO, Option.map_eq_some_iff] at h
    obtain ⟨y, hy, rfl⟩ := h
    rw [Option.map_some, X.ev hy]
theorem g_sl {T : TypeId} {x : Operand} {lo hi mx : Option Operand} {vx v : Value} {vl vh vm : Option Value} (hr : ∀ w, (Instr.sliceAt T vx vl vh vm).run P w = .ok v w) (hop : o.op = .slice T x lo hi mx := by rfl) (hx : evR R i o x = some vx := by rfl) (hl : evO R i o lo = some vl := by rfl) (hh : evO R i o hi = some vh := by rfl) (hm : evO R i o mx = some vm := by rfl) (hv : some v = pickV i R.G := by rfl) (hc : R.chk ops i o = true := by rfl) : OG R P ops Q i o :=
  g_pure hv hc fun f t u a X K hK => wp_slice hop (X.ev hx) (X.evO hl) (X.evO hh) (X.evO hm) (hr u) hK
theorem g_mk {fn : Fn} {first cap : List Operand} {vf : List Value} {v : Value} (hr : ∀ w, (Instr.makeFunc fn vf.toArray #[]).run P w = .ok v w) (hop : o.op = .makeFunc fn first.toArray cap.toArray := by rfl) (hf : first.mapM (evR R i o) = some vf := by rfl) (h0 : cap = [] := by rfl) (hv : some v = pickV i R.G := by rfl) (hc : R.chk ops i o = true := by rfl) : OG R P ops Q i o :=
  g_pure hv hc fun f t u a X K hK => wp_make hop (X.evs hf) h0 (hr u) hK
theorem wp_buildR {K : Act → World → Prop} {w : World} {T : TypeId} {parts : List (Nat × Operand)} {vps : List (Nat × Value)} {v : Value} (ho : o.op = .build T parts.toArray) (hp : parts.map (fun (i, x) => (i, a.eval x)) = vps)
    (hr : (Instr.build T vps.toArray).run P w = .ok v w) (hk : K (a.put o.dst v) w) : o.wp P a w K Q :=
  wp_val (by
    unfold execOp; rw [ho]
    show Sem.run P (do pure (Next.value (← Instr.build T (parts.toArray.map fun (i, x) => (i, a.eval x))))) w = _
    rw [List.map_toArray, hp, Sem.run_bind, hr, Result.andThen_ok, Sem.run_pure]) hk
def evP (R : Rg) (i : Nat) (o : Oper) : List (Nat × Operand) → Option (List (Nat × Value))
  | [] => some []
  | q :: r => match evR R i o q.2, evP R i o r with
    | some v, some l => some ((q.1, v) :: l)
    | _, _ => none
theorem Xs.evP (X : Xs R ops f t u a i o) : ∀ {xs : List (Nat × Operand)} {vs : List (Nat × Value)}, evP R i o xs = some vs → xs.map (fun (i, x) => (i, a.eval x)) = vs
  | [], vs, h => by simp only [Go.Proofs.Ythncmahhnbpbkaa.evP, Option.some.injEq] at h; subst h; rfl
  | q :: r, vs, h => by
    simp only [Go.Proofs.Ythncmahhnbpbkaa.evP] at h
    split at h
    · rename_i v l hv hl
      simp only [Option.some.injEq] at h; subst h
      rw [List.map_cons, X.evP hl]
      show (q.1, a.eval q.2) :: _ = _
      rw [X.ev hv]
    · cases h
theorem g_bd {T : TypeId} {parts : List (Nat × Operand)} {vps : List (Nat × Value)} {v : Value} (hr : ∀ w, (Instr.build T vps.toArray).run P w = .ok v w) (hop : o.op = .build T parts.toArray := by rfl) (hp : evP R i o parts = some vps := by rfl) (hv : some v = pickV i R.G := by rfl) (hc : R.chk ops i o = true := by rfl) : OG R P ops Q i o :=
  g_pure hv hc fun f t u a X K hK => wp_buildR hop (X.evP hp) (hr u) hK
theorem g_ce {N : FuncId} {args : List Operand} {tys : Array TypeId} {vs : List Value} {v : Value} (hr : ∀ w, (callFunc N vs.toArray).run P w = .ok (.value v) w) (hop : o.op = .call { callee := .value (.func N), args := args.toArray, argTypes := tys } := by rfl) (hx : args.mapM (evR R i o) = some vs := by rfl) (hv : some v = pickV i R.G := by rfl) (hc : R.chk ops i o = true := by rfl) : OG R P ops Q i o :=
  g_pure hv hc fun f t u a X K hK => wp_callE hop (X.evs hx) (hr u) hK
/-- The guard does not let it. -/
def Rg.chk0 (R : Rg) (ops : Array Oper) (i : Nat) (o : Oper) : Bool :=
  (match o.dst with | some d => ownsA i d R.G && apart i d R.Ns && R.nwfree i d && R.S.contains d | none => false) && R.okO i o && (R.es.all fun q => q.2.2.2.free i) && (wants R ops o == some false)
theorem g_sk (hv : some undef = pickV i R.G := by rfl) (hc : R.chk0 ops i o = true := by rfl) : OG R P ops Q i o := fun f t u a X => by
  unfold Rg.chk0 at hc
  cases hd : o.dst with
  | none => rw [hd] at hc; simp at hc
  | some d =>
    rw [hd] at hc
    rw [Bool.and_eq_true, Bool.and_eq_true, Bool.and_eq_true, Bool.and_eq_true, Bool.and_eq_true, Bool.and_eq_true, List.contains_iff_mem, beq_iff_eq] at hc
    have h3 := hc.1.1.1.1.2
    unfold Rg.nwfree at h3
    rw [Bool.and_eq_true] at h3
    refine wpOp_step X.ho fun K hK => ?_
    rw [if_neg (by rw [X.wanted hc.2]; simp)]
    refine hK _ _ ⟨updT t d undef, by rw [hd]; exact X.F.put X.parts.1 hc.1.1.1.2 undef, ?_, X.I.2.1.free hc.1.2, Gs.stepA X.I.2.2.1 hc.1.1.1.1.1.1 hv.symm, okO_spec hc.1.1.2 X.I.2.2.2.1 X.dep, Ns.step X.I.2.2.2.2.1 hc.1.1.1.1.1.2, Es.step (Below.refl _ _) X.st h3.2 X.I.2.2.2.2.2⟩
    rw [nwF_free h3.1]; exact X.I.1
/-- A call. -/
theorem g_cl {N : FuncId} {args : List Operand} {tys : Array TypeId} {vs : List Value} {v : Value} (hr : ∀ (vs : Array Value) (w : World), (callFunc N vs).run P w = .ok (.enter N vs) w)
    (hcall : ∀ w, Calls P N vs.toArray w fun e w' => e = .returned v ∧ Below w.heap.size w w') (hop : o.op = .call { callee := .value (.func N), args := args.toArray, argTypes := tys } := by rfl) (hx : args.mapM (evR R i o) = some vs := by rfl) (hv : some v = pickV i R.G := by rfl) (hc : R.chk ops i o = true := by rfl) : OG R P ops Q i o := fun f t u a X =>
  X.go (chk_parts hc).choose_spec.2.2.2.2.2.2.2 fun K hK => wp_callF hop (X.evs hx) hr (hcall u) fun w' hB => hK _ _ (X.put hv hc (X.I.1.call hB) (X.I.2.1.below hB X.I.1.sz) hB)
/-- A call that asks for blocks. -/
theorem g_ck {N : FuncId} {args : List Operand} {tys : Array TypeId} {vs : List Value} {v : Value} (hr : ∀ (vs : Array Value) (w : World), (callFunc N vs).run P w = .ok (.enter N vs) w)
    (hcall : ∀ f w, KC f w R.lo R.base R.es → R.base ≤ w.heap.size → Calls P N vs.toArray w fun e w' => e = .returned v ∧ Below w.heap.size w w') (hop : o.op = .call { callee := .value (.func N), args := args.toArray, argTypes := tys } := by rfl) (hx : args.mapM (evR R i o) = some vs := by rfl) (hv : some v = pickV i R.G := by rfl) (hc : R.chk ops i o = true := by rfl) : OG R P ops Q i o := fun f t u a X =>
  X.go (chk_parts hc).choose_spec.2.2.2.2.2.2.2 fun K hK => wp_callF hop (X.evs hx) hr (hcall f u X.I.2.1 X.I.1.sz) fun w' hB => hK _ _ (X.put hv hc (X.I.1.call hB) (X.I.2.1.below hB X.I.1.sz) hB)
/-- A call of a function value. -/
theorem g_cv {N : FuncId} {c : Operand} {args : List Operand} {tys : Array TypeId} {first vs : List Value} {v : Value} (hr : ∀ (vs : Array Value) (w : World), (callFunc N vs).run P w = .ok (.enter N vs) w)
    (hcall : ∀ f w, KC f w R.lo R.base R.es → R.base ≤ w.heap.size → Calls P N (first ++ vs).toArray w fun e w' => e = .returned v ∧ Below w.heap.size w w') (hop : o.op = .call { callee := .value c, args := args.toArray, argTypes := tys } := by rfl) (hk : evR R i o c = some (.func (.func N) first.toArray #[]) := by rfl) (hx : args.mapM (evR R i o) = some vs := by rfl) (hv : some v = pickV i R.G := by rfl) (hc : R.chk ops i o = true := by rfl) : OG R P ops Q i o := fun f t u a X =>
  X.go (chk_parts hc).choose_spec.2.2.2.2.2.2.2 fun K hK => wp_callV hop (X.ev hk) (X.evs hx) hr (hcall f u X.I.2.1 X.I.1.sz) fun w' hB => hK _ _ (X.put hv hc (X.I.1.call hB) (X.I.2.1.below hB X.I.1.sz) hB)
theorem KC.cv {f : Nat → Bool} {u : World} {lo base : Nat} {es : List Ent} {o : Bool} {b : Nat} {l : List Value} (h : KC f u lo base es) (k : Nat) (e : es[k]? = some (o, b, l, .no) := by rfl) : CV u b l := (h.get e).2.2
theorem KC.lb {f : Nat → Bool} {u : World} {lo base : Nat} {es : List Ent} {o : Bool} {b : Nat} {l : List Value} {x : Wr} (h : KC f u lo base es) (hs : base ≤ u.heap.size) (k : Nat) (e : es[k]? = some (o, b, l, x) := by rfl) : b < u.heap.size := Nat.lt_of_lt_of_le (h.get e).1 hs
/-- What a block holds when operation i comes up. -/
def Rg.later (R : Rg) (i j : Nat) : Bool := j == i || R.O.any fun p => p.1 == j && p.2 == i
def Rg.cur (R : Rg) (i k : Nat) : Option (Nat × List Value) :=
  match R.es[k]? with
  | some (_, b, l, .no) => some (b, l)
  | some (_, b, l, .all j _) => if R.later i j then some (b, l) else none
  | some (_, b, l, .cs c) => if c.all (fun q => R.later i q.2.1) then some (b, l) else none
  | none => none
theorem Xs.later (X : Xs R ops f t u a i o) {j : Nat} (h : R.later i j = true) : f j = false := by
  unfold Rg.later at h
  simp only [Bool.or_eq_true, beq_iff_eq, List.any_eq_true, Bool.and_eq_true] at h
  rcases h with e | ⟨p, hp, e1, e2⟩
  · rw [e]; exact X.fi
  · have := X.I.2.2.2.1.get hp
    rw [e1, e2] at this
    exact Os.not this X.fi
theorem cellsF_later {f : Nat → Bool} : ∀ {c : List (Nat × Nat × Value)} {l : List Value}, (∀ q ∈ c, f q.2.1 = false) → cellsF f c l = l
  | [], _, _ => rfl
  | q :: r, l, h => by rw [cellsF, h q (List.mem_cons_self)]; exact cellsF_later fun q hq => h q (List.mem_cons_of_mem _ hq)
theorem Xs.cur (X : Xs R ops f t u a i o) {k b : Nat} {l : List Value} (h : R.cur i k = some (b, l)) : CV u b l ∧ b < R.base := by
  unfold Rg.cur at h
  split at h
  · rename_i o' b' l' e
    simp only [Option.some.injEq, Prod.mk.injEq] at h
    obtain ⟨rfl, rfl⟩ := h
    have := X.I.2.1.get e
    exact ⟨this.2.2, this.1⟩
  · rename_i o' b' l' j p e
    split at h
    · rename_i hl
      simp only [Option.some.injEq, Prod.mk.injEq] at h
      obtain ⟨rfl, rfl⟩ := h
      have := X.I.2.1.get e
      have h2 := this.2.2
      simp only [Wr.val, X.later hl, cond_false] at h2
      exact ⟨h2, this.1⟩
    · cases h
  · rename_i o' b' l' c e
    split at h
    · rename_i hl
      simp only [Option.some.injEq, Prod.mk.injEq] at h
      obtain ⟨rfl, rfl⟩ := h
      have := X.I.2.1.get e
      have h2 := this.2.2
      simp only [Wr.val] at h2
      rw [cellsF_later (fun q hq => X.later (List.all_eq_true.1 hl q hq))] at h2
      exact ⟨h2, this.1⟩
    · cases h
  · cases h
theorem CV.take {w : World} {b : Nat} {l : List Value} (h : CV w b l) (m : Nat) : CV w b (l.take m) := fun j v hj => h j v (by
  rw [List.getElem?_take] at hj
  split at hj
  · exact hj
  · cases hj)
/-- A load of a row. -/
theorem g_ld (k : Nat) {T : TypeId} {x : Operand} {b m : Nat} {l : List Value} {dd : TypeDesc} (hu : P.underlying T = some dd) (hi : (P.info? T).map (·.size) = some m) (hop : o.op = .load T x := by rfl) (hk : R.cur i k = some (b, l) := by rfl) (hx : evR R i o x = some (.pointer (some ⟨b, 0, none⟩)) := by rfl)
    (hr : dd.isRow = true := by rfl) (hm : (l.take m).length = m := by rfl) (hv : some (.agg (l.take m).toArray) = pickV i R.G := by rfl) (hc : R.chk ops i o = true := by rfl) : OG R P ops Q i o :=
  g_pure hv hc fun f t u a X K hK => wp_load_mid T x hop b 0 (X.ev hx) (l.take m) dd ((X.cur hk).1.take m).range hu hr (by rw [hm]; exact hi) hK
/-- A load of a cell. -/
def Rg.curC (R : Rg) (i k c : Nat) : Option (Nat × Value) :=
  match R.es[k]? with
  | some (_, b, l, .no) => (l[c]?).map fun v => (b, v)
  | some (_, b, l, .all j _) => if R.later i j then (l[c]?).map fun v => (b, v) else none
  | some (_, b, l, .cs cs) => if cs.all (fun q => q.1 != c || R.later i q.2.1) then (l[c]?).map fun v => (b, v) else none
  | none => none
theorem cellsF_get {f : Nat → Bool} {c : Nat} : ∀ {cs : List (Nat × Nat × Value)} {l : List Value}, (∀ q ∈ cs, q.1 ≠ c ∨ f q.2.1 = false) → (cellsF f cs l)[c]? = l[c]?
  | [], _, _ => rfl
  | q :: r, l, h => by
    rw [cellsF, cellsF_get fun q hq => h q (List.mem_cons_of_mem _ hq)]
    rcases h q (List.mem_cons_self) with h1 | h1
    · cases f q.2.1
      · rfl
      · rw [cond_true, List.getElem?_set_ne h1]
    · rw [h1]; rfl
theorem Xs.curC (X : Xs R ops f t u a i o) {k c b : Nat} {v : Value} (h : R.curC i k c = some (b, v)) : u.cell? ⟨b, c, none⟩ = some v := by
  unfold Rg.curC at h
  split at h
  · rename_i o' b' l' e
    simp only [Option.map_eq_some_iff, Prod.mk.injEq] at h
    obtain ⟨v', hv, rfl, rfl⟩ := h
    exact ((X.I.2.1.get e).2.2 c _ hv).1
  · rename_i o' b' l' j p e
    split at h
    · rename_i hl
      simp only [Option.map_eq_some_iff, Prod.mk.injEq] at h
      obtain ⟨v', hv, rfl, rfl⟩ := h
      have h2 := (X.I.2.1.get e).2.2
      simp only [Wr.val, X.later hl, cond_false] at h2
      exact (h2 c _ hv).1
    · cases h
  · rename_i o' b' l' cs e
    split at h
    · rename_i hl
      simp only [Option.map_eq_some_iff, Prod.mk.injEq] at h
      obtain ⟨v', hv, rfl, rfl⟩ := h
      have h2 := (X.I.2.1.get e).2.2
      simp only [Wr.val] at h2
      refine (h2 c _ ?_).1
      rw [cellsF_get (fun q hq => ?_)]
      · exact hv
      · have := List.all_eq_true.1 hl q hq
        simp only [Bool.or_eq_true, bne_iff_ne, ne_eq] at this
        rcases this with h1 | h1
        · exact .inl h1
        · exact .inr (X.later h1)
    · cases h
  · cases h
theorem g_lc (k c : Nat) {T : TypeId} {x : Operand} {b : Nat} {v : Value} (hr : ∀ w, w.cell? ⟨b, c, none⟩ = some v → (Instr.loadAt T (.pointer (some ⟨b, c, none⟩))).run P w = .ok v w) (hop : o.op = .load T x := by rfl) (hk : R.curC i k c = some (b, v) := by rfl) (hx : evR R i o x = some (.pointer (some ⟨b, c, none⟩)) := by rfl) (hv : some v = pickV i R.G := by rfl) (hc : R.chk ops i o = true := by rfl) : OG R P ops Q i o :=
  g_pure hv hc fun f t u a X K hK => wp_load hop (X.ev hx) (hr u (X.curC hk)) hK
theorem g_lv (k c : Nat) {T : TypeId} {x : Operand} {b : Nat} {v : Value} {l : List Value} {ow : Bool} (hr : ∀ w, w.cell? ⟨b, c, none⟩ = some v → (Instr.loadAt T (.pointer (some ⟨b, c, none⟩))).run P w = .ok v w) (hl : l[c]? = some v) (hop : o.op = .load T x := by rfl) (hk : R.es[k]? = some (ow, b, l, .no) := by rfl) (hx : evR R i o x = some (.pointer (some ⟨b, c, none⟩)) := by rfl) (hv : some v = pickV i R.G := by rfl) (hc : R.chk ops i o = true := by rfl) : OG R P ops Q i o :=
  g_pure hv hc fun f t u a X K hK => wp_load hop (X.ev hx) (hr u ((X.I.2.1.cv k hk) c _ hl).1) hK
end
end Go.Proofs.Ythncmahhnbpbkaa
/- Regions by one record: stores, new blocks, and the whole. -/
namespace Go.Proofs.Ythncmahhnbpbkaa
open Go.RowKit
set_option linter.unusedVariables false
set_option linter.unusedSimpArgs false
abbrev Nw := Nat × Nat × List Value × Option (Nat × List Value)
def nwf0 (i : Nat) (q : Nw) : Bool := q.1 != i && (match q.2.2.2 with | none => true | some p => p.1 != i)
def nwf (i d : Nat) (q : Nw) : Bool := q.1 != i && q.2.1 != d && (match q.2.2.2 with | none => true | some p => p.1 != i)
def stF (f : Nat → Bool) : Option (Nat × List Value) → Bool
  | none => false
  | some p => f p.1
def stP (pre : List Value) : Option (Nat × List Value) → List Value
  | none => pre
  | some p => p.2
theorem nwF_get {f : Nat → Bool} {t : Nat → Value} {j d : Nat} {pre : List Value} {s : Option (Nat × List Value)} : ∀ {nw : List Nw} {n : Nat}, nw[n]? = some (j, d, pre, s) → (nwF f t nw)[n]? = some (f j, stF f s, t d, pre, stP pre s)
  | [], n, h => by simp at h
  | q :: r, 0, h => by
    simp at h; subst h
    cases s with
    | none => rfl
    | some p => rfl
  | (j', d', pre', none) :: r, n + 1, h => by rw [nwF, List.getElem?_cons_succ]; exact nwF_get (by simpa using h)
  | (j', d', pre', some p) :: r, n + 1, h => by rw [nwF, List.getElem?_cons_succ]; exact nwF_get (by simpa using h)
theorem nwF_store {f : Nat → Bool} {t : Nat → Value} {i j d : Nat} {pre post : List Value} (hji : j ≠ i) : ∀ {nw : List Nw} {n : Nat}, nw[n]? = some (j, d, pre, some (i, post)) → ((nw.eraseIdx n).all (nwf0 i)) = true → nwF (updF f i) t nw = (nwF f t nw).set n (f j, true, t d, pre, post)
  | [], n, h, _ => by simp at h
  | q :: r, 0, h, hx => by
    simp at h; subst h
    simp only [List.eraseIdx_cons_zero] at hx
    rw [nwF, nwF, List.set_cons_zero, updF_ne hji, updF_eq, nwF_free0 hx]
  | (j', d', pre', none) :: r, n + 1, h, hx => by
    simp only [List.eraseIdx_cons_succ, List.all_cons, Bool.and_eq_true] at hx
    have h1 := hx.1
    simp only [nwf0, Bool.and_eq_true, bne_iff_ne, ne_eq, and_true] at h1
    rw [nwF, nwF, List.set_cons_succ, updF_ne h1, nwF_store hji (by simpa using h) hx.2]
  | (j', d', pre', some p) :: r, n + 1, h, hx => by
    simp only [List.eraseIdx_cons_succ, List.all_cons, Bool.and_eq_true] at hx
    have h1 := hx.1
    simp only [nwf0, Bool.and_eq_true, bne_iff_ne, ne_eq] at h1
    rw [nwF, nwF, List.set_cons_succ, updF_ne h1.1, updF_ne h1.2, nwF_store hji (by simpa using h) hx.2]
theorem nwF_new {f : Nat → Bool} {t : Nat → Value} {i d : Nat} {pre : List Value} {s : Option (Nat × List Value)} {v : Value} (hs : ∀ p, s = some p → p.1 ≠ i) : ∀ {nw : List Nw} {n : Nat}, nw[n]? = some (i, d, pre, s) → ((nw.eraseIdx n).all (nwf i d)) = true →
    nwF (updF f i) (updT t d v) nw = (nwF f t nw).set n (true, stF f s, v, pre, stP pre s)
  | [], n, h, _ => by simp at h
  | q :: r, 0, h, hx => by
    simp at h; subst h
    simp only [List.eraseIdx_cons_zero] at hx
    have hv : updT t d v d = v := by simp [updT]
    cases s with
    | none => rw [nwF, nwF, List.set_cons_zero, updF_eq, hv, nwF_free hx]; rfl
    | some p => rw [nwF, nwF, List.set_cons_zero, updF_eq, updF_ne (hs p rfl), hv, nwF_free hx]; rfl
  | (j', d', pre', none) :: r, n + 1, h, hx => by
    simp only [List.eraseIdx_cons_succ, List.all_cons, Bool.and_eq_true] at hx
    have h1 := hx.1
    simp only [nwf, Bool.and_eq_true, bne_iff_ne, ne_eq, and_true] at h1
    rw [nwF, nwF, List.set_cons_succ, updF_ne h1.1, nwF_new hs (by simpa using h) hx.2]
    simp only [updT, if_neg h1.2]
  | (j', d', pre', some p) :: r, n + 1, h, hx => by
    simp only [List.eraseIdx_cons_succ, List.all_cons, Bool.and_eq_true] at hx
    have h1 := hx.1
    simp only [nwf, Bool.and_eq_true, bne_iff_ne, ne_eq] at h1
    rw [nwF, nwF, List.set_cons_succ, updF_ne h1.1.1, updF_ne h1.2, nwF_new hs (by simpa using h) hx.2]
    simp only [updT, if_neg h1.1.2]
/-- All such values are used up. -/
def eDone (i : Nat) (o : Oper) (E : List En) : Bool := E.all fun q => q.i != i && (match q.c with | some c => hasDep o c && c != i | none => false)
theorem Es.done {f : Nat → Bool} {t : Nat → Value} {v : World} {i : Nat} {o : Oper} (dep : ∀ e ∈ o.after, Region.binds .any e = true → f e.on = true) : ∀ {E : List En}, eDone i o E = true → Es (updF f i) t v E
  | [], _ => trivial
  | q :: r, he => by
    unfold eDone at he
    simp only [List.all_cons, Bool.and_eq_true] at he
    refine ⟨fun _ h2 => ?_, Es.done dep (by unfold eDone; simpa using he.2)⟩
    have h3 := he.1.2
    cases hc : q.c with
    | none => rw [hc] at h3; cases h3
    | some c =>
      rw [hc] at h3
      simp only [Bool.and_eq_true, bne_iff_ne, ne_eq] at h3
      have := h2 c hc
      rw [updF_ne h3.2, hasDep_spec h3.1 dep] at this
      cases this
def Rg.chkS (R : Rg) (ops : Array Oper) (i : Nat) (o : Oper) : Bool := (match o.dst with | none => true | some _ => false) && lacks i R.G && (R.okO i o && eDone i o R.E) && (wants R ops o == some true)
section
variable {R : Rg} {P : Program} {ops : Array Oper} {Q : Exit → Act → World → Prop} {f : Nat → Bool} {t : Nat → Value} {u : World} {a : Act} {i : Nat} {o : Oper}
theorem chkS_parts (h : R.chkS ops i o = true) : o.dst = none ∧ lacks i R.G = true ∧ (R.okO i o = true ∧ eDone i o R.E = true) ∧ wants R ops o = some true := by
  unfold Rg.chkS at h
  cases hd : o.dst with
  | some d => rw [hd] at h; simp at h
  | none =>
    rw [hd] at h
    simp only [Bool.true_and] at h
    rw [Bool.and_eq_true, Bool.and_eq_true, Bool.and_eq_true, beq_iff_eq] at h
    exact ⟨rfl, h.1.1, h.1.2, h.2⟩
theorem Xs.put0 (X : Xs R ops f t u a i o) {v : Value} {u' : World} (hc : R.chkS ops i o = true) (hM : MR R.lo R.w R.base [] [] (nwF (updF f i) t R.nw) u') (hK : KC (updF f i) u' R.lo R.base R.es) :
    ∃ t', Fr R.fr R.S (a.put o.dst v) t' ∧ Inv R (updF f i) t' u' := by
  obtain ⟨hd, h1, ⟨h5, h6⟩, _⟩ := chkS_parts hc
  exact ⟨t, by rw [hd]; exact X.F, hM, hK, Gs.idle h1 X.I.2.2.1, okO_spec h5 X.I.2.2.2.1 X.dep, Ns.idle X.I.2.2.2.2.1, Es.done X.dep h6⟩
/-- A new block is written. -/
theorem g_sn (n : Nat) {T : TypeId} {y : Operand} {j d : Nat} {pre post : List Value} {m : Nat} (hi : (P.info? T).map (·.size) = some m) (hop : o.op = .store T (.tmp d) y := by rfl) (hn : R.nw[n]? = some (j, d, pre, some (i, post)) := by rfl) (hy : evR R i o y = some (.agg post.toArray) := by rfl) (h1 : allOne post = true := by rfl)
    (hm : post.length = m := by rfl) (hl : post.length = pre.length := by rfl) (hx : (hasDep o j && (j != i) && ((R.nw.eraseIdx n).all (nwf0 i)) && (R.es.all fun q => q.2.2.2.free i) && R.S.contains d) = true := by rfl) (hc : R.chkS ops i o = true := by rfl) : OG R P ops Q i o := fun f t u a X => by
  simp only [Bool.and_eq_true, bne_iff_ne, ne_eq, List.contains_iff_mem] at hx
  obtain ⟨⟨⟨⟨x1, x2⟩, x3⟩, x4⟩, x5⟩ := hx
  have hM := X.I.1
  have fj : f j = true := hasDep_spec x1 X.dep
  have hg := nwF_get (f := f) (t := t) hn
  obtain ⟨b, e, b1, b2, b3⟩ := hM.nw.get hg fj
  have e : t d = .pointer (some ⟨b, 0, none⟩) := e
  have b3 : CV u b (bif f i then post else pre) := b3
  rw [X.fi] at b3
  refine X.go (chkS_parts hc).2.2.2 fun K hK => wp_store_mid T _ y hop b 0 post.toArray (by rw [X.inS x5, e]) (X.ev hy) (by rw [List.size_toArray, hl]; exact CV.there b3) (by rw [List.size_toArray, hm]; exact hi) (all_one h1) ?_
  refine hK _ _ (X.put0 hc ?_ ?_)
  · rw [nwF_store x2 hn x3]
    exact MR.putF n hM hg fj e b1 hl
  · have hK2 : KC f (u.setCells b 0 post) R.lo R.base R.es := by
      have := X.I.2.1
      revert this
      generalize R.es = es
      induction es with
      | nil => intro _; trivial
      | cons q r ih => exact fun h => ⟨⟨h.1.1, h.1.2.1, h.1.2.2.cells (by have := h.1.1; omega) _ _⟩, ih h.2⟩
    exact hK2.free x4
/-- A new block. -/
theorem g_al (n : Nat) {T : TypeId} {d : Nat} {pre : List Value} {s : Option (Nat × List Value)} (hr : ∀ w, (Instr.alloc T true (.tuple #[])).run P w = .ok (.pointer (some ⟨w.heap.size, 0, none⟩)) (w.alloc (.cells pre.toArray T))) (hop : o.op = .alloc T := by rfl) (hd : o.dst = some d := by rfl) (hn : R.nw[n]? = some (i, d, pre, s) := by rfl)
    (hx : ((match s with | none => true | some p => p.1 != i && R.later i p.1) && ((R.nw.eraseIdx n).all (nwf i d)) && (R.es.all fun q => q.2.2.2.free i) && R.S.contains d && owns i d R.G && apart i d R.Ns && R.okO i o && (wants R ops o == some true) && eFree i d R.E) = true := by rfl) : OG R P ops Q i o := fun f t u a X => by
  rw [Bool.and_eq_true, Bool.and_eq_true, Bool.and_eq_true, Bool.and_eq_true, Bool.and_eq_true, Bool.and_eq_true, Bool.and_eq_true, Bool.and_eq_true, List.contains_iff_mem, beq_iff_eq] at hx
  obtain ⟨⟨⟨⟨⟨⟨⟨⟨x1, x3⟩, x4⟩, x5⟩, x6⟩, x7⟩, x8⟩, x9⟩, x10⟩ := hx
  have hM := X.I.1
  have hs : ∀ p, s = some p → p.1 ≠ i := fun p e => by subst e; simp only [Bool.and_eq_true, bne_iff_ne, ne_eq] at x1; exact x1.1
  have hg := nwF_get (f := f) (t := t) hn
  refine X.go x9 fun K hK => wp_alloc hop (hr u) (hK _ _ ⟨updT t d (.pointer (some ⟨u.heap.size, 0, none⟩)), ?_, ?_, ?_, Gs.other x6 X.I.2.2.1, okO_spec x8 X.I.2.2.2.1 X.dep, Ns.step X.I.2.2.2.2.1 x7, Es.step (balloc (bself u) _) X.st x10 X.I.2.2.2.2.2⟩)
  · rw [hd]; exact X.F.put X.parts.1 x5 _
  · rw [nwF_new hs hn x3]
    refine MR.newF n hM hg X.fi ?_
    cases s with
    | none => rfl
    | some p =>
      simp only [Bool.and_eq_true] at x1
      exact X.later x1.2
  · exact (X.I.2.1.below (balloc (bself u) _) X.I.1.sz).free x4
theorem MR.wr {lo base b : Nat} {w u v : World} {nw : List (Bool × Bool × Value × List Value × List Value)} (h : MR lo w base [] [] nw u) (hB : Below lo w v) (c : Chg b u v) (hb : b < base) : MR lo w base [] [] nw v :=
  { bel := hB, lo := h.lo, sz := by rw [c.size]; exact h.sz, ks := trivial, ex := trivial, nw := h.nw.chg c (h.nw.lo hb), nd := h.nd }
/-- A block is written whole. -/
theorem g_st (k : Nat) {T : TypeId} {x y : Operand} {b : Nat} {l post : List Value} {m : Nat} (hi : (P.info? T).map (·.size) = some m) (hop : o.op = .store T x y := by rfl) (hn : R.es[k]? = some (true, b, l, .all i post) := by rfl) (hx : evR R i o x = some (.pointer (some ⟨b, 0, none⟩)) := by rfl) (hy : evR R i o y = some (.agg post.toArray) := by rfl) (h1 : allOne post = true := by rfl)
    (hm : post.length = m := by rfl) (hl : post.length = l.length := by rfl) (hf : (((R.es.eraseIdx k).all fun q => q.2.2.2.free i) && (R.nw.all (nwf0 i))) = true := by rfl) (hc : R.chkS ops i o = true := by rfl) : OG R P ops Q i o := fun f t u a X => by
  simp only [Bool.and_eq_true] at hf
  obtain ⟨q1, q2, q3⟩ := X.I.2.1.get hn
  have q3 : CV u b (bif f i then post else l) := q3
  rw [X.fi] at q3
  have q3 : CV u b l := q3
  have c := Chg.cells u b post
  refine X.go (chkS_parts hc).2.2.2 fun K hK => wp_store_mid T x y hop b 0 post.toArray (X.ev hx) (X.ev hy) (by rw [List.size_toArray, hl]; exact q3.there) (by rw [List.size_toArray, hm]; exact hi) (all_one h1) (hK _ _ (X.put0 hc ?_ ?_))
  · rw [nwF_free0 hf.2]
    exact X.I.1.wr (below_setCells (q2 rfl) _ _ _ X.I.1.bel) c q1
  · exact KC.put c X.I.2.1 hn X.nd hf.1 (by simp only [Wr.val, updF_eq, cond_true]; exact q3.put hl)
theorem cellsF_len {f : Nat → Bool} : ∀ {cs : List (Nat × Nat × Value)} {l : List Value}, (cellsF f cs l).length = l.length
  | [], _ => rfl
  | q :: r, l => by rw [cellsF, cellsF_len]; cases f q.2.1 <;> simp
theorem cellsF_set {f : Nat → Bool} {c : Nat} {v : Value} : ∀ {cs : List (Nat × Nat × Value)} {l : List Value}, (∀ q ∈ cs, q.1 ≠ c) → cellsF f cs (l.set c v) = (cellsF f cs l).set c v
  | [], _, _ => rfl
  | q :: r, l, h => by
    rw [cellsF, cellsF, ← cellsF_set (fun q hq => h q (List.mem_cons_of_mem _ hq))]
    congr 1
    cases f q.2.1
    · rfl
    · simp only [cond_true]; rw [List.set_comm _ _ (fun e => h q List.mem_cons_self e.symm)]
theorem cellsF_put {f : Nat → Bool} {i c : Nat} {v : Value} (hi : f i = false) : ∀ {cs : List (Nat × Nat × Value)} {m : Nat} {l : List Value}, cs[m]? = some (c, i, v) → ((cs.eraseIdx m).all fun q => q.1 != c && q.2.1 != i) = true → cellsF (updF f i) cs l = (cellsF f cs l).set c v
  | [], m, _, h, _ => by simp at h
  | q :: r, 0, l, h, hx => by
    simp at h; subst h
    simp only [List.eraseIdx_cons_zero] at hx
    have hne : ∀ q ∈ r, q.1 ≠ c := fun q hq => by have := List.all_eq_true.1 hx q hq; simp at this; exact this.1
    have hfr : (r.all fun q => q.2.1 != i) = true := List.all_eq_true.2 fun q hq => by have := List.all_eq_true.1 hx q hq; simp at this ⊢; exact this.2
    rw [cellsF, cellsF, updF_eq, hi, cellsF_free hfr, cond_true, cond_false, cellsF_set hne]
  | q :: r, m + 1, l, h, hx => by
    simp only [List.eraseIdx_cons_succ, List.all_cons, Bool.and_eq_true, bne_iff_ne, ne_eq] at hx
    rw [cellsF, cellsF, updF_ne hx.1.2, cellsF_put hi (cs := r) (m := m) (by simpa using h) (by simpa using hx.2)]
/-- A cell of a block is written. -/
theorem g_sc (k m : Nat) {T : TypeId} {x y : Operand} {b c : Nat} {l : List Value} {cs : List (Nat × Nat × Value)} {v0 v : Value} (hr : ∀ w, w.cell? ⟨b, c, none⟩ = some v0 → w.frozen? ⟨b, c, none⟩ = false → (Instr.storeAt T (.pointer (some ⟨b, c, none⟩)) v).run P w = .ok () (w.setCell ⟨b, c, none⟩ v))
    (hop : o.op = .store T x y := by rfl) (hn : R.es[k]? = some (true, b, l, .cs cs) := by rfl) (hm : cs[m]? = some (c, i, v) := by rfl) (h0 : l[c]? = some v0 := by rfl) (hx : evR R i o x = some (.pointer (some ⟨b, c, none⟩)) := by rfl) (hy : evR R i o y = some v := by rfl)
    (hf : (((R.es.eraseIdx k).all fun q => q.2.2.2.free i) && (R.nw.all (nwf0 i)) && ((cs.eraseIdx m).all fun q => q.1 != c && q.2.1 != i)) = true := by rfl) (hc : R.chkS ops i o = true := by rfl) : OG R P ops Q i o := fun f t u a X => by
  simp only [Bool.and_eq_true] at hf
  obtain ⟨q1, q2, q3⟩ := X.I.2.1.get hn
  have q3 : CV u b (cellsF f cs l) := q3
  have hcell : (cellsF f cs l)[c]? = some v0 := by
    rw [cellsF_get (fun q hq => ?_)]
    · exact h0
    · obtain ⟨j, hj⟩ := List.mem_iff_getElem?.1 hq
      by_cases e : j = m
      · subst e; rw [hm] at hj; cases hj; exact .inr X.fi
      · left
        have hmem : q ∈ cs.eraseIdx m := by
          rw [List.mem_eraseIdx_iff_getElem?]
          exact ⟨j, e, hj⟩
        have := List.all_eq_true.1 hf.2 q hmem
        simp at this; exact this.1
  have cc := Chg.cell u b c v
  have hlt : c < (cellsF f cs l).length := (List.getElem?_eq_some_iff.1 hcell).1
  refine X.go (chkS_parts hc).2.2.2 fun K hK => wp_store hop (X.ev hx) (X.ev hy) (hr u (q3 c _ hcell).1 (q3 c _ hcell).2) (hK _ _ (X.put0 hc ?_ ?_))
  · rw [nwF_free0 hf.1.2]
    exact X.I.1.wr (X.I.1.bel.setCell (q2 rfl) _) cc q1
  · refine KC.put cc X.I.2.1 hn X.nd hf.1.1 ?_
    simp only [Wr.val]
    rw [cellsF_put X.fi hm hf.2]
    exact q3.setC c hlt v
/-- All of them lie below b. -/
def LtB (b : Nat) : List Ent → Prop
  | [] => True
  | q :: r => q.2.1 < b ∧ LtB b r
theorem KC.putB {f : Nat → Bool} {u v : World} {lo base i b : Nat} (hB : Below b u v) : ∀ {es : List Ent} {k : Nat} {o : Bool} {l : List Value} {x : Wr}, KC f u lo base es → es[k]? = some (o, b, l, x) → LtB b (es.eraseIdx k) →
    ((es.eraseIdx k).all fun q => q.2.2.2.free i) = true → CV v b (x.val (updF f i) l) → KC (updF f i) v lo base es
  | [], k, _, _, _, _, h, _, _, _ => by simp at h
  | q :: r, 0, o, l, x, h, e, n, hx, hv => by
    simp at e; subst e
    simp only [List.eraseIdx_cons_zero] at hx n
    refine ⟨⟨h.1.1, h.1.2.1, hv⟩, ?_⟩
    have hr : ∀ {es : List Ent}, LtB b es → (es.all fun q => q.2.2.2.free i) = true → KC f u lo base es → KC (updF f i) v lo base es := by
      intro es
      induction es with
      | nil => intros; trivial
      | cons y ys ih =>
        intro hb hy hk
        simp only [List.all_cons, Bool.and_eq_true] at hy
        exact ⟨⟨hk.1.1, hk.1.2.1, by rw [Wr.val_free hy.1]; exact hk.1.2.2.below hB hb.1⟩, ih hb.2 hy.2 hk.2⟩
    exact hr n hx h.2
  | q :: r, k + 1, o, l, x, h, e, n, hx, hv => by
    simp only [List.eraseIdx_cons_succ] at n hx
    simp only [List.all_cons, Bool.and_eq_true] at hx
    have e' : r[k]? = some (o, b, l, x) := by simpa using e
    exact ⟨⟨h.1.1, h.1.2.1, by rw [Wr.val_free hx.1]; exact h.1.2.2.below hB n.1⟩, KC.putB hB (es := r) (k := k) h.2 e' n.2 hx.2 hv⟩
/-- A call that writes a block. -/
theorem g_cx (k : Nat) {N : FuncId} {args : List Operand} {tys : Array TypeId} {vs : List Value} {v : Value} {b : Nat} {l post : List Value} (hr : ∀ (vs : Array Value) (w : World), (callFunc N vs).run P w = .ok (.enter N vs) w)
    (hcall : ∀ f w, KC f w R.lo R.base R.es → R.base ≤ w.heap.size → CV w b l → Calls P N vs.toArray w fun e w' => e = .returned v ∧ Below b w w' ∧ CV w' b post) (hlt : LtB b (R.es.eraseIdx k)) (hop : o.op = .call { callee := .value (.func N), args := args.toArray, argTypes := tys } := by rfl) (hn : R.es[k]? = some (true, b, l, .all i post) := by rfl) (hx : args.mapM (evR R i o) = some vs := by rfl) (hv : some v = pickV i R.G := by rfl)
    (hw : R.nw = [] := by rfl) (hE : R.E = [] := by rfl) (hc : ((match o.dst with | some d => ownsA i d R.G && apart i d R.Ns && R.S.contains d | none => false) && R.okO i o && ((R.es.eraseIdx k).all fun q => q.2.2.2.free i) && (wants R ops o == some true)) = true := by rfl) : OG R P ops Q i o := fun f t u a X => by
  cases hd : o.dst with
  | none => rw [hd] at hc; simp at hc
  | some d =>
    rw [hd] at hc
    simp only [Bool.and_eq_true, List.contains_iff_mem, beq_iff_eq] at hc
    obtain ⟨q1, q2, q3⟩ := X.I.2.1.get hn
    have q3 : CV u b (bif f i then post else l) := q3
    rw [X.fi] at q3
    have q3 : CV u b l := q3
    refine X.go hc.2 fun K hK => wp_callX hop (X.evs hx) hr (B := fun w' => Below b u w' ∧ CV w' b post) ((hcall f u X.I.2.1 X.I.1.sz q3)) fun w' hB => hK _ _ ⟨updT t d v, by rw [hd]; exact X.F.put X.parts.1 hc.1.1.1.2 v, ?_, ?_, Gs.stepA X.I.2.2.1 hc.1.1.1.1.1 hv.symm, okO_spec hc.1.1.2 X.I.2.2.2.1 X.dep, Ns.step X.I.2.2.2.2.1 hc.1.1.1.1.2, by rw [hE]; trivial⟩
    · have hM := X.I.1
      rw [hw] at hM ⊢
      exact { bel := hM.bel.trans (hB.1.mono (q2 rfl)), lo := hM.lo, sz := Nat.le_trans hM.sz hB.1.size, ks := trivial, ex := trivial, nw := trivial, nd := trivial }
    · exact KC.putB hB.1 X.I.2.1 hn hlt hc.1.2 (by simp only [Wr.val, updF_eq, cond_true]; exact hB.2)
end
/-- All operations of the region. -/
def OpsAll (R : Rg) (P : Program) (ops : Array Oper) (Q : Exit → Act → World → Prop) : Nat → List Oper → Prop
  | _, [] => True
  | i, o :: r => OG R P ops Q i o ∧ OpsAll R P ops Q (i + 1) r
theorem OpsAll.get {R : Rg} {P : Program} {ops : Array Oper} {Q : Exit → Act → World → Prop} {o : Oper} : ∀ {l : List Oper} {i n : Nat}, OpsAll R P ops Q i l → l[n]? = some o → OG R P ops Q (i + n) o
  | [], i, n, _, h => by simp at h
  | x :: r, i, 0, h, e => by simp at e; subst e; exact h.1
  | x :: r, i, n + 1, h, e => by
    have := OpsAll.get (l := r) (i := i + 1) (n := n) h.2 (by simpa using e)
    rwa [show i + 1 + n = i + (n + 1) by omega] at this
theorem oc {R : Rg} {P : Program} {ops : Array Oper} {Q : Exit → Act → World → Prop} {i : Nat} {o : Oper} {r : List Oper} (h : OG R P ops Q i o) (k : OpsAll R P ops Q (i + 1) r) : OpsAll R P ops Q i (o :: r) := ⟨h, k⟩
theorem on {R : Rg} {P : Program} {ops : Array Oper} {Q : Exit → Act → World → Prop} {i : Nat} : OpsAll R P ops Q i [] := trivial
def AllNew : List Nw → (List Nat → Prop) → Prop
  | [], p => p []
  | _ :: r, p => ∀ b, AllNew r fun bs => p (b :: bs)
theorem AllNew.app : ∀ {nw : List Nw} {bs : List Nat} {p : List Nat → Prop}, bs.length = nw.length → AllNew nw p → p bs
  | [], [], _, _, h => h
  | [], _ :: _, _, e, _ => by simp at e
  | _ :: _, [], _, e, _ => by simp at e
  | _ :: r, b :: bs, p, e, h => AllNew.app (nw := r) (bs := bs) (p := fun bs => p (b :: bs)) (by simpa using e) (h b)
def nP : Nw → List Value
  | (_, _, pre, none) => pre
  | (_, _, _, some p) => p.2
def nK : List Nat → List Nw → List Blk
  | b :: bs, q :: r => (true, b, nP q) :: nK bs r
  | _, _ => []
@[go_sem] def setG : List Value → List (Nat × Nat × Value) → List Value
  | fr, [] => fr
  | fr, q :: r => setG (fr.set q.2.1 q.2.2) r
@[go_sem] def setN : List Value → List Nat → List Nw → List Value
  | fr, b :: bs, q :: r => setN (fr.set q.2.1 (.pointer (some ⟨b, 0, none⟩))) bs r
  | fr, _, _ => fr
theorem ovr_app (t : Nat → Value) : ∀ (S T : List Nat) (fr : List Value), ovr fr (S ++ T) t = ovr (ovr fr S t) T t
  | [], _, _ => rfl
  | s :: S, T, fr => by rw [List.cons_append, ovr, ovr, ovr_app t S T]
theorem ovr_G {t : Nat → Value} : ∀ {G : List (Nat × Nat × Value)} {fr : List Value}, AllEq t G → ovr fr (G.map (·.2.1)) t = setG fr G
  | [], _, _ => rfl
  | q :: r, fr, h => by rw [List.map_cons, ovr, setG, h.1]; exact ovr_G h.2
def nwUp (n : Nat) (q : Nw) : Bool := decide (q.1 < n) && (match q.2.2.2 with | none => true | some p => decide (p.1 < n))
theorem news_of {f : Nat → Bool} {t : Nat → Value} {u : World} {base n : Nat} (hf : ∀ i, i < n → f i = true) : ∀ {nw : List Nw}, (nw.all (nwUp n)) = true → NwP u base (nwF f t nw) → NdP (nwF f t nw) →
    ∃ bs : List Nat, bs.length = nw.length ∧ (∀ lo, lo ≤ base → KA lo u (nK bs nw)) ∧ (∀ b ∈ bs, base ≤ b) ∧ bs.Nodup ∧ (nK bs nw).map (·.2.1) = bs ∧ (∀ fr, ovr fr (nw.map (·.2.1)) t = setN fr bs nw) ∧ (∀ b ∈ bs, NeP (.pointer (some ⟨b, 0, none⟩)) (nwF f t nw) → False)
  | [], _, _, _ => ⟨[], rfl, fun _ _ => trivial, by simp, by simp, rfl, fun _ => rfl, by simp⟩
  | q :: r, hq, hw, hd => by
    simp only [List.all_cons, Bool.and_eq_true] at hq
    obtain ⟨j, d, pre, s⟩ := q
    cases s with
    | none =>
      have hj : f j = true := hf j (by have := hq.1; simp only [nwUp, Bool.and_eq_true, decide_eq_true_eq] at this; exact this.1)
      rw [nwF] at hw hd
      obtain ⟨b, e, b1, b2, b3⟩ := hw.1 hj
      have e : t d = .pointer (some ⟨b, 0, none⟩) := e
      have b3 : CV u b pre := b3
      obtain ⟨bs, l1, l2, l3, l4, l5, l6, l7⟩ := news_of hf hq.2 hw.2 hd.2
      have hne := hd.1 hj
      rw [show (f j, false, t d, pre, pre).2.2.1 = t d from rfl, e] at hne
      refine ⟨b :: bs, by simp [l1], fun lo hlo => ⟨⟨b2, fun _ => Nat.le_trans hlo b1, b3⟩, l2 lo hlo⟩, ?_, ?_, by rw [nK, List.map_cons, l5], fun fr => by rw [List.map_cons, ovr, setN, e]; exact l6 _, ?_⟩
      · intro x hx; rcases List.mem_cons.1 hx with rfl | hx
        · exact b1
        · exact l3 x hx
      · exact List.nodup_cons.2 ⟨fun hm => l7 b hm hne, l4⟩
      · intro x hx hn
        rw [nwF] at hn
        rcases List.mem_cons.1 hx with rfl | hx
        · exact hn.1 hj e
        · exact l7 x hx hn.2
    | some p =>
      have hup := hq.1
      simp only [nwUp, Bool.and_eq_true, decide_eq_true_eq] at hup
      have hj : f j = true := hf j hup.1
      have hp : f p.1 = true := hf p.1 hup.2
      rw [nwF] at hw hd
      obtain ⟨b, e, b1, b2, b3⟩ := hw.1 hj
      have e : t d = .pointer (some ⟨b, 0, none⟩) := e
      have b3 : CV u b (bif f p.1 then p.2 else pre) := b3
      rw [hp] at b3
      have b3 : CV u b p.2 := b3
      obtain ⟨bs, l1, l2, l3, l4, l5, l6, l7⟩ := news_of hf hq.2 hw.2 hd.2
      have hne := hd.1 hj
      rw [show (f j, f p.1, t d, pre, p.2).2.2.1 = t d from rfl, e] at hne
      refine ⟨b :: bs, by simp [l1], fun lo hlo => ⟨⟨b2, fun _ => Nat.le_trans hlo b1, b3⟩, l2 lo hlo⟩, ?_, ?_, by rw [nK, List.map_cons, l5], fun fr => by rw [List.map_cons, ovr, setN, e]; exact l6 _, ?_⟩
      · intro x hx; rcases List.mem_cons.1 hx with rfl | hx
        · exact b1
        · exact l3 x hx
      · exact List.nodup_cons.2 ⟨fun hm => l7 b hm hne, l4⟩
      · intro x hx hn
        rw [nwF] at hn
        rcases List.mem_cons.1 hx with rfl | hx
        · exact hn.1 hj e
        · exact l7 x hx hn.2
theorem KA.app {lo : Nat} {u : World} : ∀ {k1 k2 : List Blk}, KA lo u k1 → KA lo u k2 → KA lo u (k1 ++ k2)
  | [], _, _, h => h
  | _ :: r, _, h1, h2 => ⟨h1.1, KA.app h1.2 h2⟩
def aK : List Blk → List Blk → List Blk
  | [], l => l
  | q :: r, l => q :: aK r l
theorem aK_eq : ∀ (k l : List Blk), aK k l = k ++ l
  | [], _ => rfl
  | q :: r, l => by rw [aK, aK_eq r l]; rfl
/-- Those that are kept. -/
def pM : List Bool → List Blk → List Blk
  | true :: m, q :: r => q :: pM m r
  | false :: m, _ :: r => pM m r
  | [], l => l
  | _ :: _, [] => []
theorem pM_sub : ∀ (m : List Bool) (l : List Blk), (pM m l).Sublist l
  | true :: m, q :: r => (pM_sub m r).cons_cons q
  | false :: m, q :: r => (pM_sub m r).cons q
  | [], l => List.Sublist.refl l
  | true :: _, [] => List.Sublist.refl []
  | false :: _, [] => List.Sublist.refl []
theorem KA.pick {lo : Nat} {u : World} : ∀ (m : List Bool) {l : List Blk}, KA lo u l → KA lo u (pM m l)
  | true :: m, q :: r, h => ⟨h.1, KA.pick m h.2⟩
  | false :: m, q :: r, h => KA.pick m h.2
  | [], l, h => h
  | true :: _, [], _ => trivial
  | false :: _, [], _ => trivial
theorem Bk.pick {lo : Nat} {u : World} {l : List Blk} (m : List Bool) (h : Bk lo u l) : Bk lo u (pM m l) := ⟨h.a.pick m, ((pM_sub m l).map _).nodup h.n⟩
def mkR (fr : List Value) (lo : Nat) (w : World) (base : Nat) (ks : List Blk) (X : List Wr) (nw : List Nw) (G : List (Nat × Nat × Value)) (O N : List (Nat × Nat)) (E : List En) : Rg := ⟨fr, G.map (·.2.1) ++ (nw.map (·.2.1) ++ E.map (·.d)), lo, w, base, withX ks X, nw, G, O, N, E⟩
def fits (n : Nat) (X : List Wr) (nw : List Nw) (G : List (Nat × Nat × Value)) (E : List En) : Bool := X.all (Wr.upto n) && nw.all (nwUp n) && (G.all fun q => decide (q.1 < n)) && E.all fun q => decide (q.i < n)
def AllE (u : World) : List En → (List Value → Prop) → Prop
  | [], p => p []
  | q :: r, p => ∀ v, (q.c = none → q.p u v) → AllE u r fun vs => p (v :: vs)
@[go_sem] def setE : List Value → List Value → List En → List Value
  | fr, v :: vs, q :: r => setE (fr.set q.d v) vs r
  | fr, _, _ => fr
theorem setE_ovr {t : Nat → Value} : ∀ {E : List En} {fr : List Value}, ovr fr (E.map (·.d)) t = setE fr (E.map fun q => t q.d) E
  | [], _ => rfl
  | q :: r, fr => by rw [List.map_cons, ovr, List.map_cons, setE]; exact setE_ovr
theorem AllE.app {t : Nat → Value} {u : World} : ∀ {E : List En} {p : List Value → Prop}, (∀ q ∈ E, q.c = none → q.p u (t q.d)) → AllE u E p → p (E.map fun q => t q.d)
  | [], _, _, h => h
  | q :: r, p, hq, h => AllE.app (E := r) (p := fun vs => p (t q.d :: vs)) (fun x hx => hq x (List.mem_cons_of_mem _ hx)) (h _ (hq q List.mem_cons_self))
theorem Es.all {f : Nat → Bool} {t : Nat → Value} {u : World} {n : Nat} (hf : ∀ i, i < n → f i = true) : ∀ {E : List En}, (E.all fun q => decide (q.i < n)) = true → Es f t u E → ∀ q ∈ E, q.c = none → q.p u (t q.d)
  | [], _, _, q, hq, _ => by cases hq
  | x :: r, he, h, q, hq, hc => by
    simp only [List.all_cons, Bool.and_eq_true, decide_eq_true_eq] at he
    rcases List.mem_cons.1 hq with rfl | hq
    · exact h.1 (hf _ he.1) (fun c e => by rw [hc] at e; cases e)
    · exact Es.all hf he.2 h.2 q hq hc
theorem Es.none {t : Nat → Value} {u : World} : ∀ {E : List En}, Es (fun _ => false) t u E
  | [] => trivial
  | _ :: _ => ⟨fun e => (by cases e), Es.none⟩
theorem NwP.none {t : Nat → Value} {u : World} {base : Nat} : ∀ {nw : List Nw}, NwP u base (nwF (fun _ => false) t nw)
  | [] => trivial
  | (_, _, _, Option.none) :: r => ⟨fun e => (by cases e), NwP.none⟩
  | (_, _, _, some _) :: r => ⟨fun e => (by cases e), NwP.none⟩
theorem NdP.none {t : Nat → Value} : ∀ {nw : List Nw}, NdP (nwF (fun _ => false) t nw)
  | [] => trivial
  | (_, _, _, Option.none) :: r => ⟨fun e => (by cases e), NdP.none⟩
  | (_, _, _, some _) :: r => ⟨fun e => (by cases e), NdP.none⟩
theorem Ns.start {fr : List Value} : ∀ {l : List (Nat × Nat)}, Ns (fun _ => false) (fun s => fr.getD s undef) (l.map fun q => (q.1, q.2, fr.getD q.2 undef))
  | [] => trivial
  | _ :: _ => ⟨fun _ => rfl, Ns.start⟩
theorem KA.lts {lo : Nat} {u : World} {n : Nat} : ∀ {f : Nat → Bool} {es : List Ent}, KC f u lo n es → ∀ x ∈ es.map (·.2.1), x < n
  | _, [], _, x, hx => by cases hx
  | f, q :: r, h, x, hx => by
    rw [List.map_cons] at hx
    rcases List.mem_cons.1 hx with rfl | hx
    · exact h.1.1
    · exact KA.lts h.2 x hx
section
variable {P : Program} {ops : Array Oper} {Q : Exit → Act → World → Prop} {id : Nat} {w0 w : World} {fr : List Value} {lo : Nat} {ks : List Blk}
theorem Inv.start {v : World} (hv : Below lo w v) (hs : v.heap.size = w0.heap.size) (hK : KA lo v ks) (hlo : lo ≤ w0.heap.size) (X : List Wr) (nw : List Nw) (G : List (Nat × Nat × Value)) (O N : List (Nat × Nat)) (E : List En) :
    Inv (mkR fr lo w w0.heap.size ks X nw G O N E) (fun _ => false) (fun s => fr.getD s undef) v := by
  refine ⟨{ bel := hv, lo := hlo, sz := by rw [hs]; exact Nat.le_refl _, ks := trivial, ex := trivial, nw := NwP.none, nd := NdP.none }, ?_, Gs.none _ _, Os.none _, Ns.start, Es.none⟩
  have := hK.start X
  rw [hs] at this; exact this
theorem Inv.end {X : List Wr} {nw : List Nw} {G : List (Nat × Nat × Value)} {O N : List (Nat × Nat)} {E : List En} {M : List Bool} {f : Nat → Bool} {t : Nat → Value} {u : World} (hI : Inv (mkR fr lo w w0.heap.size ks X nw G O N E) f t u) (hf : ∀ i, i < ops.size → f i = true) (hfit : fits ops.size X nw G E = true) (hnd : (ks.map (·.2.1)).Nodup)
    (hend : ∀ u', AllNew nw fun bs => AllE u' E fun vs => Below lo w u' → w0.heap.size ≤ u'.heap.size → Bk lo u' (pM M (aK (fX ks X) (nK bs nw))) → Q .normal ⟨(setE (setN (setG fr G) bs nw) vs E).toArray, []⟩ u') : Q .normal ⟨(ovr fr (mkR fr lo w w0.heap.size ks X nw G O N E).S t).toArray, []⟩ u := by
  obtain ⟨hM, hK, hG, hO, hN, hE⟩ := hI
  unfold fits at hfit
  simp only [Bool.and_eq_true] at hfit
  have hAll : AllEq t G := Gs.all ops.size hf hG hfit.1.2
  obtain ⟨bs, l1, l2, l3, l4, l5, l6, _⟩ := news_of hf hfit.1.1.2 hM.nw hM.nd
  have he := ((hend u).app l1).app (Es.all hf hfit.2 hE) hM.bel hM.sz (Bk.pick M ⟨by rw [aK_eq]; exact KA.app (KC.fin hf hM.sz X hfit.1.1.1 hK) (l2 lo hM.lo), ?_⟩)
  · show Q .normal ⟨(ovr fr (G.map (·.2.1) ++ (nw.map (·.2.1) ++ E.map (·.d))) t).toArray, []⟩ u
    rw [ovr_app, ovr_app, ovr_G hAll, l6, setE_ovr]; exact he
  · rw [aK_eq, List.map_append, l5, fX_map, List.nodup_append]
    refine ⟨hnd, l4, fun x hx y hy e => ?_⟩
    subst e
    have h1 := KA.lts hK x (by show x ∈ (withX ks X).map (·.2.1); rw [withX_map]; exact hx)
    have h2 := l3 x hy
    have h1 : x < w0.heap.size := h1
    have h2 : w0.heap.size ≤ x := h2
    omega
/-- A region in the order of its text. -/
theorem rgF (K : Bk lo w0 ks) (HB : Below lo w w0) (hlo : lo ≤ w0.heap.size) (X : List Wr) (nw : List Nw) (G : List (Nat × Nat × Value)) (O N : List (Nat × Nat)) (E : List En) (M : List Bool) (hst : Stab E) (hops : OpsAll (mkR fr lo w w0.heap.size ks X nw G O N E) P ops Q 0 ops.toList)
    (hend : ∀ u', AllNew nw fun bs => AllE u' E fun vs => Below lo w u' → w0.heap.size ≤ u'.heap.size → Bk lo u' (pM M (aK (fX ks X) (nK bs nw))) → Q .normal ⟨(setE (setN (setG fr G) bs nw) vs E).toArray, []⟩ u')
    (hb : backs .any ops = true := by kernel_rfl) (hok : (mkR fr lo w w0.heap.size ks X nw G O N E).ok = true := by kernel_rfl) (hfit : fits ops.size X nw G E = true := by kernel_rfl) : (Code.region id ops false).wp P Q ⟨fr.toArray, []⟩ w0 := by
  refine region_plain (mkR fr lo w w0.heap.size ks X nw G O N E).S (Inv (mkR fr lo w w0.heap.size ks X nw G O N E)) hb (Inv.start HB rfl K.a hlo X nw G O N E) ?_ ?_
  · intro f t u i o a hF hI ho hfi hdep
    have := hops.get (n := i) (o := o) (by rw [Array.getElem?_toList]; exact ho)
    rw [Nat.zero_add] at this
    exact this f t u a ⟨hok, by show ((withX ks X).map (·.2.1)).Nodup; rw [withX_map]; exact K.n, hst, hF, hI, ho, hfi, hdep⟩
  · intro f t u hI hall
    exact hI.end hall hfit K.n hend
/-- A region that draws its order. -/
theorem rgE (K : Bk lo w0 ks) (HB : Below lo w w0) (hlo : lo ≤ w0.heap.size) (X : List Wr) (nw : List Nw) (G : List (Nat × Nat × Value)) (O N : List (Nat × Nat)) (E : List En) (M : List Bool) (hst : Stab E) (hops : OpsAll (mkR fr lo w w0.heap.size ks X nw G O N E) P ops Q 0 ops.toList)
    (hend : ∀ u', AllNew nw fun bs => AllE u' E fun vs => Below lo w u' → w0.heap.size ≤ u'.heap.size → Bk lo u' (pM M (aK (fX ks X) (nK bs nw))) → Q .normal ⟨(setE (setN (setG fr G) bs nw) vs E).toArray, []⟩ u')
    (hm : P.follows .mixedOrders = true := by kernel_rfl) (hb : backs .any ops = true := by kernel_rfl) (hok : (mkR fr lo w w0.heap.size ks X nw G O N E).ok = true := by kernel_rfl) (hfit : fits ops.size X nw G E = true := by kernel_rfl) : (Code.region id ops true).wp P Q ⟨fr.toArray, []⟩ w0 := by
  have hKd : KA lo w0.drew ks := by
    have := K.a
    revert this
    clear hend hops K hok
    induction ks with
    | nil => intro _; trivial
    | cons q r ih => exact fun h => ⟨⟨h.1.1, h.1.2.1, h.1.2.2.drew⟩, ih h.2⟩
  refine region_drawn (mkR fr lo w w0.heap.size ks X nw G O N E).S (Inv (mkR fr lo w w0.heap.size ks X nw G O N E)) hm hb (Inv.start HB.drew rfl hKd hlo X nw G O N E) ?_ ?_
  · intro f t u i o a hF hI ho hfi hdep
    have := hops.get (n := i) (o := o) (by rw [Array.getElem?_toList]; exact ho)
    rw [Nat.zero_add] at this
    exact this f t u a ⟨hok, by show ((withX ks X).map (·.2.1)).Nodup; rw [withX_map]; exact K.n, hst, hF, hI, ho, hfi, hdep⟩
  · intro f t u hI hall
    exact hI.end hall hfit K.n hend
theorem Stab.nil : Stab [] := fun q h => by cases h
theorem rgP (K : Bk lo w0 ks) (HB : Below lo w w0) (hlo : lo ≤ w0.heap.size) (X : List Wr) (nw : List Nw) (G : List (Nat × Nat × Value)) (O N : List (Nat × Nat)) (M : List Bool) (hops : OpsAll (mkR fr lo w w0.heap.size ks X nw G O N []) P ops Q 0 ops.toList)
    (hend : ∀ u', AllNew nw fun bs => Below lo w u' → w0.heap.size ≤ u'.heap.size → Bk lo u' (pM M (aK (fX ks X) (nK bs nw))) → Q .normal ⟨(setN (setG fr G) bs nw).toArray, []⟩ u')
    (hb : backs .any ops = true := by kernel_rfl) (hok : (mkR fr lo w w0.heap.size ks X nw G O N []).ok = true := by kernel_rfl) (hfit : fits ops.size X nw G [] = true := by kernel_rfl) : (Code.region id ops false).wp P Q ⟨fr.toArray, []⟩ w0 :=
  rgF K HB hlo X nw G O N [] M Stab.nil hops hend hb hok hfit
theorem rgD (K : Bk lo w0 ks) (HB : Below lo w w0) (hlo : lo ≤ w0.heap.size) (X : List Wr) (nw : List Nw) (G : List (Nat × Nat × Value)) (O N : List (Nat × Nat)) (M : List Bool) (hops : OpsAll (mkR fr lo w w0.heap.size ks X nw G O N []) P ops Q 0 ops.toList)
    (hend : ∀ u', AllNew nw fun bs => Below lo w u' → w0.heap.size ≤ u'.heap.size → Bk lo u' (pM M (aK (fX ks X) (nK bs nw))) → Q .normal ⟨(setN (setG fr G) bs nw).toArray, []⟩ u')
    (hm : P.follows .mixedOrders = true := by kernel_rfl) (hb : backs .any ops = true := by kernel_rfl) (hok : (mkR fr lo w w0.heap.size ks X nw G O N []).ok = true := by kernel_rfl) (hfit : fits ops.size X nw G [] = true := by kernel_rfl) : (Code.region id ops true).wp P Q ⟨fr.toArray, []⟩ w0 :=
  rgE K HB hlo X nw G O N [] M Stab.nil hops hend hm hb hok hfit
end
end Go.Proofs.Ythncmahhnbpbkaa
/- Regions by one record: rows and words of this program. -/
namespace Go.Proofs.Ythncmahhnbpbkaa
open Go.RowKit
set_option linter.unusedVariables false
set_option linter.unusedSimpArgs false
theorem KA.c {lo : Nat} {u : World} {ks : List Blk} {b : Nat} {l : List Value} (h1 : b < u.heap.size) (h2 : CV u b l) (h : KA lo u ks) : KA lo u ((false, b, l) :: ks) := ⟨⟨h1, fun e => (by cases e), h2⟩, h⟩
theorem KA.o {lo : Nat} {u : World} {ks : List Blk} {b : Nat} {l : List Value} (h1 : b < u.heap.size) (h3 : lo ≤ b) (h2 : CV u b l) (h : KA lo u ks) : KA lo u ((true, b, l) :: ks) := ⟨⟨h1, fun _ => h3, h2⟩, h⟩
theorem Bk.nil (lo : Nat) (w : World) : Bk lo w [] := ⟨trivial, by simp⟩
theorem KA.alloc {lo : Nat} {u : World} (ob : Obj) : ∀ {ks : List Blk}, KA lo u ks → KA lo (u.alloc ob) ks
  | [], _ => trivial
  | q :: r, h => ⟨⟨Nat.lt_of_lt_of_le h.1.1 (by simp), h.1.2.1, h.1.2.2.alloc h.1.1 ob⟩, KA.alloc ob h.2⟩
theorem KA.mem {lo : Nat} {u : World} : ∀ {ks : List Blk}, KA lo u ks → ∀ x ∈ ks.map (·.2.1), x < u.heap.size
  | [], _, x, hx => by cases hx
  | q :: r, h, x, hx => by
    rw [List.map_cons] at hx
    rcases List.mem_cons.1 hx with rfl | hx
    · exact h.1.1
    · exact KA.mem h.2 x hx
/-- A block more. -/
theorem Bk.ad {lo : Nat} {u : World} {ks : List Blk} {n : Nat} {l : List Value} {T : TypeId} (h : Bk lo u ks) (hn : n = u.heap.size := by simp) (hlo : lo ≤ n := by omega) : Bk lo (u.alloc (.cells l.toArray T)) (ks ++ [(true, n, l)]) := by
  subst hn
  refine ⟨KA.app (h.a.alloc _) ⟨⟨by simp, fun _ => hlo, CV.new u l T⟩, trivial⟩, ?_⟩
  rw [List.map_append, List.nodup_append]
  refine ⟨h.n, by simp, fun x hx y hy e => ?_⟩
  have := h.a.mem x hx
  simp at hy
  omega
end Go.Proofs.Ythncmahhnbpbkaa

/- Regions by one record: slices of numbers that came in. -/
namespace Go.Proofs.Ythncmahhnbpbkaa
open Go.RowKit
set_option linter.unusedVariables false
set_option linter.unusedSimpArgs false
section
variable {R : Rg} {P : Program} {ops : Array Oper} {Q : Exit → Act → World → Prop} {i : Nat} {o : Oper}
/-- A load of a row that came in. -/
theorem g_lf {T : TypeId} {x : Operand} {b k : Nat} {cs : List Value} {dd : TypeDesc} (hc0 : R.w.rangeAt b k cs) (hb : b < R.lo) (hu : P.underlying T = some dd) (hi : (P.info? T).map (·.size) = some cs.length) (hop : o.op = .load T x := by rfl) (hx : evR R i o x = some (.pointer (some ⟨b, k, none⟩)) := by rfl)
    (hr : dd.isRow = true := by rfl) (hv : some (.agg cs.toArray) = pickV i R.G := by rfl) (hc : R.chk ops i o = true := by rfl) : OG R P ops Q i o :=
  g_pure hv hc fun f t u a X K hK => wp_load_mid T x hop b k (X.ev hx) cs dd (fun j v hj => (X.I.1.bel.cell (p := ⟨b, k + j, none⟩) hb).trans (hc0 j v hj)) hu hr hi hK
/-- A call that asks for what came in. -/
theorem g_cb {N : FuncId} {args : List Operand} {tys : Array TypeId} {vs : List Value} {v : Value} (hr : ∀ (vs : Array Value) (w : World), (callFunc N vs).run P w = .ok (.enter N vs) w)
    (hcall : ∀ w, Below R.lo R.w w → Calls P N vs.toArray w fun e w' => e = .returned v ∧ Below w.heap.size w w') (hop : o.op = .call { callee := .value (.func N), args := args.toArray, argTypes := tys } := by rfl) (hx : args.mapM (evR R i o) = some vs := by rfl) (hv : some v = pickV i R.G := by rfl) (hc : R.chk ops i o = true := by rfl) : OG R P ops Q i o := fun f t u a X =>
  X.go (chk_parts hc).choose_spec.2.2.2.2.2.2.2 fun K hK => wp_callF hop (X.evs hx) hr (hcall u X.I.1.bel) fun w' hB => hK _ _ (X.put hv hc (X.I.1.call hB) (X.I.2.1.below hB X.I.1.sz) hB)
/-- The length of a slice. -/
theorem g_ln {x : Operand} {T e : TypeId} {sl : Option Addr} {n cap : Nat} (hT : P.underlying T = some (.slice e)) (hop : o.op = .call { callee := .builtin .len, args := [x].toArray, argTypes := [T].toArray } := by rfl) (hx : evR R i o x = some (.slice sl n cap) := by rfl) (hv : some (.int .i64 (n : Int)) = pickV i R.G := by rfl) (hc : R.chk ops i o = true := by rfl) : OG R P ops Q i o :=
  g_pure hv hc fun f t u a X K hK => by
    have h := X.ev hx
    refine wp_val (v := .int .i64 (n : Int)) (w' := u) ?_ hK
    unfold execOp
    simp only [hop, resolve, invoke, builtin, Sem.run_bind, Sem.run_pure, Result.andThen_ok, List.map_toArray, List.map_cons, List.map_nil, h]
    cases sl <;> simp [Builtin.len_, goInt, run_underlying hT]
end
end Go.Proofs.Ythncmahhnbpbkaa
/- Regions by one record: copies of slices of numbers. -/
namespace Go.Proofs.Ythncmahhnbpbkaa
open Go.RowKit
set_option linter.unusedVariables false
set_option linter.unusedSimpArgs false
theorem Es.get {f : Nat → Bool} {t : Nat → Value} {u : World} {q : En} : ∀ {E : List En} {n : Nat}, Es f t u E → E[n]? = some q → f q.i = true → (∀ c, q.c = some c → f c = false) → q.p u (t q.d)
  | [], n, _, h, _, _ => by simp at h
  | x :: r, 0, h, e, h1, h2 => by simp at e; subst e; exact h.1 h1 h2
  | x :: r, n + 1, h, e, h1, h2 => Es.get (E := r) (n := n) h.2 (by simpa using e) h1 h2
/-- It is used up, or is now. -/
def eGone (O : List (Nat × Nat)) (i : Nat) (o : Oper) (q : En) : Bool := q.i != i && ((match q.c with | some c => (c == i || hasDep o c) | none => false) || O.any fun p => p.1 == q.i && p.2 == i)
theorem Es.gone {O : List (Nat × Nat)} {f : Nat → Bool} {t : Nat → Value} {v : World} {i : Nat} {o : Oper} (hL : ∀ j, (O.any fun p => p.1 == j && p.2 == i) = true → f j = false) (dep : ∀ e ∈ o.after, Region.binds .any e = true → f e.on = true) : ∀ {E : List En}, (E.all (eGone O i o)) = true → Es (updF f i) t v E
  | [], _ => trivial
  | z :: r, h5 => by
    rw [List.all_cons, Bool.and_eq_true] at h5
    refine ⟨fun g1 g2 => ?_, Es.gone hL dep h5.2⟩
    exfalso
    have h5' := h5.1
    unfold eGone at h5'
    rw [Bool.and_eq_true] at h5'
    have hne : z.i ≠ i := by simpa using h5'.1
    rw [updF_ne hne] at g1
    have h6 := h5'.2
    rw [Bool.or_eq_true] at h6
    rcases h6 with h6 | h6
    rotate_left
    · rw [hL _ h6] at g1; cases g1
    cases hzc : z.c with
    | none => rw [hzc] at h6; simp at h6
    | some c =>
      rw [hzc] at h6
      have g3 := g2 c hzc
      simp only [Bool.or_eq_true, beq_iff_eq] at h6
      rcases h6 with e | e
      · subst e; rw [updF_eq] at g3; cases g3
      · by_cases ec : c = i
        · subst ec; rw [updF_eq] at g3; cases g3
        · rw [updF_ne ec, hasDep_spec e dep] at g3; cases g3
theorem Es.last {O : List (Nat × Nat)} {f : Nat → Bool} {t : Nat → Value} {v : World} {i d : Nat} {o : Oper} {x : Value} {c : Option Nat} {p : World → Value → Prop} (hL : ∀ j, (O.any fun p => p.1 == j && p.2 == i) = true → f j = false) (dep : ∀ e ∈ o.after, Region.binds .any e = true → f e.on = true) : ∀ {E : List En} {n : Nat}, E[n]? = some ⟨i, d, c, p⟩ → ((E.eraseIdx n).all (eGone O i o)) = true → p v x → Es (updF f i) (updT t d x) v E
  | [], n, h, _, _ => by simp at h
  | q :: r, 0, h, hx, hp => by
    simp at h; subst h
    simp only [List.eraseIdx_cons_zero] at hx
    exact ⟨fun _ _ => by simpa [updT] using hp, Es.gone hL dep hx⟩
  | q :: r, n + 1, h, hx, hp => by
    simp only [List.eraseIdx_cons_succ] at hx
    rw [List.all_cons, Bool.and_eq_true] at hx
    have g := Es.gone (t := updT t d x) (v := v) hL dep (E := [q]) (by rw [List.all_cons, hx.1]; rfl)
    exact ⟨g.1, Es.last hL dep (E := r) (n := n) (by simpa using h) hx.2 hp⟩
/-- Others are free of it. -/
def eOther (i d : Nat) (q : En) : Bool := q.i != i && q.d != d
theorem Es.new {f : Nat → Bool} {t : Nat → Value} {u v : World} {i d : Nat} {x : Value} (hB : Below u.heap.size u v) : ∀ {E : List En} {n : Nat} {c : Option Nat} {p : World → Value → Prop}, Stab E → E[n]? = some ⟨i, d, c, p⟩ → ((E.eraseIdx n).all (eOther i d)) = true → p v x → Es f t u E → Es (updF f i) (updT t d x) v E
  | [], n, c, p, _, h, _, _, _ => by simp at h
  | q :: r, 0, c, p, hs, e, hx, hp, h => by
    simp at e; subst e
    simp only [List.eraseIdx_cons_zero] at hx
    refine ⟨fun _ _ => by simpa [updT] using hp, Es.step hB (fun q hq => hs q (List.mem_cons_of_mem _ hq)) (by unfold eFree; exact hx) h.2⟩
  | q :: r, n + 1, c, p, hs, e, hx, hp, h => by
    simp only [List.eraseIdx_cons_succ, List.all_cons, Bool.and_eq_true] at hx
    have h1 := Es.step (E := [q]) (f := f) (t := t) (x := x) (i := i) (d := d) hB (fun q' hq => hs q' (by simp at hq; subst hq; exact List.mem_cons_self)) (by unfold eFree; simpa [eOther] using hx.1) ⟨h.1, trivial⟩
    exact ⟨h1.1, Es.new hB (E := r) (n := n) (fun q hq => hs q (List.mem_cons_of_mem _ hq)) (by simpa using e) hx.2 hp h.2⟩
/-- What is asked of an operation that makes such a value, the n-th. -/
def Rg.chkE (R : Rg) (ops : Array Oper) (n i : Nat) (o : Oper) : Bool :=
  (match o.dst, R.E[n]? with | some d, some q => q.i == i && q.d == d && owns i d R.G && apart i d R.Ns && R.S.contains d && (R.nw.all fun q => q.1 != i && q.2.1 != d && (match q.2.2.2 with | none => true | some p => p.1 != i)) && ((R.E.eraseIdx n).all (eOther i d)) | _, _ => false)
  && R.okO i o && (R.es.all fun q => q.2.2.2.free i) && (wants R ops o == some true)
section
variable {R : Rg} {P : Program} {ops : Array Oper} {Q : Exit → Act → World → Prop} {f : Nat → Bool} {t : Nat → Value} {u : World} {a : Act} {i : Nat} {o : Oper}
theorem chkE_parts {n : Nat} (h : R.chkE ops n i o = true) : ∃ d q, o.dst = some d ∧ R.E[n]? = some q ∧ (q.i = i ∧ q.d = d) ∧ owns i d R.G = true ∧ apart i d R.Ns = true ∧ d ∈ R.S ∧ (R.nw.all fun q => q.1 != i && q.2.1 != d && (match q.2.2.2 with | none => true | some p => p.1 != i)) = true ∧ ((R.E.eraseIdx n).all (eOther i d)) = true ∧ R.okO i o = true ∧ (R.es.all fun q => q.2.2.2.free i) = true ∧ wants R ops o = some true := by
  unfold Rg.chkE at h
  cases hd : o.dst with
  | none => rw [hd] at h; simp at h
  | some d =>
    cases hq : R.E[n]? with
    | none => rw [hd, hq] at h; simp at h
    | some q =>
      rw [hd, hq] at h
      rw [Bool.and_eq_true, Bool.and_eq_true, Bool.and_eq_true, Bool.and_eq_true, Bool.and_eq_true, Bool.and_eq_true, Bool.and_eq_true, Bool.and_eq_true, Bool.and_eq_true, List.contains_iff_mem, beq_iff_eq, beq_iff_eq, beq_iff_eq] at h
      obtain ⟨⟨⟨⟨⟨⟨⟨⟨⟨a1, a2⟩, a3⟩, a4⟩, a5⟩, a6⟩, a7⟩, a8⟩, a9⟩, a10⟩ := h
      exact ⟨d, q, rfl, rfl, ⟨a1, a2⟩, a3, a4, a5, a6, a7, a8, a9, a10⟩
theorem Xs.putE (X : Xs R ops f t u a i o) {n : Nat} {v : Value} {u' : World} (hc : R.chkE ops n i o = true) (hp : ∀ q, R.E[n]? = some q → q.p u' v) (hB : Below u.heap.size u u') :
    ∃ t', Fr R.fr R.S (a.put o.dst v) t' ∧ Inv R (updF f i) t' u' := by
  obtain ⟨d, q, hd, hq, ⟨e1, e2⟩, h1, h2, h3, h4, h5, h6, h7, _⟩ := chkE_parts hc
  have hq' : R.E[n]? = some ⟨i, d, q.c, q.p⟩ := by rw [hq, ← e1, ← e2]
  refine ⟨updT t d v, by rw [hd]; exact X.F.put X.parts.1 h3 v, ?_, (X.I.2.1.below hB X.I.1.sz).free h7, Gs.other h1 X.I.2.2.1, okO_spec h6 X.I.2.2.2.1 X.dep, Ns.step X.I.2.2.2.2.1 h2, Es.new hB X.st hq' h5 (hp q hq) X.I.2.2.2.2.2⟩
  rw [nwF_free h4]; exact X.I.1.call hB
theorem Xs.val (X : Xs R ops f t u a i o) {n : Nat} {q : En} (hq : R.E[n]? = some q) (hi : hasDep o q.i = true) (hc : q.c = some i) : q.p u (t q.d) :=
  X.I.2.2.2.2.2.get hq (hasDep_spec hi X.dep) (fun c e => by rw [hc] at e; cases e; exact X.fi)
theorem wp_bs {K : Act → World → Prop} {T : TypeId} {v : Value} {w' : World} (ho : o.op = .buildSlice T 0 ([] : List (Nat × Operand)).toArray) (hr : (Instr.buildSlice T 0 #[]).run P u = .ok v w') (hk : K (a.put o.dst v) w') : o.wp P a u K Q :=
  wp_val (by
    unfold execOp; rw [ho]
    show Sem.run P (do pure (Next.value (← Instr.buildSlice T 0 (([] : List (Nat × Operand)).toArray.map fun (i, x) => (i, a.eval x))))) u = _
    rw [List.map_toArray, List.map_nil, Sem.run_bind, hr, Result.andThen_ok, Sem.run_pure]) hk
/-- An empty slice. -/
theorem g_bs (n : Nat) (p : World → Value → Prop) {T e : TypeId} (hr : ∀ w, (Instr.buildSlice T 0 #[]).run P w = .ok (.slice (some ⟨w.heap.size, 0, none⟩) 0 0) (w.alloc (.cells #[] e))) (hp : ∀ u : World, R.base ≤ u.heap.size → p (u.alloc (.cells #[] e)) (.slice (some ⟨u.heap.size, 0, none⟩) 0 0)) (hop : o.op = .buildSlice T 0 ([] : List (Nat × Operand)).toArray := by rfl) (hn : (R.E[n]?).map (·.p) = some p := by rfl) (hc : R.chkE ops n i o = true := by rfl) : OG R P ops Q i o := fun f t u a X => by
  obtain ⟨d, q, hd, hq, _, _, _, _, _, _, _, _, hw⟩ := chkE_parts hc
  exact X.go hw fun K hK => wp_bs hop (hr u) (hK _ _ (X.putE hc (fun q hq => by rw [hq] at hn; cases hn; exact hp u X.I.1.sz) (balloc (bself u) _)))
theorem wp_app {K : Act → World → Prop} {s x : Operand} {T : TypeId} {vs vx v : Value} {w' : World} (ho : o.op = .call { callee := .builtin .append, args := [s, x].toArray, argTypes := [T, T].toArray }) (hs : a.eval s = vs) (hx : a.eval x = vx) (hr : (Builtin.append_ #[T, T] o.type #[vs, vx]).run P u = .ok v w') (hk : K (a.put o.dst v) w') : o.wp P a u K Q := by
  unfold Oper.wp execOp
  simp only [ho, resolve, invoke, builtin, Sem.run_bind, Sem.run_pure, Result.andThen_ok, List.map_toArray, List.map_cons, List.map_nil, hs, hx, hr]
  exact hk
/-- An append onto such a value, that leaves all there was as it was. -/
theorem g_a1 (m n : Nat) (p p' : World → Value → Prop) {T : TypeId} {j d : Nat} {x : Operand} {vx : Value} (hp : ∀ (u : World) (vs : Value), Below R.lo R.w u → R.base ≤ u.heap.size → p u vs → ∃ v u', (Builtin.append_ #[T, T] o.type #[vs, vx]).run P u = .ok v u' ∧ Below u.heap.size u u' ∧ p' u' v) (hop : o.op = .call { callee := .builtin .append, args := [.tmp d, x].toArray, argTypes := [T, T].toArray } := by rfl) (hm : R.E[m]? = some ⟨j, d, some i, p⟩ := by rfl) (hn0 : (R.E[n]?).map (·.p) = some p' := by rfl) (hx : evR R i o x = some vx := by rfl)
    (hd : (hasDep o j && R.S.contains d) = true := by rfl) (hc : R.chkE ops n i o = true := by rfl) : OG R P ops Q i o := fun f t u a X => by
  rw [Bool.and_eq_true, List.contains_iff_mem] at hd
  obtain ⟨h2, h4⟩ := hd
  obtain ⟨d', q', hd', hq', _, _, _, _, _, _, _, _, hw⟩ := chkE_parts hc
  have hv : p u (t d) := X.val hm h2 rfl
  obtain ⟨v, u', hr, hB, hn⟩ := hp u (t d) X.I.1.bel X.I.1.sz hv
  exact X.go hw fun K hK => wp_app hop (X.inS h4) (X.ev hx) hr (hK _ _ (X.putE hc (fun q hq => by rw [hq] at hn0; cases hn0; exact hn) hB))
/-- An append onto such a value, that may write it, where there is nothing else new. -/
theorem g_a2 (m n : Nat) (p p' : World → Value → Prop) {T : TypeId} {j d : Nat} {x : Operand} {vx : Value} (hp : ∀ (u : World) (vs : Value), Below R.lo R.w u → R.base ≤ u.heap.size → p u vs → ∃ v u' b, (Builtin.append_ #[T, T] o.type #[vs, vx]).run P u = .ok v u' ∧ R.base ≤ b ∧ u.grownBy u' (some b) ∧ p' u' v) (hop : o.op = .call { callee := .builtin .append, args := [.tmp d, x].toArray, argTypes := [T, T].toArray } := by rfl) (hm : R.E[m]? = some ⟨j, d, some i, p⟩ := by rfl) (hn0 : (R.E[n]?).map (·.p) = some p' := by rfl) (hx : evR R i o x = some vx := by rfl) (hw0 : R.nw = [] := by rfl)
    (hd : (hasDep o j && R.S.contains d && ((R.E.eraseIdx n).all (eGone R.O i o))) = true := by rfl) (hc : R.chkE ops n i o = true := by rfl) : OG R P ops Q i o := fun f t u a X => by
  rw [Bool.and_eq_true, Bool.and_eq_true, List.contains_iff_mem] at hd
  obtain ⟨⟨h2, h4⟩, h5⟩ := hd
  obtain ⟨d', q', hd', hq', ⟨e1, e2⟩, k1, k2, k3, k4, k5, k6, k7, hw⟩ := chkE_parts hc
  have hv : p u (t d) := X.val hm h2 rfl
  obtain ⟨v, u', b, hr, hb, hg, hn⟩ := hp u (t d) X.I.1.bel X.I.1.sz hv
  refine X.go hw fun K hK => wp_app hop (X.inS h4) (X.ev hx) hr (hK _ _ ⟨updT t d' v, by rw [hd']; exact X.F.put X.parts.1 k3 v, ?_, ?_, Gs.other k1 X.I.2.2.1, okO_spec k6 X.I.2.2.2.1 X.dep, Ns.step X.I.2.2.2.2.1 k2, ?_⟩)
  · have hM := X.I.1
    rw [hw0] at hM ⊢
    exact { bel := hM.bel.grown hg (Nat.le_trans hM.lo hM.sz) (fun k e => by cases e; exact Nat.le_trans hM.lo hb), lo := hM.lo, sz := Nat.le_trans hM.sz hg.size, ks := trivial, ex := trivial, nw := trivial, nd := trivial }
  · refine KC.free k7 ?_
    have := X.I.2.1
    revert this
    have hsz := X.I.1.sz
    generalize R.es = es
    induction es with
    | nil => intro _; trivial
    | cons y ys ih =>
      refine fun h => ⟨⟨h.1.1, h.1.2.1, fun j x hj => ?_⟩, ih h.2⟩
      have hk : u'.heap[y.2.1]? = u.heap[y.2.1]? := hg.block _ (Nat.lt_of_lt_of_le h.1.1 hsz) (fun e => by cases e; have := h.1.1; omega)
      rw [World.cell?_of_block (a := ⟨y.2.1, j, none⟩) hk, World.frozen?_of_block (a := ⟨y.2.1, j, none⟩) hk]
      exact h.1.2.2 j x hj
  · exact Es.last (O := R.O) (fun j hj => X.later (by unfold Rg.later; rw [hj]; simp)) X.dep (by rw [hq', ← e1, ← e2]) h5 (by rw [hq'] at hn0; cases hn0; exact hn)
/-- Such a value goes into another slot. -/
theorem g_ae (m n : Nat) (p : World → Value → Prop) {j d : Nat} (hop : o.op = .assign (.tmp d) := by rfl) (hm : R.E[m]? = some ⟨j, d, some i, p⟩ := by rfl) (hn0 : (R.E[n]?).map (·.p) = some p := by rfl) (hd : (hasDep o j && R.S.contains d) = true := by rfl) (hc : R.chkE ops n i o = true := by rfl) : OG R P ops Q i o := fun f t u a X => by
  rw [Bool.and_eq_true, List.contains_iff_mem] at hd
  obtain ⟨h2, h4⟩ := hd
  obtain ⟨d', q', hd', hq', _, _, _, _, _, _, _, _, hw⟩ := chkE_parts hc
  have hv : p u (t d) := X.val hm h2 rfl
  exact X.go hw fun K hK => wp_assign hop (X.inS h4) (hK _ _ (X.putE hc (fun q' hq' => by rw [hq'] at hn0; cases hn0; exact hv) (Below.refl _ _)))
/-- A call whose second argument is such a value. -/
theorem g_c2 (m : Nat) (p : World → Value → Prop) {N : FuncId} {j d : Nat} {x : Operand} {tys : Array TypeId} {vx v : Value} (hr : ∀ (vs : Array Value) (w : World), (callFunc N vs).run P w = .ok (.enter N vs) w)
    (hcall : ∀ (w : World) (y : Value), Below R.lo R.w w → p w y → Calls P N #[vx, y] w fun e w' => e = .returned v ∧ Below w.heap.size w w') (hop : o.op = .call { callee := .value (.func N), args := [x, .tmp d].toArray, argTypes := tys } := by rfl) (hm : R.E[m]? = some ⟨j, d, some i, p⟩ := by rfl) (hx : evR R i o x = some vx := by rfl) (hd : (hasDep o j && R.S.contains d) = true := by rfl) (hv : some v = pickV i R.G := by rfl) (hc : R.chk ops i o = true := by rfl) : OG R P ops Q i o := fun f t u a X => by
  rw [Bool.and_eq_true, List.contains_iff_mem] at hd
  obtain ⟨h2, h4⟩ := hd
  have hy : p u (t d) := X.val hm h2 rfl
  exact X.go (chk_parts hc).choose_spec.2.2.2.2.2.2.2 fun K hK => wp_callF (vs := [vx, t d]) hop (by rw [List.map_cons, List.map_cons, List.map_nil, X.ev hx, X.inS h4]) hr (hcall u (t d) X.I.1.bel hy) fun w' hB => hK _ _ (X.put hv hc (X.I.1.call hB) (X.I.2.1.below hB X.I.1.sz) hB)
end
end Go.Proofs.Ythncmahhnbpbkaa
/- Slices built on the way: what is known of them; bools. -/
namespace Go.Proofs.Ythncmahhnbpbkaa
open Go.RowKit
set_option linter.unusedVariables false
set_option linter.unusedSimpArgs false
section
variable {R : Rg} {P : Program} {ops : Array Oper} {Q : Exit → Act → World → Prop} {f : Nat → Bool} {t : Nat → Value} {u : World} {a : Act} {i : Nat} {o : Oper}
theorem map_pairs (g : Operand → Value) : ∀ xs : List (Nat × Operand), xs.map (fun q => (q.1, g q.2)) = (xs.map Prod.fst).zip ((xs.map Prod.snd).map g)
  | [] => rfl
  | x :: r => by simp only [List.map_cons, List.zip_cons_cons, map_pairs g r]
theorem wp_bS {K : Act → World → Prop} {T : TypeId} {n : Nat} {xs : List (Nat × Operand)} {vs : List Value} {v : Value} {w' : World} (ho : o.op = .buildSlice T n xs.toArray) (hx : (xs.map Prod.snd).map a.eval = vs) (hr : (Instr.buildSlice T n ((xs.map Prod.fst).zip vs).toArray).run P u = .ok v w') (hk : K (a.put o.dst v) w') : o.wp P a u K Q :=
  wp_val (by
    unfold execOp; rw [ho]
    show Sem.run P (do pure (Next.value (← Instr.buildSlice T n (xs.toArray.map fun (i, x) => (i, a.eval x))))) u = _
    rw [List.map_toArray]
    show Sem.run P (do pure (Next.value (← Instr.buildSlice T n (xs.map (fun q => (q.1, a.eval q.2))).toArray))) u = _
    rw [map_pairs, hx, Sem.run_bind, hr, Result.andThen_ok, Sem.run_pure]) hk
/-- A slice of so many values. -/
theorem g_bS (n : Nat) (p : World → Value → Prop) (ks : List Nat) (vs : List Value) {T e : TypeId} {m : Nat} {xs : List (Nat × Operand)} (hr : ∀ w, (Instr.buildSlice T m (ks.zip vs).toArray).run P w = .ok (.slice (some ⟨w.heap.size, 0, none⟩) m m) (w.alloc (.cells vs.toArray e))) (hp : ∀ u : World, p (u.alloc (.cells vs.toArray e)) (.slice (some ⟨u.heap.size, 0, none⟩) m m)) (hop : o.op = .buildSlice T m xs.toArray := by rfl) (hks : xs.map Prod.fst = ks := by rfl) (hx : (xs.map Prod.snd).mapM (evR R i o) = some vs := by rfl) (hn : (R.E[n]?).map (·.p) = some p := by rfl) (hc : R.chkE ops n i o = true := by rfl) : OG R P ops Q i o := fun f t u a X => by
  obtain ⟨d, q, hd, hq, _, _, _, _, _, _, _, _, hw⟩ := chkE_parts hc
  exact X.go hw fun K hK => wp_bS hop (X.evs hx) (by rw [hks]; exact hr u) (hK _ _ (X.putE hc (fun q hq => by rw [hq] at hn; cases hn; exact hp u) (balloc (bself u) _)))
/-- A call whose only argument is such a value. -/
theorem g_c1 (m : Nat) (p : World → Value → Prop) {N : FuncId} {j d : Nat} {tys : Array TypeId} {v : Value} (hr : ∀ (vs : Array Value) (w : World), (callFunc N vs).run P w = .ok (.enter N vs) w)
    (hcall : ∀ (w : World) (y : Value), Below R.lo R.w w → p w y → Calls P N #[y] w fun e w' => e = .returned v ∧ Below w.heap.size w w') (hop : o.op = .call { callee := .value (.func N), args := [.tmp d].toArray, argTypes := tys } := by rfl) (hm : R.E[m]? = some ⟨j, d, some i, p⟩ := by rfl) (hd : (hasDep o j && R.S.contains d) = true := by rfl) (hv : some v = pickV i R.G := by rfl) (hc : R.chk ops i o = true := by rfl) : OG R P ops Q i o := fun f t u a X => by
  rw [Bool.and_eq_true, List.contains_iff_mem] at hd
  obtain ⟨h2, h4⟩ := hd
  have hy : p u (t d) := X.val hm h2 rfl
  exact X.go (chk_parts hc).choose_spec.2.2.2.2.2.2.2 fun K hK => wp_callF (vs := [t d]) hop (by rw [List.map_cons, List.map_nil, X.inS h4]) hr (hcall u (t d) X.I.1.bel hy) fun w' hB => hK _ _ (X.put hv hc (X.I.1.call hB) (X.I.2.1.below hB X.I.1.sz) hB)
/-- A load of a row that lies in a block's midst. -/
theorem g_lo (k c : Nat) {T : TypeId} {x : Operand} {b m : Nat} {l : List Value} {dd : TypeDesc} (hu : P.underlying T = some dd) (hi : (P.info? T).map (·.size) = some m) (hop : o.op = .load T x := by rfl) (hk : R.cur i k = some (b, l) := by rfl) (hx : evR R i o x = some (.pointer (some ⟨b, c, none⟩)) := by rfl)
    (hr : dd.isRow = true := by rfl) (hm : ((l.drop c).take m).length = m := by rfl) (hv : some (.agg ((l.drop c).take m).toArray) = pickV i R.G := by rfl) (hc : R.chk ops i o = true := by rfl) : OG R P ops Q i o :=
  g_pure hv hc fun f t u a X K hK => wp_load_mid T x hop b c (X.ev hx) ((l.drop c).take m) dd (fun j v hj => by
    have hj : (l.drop c)[j]? = some v := by
      have hlt : j < m := by rw [← hm]; exact (List.getElem?_eq_some_iff.1 hj).1
      rw [List.getElem?_take_of_lt hlt] at hj; exact hj
    rw [List.getElem?_drop] at hj
    exact ((X.cur hk).1 (c + j) v hj).1) hu hr (by rw [hm]; exact hi) hK
end
/-- A slice that holds the bools bs. -/
def PBo (bs : List Bool) (u : World) (v : Value) : Prop := ∃ b c, v = .slice (some ⟨b, 0, none⟩) bs.length c ∧ b < u.heap.size ∧ CV u b (bs.map Value.bool)
theorem PBo.stab {bs : List Bool} {u v : World} {x : Value} (hB : Below u.heap.size u v) (h : PBo bs u x) : PBo bs v x := by
  obtain ⟨b, c, e, h1, h2⟩ := h
  exact ⟨b, c, e, Nat.lt_of_lt_of_le h1 hB.size, h2.below hB h1⟩
theorem PBo.new (bs : List Bool) (t : TypeId) (m : Nat) (hm : m = bs.length) (u : World) : PBo bs (u.alloc (.cells (bs.map Value.bool).toArray t)) (.slice (some ⟨u.heap.size, 0, none⟩) m m) := by
  subst hm
  exact ⟨_, _, rfl, by simp, CV.new u _ t⟩
end Go.Proofs.Ythncmahhnbpbkaa
/- Values of which only a property is known: calls that make one, and what is taken out of one. -/
namespace Go.Proofs.Ythncmahhnbpbkaa
open Go.RowKit
set_option linter.unusedVariables false
set_option linter.unusedSimpArgs false
section
variable {R : Rg} {P : Program} {ops : Array Oper} {Q : Exit → Act → World → Prop} {f : Nat → Bool} {t : Nat → Value} {u : World} {a : Act} {i : Nat} {o : Oper}
theorem wp_callP {K : Act → World → Prop} {N : FuncId} {args : List Operand} {tys : Array TypeId} {vs : List Value} {p : World → Value → Prop} (ho : o.op = .call { callee := .value (.func N), args := args.toArray, argTypes := tys }) (hv : args.map a.eval = vs)
    (hr : ∀ (vs : Array Value) (w : World), (callFunc N vs).run P w = .ok (.enter N vs) w)
    (hc : Calls P N vs.toArray u fun e w' => ∃ v, e = .returned v ∧ p w' v ∧ Below u.heap.size u w') (hk : ∀ v w', p w' v → Below u.heap.size u w' → K (a.put o.dst v) w') : o.wp P a u K Q := by
  have h : (execOp a.eval o).run P u = .ok (.enter N vs.toArray) u := by
    unfold execOp; rw [ho]
    show Sem.run P (do let d ← (Deferred.ofValue (.func (.func N) #[] #[]) (args.toArray.map a.eval)); invoke d.target d.args) u = _
    rw [List.map_toArray, hv]
    show Sem.run P (do let d ← (pure { target := .fn (.func N) #[], args := #[] ++ vs.toArray } : Sem Deferred); invoke d.target d.args) u = _
    rw [Sem.run_bind, Sem.run_pure, Result.andThen_ok]
    show Sem.run P (callFunc N (#[] ++ vs.toArray ++ #[])) u = _
    rw [show (#[] ++ vs.toArray ++ #[] : Array Value) = vs.toArray by simp, hr]
  unfold Oper.wp; rw [h, Oper.upon_enter]
  refine hc.mono ?_
  rintro e w' ⟨v, rfl, hp, hB⟩
  exact hk v w' hp hB
/-- A call with known arguments that makes such a value. -/
theorem g_cE (n : Nat) (p : World → Value → Prop) {N : FuncId} {args : List Operand} {tys : Array TypeId} {vs : List Value} (hr : ∀ (vs : Array Value) (w : World), (callFunc N vs).run P w = .ok (.enter N vs) w)
    (hcall : ∀ w, Below R.lo R.w w → R.base ≤ w.heap.size → Calls P N vs.toArray w fun e w' => ∃ v, e = .returned v ∧ p w' v ∧ Below w.heap.size w w') (hop : o.op = .call { callee := .value (.func N), args := args.toArray, argTypes := tys } := by rfl) (hx : args.mapM (evR R i o) = some vs := by rfl) (hn : (R.E[n]?).map (·.p) = some p := by rfl) (hc : R.chkE ops n i o = true := by rfl) : OG R P ops Q i o := fun f t u a X => by
  obtain ⟨d, q, hd, hq, _, _, _, _, _, _, _, _, hw⟩ := chkE_parts hc
  exact X.go hw fun K hK => wp_callP hop (X.evs hx) hr (hcall u X.I.1.bel X.I.1.sz) fun v w' hp hB => hK _ _ (X.putE hc (fun q hq => by rw [hq] at hn; cases hn; exact hp) hB)
/-- The same, of one more such value, that is used up. -/
theorem g_cF (m n : Nat) (p p' : World → Value → Prop) {N : FuncId} {j d : Nat} {c : Option Nat} {tys : Array TypeId} (hr : ∀ (vs : Array Value) (w : World), (callFunc N vs).run P w = .ok (.enter N vs) w)
    (hcall : ∀ (w : World) (y : Value), Below R.lo R.w w → R.base ≤ w.heap.size → p w y → Calls P N #[y] w fun e w' => ∃ v, e = .returned v ∧ p' w' v ∧ Below w.heap.size w w') (hop : o.op = .call { callee := .value (.func N), args := [.tmp d].toArray, argTypes := tys } := by rfl) (hm : R.E[m]? = some ⟨j, d, c, p⟩ := by rfl) (hcc : (c.all (· == i)) = true := by rfl) (hd : (hasDep o j && R.S.contains d) = true := by rfl) (hn : (R.E[n]?).map (·.p) = some p' := by rfl) (hc : R.chkE ops n i o = true := by rfl) : OG R P ops Q i o := fun f t u a X => by
  rw [Bool.and_eq_true, List.contains_iff_mem] at hd
  obtain ⟨h2, h4⟩ := hd
  obtain ⟨d', q, hd', hq, _, _, _, _, _, _, _, _, hw⟩ := chkE_parts hc
  have hy : p u (t d) := X.I.2.2.2.2.2.get hm (hasDep_spec h2 X.dep) (fun x e => by
    cases e; simp at hcc; rw [hcc]; exact X.fi)
  exact X.go hw fun K hK => wp_callP (vs := [t d]) hop (by rw [List.map_cons, List.map_nil, X.inS h4]) hr (hcall u (t d) X.I.1.bel X.I.1.sz hy) fun v w' hp hB => hK _ _ (X.putE hc (fun q hq => by rw [hq] at hn; cases hn; exact hp) hB)
theorem Xs.val2 (X : Xs R ops f t u a i o) {n j d : Nat} {c : Option Nat} {p : World → Value → Prop} (hq : R.E[n]? = some ⟨j, d, c, p⟩) (hi : hasDep o j = true) (hc : (c.all (· == i)) = true) : p u (t d) :=
  X.I.2.2.2.2.2.get hq (hasDep_spec hi X.dep) (fun x e => by cases e; simp at hc; rw [hc]; exact X.fi)
/-- Such a value goes into another slot. -/
theorem g_mE (m n : Nat) (p : World → Value → Prop) {j d : Nat} {c : Option Nat} (hop : o.op = .move (.tmp d) := by rfl) (hm : R.E[m]? = some ⟨j, d, c, p⟩ := by rfl) (hcc : (c.all (· == i)) = true := by rfl) (hn0 : (R.E[n]?).map (·.p) = some p := by rfl) (hd : (hasDep o j && R.S.contains d) = true := by rfl) (hc : R.chkE ops n i o = true := by rfl) : OG R P ops Q i o := fun f t u a X => by
  rw [Bool.and_eq_true, List.contains_iff_mem] at hd
  obtain ⟨h2, h4⟩ := hd
  obtain ⟨d', q', hd', hq', _, _, _, _, _, _, _, _, hw⟩ := chkE_parts hc
  have hv : p u (t d) := X.val2 hm h2 hcc
  exact X.go hw fun K hK => wp_move hop (X.inS h4) (hK _ _ (X.putE hc (fun q' hq' => by rw [hq'] at hn0; cases hn0; exact hv) (Below.refl _ _)))
theorem g_sE (m n : Nat) (p : World → Value → Prop) {j d : Nat} {c : Option Nat} (hop : o.op = .assign (.tmp d) := by rfl) (hm : R.E[m]? = some ⟨j, d, c, p⟩ := by rfl) (hcc : (c.all (· == i)) = true := by rfl) (hn0 : (R.E[n]?).map (·.p) = some p := by rfl) (hd : (hasDep o j && R.S.contains d) = true := by rfl) (hc : R.chkE ops n i o = true := by rfl) : OG R P ops Q i o := fun f t u a X => by
  rw [Bool.and_eq_true, List.contains_iff_mem] at hd
  obtain ⟨h2, h4⟩ := hd
  obtain ⟨d', q', hd', hq', _, _, _, _, _, _, _, _, hw⟩ := chkE_parts hc
  have hv : p u (t d) := X.val2 hm h2 hcc
  exact X.go hw fun K hK => wp_assign hop (X.inS h4) (hK _ _ (X.putE hc (fun q' hq' => by rw [hq'] at hn0; cases hn0; exact hv) (Below.refl _ _)))
/-- Such a value out of such a tuple. -/
theorem g_xE (m n : Nat) (p p' : World → Value → Prop) {j d k : Nat} {c : Option Nat} (hp : ∀ u vs, p u vs → ∃ cs v, vs = .tuple cs ∧ cs[k]? = some v ∧ p' u v) (hop : o.op = .extract (.tmp d) k := by rfl) (hm : R.E[m]? = some ⟨j, d, c, p⟩ := by rfl) (hcc : (c.all (· == i)) = true := by rfl) (hn0 : (R.E[n]?).map (·.p) = some p' := by rfl) (hd : (hasDep o j && R.S.contains d) = true := by rfl) (hc : R.chkE ops n i o = true := by rfl) : OG R P ops Q i o := fun f t u a X => by
  rw [Bool.and_eq_true, List.contains_iff_mem] at hd
  obtain ⟨h2, h4⟩ := hd
  obtain ⟨d', q', hd', hq', _, _, _, _, _, _, _, _, hw⟩ := chkE_parts hc
  obtain ⟨cs, v, e1, e2, hv⟩ := hp u (t d) (X.val2 hm h2 hcc)
  exact X.go hw fun K hK => wp_extract hop ((X.inS h4).trans e1) e2 (hK _ _ (X.putE hc (fun q' hq' => by rw [hq'] at hn0; cases hn0; exact hv) (Below.refl _ _)))
/-- A known value out of such a tuple. -/
theorem g_xV (m : Nat) (p : World → Value → Prop) {j d k : Nat} {c : Option Nat} {v : Value} (hp : ∀ u vs, p u vs → ∃ cs, vs = .tuple cs ∧ cs[k]? = some v) (hop : o.op = .extract (.tmp d) k := by rfl) (hm : R.E[m]? = some ⟨j, d, c, p⟩ := by rfl) (hcc : (c.all (· == i)) = true := by rfl) (hd : (hasDep o j && R.S.contains d) = true := by rfl) (hv : some v = pickV i R.G := by rfl) (hc : R.chk ops i o = true := by rfl) : OG R P ops Q i o :=
  g_pure hv hc fun f t u a X K hK => by
    rw [Bool.and_eq_true, List.contains_iff_mem] at hd
    obtain ⟨h2, h4⟩ := hd
    obtain ⟨cs, e1, e2⟩ := hp u (t d) (X.val2 hm h2 hcc)
    exact wp_extract hop ((X.inS h4).trans e1) e2 hK
/-- The length of such a slice. -/
theorem g_lE (m : Nat) (p : World → Value → Prop) {T e : TypeId} {j d n : Nat} {c : Option Nat} (hT : P.underlying T = some (.slice e)) (hp : ∀ u vs, p u vs → ∃ sl cap, vs = .slice sl n cap) (hop : o.op = .call { callee := .builtin .len, args := [.tmp d].toArray, argTypes := [T].toArray } := by rfl) (hm : R.E[m]? = some ⟨j, d, c, p⟩ := by rfl) (hcc : (c.all (· == i)) = true := by rfl) (hd : (hasDep o j && R.S.contains d) = true := by rfl) (hv : some (.int .i64 (n : Int)) = pickV i R.G := by rfl) (hc : R.chk ops i o = true := by rfl) : OG R P ops Q i o :=
  g_pure hv hc fun f t u a X K hK => by
    rw [Bool.and_eq_true, List.contains_iff_mem] at hd
    obtain ⟨h2, h4⟩ := hd
    obtain ⟨sl, cap, e1⟩ := hp u (t d) (X.val2 hm h2 hcc)
    have h := (X.inS h4).trans e1
    refine wp_val (v := .int .i64 (n : Int)) (w' := u) ?_ hK
    unfold execOp
    simp only [hop, resolve, invoke, builtin, Sem.run_bind, Sem.run_pure, Result.andThen_ok, List.map_toArray, List.map_cons, List.map_nil, h]
    cases sl <;> simp [Builtin.len_, goInt, run_underlying hT]
/-- An append that has room. -/
theorem run_append_in (w : World) {T ty e : TypeId} {ti : TypeInfo} (ht : P.underlying T = some (.slice e)) (hi : P.info? e = some ti) {b n cap : Nat} {l news : List Value} (hcv : CV w b l) {ad : Addr} {m c : Nat} (hl : news.length = m * ti.size) (hnews : ∀ j v, news[j]? = some v → w.cell? (ad.add j) = some v) (h1 : ∀ v ∈ news, v.oneCell' = true) (hroom : n + m ≤ cap) (hfit : n * ti.size + news.length ≤ l.length) :
    (Builtin.append_ #[T, T] ty #[.slice (some ⟨b, 0, none⟩) n cap, .slice (some ad) m c]).run P w = .ok (.slice (some ⟨b, 0, none⟩) (n + m) cap) (w.setCells b (n * ti.size) news) := by
  have hf := run_firstCells_some (P := P) w ti.size m ad m c news hl hnews
  have hst := run_storeCells_cells (P := P) b (n * ti.size) news 0 w (fun j hj => by
    rw [Nat.add_zero, (hcv (n * ti.size + j) _ (List.getElem?_eq_getElem (by omega))).1]; rfl) (fun j hj => by
    rw [Nat.add_zero]; exact (hcv (n * ti.size + j) _ (List.getElem?_eq_getElem (by omega))).2) h1
  rw [Nat.add_zero] at hst
  simp [Builtin.append_, run_underlying ht, sizeOf, typeInfo, hi, Builtin.lenOf, hroom, hf, Addr.add_lit, hst]
theorem CV.mid {w : World} {b o : Nat} {xs ys zs news : List Value} (h : CV w b (xs ++ ys ++ zs)) (ho : xs.length = o) (hl : ys.length = news.length) : CV (w.setCells b o news) b (xs ++ news ++ zs) := fun j x hj => by
  subst ho
  rw [World.frozen?_setCells]
  have hlen : j < (xs ++ news ++ zs).length := (List.getElem?_eq_some_iff.1 hj).1
  have hlen' : j < (xs ++ ys ++ zs).length := by simp only [List.length_append] at hlen ⊢; omega
  have hold := h j _ (List.getElem?_eq_getElem hlen')
  refine ⟨?_, hold.2⟩
  by_cases h1 : j < xs.length
  · rw [World.cell?_setCells_out b _ _ _ _ (fun _ _ => Or.inl (by simpa using h1)), hold.1, ← List.getElem?_eq_getElem hlen', ← hj, List.append_assoc, List.append_assoc, List.getElem?_append_left h1, List.getElem?_append_left h1]
  · by_cases h2 : j < xs.length + news.length
    · have hin := World.cell?_setCells_in b news xs.length w (fun i hi => by
        rw [(h (xs.length + i) _ (List.getElem?_eq_getElem (by simp only [List.length_append]; omega))).1]; rfl) (j - xs.length) (by omega)
      rw [show xs.length + (j - xs.length) = j by omega] at hin
      rw [hin, ← hj, List.append_assoc, List.getElem?_append_right (by omega), List.getElem?_append_left (by omega), List.getElem?_eq_getElem]
    · rw [World.cell?_setCells_out b _ _ _ _ (fun _ _ => Or.inr (by show xs.length + news.length ≤ j; omega)), hold.1, ← List.getElem?_eq_getElem hlen', ← hj, List.getElem?_append_right (by simp only [List.length_append]; omega), List.getElem?_append_right (by simp only [List.length_append]; omega)]
      simp only [List.length_append, hl]
theorem Chg.cellsAt (u : World) (b o : Nat) (vs : List Value) : Chg b u (u.setCells b o vs) where
  size := by rw [size_setCells]
  oth := fun n l hn h => h.cells hn _ _
/-- An append onto a row of one's own that has room; what is put behind it is such a value. -/
theorem g_pI (k m : Nat) (p : World → Value → Prop) {T e : TypeId} {ti : TypeInfo} {x : Operand} {j d b n cap : Nat} {xs ys zs news : List Value} (ht : P.underlying T = some (.slice e)) (hi : P.info? e = some ti)
    (hp : ∀ u y, p u y → ∃ ad c, y = .slice (some ad) 1 c ∧ ∀ j v, news[j]? = some v → u.cell? (ad.add j) = some v) (h1 : ∀ v ∈ news, v.oneCell' = true) (hl : news.length = ti.size) (hxl : xs.length = n * ti.size) (hyl : ys.length = news.length) (hroom : n + 1 ≤ cap)
    (hop : o.op = .call { callee := .builtin .append, args := [x, .tmp d].toArray, argTypes := [T, T].toArray } := by rfl) (hn : R.es[k]? = some (true, b, xs ++ ys ++ zs, .all i (xs ++ news ++ zs)) := by rfl) (hx : evR R i o x = some (.slice (some ⟨b, 0, none⟩) n cap) := by rfl) (hm : R.E[m]? = some ⟨j, d, some i, p⟩ := by rfl) (hd : (hasDep o j && R.S.contains d) = true := by rfl) (hv : some (.slice (some ⟨b, 0, none⟩) (n + 1) cap) = pickV i R.G := by rfl)
    (hw : R.nw = [] := by rfl) (hE : (R.E.all (eGone R.O i o)) = true := by rfl) (hc : ((match o.dst with | some d => ownsA i d R.G && apart i d R.Ns && R.S.contains d | none => false) && R.okO i o && ((R.es.eraseIdx k).all fun q => q.2.2.2.free i) && (wants R ops o == some true)) = true := by rfl) : OG R P ops Q i o := fun f t u a X => by
  rw [Bool.and_eq_true, List.contains_iff_mem] at hd
  obtain ⟨h2, h4⟩ := hd
  cases hdd : o.dst with
  | none => rw [hdd] at hc; simp at hc
  | some d' =>
    rw [hdd] at hc
    simp only [Bool.and_eq_true, List.contains_iff_mem, beq_iff_eq] at hc
    obtain ⟨q1, q2, q3⟩ := X.I.2.1.get hn
    have q3 : CV u b (bif f i then xs ++ news ++ zs else xs ++ ys ++ zs) := q3
    rw [X.fi] at q3
    have q3 : CV u b (xs ++ ys ++ zs) := q3
    have hy : p u (t d) := X.val hm h2 rfl
    obtain ⟨ad, c, ey, hnews⟩ := hp u (t d) hy
    have hr := run_append_in (P := P) u (ty := o.type) ht hi q3 (m := 1) (c := c) (by omega) hnews h1 hroom (by simp only [List.length_append]; omega)
    have cc := Chg.cellsAt u b (n * ti.size) news
    refine X.go hc.2 fun K hK => wp_app hop (X.ev hx) ((X.inS h4).trans ey) hr (hK _ _ ⟨updT t d' _, by rw [hdd]; exact X.F.put X.parts.1 hc.1.1.1.2 _, ?_, ?_, Gs.stepA X.I.2.2.1 hc.1.1.1.1.1 hv.symm, okO_spec hc.1.1.2 X.I.2.2.2.1 X.dep, Ns.step X.I.2.2.2.2.1 hc.1.1.1.1.2, ?_⟩)
    · have hM := X.I.1
      rw [hw] at hM ⊢
      exact { bel := below_setCells (q2 rfl) _ _ _ hM.bel, lo := hM.lo, sz := by rw [size_setCells]; exact hM.sz, ks := trivial, ex := trivial, nw := trivial, nd := trivial }
    · exact KC.put cc X.I.2.1 hn X.nd hc.1.2 (by simp only [Wr.val, updF_eq, cond_true]; exact q3.mid hxl hyl)
    · exact Es.gone (O := R.O) (fun j hj => X.later (by unfold Rg.later; rw [hj]; simp)) X.dep hE
/-- A row of one's own, with what lies behind it. -/
def PG (lo s n : Nat) (xs : List Value) (u : World) (v : Value) : Prop := ∃ b cap zs, v = .slice (some ⟨b, 0, none⟩) n cap ∧ lo ≤ b ∧ b < u.heap.size ∧ n ≤ cap ∧ zs.length = (cap - n) * s ∧ CV u b (xs ++ zs)
theorem PG.stab {lo s n : Nat} {xs : List Value} {u v : World} {x : Value} (hB : Below u.heap.size u v) (h : PG lo s n xs u x) : PG lo s n xs v x := by
  obtain ⟨b, cap, zs, e, h1, h2, h3, h4, h5⟩ := h
  exact ⟨b, cap, zs, e, h1, Nat.lt_of_lt_of_le h2 hB.size, h3, h4, h5.below hB h2⟩
theorem PG.mono {lo lo' s n : Nat} {xs : List Value} {u : World} {x : Value} (h : PG lo s n xs u x) (hl : lo' ≤ lo) : PG lo' s n xs u x := by
  obtain ⟨b, cap, zs, e, h1, h⟩ := h
  exact ⟨b, cap, zs, e, Nat.le_trans hl h1, h⟩
/-- A full row, or none. -/
def Full (u : World) (s n : Nat) (xs : List Value) (v : Value) : Prop := xs.length = n * s ∧ ((v = .slice none 0 0 ∧ n = 0) ∨ ∃ b, v = .slice (some ⟨b, 0, none⟩) n n ∧ CV u b xs)
theorem run_append_full (w : World) {T ty e : TypeId} {ti : TypeInfo} {z : Value} (ht : P.underlying T = some (.slice e)) (hi : P.info? e = some ti) (hz : ti.zero = some z) (hzs : z.cells.size = ti.size) {lo n : Nat} {xs news : List Value} {v : Value} (hf : Full w ti.size n xs v) {ad : Addr} {c : Nat} (hl : news.length = ti.size) (hnews : ∀ j v, news[j]? = some v → w.cell? (ad.add j) = some v) (hlo : lo ≤ w.heap.size) (hb : (n + 1) * ti.bytes ≤ 140737488355328) (h63 : n + 1 ≤ 9223372036854775807) :
    ∃ v' w', (Builtin.append_ #[T, T] ty #[v, .slice (some ad) 1 c]).run P w = .ok v' w' ∧ Below w.heap.size w w' ∧ PG lo ti.size (n + 1) (xs ++ news) w' v' := by
  obtain ⟨hx, hf⟩ := hf
  rcases hf with ⟨rfl, rfl⟩ | ⟨b, rfl, hcv⟩
  · have hxs : xs = [] := List.eq_nil_of_length_eq_zero (by omega)
    subst hxs
    have hr := run_append_nil (P := P) w T ty e ti z ht hi hz ad 1 c news (by omega) hnews (by omega) (by omega) (by omega)
    refine ⟨_, _, hr, balloc (bself w).drew _, w.heap.size, _, (Builtin.zeroCells z.cells (grownCap w 1 0 e - 1)).toList, rfl, hlo, by simp, grownCap_ge w 1 0 e, by rw [Array.length_toList, size_zeroCells, hzs], ?_⟩
    have e1 : news.toArray ++ Builtin.zeroCells z.cells (grownCap w 1 0 e - 1) = (news ++ (Builtin.zeroCells z.cells (grownCap w 1 0 e - 1)).toList).toArray := by apply Array.ext'; simp
    rw [e1, List.nil_append]; exact CV.new w.drew _ e
  · have hr := run_append_grow (P := P) w T ty e ti z ht hi hz ⟨b, 0, none⟩ n n xs hx (fun j v hj => by
      have e1 : (⟨b, 0, none⟩ : Addr).add j = ⟨b, j, none⟩ := by unfold Addr.add; split <;> simp_all
      rw [e1]; exact (hcv j v hj).1) ad 1 c news (by omega) hnews (by omega) (by omega) (growslice_fits (by omega) hb)
    refine ⟨_, _, hr, balloc (bself w).drew _, w.heap.size, _, (Builtin.zeroCells z.cells (grownCap w (n + 1) n e - (n + 1))).toList, rfl, hlo, by simp, grownCap_ge w (n + 1) n e, by rw [Array.length_toList, size_zeroCells, hzs], ?_⟩
    have e1 : xs.toArray ++ news.toArray ++ Builtin.zeroCells z.cells (grownCap w (n + 1) n e - (n + 1)) = (xs ++ news ++ (Builtin.zeroCells z.cells (grownCap w (n + 1) n e - (n + 1))).toList).toArray := by apply Array.ext'; simp
    rw [e1]; exact CV.new w.drew _ e
/-- An append of such a value onto a row that is full, or none. -/
theorem g_pG (m n' : Nat) (p : World → Value → Prop) {T e : TypeId} {ti : TypeInfo} {z : Value} {x : Operand} {j d n : Nat} {xs news : List Value} {vs : Value} (ht : P.underlying T = some (.slice e)) (hi : P.info? e = some ti) (hz : ti.zero = some z) (hzs : z.cells.size = ti.size)
    (hp : ∀ u y, p u y → ∃ ad c, y = .slice (some ad) 1 c ∧ ∀ j v, news[j]? = some v → u.cell? (ad.add j) = some v) (hl : news.length = ti.size) (hf : ∀ f u, KC f u R.lo R.base R.es → Full u ti.size n xs vs) (hb : (n + 1) * ti.bytes ≤ 140737488355328) (h63 : n + 1 ≤ 9223372036854775807)
    (hop : o.op = .call { callee := .builtin .append, args := [x, .tmp d].toArray, argTypes := [T, T].toArray } := by rfl) (hx : evR R i o x = some vs := by rfl) (hm : R.E[m]? = some ⟨j, d, some i, p⟩ := by rfl) (hd : (hasDep o j && R.S.contains d) = true := by rfl) (hn0 : (R.E[n']?).map (·.p) = some (PG R.base ti.size (n + 1) (xs ++ news)) := by rfl) (hc : R.chkE ops n' i o = true := by rfl) : OG R P ops Q i o := fun f t u a X => by
  rw [Bool.and_eq_true, List.contains_iff_mem] at hd
  obtain ⟨h2, h4⟩ := hd
  obtain ⟨d', q', hd', hq', _, _, _, _, _, _, _, _, hw⟩ := chkE_parts hc
  have hy : p u (t d) := X.val hm h2 rfl
  obtain ⟨ad, c, ey, hnews⟩ := hp u (t d) hy
  obtain ⟨v', w', hr, hB, hg⟩ := run_append_full (P := P) (lo := R.base) u (ty := o.type) ht hi hz hzs (hf f u X.I.2.1) (c := c) hl hnews X.I.1.sz hb h63
  exact X.go hw fun K hK => wp_app hop (X.ev hx) ((X.inS h4).trans ey) hr (hK _ _ (X.putE hc (fun q hq => by rw [hq] at hn0; simp only [Option.map_some, Option.some.injEq] at hn0; rw [hn0]; exact hg) hB))
/-- A slice of so many values, each of some cells. -/
theorem g_bR (n : Nat) (p : World → Value → Prop) (ks : List Nat) (vs cs : List Value) {T e : TypeId} {m : Nat} {xs : List (Nat × Operand)} (hr : ∀ w, (Instr.buildSlice T m (ks.zip vs).toArray).run P w = .ok (.slice (some ⟨w.heap.size, 0, none⟩) m m) (w.alloc (.cells cs.toArray e))) (hp : ∀ u : World, R.base ≤ u.heap.size → p (u.alloc (.cells cs.toArray e)) (.slice (some ⟨u.heap.size, 0, none⟩) m m)) (hop : o.op = .buildSlice T m xs.toArray := by rfl) (hks : xs.map Prod.fst = ks := by rfl) (hx : (xs.map Prod.snd).mapM (evR R i o) = some vs := by rfl) (hn : (R.E[n]?).map (·.p) = some p := by rfl) (hc : R.chkE ops n i o = true := by rfl) : OG R P ops Q i o := fun f t u a X => by
  obtain ⟨d, q, hd, hq, _, _, _, _, _, _, _, _, hw⟩ := chkE_parts hc
  exact X.go hw fun K hK => wp_bS hop (X.evs hx) (by rw [hks]; exact hr u) (hK _ _ (X.putE hc (fun q hq => by rw [hq] at hn; cases hn; exact hp u X.I.1.sz) (balloc (bself u) _)))
/-- A load of a row that lies somewhere in a block. -/
theorem g_lR (k c : Nat) {T : TypeId} {x : Operand} {b : Nat} {l cs : List Value} {dd : TypeDesc} (hs : ∀ j v, cs[j]? = some v → l[c + j]? = some v) (hu : P.underlying T = some dd) (hi : (P.info? T).map (·.size) = some cs.length) (hop : o.op = .load T x := by rfl) (hk : R.cur i k = some (b, l) := by rfl) (hx : evR R i o x = some (.pointer (some ⟨b, c, none⟩)) := by rfl)
    (hr : dd.isRow = true := by rfl) (hv : some (.agg cs.toArray) = pickV i R.G := by rfl) (hc : R.chk ops i o = true := by rfl) : OG R P ops Q i o :=
  g_pure hv hc fun f t u a X K hK => wp_load_mid T x hop b c (X.ev hx) cs dd (fun j v hj => ((X.cur hk).1 (c + j) v (hs j v hj)).1) hu hr hi hK
end
/-- A slice that holds one value, of these cells. -/
def P1 (news : List Value) (u : World) (v : Value) : Prop := ∃ b c, v = .slice (some ⟨b, 0, none⟩) 1 c ∧ b < u.heap.size ∧ CV u b news
theorem P1.stab {news : List Value} {u v : World} {x : Value} (hB : Below u.heap.size u v) (h : P1 news u x) : P1 news v x := by
  obtain ⟨b, c, e, h1, h2⟩ := h
  exact ⟨b, c, e, Nat.lt_of_lt_of_le h1 hB.size, h2.below hB h1⟩
theorem P1.new (news : List Value) (t : TypeId) (u : World) : P1 news (u.alloc (.cells news.toArray t)) (.slice (some ⟨u.heap.size, 0, none⟩) 1 1) := ⟨_, _, rfl, by simp, CV.new u _ t⟩
theorem P1.at {news : List Value} (u : World) (y : Value) (h : P1 news u y) : ∃ ad c, y = .slice (some ad) 1 c ∧ ∀ j v, news[j]? = some v → u.cell? (ad.add j) = some v := by
  obtain ⟨b, c, e, h1, h2⟩ := h
  refine ⟨_, c, e, fun j v hj => ?_⟩
  have e : (⟨b, 0, none⟩ : Addr).add j = ⟨b, j, none⟩ := by unfold Addr.add; split <;> simp_all
  rw [e]; exact (h2 j v hj).1
/-- A slice of one's own with these cells. -/
def PS (lo n : Nat) (xs : List Value) (u : World) (v : Value) : Prop := ∃ b cap, v = .slice (some ⟨b, 0, none⟩) n cap ∧ lo ≤ b ∧ b < u.heap.size ∧ n ≤ cap ∧ CV u b xs
theorem PS.stab {lo n : Nat} {xs : List Value} {u v : World} {x : Value} (hB : Below u.heap.size u v) (h : PS lo n xs u x) : PS lo n xs v x := by
  obtain ⟨b, cap, e, h1, h2, h3, h5⟩ := h
  exact ⟨b, cap, e, h1, Nat.lt_of_lt_of_le h2 hB.size, h3, h5.below hB h2⟩
theorem PS.mono {lo lo' n : Nat} {xs : List Value} {u : World} {x : Value} (h : PS lo n xs u x) (hl : lo' ≤ lo) : PS lo' n xs u x := by
  obtain ⟨b, cap, e, h1, h⟩ := h
  exact ⟨b, cap, e, Nat.le_trans hl h1, h⟩
theorem PS.new (n : Nat) (xs : List Value) (t : TypeId) {lo : Nat} (u : World) (h : lo ≤ u.heap.size) : PS lo n xs (u.alloc (.cells xs.toArray t)) (.slice (some ⟨u.heap.size, 0, none⟩) n n) := ⟨_, _, rfl, h, by simp, Nat.le_refl _, CV.new u _ t⟩
/-- Such a slice, and a number, as a tuple. -/
def PT (e : Int) (lo n : Nat) (xs : List Value) (u : World) (v : Value) : Prop := ∃ y, v = .tuple #[y, .int .i64 e] ∧ PS lo n xs u y
theorem PT.stab {e : Int} {lo n : Nat} {xs : List Value} {u v : World} {x : Value} (hB : Below u.heap.size u v) (h : PT e lo n xs u x) : PT e lo n xs v x := by
  obtain ⟨y, e1, h1⟩ := h
  exact ⟨y, e1, h1.stab hB⟩
theorem PT.mono {e : Int} {lo lo' n : Nat} {xs : List Value} {u : World} {x : Value} (h : PT e lo n xs u x) (hl : lo' ≤ lo) : PT e lo' n xs u x := by
  obtain ⟨y, e1, h1⟩ := h
  exact ⟨y, e1, h1.mono hl⟩
theorem PT.fst {e : Int} {lo n : Nat} {xs : List Value} (u : World) (v : Value) (h : PT e lo n xs u v) : ∃ cs y, v = .tuple cs ∧ cs[0]? = some y ∧ PS lo n xs u y := by
  obtain ⟨y, e1, h1⟩ := h
  exact ⟨_, y, e1, rfl, h1⟩
theorem PT.snd {e : Int} {lo n : Nat} {xs : List Value} (u : World) (v : Value) (h : PT e lo n xs u v) : ∃ cs, v = .tuple cs ∧ cs[1]? = some (.int .i64 e) := by
  obtain ⟨y, e1, h1⟩ := h
  exact ⟨_, e1, rfl⟩
theorem Bk.more3 {lo : Nat} {u0 u : World} {k0 ks : List Blk} {b : Nat} {l : List Value} (K0 : Bk lo u0 k0) (K : Bk lo u ks) (hb : u0.heap.size ≤ b) (hlt : b < u.heap.size) (hc : CV u b l) (e : ∀ x ∈ ks.map (·.2.1), x ∈ k0.map (·.2.1)) : Bk lo u (aK ks [(false, b, l)]) := by
  rw [aK_eq]
  refine ⟨KA.app K.a (KA.c hlt hc trivial), ?_⟩
  rw [List.map_append, List.nodup_append]
  refine ⟨K.n, by simp, fun x hx y hy h => ?_⟩
  have := K0.a.mem x (e x hx)
  simp at hy
  omega
theorem CV.pre2 {u : World} {b : Nat} {xs ys : List Value} (h : CV u b (xs ++ ys)) : CV u b xs := fun j v hj => h j v (by
  rw [List.getElem?_append_left (List.getElem?_eq_some_iff.1 hj).1]; exact hj)
end Go.Proofs.Ythncmahhnbpbkaa
/- Copies of slices of numbers: what is known of them. -/
namespace Go.Proofs.Ythncmahhnbpbkaa
open Go.RowKit
set_option linter.unusedVariables false
set_option linter.unusedSimpArgs false
theorem below_grown {u v : World} (hB : Below u.heap.size u v) : u.grownBy v none := ⟨hB.os, hB.tape, hB.output, hB.size, fun k hk _ => hB.block k hk⟩
theorem Stab.cons {i d : Nat} {c : Option Nat} {p : World → Value → Prop} {E : List En} (h : ∀ u v x, Below u.heap.size u v → p u x → p v x) (r : Stab E) : Stab (⟨i, d, c, p⟩ :: E) := fun q hq => by
  rcases List.mem_cons.1 hq with rfl | hq
  · exact h
  · exact r q hq
theorem Bk.more {lo : Nat} {u0 u : World} {k0 ks : List Blk} {b : Nat} {l : List Value} (K0 : Bk lo u0 k0) (K : Bk lo u ks) (hb : u0.heap.size ≤ b) (hlt : b < u.heap.size) (hc : CV u b l) (e : ks.map (·.2.1) = k0.map (·.2.1) := by rfl) : Bk lo u (aK ks [(false, b, l)]) := by
  rw [aK_eq]
  refine ⟨KA.app K.a (KA.c hlt hc trivial), ?_⟩
  rw [List.map_append, List.nodup_append]
  refine ⟨K.n, by simp, fun x hx y hy h => ?_⟩
  rw [e] at hx
  have := K0.a.mem x hx
  simp at hy
  omega
end Go.Proofs.Ythncmahhnbpbkaa

/- The lesser of two, a store in a block's midst, and copies of slices of any kind. -/
namespace Go.Proofs.Ythncmahhnbpbkaa
open Go.RowKit
set_option linter.unusedVariables false
set_option linter.unusedSimpArgs false
section
variable {R : Rg} {P : Program} {ops : Array Oper} {Q : Exit → Act → World → Prop} {f : Nat → Bool} {t : Nat → Value} {u : World} {a : Act} {i : Nat} {o : Oper}
/-- The lesser of two. -/
theorem g_mn {x y : Operand} {tys : Array TypeId} {m n r : Int} (hr : min m n = r) (hop : o.op = .call { callee := .builtin .min, args := [x, y].toArray, argTypes := tys } := by rfl) (hx : evR R i o x = some (.int .i64 m) := by rfl) (hy : evR R i o y = some (.int .i64 n) := by rfl) (hv : some (.int .i64 r) = pickV i R.G := by rfl) (hc : R.chk ops i o = true := by rfl) : OG R P ops Q i o :=
  g_pure hv hc fun f t u a X K hK => by
    have h1 := X.ev hx
    have h2 := X.ev hy
    refine wp_val (v := .int .i64 r) (w' := u) ?_ hK
    unfold execOp
    simp only [hop, resolve, invoke, builtin, Sem.run_bind, Sem.run_pure, Result.andThen_ok, List.map_toArray, List.map_cons, List.map_nil, h1, h2]
    subst hr
    simp [go_sem]
    all_goals (rw [Int.min_def]; split <;> split <;> omega)
/-- A store of a row in a block's midst. -/
theorem g_sm (k c : Nat) {T : TypeId} {x y : Operand} {b m : Nat} (xs ys zs : List Value) {post : List Value} (hi : (P.info? T).map (·.size) = some m) (hop : o.op = .store T x y := by rfl) (hn : R.es[k]? = some (true, b, xs ++ ys ++ zs, .all i (xs ++ post ++ zs)) := by rfl) (hx : evR R i o x = some (.pointer (some ⟨b, c, none⟩)) := by rfl) (hy : evR R i o y = some (.agg post.toArray) := by rfl) (h1 : allOne post = true := by rfl)
    (hxc : xs.length = c := by rfl) (hm : post.length = m := by rfl) (hl : ys.length = post.length := by rfl) (hf : (((R.es.eraseIdx k).all fun q => q.2.2.2.free i) && (R.nw.all (nwf0 i))) = true := by rfl) (hc : R.chkS ops i o = true := by rfl) : OG R P ops Q i o := fun f t u a X => by
  simp only [Bool.and_eq_true] at hf
  obtain ⟨q1, q2, q3⟩ := X.I.2.1.get hn
  have q3 : CV u b (bif f i then xs ++ post ++ zs else xs ++ ys ++ zs) := q3
  rw [X.fi] at q3
  have q3 : CV u b (xs ++ ys ++ zs) := q3
  have cc := Chg.cellsAt u b c post
  refine X.go (chkS_parts hc).2.2.2 fun K hK => wp_store_mid T x y hop b c post.toArray (X.ev hx) (X.ev hy) (fun j hj => by
    rw [List.size_toArray] at hj
    have := q3 (c + j) _ (List.getElem?_eq_getElem (by simp only [List.length_append]; omega))
    rw [this.1]; exact ⟨rfl, this.2⟩) (by rw [List.size_toArray, hm]; exact hi) (all_one h1) (hK _ _ (X.put0 hc ?_ ?_))
  · rw [nwF_free0 hf.2]
    exact X.I.1.wr (below_setCells (q2 rfl) _ _ _ X.I.1.bel) cc q1
  · exact KC.put cc X.I.2.1 hn X.nd hf.1 (by simp only [Wr.val, updF_eq, cond_true]; exact q3.mid hxc hl)
end
/-- An empty slice of one's own. -/
def PZ (base : Nat) (u : World) (v : Value) : Prop := ∃ b, v = .slice (some ⟨b, 0, none⟩) 0 0 ∧ base ≤ b ∧ b < u.heap.size
theorem PZ.stab {base : Nat} {u v : World} {x : Value} (hB : Below u.heap.size u v) (h : PZ base u x) : PZ base v x := by
  obtain ⟨b, e, h1, h2⟩ := h
  exact ⟨b, e, h1, Nat.lt_of_lt_of_le h2 hB.size⟩
theorem PZ.new {base : Nat} {u : World} {e : TypeId} (h : base ≤ u.heap.size) : PZ base (u.alloc (.cells #[] e)) (.slice (some ⟨u.heap.size, 0, none⟩) 0 0) := ⟨_, rfl, h, by simp⟩
theorem app_emptyG {P : Program} {T e : TypeId} {ti : TypeInfo} {z : Value} (ht : P.underlying T = some (.slice e)) (hi : P.info? e = some ti) (hz : ti.zero = some z) (hzs : z.cells.size = ti.size) (base : Nat) (u : World) (ty : TypeId) (vs : Value) (sl : Option Addr) (g o c n : Nat) (xs : List Value) (hxl : xs.length = n * ti.size) (hu : base ≤ u.heap.size) (hb : n * ti.bytes ≤ 140737488355328) (h63 : n ≤ 9223372036854775807) (hsl : n = 0 ∨ sl = some ⟨g, o, none⟩) (hS : ∀ j v, xs[j]? = some v → u.cell? ⟨g, o + j, none⟩ = some v) (h : PZ base u vs) :
    ∃ v u', (Builtin.append_ #[T, T] ty #[vs, .slice sl n c]).run P u = .ok v u' ∧ Below u.heap.size u u' ∧ PS base n xs u' v := by
  obtain ⟨b, rfl, h1, h2⟩ := h
  by_cases hn : n = 0
  · subst hn
    have hxs : xs = [] := List.eq_nil_of_length_eq_zero (by omega)
    subst hxs
    refine ⟨.slice (some ⟨b, 0, none⟩) 0 0, u, ?_, Below.refl _ _, b, 0, rfl, h1, h2, Nat.le_refl _, fun j v hj => by simp at hj⟩
    cases sl <;> simp [Builtin.append_, run_underlying ht, sizeOf, typeInfo, hi, Builtin.lenOf, Builtin.firstCells, loadCells, loadCellsFrom, storeCells]
  · have hs := hsl.resolve_left hn
    subst hs
    have hadd : ∀ j : Nat, (⟨g, o, none⟩ : Addr).add j = ⟨g, o + j, none⟩ := fun j => by unfold Addr.add; split <;> simp_all
    have hr := run_append_grow (P := P) u T ty e ti z ht hi hz ⟨b, 0, none⟩ 0 0 [] (by simp) (by simp) ⟨g, o, none⟩ n c xs hxl (fun j v hj => by rw [hadd]; exact hS j v hj) (by omega) (by omega) (growslice_fits (by omega) (by rw [Nat.zero_add]; exact hb))
    refine ⟨_, _, hr, balloc (bself u).drew _, u.heap.size, grownCap u (0 + n) 0 e, by simp only [Nat.zero_add], hu, by simp, ?_, ?_⟩
    · have := grownCap_ge u (0 + n) 0 e
      omega
    · have e1 : (([] : List Value).toArray ++ xs.toArray ++ Builtin.zeroCells z.cells (grownCap u (0 + n) 0 e - (0 + n))) = (xs ++ (Builtin.zeroCells z.cells (grownCap u (0 + n) 0 e - (0 + n))).toList).toArray := by apply Array.ext'; simp
      rw [e1]
      exact (CV.new u.drew _ e).pre2
end Go.Proofs.Ythncmahhnbpbkaa

