/- Proved: for any numbers of four words, any modulus and any turn, ModMany returns true and leaves its arguments as they were. No condition. -/
import Derived.Test.YtkpnjmfndgfogaaOO
import Derived.Test.YtkpnjmfndgfogaaLM7
import Derived.Deep.Slices
namespace Go.Proofs.Ytkpnjmfndgfogaa
open Go.ChangeShapes Go.WideShapes Go.ChangeAt Go.RowKit
set_option linter.unusedVariables false
set_option linter.unusedSimpArgs false
/-- A list out of one number for each place. -/
theorem list_of {p : Nat → Int → Prop} : ∀ n, (∀ i, i < n → ∃ z, p i z) → ∃ ns : List Int, ns.length = n ∧ ∀ i, i < n → p i (ns.getD i 0)
  | 0, _ => ⟨[], rfl, fun i hi => by omega⟩
  | n + 1, h => by
    obtain ⟨ns, hl, hp⟩ := list_of n (fun i hi => h i (by omega))
    obtain ⟨z, hz⟩ := h n (by omega)
    refine ⟨ns ++ [z], by simp [hl], fun i hi => ?_⟩
    by_cases e : i = n
    · subst e
      have : (ns ++ [z]).getD i 0 = z := by rw [← hl]; simp
      rw [this]; exact hz
    · have : (ns ++ [z]).getD i 0 = ns.getD i 0 := by simp [List.getElem?_append_left (show i < ns.length by omega)]
      rw [this]; exact hp i (by omega)
theorem flN_at : ∀ (ns : List Int) (j : Nat) (v : Value), (flN ns)[j]? = some v → j / 4 < ns.length ∧ (LN (ns.getD (j / 4) 0))[j % 4]? = some v
  | [], j, v, h => by simp [flN] at h
  | n :: r, j, v, h => by
    rw [flN] at h
    by_cases hj : j < 4
    · rw [List.getElem?_append_left (by show j < 4; exact hj)] at h
      rw [show j / 4 = 0 by omega, show j % 4 = j by omega]
      exact ⟨by simp, by simpa using h⟩
    · rw [List.getElem?_append_right (by show 4 ≤ j; omega)] at h
      have h : (flN r)[j - 4]? = some v := h
      have := flN_at r (j - 4) v h
      rw [show j / 4 = (j - 4) / 4 + 1 by omega, show j % 4 = (j - 4) % 4 by omega]
      exact ⟨by simpa using this.1, by simpa using this.2⟩
theorem SN.of {w : World} {g o : Nat} {ns : List Int} (h : ∀ i, i < ns.length → ∀ c v, (LN (ns.getD i 0))[c]? = some v → w.cell? ⟨g, o + (i * 4 + c), none⟩ = some v) : SN w g o ns := fun j v hj => by
  obtain ⟨h1, h2⟩ := flN_at ns j v hj
  have := h _ h1 _ v h2
  rwa [show j / 4 * 4 + j % 4 = j by omega] at this
set_option maxRecDepth 100000 in
set_option maxHeartbeats 1000000 in
theorem row_nat {H : Type} {enc : TypeId × Value → H} {W : World} {bs fuel base : Nat} {sp : Nat → Bool} {held : Bool} {a : Addr} {cs : List Value} {x : DataW H × List MemPlace} (h1 : W.cells? base a 4 = some cs) (h : DataW.trod enc Try.prog W bs sp held fuel 25 cs = some x) :
    ∃ z, In z ∧ ∀ c v, (LN z)[c]? = some v → W.cell? (a.add c) = some v := by
  obtain ⟨_, hl, hc⟩ := World.cells?_some h1
  match cs, hl, hc, h with
  | [c0, c1, c2, c3], hl, hc, h =>
    obtain ⟨y0, y1, y2, y3, m, hx, hy0, hy1, hy2, hy3⟩ := trod_array4 Try.underlying25 Try.cells23 h
    obtain ⟨x0, e0, rfl, w0⟩ := DataW.trod_int Try.underlying23 hy0
    obtain ⟨x1, e1, rfl, w1⟩ := DataW.trod_int Try.underlying23 hy1
    obtain ⟨x2, e2, rfl, w2⟩ := DataW.trod_int Try.underlying23 hy2
    obtain ⟨x3, e3, rfl, w3⟩ := DataW.trod_int Try.underlying23 hy3
    simp at e0 e1 e2 e3
    subst e0 e1 e2 e3
    refine ⟨V x0 x1 x2 x3, In_V (word_of_wf w0) (word_of_wf w1) (word_of_wf w2) (word_of_wf w3), fun c v hv => ?_⟩
    have hL : LN (V x0 x1 x2 x3) = [.int .u64 x0, .int .u64 x1, .int .u64 x2, .int .u64 x3] := by
      have := NV_V (word_of_wf w0) (word_of_wf w1) (word_of_wf w2) (word_of_wf w3)
      unfold NV A4 at this
      injection this with this
      have := congrArg Array.toList this
      simpa using this
    rw [hL] at hv
    have hlt : c < 4 := by have := (List.getElem?_eq_some_iff.1 hv).1; simpa using this
    rw [hc c hlt]; exact hv
set_option maxRecDepth 100000 in
theorem modMany_lifted (os : Go.Os) (started : os.Started) (H : Type) (enc : TypeId × Value → H) :
    ReturnsInHanded {} Try.checked os 6 .any (Rows.modManySpec.pre6 enc Try.prog Try.f6 Rows.modManyRow.domain false) (Rows.modManySpec.post enc Try.prog Try.f6 false true false false) := by
  refine returnsInHanded_of_change (C := Try.checked) Try.own started (by kernel_rfl) Try.func6
    (ChangeSpec.witness6 (enc := enc) (C := Try.checked) false ⟨#[], #[.slice none 0 0, A4 0 0 0 0, .int .i64 0], []⟩ 8 (by kernel_rfl) (by kernel_rfl) (by kernel_rfl) (by kernel_rfl)) ?_
  intro W base args ds gs before hval0 hW hcnd _
  have hval : ∀ (j : Nat) t v, Try.f6.params[j]? = some t → args[j]? = some v → Value.okWide Try.prog W .any base t v := hval0
  have hW' := hW
  obtain ⟨p, q, hA0, hV, rfl, hfz, hnd⟩ := hW
  have hA : DataW.TrodAll enc Try.prog W 0 (fun _ => true) true Try.f6.params.toList args.toList ds p := hA0
  rw [Try.params6] at hA hval
  obtain ⟨v0, v1, v2, d0, d1, d2, q0, q1, q2, rfl, rfl, rfl, h0, h1, h2⟩ := trodAll_three hA
  obtain ⟨rfl, rfl⟩ := trodVars_none hV
  simp only [List.append_nil] at hW'
  have hlt : ∀ x ∈ q0 ++ q1 ++ q2, x.block < W.heap.size := fun x hx => by simpa using hW'.lt x (by simpa using hx)
  have hargs : ∀ (W' : World), Below W.heap.size W W' → DataW.Trod enc Try.prog W' 0 (fun b => decide (b < W.heap.size)) true 39 v0 d0 q0 ∧ DataW.Trod enc Try.prog W' 0 (fun b => decide (b < W.heap.size)) true 25 v1 d1 q1 ∧ DataW.Trod enc Try.prog W' 0 (fun b => decide (b < W.heap.size)) true 3 v2 d2 q2 :=
    fun W' hn => ⟨Below.trod Try.laidOut (by kernel_rfl) (of_decide_eq_true (by kernel_rfl)) h0 hn (fun x hx => hlt x (by simp [hx])), Below.trod Try.laidOut (by kernel_rfl) (of_decide_eq_true (by kernel_rfl)) h1 hn (fun x hx => hlt x (by simp [hx])), Below.trod Try.laidOut (by kernel_rfl) (of_decide_eq_true (by kernel_rfl)) h2 hn (fun x hx => hlt x (by simp [hx]))⟩
  have h0k := h0; have h1k := h1; have h2k := h2
  obtain ⟨a, b, c, d, rfl, _, _, ha, hb, hc, hd⟩ := open_nat (hval 1 25 v1 rfl rfl) h1k
  obtain ⟨x, rfl, _, _, wx⟩ := open_int Try.underlying3 (hval 2 3 v2 rfl rfl) h2k
  have bx := Go.bounds_i64 wx
  have key : ∃ sl len cap gb go, ∃ ns : List Int, v0 = .slice sl len cap ∧ (min (len : Int) 50).toNat = ns.length ∧ len ≤ cap ∧ (sl = none → cap = 0) ∧ (cap = 0 ∨ sl = some ⟨gb, go, none⟩) ∧ (ns.length = 0 ∨ gb < W.heap.size) ∧ SN W gb go ns ∧ ∀ z ∈ ns, In z := by
    obtain ⟨a0, len, cap, rfl⟩ := okWide_slice Try.underlying39 (hval 0 39 v0 rfl rfl)
    obtain ⟨fuel, hf⟩ := h0k
    rcases Go.Deep.open_slice Try.underlying39 hf with ⟨hcs, hx⟩ | ⟨ad, len', cap', m, n, D, Pl, hcs, hbs, hl, hm, hmm, hx, hall⟩
    · simp [Value.cells] at hcs
      obtain ⟨rfl, rfl, rfl⟩ := hcs
      exact ⟨_, _, _, 0, 0, [], rfl, rfl, Nat.le_refl _, fun _ => rfl, .inl rfl, .inl rfl, SN.empty rfl, fun z hz => (by cases hz)⟩
    · simp [Value.cells] at hcs
      obtain ⟨rfl, rfl, rfl⟩ := hcs
      simp only [if_true] at hmm
      by_cases h0 : cap = 0
      · subst h0
        have e : len = 0 := by omega
        subst e
        exact ⟨_, _, _, 0, 0, [], rfl, rfl, Nat.le_refl _, fun _ => rfl, .inl rfl, .inl rfl, SN.empty rfl, fun z hz => (by cases hz)⟩
      · have hrow : ∀ i, i < cap → ∃ z, In z ∧ ∀ c v, (LN z)[c]? = some v → W.cell? ((ad.add (i * 4)).add c) = some v := fun i hi => by
          obtain ⟨cs, k1, k2⟩ := hall i (by rw [hmm]; exact hi)
          rw [Try.cells25] at k1
          exact row_nat k1 k2
        obtain ⟨gb, go, spot⟩ := ad
        have hspot : spot = none := by
          obtain ⟨z, _, hz⟩ := hrow 0 (by omega)
          have := hz 0 _ rfl
          simpa [Addr.add] using World.cell?_spot this
        subst hspot
        have hadd : ∀ i c : Nat, ((⟨gb, go, none⟩ : Addr).add (i * 4)).add c = ⟨gb, go + (i * 4 + c), none⟩ := fun i c => by unfold Addr.add; (repeat' split) <;> simp_all <;> omega
        obtain ⟨ns, hnl, hnp⟩ := list_of (min (len : Int) 50).toNat (fun i hi => hrow i (by omega))
        have hblk : gb < W.heap.size := by
          obtain ⟨z, _, hz⟩ := hrow 0 (by omega)
          have := hz 0 _ rfl
          rw [hadd] at this
          exact World.block_lt_of_cell? W _ this
        refine ⟨_, _, _, gb, go, ns, rfl, hnl.symm, hl, fun e => (by cases e), .inr rfl, .inr hblk, SN.of (fun i hi c v hv => ?_), fun z hz => ?_⟩
        · have := (hnp i (by omega)).2 c v hv
          rwa [hadd] at this
        · obtain ⟨j, hj, rfl⟩ := List.mem_iff_getElem.1 hz
          have := (hnp j (by omega)).1
          simpa [List.getElem?_eq_getElem hj] using this
  obtain ⟨sl, len, cap, gb, go, ns, rfl, k1, k2, k3, k4, k5, k6, k7⟩ := key
  clear hA0 hval0
  have hwalk := modMany_any (V a b c d) x sl gb go len cap ns W (In_V ha hb hc hd) ⟨by omega, by omega⟩ k1 k2 k3 k4 k5 k6 k7
  rw [NV_V ha hb hc hd] at hwalk
  refine hwalk.mono fun e W' ⟨he, bel⟩ => ?_
  subst he
  exact ⟨_, rfl, _, _, _, [], _, [], hW', trodAll_mk1 (shut_bool Try.underlying4 _), trodAll_mk3 (hargs _ bel).1 (hargs _ bel).2.1 (hargs _ bel).2.2, rfl, bel.frame _, fun h => by cases h⟩
theorem modMany_holds : Rows.ModManySaid :=
  OpenClaim.holds_of_wide 6 Try.f6 rfl rfl rfl rfl rfl rfl rfl ⟨rfl, rfl, rfl, rfl, rfl⟩ rfl rfl rfl rfl rfl (by kernel_rfl) Try.func6 (by kernel_rfl)
    (of_decide_eq_true (by kernel_rfl)) (by unfold Func.isWrapper; first | (rw [if_pos (by decide +kernel)]; kernel_rfl) | (rw [if_neg (by decide +kernel)]; exact ⟨rfl, rfl⟩))
    (fun os started H enc _ => modMany_lifted os started H enc)
#print axioms modMany_holds
end Go.Proofs.Ytkpnjmfndgfogaa
