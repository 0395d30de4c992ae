/- Proved: for any key, any text and any two numbers, MacBegins returns true and leaves its arguments as they were; the card. No condition but what the card ties. -/
import Derived.Test.YtbgdcgboomdimaaDoorMS
import Derived.Test.YtbgdcgboomdimaaDoorLMB
import Derived.ChangeMaps5
namespace Go.Proofs.YtbgdcgboomdimaaDoor
open Go.ChangeShapes Go.WideShapes Go.ChangeAt Go.RowKit
set_option linter.unusedVariables false
set_option linter.unusedSimpArgs false
theorem strB_size (xs : List Nat) : (strB xs).size = xs.length := by unfold strB; rw [strOfNums_size, List.length_map]
theorem macBegins_any (sla : Option Addr) (capa gba goa : Nat) (xsa : List Nat) (s : ByteArray) (x y : Int) (W : World) (hV : GV W) (k1a : xsa.length ≤ capa) (k2a : sla = none → capa = 0) (k3a : xsa.length = 0 ∨ sla = some ⟨gba, goa, none⟩) (k4a : gba < W.heap.size) (k5a : SB W gba goa xsa) (k6a : ∀ x ∈ xsa, x < 256) (hx : -9223372036854775808 ≤ x ∧ x < 9223372036854775808) (hy : -9223372036854775808 ≤ y ∧ y < 9223372036854775808) :
    Calls Tryd.prog 9 #[.slice sla xsa.length capa, .string s, .int .i64 x, .int .i64 y] W fun e W' => e = .returned (.bool true) ∧ Below W.heap.size W W' := by
  obtain ⟨ya, a1, a2, a3, a4, a5, a6, a7⟩ := short_any k1a k2a k3a k4a k5a k6a
  obtain ⟨k1, hk1, hA1⟩ := among_any x 150 (by decide) (by decide) hx
  obtain ⟨k2, hk2, hA2⟩ := among_any y 150 (by decide) (by decide) hy
  obtain ⟨q, eq⟩ : ∃ q, min s.size 100 = q := ⟨_, rfl⟩
  obtain ⟨s2, es2⟩ : ∃ s2, s.extract 0 q = s2 := ⟨_, rfl⟩
  have hs2 : s2.size ≤ 1000 := by rw [← es2, ByteArray.size_extract]; omega
  obtain ⟨kn, ekn⟩ : ∃ q, min k1 k2 = q := ⟨_, rfl⟩
  obtain ⟨kx, ekx⟩ : ∃ q, max k1 k2 = q := ⟨_, rfl⟩
  have hE : ∀ k, k ≤ 8160 → ∀ u, Below W.heap.size W u → Calls Tryd.prog 34 #[.slice sla ya.length capa, .string s2, .int .i64 ((k : Nat) : Int)] u fun e u' => ∃ v, e = .returned v ∧ PT 0 u.heap.size k (U8 (exN (whl ya) (txt s2) k)) u' v ∧ Below u.heap.size u u' := fun k hk u hB =>
    cExpand ya _ s2 k u (hV.below hB hV.sz) (a3 u hB) a4 a2 (by omega) hs2 hk
  refine macBegins_core xsa.length capa ya.length q k1 k2 kn kx sla s s2 x y (exN (whl ya) (txt s2) kn) (exN (whl ya) (txt s2) kx) W (by omega) (by omega) es2 (by omega) (by omega) (exN_len _ _ _) (exN_len _ _ _) (fun u hB => works5 u (hV.below hB hV.sz)) a7 hA1 hA2 (hE kn (by omega)) (hE kx (by omega)) (fun u => ?_)
  refine cBegins _ _ u (by rw [strB_size, strB_size, exN_len, exN_len]; omega) ?_
  rw [strB_size, exN_len, strB_take _ (by rw [exN_len]; omega), exN_take _ _ _ _ (by omega)]
set_option maxRecDepth 100000 in
theorem macBegins_lifted (os : Go.Os) (started : os.Started) (H : Type) (enc : TypeId × Value → H) :
    ReturnsInHanded {} Tryd.checked os 9 .any (fun w args => (Rows.macBeginsSpec.pre enc Tryd.prog Tryd.f9 [] false w args ∧ laidMetH Tryd.prog lst2 w) ∧ sizedMet enc Tryd.prog Tryd.f9 (OpenSpec.ofChange Rows.macBeginsSpec) false w args)
      (Rows.macBeginsSpec.post enc Tryd.prog Tryd.f9 false true false false) := by
  refine returnsInHanded_of_change_and (C := Tryd.checked) (X := fun w _ => laidMetH Tryd.prog lst2 w) (fun _ _ _ hh h => h.of_heap hh) own4 started (by kernel_rfl) Tryd.func9
    (ChangeSpec.witness_shaped (enc := enc) (C := Tryd.checked) (os := os) (X := fun w _ => laidMetH Tryd.prog lst2 w) false (World.doorLaid Tryd.prog 400 os) #[.slice none 0 0, .string ⟨#[]⟩, .int .i64 0, .int .i64 0] 8 rfl (World.shaped_of_RefB (by kernel_rfl) (by kernel_rfl)) (by kernel_rfl) (by kernel_rfl) (by kernel_rfl) (door_met os _)) ?_
  intro W base args ds gs before hval0 hW _ _ hL _
  have hval : ∀ (j : Nat) t v, Tryd.f9.params[j]? = some t → args[j]? = some v → Value.okWide Tryd.prog W .any base t v := hval0
  have hW' := hW
  obtain ⟨p, q, hA0, hV, rfl, hfz, hnd⟩ := hW
  have hA : DataW.TrodAll enc Tryd.prog W 0 (fun _ => true) true Tryd.f9.params.toList args.toList ds p := hA0
  rw [Tryd.params9] at hA hval
  obtain ⟨v0, v1, v2, v3, d0, d1, d2, d3, q0, q1, q2, q3, rfl, rfl, rfl, h0, h1, h2, h3⟩ := trodAll_four hA
  obtain ⟨rfl, rfl⟩ := trodVars_none hV
  simp only [List.append_nil] at hW'
  have hGV := of_laid hL
  have hlt : ∀ x ∈ q0 ++ q1 ++ q2 ++ q3, x.block < W.heap.size := fun x hx => by simpa using hW'.lt x (by simpa using hx)
  have hargs : ∀ (W' : World), Below W.heap.size W W' → DataW.Trod enc Tryd.prog W' 0 (fun b => decide (b < W.heap.size)) true 22 v0 d0 q0 ∧ DataW.Trod enc Tryd.prog W' 0 (fun b => decide (b < W.heap.size)) true 9 v1 d1 q1 ∧ DataW.Trod enc Tryd.prog W' 0 (fun b => decide (b < W.heap.size)) true 3 v2 d2 q2 ∧ DataW.Trod enc Tryd.prog W' 0 (fun b => decide (b < W.heap.size)) true 3 v3 d3 q3 :=
    fun W' hn => ⟨Below.trod laid4 (by kernel_rfl) (of_decide_eq_true (by kernel_rfl)) h0 hn (fun x hx => hlt x (by simp [hx])), Below.trod laid4 (by kernel_rfl) (of_decide_eq_true (by kernel_rfl)) h1 hn (fun x hx => hlt x (by simp [hx])), Below.trod laid4 (by kernel_rfl) (of_decide_eq_true (by kernel_rfl)) h2 hn (fun x hx => hlt x (by simp [hx])), Below.trod laid4 (by kernel_rfl) (of_decide_eq_true (by kernel_rfl)) h3 hn (fun x hx => hlt x (by simp [hx]))⟩
  have h0k := h0
  have h1k := h1
  have h2k := h2
  have h3k := h3
  obtain ⟨sla, capa, gba, goa, xsa, rfl, k1a, k2a, k3a, k4a, k5a, k6a⟩ := open_by (by have := hGV.sz; omega) (hval 0 22 v0 rfl rfl) h0k
  obtain ⟨s1, rfl, _, _, ls1⟩ := Go.ChangeMaps.open_string Tryd.underlying9 (hval 1 9 v1 rfl rfl) h1k
  obtain ⟨x2, rfl, rfl, rfl, wx2⟩ := open_int Tryd.underlying3 (hval 2 3 v2 rfl rfl) h2k
  have rx2 : -9223372036854775808 ≤ x2 ∧ x2 < 9223372036854775808 := by simp [Lit.wf, IntKind.min, IntKind.max, IntKind.signed, IntKind.bits] at wx2; omega
  obtain ⟨x3, rfl, rfl, rfl, wx3⟩ := open_int Tryd.underlying3 (hval 3 3 v3 rfl rfl) h3k
  have rx3 : -9223372036854775808 ≤ x3 ∧ x3 < 9223372036854775808 := by simp [Lit.wf, IntKind.min, IntKind.max, IntKind.signed, IntKind.bits] at wx3; omega
  clear hA0 hval0
  have hwalk := macBegins_any sla capa gba goa xsa s1 x2 x3 W hGV k1a k2a k3a k4a k5a k6a rx2 rx3
  refine hwalk.mono fun e W' ⟨he, bel⟩ => ?_
  subst he
  exact ⟨_, rfl, _, _, _, [], _, [], hW', trodAll_mk1 (shut_bool Tryd.underlying4 _), (by first | exact trodAll_mk4 (hargs _ bel).1 (hargs _ bel).2.1 (hargs _ bel).2.2.1 (hargs _ bel).2.2.2 | (simp only [List.append_assoc]; exact trodAll_mk4 (hargs _ bel).1 (hargs _ bel).2.1 (hargs _ bel).2.2.1 (hargs _ bel).2.2.2)), rfl, bel.frame _, fun h => by cases h⟩
theorem macBegins_holds : Rows.MacBeginsSaid :=
  OpenClaim.holds_of_wide 9 Tryd.f9 rfl rfl rfl rfl rfl rfl rfl ⟨rfl, rfl, rfl, rfl, rfl⟩ rfl rfl rfl rfl rfl (by kernel_rfl) Tryd.func9 (by kernel_rfl)
    (of_decide_eq_true (by kernel_rfl)) (by unfold Func.isWrapper; first | (rw [if_pos (by decide +kernel)]; kernel_rfl) | (rw [if_neg (by decide +kernel)]; exact ⟨rfl, rfl⟩))
    (fun os started H enc _ => macBegins_lifted os started H enc)
theorem macBegins_card : Rows.MacBeginsCardSaid :=
  Claim7.holds_tied_plain_at .later [] [.data, .data] true (true, "988d47e5a81ee84d19c02f511d5320bedb0820447e86b2ce5bc1423c4d39f146") false
    macBegins_holds (fun _ h => by cases h) (by kernel_rfl) (fun _ h => by cases h) macBegins_row_tie rfl ⟨rfl, rfl⟩ (by kernel_rfl) rfl
    (fun f fn hf hfn => by
      obtain rfl : f = 9 := Option.some.inj ((show Tryd.prog.funcNamed "seneschal/seneschallaw05.MacBegins" = some 9 by kernel_rfl).symm.trans hf) |>.symm
      obtain rfl : fn = Tryd.f9 := (Option.some.inj (Tryd.func9.symm.trans hfn)).symm
      exact ⟨by kernel_rfl, fun j t ht => by
        rw [Tryd.params9] at ht
        have hm : t ∈ [22, 9, 3, 3] := by simpa using Array.mem_of_getElem? ht
        have hall : ([22, 9, 3, 3].all fun u => !Tryd.prog.wantsStandIn u) = true := by kernel_rfl
        exact (show Tryd.prog.wantsStandIn t = false by simpa using List.all_eq_true.1 hall t hm)⟩)
    (by kernel_rfl)
#print axioms macBegins_card
end Go.Proofs.YtbgdcgboomdimaaDoor
