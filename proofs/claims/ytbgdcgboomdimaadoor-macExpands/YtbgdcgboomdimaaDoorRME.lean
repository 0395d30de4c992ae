/- Proved: for any key, any salt, any text and any number, MacExpands returns true and leaves its arguments as they were; the card. No condition but what the card ties. -/
import Derived.Test.YtbgdcgboomdimaaDoorMS
import Derived.Test.YtbgdcgboomdimaaDoorLME
import Derived.ChangeMaps5
namespace Go.Proofs.YtbgdcgboomdimaaDoor
open Go.ChangeShapes Go.WideShapes Go.ChangeAt Go.RowKit
set_option linter.unusedVariables false
set_option linter.unusedSimpArgs false
theorem macExpands_any (sla : Option Addr) (capa gba goa : Nat) (xsa : List Nat) (slb : Option Addr) (capb gbb gob : Nat) (xsb : List Nat) (s : ByteArray) (x : Int) (W : World) (hV : GV W) (k1a : xsa.length ≤ capa) (k2a : sla = none → capa = 0) (k3a : xsa.length = 0 ∨ sla = some ⟨gba, goa, none⟩) (k4a : gba < W.heap.size) (k5a : SB W gba goa xsa) (k6a : ∀ x ∈ xsa, x < 256) (k1b : xsb.length ≤ capb) (k2b : slb = none → capb = 0) (k3b : xsb.length = 0 ∨ slb = some ⟨gbb, gob, none⟩) (k4b : gbb < W.heap.size) (k5b : SB W gbb gob xsb) (k6b : ∀ x ∈ xsb, x < 256) :
    Calls Tryd.prog 8 #[.slice sla xsa.length capa, .slice slb xsb.length capb, .string s, .int .i64 x] W fun e W' => e = .returned (.bool true) ∧ Below W.heap.size W W' := by
  obtain ⟨ya, a1, a2, a3, a4, a5, a6, a7⟩ := short_any k1a k2a k3a k4a k5a k6a
  obtain ⟨yb, b1, b2, b3, b4, b5, b6, b7⟩ := short_any k1b k2b k3b k4b k5b k6b
  obtain ⟨q, eq⟩ : ∃ q, min s.size 100 = q := ⟨_, rfl⟩
  obtain ⟨s2, es2⟩ : ∃ s2, s.extract 0 q = s2 := ⟨_, rfl⟩
  have hs2 : s2.size ≤ 1000 := by rw [← es2, ByteArray.size_extract]; omega
  obtain ⟨x2, hx2⟩ : ∃ x2 : Int, (200 < x → x < 8161 → x2 = ((x.toNat % 200 : Nat) : Int)) ∧ (¬ (200 < x ∧ x < 8161) → x2 = x) := by
    by_cases h : 200 < x ∧ x < 8161
    · exact ⟨((x.toNat % 200 : Nat) : Int), fun _ _ => rfl, fun h' => absurd h h'⟩
    · exact ⟨x, fun h1 h2 => absurd ⟨h1, h2⟩ h, fun _ => rfl⟩
  have hsz := hV.sz
  have hsame : ∀ (l : List Nat), (∀ y ∈ l, y < 256) → ∀ (u : World) (y z : Value), IN u u.heap.size y l → IN u u.heap.size z l → Calls Tryd.prog 16 #[y, z] u fun e u' => e = .returned (.bool true) ∧ Below u.heap.size u u' := fun l hl u y z hy hz => by
    have h := cSameB l l y z u hy hz hl hl
    rwa [decide_eq_true rfl] at h
  exact macExpands_core xsa.length capa ya.length xsb.length capb yb.length q sla slb s s2 x x2 (exE x2) (exE x2) (exY ya (txt s2) x2) (exY (mac yb ya) (txt s2) x2) W (by omega) (by omega) es2 hx2.1 hx2.2 a7 b7
    (fun u hB => cExpandX ya _ s2 x2 u (hV.below hB hV.sz) (a3 u hB) a4 a2 (by omega) hs2) (fun u hB => cExpandRX ya _ s2 x2 u (by have := hB.size; omega) (a3 u hB) a2 (by omega) hs2) (fun u hB => cDerive ya yb _ _ s2 x2 u (hV.below hB hV.sz) (a3 u hB) (b3 u hB) b4 a2 b2 (by omega) (by omega) hs2) (fun u hB => cDeriveR ya yb _ _ s2 x2 u (by have := hB.size; omega) (a3 u hB) (b3 u hB) a2 b2 (by omega) (by omega) hs2)
    (hsame _ (exY_m _ _ _)) (hsame _ (exY_m _ _ _)) (fun u hB => works5 u (hV.below hB hV.sz))
set_option maxRecDepth 100000 in
theorem macExpands_lifted (os : Go.Os) (started : os.Started) (H : Type) (enc : TypeId × Value → H) :
    ReturnsInHanded {} Tryd.checked os 8 .any (fun w args => (Rows.macExpandsSpec.pre enc Tryd.prog Tryd.f8 [] false w args ∧ laidMetH Tryd.prog lst2 w) ∧ sizedMet enc Tryd.prog Tryd.f8 (OpenSpec.ofChange Rows.macExpandsSpec) false w args)
      (Rows.macExpandsSpec.post enc Tryd.prog Tryd.f8 false true false false) := by
  refine returnsInHanded_of_change_and (C := Tryd.checked) (X := fun w _ => laidMetH Tryd.prog lst2 w) (fun _ _ _ hh h => h.of_heap hh) own4 started (by kernel_rfl) Tryd.func8
    (ChangeSpec.witness_shaped (enc := enc) (C := Tryd.checked) (os := os) (X := fun w _ => laidMetH Tryd.prog lst2 w) false (World.doorLaid Tryd.prog 400 os) #[.slice none 0 0, .slice none 0 0, .string ⟨#[]⟩, .int .i64 0] 8 rfl (World.shaped_of_RefB (by kernel_rfl) (by kernel_rfl)) (by kernel_rfl) (by kernel_rfl) (by kernel_rfl) (door_met os _)) ?_
  intro W base args ds gs before hval0 hW _ _ hL _
  have hval : ∀ (j : Nat) t v, Tryd.f8.params[j]? = some t → args[j]? = some v → Value.okWide Tryd.prog W .any base t v := hval0
  have hW' := hW
  obtain ⟨p, q, hA0, hV, rfl, hfz, hnd⟩ := hW
  have hA : DataW.TrodAll enc Tryd.prog W 0 (fun _ => true) true Tryd.f8.params.toList args.toList ds p := hA0
  rw [Tryd.params8] at hA hval
  obtain ⟨v0, v1, v2, v3, d0, d1, d2, d3, q0, q1, q2, q3, rfl, rfl, rfl, h0, h1, h2, h3⟩ := trodAll_four hA
  obtain ⟨rfl, rfl⟩ := trodVars_none hV
  simp only [List.append_nil] at hW'
  have hGV := of_laid hL
  have hlt : ∀ x ∈ q0 ++ q1 ++ q2 ++ q3, x.block < W.heap.size := fun x hx => by simpa using hW'.lt x (by simpa using hx)
  have hargs : ∀ (W' : World), Below W.heap.size W W' → DataW.Trod enc Tryd.prog W' 0 (fun b => decide (b < W.heap.size)) true 22 v0 d0 q0 ∧ DataW.Trod enc Tryd.prog W' 0 (fun b => decide (b < W.heap.size)) true 22 v1 d1 q1 ∧ DataW.Trod enc Tryd.prog W' 0 (fun b => decide (b < W.heap.size)) true 9 v2 d2 q2 ∧ DataW.Trod enc Tryd.prog W' 0 (fun b => decide (b < W.heap.size)) true 3 v3 d3 q3 :=
    fun W' hn => ⟨Below.trod laid4 (by kernel_rfl) (of_decide_eq_true (by kernel_rfl)) h0 hn (fun x hx => hlt x (by simp [hx])), Below.trod laid4 (by kernel_rfl) (of_decide_eq_true (by kernel_rfl)) h1 hn (fun x hx => hlt x (by simp [hx])), Below.trod laid4 (by kernel_rfl) (of_decide_eq_true (by kernel_rfl)) h2 hn (fun x hx => hlt x (by simp [hx])), Below.trod laid4 (by kernel_rfl) (of_decide_eq_true (by kernel_rfl)) h3 hn (fun x hx => hlt x (by simp [hx]))⟩
  have h0k := h0
  have h1k := h1
  have h2k := h2
  have h3k := h3
  obtain ⟨sla, capa, gba, goa, xsa, rfl, k1a, k2a, k3a, k4a, k5a, k6a⟩ := open_by (by have := hGV.sz; omega) (hval 0 22 v0 rfl rfl) h0k
  obtain ⟨slb, capb, gbb, gob, xsb, rfl, k1b, k2b, k3b, k4b, k5b, k6b⟩ := open_by (by have := hGV.sz; omega) (hval 1 22 v1 rfl rfl) h1k
  obtain ⟨s2, rfl, _, _, ls2⟩ := Go.ChangeMaps.open_string Tryd.underlying9 (hval 2 9 v2 rfl rfl) h2k
  obtain ⟨x3, rfl, rfl, rfl, wx3⟩ := open_int Tryd.underlying3 (hval 3 3 v3 rfl rfl) h3k
  have rx3 : -9223372036854775808 ≤ x3 ∧ x3 < 9223372036854775808 := by simp [Lit.wf, IntKind.min, IntKind.max, IntKind.signed, IntKind.bits] at wx3; omega
  clear hA0 hval0
  have hwalk := macExpands_any sla capa gba goa xsa slb capb gbb gob xsb s2 x3 W hGV k1a k2a k3a k4a k5a k6a k1b k2b k3b k4b k5b k6b
  refine hwalk.mono fun e W' ⟨he, bel⟩ => ?_
  subst he
  exact ⟨_, rfl, _, _, _, [], _, [], hW', trodAll_mk1 (shut_bool Tryd.underlying4 _), (by first | exact trodAll_mk4 (hargs _ bel).1 (hargs _ bel).2.1 (hargs _ bel).2.2.1 (hargs _ bel).2.2.2 | (simp only [List.append_assoc]; exact trodAll_mk4 (hargs _ bel).1 (hargs _ bel).2.1 (hargs _ bel).2.2.1 (hargs _ bel).2.2.2)), rfl, bel.frame _, fun h => by cases h⟩
theorem macExpands_holds : Rows.MacExpandsSaid :=
  OpenClaim.holds_of_wide 8 Tryd.f8 rfl rfl rfl rfl rfl rfl rfl ⟨rfl, rfl, rfl, rfl, rfl⟩ rfl rfl rfl rfl rfl (by kernel_rfl) Tryd.func8 (by kernel_rfl)
    (of_decide_eq_true (by kernel_rfl)) (by unfold Func.isWrapper; first | (rw [if_pos (by decide +kernel)]; kernel_rfl) | (rw [if_neg (by decide +kernel)]; exact ⟨rfl, rfl⟩))
    (fun os started H enc _ => macExpands_lifted os started H enc)
theorem macExpands_card : Rows.MacExpandsCardSaid :=
  Claim7.holds_tied_plain_at .later [] [.data, .data] true (true, "988d47e5a81ee84d19c02f511d5320bedb0820447e86b2ce5bc1423c4d39f146") false
    macExpands_holds (fun _ h => by cases h) (by kernel_rfl) (fun _ h => by cases h) macExpands_row_tie rfl ⟨rfl, rfl⟩ (by kernel_rfl) rfl
    (fun f fn hf hfn => by
      obtain rfl : f = 8 := Option.some.inj ((show Tryd.prog.funcNamed "seneschal/seneschallaw05.MacExpands" = some 8 by kernel_rfl).symm.trans hf) |>.symm
      obtain rfl : fn = Tryd.f8 := (Option.some.inj (Tryd.func8.symm.trans hfn)).symm
      exact ⟨by kernel_rfl, fun j t ht => by
        rw [Tryd.params8] at ht
        have hm : t ∈ [22, 22, 9, 3] := by simpa using Array.mem_of_getElem? ht
        have hall : ([22, 22, 9, 3].all fun u => !Tryd.prog.wantsStandIn u) = true := by kernel_rfl
        exact (show Tryd.prog.wantsStandIn t = false by simpa using List.all_eq_true.1 hall t hm)⟩)
    (by kernel_rfl)
#print axioms macExpands_card
end Go.Proofs.YtbgdcgboomdimaaDoor
