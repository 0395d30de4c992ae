/- Proved: for any key and any bytes, MacSums returns true and leaves its arguments as they were; the card. No condition but what the card ties. -/
import Derived.Test.YtbgdcgboomdimaaDoorMS
import Derived.Test.YtbgdcgboomdimaaDoorRN2
namespace Go.Proofs.YtbgdcgboomdimaaDoor
open Go.ChangeShapes Go.WideShapes Go.ChangeAt Go.RowKit
set_option linter.unusedVariables false
set_option linter.unusedSimpArgs false
theorem IN_own2 {u : World} {bo co m : Nat} {xs : List Nat} {zs : List Value} (hl : xs.length = m) (h : CV u bo (U8 (xs) ++ zs)) (hb : bo < u.heap.size) (hc : m ≤ co) : IN u u.heap.size (.slice (some ⟨bo, 0, none⟩) m co) xs := by
  subst hl
  refine ⟨_, co, bo, 0, rfl, hc, .inr rfl, hb, fun j hj => ?_⟩
  rw [Nat.zero_add]; exact (h.pre2 j _ (U8_get _ j hj)).1
theorem macSums_any (sla : Option Addr) (capa gba goa : Nat) (xsa : List Nat) (slb : Option Addr) (capb gbb gob : Nat) (xsb : List Nat) (W : World) (hV : GV W) (k1a : xsa.length ≤ capa) (k2a : sla = none → capa = 0) (k3a : xsa.length = 0 ∨ sla = some ⟨gba, goa, none⟩) (k4a : gba < W.heap.size) (k5a : SB W gba goa xsa) (k6a : ∀ x ∈ xsa, x < 256) (k1b : xsb.length ≤ capb) (k2b : slb = none → capb = 0) (k3b : xsb.length = 0 ∨ slb = some ⟨gbb, gob, none⟩) (k4b : gbb < W.heap.size) (k5b : SB W gbb gob xsb) (k6b : ∀ x ∈ xsb, x < 256) :
    Calls Tryd.prog 6 #[.slice sla xsa.length capa, .slice slb xsb.length capb] W fun e W' => e = .returned (.bool true) ∧ Below W.heap.size W W' := by
  obtain ⟨ya, a1, a2, a3, a4, a5, a6, a7⟩ := short_any k1a k2a k3a k4a k5a k6a
  obtain ⟨yb, b1, b2, b3, b4, b5, b6, b7⟩ := short_any k1b k2b k3b k4b k5b k6b
  have hso : ∀ (m bo co : Nat), ∀ n c, (Value.slice (some ⟨bo, 0, none⟩) m co) = .slice none n c → c = 0 := fun m bo co n c e => by cases e
  refine macSums_core xsa.length capa ya.length xsb.length capb yb.length sla slb ya yb (mac ya yb) W (mac_B _ _) a7 b7 (fun u hB => cBytes ya _ u (by omega) (a3 u hB)) (fun u hB => cBytes yb _ u (by omega) (b3 u hB)) (fun u p1 c1 z1 p2 c2 z2 hB hc hb hco hc2 hb2 hco2 => cMac ya yb _ _ u (hV.below hB hV.sz) (IN_own2 rfl hc hb hco) (hso _ _ _) (IN_own2 rfl hc2 hb2 hco2) a2 b2 (by omega) (by omega)) (fun u hB => cMacR ya yb _ _ u (a3 u hB) (b3 u hB) a2 b2 (by omega) (by omega)) (fun u p1 c1 z1 p2 c2 z2 hB hc hb hco hc2 hb2 hco2 => cExtract ya yb _ _ u (hV.below hB hV.sz) (IN_own2 rfl hc hb hco) (hso _ _ _) (IN_own2 rfl hc2 hb2 hco2) a2 b2 (by omega) (by omega)) (fun u hB => cExtractR ya yb _ _ u (a3 u hB) (b3 u hB) a2 b2 (by omega) (by omega)) (fun u p1 c1 z1 hB hc hb hco => ?_) (fun u p2 c2 z2 hB hc hb hco => ?_) (fun u hB => works5 u (hV.below hB hV.sz))
  · have h := cSameB ya ya _ _ u (IN_own2 rfl hc hb hco) (a3 u hB) a2 a2
    rwa [decide_eq_true rfl] at h
  · have h := cSameB yb yb _ _ u (IN_own2 rfl hc hb hco) (b3 u hB) b2 b2
    rwa [decide_eq_true rfl] at h
set_option maxRecDepth 100000 in
theorem macSums_lifted (os : Go.Os) (started : os.Started) (H : Type) (enc : TypeId × Value → H) :
    ReturnsInHanded {} Tryd.checked os 6 .any (fun w args => (Rows.macSumsSpec.pre enc Tryd.prog Tryd.f6 [] false w args ∧ laidMetH Tryd.prog lst2 w) ∧ sizedMet enc Tryd.prog Tryd.f6 (OpenSpec.ofChange Rows.macSumsSpec) false w args)
      (Rows.macSumsSpec.post enc Tryd.prog Tryd.f6 false true false false) := by
  refine returnsInHanded_of_change_and (C := Tryd.checked) (X := fun w _ => laidMetH Tryd.prog lst2 w) (fun _ _ _ hh h => h.of_heap hh) own4 started (by kernel_rfl) Tryd.func6
    (ChangeSpec.witness_shaped (enc := enc) (C := Tryd.checked) (os := os) (X := fun w _ => laidMetH Tryd.prog lst2 w) false (World.doorLaid Tryd.prog 400 os) #[.slice none 0 0, .slice none 0 0] 8 rfl (World.shaped_of_RefB (by kernel_rfl) (by kernel_rfl)) (by kernel_rfl) (by kernel_rfl) (by kernel_rfl) (door_met os _)) ?_
  intro W base args ds gs before hval0 hW _ _ hL _
  have hval : ∀ (j : Nat) t v, Tryd.f6.params[j]? = some t → args[j]? = some v → Value.okWide Tryd.prog W .any base t v := hval0
  have hW' := hW
  obtain ⟨p, q, hA0, hV, rfl, hfz, hnd⟩ := hW
  have hA : DataW.TrodAll enc Tryd.prog W 0 (fun _ => true) true Tryd.f6.params.toList args.toList ds p := hA0
  rw [Tryd.params6] at hA hval
  obtain ⟨v0, v1, d0, d1, q0, q1, rfl, rfl, rfl, h0, h1⟩ := trodAll_two hA
  obtain ⟨rfl, rfl⟩ := trodVars_none hV
  simp only [List.append_nil] at hW'
  have hGV := of_laid hL
  have hlt : ∀ x ∈ q0 ++ q1, x.block < W.heap.size := fun x hx => by simpa using hW'.lt x (by simpa using hx)
  have hargs : ∀ (W' : World), Below W.heap.size W W' → DataW.Trod enc Tryd.prog W' 0 (fun b => decide (b < W.heap.size)) true 22 v0 d0 q0 ∧ DataW.Trod enc Tryd.prog W' 0 (fun b => decide (b < W.heap.size)) true 22 v1 d1 q1 :=
    fun W' hn => ⟨Below.trod laid4 (by kernel_rfl) (of_decide_eq_true (by kernel_rfl)) h0 hn (fun x hx => hlt x (by simp [hx])), Below.trod laid4 (by kernel_rfl) (of_decide_eq_true (by kernel_rfl)) h1 hn (fun x hx => hlt x (by simp [hx]))⟩
  have h0k := h0
  have h1k := h1
  obtain ⟨sla, capa, gba, goa, xsa, rfl, k1a, k2a, k3a, k4a, k5a, k6a⟩ := open_by (by have := hGV.sz; omega) (hval 0 22 v0 rfl rfl) h0k
  obtain ⟨slb, capb, gbb, gob, xsb, rfl, k1b, k2b, k3b, k4b, k5b, k6b⟩ := open_by (by have := hGV.sz; omega) (hval 1 22 v1 rfl rfl) h1k
  clear hA0 hval0
  have hwalk := macSums_any sla capa gba goa xsa slb capb gbb gob xsb W hGV k1a k2a k3a k4a k5a k6a k1b k2b k3b k4b k5b k6b
  refine hwalk.mono fun e W' ⟨he, bel⟩ => ?_
  subst he
  exact ⟨_, rfl, _, _, _, [], _, [], hW', trodAll_mk1 (shut_bool Tryd.underlying4 _), trodAll_mk2 (hargs _ bel).1 (hargs _ bel).2, rfl, bel.frame _, fun h => by cases h⟩
theorem macSums_holds : Rows.MacSumsSaid :=
  OpenClaim.holds_of_wide 6 Tryd.f6 rfl rfl rfl rfl rfl rfl rfl ⟨rfl, rfl, rfl, rfl, rfl⟩ rfl rfl rfl rfl rfl (by kernel_rfl) Tryd.func6 (by kernel_rfl)
    (of_decide_eq_true (by kernel_rfl)) (by unfold Func.isWrapper; first | (rw [if_pos (by decide +kernel)]; kernel_rfl) | (rw [if_neg (by decide +kernel)]; exact ⟨rfl, rfl⟩))
    (fun os started H enc _ => macSums_lifted os started H enc)
theorem macSums_card : Rows.MacSumsCardSaid :=
  Claim7.holds_tied_plain_at .later [] [.data, .data] true (true, "988d47e5a81ee84d19c02f511d5320bedb0820447e86b2ce5bc1423c4d39f146") false
    macSums_holds (fun _ h => by cases h) (by kernel_rfl) (fun _ h => by cases h) macSums_row_tie rfl ⟨rfl, rfl⟩ (by kernel_rfl) rfl
    (fun f fn hf hfn => by
      obtain rfl : f = 6 := Option.some.inj ((show Tryd.prog.funcNamed "seneschal/seneschallaw05.MacSums" = some 6 by kernel_rfl).symm.trans hf) |>.symm
      obtain rfl : fn = Tryd.f6 := (Option.some.inj (Tryd.func6.symm.trans hfn)).symm
      exact ⟨by kernel_rfl, fun j t ht => by
        rw [Tryd.params6] at ht
        have hm : t ∈ [22, 22] := by simpa using Array.mem_of_getElem? ht
        have hall : ([22, 22].all fun u => !Tryd.prog.wantsStandIn u) = true := by kernel_rfl
        exact (show Tryd.prog.wantsStandIn t = false by simpa using List.all_eq_true.1 hall t hm)⟩)
    (by kernel_rfl)
#print axioms macSums_card
end Go.Proofs.YtbgdcgboomdimaaDoor
