/- Proved: for any key, any number and any bytes, MacKeys returns true and leaves its arguments as they were; the card. No condition but what the card ties. -/
import Derived.Test.YtbgdcgboomdimaaDoorMS
import Derived.Test.YtbgdcgboomdimaaDoorLMK
namespace Go.Proofs.YtbgdcgboomdimaaDoor
open Go.ChangeShapes Go.WideShapes Go.ChangeAt Go.RowKit
set_option linter.unusedVariables false
set_option linter.unusedSimpArgs false
theorem IN.take {u : World} {m n cap k : Nat} {sl : Option Addr} {xs : List Nat} (h : IN u m (.slice sl n cap) xs) (kn : Nat) (hk : (xs.take k).length = kn) : IN u m (.slice sl kn cap) (xs.take k) := by
  subst hk
  obtain ⟨sl', cap', gb, go, e, h1, h2, h3, h4⟩ := h
  cases e
  have hl : (xs.take k).length ≤ xs.length := by rw [List.length_take]; omega
  exact ⟨sl, cap, gb, go, rfl, by omega, h2.imp (fun h => by omega) id, h3, h4.take k⟩
theorem IN_more {u : World} {bm cm kn z : Nat} {ks : List Nat} {zs : List Value} (hk : ks.length = kn) (h : CV u bm ((U8 (ks) ++ U8 (List.replicate z 0)) ++ zs)) (hb : bm < u.heap.size) (hc : kn + z ≤ cm) : IN u u.heap.size (.slice (some ⟨bm, 0, none⟩) (kn + z) cm) (ks ++ List.replicate z 0) := by
  have e : (ks ++ List.replicate z 0).length = kn + z := by rw [List.length_append, List.length_replicate, hk]
  refine ⟨_, cm, bm, 0, by rw [e], by omega, .inr rfl, hb, fun j hj => ?_⟩
  rw [← U8_app] at h
  rw [Nat.zero_add]; exact (h.pre2 j _ (U8_get _ j hj)).1
theorem macKeys_any (sla : Option Addr) (capa gba goa : Nat) (xsa : List Nat) (x : Int) (slb : Option Addr) (capb gbb gob : Nat) (xsb : List Nat) (W : World) (hV : GV W) (k1a : xsa.length ≤ capa) (k2a : sla = none → capa = 0) (k3a : xsa.length = 0 ∨ sla = some ⟨gba, goa, none⟩) (k4a : gba < W.heap.size) (k5a : SB W gba goa xsa) (k6a : ∀ x ∈ xsa, x < 256) (hx : -9223372036854775808 ≤ x ∧ x < 9223372036854775808) (k1b : xsb.length ≤ capb) (k2b : slb = none → capb = 0) (k3b : xsb.length = 0 ∨ slb = some ⟨gbb, gob, none⟩) (k4b : gbb < W.heap.size) (k5b : SB W gbb gob xsb) (k6b : ∀ x ∈ xsb, x < 256) :
    Calls Tryd.prog 10 #[.slice sla xsa.length capa, .int .i64 x, .slice slb xsb.length capb] W fun e W' => e = .returned (.bool true) ∧ Below W.heap.size W W' := by
  obtain ⟨ya, a1, a2, a3, a4, a5, a6, a7⟩ := short_any k1a k2a k3a k4a k5a k6a
  obtain ⟨yb, b1, b2, b3, b4, b5, b6, b7⟩ := short_any k1b k2b k3b k4b k5b k6b
  obtain ⟨ks, eks⟩ : ∃ ks, ya.take 64 = ks := ⟨_, rfl⟩
  obtain ⟨kn, ekn⟩ : ∃ kn, ks.length = kn := ⟨_, rfl⟩
  have hkn : kn = min 64 ya.length := by rw [← ekn, ← eks, List.length_take]
  have hka : ∀ x ∈ ks, x < 256 := fun x hx => a2 x (by rw [← eks] at hx; exact List.mem_of_mem_take hx)
  have hkin : ∀ u, Below W.heap.size W u → IN u u.heap.size (.slice sla kn capa) ks := fun u hB => by
    have := (a3 u hB).take (k := 64) kn (by rw [eks]; exact ekn)
    rwa [eks] at this
  have hksn : ∀ n c, (Value.slice sla kn capa) = .slice none n c → c = 0 := fun n c e => by
    rw [Value.slice.injEq] at e
    rw [← e.2.2]; exact a5 e.1
  obtain ⟨z, hz, hA⟩ := among_any x ((65 - kn : Nat) : Int) (by omega) (by omega) hx
  have hz64 : kn + z ≤ 64 := by omega
  have hmk : ∀ x ∈ ks ++ List.replicate z 0, x < 256 := fun x hx => by
    rcases List.mem_append.1 hx with h | h
    · exact hka x h
    · rw [List.eq_of_mem_replicate h]; decide
  have hml : (ks ++ List.replicate z 0).length ≤ 1000 := by rw [List.length_append, List.length_replicate]; omega
  have hme : ∀ l, mac (ks ++ List.replicate z 0) l = mac ks l := fun l => by unfold mac; rw [whl_zeros ks z (by omega)]
  have hsm : ∀ (bm cm : Nat), ∀ n c, (Value.slice (some ⟨bm, 0, none⟩) (kn + z) cm) = .slice none n c → c = 0 := fun bm cm n c e => by cases e
  have hP : ∀ p ∈ [yb], ∀ x ∈ p, x < 256 := by simpa using b2
  have hPl : ∀ p ∈ [yb], p.length ≤ 1000 := fun p hp => by simp at hp; subst hp; omega
  refine macKeys_core xsa.length capa ya.length xsb.length capb yb.length kn z sla slb x ks (mac ks yb) (mac ks (lnP [yb]).flatten) W (by omega) (by omega) (by omega) hz64 a6 a5 ekn (mac_B _ _) (mac_B _ _) (fun u hB => works5 u (hV.below hB hV.sz)) a7 b7 hA (fun u hB => ?_) (fun u hB => cMac ks yb _ _ u (hV.below hB hV.sz) (hkin u hB) hksn (b3 u hB) hka b2 (by omega) (by omega)) (fun u bm cm zs hB hc hb hcm => ?_) (fun u y hB hy => cMParts ks [yb] _ y u (hV.below hB hV.sz) (hkin u hB) hksn hka (by omega) (LV_one hy (b3 u hB)) (by simp) hP hPl) (fun u y bm cm zs hB hy hc hb hcm => ?_)
  · have h := cBytes ks _ u (by omega) (hkin u hB)
    rwa [ekn] at h
  · have h := cMac (ks ++ List.replicate z 0) yb _ _ u (hV.below hB hV.sz) (IN_more ekn hc hb hcm) (hsm bm cm) (b3 u hB) hmk b2 hml (by omega)
    rwa [hme] at h
  · have h := cMParts (ks ++ List.replicate z 0) [yb] _ y u (hV.below hB hV.sz) (IN_more ekn hc hb hcm) (hsm bm cm) hmk hml (LV_one hy (b3 u hB)) (by simp) hP hPl
    rwa [hme] at h
set_option maxRecDepth 100000 in
theorem macKeys_lifted (os : Go.Os) (started : os.Started) (H : Type) (enc : TypeId × Value → H) :
    ReturnsInHanded {} Tryd.checked os 10 .any (fun w args => (Rows.macKeysSpec.pre enc Tryd.prog Tryd.f10 [] false w args ∧ laidMetH Tryd.prog lst2 w) ∧ sizedMet enc Tryd.prog Tryd.f10 (OpenSpec.ofChange Rows.macKeysSpec) false w args)
      (Rows.macKeysSpec.post enc Tryd.prog Tryd.f10 false true false false) := by
  refine returnsInHanded_of_change_and (C := Tryd.checked) (X := fun w _ => laidMetH Tryd.prog lst2 w) (fun _ _ _ hh h => h.of_heap hh) own4 started (by kernel_rfl) Tryd.func10
    (ChangeSpec.witness_shaped (enc := enc) (C := Tryd.checked) (os := os) (X := fun w _ => laidMetH Tryd.prog lst2 w) false (World.doorLaid Tryd.prog 400 os) #[.slice none 0 0, .int .i64 0, .slice none 0 0] 8 rfl (World.shaped_of_RefB (by kernel_rfl) (by kernel_rfl)) (by kernel_rfl) (by kernel_rfl) (by kernel_rfl) (door_met os _)) ?_
  intro W base args ds gs before hval0 hW _ _ hL _
  have hval : ∀ (j : Nat) t v, Tryd.f10.params[j]? = some t → args[j]? = some v → Value.okWide Tryd.prog W .any base t v := hval0
  have hW' := hW
  obtain ⟨p, q, hA0, hV, rfl, hfz, hnd⟩ := hW
  have hA : DataW.TrodAll enc Tryd.prog W 0 (fun _ => true) true Tryd.f10.params.toList args.toList ds p := hA0
  rw [Tryd.params10] at hA hval
  obtain ⟨v0, v1, v2, d0, d1, d2, q0, q1, q2, rfl, rfl, rfl, h0, h1, h2⟩ := trodAll_three hA
  obtain ⟨rfl, rfl⟩ := trodVars_none hV
  simp only [List.append_nil] at hW'
  have hGV := of_laid hL
  have hlt : ∀ x ∈ q0 ++ q1 ++ q2, x.block < W.heap.size := fun x hx => by simpa using hW'.lt x (by simpa using hx)
  have hargs : ∀ (W' : World), Below W.heap.size W W' → DataW.Trod enc Tryd.prog W' 0 (fun b => decide (b < W.heap.size)) true 22 v0 d0 q0 ∧ DataW.Trod enc Tryd.prog W' 0 (fun b => decide (b < W.heap.size)) true 3 v1 d1 q1 ∧ DataW.Trod enc Tryd.prog W' 0 (fun b => decide (b < W.heap.size)) true 22 v2 d2 q2 :=
    fun W' hn => ⟨Below.trod laid4 (by kernel_rfl) (of_decide_eq_true (by kernel_rfl)) h0 hn (fun x hx => hlt x (by simp [hx])), Below.trod laid4 (by kernel_rfl) (of_decide_eq_true (by kernel_rfl)) h1 hn (fun x hx => hlt x (by simp [hx])), Below.trod laid4 (by kernel_rfl) (of_decide_eq_true (by kernel_rfl)) h2 hn (fun x hx => hlt x (by simp [hx]))⟩
  have h0k := h0
  have h1k := h1
  have h2k := h2
  obtain ⟨sla, capa, gba, goa, xsa, rfl, k1a, k2a, k3a, k4a, k5a, k6a⟩ := open_by (by have := hGV.sz; omega) (hval 0 22 v0 rfl rfl) h0k
  obtain ⟨x1, rfl, rfl, rfl, wx1⟩ := open_int Tryd.underlying3 (hval 1 3 v1 rfl rfl) h1k
  have rx1 : -9223372036854775808 ≤ x1 ∧ x1 < 9223372036854775808 := by simp [Lit.wf, IntKind.min, IntKind.max, IntKind.signed, IntKind.bits] at wx1; omega
  obtain ⟨slb, capb, gbb, gob, xsb, rfl, k1b, k2b, k3b, k4b, k5b, k6b⟩ := open_by (by have := hGV.sz; omega) (hval 2 22 v2 rfl rfl) h2k
  clear hA0 hval0
  have hwalk := macKeys_any sla capa gba goa xsa x1 slb capb gbb gob xsb W hGV k1a k2a k3a k4a k5a k6a rx1 k1b k2b k3b k4b k5b k6b
  refine hwalk.mono fun e W' ⟨he, bel⟩ => ?_
  subst he
  exact ⟨_, rfl, _, _, _, [], _, [], hW', trodAll_mk1 (shut_bool Tryd.underlying4 _), (by first | exact trodAll_mk3 (hargs _ bel).1 (hargs _ bel).2.1 (hargs _ bel).2.2 | (simp only [List.append_assoc]; exact trodAll_mk3 (hargs _ bel).1 (hargs _ bel).2.1 (hargs _ bel).2.2)), rfl, bel.frame _, fun h => by cases h⟩
theorem macKeys_holds : Rows.MacKeysSaid :=
  OpenClaim.holds_of_wide 10 Tryd.f10 rfl rfl rfl rfl rfl rfl rfl ⟨rfl, rfl, rfl, rfl, rfl⟩ rfl rfl rfl rfl rfl (by kernel_rfl) Tryd.func10 (by kernel_rfl)
    (of_decide_eq_true (by kernel_rfl)) (by unfold Func.isWrapper; first | (rw [if_pos (by decide +kernel)]; kernel_rfl) | (rw [if_neg (by decide +kernel)]; exact ⟨rfl, rfl⟩))
    (fun os started H enc _ => macKeys_lifted os started H enc)
theorem macKeys_card : Rows.MacKeysCardSaid :=
  Claim7.holds_tied_plain_at .later [] [.data, .data] true (true, "988d47e5a81ee84d19c02f511d5320bedb0820447e86b2ce5bc1423c4d39f146") false
    macKeys_holds (fun _ h => by cases h) (by kernel_rfl) (fun _ h => by cases h) macKeys_row_tie rfl ⟨rfl, rfl⟩ (by kernel_rfl) rfl
    (fun f fn hf hfn => by
      obtain rfl : f = 10 := Option.some.inj ((show Tryd.prog.funcNamed "seneschal/seneschallaw05.MacKeys" = some 10 by kernel_rfl).symm.trans hf) |>.symm
      obtain rfl : fn = Tryd.f10 := (Option.some.inj (Tryd.func10.symm.trans hfn)).symm
      exact ⟨by kernel_rfl, fun j t ht => by
        rw [Tryd.params10] at ht
        have hm : t ∈ [22, 3, 22] := by simpa using Array.mem_of_getElem? ht
        have hall : ([22, 3, 22].all fun u => !Tryd.prog.wantsStandIn u) = true := by kernel_rfl
        exact (show Tryd.prog.wantsStandIn t = false by simpa using List.all_eq_true.1 hall t hm)⟩)
    (by kernel_rfl)
#print axioms macKeys_card
end Go.Proofs.YtbgdcgboomdimaaDoor
