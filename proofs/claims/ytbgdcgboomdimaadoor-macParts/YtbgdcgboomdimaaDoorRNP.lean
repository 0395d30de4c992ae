/- Proved: for any key and any parts, MacParts returns true and leaves its arguments as they were; the card. No condition but what the card ties. -/
import Derived.Test.YtbgdcgboomdimaaDoorMS
import Derived.Test.YtbgdcgboomdimaaDoorRN3
namespace Go.Proofs.YtbgdcgboomdimaaDoor
open Go.ChangeShapes Go.WideShapes Go.ChangeAt Go.RowKit
set_option linter.unusedVariables false
set_option linter.unusedSimpArgs false
theorem open_byE {H : Type} {enc : TypeId × Value → H} {W : World} {fuel : Nat} {v : Value} {x : DataW H × List MemPlace} (h1 : 0 < W.heap.size) (hf : DataW.trod enc Tryd.prog W 0 (fun _ => true) true fuel 22 [v] = some x) :
    ∃ sl cap gb go, ∃ xs : List Nat, v = .slice sl xs.length cap ∧ xs.length ≤ cap ∧ (sl = none → cap = 0) ∧ (xs.length = 0 ∨ sl = some ⟨gb, go, none⟩) ∧ gb < W.heap.size ∧ SB W gb go xs ∧ ∀ x ∈ xs, x < 256 := by
  rcases Go.Deep.open_slice1 Tryd.underlying22 cells8 hf with ⟨hcs, hx⟩ | ⟨ad, len, cap, m, n, V, D, Pl, hcs, hbs, hl, hm, hmm, hx, hall⟩
  · rw [List.cons.injEq] at hcs
    obtain ⟨rfl, _⟩ := hcs
    exact ⟨_, _, 0, 0, [], rfl, Nat.le_refl _, fun _ => rfl, .inl rfl, h1, fun j hj => by simp at hj, fun x hx => by simp at hx⟩
  · rw [List.cons.injEq] at hcs
    obtain ⟨rfl, _⟩ := hcs
    simp only [if_true] at hmm
    by_cases h0 : cap = 0
    · subst h0
      have e : len = 0 := by omega
      subst e
      exact ⟨_, _, 0, 0, [], rfl, Nat.le_refl _, fun _ => rfl, .inl rfl, h1, fun j hj => by simp at hj, fun x hx => by simp at hx⟩
    · have hrow : ∀ i, i < cap → ∃ k : Nat, k < 256 ∧ W.cell? (ad.add i) = some (.int .u8 (k : Int)) := fun i hi => by
        obtain ⟨k1, k2⟩ := hall i (by omega)
        obtain ⟨k, e1, e2, e3⟩ := DataW.trod_int Tryd.underlying5 k2
        simp at e1
        have e3 : 0 ≤ k ∧ k < 256 := by
          simp [Lit.wf, IntKind.min, IntKind.max, IntKind.signed, IntKind.bits] at e3
          omega
        refine ⟨k.toNat, by omega, ?_⟩
        rw [k1, e1, show ((k.toNat : Nat) : Int) = k by omega]
      obtain ⟨gb, go, spot⟩ := ad
      have hspot : spot = none := by
        obtain ⟨z, _, hz⟩ := hrow 0 (by omega)
        simpa [Addr.add] using World.cell?_spot hz
      subst hspot
      have hadd : ∀ i : Nat, ((⟨gb, go, none⟩ : Addr).add i) = ⟨gb, go + i, none⟩ := fun i => by unfold Addr.add; (repeat' split) <;> simp_all
      have hlist : ∀ n, n ≤ cap → ∃ xs : List Nat, xs.length = n ∧ (∀ x ∈ xs, x < 256) ∧ SB W gb go xs := fun n => by
        induction n with
        | zero => exact fun _ => ⟨[], rfl, fun x hx => by simp at hx, fun j hj => by simp at hj⟩
        | succ n ih =>
          intro hn
          obtain ⟨xs, e1, e2, e3⟩ := ih (by omega)
          obtain ⟨k, hk, hc⟩ := hrow n (by omega)
          rw [hadd] at hc
          refine ⟨xs ++ [k], by simp [e1], fun x hx => ?_, fun j hj => ?_⟩
          · rcases List.mem_append.1 hx with h | h
            · exact e2 x h
            · simp at h; omega
          · by_cases hj2 : j < xs.length
            · rw [e3 j hj2]
              simp [List.getElem?_append_left hj2]
            · have : j = n := by simp at hj; omega
              subst this
              rw [hc]
              simp [← e1]
      obtain ⟨xs, e1, e2, e3⟩ := hlist len (by omega)
      have hblk : gb < W.heap.size := by
        obtain ⟨z, _, hz⟩ := hrow 0 (by omega)
        rw [hadd] at hz
        exact World.block_lt_of_cell? W _ hz
      subst e1
      exact ⟨_, _, gb, go, xs, rfl, hl, fun e => (by cases e), .inr rfl, hblk, e3, e2⟩
theorem cellsS : Tryd.prog.cellsOf 22 = 1 := by kernel_rfl
/-- Slices of bytes that came in. -/
theorem open_ll {H : Type} {enc : TypeId × Value → H} {W : World} {base : Nat} {v : Value} {x : DataW H} {p : List MemPlace} (hz : 0 < W.heap.size) (hv : Value.okWide Tryd.prog W .any base 37 v) (h : DataW.Trod enc Tryd.prog W 0 (fun _ => true) true 37 v x p) :
    ∃ sl n cap, v = .slice sl n cap ∧ (0 < n → ∃ cb co, sl = some ⟨cb, co, none⟩ ∧ cb < W.heap.size ∧ ∀ j, j < n → ∃ sv cv mv, W.cell? ⟨cb, co + j, none⟩ = some sv ∧ sv = sv ∧ ∃ sl cap gb go, ∃ xs : List Nat, sv = .slice sl xs.length cap ∧ xs.length ≤ cap ∧ (sl = none → cap = 0) ∧ (xs.length = 0 ∨ sl = some ⟨gb, go, none⟩) ∧ gb < W.heap.size ∧ SB W gb go xs ∧ (∀ x ∈ xs, x < 256) ∧ cv = 0 ∧ mv = 0) := by
  obtain ⟨a0, len, cap, rfl⟩ := okWide_slice Tryd.underlying37 hv
  obtain ⟨fuel, hf⟩ := h
  rcases Go.Deep.open_slice1 Tryd.underlying37 cellsS hf with ⟨hcs, hx⟩ | ⟨ad, len', cap', m, n, V, D, Pl, hcs, hbs, hl, hm, hmm, hx, hall⟩
  · simp [Value.cells] at hcs
    obtain ⟨rfl, rfl, rfl⟩ := hcs
    exact ⟨_, _, _, rfl, fun h => by omega⟩
  · simp [Value.cells] at hcs
    obtain ⟨rfl, rfl, rfl⟩ := hcs
    simp only [if_true] at hmm
    refine ⟨_, _, _, rfl, fun h0 => ?_⟩
    obtain ⟨gb, go, spot⟩ := ad
    have hspot : spot = none := by
      have hz := (hall 0 (by omega)).1
      simpa [Addr.add] using World.cell?_spot hz
    subst hspot
    have hadd : ∀ i : Nat, ((⟨gb, go, none⟩ : Addr).add i) = ⟨gb, go + i, none⟩ := fun i => by unfold Addr.add; (repeat' split) <;> simp_all
    refine ⟨gb, go, rfl, ?_, fun j hj => ?_⟩
    · have hz := (hall 0 (by omega)).1
      rw [hadd] at hz
      exact World.block_lt_of_cell? W _ hz
    · obtain ⟨k1, k2⟩ := hall j (by omega)
      rw [hadd] at k1
      obtain ⟨s1, c1, g1, o1, xs, q1, q2, q3, q4, q5, q6, q7⟩ := open_byE hz k2
      exact ⟨V j, 0, 0, k1, rfl, s1, c1, g1, o1, xs, q1, q2, q3, q4, q5, q6, q7, rfl, rfl⟩
theorem LV_of {w u : World} {b c k : Nat} {vs zs : List Value} {ps : List (List Nat)} (hB : Below w.heap.size w u) (hc : CV u b (vs ++ zs)) (hb : b < u.heap.size) (hk : vs.length = k) (hl : ps.length = vs.length) (h : ∀ (i : Nat) (v : Value) (p : List Nat), vs[i]? = some v → ps[i]? = some p → SQp w v p) : LV u (.slice (some ⟨b, 0, none⟩) k c) ps := by
  refine ⟨_, c, b, 0, by rw [hl, hk], .inr rfl, hb, PL_of hc hl.symm fun i v p hv hp => ?_⟩
  exact ((h i v p hv hp).1.below hB).mono hB.size
theorem SQ_all {w : World} {vs : List Value} {ps : List (List Nat)} (hl : ps.length = vs.length) (h : ∀ (i : Nat) (v : Value) (p : List Nat), vs[i]? = some v → ps[i]? = some p → SQp w v p) : ∀ p ∈ ps, p.length ≤ 300 ∧ ∀ x ∈ p, x < 256 := fun p hp => by
  obtain ⟨i, hi, rfl⟩ := List.getElem_of_mem hp
  exact (h i _ _ (List.getElem?_eq_getElem (by omega)) (List.getElem?_eq_getElem hi)).2
theorem macParts_any (sla : Option Addr) (capa gba goa : Nat) (xsa : List Nat) (cs : Option Addr) (cn ccap : Nat) (W : World) (hV : GV W) (k1a : xsa.length ≤ capa) (k2a : sla = none → capa = 0) (k3a : xsa.length = 0 ∨ sla = some ⟨gba, goa, none⟩) (k4a : gba < W.heap.size) (k5a : SB W gba goa xsa) (k6a : ∀ x ∈ xsa, x < 256) (hcu : 0 < cn → ∃ cb co, cs = some ⟨cb, co, none⟩ ∧ cb < W.heap.size ∧ ∀ j, j < cn → ∃ sv cv mv, W.cell? ⟨cb, co + j, none⟩ = some sv ∧ sv = sv ∧ ∃ sl cap gb go, ∃ xs : List Nat, sv = .slice sl xs.length cap ∧ xs.length ≤ cap ∧ (sl = none → cap = 0) ∧ (xs.length = 0 ∨ sl = some ⟨gb, go, none⟩) ∧ gb < W.heap.size ∧ SB W gb go xs ∧ (∀ x ∈ xs, x < 256) ∧ cv = 0 ∧ mv = 0) :
    Calls Tryd.prog 7 #[.slice sla xsa.length capa, .slice cs cn ccap] W fun e W' => e = .returned (.bool true) ∧ Below W.heap.size W W' := by
  obtain ⟨ya, a1, a2, a3, a4, a5, a6, a7⟩ := short_any k1a k2a k3a k4a k5a k6a
  refine macParts_core xsa.length capa ya.length cn ccap sla cs (fun ps => mac ya (lnP ps).flatten) W (fun ps => mac_B _ _) (fun h0 => ?_) a7 (fun u hB => works5 u (hV.below hB hV.sz)) (fun u b c k vs zs ps hB hc hb hk hk20 hl h => ?_) (fun u b c k vs zs ps hB hc hb hk hk20 hl h => ?_)
  · obtain ⟨cb, co, e, hcb, hall⟩ := hcu h0
    refine ⟨cb, co, e, hcb, fun j hj => ?_⟩
    obtain ⟨sv, _, _, hc, _, sl, cap, gb, go, xs, rfl, k1, k2, k3, k4, k5, k6, _, _⟩ := hall j hj
    obtain ⟨yb, b1, b2, b3, b4, b5, b6, b7⟩ := short_any k1 k2 k3 k4 k5 k6
    exact ⟨sl, xs.length, cap, yb.length, hc, b7, yb, b3 W (Below.refl _ _), b1, b2⟩
  · have hp := SQ_all hl h
    exact cMParts ya ps _ _ u (hV.below hB hV.sz) (a3 u hB) a4 a2 (by omega) (LV_of hB hc hb hk hl h) (by omega) (fun p hq => (hp p hq).2) (fun p hq => by have := (hp p hq).1; omega)
  · have hp := SQ_all hl h
    exact cPartsR ya ps _ _ u (a3 u hB) a2 (by omega) (LV_of hB hc hb hk hl h) (by omega) (fun p hq => (hp p hq).2) (fun p hq => by have := (hp p hq).1; omega)
set_option maxRecDepth 100000 in
theorem macParts_lifted (os : Go.Os) (started : os.Started) (H : Type) (enc : TypeId × Value → H) :
    ReturnsInHanded {} Tryd.checked os 7 .any (fun w args => (Rows.macPartsSpec.pre enc Tryd.prog Tryd.f7 [] false w args ∧ laidMetH Tryd.prog lst2 w) ∧ sizedMet enc Tryd.prog Tryd.f7 (OpenSpec.ofChange Rows.macPartsSpec) false w args)
      (Rows.macPartsSpec.post enc Tryd.prog Tryd.f7 false true false false) := by
  refine returnsInHanded_of_change_and (C := Tryd.checked) (X := fun w _ => laidMetH Tryd.prog lst2 w) (fun _ _ _ hh h => h.of_heap hh) own4 started (by kernel_rfl) Tryd.func7
    (ChangeSpec.witness_shaped (enc := enc) (C := Tryd.checked) (os := os) (X := fun w _ => laidMetH Tryd.prog lst2 w) false (World.doorLaid Tryd.prog 400 os) #[.slice none 0 0, .slice none 0 0] 8 rfl (World.shaped_of_RefB (by kernel_rfl) (by kernel_rfl)) (by kernel_rfl) (by kernel_rfl) (by kernel_rfl) (door_met os _)) ?_
  intro W base args ds gs before hval0 hW _ _ hL _
  have hval : ∀ (j : Nat) t v, Tryd.f7.params[j]? = some t → args[j]? = some v → Value.okWide Tryd.prog W .any base t v := hval0
  have hW' := hW
  obtain ⟨p, q, hA0, hV, rfl, hfz, hnd⟩ := hW
  have hA : DataW.TrodAll enc Tryd.prog W 0 (fun _ => true) true Tryd.f7.params.toList args.toList ds p := hA0
  rw [Tryd.params7] at hA hval
  obtain ⟨v0, v1, d0, d1, q0, q1, rfl, rfl, rfl, h0, h1⟩ := trodAll_two hA
  obtain ⟨rfl, rfl⟩ := trodVars_none hV
  simp only [List.append_nil] at hW'
  have hGV := of_laid hL
  have hlt : ∀ x ∈ q0 ++ q1, x.block < W.heap.size := fun x hx => by simpa using hW'.lt x (by simpa using hx)
  have hargs : ∀ (W' : World), Below W.heap.size W W' → DataW.Trod enc Tryd.prog W' 0 (fun b => decide (b < W.heap.size)) true 22 v0 d0 q0 ∧ DataW.Trod enc Tryd.prog W' 0 (fun b => decide (b < W.heap.size)) true 37 v1 d1 q1 :=
    fun W' hn => ⟨Below.trod laid4 (by kernel_rfl) (of_decide_eq_true (by kernel_rfl)) h0 hn (fun x hx => hlt x (by simp [hx])), Below.trod laid4 (by kernel_rfl) (of_decide_eq_true (by kernel_rfl)) h1 hn (fun x hx => hlt x (by simp [hx]))⟩
  have h0k := h0
  have h1k := h1
  obtain ⟨sla, capa, gba, goa, xsa, rfl, k1a, k2a, k3a, k4a, k5a, k6a⟩ := open_by (by have := hGV.sz; omega) (hval 0 22 v0 rfl rfl) h0k
  obtain ⟨cs, cn, ccap, rfl, hcu⟩ := open_ll (by have := hGV.sz; omega) (hval 1 37 v1 rfl rfl) h1k
  clear hA0 hval0
  have hwalk := macParts_any sla capa gba goa xsa cs cn ccap W hGV k1a k2a k3a k4a k5a k6a hcu
  refine hwalk.mono fun e W' ⟨he, bel⟩ => ?_
  subst he
  exact ⟨_, rfl, _, _, _, [], _, [], hW', trodAll_mk1 (shut_bool Tryd.underlying4 _), trodAll_mk2 (hargs _ bel).1 (hargs _ bel).2, rfl, bel.frame _, fun h => by cases h⟩
theorem macParts_holds : Rows.MacPartsSaid :=
  OpenClaim.holds_of_wide 7 Tryd.f7 rfl rfl rfl rfl rfl rfl rfl ⟨rfl, rfl, rfl, rfl, rfl⟩ rfl rfl rfl rfl rfl (by kernel_rfl) Tryd.func7 (by kernel_rfl)
    (of_decide_eq_true (by kernel_rfl)) (by unfold Func.isWrapper; first | (rw [if_pos (by decide +kernel)]; kernel_rfl) | (rw [if_neg (by decide +kernel)]; exact ⟨rfl, rfl⟩))
    (fun os started H enc _ => macParts_lifted os started H enc)
theorem macParts_card : Rows.MacPartsCardSaid :=
  Claim7.holds_tied_plain_at .later [] [.data, .data] true (true, "988d47e5a81ee84d19c02f511d5320bedb0820447e86b2ce5bc1423c4d39f146") false
    macParts_holds (fun _ h => by cases h) (by kernel_rfl) (fun _ h => by cases h) macParts_row_tie rfl ⟨rfl, rfl⟩ (by kernel_rfl) rfl
    (fun f fn hf hfn => by
      obtain rfl : f = 7 := Option.some.inj ((show Tryd.prog.funcNamed "seneschal/seneschallaw05.MacParts" = some 7 by kernel_rfl).symm.trans hf) |>.symm
      obtain rfl : fn = Tryd.f7 := (Option.some.inj (Tryd.func7.symm.trans hfn)).symm
      exact ⟨by kernel_rfl, fun j t ht => by
        rw [Tryd.params7] at ht
        have hm : t ∈ [22, 37] := by simpa using Array.mem_of_getElem? ht
        have hall : ([22, 37].all fun u => !Tryd.prog.wantsStandIn u) = true := by kernel_rfl
        exact (show Tryd.prog.wantsStandIn t = false by simpa using List.all_eq_true.1 hall t hm)⟩)
    (by kernel_rfl)
#print axioms macParts_card
end Go.Proofs.YtbgdcgboomdimaaDoor
