/- Proved: for any bytes and any numbers, ShaParts returns true and leaves its arguments as they were; the card. No condition but what the card ties. -/
import Derived.Test.YtbgdcgboomdimaaDoorLSP
import Derived.Test.YtbgdcgboomdimaaDoorSY
import Derived.Test.YtbgdcgboomdimaaDoorLS3
namespace Go.Proofs.YtbgdcgboomdimaaDoor
open Go.ChangeShapes Go.WideShapes Go.ChangeAt Go.RowKit
set_option linter.unusedVariables false
set_option linter.unusedSimpArgs false
theorem cellsI : Tryd.prog.cellsOf 3 = 1 := by kernel_rfl
/-- Numbers that came in. -/
theorem open_il {H : Type} {enc : TypeId × Value → H} {W : World} {base : Nat} {v : Value} {x : DataW H} {p : List MemPlace} (hv : Value.okWide Tryd.prog W .any base 36 v) (h : DataW.Trod enc Tryd.prog W 0 (fun _ => true) true 36 v x p) :
    ∃ sl n cap, v = .slice sl n cap ∧ (0 < n → ∃ cb co, sl = some ⟨cb, co, none⟩ ∧ cb < W.heap.size ∧ ∀ j, j < n → ∃ x : Int, (-9223372036854775808 ≤ x ∧ x < 9223372036854775808) ∧ W.cell? ⟨cb, co + j, none⟩ = some (.int .i64 x)) := by
  obtain ⟨a0, len, cap, rfl⟩ := okWide_slice Tryd.underlying36 hv
  obtain ⟨fuel, hf⟩ := h
  rcases Go.Deep.open_slice1 Tryd.underlying36 cellsI hf with ⟨hcs, hx⟩ | ⟨ad, len', cap', m, n, V, D, Pl, hcs, hbs, hl, hm, hmm, hx, hall⟩
  · simp [Value.cells] at hcs
    obtain ⟨rfl, rfl, rfl⟩ := hcs
    exact ⟨_, _, _, rfl, fun h => by omega⟩
  · simp [Value.cells] at hcs
    obtain ⟨rfl, rfl, rfl⟩ := hcs
    simp only [if_true] at hmm
    refine ⟨_, _, _, rfl, fun h0 => ?_⟩
    have hrow : ∀ i, i < len → ∃ k : Int, (-9223372036854775808 ≤ k ∧ k < 9223372036854775808) ∧ W.cell? (ad.add i) = some (.int .i64 k) := fun i hi => by
      obtain ⟨k1, k2⟩ := hall i (by omega)
      obtain ⟨k, e1, e2, e3⟩ := DataW.trod_int Tryd.underlying3 k2
      simp at e1
      have e3 : -9223372036854775808 ≤ k ∧ k < 9223372036854775808 := by
        simp [Lit.wf, IntKind.min, IntKind.max, IntKind.signed, IntKind.bits] at e3
        omega
      exact ⟨k, e3, by rw [k1, e1]⟩
    obtain ⟨gb, go, spot⟩ := ad
    have hspot : spot = none := by
      obtain ⟨z, _, hz⟩ := hrow 0 (by omega)
      simpa [Addr.add] using World.cell?_spot hz
    subst hspot
    have hadd : ∀ i : Nat, ((⟨gb, go, none⟩ : Addr).add i) = ⟨gb, go + i, none⟩ := fun i => by unfold Addr.add; (repeat' split) <;> simp_all
    refine ⟨gb, go, rfl, ?_, fun j hj => ?_⟩
    · obtain ⟨z, _, hz⟩ := hrow 0 (by omega)
      rw [hadd] at hz
      exact World.block_lt_of_cell? W _ hz
    · obtain ⟨z, h1, hz⟩ := hrow j hj
      rw [hadd] at hz
      exact ⟨z, h1, hz⟩
theorem cut_in {W : World} {sv : Option Addr} {gb go d k m cap : Nat} {ys : List Nat} (hd : d ≤ k) (hk : k ≤ m) (hm : ys.length = m) (hc : m ≤ cap) (h : k - d = 0 ∨ sv = some ⟨gb, go + d, none⟩) (hb : gb < W.heap.size) (hs : SB W gb go ys) : IN W W.heap.size (.slice sv (k - d) (cap - d)) ((ys.drop d).take (k - d)) := by
  have hl : ((ys.drop d).take (k - d)).length = k - d := by rw [List.length_take, List.length_drop]; omega
  refine ⟨sv, cap - d, gb, go + d, by rw [hl], by omega, by rw [hl]; exact h, hb, fun j hj => ?_⟩
  rw [hl] at hj
  rw [Nat.add_assoc, hs (d + j) (by omega)]
  rw [List.getD_eq_getElem?_getD, List.getD_eq_getElem?_getD, List.getElem?_take_of_lt hj, List.getElem?_drop]
theorem shaParts_any (sl : Option Addr) (cap gb go : Nat) (xs : List Nat) (cs : Option Addr) (cn ccap : Nat) (W : World) (hV : GV W) (k1 : xs.length ≤ cap) (k2 : sl = none → cap = 0) (k3 : xs.length = 0 ∨ sl = some ⟨gb, go, none⟩) (k4 : gb < W.heap.size) (k5 : SB W gb go xs) (k6 : ∀ x ∈ xs, x < 256) (hcu : 0 < cn → ∃ cb co, cs = some ⟨cb, co, none⟩ ∧ cb < W.heap.size ∧ ∀ j, j < cn → ∃ x : Int, (-9223372036854775808 ≤ x ∧ x < 9223372036854775808) ∧ W.cell? ⟨cb, co + j, none⟩ = some (.int .i64 x)) :
    Calls Tryd.prog 5 #[.slice sl xs.length cap, .slice cs cn ccap] W fun e W' => e = .returned (.bool true) ∧ Below W.heap.size W W' := by
  have hin := in_short k1 k3 k4 k5
  have hsb := k5.take 300
  obtain ⟨ys, eys⟩ : ∃ ys, xs.take 300 = ys := ⟨_, rfl⟩
  have hyl : ys.length = min xs.length 300 := by rw [← eys, List.length_take, Nat.min_comm]
  have hyb : ∀ y ∈ ys, y < 256 := fun y hy => k6 y (by rw [← eys] at hy; exact List.mem_of_mem_take hy)
  rw [eys] at hin hsb
  have hks : ys.length = 0 ∨ sl = some ⟨gb, go, none⟩ := k3.imp (fun h => by omega) id
  refine shaParts_core xs.length cap ys.length cn ccap sl cs ys (dig ys) W (by omega) (dig_B ys) hcu (fun d k hd hk => ?_) (fun d hd => ?_) (fun u hB => works4 u (hV.below hB hV.sz)) (fun u => cShort sl xs.length cap ys.length u (by omega) k1 k2) (fun u hB => cSum ys _ u (hV.below hB hV.sz) ((hin.below hB).mono hB.size) hyb (by omega)) (fun u b c k vs zs hB hc hb hk hk21 hp => ?_)
  · obtain ⟨sv, h1, h2⟩ := slDK sl gb go ys.length cap d k hd hk (by omega) hks k2
    exact ⟨sv, cut_in hd hk rfl (by omega) h1 k4 hsb, h2⟩
  · obtain ⟨sv, h1, h2⟩ := slD sl gb go ys.length cap d hd (by omega) hks k2
    exact ⟨sv, cut_in hd (Nat.le_refl _) rfl (by omega) h1 k4 hsb, h2⟩
  · obtain ⟨ps, h1, h2, h3⟩ := hp
    rw [List.take_length] at h2
    have hm : ∀ p ∈ ps, ∀ x ∈ p, x < 256 := fun p hp x hx => hyb x (by rw [← h2]; exact List.mem_flatten.2 ⟨p, hp, hx⟩)
    have hl : ∀ p ∈ ps, p.length ≤ 1000 := fun p hp => by
      have := List.Sublist.length_le (List.sublist_flatten_of_mem hp)
      rw [h2] at this; omega
    have hPL : PL u b 0 ps := fun i p hp => by
      have hi : i < vs.length := by have := (List.getElem?_eq_some_iff.1 hp).1; omega
      have e := List.getElem?_eq_getElem hi
      refine ⟨vs[i], ?_, ((h3 i _ p e hp).below hB).mono hB.size⟩
      rw [Nat.zero_add]; exact (hc i _ (by rw [List.getElem?_append_left hi]; exact e)).1
    have h := cParts ps b 0 c u hb (hV.below hB hV.sz) hPL (by omega) hm hl (by rw [h2]; omega)
    rw [h2] at h
    rwa [h1, hk] at h
set_option maxRecDepth 100000 in
theorem shaParts_lifted (os : Go.Os) (started : os.Started) (H : Type) (enc : TypeId × Value → H) :
    ReturnsInHanded {} Tryd.checked os 5 .any (fun w args => (Rows.shaPartsSpec.pre enc Tryd.prog Tryd.f5 [] false w args ∧ laidMetH Tryd.prog lst2 w) ∧ sizedMet enc Tryd.prog Tryd.f5 (OpenSpec.ofChange Rows.shaPartsSpec) false w args)
      (Rows.shaPartsSpec.post enc Tryd.prog Tryd.f5 false true false false) := by
  refine returnsInHanded_of_change_and (C := Tryd.checked) (X := fun w _ => laidMetH Tryd.prog lst2 w) (fun _ _ _ hh h => h.of_heap hh) own4 started (by kernel_rfl) Tryd.func5
    (ChangeSpec.witness_shaped (enc := enc) (C := Tryd.checked) (os := os) (X := fun w _ => laidMetH Tryd.prog lst2 w) false (World.doorLaid Tryd.prog 400 os) #[.slice none 0 0, .slice none 0 0] 8 rfl (World.shaped_of_RefB (by kernel_rfl) (by kernel_rfl)) (by kernel_rfl) (by kernel_rfl) (by kernel_rfl) (door_met os _)) ?_
  intro W base args ds gs before hval0 hW _ _ hL _
  have hval : ∀ (j : Nat) t v, Tryd.f5.params[j]? = some t → args[j]? = some v → Value.okWide Tryd.prog W .any base t v := hval0
  have hW' := hW
  obtain ⟨p, q, hA0, hV, rfl, hfz, hnd⟩ := hW
  have hA : DataW.TrodAll enc Tryd.prog W 0 (fun _ => true) true Tryd.f5.params.toList args.toList ds p := hA0
  rw [Tryd.params5] at hA hval
  obtain ⟨v0, v1, d0, d1, q0, q1, rfl, rfl, rfl, h0, h1⟩ := trodAll_two hA
  obtain ⟨rfl, rfl⟩ := trodVars_none hV
  simp only [List.append_nil] at hW'
  have hGV := of_laid hL
  have hlt : ∀ x ∈ q0 ++ q1, x.block < W.heap.size := fun x hx => by simpa using hW'.lt x (by simpa using hx)
  have hargs : ∀ (W' : World), Below W.heap.size W W' → DataW.Trod enc Tryd.prog W' 0 (fun b => decide (b < W.heap.size)) true 22 v0 d0 q0 ∧ DataW.Trod enc Tryd.prog W' 0 (fun b => decide (b < W.heap.size)) true 36 v1 d1 q1 :=
    fun W' hn => ⟨Below.trod laid4 (by kernel_rfl) (of_decide_eq_true (by kernel_rfl)) h0 hn (fun x hx => hlt x (by simp [hx])), Below.trod laid4 (by kernel_rfl) (of_decide_eq_true (by kernel_rfl)) h1 hn (fun x hx => hlt x (by simp [hx]))⟩
  have h0k := h0
  have h1k := h1
  obtain ⟨sl, cap, gb, go, xs, rfl, k1, k2, k3, k4, k5, k6⟩ := open_by (by have := hGV.sz; omega) (hval 0 22 v0 rfl rfl) h0k
  obtain ⟨cs, cn, ccap, rfl, hcu⟩ := open_il (hval 1 36 v1 rfl rfl) h1k
  clear hA0 hval0
  have hwalk := shaParts_any sl cap gb go xs cs cn ccap W hGV k1 k2 k3 k4 k5 k6 hcu
  refine hwalk.mono fun e W' ⟨he, bel⟩ => ?_
  subst he
  exact ⟨_, rfl, _, _, _, [], _, [], hW', trodAll_mk1 (shut_bool Tryd.underlying4 _), trodAll_mk2 (hargs _ bel).1 (hargs _ bel).2, rfl, bel.frame _, fun h => by cases h⟩
theorem shaParts_holds : Rows.ShaPartsSaid :=
  OpenClaim.holds_of_wide 5 Tryd.f5 rfl rfl rfl rfl rfl rfl rfl ⟨rfl, rfl, rfl, rfl, rfl⟩ rfl rfl rfl rfl rfl (by kernel_rfl) Tryd.func5 (by kernel_rfl)
    (of_decide_eq_true (by kernel_rfl)) (by unfold Func.isWrapper; first | (rw [if_pos (by decide +kernel)]; kernel_rfl) | (rw [if_neg (by decide +kernel)]; exact ⟨rfl, rfl⟩))
    (fun os started H enc _ => shaParts_lifted os started H enc)
theorem shaParts_card : Rows.ShaPartsCardSaid :=
  Claim7.holds_tied_plain_at .later [] [.data, .data] true (true, "988d47e5a81ee84d19c02f511d5320bedb0820447e86b2ce5bc1423c4d39f146") false
    shaParts_holds (fun _ h => by cases h) (by kernel_rfl) (fun _ h => by cases h) shaParts_row_tie rfl ⟨rfl, rfl⟩ (by kernel_rfl) rfl
    (fun f fn hf hfn => by
      obtain rfl : f = 5 := Option.some.inj ((show Tryd.prog.funcNamed "seneschal/seneschallaw04.ShaParts" = some 5 by kernel_rfl).symm.trans hf) |>.symm
      obtain rfl : fn = Tryd.f5 := (Option.some.inj (Tryd.func5.symm.trans hfn)).symm
      exact ⟨by kernel_rfl, fun j t ht => by
        rw [Tryd.params5] at ht
        have hm : t ∈ [22, 36] := by simpa using Array.mem_of_getElem? ht
        have hall : ([22, 36].all fun u => !Tryd.prog.wantsStandIn u) = true := by kernel_rfl
        exact (show Tryd.prog.wantsStandIn t = false by simpa using List.all_eq_true.1 hall t hm)⟩)
    (by kernel_rfl)
#print axioms shaParts_card
end Go.Proofs.YtbgdcgboomdimaaDoor
