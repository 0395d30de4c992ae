/- Proved: for any bytes and any number, ShaSums returns true and leaves its arguments as they were; the card. No condition but what the card ties. -/
import Derived.Test.YtbgdcgboomdimaaDoorRP3
import Derived.Test.YtbgdcgboomdimaaDoorSY
namespace Go.Proofs.YtbgdcgboomdimaaDoor
open Go.ChangeShapes Go.WideShapes Go.ChangeAt Go.RowKit
set_option linter.unusedVariables false
set_option linter.unusedSimpArgs false
theorem IN_own {u : World} {bo co m : Nat} {xs : List Nat} {zs : List Value} (hl : xs.length = m) (h : CV u bo (U8 (xs) ++ zs)) (hb : bo < u.heap.size) (hc : m ≤ co) : IN u u.heap.size (.slice (some ⟨bo, 0, none⟩) m co) xs := by
  subst hl
  refine ⟨_, co, bo, 0, rfl, hc, .inr rfl, hb, fun j hj => ?_⟩
  rw [Nat.zero_add]; exact (h.pre2 j _ (U8_get _ j hj)).1
set_option maxHeartbeats 1000000 in
theorem shaSums_any (sl : Option Addr) (cap gb go : Nat) (xs : List Nat) (x : Int) (W : World) (hV : GV W) (k1 : xs.length ≤ cap) (k2 : sl = none → cap = 0) (k3 : xs.length = 0 ∨ sl = some ⟨gb, go, none⟩) (k4 : gb < W.heap.size) (k5 : SB W gb go xs) (k6 : ∀ x ∈ xs, x < 256) (hx : -9223372036854775808 ≤ x ∧ x < 9223372036854775808) :
    Calls Tryd.prog 3 #[.slice sl xs.length cap, .int .i64 x] W fun e W' => e = .returned (.bool true) ∧ Below W.heap.size W W' := by
  have hin := in_short k1 k3 k4 k5
  obtain ⟨ys, eys⟩ : ∃ ys, xs.take 300 = ys := ⟨_, rfl⟩
  have hyl : ys.length = min xs.length 300 := by rw [← eys, List.length_take, Nat.min_comm]
  have hyb : ∀ y ∈ ys, y < 256 := fun y hy => k6 y (by rw [← eys] at hy; exact List.mem_of_mem_take hy)
  rw [eys] at hin
  have hl1 : ys.length ≤ 1000 := by omega
  have hinu : ∀ u, Below W.heap.size W u → IN u u.heap.size (.slice sl ys.length cap) ys := fun u hB => (hin.below hB).mono hB.size
  have hpb := pad_B ys hyb
  have hso : ∀ (bo co : Nat), ∀ n c, (Value.slice (some ⟨bo, 0, none⟩) ys.length co) = .slice none n c → c = 0 := fun bo co n c e => by cases e
  refine shaSums_core xs.length cap ys.length (pad ys).length (pfx ys x) sl x ys (pad ys) (dig ys) W (dig_B ys) (fun u => cShort sl xs.length cap ys.length u (by omega) k1 k2) (fun u hB => cBytes ys _ u (by omega) (hinu u hB)) (fun u bo co zs hB hc hb hco => cSum ys _ u (hV.below hB hV.sz) (IN_own rfl hc hb hco) hyb hl1) (fun u hB => cSumR ys _ u (hinu u hB) hyb (by omega)) (fun u bo co zs hB hc hb hco => cPad ys _ u (IN_own rfl hc hb hco) (hso bo co) hl1) (fun u hB => cPadR ys _ u (hinu u hB) (by omega)) ?_ (fun u bo co zs hB hc hb hco => cPrefix ys x _ u hx.1 (by omega) (hV.below hB hV.sz) (IN_own rfl hc hb hco) hyb hl1) (fun u hB => cPrefixR ys x _ u (hinu u hB) hyb hl1) (fun u bo co zs hB hc hb hco => ?_) (fun u hB => works4 u (hV.below hB hV.sz))
  · obtain ⟨ps, eps⟩ : ∃ ps, pad ys = ps := ⟨_, rfl⟩
    rw [eps] at hpb ⊢
    intro u y z lo lo2 hB hy hz
    have h := cSameB ps ps y z u (PF_in hy) (PG_in hz) hpb hpb
    rwa [decide_eq_true rfl] at h
  · have h := cSameB ys ys _ _ u (IN_own rfl hc hb hco) (hinu u hB) hyb hyb
    rwa [decide_eq_true rfl] at h
set_option maxRecDepth 100000 in
theorem shaSums_lifted (os : Go.Os) (started : os.Started) (H : Type) (enc : TypeId × Value → H) :
    ReturnsInHanded {} Tryd.checked os 3 .any (fun w args => (Rows.shaSumsSpec.pre enc Tryd.prog Tryd.f3 [] false w args ∧ laidMetH Tryd.prog lst2 w) ∧ sizedMet enc Tryd.prog Tryd.f3 (OpenSpec.ofChange Rows.shaSumsSpec) false w args)
      (Rows.shaSumsSpec.post enc Tryd.prog Tryd.f3 false true false false) := by
  refine returnsInHanded_of_change_and (C := Tryd.checked) (X := fun w _ => laidMetH Tryd.prog lst2 w) (fun _ _ _ hh h => h.of_heap hh) own4 started (by kernel_rfl) Tryd.func3
    (ChangeSpec.witness_shaped (enc := enc) (C := Tryd.checked) (os := os) (X := fun w _ => laidMetH Tryd.prog lst2 w) false (World.doorLaid Tryd.prog 400 os) #[.slice none 0 0, .int .i64 0] 8 rfl (World.shaped_of_RefB (by kernel_rfl) (by kernel_rfl)) (by kernel_rfl) (by kernel_rfl) (by kernel_rfl) (door_met os _)) ?_
  intro W base args ds gs before hval0 hW _ _ hL _
  have hval : ∀ (j : Nat) t v, Tryd.f3.params[j]? = some t → args[j]? = some v → Value.okWide Tryd.prog W .any base t v := hval0
  have hW' := hW
  obtain ⟨p, q, hA0, hV, rfl, hfz, hnd⟩ := hW
  have hA : DataW.TrodAll enc Tryd.prog W 0 (fun _ => true) true Tryd.f3.params.toList args.toList ds p := hA0
  rw [Tryd.params3] at hA hval
  obtain ⟨v0, v1, d0, d1, q0, q1, rfl, rfl, rfl, h0, h1⟩ := trodAll_two hA
  obtain ⟨rfl, rfl⟩ := trodVars_none hV
  simp only [List.append_nil] at hW'
  have hGV := of_laid hL
  have hlt : ∀ x ∈ q0 ++ q1, x.block < W.heap.size := fun x hx => by simpa using hW'.lt x (by simpa using hx)
  have hargs : ∀ (W' : World), Below W.heap.size W W' → DataW.Trod enc Tryd.prog W' 0 (fun b => decide (b < W.heap.size)) true 22 v0 d0 q0 ∧ DataW.Trod enc Tryd.prog W' 0 (fun b => decide (b < W.heap.size)) true 3 v1 d1 q1 :=
    fun W' hn => ⟨Below.trod laid4 (by kernel_rfl) (of_decide_eq_true (by kernel_rfl)) h0 hn (fun x hx => hlt x (by simp [hx])), Below.trod laid4 (by kernel_rfl) (of_decide_eq_true (by kernel_rfl)) h1 hn (fun x hx => hlt x (by simp [hx]))⟩
  have h0k := h0
  have h1k := h1
  obtain ⟨sl, cap, gb, go, xs, rfl, k1, k2, k3, k4, k5, k6⟩ := open_by (by have := hGV.sz; omega) (hval 0 22 v0 rfl rfl) h0k
  obtain ⟨x1, rfl, rfl, rfl, wx1⟩ := open_int Tryd.underlying3 (hval 1 3 v1 rfl rfl) h1k
  have rx1 : -9223372036854775808 ≤ x1 ∧ x1 < 9223372036854775808 := by simp [Lit.wf, IntKind.min, IntKind.max, IntKind.signed, IntKind.bits] at wx1; omega
  clear hA0 hval0
  have hwalk := shaSums_any sl cap gb go xs x1 W hGV k1 k2 k3 k4 k5 k6 rx1
  refine hwalk.mono fun e W' ⟨he, bel⟩ => ?_
  subst he
  exact ⟨_, rfl, _, _, _, [], _, [], hW', trodAll_mk1 (shut_bool Tryd.underlying4 _), trodAll_mk2 (hargs _ bel).1 (hargs _ bel).2, rfl, bel.frame _, fun h => by cases h⟩
theorem shaSums_holds : Rows.ShaSumsSaid :=
  OpenClaim.holds_of_wide 3 Tryd.f3 rfl rfl rfl rfl rfl rfl rfl ⟨rfl, rfl, rfl, rfl, rfl⟩ rfl rfl rfl rfl rfl (by kernel_rfl) Tryd.func3 (by kernel_rfl)
    (of_decide_eq_true (by kernel_rfl)) (by unfold Func.isWrapper; first | (rw [if_pos (by decide +kernel)]; kernel_rfl) | (rw [if_neg (by decide +kernel)]; exact ⟨rfl, rfl⟩))
    (fun os started H enc _ => shaSums_lifted os started H enc)
theorem shaSums_card : Rows.ShaSumsCardSaid :=
  Claim7.holds_tied_plain_at .later [] [.data, .data] true (true, "988d47e5a81ee84d19c02f511d5320bedb0820447e86b2ce5bc1423c4d39f146") false
    shaSums_holds (fun _ h => by cases h) (by kernel_rfl) (fun _ h => by cases h) shaSums_row_tie rfl ⟨rfl, rfl⟩ (by kernel_rfl) rfl
    (fun f fn hf hfn => by
      obtain rfl : f = 3 := Option.some.inj ((show Tryd.prog.funcNamed "seneschal/seneschallaw04.ShaSums" = some 3 by kernel_rfl).symm.trans hf) |>.symm
      obtain rfl : fn = Tryd.f3 := (Option.some.inj (Tryd.func3.symm.trans hfn)).symm
      exact ⟨by kernel_rfl, fun j t ht => by
        rw [Tryd.params3] at ht
        have hm : t ∈ [22, 3] := by simpa using Array.mem_of_getElem? ht
        have hall : ([22, 3].all fun u => !Tryd.prog.wantsStandIn u) = true := by kernel_rfl
        exact (show Tryd.prog.wantsStandIn t = false by simpa using List.all_eq_true.1 hall t hm)⟩)
    (by kernel_rfl)
#print axioms shaSums_card
end Go.Proofs.YtbgdcgboomdimaaDoor
