/- Proved: for any bytes and any number, ShaPrefixes returns true and leaves its arguments as they were; the card. No condition but what the card ties. -/
import Derived.Test.YtgfggkinmhhdnaaDoorLS5
import Derived.Test.YtgfggkinmhhdnaaDoorSY
namespace Go.Proofs.YtgfggkinmhhdnaaDoor
open Go.ChangeShapes Go.WideShapes Go.ChangeAt Go.RowKit
set_option linter.unusedVariables false
set_option linter.unusedSimpArgs false
theorem in_short {sl : Option Addr} {cap gb go : Nat} {xs : List Nat} {W : World} (k1 : xs.length ≤ cap) (k3 : xs.length = 0 ∨ sl = some ⟨gb, go, none⟩) (k4 : gb < W.heap.size) (k5 : SB W gb go xs) : IN W W.heap.size (.slice sl (xs.take 300).length cap) (xs.take 300) := by
  have hl : (xs.take 300).length ≤ xs.length := by rw [List.length_take]; omega
  refine ⟨sl, cap, gb, go, rfl, by omega, k3.imp (fun h => by omega) id, k4, fun j hj => ?_⟩
  have hj3 : j < 300 := by rw [List.length_take] at hj; omega
  rw [k5 j (by omega)]
  simp [List.getElem?_take_of_lt hj3]
theorem pfx_64 (xs : List Nat) {k : Int} (h : 64 ≤ k) : pfx xs k = pre8 (dig xs) 8 := by
  unfold pfx; rw [show (min (max k 0) 64).toNat = 64 by omega]; rfl
theorem pfx_0 (xs : List Nat) {k : Int} (h : k ≤ 0) : pfx xs k = 0 := by
  unfold pfx; rw [show (min (max k 0) 64).toNat = 0 by omega, Nat.shiftRight_eq_div_pow]
  exact Nat.div_eq_of_lt (pre8_lt (dig_B xs).lt 8)
theorem pfx_k (xs : List Nat) (k : Nat) (h : k ≤ 64) : pfx xs (k : Int) = pre8 (dig xs) 8 >>> (64 - k) := by
  unfold pfx; rw [show (min (max (k : Int) 0) 64).toNat = k by omega]
theorem shaPrefixes_any (sl : Option Addr) (cap gb go : Nat) (xs : List Nat) (x : Int) (W : World) (hV : GV W) (k1 : xs.length ≤ cap) (k2 : sl = none → cap = 0) (k3 : xs.length = 0 ∨ sl = some ⟨gb, go, none⟩) (k4 : gb < W.heap.size) (k5 : SB W gb go xs) (k6 : ∀ x ∈ xs, x < 256) (hx : -9223372036854775808 ≤ x ∧ x < 9223372036854775808) :
    Calls Tryd.prog 7 #[.slice sl xs.length cap, .int .i64 x] W fun e W' => e = .returned (.bool true) ∧ Below W.heap.size W W' := by
  obtain ⟨k, hk, hA⟩ := among_any x 65 (by decide) (by decide) hx
  have hin := in_short k1 k3 k4 k5
  obtain ⟨ys, eys⟩ : ∃ ys, xs.take 300 = ys := ⟨_, rfl⟩
  have hyl : ys.length = min xs.length 300 := by rw [← eys, List.length_take, Nat.min_comm]
  have hyb : ∀ y ∈ ys, y < 256 := fun y hy => k6 y (by rw [← eys] at hy; exact List.mem_of_mem_take hy)
  rw [eys] at hin
  have hP : ∀ (j : Int), -9223372036854775808 ≤ j → j ≤ 9223372036854775807 → ∀ u, Below W.heap.size W u → Calls Tryd.prog 15 #[.slice sl ys.length cap, .int .i64 j] u fun e u' => e = .returned (.int .u64 ((pfx ys j : Nat) : Int)) ∧ Below u.heap.size u u' := fun j h1 h2 u hB =>
    cPrefix ys j _ u h1 h2 (hV.below hB hV.sz) ((hin.below hB).mono hB.size) hyb (by omega)
  refine shaPrefixes_core xs.length cap ys.length sl x k (pre8 (dig ys) 8) (pfx ys (k : Int)) (dig ys) (pre8 (dig ys)) W (dig_B ys).len (by omega) (dig_B ys).lt rfl (fun _ => rfl) (pre8_lt (dig_B ys).lt) rfl (fun h => pfx_0 ys (by omega)) (fun _ => (pfx_k ys k (by omega)).symm)
    (fun u hB => works4 u (hV.below hB hV.sz)) (fun u => cShort sl xs.length cap ys.length u (by omega) k1 k2) hA (fun u hB => cSum ys _ u (hV.below hB hV.sz) ((hin.below hB).mono hB.size) hyb (by omega)) (fun u hB => ?_) (fun u hB => hP k (by omega) (by omega) u hB) (fun u hB => ?_) (fun u hB => ?_)
  · have := hP 64 (by decide) (by decide) u hB
    rwa [pfx_64 ys (by decide)] at this
  · have := hP 99 (by decide) (by decide) u hB
    rwa [pfx_64 ys (by decide)] at this
  · have := hP (-5) (by decide) (by decide) u hB
    rwa [pfx_0 ys (by decide)] at this
set_option maxRecDepth 100000 in
theorem shaPrefixes_lifted (os : Go.Os) (started : os.Started) (H : Type) (enc : TypeId × Value → H) :
    ReturnsInHanded {} Tryd.checked os 7 .any (fun w args => (Rows.shaPrefixesSpec.pre enc Tryd.prog Tryd.f7 [] false w args ∧ laidMetH Tryd.prog lst2 w) ∧ sizedMet enc Tryd.prog Tryd.f7 (OpenSpec.ofChange Rows.shaPrefixesSpec) false w args)
      (Rows.shaPrefixesSpec.post enc Tryd.prog Tryd.f7 false true false false) := by
  refine returnsInHanded_of_change_and (C := Tryd.checked) (X := fun w _ => laidMetH Tryd.prog lst2 w) (fun _ _ _ hh h => h.of_heap hh) own4 started (by kernel_rfl) Tryd.func7
    (ChangeSpec.witness_shaped (enc := enc) (C := Tryd.checked) (os := os) (X := fun w _ => laidMetH Tryd.prog lst2 w) false (World.doorLaid Tryd.prog 400 os) #[.slice none 0 0, .int .i64 0] 8 rfl (World.shaped_of_RefB (by kernel_rfl) (by kernel_rfl)) (by kernel_rfl) (by kernel_rfl) (by kernel_rfl) (door_met os _)) ?_
  intro W base args ds gs before hval0 hW _ _ hL _
  have hval : ∀ (j : Nat) t v, Tryd.f7.params[j]? = some t → args[j]? = some v → Value.okWide Tryd.prog W .any base t v := hval0
  have hW' := hW
  obtain ⟨p, q, hA0, hV, rfl, hfz, hnd⟩ := hW
  have hA : DataW.TrodAll enc Tryd.prog W 0 (fun _ => true) true Tryd.f7.params.toList args.toList ds p := hA0
  rw [Tryd.params7] at hA hval
  obtain ⟨v0, v1, d0, d1, q0, q1, rfl, rfl, rfl, h0, h1⟩ := trodAll_two hA
  obtain ⟨rfl, rfl⟩ := trodVars_none hV
  simp only [List.append_nil] at hW'
  have hGV := of_laid hL
  have hlt : ∀ x ∈ q0 ++ q1, x.block < W.heap.size := fun x hx => by simpa using hW'.lt x (by simpa using hx)
  have hargs : ∀ (W' : World), Below W.heap.size W W' → DataW.Trod enc Tryd.prog W' 0 (fun b => decide (b < W.heap.size)) true 22 v0 d0 q0 ∧ DataW.Trod enc Tryd.prog W' 0 (fun b => decide (b < W.heap.size)) true 3 v1 d1 q1 :=
    fun W' hn => ⟨Below.trod laid4 (by kernel_rfl) (of_decide_eq_true (by kernel_rfl)) h0 hn (fun x hx => hlt x (by simp [hx])), Below.trod laid4 (by kernel_rfl) (of_decide_eq_true (by kernel_rfl)) h1 hn (fun x hx => hlt x (by simp [hx]))⟩
  have h0k := h0
  have h1k := h1
  obtain ⟨sl, cap, gb, go, xs, rfl, k1, k2, k3, k4, k5, k6⟩ := open_by (by have := hGV.sz; omega) (hval 0 22 v0 rfl rfl) h0k
  obtain ⟨x1, rfl, rfl, rfl, wx1⟩ := open_int Tryd.underlying3 (hval 1 3 v1 rfl rfl) h1k
  have rx1 : -9223372036854775808 ≤ x1 ∧ x1 < 9223372036854775808 := by simp [Lit.wf, IntKind.min, IntKind.max, IntKind.signed, IntKind.bits] at wx1; omega
  clear hA0 hval0
  have hwalk := shaPrefixes_any sl cap gb go xs x1 W hGV k1 k2 k3 k4 k5 k6 rx1
  refine hwalk.mono fun e W' ⟨he, bel⟩ => ?_
  subst he
  exact ⟨_, rfl, _, _, _, [], _, [], hW', trodAll_mk1 (shut_bool Tryd.underlying4 _), trodAll_mk2 (hargs _ bel).1 (hargs _ bel).2, rfl, bel.frame _, fun h => by cases h⟩
theorem shaPrefixes_holds : Rows.ShaPrefixesSaid :=
  OpenClaim.holds_of_wide 7 Tryd.f7 rfl rfl rfl rfl rfl rfl rfl ⟨rfl, rfl, rfl, rfl, rfl⟩ rfl rfl rfl rfl rfl (by kernel_rfl) Tryd.func7 (by kernel_rfl)
    (of_decide_eq_true (by kernel_rfl)) (by unfold Func.isWrapper; first | (rw [if_pos (by decide +kernel)]; kernel_rfl) | (rw [if_neg (by decide +kernel)]; exact ⟨rfl, rfl⟩))
    (fun os started H enc _ => shaPrefixes_lifted os started H enc)
theorem shaPrefixes_card : Rows.ShaPrefixesCardSaid :=
  Claim7.holds_tied_plain_at .later [] [.data, .data] true (true, "c1fd307460d6825ce69221c7c2816e83db96c030261a6f3a91dea08283535239") false
    shaPrefixes_holds (fun _ h => by cases h) (by kernel_rfl) (fun _ h => by cases h) shaPrefixes_row_tie rfl ⟨rfl, rfl⟩ (by kernel_rfl) rfl
    (fun f fn hf hfn => by
      obtain rfl : f = 7 := Option.some.inj ((show Tryd.prog.funcNamed "seneschal/seneschallaw04.ShaPrefixes" = some 7 by kernel_rfl).symm.trans hf) |>.symm
      obtain rfl : fn = Tryd.f7 := (Option.some.inj (Tryd.func7.symm.trans hfn)).symm
      exact ⟨by kernel_rfl, fun j t ht => by
        rw [Tryd.params7] at ht
        have hm : t ∈ [22, 3] := by simpa using Array.mem_of_getElem? ht
        have hall : ([22, 3].all fun u => !Tryd.prog.wantsStandIn u) = true := by kernel_rfl
        exact (show Tryd.prog.wantsStandIn t = false by simpa using List.all_eq_true.1 hall t hm)⟩)
    (by kernel_rfl)
#print axioms shaPrefixes_card
end Go.Proofs.YtgfggkinmhhdnaaDoor
