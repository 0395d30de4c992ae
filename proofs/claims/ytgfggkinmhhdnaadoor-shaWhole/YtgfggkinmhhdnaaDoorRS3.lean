/- Proved: for any bytes, ShaWhole returns true and leaves its argument as it was; the card. No condition but what the card ties. -/
import Derived.Test.YtgfggkinmhhdnaaDoorLSW
import Derived.Test.YtgfggkinmhhdnaaDoorSY
namespace Go.Proofs.YtgfggkinmhhdnaaDoor
open Go.ChangeShapes Go.WideShapes Go.ChangeAt Go.RowKit
set_option linter.unusedVariables false
set_option linter.unusedSimpArgs false
theorem fill_B (ps : List Nat) (o : Nat) (h : ∀ j, ps.getD j 0 < 256) : ∀ j, BB 64 (fill ps o j)
  | 0 => BB_rep 64
  | j + 1 => (fill_B ps o h j).set _ _ (h _)
set_option maxHeartbeats 1000000 in
theorem shaWhole_any (sl : Option Addr) (cap gb go : Nat) (xs : List Nat) (W : World) (hV : GV W) (k1 : xs.length ≤ cap) (k2 : sl = none → cap = 0) (k3 : xs.length = 0 ∨ sl = some ⟨gb, go, none⟩) (k4 : gb < W.heap.size) (k5 : SB W gb go xs) (k6 : ∀ x ∈ xs, x < 256) :
    Calls Tryd.prog 5 #[.slice sl xs.length cap] W fun e W' => e = .returned (.bool true) ∧ Below W.heap.size W W' := by
  have hin := in_short k1 k3 k4 k5
  have hsb := k5.take 300
  obtain ⟨ys, eys⟩ : ∃ ys, xs.take 300 = ys := ⟨_, rfl⟩
  have hyl : ys.length = min xs.length 300 := by rw [← eys, List.length_take, Nat.min_comm]
  have hyb : ∀ y ∈ ys, y < 256 := fun y hy => k6 y (by rw [← eys] at hy; exact List.mem_of_mem_take hy)
  rw [eys] at hin hsb
  have hl1 : ys.length ≤ 1000 := by omega
  have hsn : ∀ n c, (Value.slice sl ys.length cap) = .slice none n c → c = 0 := fun n c e => by
    rw [Value.slice.injEq] at e
    rw [← e.2.2]; exact k2 e.1
  have h64 := pad_64 ys hl1
  have hpl := pad_len ys
  have hno := nou_lt ys.length
  have hnb : 64 * ((pad ys).length / 64) = (pad ys).length := Nat.mul_div_cancel' (Nat.dvd_of_mod_eq_zero h64)
  have hdg := dig_blkS ys _ hnb
  have hinu : ∀ u, Below W.heap.size W u → IN u u.heap.size (.slice sl ys.length cap) ys := fun u hB => (hin.below hB).mono hB.size
  have hPd : ∀ u, Below W.heap.size W u → Calls Tryd.prog 13 #[.slice sl ys.length cap] u fun e u' => ∃ v, e = .returned v ∧ PF u.heap.size (pad ys).length (U8 (pad ys)) u' v ∧ Below u.heap.size u u' := fun u hB => cPad ys _ u (hinu u hB) hsn hl1
  have hSu : ∀ u, Below W.heap.size W u → Calls Tryd.prog 10 #[.slice sl ys.length cap] u fun e u' => e = .returned (.agg (U8 (dig ys)).toArray) ∧ Below u.heap.size u u' := fun u hB => cSum ys _ u (hV.below hB hV.sz) (hinu u hB) hyb hl1
  have hpt := pad_take ys
  have hpb := by_getD (pad_B ys hyb)
  have hdl := (dig_B ys).len
  obtain ⟨ps, eps⟩ : ∃ ps, pad ys = ps := ⟨_, rfl⟩
  rw [eps] at h64 hpl hnb hdg hPd hpt hpb
  obtain ⟨N, eN⟩ : ∃ N, ps.length = N := ⟨_, rfl⟩
  rw [eN] at h64 hpl hnb hdg hPd
  obtain ⟨nb, enb⟩ : ∃ nb, N / 64 = nb := ⟨_, rfl⟩
  rw [enb] at hnb hdg
  obtain ⟨ds, eds⟩ : ∃ ds, dig ys = ds := ⟨_, rfl⟩
  rw [eds] at hdg hSu hdl
  clear eds eps
  obtain ⟨m, em⟩ : ∃ m, ys.length = m := ⟨_, rfl⟩
  have hSs : ∀ k, k < nb → blkS ps (k + 1) = blk (blkS ps k) (fill ps (64 * k) 64) := fun k hk => by
    rw [fill_all ps (64 * k) (by omega)]; rfl
  have hdt : ∀ i, i < 32 → ds.getD i 0 = ((blkS ps nb).getD (i / 4) 0 >>> (8 * (3 - i % 4))) % 256 := fun i hi => by rw [hdg]; exact told_get _ i hi
  have hSW := blkS_W ps
  have hS0 : blkS ps 0 = fst8 := rfl
  obtain ⟨S, eS⟩ : ∃ S, blkS ps = S := ⟨_, rfl⟩
  rw [eS] at hSs hdt hSW hS0
  rw [em] at hyl hpl hno hPd hSu hpt
  exact shaWhole_core xs.length cap m N nb sl ys ps ds S (fun k => fill ps (64 * k)) W hV (by omega) eN hnb h64 (by omega) (by omega) em hpt hS0 hSW hSs (fun _ => rfl) (fun _ _ => rfl) (fun k => fill_B _ _ hpb) hdl hdt (fun u hB => by
      rcases k3 with h | h
      · exact .inl (by omega)
      · exact .inr ⟨gb, go, h, hsb.below hB k4⟩)
    (fun u hB => works4 u (hV.below hB hV.sz)) (fun u => cShort sl xs.length cap m u (by omega) k1 k2) hPd hSu
set_option maxRecDepth 100000 in
theorem shaWhole_lifted (os : Go.Os) (started : os.Started) (H : Type) (enc : TypeId × Value → H) :
    ReturnsInHanded {} Tryd.checked os 5 .any (fun w args => (Rows.shaWholeSpec.pre enc Tryd.prog Tryd.f5 [] false w args ∧ laidMetH Tryd.prog lst2 w) ∧ sizedMet enc Tryd.prog Tryd.f5 (OpenSpec.ofChange Rows.shaWholeSpec) false w args)
      (Rows.shaWholeSpec.post enc Tryd.prog Tryd.f5 false true false false) := by
  refine returnsInHanded_of_change_and (C := Tryd.checked) (X := fun w _ => laidMetH Tryd.prog lst2 w) (fun _ _ _ hh h => h.of_heap hh) own4 started (by kernel_rfl) Tryd.func5
    (ChangeSpec.witness_shaped (enc := enc) (C := Tryd.checked) (os := os) (X := fun w _ => laidMetH Tryd.prog lst2 w) false (World.doorLaid Tryd.prog 400 os) #[.slice none 0 0] 8 rfl (World.shaped_of_RefB (by kernel_rfl) (by kernel_rfl)) (by kernel_rfl) (by kernel_rfl) (by kernel_rfl) (door_met os _)) ?_
  intro W base args ds gs before hval0 hW _ _ hL _
  have hval : ∀ (j : Nat) t v, Tryd.f5.params[j]? = some t → args[j]? = some v → Value.okWide Tryd.prog W .any base t v := hval0
  have hW' := hW
  obtain ⟨p, q, hA0, hV, rfl, hfz, hnd⟩ := hW
  have hA : DataW.TrodAll enc Tryd.prog W 0 (fun _ => true) true Tryd.f5.params.toList args.toList ds p := hA0
  rw [Tryd.params5] at hA hval
  obtain ⟨v0, d0, rfl, rfl, h0⟩ := trodAll_one hA
  obtain ⟨rfl, rfl⟩ := trodVars_none hV
  simp only [List.append_nil] at hW'
  have hGV := of_laid hL
  have hlt : ∀ x ∈ p, x.block < W.heap.size := fun x hx => by simpa using hW'.lt x (by simpa using hx)
  have hargs : ∀ (W' : World), Below W.heap.size W W' → DataW.Trod enc Tryd.prog W' 0 (fun b => decide (b < W.heap.size)) true 22 v0 d0 p :=
    fun W' hn => Below.trod laid4 (by kernel_rfl) (of_decide_eq_true (by kernel_rfl)) h0 hn (fun x hx => hlt x (by simp [hx]))
  have h0k := h0
  obtain ⟨sl, cap, gb, go, xs, rfl, k1, k2, k3, k4, k5, k6⟩ := open_by (by have := hGV.sz; omega) (hval 0 22 v0 rfl rfl) h0k
  clear hA0 hval0
  have hwalk := shaWhole_any sl cap gb go xs W hGV k1 k2 k3 k4 k5 k6
  refine hwalk.mono fun e W' ⟨he, bel⟩ => ?_
  subst he
  exact ⟨_, rfl, _, _, _, [], _, [], hW', trodAll_mk1 (shut_bool Tryd.underlying4 _), trodAll_mk1 (hargs _ bel), rfl, bel.frame _, fun h => by cases h⟩
theorem shaWhole_holds : Rows.ShaWholeSaid :=
  OpenClaim.holds_of_wide 5 Tryd.f5 rfl rfl rfl rfl rfl rfl rfl ⟨rfl, rfl, rfl, rfl, rfl⟩ rfl rfl rfl rfl rfl (by kernel_rfl) Tryd.func5 (by kernel_rfl)
    (of_decide_eq_true (by kernel_rfl)) (by unfold Func.isWrapper; first | (rw [if_pos (by decide +kernel)]; kernel_rfl) | (rw [if_neg (by decide +kernel)]; exact ⟨rfl, rfl⟩))
    (fun os started H enc _ => shaWhole_lifted os started H enc)
theorem shaWhole_card : Rows.ShaWholeCardSaid :=
  Claim7.holds_tied_plain_at .later [] [.data, .data] true (true, "c1fd307460d6825ce69221c7c2816e83db96c030261a6f3a91dea08283535239") false
    shaWhole_holds (fun _ h => by cases h) (by kernel_rfl) (fun _ h => by cases h) shaWhole_row_tie rfl ⟨rfl, rfl⟩ (by kernel_rfl) rfl
    (fun f fn hf hfn => by
      obtain rfl : f = 5 := Option.some.inj ((show Tryd.prog.funcNamed "seneschal/seneschallaw04.ShaWhole" = some 5 by kernel_rfl).symm.trans hf) |>.symm
      obtain rfl : fn = Tryd.f5 := (Option.some.inj (Tryd.func5.symm.trans hfn)).symm
      exact ⟨by kernel_rfl, fun j t ht => by
        rw [Tryd.params5] at ht
        have hm : t ∈ [22] := by simpa using Array.mem_of_getElem? ht
        have hall : ([22].all fun u => !Tryd.prog.wantsStandIn u) = true := by kernel_rfl
        exact (show Tryd.prog.wantsStandIn t = false by simpa using List.all_eq_true.1 hall t hm)⟩)
    (by kernel_rfl)
#print axioms shaWhole_card
end Go.Proofs.YtgfggkinmhhdnaaDoor
