/- Wire: Get, Int, ReadInt. -/
import Derived.Test.YtjekkdckjnlkcaaDoorAVE
namespace Go.Proofs.YtjekkdckjnlkcaaDoor
open Go.RowKit
set_option linter.unusedVariables false
set_option linter.unusedSimpArgs false
set_option maxRecDepth 100000 in
set_option maxHeartbeats 2000000 in
theorem cGetW_core (n gcap : Nat) (gsl : Option Addr) (tg : Nat → Int) (tag : Int) (pS : Nat → List Nat) (ev : Int) (xs : List Nat) (w : World) (hG : GW w) (hn : n ≤ 1000000) (ht1 : -9223372036854775808 ≤ tag) (ht2 : tag ≤ 9223372036854775807)
    (hrow : Hid (0 < n → ∃ gl go, gsl = some ⟨gl, go, none⟩ ∧ gl < w.heap.size ∧ ∀ i, i < n → w.cell? ⟨gl, go + 2 * i, none⟩ = some (.int .i64 (tg i)) ∧ ∃ sv cv, w.cell? ⟨gl, go + 2 * i + 1, none⟩ = some (.slice sv (pS i).length cv) ∧ IN w w.heap.size (.slice sv (pS i).length cv) (pS i))) (hpl : Hid (∀ i, i < n → (pS i).length ≤ 100000))
    (hE1 : Hid (∀ i, i < n → (∀ j, j < i → tg j ≠ tag) → tg i = tag → ev = 0 ∧ xs = pS i)) (hE2 : Hid ((∀ j, j < n → tg j ≠ tag) → ev = 5 ∧ xs = [])) :
    Calls Tryd.prog 12 #[.slice gsl n gcap, .int .i64 tag] w fun e u => ∃ v, e = .returned v ∧ PTX ev xs u v ∧ Below w.heap.size w u := by
  go_enter Tryd.func12, Tryd.ntmps12
  go_wp2_with fail
  go_loopw [10] (fun s10 wr => ∃ i : Nat, i ≤ n ∧ s10 = .int .i64 (i : Int) ∧ Hid (∀ j, j < i → tg j ≠ tag) ∧ Below w.heap.size w wr) (fun s10 _ => n - (intOf s10).toNat)
  case atStart => exact ⟨0, by omega, rfl, fun j hj => absurd hj (by omega), Below.refl _ _⟩
  case round =>
    obtain ⟨i, hi, rfl, hno, HBr⟩ := hrel
    have hsw := HBr.size
    by_cases hj : i < n
    · have hl2 : (i : Int) < (n : Int) := by omega
      obtain ⟨gl, go, rfl, hgl, hcl⟩ := hrow.out (by omega)
      obtain ⟨hc1, sv, cv, hc2, hinp⟩ := hcl i hj
      have hE := hE1.out i hj hno.out
      have hp := hpl.out i hj
      have e1 : IntKind.i64.wrap ((i : Int) + 1) = ((i + 1 : Nat) : Int) := by rw [IntKind.wrap_i64]; omega
      have hd1 : wr.cell? ⟨gl, go + 2 * i, none⟩ = some (.int .i64 (tg i)) := (HBr.cell (p := ⟨gl, go + 2 * i, none⟩) hgl).trans hc1
      have hd2 : wr.cell? ⟨gl, go + 2 * i + 1, none⟩ = some (.slice sv (pS i).length cv) := (HBr.cell (p := ⟨gl, go + 2 * i + 1, none⟩) hgl).trans hc2
      rw [Nat.mul_comm] at hd1 hd2
      have hB1 : Below wr.heap.size wr (wr.alloc (.cells #[.int .i64 (tg i), .slice sv (pS i).length cv] 54)) := balloc (bself wr) _
      have hin1 : IN (wr.alloc (.cells #[.int .i64 (tg i), .slice sv (pS i).length cv] 54)) (wr.alloc (.cells #[.int .i64 (tg i), .slice sv (pS i).length cv] 54)).heap.size (.slice sv (pS i).length cv) (pS i) := ((hinp.below (bstep HBr hB1))).mono (by have := hB1.size; omega)
      by_cases ht : tg i = tag
      · obtain ⟨rfl, exs⟩ := hE ht
        rw [ht] at hd1 hB1 hin1
        rw [← exs] at hd2 hB1 hin1 hp
        clear exs
        cases sv with
        | none =>
          have hps : xs = [] := by
            obtain ⟨_, _, _, _, e, _, h3, _⟩ := hin1
            rcases h3 with h3 | h3
            · exact List.eq_nil_of_length_eq_zero h3
            · simp at e; rw [← e.1] at h3; cases h3
          subst hps
          simp at hd2 hB1
          have hC := cCloneN 0 cv (wr.alloc (.cells #[.int .i64 tag, .slice none 0 cv] 54))
          clear hin1 hcl hinp
          go_wp2_with (go_at_call 34; refine hC.mono ?_; clear hC; rintro e ua ⟨rfl, rfl⟩)
          exact bodyPost_ret (v := .tuple #[.slice none 0 0, .int .i64 0]) (by simp [results, Tryd.results12, go_sem]) rfl ⟨_, rfl, ⟨_, rfl, IN_nil _ (by have := hB1.size; omega)⟩, bstep HBr hB1⟩
        | some ad =>
          have hC := cClone ad xs.length cv xs _ hin1 hp
          obtain ⟨k, ek⟩ : ∃ x, xs.length = x := ⟨_, rfl⟩
          rw [ek] at hC hd2 hB1
          clear hin1 hcl hinp
          go_wp2_with (go_at_call 34; refine hC.mono ?_; clear hC; rintro e ua ⟨y, rfl, hpg, hBa⟩; have hsn := PG_in (by rw [← ek] at hpg; exact hpg); obtain ⟨b4, c4, z4, rfl, hg⟩ := hpg; replace hg : Hid _ := hg; replace hsn : Hid (IN ua ua.heap.size (.slice (some ⟨b4, 0, none⟩) k c4) xs) := hsn)
          exact bodyPost_ret (v := .tuple #[.slice (some ⟨b4, 0, none⟩) k c4, .int .i64 0]) (by simp [results, Tryd.results12, go_sem]) rfl ⟨_, rfl, ⟨_, rfl, hsn.out⟩, bstep (bstep HBr hB1) hBa⟩
      · have hno2 : Hid (∀ j, j < i + 1 → tg j ≠ tag) := fun j hj2 => by
          by_cases e : j = i
          · subst e; exact ht
          · exact hno.out j (by omega)
        obtain ⟨t, et⟩ : ∃ x, tg i = x := ⟨_, rfl⟩
        rw [et] at hd1 ht
        clear hE hinp et hcl hin1 hB1
        go_wp2
        refine ⟨⟨i + 1, by omega, rfl, hno2, balloc HBr _⟩, ?_⟩
        simp [intOf]; omega
    · have hl2 : ¬ (i : Int) < (n : Int) := by omega
      obtain rfl : i = n := by omega
      obtain ⟨rfl, rfl⟩ := hE2.out hno.out
      have hGr := hG.below HBr
      have hI := cItoa tag wr ht1 ht2 hGr
      have hz := hGr.sz
      go_wp2_with (first
        | (go_at_call 35; refine hI.mono ?_; clear hI; rintro e ua ⟨s, rfl, hs, hBa⟩; have hw1 : ¬ 9223372036854775807 < 4 + s.size := (by omega); have hT := cTold 5 (.iface 62 (.agg #[.string (⟨#[116, 97, 103, 32]⟩ ++ s), .iface 25 (.int .i64 5)])) ua (hGr.below hBa) (.inr ⟨by decide, .wrap _ _ .leaf⟩))
        | (go_at_call 33; refine hT.mono ?_; clear hT; rintro e ub ⟨rfl, hBb⟩))
      exact bodyPost_ret (v := .tuple #[.slice none 0 0, .int .i64 5]) (by simp [results, Tryd.results12, go_sem]) rfl ⟨_, rfl, ⟨_, rfl, IN_nil _ (by have := hBa.size; have := hBb.size; omega)⟩, bstep (bstep HBr hBa) hBb⟩
theorem cGetW (fs : List FldI) (tag : Int) (v : Value) (w : World) (hG : GW w) (h : VF w v fs) (hok : fldOk fs) (ht1 : -9223372036854775808 ≤ tag) (ht2 : tag ≤ 9223372036854775807) :
    Calls Tryd.prog 12 #[v, .int .i64 tag] w fun e u => ∃ v, e = .returned v ∧ PTX (getE fs tag) (getX fs tag) u v ∧ Below w.heap.size w u := by
  obtain ⟨gsl, gcap, rfl, hr⟩ := h.row
  refine cGetW_core fs.length gcap gsl (tgF fs) tag (psF fs) (getE fs tag) (getX fs tag) w hG (Nat.le_trans hok.1 (by decide)) ht1 ht2 hr (fun i hi => Nat.le_trans (hok.2 _ (psF_mem hi)).1 (by decide)) (fun i hi h1 h2 => ?_) (fun h1 => ?_)
  · have := getI_some hi h1 h2
    simp [getE, getX, this]
  · have := getI_none h1
    simp [getE, getX, this]
end Go.Proofs.YtjekkdckjnlkcaaDoor
