/- The reference's Get, Int, ReadInt. -/
import Derived.Test.YtjekkdckjnlkcaaDoorAW4
namespace Go.Proofs.YtjekkdckjnlkcaaDoor
open Go.RowKit
set_option linter.unusedVariables false
set_option linter.unusedSimpArgs false
set_option maxRecDepth 100000 in
set_option maxHeartbeats 2000000 in
theorem cGetR_core (n gcap : Nat) (gsl : Option Addr) (tg : Nat → Int) (tag : Int) (pS : Nat → List Nat) (ev : Int) (xs : List Nat) (w : World) (hz : 0 < w.heap.size) (hn : n ≤ 1000000)
    (hrow : Hid (0 < n → ∃ gl go, gsl = some ⟨gl, go, none⟩ ∧ gl < w.heap.size ∧ ∀ i, i < n → w.cell? ⟨gl, go + 2 * i, none⟩ = some (.int .i64 (tg i)) ∧ ∃ sv cv, w.cell? ⟨gl, go + 2 * i + 1, none⟩ = some (.slice sv (pS i).length cv) ∧ IN w w.heap.size (.slice sv (pS i).length cv) (pS i))) (hpl : Hid (∀ i, i < n → (pS i).length ≤ 100000))
    (hE1 : Hid (∀ i, i < n → (∀ j, j < i → tg j ≠ tag) → tg i = tag → ev = 0 ∧ xs = pS i)) (hE2 : Hid ((∀ j, j < n → tg j ≠ tag) → ev = 5 ∧ xs = [])) :
    Calls Tryd.prog 13 #[.slice gsl n gcap, .int .i64 tag] w fun e w' => ∃ v, e = .returned v ∧ PTX ev xs w' v ∧ Below w.heap.size w w' := by
  have hbs := bs0b
  go_enter Tryd.func13, Tryd.ntmps13
  go_wp2_with fail
  go_loopw [6] (fun s6 wr => ∃ i : Nat, i ≤ n ∧ s6 = .int .i64 (i : Int) ∧ wr = w ∧ Hid (∀ j, j < i → tg j ≠ tag)) (fun s6 _ => n - (intOf s6).toNat)
  case atStart => exact ⟨0, by omega, rfl, rfl, fun j hj => absurd hj (by omega)⟩
  case round =>
    obtain ⟨i, hi, rfl, hw, hno⟩ := hrel
    have hw := hw.symm
    subst hw
    by_cases hj : i < n
    · have hl2 : (i : Int) < (n : Int) := by omega
      obtain ⟨gl, go, rfl, hgl, hcl⟩ := hrow.out (by omega)
      obtain ⟨hc1, sv, cv, hc2, hinp⟩ := hcl i hj
      have hE := hE1.out i hj hno.out
      have e1 : IntKind.i64.wrap ((i : Int) + 1) = ((i + 1 : Nat) : Int) := by rw [IntKind.wrap_i64]; omega
      rw [Nat.mul_comm] at hc1 hc2
      by_cases ht : tg i = tag
      · obtain ⟨rfl, rfl⟩ := hE ht
        rw [ht] at hc1
        obtain ⟨v1, ua, r1, hBa, hpg⟩ := round_aw hinp (hpl.out i hj)
        go_wp2_with (at_builtin; refine wpList_app2 rfl _ _ 24 rfl _ _ _ rfl rfl r1 ?_; clear r1)
        have hsn := PG_in hpg
        obtain ⟨b4, c4, z4, rfl, g1, g2, g3, g4, g5⟩ := hpg
        exact bodyPost_ret (v := .tuple #[.slice (some ⟨b4, 0, none⟩) (pS i).length c4, .int .i64 0]) (by simp [results, Tryd.results13, go_sem]) rfl ⟨_, rfl, ⟨_, rfl, hsn⟩, hBa⟩
      · have hno2 : Hid (∀ j, j < i + 1 → tg j ≠ tag) := fun j hj2 => by
          by_cases e : j = i
          · subst e; exact ht
          · exact hno.out j (by omega)
        obtain ⟨t, et⟩ : ∃ x, tg i = x := ⟨_, rfl⟩
        rw [et] at hc1 ht
        clear hE hinp et hcl
        go_wp2
        refine ⟨⟨i + 1, by omega, rfl, by first | rfl | trivial, hno2⟩, ?_⟩
        simp [intOf]; omega
    · have hl2 : ¬ (i : Int) < (n : Int) := by omega
      have hin : i = n := by omega
      subst hin
      obtain ⟨rfl, rfl⟩ := hE2.out hno.out
      go_wp2
      exact bodyPost_ret (v := .tuple #[.slice none 0 0, .int .i64 5]) (by simp [results, Tryd.results13, go_sem]) rfl ⟨_, rfl, ⟨_, rfl, IN_nil _ hz⟩, Below.refl _ _⟩
def getI (tag : Int) : List FldI → Option (List Nat)
  | [] => none
  | (t, b) :: l => if t = tag then some b else getI tag l
def getE (fs : List FldI) (tag : Int) : Int := match getI tag fs with
  | none => 5
  | some _ => 0
def getX (fs : List FldI) (tag : Int) : List Nat := (getI tag fs).getD []
theorem getI_none {tag : Int} : ∀ {fs : List FldI}, (∀ j, j < fs.length → tgF fs j ≠ tag) → getI tag fs = none
  | [], _ => rfl
  | (t, b) :: l, h => by
    rw [getI, if_neg (show ¬ t = tag from h 0 (by simp))]
    exact getI_none fun j hj => h (j + 1) (by simpa using hj)
theorem getI_some {tag : Int} : ∀ {fs : List FldI} {i : Nat}, i < fs.length → (∀ j, j < i → tgF fs j ≠ tag) → tgF fs i = tag → getI tag fs = some (psF fs i)
  | [], i, h, _, _ => by simp at h
  | (t, b) :: l, 0, h, h1, h2 => by rw [getI, if_pos (show t = tag from h2)]; rfl
  | (t, b) :: l, i + 1, h, h1, h2 => by
    rw [getI, if_neg (show ¬ t = tag from h1 0 (by omega))]
    exact getI_some (by simpa using h) (fun j hj => h1 (j + 1) (by omega)) h2
theorem VF.row {w : World} {v : Value} {fs : List FldI} (h : VF w v fs) : ∃ gsl gcap, v = .slice gsl fs.length gcap ∧ (0 < fs.length → ∃ gl go, gsl = some ⟨gl, go, none⟩ ∧ gl < w.heap.size ∧ ∀ i, i < fs.length → w.cell? ⟨gl, go + 2 * i, none⟩ = some (.int .i64 (tgF fs i)) ∧ ∃ sv cv, w.cell? ⟨gl, go + 2 * i + 1, none⟩ = some (.slice sv (psF fs i).length cv) ∧ IN w w.heap.size (.slice sv (psF fs i).length cv) (psF fs i)) := by
  obtain ⟨sl, cap, gl, go, rfl, h2, h3, h4, h5⟩ := h
  refine ⟨sl, cap, rfl, fun h0 => ⟨gl, go, h3.resolve_left (by omega), h4, fun i hi => ?_⟩⟩
  have e : fs.getD i (0, []) = fs[i] := by rw [List.getD_eq_getElem?_getD, List.getElem?_eq_getElem hi]; rfl
  obtain ⟨a, x, b, c⟩ := h5 i fs[i] (List.getElem?_eq_getElem hi)
  unfold tgF psF
  rw [e]
  obtain ⟨s2, c2, g2, o2, q1, q2⟩ := c
  exact ⟨a, s2, c2, by rw [← q1]; exact b, s2, c2, g2, o2, rfl, q2⟩
theorem VF.pos {w : World} {v : Value} {fs : List FldI} (h : VF w v fs) : 0 < w.heap.size := by
  obtain ⟨sl, cap, gl, go, _, _, _, h4, _⟩ := h; omega
theorem psF_mem {fs : List FldI} {i : Nat} (hi : i < fs.length) : (fs.getD i (0, [])) ∈ fs := by
  have e : fs.getD i (0, []) = fs[i] := by rw [List.getD_eq_getElem?_getD, List.getElem?_eq_getElem hi]; rfl
  rw [e]; exact List.getElem_mem hi
/-- The reference's Get. -/
theorem cGetR (fs : List FldI) (tag : Int) (v : Value) (w : World) (h : VF w v fs) (hn : fs.length ≤ 1000000) (hl : ∀ f ∈ fs, f.2.length ≤ 100000) :
    Calls Tryd.prog 13 #[v, .int .i64 tag] w fun e w' => ∃ v, e = .returned v ∧ PTX (getE fs tag) (getX fs tag) w' v ∧ Below w.heap.size w w' := by
  obtain ⟨gsl, gcap, rfl, hr⟩ := h.row
  refine cGetR_core fs.length gcap gsl (tgF fs) tag (psF fs) (getE fs tag) (getX fs tag) w h.pos hn hr (fun i hi => hl _ (psF_mem hi)) (fun i hi h1 h2 => ?_) (fun h1 => ?_)
  · have := getI_some hi h1 h2
    simp [getE, getX, this]
  · have := getI_none h1
    simp [getE, getX, this]
end Go.Proofs.YtjekkdckjnlkcaaDoor
