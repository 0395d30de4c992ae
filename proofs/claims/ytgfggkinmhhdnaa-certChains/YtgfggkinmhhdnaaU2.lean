/- Walks: limb's isText. -/
import Derived.Test.YtgfggkinmhhdnaaU1
import Derived.Laws.Closers25
namespace Go.Proofs.Ytgfggkinmhhdnaa
open Go.RowKit
set_option linter.unusedSimpArgs false
set_option linter.unusedVariables false
/-- The text of a number, however great? -/
def isT (cs : List Int) : Bool := !(cs.length == 0) && !(cs.getD 0 0 == 48 && decide (1 < cs.length)) && cs.all fun c => decide (0 ≤ ixv c)
theorem isT_all {cs : List Int} {k : Nat} (h : ∀ j, j < k → 0 ≤ ixv (cs.getD j 0)) (hk : cs.length = k) : (cs.all fun c => decide (0 ≤ ixv c)) = true := by
  rw [List.all_eq_true]; intro x hx
  obtain ⟨j, hj, rfl⟩ := List.mem_iff_getElem.1 hx
  have := h j (by omega)
  simpa [List.getElem?_eq_getElem hj] using this
theorem isT_not {cs : List Int} {k : Nat} (hk : k < cs.length) (h : ixv (cs.getD k 0) < 0) : isT cs = false := by
  have : (cs.all fun c => decide (0 ≤ ixv c)) = false := by
    rw [List.all_eq_false]
    refine ⟨cs[k], List.getElem_mem hk, ?_⟩
    simp [List.getElem?_eq_getElem hk] at h
    simp; omega
  unfold isT; rw [this]; simp
set_option maxRecDepth 100000 in
set_option maxHeartbeats 2000000 in
theorem isText_any (cs : List Int) (hb : Bytes8 cs) (hn : cs.length ≤ 200) (w : World) : Calls Try.prog 86 #[.string (strOfNums cs)] w fun e w' => e = .returned (.bool (isT cs)) ∧ w' = w := by
  by_cases h0 : cs.length = 0
  · have e : cs = [] := List.eq_nil_of_length_eq_zero h0
    subst e
    go_enter Try.func86, Try.ntmps86
    have e0 : strOfNums [] = ByteArray.mk #[] := rfl
    rw [e0]
    go_wp2
    go_ret
    exact ⟨rfl, rfl⟩
  · have k0 : ∀ W, (Instr.index 9 (.string (strOfNums cs)) (.int .i64 0)).run Try.prog W = .ok (.int .u8 (cs.getD 0 0)) W := fun W => str_ix cs hb 0 (by omega) W
    have hS : (strOfNums cs).size = cs.length := strOfNums_size cs
    have hix : ∀ j, j < cs.length → ∀ W, (Instr.index 9 (.string (strOfNums cs)) (.int .i64 j)).run Try.prog W = .ok (.int .u8 (cs.getD j 0)) W := fun j hj W => str_ix cs hb j hj W
    have hbd : ∀ j, 0 ≤ cs.getD j 0 ∧ cs.getD j 0 < 256 := fun j => by
      by_cases hj : j < cs.length
      · have := hb cs[j] (List.getElem_mem hj); simpa [List.getElem?_eq_getElem hj] using this
      · simp [List.getElem?_eq_none (show cs.length ≤ j by omega)]
    have hne : (strOfNums cs).toList.isEmpty = false := by
      rw [← decide_eq_emptyBytes, decide_eq_false_iff_not]
      intro e
      have := congrArg ByteArray.size e; rw [hS] at this; exact h0 this
    obtain ⟨n, en⟩ : ∃ n, cs.length = n := ⟨_, rfl⟩
    obtain ⟨S, eS⟩ : ∃ S, strOfNums cs = S := ⟨_, rfl⟩
    obtain ⟨c0, e0⟩ : ∃ c, cs.getD 0 0 = c := ⟨_, rfl⟩
    rw [eS, e0] at k0
    rw [eS] at hne hS ⊢
    rw [en] at hS hix
    simp only [eS] at hix
    have EN : Hid _ := en
    have E0 : Hid _ := e0
    have HIX : Hid _ := hix
    have HBD : Hid _ := hbd
    rw [en] at h0 hn
    clear en e0 eS hix hbd
    by_cases h1 : c0 = 48
    · subst h1
      by_cases h2 : 1 < n
      · have h2' : (1 : Int) < n := by omega
        go_enter Try.func86, Try.ntmps86
        go_wp2
        go_ret
        refine ⟨?_, rfl⟩
        have : isT cs = false := by unfold isT; rw [E0.out, EN.out]; simp [h2]
        rw [this]; rfl
      · have h2' : ¬ (1 : Int) < n := by omega
        go_enter Try.func86, Try.ntmps86
        go_wp2
        go_loop [18] (fun vi => ∃ k : Nat, k ≤ n ∧ vi = .int .i64 k ∧ Hid (∀ j, j < k → 0 ≤ ixv (cs.getD j 0))) (fun vi => n - (intOf vi).toNat)
        case atStart => exact ⟨0, by omega, rfl, fun j hj => by omega⟩
        case round =>
          obtain ⟨k, hk, rfl, HK⟩ := hrel
          by_cases hlt : k < n
          · have hlt' : (k : Int) < n := by omega
            have k1 := HIX.out k hlt
            have kb := HBD.out k
            have HC : Hid _ := fun (h : ixv (cs.getD k 0) < 0) => isT_not (show k < cs.length by rw [EN.out]; exact hlt) h
            have HS : Hid _ := fun (h : 0 ≤ ixv (cs.getD k 0)) => (fun j (hj : j < k + 1) => (by
              by_cases e : j = k
              · subst e; exact h
              · exact HK.out j (by omega)) : ∀ j, j < k + 1 → 0 ≤ ixv (cs.getD j 0))
            generalize cs.getD k 0 = c at *
            have kx := fun W => IndexByte_any c kb.1 kb.2 W
            generalize ixv c = v at *
            go_wp2_with fail
            refine (kx _).mono ?_
            rintro e w' ⟨rfl, rfl⟩
            by_cases hv : v < 0
            · go_wp2
              go_ret
              refine ⟨?_, rfl⟩
              rw [HC.out hv]; rfl
            · go_wp2
              exact ⟨⟨k + 1, by omega, by go_num, HS.out (by omega)⟩, by simp [intOf]; omega⟩
          · have hkn : k = n := by omega
            subst hkn
            go_wp2
            go_ret
            refine ⟨?_, rfl⟩
            have ha := isT_all HK.out EN.out
            have : isT cs = true := by unfold isT; rw [ha, E0.out, EN.out]; simp [h0, h2]
            rw [this]; rfl
    · go_enter Try.func86, Try.ntmps86
      go_wp2
      go_loop [18] (fun vi => ∃ k : Nat, k ≤ n ∧ vi = .int .i64 k ∧ Hid (∀ j, j < k → 0 ≤ ixv (cs.getD j 0))) (fun vi => n - (intOf vi).toNat)
      case atStart => exact ⟨0, by omega, rfl, fun j hj => by omega⟩
      case round =>
        obtain ⟨k, hk, rfl, HK⟩ := hrel
        by_cases hlt : k < n
        · have hlt' : (k : Int) < n := by omega
          have k1 := HIX.out k hlt
          have kb := HBD.out k
          have HC : Hid _ := fun (h : ixv (cs.getD k 0) < 0) => isT_not (show k < cs.length by rw [EN.out]; exact hlt) h
          have HS : Hid _ := fun (h : 0 ≤ ixv (cs.getD k 0)) => (fun j (hj : j < k + 1) => (by
            by_cases e : j = k
            · subst e; exact h
            · exact HK.out j (by omega)) : ∀ j, j < k + 1 → 0 ≤ ixv (cs.getD j 0))
          generalize cs.getD k 0 = c at *
          have kx := fun W => IndexByte_any c kb.1 kb.2 W
          generalize ixv c = v at *
          go_wp2_with fail
          refine (kx _).mono ?_
          rintro e w' ⟨rfl, rfl⟩
          by_cases hv : v < 0
          · go_wp2
            go_ret
            refine ⟨?_, rfl⟩
            rw [HC.out hv]; rfl
          · go_wp2
            exact ⟨⟨k + 1, by omega, by go_num, HS.out (by omega)⟩, by simp [intOf]; omega⟩
        · have hkn : k = n := by omega
          subst hkn
          go_wp2
          go_ret
          refine ⟨?_, rfl⟩
          have ha := isT_all HK.out EN.out
          have : isT cs = true := by unfold isT; rw [ha, E0.out, EN.out]; simp [h0, h1]
          rw [this]; rfl
/-- A text by its bytes. -/
theorem str_nums (s : ByteArray) : ∃ cs, s = strOfNums cs ∧ Bytes8 cs := by
  refine ⟨s.data.toList.map fun b => (b.toNat : Int), ?_, ?_⟩
  · apply ByteArray.ext
    apply Array.toList_inj.1
    simp only [strOfNums, List.map_map]
    rw [show ((fun n : Int => UInt8.ofNat n.toNat) ∘ fun b : UInt8 => (b.toNat : Int)) = id from funext fun b => by simp, List.map_id]
  · intro x hx
    obtain ⟨b, _, rfl⟩ := List.mem_map.1 hx
    have := b.toNat_lt
    exact ⟨by omega, by omega⟩
end Go.Proofs.Ytgfggkinmhhdnaa
