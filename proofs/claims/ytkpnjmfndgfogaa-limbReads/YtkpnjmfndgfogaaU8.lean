/- LimbReads, whatever came in. -/
import Derived.Test.YtkpnjmfndgfogaaU7
namespace Go.Proofs.Ytkpnjmfndgfogaa
open Go.RowKit
set_option linter.unusedSimpArgs false
set_option linter.unusedVariables false
theorem PR_form (cs : List Int) : ∃ p0 p1 p2 p3 f, PR cs = .tuple #[A4 p0 p1 p2 p3, .int .i64 f] := by
  unfold PR
  split
  · split
    · exact ⟨_, _, _, _, _, rfl⟩
    · exact ⟨_, _, _, _, _, rfl⟩
  · exact ⟨_, _, _, _, _, rfl⟩
theorem Bytes8.take {xs : List Int} (h : Bytes8 xs) (m : Nat) : Bytes8 (xs.take m) := fun x hx => h x (List.mem_of_mem_take hx)
theorem SB.take {w : World} {g o : Nat} {xs : List Int} (h : SB w g o xs) (m : Nat) : SB w g o (xs.take m) := fun j hj => by
  have hj' : j < xs.length := by rw [List.length_take] at hj; omega
  have hm : j < m := by rw [List.length_take] at hj; omega
  rw [h j hj']
  simp [List.getElem?_take, hm]
theorem limbReads_any (sl : Option Addr) (len cap : Nat) (xs cs : List Int) (w : World) (hl : xs.length = len) (hc : len ≤ cap) (hsn : sl = none → cap = 0) (hx : Bytes8 xs) (hcs : Bytes8 cs)
    (hsl : len = 0 ∨ ∃ g o, sl = some ⟨g, o, none⟩ ∧ g < w.heap.size ∧ SB w g o xs) :
    Calls Try.prog 3 #[.slice sl len cap, .string (strOfNums cs)] w fun en w' => en = .returned (.bool true) ∧ Below w.heap.size w w' := by
  obtain ⟨p0, p1, p2, p3, f, hp⟩ := PR_form (cs.take (min (cs.length : Int) 200).toNat)
  have c8 := hcs.take (min (cs.length : Int) 200).toNat
  have cl : (cs.take (min (cs.length : Int) 200).toNat).length ≤ 200 := by rw [List.length_take]; omega
  have kP : Hid (∀ W, _) := fun W => Parse_all _ c8 cl W
  have kQ : Hid (∀ W, _) := fun W => rParse_all _ c8 cl W
  rw [hp] at kP kQ
  obtain ⟨m, em⟩ : ∃ m, (min (len : Int) 100).toNat = m := ⟨_, rfl⟩
  rcases hsl with h0 | ⟨g, o, rfl, hg, hS⟩
  · have m0 : m = 0 := by omega
    subst m0
    refine limbReads_core sl len 0 cap cs.length _ _ 0 0 0 0 0 p0 p1 p2 p3 f w em hc hsn (strOfNums_size cs) (str_cut cs _) ?_ ?_ kP kQ
    · intro W hW
      refine (bBytes_nil sl cap W).mono ?_
      rintro en W' ⟨b, c, rfl, hb, hB⟩
      exact ⟨b, c, rfl, hB, Read_any b 0 c [] W' (by simp) (fun x hx => by cases hx) hb (fun j hj => by simp at hj)⟩
    · intro W hW
      exact rRead_nil sl cap W
  · have hy : (xs.take m).length = m := by rw [List.length_take]; omega
    have y8 := hx.take m
    have yS := hS.take m
    by_cases h32 : m ≤ 32
    · refine limbReads_core _ len m cap cs.length _ _ (Tk (xs.take m) 0 m) (Tk (xs.take m) 1 m) (Tk (xs.take m) 2 m) (Tk (xs.take m) 3 m) 0 p0 p1 p2 p3 f w em hc hsn (strOfNums_size cs) (str_cut cs _) ?_ ?_ kP kQ
      · intro W hW
        have k := bBytes_any g o cap (xs.take m) W (by omega) (Nat.lt_of_lt_of_le hg hW.size) (yS.below hW hg)
        rw [hy] at k
        refine k.mono ?_
        rintro en W' ⟨b, c, rfl, hSb, hb, hB⟩
        have k2 := Read_any b 0 c (xs.take m) W' (by omega) y8 hb hSb
        rw [hy] at k2
        exact ⟨b, c, rfl, hB, k2⟩
      · intro W hW
        have k := rRead_any g o cap (xs.take m) W (by omega) y8 (Nat.lt_of_lt_of_le hg hW.size) (yS.below hW hg)
        rw [hy] at k
        exact k
    · refine limbReads_core _ len m cap cs.length _ _ 0 0 0 0 3 p0 p1 p2 p3 f w em hc hsn (strOfNums_size cs) (str_cut cs _) ?_ ?_ kP kQ
      · intro W hW
        have k := bBytes_any g o cap (xs.take m) W (by omega) (Nat.lt_of_lt_of_le hg hW.size) (yS.below hW hg)
        rw [hy] at k
        refine k.mono ?_
        rintro en W' ⟨b, c, rfl, hSb, hb, hB⟩
        exact ⟨b, c, rfl, hB, Read_long b 0 m c W' (by omega) (by omega)⟩
      · intro W hW
        exact rRead_long _ m cap W (by omega) (by omega)
end Go.Proofs.Ytkpnjmfndgfogaa
