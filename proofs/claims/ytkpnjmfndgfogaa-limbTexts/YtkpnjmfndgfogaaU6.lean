/- Walks: a copy of bytes (seneschalbase.Bytes). -/
import Derived.Test.YtkpnjmfndgfogaaB8
import Derived.Test.YtkpnjmfndgfogaaC1
import Derived.Laws.AppendOwn
import Derived.OwnWalk
namespace Go.Proofs.Ytkpnjmfndgfogaa
open Go.RowKit
set_option linter.unusedSimpArgs false
set_option linter.unusedVariables false
theorem SB.news {w : World} {g o : Nat} {xs : List Int} (h : SB w g o xs) : ∀ j u, (xs.map (Value.int .u8))[j]? = some u → w.cell? ((⟨g, o, none⟩ : Addr).add j) = some u := fun j u hj => by
  have hjl : j < xs.length := by
    rcases Nat.lt_or_ge j xs.length with h | h
    · exact h
    · simp [List.getElem?_eq_none h] at hj
  have hplain : (⟨g, o, none⟩ : Addr).add j = ⟨g, o + j, none⟩ := by unfold Addr.add; split <;> simp_all
  rw [hplain, h j hjl]
  simp [List.getElem?_eq_getElem hjl] at hj ⊢
  exact hj
set_option maxRecDepth 100000 in
theorem bBytes_any (g o cap : Nat) (xs : List Int) (w : World) (hn : xs.length ≤ 100) (hg : g < w.heap.size) (hS : SB w g o xs) :
    Calls Try.prog 14 #[.slice (some ⟨g, o, none⟩) xs.length cap] w fun en w' => ∃ b c, en = .returned (.slice (some ⟨b, 0, none⟩) xs.length c) ∧ SB w' b 0 xs ∧ b < w'.heap.size ∧ Below w.heap.size w w' := by
  obtain ⟨i, hi, hm⟩ := Option.map_eq_some_iff.1 Try.info5
  simp only [Prod.mk.injEq] at hm
  obtain ⟨hz, hsz, hby⟩ := hm
  have hS' : SB (w.alloc (.cells #[] 5)) g o xs := hS.below ((Below.refl _ _).alloc (Nat.le_refl _) _) hg
  have h1 : ∀ u ∈ xs.map (Value.int .u8), u.oneCell' = true := by intro u hu; obtain ⟨x, _, rfl⟩ := List.mem_map.1 hu; rfl
  have hnw := hS'.news
  have hbs : ∀ w, (Instr.buildSlice 22 0 #[]).run Try.prog w = .ok (.slice (some ⟨w.heap.size, 0, none⟩) 0 0) (w.alloc (.cells #[] 5)) := fun _ => by kernel_rfl
  go_enter Try.func14, Try.ntmps14
  go_wp2_with (at_builtin; refine wpList_append_own _ rfl _ _ 22 rfl w.heap.size 5 i (.int .u8 0) 1 1 Try.underlying22 hi hz hsz hby rfl (by omega) (.slice (some ⟨w.heap.size, 0, none⟩) 0 0) 0 [] rfl (World.ownsRow_made w #[] 0 (Nat.le_refl _) (by simp [maxLen]) rfl) ⟨g, o, none⟩ xs.length cap (xs.map (Value.int .u8)) rfl (by simp) hnw h1 (by simp [maxLen]; omega) (by omega) (by simp) ?_)
  intro v' w' ho hgr hnil
  have hbel : Below w.heap.size w w' := Below.grown (balloc (bself w) _) hgr (by simp) (fun k e => by cases e; exact Nat.le_refl _)
  try simp only [Nat.zero_add, List.nil_append] at ho
  rcases id ho.2 with ⟨rfl, _⟩ | ⟨b, c, cur, rfl, hb, hcur, hnc, _, hcs, htake⟩
  · exact absurd rfl hnil
  have hlt : b < w'.heap.size := (Array.getElem?_eq_some_iff.1 hcur).1
  have hcl := ho.cells (g := b) rfl
  go_wp2
  go_ret
  refine ⟨b, c, rfl, fun j hj => ?_, hlt, hbel⟩
  have := hcl j (.int .u8 (xs.getD j 0)) (by simp [List.getElem?_eq_getElem hj])
  rw [Nat.zero_add]
  have e : (⟨b, 0, none⟩ : Addr).add j = ⟨b, j, none⟩ := by unfold Addr.add; split <;> simp_all
  rw [e] at this; exact this
set_option maxRecDepth 100000 in
theorem bBytes_nil (sl : Option Addr) (cap : Nat) (w : World) :
    Calls Try.prog 14 #[.slice sl 0 cap] w fun en w' => ∃ b c, en = .returned (.slice (some ⟨b, 0, none⟩) 0 c) ∧ b < w'.heap.size ∧ Below w.heap.size w w' := by
  have hbs : ∀ w, (Instr.buildSlice 22 0 #[]).run Try.prog w = .ok (.slice (some ⟨w.heap.size, 0, none⟩) 0 0) (w.alloc (.cells #[] 5)) := fun _ => by kernel_rfl
  cases sl <;>
  · go_enter Try.func14, Try.ntmps14
    go_wp2
    go_ret
    exact ⟨_, _, rfl, by simp, balloc (bself w) _⟩
end Go.Proofs.Ytkpnjmfndgfogaa
