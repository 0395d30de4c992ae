/- Cast: many nodes, in numbers: who meets whom. -/
import Derived.Test.YthncmahhnbpbkaaKP0
namespace Go.Proofs.Ythncmahhnbpbkaa
set_option linter.unusedVariables false
set_option linter.unusedSimpArgs false
theorem filt_two {α : Type} (p : α → Bool) : ∀ l : List α, (l.filter p).length + (l.filter fun x => !p x).length = l.length
  | [] => rfl
  | a :: r => by
    have := filt_two p r
    cases h : p a <;> simp [h] <;> omega
theorem nd_sub : ∀ (G S : List Int), G.Nodup → (∀ x ∈ G, x ∈ S) → G.length ≤ S.length
  | [], S, _, _ => by simp
  | g :: G, S, hd, hs => by
    rw [List.nodup_cons] at hd
    have h1 := nd_sub G (S.erase g) hd.2 fun x hx => (List.mem_erase_of_ne (show x ≠ g from fun e => hd.1 (e ▸ hx))).2 (hs x (List.mem_cons_of_mem _ hx))
    have hg : g ∈ S := hs g (by simp)
    have h2 := List.length_erase_of_mem hg
    have h3 := List.length_pos_of_mem hg
    simp only [List.length_cons]; omega
/-- Who sent that. -/
def who (l : List (Int × ByteArray)) (v : ByteArray) : List Int := fs (l.filter fun x => x.2 = v)
theorem who_len (l : List (Int × ByteArray)) (v : ByteArray) : cnt l v = ((who l v).length : Nat) := by simp [cnt, who, fs]
theorem who_mem {l : List (Int × ByteArray)} {v : ByteArray} {g : Int} : g ∈ who l v ↔ (g, v) ∈ l := by
  unfold who fs
  rw [List.mem_map]
  constructor
  · rintro ⟨⟨a, b⟩, h, rfl⟩
    rw [List.mem_filter] at h
    have : b = v := by simpa using h.2
    rw [← this]; exact h.1
  · intro h
    exact ⟨(g, v), by rw [List.mem_filter]; exact ⟨h, by simp⟩, rfl⟩
theorem who_nd {n : Int} {l : List (Int × ByteArray)} (h : SO n l) (v : ByteArray) : (who l v).Nodup := by
  have : (who l v).Sublist (fs l) := by unfold who fs; exact List.Sublist.map _ List.filter_sublist
  exact h.nd.sublist this
theorem fs_of {l : List (Int × ByteArray)} {v : ByteArray} {g : Int} (h : (g, v) ∈ l) : g ∈ fs l := List.mem_map_of_mem (f := fun x : Int × ByteArray => x.1) h
theorem who_ran {n : Int} {l : List (Int × ByteArray)} (h : SO n l) {v : ByteArray} {g : Int} (hg : g ∈ who l v) : 1 ≤ g ∧ g ≤ n := h.ran g (fs_of (who_mem.1 hg))
/-- More than the corrupt ones: one that is not. -/
theorem one_more {S : List Int} {n : Int} {b : Nat} (hd : S.Nodup) (hr : ∀ x ∈ S, 1 ≤ x ∧ x ≤ n) (hl : b < S.length) : ∃ g ∈ S, (b : Int) < g := by
  by_cases h : ∃ g ∈ S, (b : Int) < g
  · exact h
  · exfalso
    have := len_in b S hd fun x hx => ⟨(hr x hx).1, by
      by_cases h2 : (b : Int) < x
      · exact absurd ⟨x, hx, h2⟩ h
      · omega⟩
    omega
theorem one_of {n : Int} {l : List (Int × ByteArray)} {v : ByteArray} {b : Nat} (h : SO n l) (hc : (b : Int) < cnt l v) : ∃ g : Nat, (b < g ∧ (g : Int) ≤ n) ∧ ((g : Int), v) ∈ l := by
  rw [who_len] at hc
  obtain ⟨g, hg, h2⟩ := one_more (who_nd h v) (fun x hx => who_ran h hx) (b := b) (by omega)
  have h3 := who_ran h hg
  refine ⟨g.toNat, ⟨by omega, by omega⟩, ?_⟩
  rw [show ((g.toNat : Nat) : Int) = g by omega]
  exact who_mem.1 hg
/-- Two great halves meet in one that is not corrupt. -/
theorem meet {n : Nat} {t : Int} {b : Nat} {l l' : List (Int × ByteArray)} {v v' : ByteArray} (h : SO n l) (h' : SO n l') (hb : (b : Int) ≤ t) (hc : n + t < 2 * cnt l v) (hc' : n + t < 2 * cnt l' v') : ∃ g : Nat, (b < g ∧ g ≤ n) ∧ ((g : Int), v) ∈ l ∧ ((g : Int), v') ∈ l' := by
  rw [who_len] at hc hc'
  have e1 : ((who l v).filter fun x => decide (x ∈ who l' v')).length + ((who l v).filter fun x => !decide (x ∈ who l' v')).length = (who l v).length := filt_two _ _
  have e2 : (((who l v).filter fun x => !decide (x ∈ who l' v')) ++ who l' v').length ≤ n := by
    refine len_in n _ ?_ fun x hx => ?_
    · rw [List.nodup_append]
      refine ⟨(who_nd h v).sublist List.filter_sublist, who_nd h' v', fun a ha c hc e => ?_⟩
      rw [List.mem_filter] at ha
      have := ha.2
      subst e
      simp [hc] at this
    · rw [List.mem_append, List.mem_filter] at hx
      rcases hx with hx | hx
      · exact who_ran h hx.1
      · exact who_ran h' hx
  rw [List.length_append] at e2
  obtain ⟨g, hg, h2⟩ := one_more (S := (who l v).filter fun x => decide (x ∈ who l' v')) (n := n) (b := b) ((who_nd h v).sublist List.filter_sublist) (fun x hx => by rw [List.mem_filter] at hx; exact who_ran h hx.1) (by omega)
  rw [List.mem_filter] at hg
  have h3 := who_ran h hg.1
  have h4 : g ∈ who l' v' := by simpa using hg.2
  refine ⟨g.toNat, ⟨by omega, by omega⟩, ?_⟩
  rw [show ((g.toNat : Nat) : Int) = g by omega]
  exact ⟨who_mem.1 hg.1, who_mem.1 h4⟩
/-- All of these sent it: so many. -/
theorem all_of {n : Int} {l : List (Int × ByteArray)} {v : ByteArray} (h : SO n l) (G : List Int) (hG : G.Nodup) (hm : ∀ g ∈ G, (g, v) ∈ l) : (G.length : Int) ≤ cnt l v := by
  rw [who_len]
  have := nd_sub G (who l v) hG fun g hg => who_mem.2 (hm g hg)
  omega
/-- Those that are not corrupt, of so many that sent it. -/
theorem most_of {n : Int} {l : List (Int × ByteArray)} {v : ByteArray} {b : Nat} (h : SO n l) : ∃ G : List Int, G.Nodup ∧ cnt l v ≤ G.length + b ∧ ∀ g ∈ G, (b : Int) < g ∧ g ≤ n ∧ (g, v) ∈ l := by
  refine ⟨(who l v).filter fun x => decide ((b : Int) < x), (who_nd h v).sublist List.filter_sublist, ?_, fun g hg => ?_⟩
  · rw [who_len]
    have e1 : ((who l v).filter fun x => decide ((b : Int) < x)).length + ((who l v).filter fun x => !decide ((b : Int) < x)).length = (who l v).length := filt_two _ _
    have e2 : ((who l v).filter fun x => !decide ((b : Int) < x)).length ≤ b := by
      refine len_in b _ ((who_nd h v).sublist List.filter_sublist) fun x hx => ?_
      rw [List.mem_filter] at hx
      have h1 := who_ran h hx.1
      have h2 := hx.2
      simp at h2
      omega
    omega
  · rw [List.mem_filter] at hg
    have h2 : (b : Int) < g := by simpa using hg.2
    exact ⟨h2, (who_ran h hg.1).2, who_mem.1 hg.1⟩
theorem cnt_mono {l l' : List (Int × ByteArray)} (h : ∃ r, l' = l ++ r) (v : ByteArray) : cnt l v ≤ cnt l' v := by
  obtain ⟨r, rfl⟩ := h
  simp only [cnt, List.filter_append, List.length_append]; omega
end Go.Proofs.Ythncmahhnbpbkaa
