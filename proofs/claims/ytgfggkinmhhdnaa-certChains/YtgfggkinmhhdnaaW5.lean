/- Walks: Widen, and the reference's digits of 32 bits. -/
import Derived.Test.YtgfggkinmhhdnaaW2
import Derived.Laws.IdiomCopy
import Derived.Deep.RegionHeld3
import Derived.Deep.AppendLies
import Derived.OwnWalk
namespace Go.Proofs.Ytgfggkinmhhdnaa
open Go.RowKit
set_option linter.unusedSimpArgs false
set_option linter.unusedVariables false

theorem Try.info22 : (Try.prog.info? 22).map (fun i => (i.zero, i.size, i.bytes)) = some (some (.int .u64 0), 1, 8) := by kernel_rfl
set_option maxRecDepth 100000 in
set_option maxHeartbeats 400000 in
theorem Widen_any (a b c d : Int) (w : World) :
    Calls Try.prog 47 #[A4 a b c d] w fun e w' => e = .returned (A8 a b c d 0 0 0 0) ∧ Below w.heap.size w w' := by
  have hcp : (Builtin.copy_ #[70, 70] 3 #[.slice (some ⟨w.heap.size + 1 + 1, 0, none⟩) 8 8, .slice (some ⟨w.heap.size, 0, none⟩) 4 4]).run Try.prog
      (((w.alloc (.cells #[.int .u64 a, .int .u64 b, .int .u64 c, .int .u64 d] 24)).alloc (.cells #[.int .u64 0, .int .u64 0, .int .u64 0, .int .u64 0, .int .u64 0, .int .u64 0, .int .u64 0, .int .u64 0] 45)).alloc (.cells #[.int .u64 0, .int .u64 0, .int .u64 0, .int .u64 0, .int .u64 0, .int .u64 0, .int .u64 0, .int .u64 0] 45)).drew =
      .ok (.int .i64 4) (((w.alloc (.cells #[.int .u64 a, .int .u64 b, .int .u64 c, .int .u64 d] 24)).alloc (.cells #[.int .u64 0, .int .u64 0, .int .u64 0, .int .u64 0, .int .u64 0, .int .u64 0, .int .u64 0, .int .u64 0] 45)).alloc (.cells #[.int .u64 a, .int .u64 b, .int .u64 c, .int .u64 d, .int .u64 0, .int .u64 0, .int .u64 0, .int .u64 0] 45)).drew := by
    rw [run_copy_cells _ 70 70 3 22 _ 0 8 8 _ 4 4 [.int .u64 a, .int .u64 b, .int .u64 c, .int .u64 d] Try.underlying70 (by kernel_rfl) rfl ?h1 ?h2 ?h3 ?h4]
    case h1 =>
      intro j v hj
      match j, hj with
      | 0, hj => simp at hj; subst hj; simp [Addr.add, go_sem]
      | 1, hj => simp at hj; subst hj; simp [Addr.add, go_sem]
      | 2, hj => simp at hj; subst hj; simp [Addr.add, go_sem]
      | 3, hj => simp at hj; subst hj; simp [Addr.add, go_sem]
    case h2 =>
      intro j hj
      have hj' : j = 0 ∨ j = 1 ∨ j = 2 ∨ j = 3 := by simp at hj; omega
      rcases hj' with rfl | rfl | rfl | rfl <;> simp [go_sem]
    case h3 =>
      intro j hj
      have hj' : j = 0 ∨ j = 1 ∨ j = 2 ∨ j = 3 := by simp at hj; omega
      rcases hj' with rfl | rfl | rfl | rfl <;> simp [go_sem]
    case h4 => intro v hv; simp at hv; rcases hv with rfl | rfl | rfl | rfl <;> rfl
    simp [World.setCells, go_sem, goInt]
  go_enter Try.func47, Try.ntmps47
  go_wp2
  go_region
  go_wp2
  refine bodyPost_ret (v := A8 a b c d 0 0 0 0) (by simp [results, Try.results47, go_sem]) rfl ⟨rfl, ?_⟩
  go_grown

theorem tm32 (x : Int) (h : 0 ≤ x) : x.tmod 4294967296 = x % 4294967296 := Int.tmod_eq_emod_of_nonneg h
theorem td32 (x : Int) (h : 0 ≤ x) (h2 : x < 18446744073709551616) : IntKind.u64.wrap (x.tdiv 4294967296) = x / 4294967296 := by
  rw [Int.tdiv_eq_ediv_of_nonneg h, IntKind.wrap_u64]; omega
def dgl (k : Nat) (p q r s : Int) : List Value := match k with
  | 0 => []
  | 1 => [.int .u64 (p % 4294967296), .int .u64 (p / 4294967296)]
  | 2 => [.int .u64 (p % 4294967296), .int .u64 (p / 4294967296), .int .u64 (q % 4294967296), .int .u64 (q / 4294967296)]
  | 3 => [.int .u64 (p % 4294967296), .int .u64 (p / 4294967296), .int .u64 (q % 4294967296), .int .u64 (q / 4294967296), .int .u64 (r % 4294967296), .int .u64 (r / 4294967296)]
  | _ => [.int .u64 (p % 4294967296), .int .u64 (p / 4294967296), .int .u64 (q % 4294967296), .int .u64 (q / 4294967296), .int .u64 (r % 4294967296), .int .u64 (r / 4294967296), .int .u64 (s % 4294967296), .int .u64 (s / 4294967296)]

set_option maxRecDepth 100000 in
set_option maxHeartbeats 1600000 in
theorem digits_any (g : Nat) (p q r s : Int) (w : World) (hC : C4 w g p q r s) (hp : W64 p) (hq : W64 q) (hr : W64 r) (hs : W64 s) :
    Calls Try.prog 41 #[.slice (some ⟨g, 0, none⟩) 4 4] w fun e w' => ∃ b cap, e = .returned (.slice (some ⟨b, 0, none⟩) 8 cap) ∧ w'.ownsRow w.heap.size 22 1 (.slice (some ⟨b, 0, none⟩) 8 cap) 8 (dgl 4 p q r s) ∧ Below w.heap.size w w' := by
  obtain ⟨p1, p2⟩ := hp
  obtain ⟨q1, q2⟩ := hq
  obtain ⟨r1, r2⟩ := hr
  obtain ⟨s1, s2⟩ := hs
  obtain ⟨i0, hi0, hz0, hz1, hz2⟩ := info_parts Try.info22
  have lg := World.block_lt_of_cell? w _ hC.1.1
  have hbs : ∀ w, (Instr.buildSlice 70 0 #[]).run Try.prog w = .ok (.slice (some ⟨w.heap.size, 0, none⟩) 0 0) (w.alloc (.cells #[] 22)) := fun _ => by kernel_rfl
  go_enter Try.func41, Try.ntmps41
  go_wp2
  go_loopw [3, 4] (fun v i wr => Below w.heap.size w wr ∧ ∃ (b cap : Nat), (i = .int .i64 0 ∧ v = .slice (some ⟨b, 0, none⟩) 0 cap ∧ wr.ownsRow w.heap.size 22 1 (.slice (some ⟨b, 0, none⟩) 0 cap) 0 (dgl 0 p q r s)) ∨ (i = .int .i64 1 ∧ v = .slice (some ⟨b, 0, none⟩) 2 cap ∧ wr.ownsRow w.heap.size 22 1 (.slice (some ⟨b, 0, none⟩) 2 cap) 2 (dgl 1 p q r s)) ∨ (i = .int .i64 2 ∧ v = .slice (some ⟨b, 0, none⟩) 4 cap ∧ wr.ownsRow w.heap.size 22 1 (.slice (some ⟨b, 0, none⟩) 4 cap) 4 (dgl 2 p q r s)) ∨ (i = .int .i64 3 ∧ v = .slice (some ⟨b, 0, none⟩) 6 cap ∧ wr.ownsRow w.heap.size 22 1 (.slice (some ⟨b, 0, none⟩) 6 cap) 6 (dgl 3 p q r s)) ∨ (i = .int .i64 4 ∧ v = .slice (some ⟨b, 0, none⟩) 8 cap ∧ wr.ownsRow w.heap.size 22 1 (.slice (some ⟨b, 0, none⟩) 8 cap) 8 (dgl 4 p q r s)))
    (fun _ i _ => 4 - (intOf i).toNat)
  case atStart =>
    refine ⟨by go_grown, w.heap.size, 0, .inl ⟨rfl, rfl, ?_⟩⟩
    exact World.ownsRow_made w #[] 0 (Nat.le_refl _) (by simp [maxLen]) rfl
  case round =>
    obtain ⟨hB, b, cap, hr⟩ := hrel
    have hC' := hC.below hB lg
    obtain ⟨⟨pc0, pc1, pc2, pc3⟩, _⟩ := hC'
    have hsz := hB.size
    clear hC
    rcases hr with ⟨rfl, rfl, hown⟩ | ⟨rfl, rfl, hown⟩ | ⟨rfl, rfl, hown⟩ | ⟨rfl, rfl, hown⟩ | ⟨rfl, rfl, hown⟩
    · have hlt := hown.lt b rfl
      have hne : (Value.slice (some ⟨b, 0, none⟩) 0 cap).ownBlock ≠ some g := by simp [Value.ownBlock]; omega
      go_wp2
      go_region_held3 (fun w' => w'.cell? ⟨g, 0, none⟩ = some (.int .u64 p)) (first | go_keep | (rw [hgrow.cell_far _ (by simp; omega) (Ne.symm hne)]; assumption))
        ((refine step_append_lies _ (by rfl) _ _ _ (by rfl) w.heap.size 22 i0 _ 1 8 Try.underlying70 hi0 hz0 hz1 hz2 rfl (by omega) (.slice (some ⟨b, 0, none⟩) 0 cap) 0 (dgl 0 p q r s) (by rfl) ((hown.alloc _).drew) ⟨wr.heap.size, 0, none⟩ 2 2 [.int .u64 (p.tmod 4294967296), .int .u64 (IntKind.u64.wrap (p.tdiv 4294967296))] (by rfl) (by rfl) (World.news_of_block (cs := #[.int .u64 (p.tmod 4294967296), .int .u64 (IntKind.u64.wrap (p.tdiv 4294967296))]) (t := 22) (fr := (0, 0)) (heap_alloc_new wr _)) (by simp [Value.oneCell']) (by omega) (by simp [maxLen]) (by omega) (by simp; omega) (wr.heap.size + 1) (by simp) ?_; intro gg cap1 w1 hown1 hgrow hat hlt1))
      go_wp2
      go_roundw
      case rel =>
        rw [tm32 p p1, td32 p p1 p2] at hown1
        refine ⟨?_, gg, cap1, .inr (.inl ⟨rfl, rfl, hown1⟩)⟩
        exact Below.grown ((hB.alloc hsz _).drew) hgrow (by simp; omega) (by intro k hk; simp [Value.ownBlock] at hk; omega)
      case measure => simp [intOf]
    · have hlt := hown.lt b rfl
      have hne : (Value.slice (some ⟨b, 0, none⟩) 2 cap).ownBlock ≠ some g := by simp [Value.ownBlock]; omega
      go_wp2
      go_region_held3 (fun w' => w'.cell? ⟨g, 1, none⟩ = some (.int .u64 q)) (first | go_keep | (rw [hgrow.cell_far _ (by simp; omega) (Ne.symm hne)]; assumption))
        ((refine step_append_lies _ (by rfl) _ _ _ (by rfl) w.heap.size 22 i0 _ 1 8 Try.underlying70 hi0 hz0 hz1 hz2 rfl (by omega) (.slice (some ⟨b, 0, none⟩) 2 cap) 2 (dgl 1 p q r s) (by rfl) ((hown.alloc _).drew) ⟨wr.heap.size, 0, none⟩ 2 2 [.int .u64 (q.tmod 4294967296), .int .u64 (IntKind.u64.wrap (q.tdiv 4294967296))] (by rfl) (by rfl) (World.news_of_block (cs := #[.int .u64 (q.tmod 4294967296), .int .u64 (IntKind.u64.wrap (q.tdiv 4294967296))]) (t := 22) (fr := (0, 0)) (heap_alloc_new wr _)) (by simp [Value.oneCell']) (by omega) (by simp [maxLen]) (by omega) (by simp; omega) (wr.heap.size + 1) (by simp) ?_; intro gg cap1 w1 hown1 hgrow hat hlt1))
      go_wp2
      go_roundw
      case rel =>
        rw [tm32 q q1, td32 q q1 q2] at hown1
        refine ⟨?_, gg, cap1, .inr (.inr (.inl ⟨rfl, rfl, hown1⟩))⟩
        exact Below.grown ((hB.alloc hsz _).drew) hgrow (by simp; omega) (by intro k hk; simp [Value.ownBlock] at hk; omega)
      case measure => simp [intOf]
    · have hlt := hown.lt b rfl
      have hne : (Value.slice (some ⟨b, 0, none⟩) 4 cap).ownBlock ≠ some g := by simp [Value.ownBlock]; omega
      go_wp2
      go_region_held3 (fun w' => w'.cell? ⟨g, 2, none⟩ = some (.int .u64 r)) (first | go_keep | (rw [hgrow.cell_far _ (by simp; omega) (Ne.symm hne)]; assumption))
        ((refine step_append_lies _ (by rfl) _ _ _ (by rfl) w.heap.size 22 i0 _ 1 8 Try.underlying70 hi0 hz0 hz1 hz2 rfl (by omega) (.slice (some ⟨b, 0, none⟩) 4 cap) 4 (dgl 2 p q r s) (by rfl) ((hown.alloc _).drew) ⟨wr.heap.size, 0, none⟩ 2 2 [.int .u64 (r.tmod 4294967296), .int .u64 (IntKind.u64.wrap (r.tdiv 4294967296))] (by rfl) (by rfl) (World.news_of_block (cs := #[.int .u64 (r.tmod 4294967296), .int .u64 (IntKind.u64.wrap (r.tdiv 4294967296))]) (t := 22) (fr := (0, 0)) (heap_alloc_new wr _)) (by simp [Value.oneCell']) (by omega) (by simp [maxLen]) (by omega) (by simp; omega) (wr.heap.size + 1) (by simp) ?_; intro gg cap1 w1 hown1 hgrow hat hlt1))
      go_wp2
      go_roundw
      case rel =>
        rw [tm32 r r1, td32 r r1 r2] at hown1
        refine ⟨?_, gg, cap1, .inr (.inr (.inr (.inl ⟨rfl, rfl, hown1⟩)))⟩
        exact Below.grown ((hB.alloc hsz _).drew) hgrow (by simp; omega) (by intro k hk; simp [Value.ownBlock] at hk; omega)
      case measure => simp [intOf]
    · have hlt := hown.lt b rfl
      have hne : (Value.slice (some ⟨b, 0, none⟩) 6 cap).ownBlock ≠ some g := by simp [Value.ownBlock]; omega
      go_wp2
      go_region_held3 (fun w' => w'.cell? ⟨g, 3, none⟩ = some (.int .u64 s)) (first | go_keep | (rw [hgrow.cell_far _ (by simp; omega) (Ne.symm hne)]; assumption))
        ((refine step_append_lies _ (by rfl) _ _ _ (by rfl) w.heap.size 22 i0 _ 1 8 Try.underlying70 hi0 hz0 hz1 hz2 rfl (by omega) (.slice (some ⟨b, 0, none⟩) 6 cap) 6 (dgl 3 p q r s) (by rfl) ((hown.alloc _).drew) ⟨wr.heap.size, 0, none⟩ 2 2 [.int .u64 (s.tmod 4294967296), .int .u64 (IntKind.u64.wrap (s.tdiv 4294967296))] (by rfl) (by rfl) (World.news_of_block (cs := #[.int .u64 (s.tmod 4294967296), .int .u64 (IntKind.u64.wrap (s.tdiv 4294967296))]) (t := 22) (fr := (0, 0)) (heap_alloc_new wr _)) (by simp [Value.oneCell']) (by omega) (by simp [maxLen]) (by omega) (by simp; omega) (wr.heap.size + 1) (by simp) ?_; intro gg cap1 w1 hown1 hgrow hat hlt1))
      go_wp2
      go_roundw
      case rel =>
        rw [tm32 s s1, td32 s s1 s2] at hown1
        refine ⟨?_, gg, cap1, .inr (.inr (.inr (.inr (⟨rfl, rfl, hown1⟩))))⟩
        exact Below.grown ((hB.alloc hsz _).drew) hgrow (by simp; omega) (by intro k hk; simp [Value.ownBlock] at hk; omega)
      case measure => simp [intOf]
    · go_wp2
      go_ret
      exact ⟨b, cap, rfl, hown, hB⟩
end Go.Proofs.Ytgfggkinmhhdnaa
