import Derived.Test.YtgfggkinmhhdnaaW5
import Derived.Lib.AppendZerosOnto
import Derived.Laws.CopyRow
import Derived.Laws.CopyOwn
/- Walks: the reference's wide, Widen. -/
namespace Go.Proofs.Ytgfggkinmhhdnaa
open Go.RowKit
set_option linter.unusedSimpArgs false
set_option linter.unusedVariables false

def H32 (x : Int) : Prop := 0 ≤ x ∧ x < 4294967296
set_option maxRecDepth 100000 in
set_option maxHeartbeats 4000000 in
theorem wide_any (g cap : Nat) (x0 x1 x2 x3 x4 x5 x6 x7 x8 x9 x10 x11 x12 x13 x14 x15 : Int) (w : World) (c0 : w.cell? ⟨g, 0, none⟩ = some (.int .u64 x0)) (c1 : w.cell? ⟨g, 1, none⟩ = some (.int .u64 x1)) (c2 : w.cell? ⟨g, 2, none⟩ = some (.int .u64 x2)) (c3 : w.cell? ⟨g, 3, none⟩ = some (.int .u64 x3)) (c4 : w.cell? ⟨g, 4, none⟩ = some (.int .u64 x4)) (c5 : w.cell? ⟨g, 5, none⟩ = some (.int .u64 x5)) (c6 : w.cell? ⟨g, 6, none⟩ = some (.int .u64 x6)) (c7 : w.cell? ⟨g, 7, none⟩ = some (.int .u64 x7)) (c8 : w.cell? ⟨g, 8, none⟩ = some (.int .u64 x8)) (c9 : w.cell? ⟨g, 9, none⟩ = some (.int .u64 x9)) (c10 : w.cell? ⟨g, 10, none⟩ = some (.int .u64 x10)) (c11 : w.cell? ⟨g, 11, none⟩ = some (.int .u64 x11)) (c12 : w.cell? ⟨g, 12, none⟩ = some (.int .u64 x12)) (c13 : w.cell? ⟨g, 13, none⟩ = some (.int .u64 x13)) (c14 : w.cell? ⟨g, 14, none⟩ = some (.int .u64 x14)) (c15 : w.cell? ⟨g, 15, none⟩ = some (.int .u64 x15)) (h0 : H32 x0) (h1 : H32 x1) (h2 : H32 x2) (h3 : H32 x3) (h4 : H32 x4) (h5 : H32 x5) (h6 : H32 x6) (h7 : H32 x7) (h8 : H32 x8) (h9 : H32 x9) (h10 : H32 x10) (h11 : H32 x11) (h12 : H32 x12) (h13 : H32 x13) (h14 : H32 x14) (h15 : H32 x15) :
    Calls Try.prog 40 #[.slice (some ⟨g, 0, none⟩) 16 cap] w fun e w' => e = .returned (A8 (x0 + x1 * 4294967296) (x2 + x3 * 4294967296) (x4 + x5 * 4294967296) (x6 + x7 * 4294967296) (x8 + x9 * 4294967296) (x10 + x11 * 4294967296) (x12 + x13 * 4294967296) (x14 + x15 * 4294967296)) ∧ Below w.heap.size w w' := by
  obtain ⟨l0, u0⟩ := h0
  obtain ⟨l1, u1⟩ := h1
  obtain ⟨l2, u2⟩ := h2
  obtain ⟨l3, u3⟩ := h3
  obtain ⟨l4, u4⟩ := h4
  obtain ⟨l5, u5⟩ := h5
  obtain ⟨l6, u6⟩ := h6
  obtain ⟨l7, u7⟩ := h7
  obtain ⟨l8, u8⟩ := h8
  obtain ⟨l9, u9⟩ := h9
  obtain ⟨l10, u10⟩ := h10
  obtain ⟨l11, u11⟩ := h11
  obtain ⟨l12, u12⟩ := h12
  obtain ⟨l13, u13⟩ := h13
  obtain ⟨l14, u14⟩ := h14
  obtain ⟨l15, u15⟩ := h15
  have lg : g < w.heap.size := World.block_lt_of_cell? w _ c0
  have lg1 : g < w.heap.size + 1 := by omega
  have lg2 : g < w.heap.size + 1 + 1 := by omega
  go_enter Try.func40, Try.ntmps40
  go_wp2
  refine wp_loop_rounds 9 ?_
  rw [rounds_succ]
  go_wp2
  go_region
  go_wp2
  rw [rounds_succ]
  go_wp2
  go_region
  go_wp2
  rw [rounds_succ]
  go_wp2
  go_region
  go_wp2
  rw [rounds_succ]
  go_wp2
  go_region
  go_wp2
  rw [rounds_succ]
  go_wp2
  go_region
  go_wp2
  rw [rounds_succ]
  go_wp2
  go_region
  go_wp2
  rw [rounds_succ]
  go_wp2
  go_region
  go_wp2
  rw [rounds_succ]
  go_wp2
  go_region
  go_wp2
  rw [rounds_succ]
  go_wp2
  refine bodyPost_ret (v := A8 (x0 + x1 * 4294967296) (x2 + x3 * 4294967296) (x4 + x5 * 4294967296) (x6 + x7 * 4294967296) (x8 + x9 * 4294967296) (x10 + x11 * 4294967296) (x12 + x13 * 4294967296) (x14 + x15 * 4294967296)) (by simp [results, Try.results40, go_sem]) rfl ⟨rfl, ?_⟩
  repeat' (first | (with_reducible exact Below.refl _ _) | (with_reducible assumption) | (with_reducible refine below_drewN ?_ _) | (with_reducible refine Below.drew ?_) | (with_reducible refine Below.setCell ?_ ?_ _) | (with_reducible refine Below.alloc ?_ ?_ _) | go_size)
end Go.Proofs.Ytgfggkinmhhdnaa
/- Walks: the reference's Widen. -/
namespace Go.Proofs.Ytgfggkinmhhdnaa
open Go.RowKit
set_option linter.unusedSimpArgs false
set_option linter.unusedVariables false
theorem zc8 : Builtin.zeroCells (Value.int .u64 0).cells 8 = #[.int .u64 0, .int .u64 0, .int .u64 0, .int .u64 0, .int .u64 0, .int .u64 0, .int .u64 0, .int .u64 0] := by kernel_rfl
abbrev z8 : List Value := [.int .u64 0, .int .u64 0, .int .u64 0, .int .u64 0, .int .u64 0, .int .u64 0, .int .u64 0, .int .u64 0]
set_option maxRecDepth 100000 in
set_option maxHeartbeats 1000000 in
theorem run_app16 (w : World) (base b cap : Nat) (xs : List Value) (hbase : base ≤ w.heap.size) (hown : w.ownsRow base 22 1 (.slice (some ⟨b, 0, none⟩) 8 cap) 8 xs) :
    ∃ b' cap' w', (Builtin.append_ #[70, 3] 70 #[.slice (some ⟨b, 0, none⟩) 8 cap, .int .i64 8]).run Try.prog w = .ok (.slice (some ⟨b', 0, none⟩) 16 cap') w' ∧
      (∀ i u, (xs ++ z8)[i]? = some u → w'.cell? ⟨b', i, none⟩ = some u) ∧ Below base w w' := by
  obtain ⟨i0, hi0, hz0, hz1, hz2⟩ := info_parts Try.info22
  obtain ⟨hlen, hr⟩ := hown
  rcases hr with ⟨h, _⟩ | ⟨g, cap', cur, hv, hbg, hg, hcap, hcm, hcs, htake⟩
  · simp at h
  · simp at hv
    obtain ⟨rfl, rfl⟩ := hv
    simp only [Nat.mul_one] at hcs htake hlen
    by_cases hroom : 16 ≤ cap
    · refine ⟨b, cap, w.setRow b (cur.toList.take 8 ++ z8 ++ cur.toList.drop 16).toArray, ?_, ?_, ?_⟩
      · have hst := run_storeCells_at (P := Try.prog) b 8 22 z8 0 cur w hg (by simp; omega) (by intro v hv; simp at hv; subst hv; rfl)
        simp only [Nat.add_zero] at hst
        have hw : IntKind.i64.wrap (8 : Int) = 8 := by decide
        simp [Builtin.append_, run_underlying Try.underlying70, run_underlying Try.underlying3, sizeOf, typeInfo, zeroValue, hi0, hz0, hz1, hz2, asInt, asIntOf, hw, hroom, zc8, Addr.add_lit, hst]
      · intro i u hu
        rw [cell_setRow_same w b i cur _ 22 (0, 0) hg]
        rw [htake]
        have hi : i < 16 := by
          have := (List.getElem?_eq_some_iff.1 hu).1
          simp [hlen] at this; exact this
        rw [List.getElem?_toArray, List.getElem?_append_left (by simp [hlen]; omega)]
        exact hu
      · exact below_setRow (Below.refl _ _) hbg _
    · have hold : (Builtin.firstCells i0.size 8 (.slice (some ⟨b, 0, none⟩) 8 cap)).run Try.prog w.drew = .ok xs.toArray w.drew := by
        refine run_firstCells_some (P := Try.prog) w.drew i0.size 8 ⟨b, 0, none⟩ 8 cap xs (by rw [hz1]; simpa using hlen) ?_
        intro j v hj
        have hadd : (⟨b, 0, none⟩ : Addr).add j = ⟨b, j, none⟩ := by unfold Addr.add; split <;> simp_all
        rw [hadd]
        show w.cell? ⟨b, j, none⟩ = some v
        rw [cell_of_row w b j cur 22 (0, 0) hg]
        rw [← htake, List.getElem?_take] at hj
        split at hj
        · simpa using hj
        · cases hj
      have hrun := Lib.run_append_grow_zeros (P := Try.prog) w 70 3 70 22 i0 (.int .u64 0) .i64 .i64 Try.underlying70 Try.underlying3 hi0 hz0 (some ⟨b, 0, none⟩) 8 cap xs hold 8 (by omega) (by omega) (by omega) (by simp) (by rw [hz2]; omega) (by
        rw [hz2]; unfold Builtin.nextslicecap; split
        · omega
        · rw [if_pos (by omega)]; omega)
      refine ⟨_, _, _, hrun, ?_, ?_⟩
      · intro i u hu
        rw [cell_of_row _ w.heap.size i _ 22 (0, 0) (heap_alloc_new w.drew _)]
        rw [zc8]
        have hi : i < 16 := by
          have := (List.getElem?_eq_some_iff.1 hu).1
          simp [hlen] at this; exact this
        rw [Array.getElem?_append_left (by simp [hlen]; omega)]
        simpa using hu
      · exact ((Below.refl _ _).drew).alloc hbase _
theorem lo32 (x : Int) : H32 (x % 4294967296) := by unfold H32; omega
theorem hi32 (x : Int) (h : W64 x) : H32 (x / 4294967296) := by unfold W64 at h; unfold H32; omega
theorem z32 : H32 0 := by unfold H32; omega
theorem lohi (x : Int) : x % 4294967296 + x / 4294967296 * 4294967296 = x := by omega
theorem zz : (0 : Int) + 0 * 4294967296 = 0 := by omega
set_option maxRecDepth 100000 in
set_option maxHeartbeats 1000000 in
theorem rWiden_any (p q r s : Int) (w : World) (hp : W64 p) (hq : W64 q) (hr : W64 r) (hs : W64 s) :
    Calls Try.prog 22 #[A4 p q r s] w fun e w' => e = .returned (A8 p q r s 0 0 0 0) ∧ Below w.heap.size w w' := by
  have hW := fun (g cap : Nat) (w : World) => wide_any g cap (p % 4294967296) (p / 4294967296) (q % 4294967296) (q / 4294967296) (r % 4294967296) (r / 4294967296) (s % 4294967296) (s / 4294967296) 0 0 0 0 0 0 0 0 w
  simp only [lohi, zz] at hW
  have HW := hW
  clear hW
  have hWW : Hid _ := HW
  clear HW
  go_enter Try.func22, Try.ntmps22
  go_wp2_with fail
  refine (digits_any _ p q r s _ (by unfold C4; simp [go_sem]) hp hq hr hs).mono ?_
  rintro e w1 ⟨b, cap, rfl, hown, hB⟩
  simp only [World.size_alloc] at hown
  obtain ⟨b', cap', w2, hrun, hcells, hB2⟩ := run_app16 w1 _ b cap _ (by have := hB.size; simp at this; omega) hown
  clear hown
  have hR : Hid _ := hrun
  clear hrun
  go_wp2_with (at_builtin; refine Lib.wpList_append_run _ rfl _ _ _ _ rfl _ _ rfl rfl _ _ hR.out ?_)
  refine (hWW.out b' cap' _ (hcells 0 _ rfl) (hcells 1 _ rfl) (hcells 2 _ rfl) (hcells 3 _ rfl) (hcells 4 _ rfl) (hcells 5 _ rfl) (hcells 6 _ rfl) (hcells 7 _ rfl) (hcells 8 _ rfl) (hcells 9 _ rfl) (hcells 10 _ rfl) (hcells 11 _ rfl) (hcells 12 _ rfl) (hcells 13 _ rfl) (hcells 14 _ rfl) (hcells 15 _ rfl) (lo32 p) (hi32 p hp) (lo32 q) (hi32 q hq) (lo32 r) (hi32 r hr) (lo32 s) (hi32 s hs) z32 z32 z32 z32 z32 z32 z32 z32).mono ?_
  rintro e w3 ⟨rfl, hB3⟩
  simp only [World.size_alloc] at hB
  have hsz1 := hB.size
  have hsz2 := hB2.size
  have hsz3 := hB3.size
  simp only [World.size_alloc] at hsz1
  have hall := hB.trans (hB2.trans (hB3.mono (by omega)))
  clear hB hB2 hB3 hcells
  have hcell : ∀ o, w3.cell? ⟨w.heap.size + 1, o, none⟩ = _ := fun o => hall.cell (p := ⟨w.heap.size + 1, o, none⟩) (by show w.heap.size + 1 < w.heap.size + 1 + 1; omega)
  have hfroz : ∀ o, w3.frozen? ⟨w.heap.size + 1, o, none⟩ = _ := fun o => hall.frozen (p := ⟨w.heap.size + 1, o, none⟩) (by show w.heap.size + 1 < w.heap.size + 1 + 1; omega)
  go_wp2
  refine bodyPost_ret (v := A8 p q r s 0 0 0 0) (by simp [results, Try.results22, go_sem, hcell]) rfl ⟨rfl, ?_⟩
  have hB' : Below w.heap.size w w3 := Below.trans (by go_grown) (hall.mono (by omega))
  go_grown
end Go.Proofs.Ytgfggkinmhhdnaa
