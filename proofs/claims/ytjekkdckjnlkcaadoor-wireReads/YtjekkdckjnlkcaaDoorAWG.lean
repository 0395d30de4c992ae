/- The chapter's example; WireInts. -/
import Derived.Test.YtjekkdckjnlkcaaDoorAWF
import Derived.Test.YtjekkdckjnlkcaaDoorWC
namespace Go.Proofs.YtjekkdckjnlkcaaDoor
open Go.RowKit
set_option linter.unusedVariables false
set_option linter.unusedSimpArgs false
theorem bs78 (w : World) : (Instr.buildSlice 24 2 #[(0, .int .u8 7), (1, .int .u8 8)]).run Tryd.prog w = .ok (.slice (some ⟨w.heap.size, 0, none⟩) 2 2) (w.alloc (.cells (U8 [7, 8]).toArray 5)) := by kernel_rfl
theorem bsFF (sl : Option Addr) (n c : Nat) (w : World) : (Instr.buildSlice 22 2 #[(0, .agg #[.int .i64 1, .slice sl n c]), (1, .agg #[.int .i64 3, .slice none 0 0])]).run Tryd.prog w = .ok (.slice (some ⟨w.heap.size, 0, none⟩) 2 2) (w.alloc (.cells #[.int .i64 1, .slice sl n c, .int .i64 3, .slice none 0 0] 54)) := by kernel_rfl
theorem bs8w (w : World) : (Instr.buildSlice 24 8 #[(0, .int .u8 1), (1, .int .u8 0), (2, .int .u8 2), (3, .int .u8 7), (4, .int .u8 8), (5, .int .u8 3), (6, .int .u8 0), (7, .int .u8 0)]).run Tryd.prog w = .ok (.slice (some ⟨w.heap.size, 0, none⟩) 8 8) (w.alloc (.cells (U8 [1, 0, 2, 7, 8, 3, 0, 0]).toArray 5)) := by kernel_rfl
def exWF : List FldI := [(1, [7, 8]), (3, [])]
def exWB : List Nat := [1, 0, 2, 7, 8, 3, 0, 0]
theorem exWF_put : putE exWF = 0 ∧ putX exWF = exWB := by decide +kernel
theorem exWB_read : readE exWB = 0 ∧ readX exWB = exWF := by decide +kernel
theorem exWF_ok : fldOk exWF := by
  refine ⟨by decide, fun f hf => ?_⟩
  simp [exWF] at hf
  rcases hf with rfl | rfl
  · exact ⟨by decide, by decide, by decide, by decide⟩
  · exact ⟨by decide, by decide, by decide, by decide⟩
theorem exWB_ok : bytOk exWB := ⟨by decide, by decide⟩
theorem exWF_vf (w : World) : VF ((w.alloc (.cells (U8 [7, 8]).toArray 5)).alloc (.cells #[.int .i64 1, .slice (some ⟨w.heap.size, 0, none⟩) 2 2, .int .i64 3, .slice none 0 0] 54)) (.slice (some ⟨(w.alloc (.cells (U8 [7, 8]).toArray 5)).heap.size, 0, none⟩) 2 2) exWF := by
  have hB := balloc (bself (w.alloc (.cells (U8 [7, 8]).toArray 5))) (.cells #[.int .i64 1, .slice (some ⟨w.heap.size, 0, none⟩) 2 2, .int .i64 3, .slice none 0 0] 54)
  have hc := CV.new (w.alloc (.cells (U8 [7, 8]).toArray 5)) [.int .i64 1, .slice (some ⟨w.heap.size, 0, none⟩) 2 2, .int .i64 3, .slice none 0 0] 54
  have hu := (CV.new w (U8 [7, 8]) 5).below hB (by simp)
  refine ⟨_, 2, (w.alloc (.cells (U8 [7, 8]).toArray 5)).heap.size, 0, rfl, by decide, .inr rfl, by simp, fun i f hf => ?_⟩
  match i, hf with
  | 0, hf =>
    simp [exWF] at hf; subst hf
    refine ⟨(hc 0 _ rfl).1, _, (hc 1 _ rfl).1, _, 2, w.heap.size, 0, rfl, by decide, .inr rfl, by simp; omega, fun j hj => ?_⟩
    rw [Nat.zero_add]; exact (hu j _ (U8_get [7, 8] j hj)).1
  | 1, hf =>
    simp [exWF] at hf; subst hf
    exact ⟨(hc 2 _ rfl).1, _, (hc 3 _ rfl).1, none, 0, 0, 0, rfl, by decide, .inl rfl, by simp, fun j hj => by simp at hj⟩
  | i + 2, hf => simp [exWF] at hf
set_option maxRecDepth 100000 in
set_option maxHeartbeats 4000000 in
theorem works8 (w : World) (hP : WPut w) (hR : WRead w) : WWorks w := fun u hB => by
  have hb1 := bs78
  have hb2 := bsFF
  have hb3 := bs8w
  have hBx : Below u.heap.size u ((u.alloc (.cells (U8 [7, 8]).toArray 5)).alloc (.cells #[.int .i64 1, .slice (some ⟨u.heap.size, 0, none⟩) 2 2, .int .i64 3, .slice none 0 0] 54)) := balloc (balloc (bself u) _) _
  have es : (u.alloc (.cells (U8 [7, 8]).toArray 5)).heap.size = u.heap.size + 1 := by simp
  have hvf := exWF_vf u
  rw [es] at hvf
  have h1 : Calls Tryd.prog 10 #[.slice (some ⟨u.heap.size + 1, 0, none⟩) 2 2] ((u.alloc (.cells #[.int .u8 7, .int .u8 8] 5)).alloc (.cells #[.int .i64 1, .slice (some ⟨u.heap.size, 0, none⟩) 2 2, .int .i64 3, .slice none 0 0] 54)) _ := hP _ _ exWF (bstep hB hBx) hvf exWF_ok
  rw [exWF_put.1, exWF_put.2] at h1
  go_enter Tryd.func15, Tryd.ntmps15
  go_wp2_with (first
    | (go_at_call 10; refine h1.mono ?_; clear h1; rintro e ua ⟨va, rfl, ⟨ya, rfl, hya⟩, hBa⟩; have hBwa := bstep hBx hBa; have h2 := hR ua ya exWB (bstep hB hBwa) hya exWB_ok; rw [exWB_read.1, exWB_read.2] at h2)
    | (go_at_call 18; refine h2.mono ?_; clear h2; rintro e ub ⟨vb, rfl, ⟨yb, rfl, hyb⟩, hBb⟩; have hBwb := bstep hBwa hBb; obtain ⟨sb, cb, gb, ob, rfl, _⟩ := hyb; have hBz : Below ub.heap.size ub (ub.alloc (.cells (U8 [1, 0, 2, 7, 8, 3, 0, 0]).toArray 5)) := balloc (bself ub) _; have h3 := cSameT (u := ub.alloc (.cells (U8 [1, 0, 2, 7, 8, 3, 0, 0]).toArray 5)) (v2 := .slice (some ⟨ub.heap.size, 0, none⟩) 8 8) (hya.up (bstep hBb hBz)) ⟨_, 8, ub.heap.size, 0, rfl, by decide, .inr rfl, by simp, fun j hj => by rw [Nat.zero_add]; exact (CV.new ub (U8 [1, 0, 2, 7, 8, 3, 0, 0]) 5 j _ (U8_get [1, 0, 2, 7, 8, 3, 0, 0] j hj)).1⟩ exWB_ok.2)
    | (go_at_call 14; refine h3.mono ?_; clear h3; rintro e uc ⟨rfl, hBc⟩))
  exact bodyPost_ret (v := .bool true) (by simp [results, Tryd.results15, go_sem]) rfl ⟨rfl, bstep (bstep hBwb hBz) hBc⟩
end Go.Proofs.YtjekkdckjnlkcaaDoor
