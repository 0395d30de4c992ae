/- Cast: sending; what a node tells of itself. -/
import Derived.Test.YthncmahhnbpbkaaKA5
import Derived.Deep.QuietTactic
import Derived.BigQuiet
namespace Go.Proofs.Ythncmahhnbpbkaa
open Go.RowKit Go.ChangeMaps Go.Maps Go.WideMaps
set_option linter.unusedVariables false
set_option linter.unusedSimpArgs false
/-- What is sent: nothing, or one message, in a block of its own. -/
def OutM (lo : Nat) (w : World) (r : Value) : Option (Int × Int × ByteArray) → Prop
  | none => r = .slice none 0 0
  | some (k, f, v) => ∃ b, lo ≤ b ∧ r = .slice (some ⟨b, 0, none⟩) 1 1 ∧ CV w b [.int .i64 k, .int .i64 f, .string v]
theorem cSend_yes (s o : Nat) (k : Int) (v : ByteArray) (w : World) (h1 : w.cell? ⟨s + 6, o + 1, none⟩ = some (.bool true)) :
    Calls Try.prog 31 #[pN s, .int .i64 k, .string v, .pointer (some ⟨s + 6, o, none⟩)] w fun e' w' => e' = .returned (.slice none 0 0) ∧ w' = w := by
  have hc := cChoose_yes (s + 6) o v v w h1
  go_enter Try.func31, Try.ntmps31
  go_wp2_with (first | (go_at_call 33; refine hc.mono ?_; rintro e w1 ⟨rfl, rfl⟩))
  refine bodyPost_ret (v := .slice none 0 0) (by simp [results, Try.results31, go_sem]) rfl ⟨rfl, rfl⟩
theorem cSend_no (s o : Nat) (k me : Int) (z : Value) (v : ByteArray) (w : World) (h0 : w.cell? ⟨s + 6, o, none⟩ = some z) (h1 : w.cell? ⟨s + 6, o + 1, none⟩ = some (.bool false)) (f0 : w.frozen? ⟨s + 6, o, none⟩ = false) (f1 : w.frozen? ⟨s + 6, o + 1, none⟩ = false) (hm : w.cell? ⟨s + 6, 2, none⟩ = some (.int .i64 me)) (ho : 2 < o) :
    Calls Try.prog 31 #[pN s, .int .i64 k, .string v, .pointer (some ⟨s + 6, o, none⟩)] w fun e' w' => e' = .returned (.slice (some ⟨w.heap.size, 0, none⟩) 1 1) ∧ w' = ((w.setCell ⟨s + 6, o, none⟩ (.string v)).setCell ⟨s + 6, o + 1, none⟩ (.bool true)).alloc (.cells #[.int .i64 k, .int .i64 me, .string v] 32) := by
  have hc := cChoose_no (s + 6) o z v w h0 h1 f0 f1
  have hm2 : ((w.setCell ⟨s + 6, o, none⟩ (.string v)).setCell ⟨s + 6, o + 1, none⟩ (.bool true)).cell? ⟨s + 6, 2, none⟩ = some (.int .i64 me) := by
    rw [World.cell?_setCell_other, World.cell?_setCell_other]
    · exact hm
    · intro e; injection e; omega
    · intro e; injection e; omega
  have hs : ((w.setCell ⟨s + 6, o, none⟩ (.string v)).setCell ⟨s + 6, o + 1, none⟩ (.bool true)).heap.size = w.heap.size := by simp
  go_enter Try.func31, Try.ntmps31
  generalize ((w.setCell ⟨s + 6, o, none⟩ (.string v)).setCell ⟨s + 6, o + 1, none⟩ (.bool true)) = u at *
  go_wp2_with (first | (go_at_call 33; refine hc.mono ?_; rintro e w1 ⟨rfl, hu⟩; rw [hu]; clear hu))
  refine bodyPost_ret (v := .slice (some ⟨u.heap.size, 0, none⟩) 1 1) (by simp [results, Try.results31, go_sem]) rfl ⟨by rw [hs], rfl⟩
theorem cValue0 (w : World) : Calls Try.prog 16 #[.pointer none] w fun e' w' => e' = .returned (.tuple #[.string noS, .bool false]) ∧ w' = w := by
  go_enter Try.func16, Try.ntmps16
  go_wp2_with (first | (go_at_call 28; refine (cIsMade0 _).mono ?_; rintro e w1 ⟨rfl, rfl⟩))
  refine bodyPost_ret (v := .tuple #[.string noS, .bool false]) (by simp [results, Try.results16, go_sem]) rfl ⟨rfl, rfl⟩
set_option maxHeartbeats 1000000 in
theorem cValue (b : Nat) (n : Int) (q : ByteArray) (y : Bool) (w : World) (h0 : w.cell? ⟨b, 0, none⟩ = some (.int .i64 n)) (h1 : w.cell? ⟨b, 13, none⟩ = some (.string q)) (h2 : w.cell? ⟨b, 14, none⟩ = some (.bool y)) (hn : 0 < n) : Calls Try.prog 16 #[.pointer (some ⟨b, 0, none⟩)] w fun e' w' => e' = .returned (.tuple #[.string q, .bool y]) ∧ Below w.heap.size w w' := by
  have hc := cIsMade b n w h0
  rw [decide_eq_true hn] at hc
  go_enter Try.func16, Try.ntmps16
  go_upto_region 3 with (first | (go_at_call 28; refine hc.mono ?_; rintro e w1 ⟨rfl, hu⟩; rw [hu]; clear hu))
  go_quiet (fail)
  go_wp2
  refine bodyPost_ret (v := .tuple #[.string q, .bool y]) (by simp [results, Try.results16, go_sem]) rfl ⟨rfl, bdN (bself w) _⟩
theorem cEchoed0 (w : World) : Calls Try.prog 17 #[.pointer none] w fun e' w' => e' = .returned (.tuple #[.string noS, .bool false]) ∧ w' = w := by
  go_enter Try.func17, Try.ntmps17
  go_wp2_with (first | (go_at_call 28; refine (cIsMade0 _).mono ?_; rintro e w1 ⟨rfl, rfl⟩))
  refine bodyPost_ret (v := .tuple #[.string noS, .bool false]) (by simp [results, Try.results17, go_sem]) rfl ⟨rfl, rfl⟩
set_option maxHeartbeats 1000000 in
theorem cEchoed (b : Nat) (n : Int) (q : ByteArray) (y : Bool) (w : World) (h0 : w.cell? ⟨b, 0, none⟩ = some (.int .i64 n)) (h1 : w.cell? ⟨b, 9, none⟩ = some (.string q)) (h2 : w.cell? ⟨b, 10, none⟩ = some (.bool y)) (hn : 0 < n) : Calls Try.prog 17 #[.pointer (some ⟨b, 0, none⟩)] w fun e' w' => e' = .returned (.tuple #[.string q, .bool y]) ∧ Below w.heap.size w w' := by
  have hc := cIsMade b n w h0
  rw [decide_eq_true hn] at hc
  go_enter Try.func17, Try.ntmps17
  go_upto_region 3 with (first | (go_at_call 28; refine hc.mono ?_; rintro e w1 ⟨rfl, hu⟩; rw [hu]; clear hu))
  go_quiet (fail)
  go_wp2
  refine bodyPost_ret (v := .tuple #[.string q, .bool y]) (by simp [results, Try.results17, go_sem]) rfl ⟨rfl, bdN (bself w) _⟩
theorem cReadied0 (w : World) : Calls Try.prog 18 #[.pointer none] w fun e' w' => e' = .returned (.tuple #[.string noS, .bool false]) ∧ w' = w := by
  go_enter Try.func18, Try.ntmps18
  go_wp2_with (first | (go_at_call 28; refine (cIsMade0 _).mono ?_; rintro e w1 ⟨rfl, rfl⟩))
  refine bodyPost_ret (v := .tuple #[.string noS, .bool false]) (by simp [results, Try.results18, go_sem]) rfl ⟨rfl, rfl⟩
set_option maxHeartbeats 1000000 in
theorem cReadied (b : Nat) (n : Int) (q : ByteArray) (y : Bool) (w : World) (h0 : w.cell? ⟨b, 0, none⟩ = some (.int .i64 n)) (h1 : w.cell? ⟨b, 11, none⟩ = some (.string q)) (h2 : w.cell? ⟨b, 12, none⟩ = some (.bool y)) (hn : 0 < n) : Calls Try.prog 18 #[.pointer (some ⟨b, 0, none⟩)] w fun e' w' => e' = .returned (.tuple #[.string q, .bool y]) ∧ Below w.heap.size w w' := by
  have hc := cIsMade b n w h0
  rw [decide_eq_true hn] at hc
  go_enter Try.func18, Try.ntmps18
  go_upto_region 3 with (first | (go_at_call 28; refine hc.mono ?_; rintro e w1 ⟨rfl, hu⟩; rw [hu]; clear hu))
  go_quiet (fail)
  go_wp2
  refine bodyPost_ret (v := .tuple #[.string q, .bool y]) (by simp [results, Try.results18, go_sem]) rfl ⟨rfl, bdN (bself w) _⟩
end Go.Proofs.Ythncmahhnbpbkaa
