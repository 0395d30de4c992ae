/- Cast: whether there can be such a message; counting one. -/
import Derived.Test.YthncmahhnbpbkaaKA2
import Derived.Deep.QuietTactic
import Derived.Deep.RegionWith
import Derived.BigQuiet
namespace Go.Proofs.Ythncmahhnbpbkaa
open Go.RowKit Go.ChangeMaps Go.Maps Go.WideMaps
set_option linter.unusedVariables false
set_option linter.unusedSimpArgs false
theorem bdN {m : Nat} {a b : World} (h : Below m a b) (k : Nat) : Below m a (b.drewN k) := ⟨h.os, h.tape, h.output, h.size, h.block⟩
/-- Whether there can be such a message. -/
def mb (x : Nd) (k f : Int) (v : ByteArray) : Bool := decide (((k = 1 ∧ f = x.dl) ∨ k = 2 ∨ k = 3) ∧ 1 ≤ f ∧ f ≤ x.n ∧ v.size ≤ 4096)
theorem ent_isNode (vs : Array Value) (w : World) : (callFunc 26 vs).run Try.prog w = .ok (.enter 26 vs) w := by kernel_rfl
set_option maxHeartbeats 1000000 in
theorem cMayBe (s : Nat) (x : Nd) (k f : Int) (v : ByteArray) (w : World) (hv : v.size ≤ maxLen) (hC : CV w (s + 6) (nC s x)) :
    Calls Try.prog 29 #[pN s, MX k f v] w fun e' w' => e' = .returned (.bool (mb x k f v)) ∧ Below w.heap.size w w' := by
  go_enter Try.func29, Try.ntmps29
  go_upto_region 1 with fail
  have hB0 : Below w.heap.size w (w.alloc (.cells #[.int .i64 k, .int .i64 f, .string v] 32)) := balloc (bself w) _
  have hm : CV (w.alloc (.cells #[.int .i64 k, .int .i64 f, .string v] 32)) w.heap.size [.int .i64 k, .int .i64 f, .string v] := CV.new w [.int .i64 k, .int .i64 f, .string v] _
  have ls := hC.lt (by simp)
  have hx := hC.below hB0 ls
  generalize (w.alloc (.cells #[.int .i64 k, .int .i64 f, .string v] 32)) = v0 at *
  have m0 := (hm 0 _ rfl).1
  have m1 := (hm 1 _ rfl).1
  have m2 := (hm 2 _ rfl).1
  have x0 := (hx 0 _ rfl).1
  have x3 := (hx 3 _ rfl).1
  clear hm hx hC
  have hsz : (decide ((v.size : Int) ≤ 4096)) = decide (v.size ≤ 4096) := by congr 1; apply propext; omega
  have tail : ∀ (b : Bool), decide (1 ≤ f ∧ f ≤ x.n) = b → ∀ u, Calls Try.prog 26 #[.int .i64 x.n, .int .i64 f] u fun e u' => e = .returned (.bool b) ∧ u' = u := fun b hb u => hb ▸ cIsNode x.n f u
  by_cases hn : 1 ≤ f ∧ f ≤ x.n
  · have hcn := tail true (by simpa using hn)
    clear tail
    by_cases k1 : k = 1
    · subst k1
      by_cases k2 : f = x.dl
      · subst k2
        go_upto_region 7 with (go_quiet (fail))
        go_quiet (first | (go_at_call 26; refine (hcn _).mono ?_; rintro e u ⟨rfl, rfl⟩; exact ⟨rfl, _, rfl⟩))
        go_wp2
        refine bodyPost_ret (v := (.bool (decide ((v.size : Int) ≤ 4096)))) (by simp [results, Try.results29, go_sem]; omega) rfl ⟨by rw [hsz]; simp [mb, hn], bdN (bdN hB0 _) _⟩
      · go_upto_region 6 with (go_quiet (fail))
        go_wp2
        refine bodyPost_ret (v := .bool false) (by simp [results, Try.results29, go_sem]) rfl ⟨by simp [mb]; omega, bdN hB0 _⟩
    by_cases k3 : k = 2
    · · subst k3
        go_upto_region 7 with fail
        go_quiet (first | (go_at_call 26; refine (hcn _).mono ?_; rintro e u ⟨rfl, rfl⟩; exact ⟨rfl, _, rfl⟩))
        go_wp2
        refine bodyPost_ret (v := (.bool (decide ((v.size : Int) ≤ 4096)))) (by simp [results, Try.results29, go_sem]; omega) rfl ⟨by rw [hsz]; simp [mb, hn], bdN hB0 _⟩
    by_cases k4 : k = 3
    · · subst k4
        go_upto_region 7 with fail
        go_quiet (first | (go_at_call 26; refine (hcn _).mono ?_; rintro e u ⟨rfl, rfl⟩; exact ⟨rfl, _, rfl⟩))
        go_wp2
        refine bodyPost_ret (v := (.bool (decide ((v.size : Int) ≤ 4096)))) (by simp [results, Try.results29, go_sem]; omega) rfl ⟨by rw [hsz]; simp [mb, hn], bdN hB0 _⟩
    · go_wp2
      refine bodyPost_ret (v := .bool false) (by simp [results, Try.results29, go_sem]) rfl ⟨by simp [mb]; omega, hB0⟩
  · have hcn := tail false (by simpa using hn)
    clear tail
    by_cases k1 : k = 1
    · subst k1
      by_cases k2 : f = x.dl
      · subst k2
        go_upto_region 7 with (go_quiet (fail))
        go_quiet (first | (go_at_call 26; refine (hcn _).mono ?_; rintro e u ⟨rfl, rfl⟩; exact ⟨rfl, _, rfl⟩))
        go_wp2
        refine bodyPost_ret (v := (.bool false)) (by simp [results, Try.results29, go_sem]) rfl ⟨by simp [mb]; omega, bdN (bdN hB0 _) _⟩
      · go_upto_region 6 with (go_quiet (fail))
        go_wp2
        refine bodyPost_ret (v := .bool false) (by simp [results, Try.results29, go_sem]) rfl ⟨by simp [mb]; omega, bdN hB0 _⟩
    by_cases k3 : k = 2
    · · subst k3
        go_upto_region 7 with fail
        go_quiet (first | (go_at_call 26; refine (hcn _).mono ?_; rintro e u ⟨rfl, rfl⟩; exact ⟨rfl, _, rfl⟩))
        go_wp2
        refine bodyPost_ret (v := (.bool false)) (by simp [results, Try.results29, go_sem]) rfl ⟨by simp [mb]; omega, bdN hB0 _⟩
    by_cases k4 : k = 3
    · · subst k4
        go_upto_region 7 with fail
        go_quiet (first | (go_at_call 26; refine (hcn _).mono ?_; rintro e u ⟨rfl, rfl⟩; exact ⟨rfl, _, rfl⟩))
        go_wp2
        refine bodyPost_ret (v := (.bool false)) (by simp [results, Try.results29, go_sem]) rfl ⟨by simp [mb]; omega, bdN hB0 _⟩
    · go_wp2
      refine bodyPost_ret (v := .bool false) (by simp [results, Try.results29, go_sem]) rfl ⟨by simp [mb]; omega, hB0⟩
end Go.Proofs.Ythncmahhnbpbkaa
