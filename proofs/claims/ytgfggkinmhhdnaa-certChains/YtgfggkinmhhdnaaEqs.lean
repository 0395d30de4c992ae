/- What '==' says of two arrays of words. -/
import Derived.Test.YtgfggkinmhhdnaaProg
import Derived.Test.YtgfggkinmhhdnaaP1
import Derived.WalkKit
import Derived.WalkSpells
import Derived.WalkLawsBesides
namespace Go.Proofs.Ytgfggkinmhhdnaa
open Go.RowKit
set_option linter.unusedSimpArgs false
set_option linter.unusedVariables false

abbrev A4 (a b c d : Int) : Value := .agg #[.int .u64 a, .int .u64 b, .int .u64 c, .int .u64 d]
abbrev A8 (a b c d e f g h : Int) : Value := .agg #[.int .u64 a, .int .u64 b, .int .u64 c, .int .u64 d, .int .u64 e, .int .u64 f, .int .u64 g, .int .u64 h]
def eq4 (a b c d x y z t : Int) : Bool := a == x && b == y && c == z && d == t
def eq8 (a b c d e f g h a' b' c' d' e' f' g' h' : Int) : Bool := a == a' && b == b' && c == c' && d == d' && e == e' && f == f' && g == g' && h == h'
@[go_sem] theorem eq4_same (a b c d : Int) : eq4 a b c d a b c d = true := by simp [eq4]
@[go_sem] theorem eq8_same (a b c d e f g h : Int) : eq8 a b c d e f g h a b c d e f g h = true := by simp [eq8]
theorem eq4_iff (a b c d x y z t : Int) : eq4 a b c d x y z t = true ↔ a = x ∧ b = y ∧ c = z ∧ d = t := by simp [eq4, and_assoc]
theorem eq4_V (a b c d x y z t : Int) (ha : W64 a) (hb : W64 b) (hc : W64 c) (hd : W64 d) (hx : W64 x) (hy : W64 y) (hz : W64 z) (ht : W64 t) : eq4 a b c d x y z t = true ↔ V a b c d = V x y z t := by
  rw [eq4_iff]
  constructor
  · rintro ⟨rfl, rfl, rfl, rfl⟩; rfl
  · exact V_inj a b c d x y z t ha hb hc hd hx hy hz ht
set_option maxHeartbeats 1000000 in
@[go_sem] theorem eqn24 (a b c d x y z t : Int) (w : World) : (Op.equalIn 10000 24 (A4 a b c d) (A4 x y z t)).run Try.prog w = .ok (eq4 a b c d x y z t) w := by
  have u3 := Try.underlying22
  have a3 := Try.isAgg22
  have z3 := Try.sizeOf22
  unfold eq4
  rw [show (10000 : Nat) = 9999 + 1 from rfl, Op.equalIn]
  simp only [Sem.run_bind, run_underlying Try.underlying24, Result.andThen_ok]
  simp only [Std.Legacy.Range.forIn_eq_forIn_range', Std.Legacy.Range.size, Nat.sub_zero, Nat.add_sub_cancel, Nat.div_one, List.range'_succ, List.range'_zero, List.forIn_cons, List.forIn_nil]
  go_simp
  by_cases h1 : a = x <;> by_cases h2 : b = y <;> by_cases h3 : c = z <;> by_cases h4 : d = t <;> simp [h1, h2, h3, h4]
set_option maxHeartbeats 4000000 in
@[go_sem] theorem eqn29 (a b c d e f g h a' b' c' d' e' f' g' h' : Int) (w : World) : (Op.equalIn 10000 45 (A8 a b c d e f g h) (A8 a' b' c' d' e' f' g' h')).run Try.prog w = .ok (eq8 a b c d e f g h a' b' c' d' e' f' g' h') w := by
  have u3 := Try.underlying22
  have a3 := Try.isAgg22
  have z3 := Try.sizeOf22
  unfold eq8
  rw [show (10000 : Nat) = 9999 + 1 from rfl, Op.equalIn]
  simp only [Sem.run_bind, run_underlying Try.underlying45, Result.andThen_ok]
  simp only [Std.Legacy.Range.forIn_eq_forIn_range', Std.Legacy.Range.size, Nat.sub_zero, Nat.add_sub_cancel, Nat.div_one, List.range'_succ, List.range'_zero, List.forIn_cons, List.forIn_nil]
  go_simp
  by_cases h1 : a = a'
  all_goals by_cases h2 : b = b'
  all_goals by_cases h3 : c = c'
  all_goals by_cases h4 : d = d'
  all_goals by_cases h5 : e = e'
  all_goals by_cases h6 : f = f'
  all_goals by_cases h7 : g = g'
  all_goals by_cases h8 : h = h'
  all_goals simp [h1, h2, h3, h4, h5, h6, h7, h8]
end Go.Proofs.Ytgfggkinmhhdnaa
