/- LimbTells: the walk. -/
import Derived.Test.YtajpjbhppjlehaaWk
import Derived.Test.YtajpjbhppjlehaaB4
import Derived.Test.YtajpjbhppjlehaaB5
import Derived.Test.YtajpjbhppjlehaaB10
import Derived.Deep.RegionHeld3
namespace Go.Proofs.Ytajpjbhppjlehaa
open Go.RowKit
set_option linter.unusedSimpArgs false
set_option linter.unusedVariables false

set_option maxRecDepth 100000 in
set_option maxHeartbeats 4000000 in
theorem limbTells_any (a b c d i : Int) (w : World) (ha : W64 a) (hb : W64 b) (hc : W64 c) (hd : W64 d) :
    Calls Try.prog 5 #[A4 a b c d, .int .i64 i] w fun e w' => e = .returned (.bool true) ∧ Below w.heap.size w w' := by
  go_enter Try.func5, Try.ntmps5
  go_wp2
  have st0 : K4 (w.alloc (.cells #[.int .u64 a, .int .u64 b, .int .u64 c, .int .u64 d] 24)) w.heap.size a b c d := (C4.new w a b c d 24).1
  have s5 : w.heap.size < (w.alloc (.cells #[.int .u64 a, .int .u64 b, .int .u64 c, .int .u64 d] 24)).heap.size := by simp
  have q5 : Below w.heap.size w (w.alloc (.cells #[.int .u64 a, .int .u64 b, .int .u64 c, .int .u64 d] 24)) := balloc (bself w) _
  generalize w.alloc (.cells #[.int .u64 a, .int .u64 b, .int .u64 c, .int .u64 d] 24) = u at *
  have st : Hid (K4 u w.heap.size a b c d ∧ w.heap.size < u.heap.size) := ⟨st0, s5⟩
  clear st0
  go_region_held3 (fun u' => K4 u' w.heap.size a b c d ∧ w.heap.size < u'.heap.size)
    (first | exact keep1 hB (by omega) (by assumption) | exact st.out | assumption)
    (first
      | (go_at_call 22; refine (length_any a b c d _ ha hb hc hd).mono ?_; rintro e u1 ⟨rfl, hB⟩)
      | (go_at_call 23; refine (rLength_any a b c d _ ha hb hc hd).mono ?_; rintro e u1 ⟨rfl, hB⟩)
      | (go_at_call 24; refine (Bit_any a b c d i _ ha hb hc hd).mono ?_; rintro e u1 ⟨rfl, hB⟩)
      | (go_at_call 25; refine (rBit_any a b c d i _ ha hb hc hd).mono ?_; rintro e u1 ⟨rfl, hB⟩)
      | (go_at_call 27; refine (Bytes_any a b c d _ ha hb hc hd).mono ?_; rintro e u1 ⟨g, rfl, hC1, hg1, hg2, hB⟩)
      | (go_at_call 28; refine (rBytes_any a b c d _ ha hb hc hd).mono ?_; rintro e u1 ⟨g', rfl, hC2, hg3, hg4, hB⟩; have hC3 := hC1.below hB hg2)
      | (go_at_call 26; refine (same_any _ _ a b c d _ hC3 hC2).mono ?_; rintro e u1 ⟨rfl, rfl⟩)
      | (go_at_call 29; refine (Text_any a b c d _ ha hb hc hd).mono ?_; rintro e u1 ⟨rfl, hB⟩)
      | (go_at_call 30; refine (rText_any a b c d _ ha hb hc hd).mono ?_; rintro e u1 ⟨rfl, hB⟩)
      | (go_at_call 31; refine (of_any a _).mono ?_; rintro e u1 ⟨rfl, hB⟩)
      | (go_at_call 17; refine (works_any _).mono ?_; rintro e u1 ⟨rfl, hB⟩))
  go_wp2
  go_ret
  refine ⟨rfl, ?_⟩
  refine bstep ?_ hB
  refine bstep ?_ (by assumption)
  refine bstep ?_ (by assumption)
  refine bstep ?_ (by assumption)
  refine bstep ?_ (by assumption)
  refine bstep ?_ (by assumption)
  refine bstep ?_ (by assumption)
  refine bstep ?_ (by assumption)
  refine bstep ?_ (by assumption)
  refine bstep ?_ (by assumption)
  exact Below.drew q5
end Go.Proofs.Ytajpjbhppjlehaa
