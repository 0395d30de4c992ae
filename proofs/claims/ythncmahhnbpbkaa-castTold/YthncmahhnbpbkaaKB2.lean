/- Cast: the law's example. -/
import Derived.Test.YthncmahhnbpbkaaKP0
namespace Go.Proofs.Ythncmahhnbpbkaa
open Go.RowKit Go.ChangeMaps Go.Maps Go.WideMaps
set_option linter.unusedVariables false
set_option linter.unusedSimpArgs false
/-- Messages of a kind from the first nodes, one behind the other. -/
def rn (x : Nd) (k : Int) (v : ByteArray) : Nat → Nd × Option (Int × Int × ByteArray)
  | 0 => (x, none)
  | i + 1 => (rn x k v i).1.take k ((i : Int) + 1) v
abbrev vV : ByteArray := ⟨#[118]⟩
def wx0 : Nd := Nd.new 4 1 2 1
def wx1 : Nd := (wx0.take 1 1 vV).1
def wx2 : Nd := (rn wx1 2 vV 3).1
def wx3 : Nd := (rn wx2 3 vV 3).1
theorem rn_wf {x : Nd} (h : NWF x) (k : Int) (v : ByteArray) : ∀ i, NWF (rn x k v i).1 ∧ (rn x k v i).1.n = x.n
  | 0 => ⟨h, rfl⟩
  | i + 1 => by
    obtain ⟨h1, h2⟩ := rn_wf h k v i
    have := take_stp h1 k ((i : Int) + 1) v
    exact ⟨this.wf, this.n.trans h2⟩
theorem wx0_wf : NWF wx0 := NWF.new (by decide)
theorem wx1_wf : NWF wx1 := (take_stp wx0_wf 1 1 vV).wf
theorem wx2_wf : NWF wx2 := (rn_wf wx1_wf 2 vV 3).1
theorem wx3_wf : NWF wx3 := (rn_wf wx2_wf 3 vV 3).1
theorem wo1 : (wx0.take 1 1 vV).2 = some (2, 2, vV) := by decide +kernel
theorem wo2 : (rn wx1 2 vV 3).2 = some (3, 2, vV) := by decide +kernel
theorem wo3 : wx3.d = some vV := by decide +kernel
theorem wn3 : wx3.n = 4 := by decide +kernel
theorem OutM.kp {lo s : Nat} {w u : World} {r : Value} {o : Option (Int × Int × ByteArray)} (h : OutM lo w r o) (hk : Kp s (s + 7) w u) (hl : s + 7 ≤ lo) : OutM lo u r o := by
  cases o with
  | none => exact h
  | some q =>
    obtain ⟨b, h1, h2, h3⟩ := h
    exact ⟨b, h1, h2, h3.kp hk (h3.lt (by simp)) (.inr (by omega))⟩
end Go.Proofs.Ythncmahhnbpbkaa
