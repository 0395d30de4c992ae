/- HMAC: whole keys, and HMAC of parts. -/
import Derived.Test.YtlcjbnhfmcnnfaaDoorMC1
import Derived.Test.YtlcjbnhfmcnnfaaDoorSHB
namespace Go.Proofs.YtlcjbnhfmcnnfaaDoor
open Go.RowKit
set_option linter.unusedVariables false
set_option linter.unusedSimpArgs false
abbrev Z64b : List Value := [.int .u8 0, .int .u8 0, .int .u8 0, .int .u8 0, .int .u8 0, .int .u8 0, .int .u8 0, .int .u8 0, .int .u8 0, .int .u8 0, .int .u8 0, .int .u8 0, .int .u8 0, .int .u8 0, .int .u8 0, .int .u8 0, .int .u8 0, .int .u8 0, .int .u8 0, .int .u8 0, .int .u8 0, .int .u8 0, .int .u8 0, .int .u8 0, .int .u8 0, .int .u8 0, .int .u8 0, .int .u8 0, .int .u8 0, .int .u8 0, .int .u8 0, .int .u8 0, .int .u8 0, .int .u8 0, .int .u8 0, .int .u8 0, .int .u8 0, .int .u8 0, .int .u8 0, .int .u8 0, .int .u8 0, .int .u8 0, .int .u8 0, .int .u8 0, .int .u8 0, .int .u8 0, .int .u8 0, .int .u8 0, .int .u8 0, .int .u8 0, .int .u8 0, .int .u8 0, .int .u8 0, .int .u8 0, .int .u8 0, .int .u8 0, .int .u8 0, .int .u8 0, .int .u8 0, .int .u8 0, .int .u8 0, .int .u8 0, .int .u8 0, .int .u8 0]
theorem rep64 (n : Nat) (h : n ≤ 64) : U8 z64 = RBm [] (U8 (List.replicate n 0)) (U8 (List.replicate (64 - n) 0)) := by
  show U8 (List.replicate 64 0) = [] ++ U8 (List.replicate n 0) ++ U8 (List.replicate (64 - n) 0)
  rw [List.nil_append, ← U8_app, List.replicate_append_replicate, show n + (64 - n) = 64 by omega]
theorem rbm_app (ks es : List Nat) : RBm [] (U8 ks) (U8 es) = U8 (ks ++ es) := by
  show [] ++ U8 ks ++ U8 es = _
  rw [List.nil_append, U8_app]
end Go.Proofs.YtlcjbnhfmcnnfaaDoor
