/-
  Contract of package wide: the root, told of natural numbers. Condition: halves below 2^64.
-/
import Derived.Test.YtcelmgkjkdbliaaWshift
import Derived.Test.YtcelmgkjkdbliaaSteady
namespace Go.Proofs.Ytcelmgkjkdbliaa.Wide
open Go.ChangeShapes Go.WideShapes Go.ChangeAt Go.RowKit
open Arr Bt Steady
set_option linter.unusedVariables false
set_option maxRecDepth 100000

theorem cmp_le {n m : Nat} : Ref.cmpN m n ≤ 0 ↔ m ≤ n := by
  unfold Ref.cmpN
  split
  · omega
  · split <;> omega
end Go.Proofs.Ytcelmgkjkdbliaa.Wide
