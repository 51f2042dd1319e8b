/-
  The reference's numbers of 128 bits: Of and bits of the law. Conditions: halves below 2^64.
-/
import Derived.Test.YtcelmgkjkdbliaaBt
import Derived.Deep.QuietTactic
import Derived.BigQuiet
import Derived.LoopTactic
import Derived.Handy
import Derived.Deep.DeepCutAuto
import Derived.Deep.WholeRow
namespace Go.Proofs.Ytcelmgkjkdbliaa.Ref
open Go.ChangeShapes Go.WideShapes Go.ChangeAt Go.RowKit
open Arr Bt
set_option linter.unusedVariables false

/-- 128 cells of 0. -/
def zs : Array Value := ints 128 (fun _ => 0)
end Go.Proofs.Ytcelmgkjkdbliaa.Ref
