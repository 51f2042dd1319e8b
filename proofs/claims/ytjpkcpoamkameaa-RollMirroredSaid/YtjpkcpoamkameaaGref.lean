/-
  The reference of layer 10 (grades), and the law's own helper. Condition: at most 2^47 pieces (refs: a million).
-/
import Derived.Test.YtjpkcpoamkameaaGr
namespace Go.Proofs.Ytjpkcpoamkameaa.Gref
open Go.ChangeShapes Go.WideShapes Go.ChangeAt Go.RowKit
open Arr Steady Sx Sw Sl Sb Sc Vs Gr
set_option linter.unusedVariables false
set_option linter.unusedSimpArgs false
set_option maxRecDepth 100000

end Go.Proofs.Ytjpkcpoamkameaa.Gref
