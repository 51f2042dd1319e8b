/-
  The reference of layer 11 (tracks): which may be, the grades of all, what comes behind what. Condition: at most 2^47 of each.
-/
import Derived.Test.YtjpkcpoamkameaaTk
import Derived.Test.YtjpkcpoamkameaaGref
namespace Go.Proofs.Ytjpkcpoamkameaa.Tkref
open Go.ChangeShapes Go.WideShapes Go.ChangeAt Go.RowKit
open Arr Steady Sx Sw Sl Sb Sc Vs Gr Gref Tk
set_option linter.unusedVariables false
set_option linter.unusedSimpArgs false
set_option maxRecDepth 100000

end Go.Proofs.Ytjpkcpoamkameaa.Tkref
