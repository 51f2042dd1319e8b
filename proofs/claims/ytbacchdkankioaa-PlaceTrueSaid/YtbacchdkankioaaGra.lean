/-
  Package grade. Conditions: at most 2^47 pieces; At, Bounds: pieces that may be those of a length.
-/
import Derived.Test.YtbacchdkankioaaGref
import Derived.Test.YtbacchdkankioaaSpn
import Derived.Test.YtbacchdkankioaaGrm
import Derived.Test.YtbacchdkankioaaFns
namespace Go.Proofs.Ytbacchdkankioaa.Gra
open Go.ChangeShapes Go.WideShapes Go.ChangeAt Go.RowKit
open Arr Steady Sx Sw Sl Sb Sc Vs Gr Grm Spn Fns
set_option linter.unusedVariables false
set_option linter.unusedSimpArgs false
set_option maxRecDepth 100000

end Go.Proofs.Ytbacchdkankioaa.Gra
