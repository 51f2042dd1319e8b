/-
  The reference of layer 13 (configurations): the first rule that doesn't hold, growth, which track fits. Condition: at most 2^47 segments, groups.
-/
import Derived.Test.YtcelmgkjkdbliaaCf
import Derived.Test.YtcelmgkjkdbliaaTkref
namespace Go.Proofs.Ytcelmgkjkdbliaa.Cfref
open Go.ChangeShapes Go.WideShapes Go.ChangeAt Go.RowKit
open Arr Steady Sx Sw Sl Sb Sc Vs Gr Tk Tkh Tkl Cf
set_option linter.unusedVariables false
set_option linter.unusedSimpArgs false
set_option maxRecDepth 100000

end Go.Proofs.Ytcelmgkjkdbliaa.Cfref
