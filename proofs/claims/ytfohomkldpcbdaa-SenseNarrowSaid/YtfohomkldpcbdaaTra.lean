/-
  Package track. Conditions: at most 2^47 of each; Find, Grades: a track that may be.
-/
import Derived.Test.YtfohomkldpcbdaaTkm
import Derived.Test.YtfohomkldpcbdaaGra
import Derived.Test.YtfohomkldpcbdaaFns
namespace Go.Proofs.Ytfohomkldpcbdaa.Tra
open Go.ChangeShapes Go.WideShapes Go.ChangeAt Go.RowKit
open Arr Steady Sx Sw Sl Sb Sc Vs Gr Grm Spn Fns Tk Tkl Tkm
set_option linter.unusedVariables false
set_option linter.unusedSimpArgs false
set_option maxRecDepth 100000

end Go.Proofs.Ytfohomkldpcbdaa.Tra
