/-
  The reference of layer 14 (routes): where a group lies on the routes, the grades at some places. Conditions: a track that may be, at most 16 routes over its segments.
-/
import Derived.Test.YtbacchdkankioaaMrt
import Derived.Test.YtbacchdkankioaaRtref
import Derived.Test.YtbacchdkankioaaGref
namespace Go.Proofs.Ytbacchdkankioaa.Rtplc
open Go.ChangeShapes Go.WideShapes Go.ChangeAt Go.RowKit
open Arr Steady Sx Sw Sl Sb Sc Si Sj Sk Sh Vs Gr Tk Tkh Tkl Rt Rtm Rtg Rtp Rtref
set_option linter.unusedVariables false
set_option linter.unusedSimpArgs false
set_option maxRecDepth 100000

end Go.Proofs.Ytbacchdkankioaa.Rtplc
