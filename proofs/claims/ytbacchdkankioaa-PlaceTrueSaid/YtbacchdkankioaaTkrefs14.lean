/-
  The helpers of layer 11's laws: a track as the document has it (a copy, its pieces in an open number of rows); is it too great.
-/
import Derived.Test.YtbacchdkankioaaMtk
namespace Go.Proofs.Ytbacchdkankioaa.Tkrefs14
open Go.ChangeShapes Go.WideShapes Go.ChangeAt Go.RowKit
open Arr Steady Sx Sw Sl Sb Sc Sh Vs Gr Tk Tkh
set_option linter.unusedVariables false
set_option linter.unusedSimpArgs false
set_option maxRecDepth 100000

end Go.Proofs.Ytbacchdkankioaa.Tkrefs14
