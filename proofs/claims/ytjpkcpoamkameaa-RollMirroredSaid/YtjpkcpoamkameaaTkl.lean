/-
  Tracks, further: the check tells just what may be; a track without its last groups; where a group's Id would stand. No program.
-/
import Derived.Test.YtjpkcpoamkameaaTkh
namespace Go.Proofs.Ytjpkcpoamkameaa.Tkl
open Go.ChangeShapes Go.WideShapes Go.ChangeAt Go.RowKit
open Arr Steady Sx Sw Sl Sb Sc Sh Vs Gr Tk Tkh
set_option linter.unusedVariables false
set_option linter.unusedSimpArgs false

/-! ### Where an Id stands -/
end Go.Proofs.Ytjpkcpoamkameaa.Tkl
