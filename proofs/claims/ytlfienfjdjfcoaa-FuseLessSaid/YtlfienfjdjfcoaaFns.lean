/-
  Calls of function values, in the walks of Sx and Sw. No condition.
-/
import Derived.Test.YtlfienfjdjfcoaaSc
import Derived.Shelf.Abstract
namespace Go.Proofs.Ytlfienfjdjfcoaa.Fns
open Go.ChangeShapes Go.WideShapes Go.ChangeAt Go.RowKit
open Arr Steady Sx Sw Sl Sb Sc
set_option linter.unusedVariables false
set_option linter.unusedSimpArgs false

section
variable {P : Program} {o : Oper} {a : Act} {x y : Operand} {t t' : TypeId}
end
end Go.Proofs.Ytlfienfjdjfcoaa.Fns
