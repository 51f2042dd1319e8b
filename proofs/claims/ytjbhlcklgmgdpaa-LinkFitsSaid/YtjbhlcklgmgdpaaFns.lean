/-
  Calls of function values, in the walks of Sx and Sw. No condition.
-/
import Derived.Test.YtjbhlcklgmgdpaaSc
import Derived.Shelf.Abstract
namespace Go.Proofs.Ytjbhlcklgmgdpaa.Fns
open Go.ChangeShapes Go.WideShapes Go.ChangeAt Go.RowKit
open Arr Steady Sx Sw Sl Sb Sc
set_option linter.unusedVariables false
set_option linter.unusedSimpArgs false

theorem below_two {w W W2 : World} (h : Below w.heap.size w W) (h' : Below W.heap.size W W2) : Below w.heap.size w W2 := h.trans (h'.mono h.size)
section
variable {P : Program} {o : Oper} {a : Act} {x y : Operand} {t t' : TypeId}
end
end Go.Proofs.Ytjbhlcklgmgdpaa.Fns
