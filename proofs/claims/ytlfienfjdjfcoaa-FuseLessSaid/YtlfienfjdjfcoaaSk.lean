/-
  THE ENGINE, further: results of one row and two plain values; the lower 16 bits; the other sign; rows of small numbers and of bools. No program.
-/
import Derived.Test.YtlfienfjdjfcoaaSj
namespace Go.Proofs.Ytlfienfjdjfcoaa.Sk
open Go.ChangeShapes Go.WideShapes Go.ChangeAt Go.RowKit
open Arr Steady Sx Sw Sl Sb Sc Si Sj
set_option linter.unusedVariables false
set_option linter.unusedSimpArgs false
set_option maxRecDepth 100000
section
variable {P : Program} {a : Act} {w0 : World} {R : List Rw}
end
section
variable {P : Program} {o : Oper} {a : Act} {t t' : TypeId} {x y : Operand}
end
end Go.Proofs.Ytlfienfjdjfcoaa.Sk
