/-
  Grades, without a program: a search by halves, and what it finds among the pieces of a length. No condition.
-/
import Derived.Test.YtbacchdkankioaaGr
namespace Go.Proofs.Ytbacchdkankioaa.Grm
open Sl Vs Gr
set_option linter.unusedVariables false
set_option linter.unusedSimpArgs false

end Go.Proofs.Ytbacchdkankioaa.Grm
