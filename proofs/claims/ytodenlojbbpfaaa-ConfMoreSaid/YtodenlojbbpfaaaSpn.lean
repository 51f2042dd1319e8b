/-
  Contracts of package span's plain functions (Right, Has, At, Meet, Hull, In), apart from its arithmetic: what each returns for any integers. No condition.
-/
import Derived.Test.YtodenlojbbpfaaaSl
import Derived.Lib.MinMax
namespace Go.Proofs.Ytodenlojbbpfaaa.Spn
open Go.ChangeShapes Go.WideShapes Go.ChangeAt Go.RowKit
open Arr
set_option linter.unusedVariables false
set_option maxRecDepth 100000

/-- The ends of the hull of two spans. -/
def hullF (a b c d : Int) : Int × Int := if a ≤ b then (if c ≤ d then (min a c, max b d) else (a, b)) else (c, d)
end Go.Proofs.Ytodenlojbbpfaaa.Spn
