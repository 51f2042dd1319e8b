/-
  What layer 3's statements say of a quotient that doesn't fit: 'beyond'. Conditions: integers of 64 bits.
-/
import Derived.Test.YtmbmjdlcpjmnoaaRatioLies
namespace Go.Proofs.Ytmbmjdlcpjmnoaa.RatioRef
open Go.ChangeShapes Go.WideShapes Go.ChangeAt Go.RowKit
open Num Ref Ratio Steady Arr
set_option linter.unusedVariables false
set_option maxRecDepth 100000

/-- Is a quotient beyond 64 bits, told by what the least and the greatest number leave? -/
def beyondB (least most c : Int) (up : Bool) : Bool :=
  if up then decide (0 < (if c < 0 then -sgn most else sgn most)) || (decide ((if c < 0 then -sgn least else sgn least) < 0) && !decide (least.natAbs < c.natAbs))
  else decide ((if c < 0 then -sgn least else sgn least) < 0) || (decide (0 < (if c < 0 then -sgn most else sgn most)) && !decide (most.natAbs < c.natAbs))
end Go.Proofs.Ytmbmjdlcpjmnoaa.RatioRef
