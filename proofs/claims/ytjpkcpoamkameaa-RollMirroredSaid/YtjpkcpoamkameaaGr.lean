/-
  Grades, without a program: pieces that may be those of a length; the grade at a place, and the least and the greatest grade at some places, by the document. No condition.
-/
import Derived.Test.YtjpkcpoamkameaaVs
import Derived.Test.YtjpkcpoamkameaaSc
namespace Go.Proofs.Ytjpkcpoamkameaa.Gr
open Sl Vs
set_option linter.unusedVariables false
set_option linter.unusedSimpArgs false

/-- What is asked of one piece. -/
structure Piece (L : Spans) (len : Int) (i : Nat) : Prop where
  low : -1048576 ≤ (L[i]!).2
  high : (L[i]!).2 ≤ 1048576
  within : (L[i]!).1 < len
  up : 0 < i → (L[i - 1]!).1 < (L[i]!).1
/-- They may be the pieces of a length. -/
structure May (L : Spans) (len : Int) : Prop where
  some : 1 ≤ L.length
  few : L.length ≤ 64
  first : (L[0]!).1 = 0
  each : ∀ i, i < L.length → Piece L len i
end Go.Proofs.Ytjpkcpoamkameaa.Gr
