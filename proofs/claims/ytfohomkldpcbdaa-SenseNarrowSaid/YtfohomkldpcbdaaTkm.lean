/-
  Package track, without a program: what may follow a segment, what a group may be, the first place of a number in a list, the hull of grades, a search by Ids. No condition.
-/
import Derived.Test.YtfohomkldpcbdaaTkl
import Derived.Test.YtfohomkldpcbdaaGrm
import Derived.Test.YtfohomkldpcbdaaSpn
namespace Go.Proofs.Ytfohomkldpcbdaa.Tkm
open Go.ChangeShapes Go.WideShapes Go.ChangeAt Go.RowKit
open Arr Steady Sx Sw Sl Sb Sc Vs Gr Grm Spn Tk Tkl
set_option linter.unusedVariables false
set_option linter.unusedSimpArgs false

/-! ### From 0 to the most -/
/-! ### What may follow -/
structure NextMay (X : List Int) (m : Int) : Prop where
  two : X.length ≤ 2
  each : ∀ j, j < X.length → 0 ≤ X[j]! ∧ X[j]! < m
  up : 2 ≤ X.length → X[0]! < X[1]!
/-! ### A segment, a group -/
/-- What a group must be, but for the Ids before it. -/
structure GrpIn (G : List Sg) (g : Gp) : Prop where
  high : g.id ≤ 65535
  seg0 : 0 ≤ g.seg
  segn : g.seg < G.length
  off : 0 ≤ g.off ∧ g.off ≤ (G[g.seg.toNat]!).len
  acc : 0 ≤ g.acc ∧ g.acc ≤ 1048576
  sl : 0 ≤ g.slack ∧ g.slack ≤ 16777216
/-! ### The first place of a number -/
/-! ### The hull of grades -/
def hg (r : Int × Int) (g : Int) : Int × Int := hullF r.1 r.2 g g
/-! ### A search by Ids -/
end Go.Proofs.Ytfohomkldpcbdaa.Tkm
