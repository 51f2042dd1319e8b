/-
  THE ENGINE, further: a region that draws its order and holds two calls that hand back rows of their own, the second one behind the first. No program.
-/
import Derived.Test.YtjpkcpoamkameaaSh
namespace Go.Proofs.Ytjpkcpoamkameaa.Shh
open Go.ChangeShapes Go.WideShapes Go.ChangeAt Go.RowKit
open Arr Steady Sx Sw Sl Sb Sc Si Sj Sk Sh
set_option linter.unusedVariables false
set_option linter.unusedSimpArgs false
set_option maxRecDepth 100000

def z1 {Γ0 Γ1 : Type} (V1 : Γ0 → Nat → Value) : Option (Γ0 × Option Γ1) → Nat → Value
  | none, _ => undef
  | some (g, _), k => V1 g k
def z2 {Γ0 Γ1 : Type} (V2 : Γ0 → Γ1 → Nat → Value) : Option (Γ0 × Option Γ1) → Nat → Value
  | some (g, some h), k => V2 g h k
  | _, _ => undef
end Go.Proofs.Ytjpkcpoamkameaa.Shh
