/-
  THE ENGINE, further: a region that draws its order, with calls that hand back rows of their own and rows that it makes: laws for single operations. No program.
-/
import Derived.Test.YtjpkcpoamkameaaShh
import Derived.Shelf.Abstract
import Derived.Laws.Tables
namespace Go.Proofs.Ytjpkcpoamkameaa.Sfn
open Go.ChangeShapes Go.WideShapes Go.ChangeAt Go.RowKit
open Arr Steady Sx Sw Sl Sb Sc Si Sj Sk Sh
set_option linter.unusedVariables false
set_option linter.unusedSimpArgs false

section
variable {P : Program} {ops : Array Oper} {Γ : Type} {sz : Nat} {Q : Exit → Act → World → Prop} {val : Γ → Nat → Value} {rows : (Nat → Bool) → Γ → List Rw} {Fc : (Nat → Bool) → Γ → Prop} {a0 : Act} {w0 : World} {i : Nat} {o : Oper} {r : List Oper}
end
section
variable {P : Program} {a : Act} {w0 : World} {R : List Rw}
end
section
variable {P : Program} {o : Oper} {a : Act} {x y : Operand} {t ty : TypeId} {p : Option Addr} {xs : List Value} {w0 : World} {R : List Rw} {n : Nat}
end
end Go.Proofs.Ytjpkcpoamkameaa.Sfn
