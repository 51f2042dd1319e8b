/-
  More steps for the walks of Sx: loops whose rounds are known, shifts of numbers with a sign, bytes joined to a number. No condition.
-/
import Derived.Test.YtjbhlcklgmgdpaaSb
import Derived.LoopN
namespace Go.Proofs.Ytjbhlcklgmgdpaa.Sc
open Go.ChangeShapes Go.WideShapes Go.ChangeAt Go.RowKit
open Arr Steady Sx Sw Sl Sb
set_option linter.unusedVariables false
set_option linter.unusedSimpArgs false

section
variable {P : Program} {Q : Exit → Act → World → Prop} {o : Oper} {a : Act} {w0 : World} {R : List Rw} {c : Code} {n : Nat} {x y : Operand} {t t' : TypeId}
/-- A loop that is unrolled: at most n rounds more. -/
structure Wr (P : Program) (c : Code) (Q : Exit → Act → World → Prop) (n : Nat) (a : Act) (w0 : World) (R : List Rw) : Prop where
  run : ∀ w, Env w0 w R → Code.rounds P c Q n a w
end
end Go.Proofs.Ytjbhlcklgmgdpaa.Sc
