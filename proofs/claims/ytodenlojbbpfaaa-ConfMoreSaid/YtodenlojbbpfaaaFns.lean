/-
  Calls of function values, in the walks of Sx and Sw. No condition.
-/
import Derived.Test.YtodenlojbbpfaaaSc
import Derived.Shelf.Abstract
namespace Go.Proofs.Ytodenlojbbpfaaa.Fns
open Go.ChangeShapes Go.WideShapes Go.ChangeAt Go.RowKit
open Arr Steady Sx Sw Sl Sb Sc
set_option linter.unusedVariables false
set_option linter.unusedSimpArgs false

/-- A call without arguments. -/
theorem er_valuez {P : Program} {o : Oper} {a : Act} {F : FuncId} {CB : Array Value} {x : Operand} {ts : Array TypeId} (eg : Enters P F) (ho : o.op = .call { callee := .value x, args := #[], argTypes := ts }) (hx : a.eval x = .func (.func F) #[] CB) :
    ∀ w, (execOp a.eval o).run P w = .ok (.enter F CB) w := by
  intro w
  unfold execOp
  simp only [ho]
  have := eg CB w
  simp [resolve, Deferred.ofValue, hx, invoke]
  simpa using this
section
variable {P : Program} {o : Oper} {a : Act} {x y : Operand} {t t' : TypeId}
end
end Go.Proofs.Ytodenlojbbpfaaa.Fns
