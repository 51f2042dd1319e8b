/-
  Calls of function values, in the walks of Sx and Sw. No condition.
-/
import Derived.Test.YtbacchdkankioaaMsc
import Derived.Shelf.Abstract
namespace Go.Proofs.Ytbacchdkankioaa.Fns
open Go.ChangeShapes Go.WideShapes Go.ChangeAt Go.RowKit
open Arr Steady Sx Sw Sl Sb Sc
set_option linter.unusedVariables false
set_option linter.unusedSimpArgs false

theorem er_value {P : Program} {o : Oper} {a : Act} {F : FuncId} {CB : Array Value} {x y : Operand} {v : Value} {ts : Array TypeId} (eg : Enters P F) (ho : o.op = .call { callee := .value x, args := #[y], argTypes := ts }) (hx : a.eval x = .func (.func F) #[] CB) (hy : a.eval y = v) :
    ∀ w, (execOp a.eval o).run P w = .ok (.enter F (#[v] ++ CB)) w := by
  intro w
  unfold execOp
  simp only [ho]
  have := eg (#[v] ++ CB) w
  simp [resolve, Deferred.ofValue, hx, hy, invoke]
  simpa using this
theorem below_two {w W W2 : World} (h : Below w.heap.size w W) (h' : Below W.heap.size W W2) : Below w.heap.size w W2 := h.trans (h'.mono h.size)
theorem row_two {W W2 : World} {g : Nat} {cs : Array Value} {t : TypeId} {fr : Nat × Nat} (h' : Below W.heap.size W W2) (h : W.heap[g]? = some (.cells cs t fr)) : W2.heap[g]? = some (.cells cs t fr) := below_row h' (lt_of_row h) h
section
variable {P : Program} {o : Oper} {a : Act} {x y : Operand} {t t' : TypeId}
end
end Go.Proofs.Ytbacchdkankioaa.Fns
