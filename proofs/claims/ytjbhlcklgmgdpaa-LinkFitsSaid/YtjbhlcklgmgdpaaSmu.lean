/-
  THE ENGINE, further: a region that draws its order, with stores into several older rows (or into parts of them) and calls that make nothing: laws for single operations. No program.
-/
import Derived.Test.YtjbhlcklgmgdpaaSfn
import Derived.Deep.MidRow
namespace Go.Proofs.Ytjbhlcklgmgdpaa.Smu
open Go.ChangeShapes Go.WideShapes Go.ChangeAt Go.RowKit
open Arr Steady Sx Sw Sl Sb Sc Si Sj Sk Sh Sfn
set_option linter.unusedVariables false
set_option linter.unusedSimpArgs false

section
variable {P : Program} {o : Oper} {a : Act} {x y : Operand} {t t' : TypeId}
end
section
variable {P : Program} {o : Oper} {a : Act} {x y z : Operand}
end
section
variable {P : Program} {o : Oper} {a : Act}
end
section
variable {P : Program} {o : Oper} {a : Act} {x y : Operand}
theorem run_minn2 {t0 t1 : TypeId} {k : IntKind} {X Y Z : Int} (ho : o.op = .call { callee := .builtin .min, args := #[x, y], argTypes := #[t0, t1] }) (hx : a.eval x = .int k X) (hy : a.eval y = .int k Y) (hz : min X Y = Z) (w : World) :
    (execOp a.eval o).run P w = .ok (.value (.int k Z)) w := by
  subst hz
  have key : (Builtin.min_ #[t0, t1] o.type #[.int k X, .int k Y]).run P w = .ok (.int k (min X Y)) w := by
    simp only [Builtin.min_, List.foldlM_cons, List.foldlM_nil, Sem.run_bind, Result.andThen_ok, Sem.run_pure, Builtin.min2]
    congr 2
    split <;> omega
  unfold execOp
  simp only [ho, resolve, invoke, builtin, Sem.run_bind, Sem.run_pure, Result.andThen_ok, List.map_toArray, List.map_cons, List.map_nil, hx, hy, key]
end
/-! ### A part of a row is stored -/
section
variable {P : Program} {Q : Exit → Act → World → Prop}
end
section
variable {P : Program} {ops : Array Oper} {Γ : Type} {sz : Nat} {Q : Exit → Act → World → Prop} {val : Γ → Nat → Value} {rows : (Nat → Bool) → Γ → List Rw} {Fc : (Nat → Bool) → Γ → Prop} {a0 : Act} {w0 : World} {i : Nat} {o : Oper}
end
end Go.Proofs.Ytjbhlcklgmgdpaa.Smu
