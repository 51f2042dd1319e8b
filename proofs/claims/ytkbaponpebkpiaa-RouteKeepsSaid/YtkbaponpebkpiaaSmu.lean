/-
  THE ENGINE, further: a region that draws its order, with stores into several older rows (or into parts of them) and calls that make nothing: laws for single operations. No program.
-/
import Derived.Test.YtkbaponpebkpiaaSfn
import Derived.Deep.MidRow
namespace Go.Proofs.Ytkbaponpebkpiaa.Smu
open Go.ChangeShapes Go.WideShapes Go.ChangeAt Go.RowKit
open Arr Steady Sx Sw Sl Sb Sc Si Sj Sk Sh Sfn
set_option linter.unusedVariables false
set_option linter.unusedSimpArgs false

section
variable {P : Program} {o : Oper} {a : Act} {x y : Operand} {t t' : TypeId}
end
section
variable {P : Program} {o : Oper} {a : Act} {x y z : Operand}
end
section
variable {P : Program} {o : Oper} {a : Act}
end
section
variable {P : Program} {o : Oper} {a : Act} {x y : Operand}
end
/-! ### A part of a row is stored -/
section
variable {P : Program} {Q : Exit → Act → World → Prop}
end
section
variable {P : Program} {ops : Array Oper} {Γ : Type} {sz : Nat} {Q : Exit → Act → World → Prop} {val : Γ → Nat → Value} {rows : (Nat → Bool) → Γ → List Rw} {Fc : (Nat → Bool) → Γ → Prop} {a0 : Act} {w0 : World} {i : Nat} {o : Oper}
end
end Go.Proofs.Ytkbaponpebkpiaa.Smu
