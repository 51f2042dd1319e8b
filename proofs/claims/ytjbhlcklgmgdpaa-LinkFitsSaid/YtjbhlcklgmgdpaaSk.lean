/-
  THE ENGINE, further: results of one row and two plain values; the lower 16 bits; the other sign; rows of small numbers and of bools. No program.
-/
import Derived.Test.YtjbhlcklgmgdpaaSj
namespace Go.Proofs.Ytjbhlcklgmgdpaa.Sk
open Go.ChangeShapes Go.WideShapes Go.ChangeAt Go.RowKit
open Arr Steady Sx Sw Sl Sb Sc Si Sj
set_option linter.unusedVariables false
set_option linter.unusedSimpArgs false
set_option maxRecDepth 100000
section
variable {P : Program} {a : Act} {w0 : World} {R : List Rw}
end
section
variable {P : Program} {o : Oper} {a : Act} {t t' : TypeId} {x y : Operand}
/-- The other sign. -/
theorem run_neg {k : IntKind} {X Y : Int} (ho : o.op = .unOp .neg t x) (hx : a.eval x = .int k X) (hu : P.underlying t = some (.int k)) (hY : k.wrap (-X) = Y) (w : World) :
    (execOp a.eval o).run P w = .ok (.value (.int k Y)) w := by
  subst hY
  unfold execOp
  simp only [ho, hx]
  simp [go_sem]
end
theorem i64_of_wf {z : Int} (h : (Lit.int .i64 z).wf = true) : -9223372036854775808 ≤ z ∧ z ≤ 9223372036854775807 := by
  simpa [Lit.wf, IntKind.min, IntKind.max, IntKind.bits, IntKind.signed] using h
end Go.Proofs.Ytjbhlcklgmgdpaa.Sk
