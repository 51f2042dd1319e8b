/-
  THE ENGINE, further: results of one row and two plain values; the lower 16 bits; the other sign; rows of small numbers and of bools. No program.
-/
import Derived.Test.YtggannjlaehihaaSj
namespace Go.Proofs.Ytggannjlaehihaa.Sk
open Go.ChangeShapes Go.WideShapes Go.ChangeAt Go.RowKit
open Arr Steady Sx Sw Sl Sb Sc Si Sj
set_option linter.unusedVariables false
set_option linter.unusedSimpArgs false
set_option maxRecDepth 100000
section
variable {P : Program} {a : Act} {w0 : World} {R : List Rw}
end
section
variable {P : Program} {o : Oper} {a : Act} {t t' : TypeId} {x y : Operand}
end
theorem u16_of_wf {z : Int} (h : (Lit.int .u16 z).wf = true) : 0 ≤ z ∧ z ≤ 65535 := by
  simpa [Lit.wf, IntKind.min, IntKind.max, IntKind.bits, IntKind.signed] using h
theorem i64_of_wf {z : Int} (h : (Lit.int .i64 z).wf = true) : -9223372036854775808 ≤ z ∧ z ≤ 9223372036854775807 := by
  simpa [Lit.wf, IntKind.min, IntKind.max, IntKind.bits, IntKind.signed] using h
end Go.Proofs.Ytggannjlaehihaa.Sk
