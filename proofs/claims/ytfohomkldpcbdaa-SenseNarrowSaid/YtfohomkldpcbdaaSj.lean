/-
  More steps: arrays that are compared with themselves, numbers of 16 bits, literals and appends of texts whose place isn't written out. No condition.
-/
import Derived.Test.YtfohomkldpcbdaaSi
import Derived.Test.YtfohomkldpcbdaaMl
namespace Go.Proofs.Ytfohomkldpcbdaa.Sj
open Go.ChangeShapes Go.WideShapes Go.ChangeAt Go.RowKit
open Arr Steady Sx Sw Sl Sb Sc Si Ml
set_option linter.unusedVariables false
set_option linter.unusedSimpArgs false

section
variable {P : Program} {o : Oper} {a : Act}
/-! ### Numbers of 16 bits -/
theorem i16_of_wf {z : Int} (h : (Lit.int .i16 z).wf = true) : -32768 ≤ z ∧ z ≤ 32767 := by
  simpa [Lit.wf, IntKind.min, IntKind.max, IntKind.bits, IntKind.signed] using h
end
/-! ### Literals and appends -/
section
variable {P : Program} {o : Oper} {a : Act} {Q : Exit → Act → World → Prop} {K : Act → World → Prop} {w w0 : World} {A B : List Rw} {e t : TypeId} {s : Own} {size n : Nat} {xs : List Value}
end
end Go.Proofs.Ytfohomkldpcbdaa.Sj
