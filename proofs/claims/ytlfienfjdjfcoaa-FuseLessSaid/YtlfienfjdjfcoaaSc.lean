/-
  More steps for the walks of Sx: loops whose rounds are known, shifts of numbers with a sign, bytes joined to a number. No condition.
-/
import Derived.Test.YtlfienfjdjfcoaaSb
import Derived.LoopN
namespace Go.Proofs.Ytlfienfjdjfcoaa.Sc
open Go.ChangeShapes Go.WideShapes Go.ChangeAt Go.RowKit
open Arr Steady Sx Sw Sl Sb
set_option linter.unusedVariables false
set_option linter.unusedSimpArgs false

section
variable {P : Program} {Q : Exit → Act → World → Prop} {o : Oper} {a : Act} {w0 : World} {R : List Rw} {c : Code} {n : Nat} {x y : Operand} {t t' : TypeId}
/-- A loop that is unrolled: at most n rounds more. -/
structure Wr (P : Program) (c : Code) (Q : Exit → Act → World → Prop) (n : Nat) (a : Act) (w0 : World) (R : List Rw) : Prop where
  run : ∀ w, Env w0 w R → Code.rounds P c Q n a w
theorem wr_start (n : Nat) (h : Wr P c Q n a w0 R) : Wc P (.loop c) Q a w0 R := ⟨fun w hE => wp_loop_rounds n (h.run w hE)⟩
theorem wr_round (h : Wc P c (Exit.then (Code.rounds P c Q n) Q) a w0 R) : Wr P c Q (n + 1) a w0 R := ⟨fun w hE => h.run w hE⟩
theorem we_round (h : Wr P c Q n a w0 R) : We (Exit.then (Code.rounds P c Q n) Q) .normal a w0 R := ⟨fun w hE => h.run w hE⟩
end
end Go.Proofs.Ytlfienfjdjfcoaa.Sc
