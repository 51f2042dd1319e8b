/-
  What arguments hold that came in: lists of texts, and structs and arrays of plain cells by value. Condition: none.
-/
import Derived.Test.YtlfienfjdjfcoaaPostb
import Derived.Test.YtlfienfjdjfcoaaMl
import Derived.Deep.Matrix
import Derived.OpenShut
namespace Go.Proofs.Ytlfienfjdjfcoaa.Postt
open Go.ChangeShapes Go.WideShapes Go.RowKit Go.Deep
open Sl Sb Ml
set_option linter.unusedVariables false
set_option linter.unusedSimpArgs false
section
variable {H : Type} {enc : TypeId × Value → H} {P : Program}
/-! ### Plain cells by value -/
section
variable {w : World} {base : Nat} {spare : Nat → Bool} {held : Bool} {cs : List Value} {x : DataW H × List MemPlace}
end
theorem okWide_array {t e : TypeId} {n : Nat} {r : Reach} {b0 : Nat} {W : World} {v : Value} (ht : P.underlying t = some (.array n e)) (h : Value.okWide P W r b0 t v) : ∃ cs, v = .agg cs ∧ cs.size = P.cellsOf t := by
  simp only [Value.okWide, ht] at h
  obtain ⟨cs, h1, h2, _⟩ := h
  exact ⟨cs, h1, h2⟩
end
end Go.Proofs.Ytlfienfjdjfcoaa.Postt
