/-
  Grades, without a program: pieces that may be those of a length; the grade at a place, and the least and the greatest grade at some places, by the document. No condition.
-/
import Derived.Test.YtbacchdkankioaaVs
import Derived.Test.YtbacchdkankioaaMsc
namespace Go.Proofs.Ytbacchdkankioaa.Gr
open Sl Vs
set_option linter.unusedVariables false
set_option linter.unusedSimpArgs false

/-- What is asked of one piece. -/
structure Piece (L : Spans) (len : Int) (i : Nat) : Prop where
  low : -1048576 ≤ (L[i]!).2
  high : (L[i]!).2 ≤ 1048576
  within : (L[i]!).1 < len
  up : 0 < i → (L[i - 1]!).1 < (L[i]!).1
/-- They may be the pieces of a length. -/
structure May (L : Spans) (len : Int) : Prop where
  some : 1 ≤ L.length
  few : L.length ≤ 64
  first : (L[0]!).1 = 0
  each : ∀ i, i < L.length → Piece L len i
noncomputable def mayB (L : Spans) (len : Int) : Bool := @decide (May L len) (Classical.propDecidable _)
theorem mayB_yes {L : Spans} {len : Int} (h : May L len) : mayB L len = true := by unfold mayB; exact @decide_eq_true _ (Classical.propDecidable _) h
theorem mayB_no {L : Spans} {len : Int} (h : ¬ May L len) : mayB L len = false := by unfold mayB; exact @decide_eq_false _ (Classical.propDecidable _) h
theorem may_of {L : Spans} {len : Int} (h : mayB L len = true) : May L len := by unfold mayB at h; exact @of_decide_eq_true _ (Classical.propDecidable _) h
theorem not_may {L : Spans} {len : Int} (h : mayB L len = false) : ¬ May L len := fun e => by rw [mayB_yes e] at h; cases h
end Go.Proofs.Ytbacchdkankioaa.Gr
