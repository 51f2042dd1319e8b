/-
  Grades, without a program: pieces that may be those of a length; the grade at a place, and the least and the greatest grade at some places, by the document. No condition.
-/
import Derived.Test.YtfohomkldpcbdaaVs
import Derived.Test.YtfohomkldpcbdaaSc
namespace Go.Proofs.Ytfohomkldpcbdaa.Gr
open Sl Vs
set_option linter.unusedVariables false
set_option linter.unusedSimpArgs false

/-- What is asked of one piece. -/
structure Piece (L : Spans) (len : Int) (i : Nat) : Prop where
  low : -1048576 ≤ (L[i]!).2
  high : (L[i]!).2 ≤ 1048576
  within : (L[i]!).1 < len
  up : 0 < i → (L[i - 1]!).1 < (L[i]!).1
/-- They may be the pieces of a length. -/
structure May (L : Spans) (len : Int) : Prop where
  some : 1 ≤ L.length
  few : L.length ≤ 64
  first : (L[0]!).1 = 0
  each : ∀ i, i < L.length → Piece L len i
/-- The Froms go up. -/
theorem up_lt {L : Spans} {len : Int} (h : May L len) : ∀ (d i : Nat), i + d + 1 < L.length → (L[i]!).1 < (L[i + d + 1]!).1 := by
  intro d
  induction d with
  | zero => intro i hi; exact (h.each (i + 1) hi).up (by omega)
  | succ d ih =>
    intro i hi
    have h1 := ih i (by omega)
    have h2 := (h.each (i + (d + 1) + 1) hi).up (by omega)
    have e : i + (d + 1) + 1 - 1 = i + d + 1 := by omega
    rw [e] at h2
    omega
theorem up_all {L : Spans} {len : Int} (h : May L len) {i j : Nat} (hij : i < j) (hj : j < L.length) : (L[i]!).1 < (L[j]!).1 := by
  have := up_lt h (j - i - 1) i (by omega)
  rwa [show i + (j - i - 1) + 1 = j by omega] at this
end Go.Proofs.Ytfohomkldpcbdaa.Gr
