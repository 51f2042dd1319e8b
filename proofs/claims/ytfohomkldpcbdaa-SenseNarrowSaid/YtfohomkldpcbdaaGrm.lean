/-
  Grades, without a program: a search by halves, and what it finds among the pieces of a length. No condition.
-/
import Derived.Test.YtfohomkldpcbdaaGr
namespace Go.Proofs.Ytfohomkldpcbdaa.Grm
open Sl Vs Gr
set_option linter.unusedVariables false
set_option linter.unusedSimpArgs false

/-- They go down: where q holds, it holds of all before. -/
def Down (q : Int × Int → Bool) (L : Spans) : Prop := ∀ a b, a ≤ b → b < L.length → q L[b]! = true → q L[a]! = true
abbrev qle (a : Int) : Int × Int → Bool := fun x => decide (x.1 ≤ a)
theorem up_le {L : Spans} {len : Int} (h : May L len) {i j : Nat} (hij : i ≤ j) (hj : j < L.length) : (L[i]!).1 ≤ (L[j]!).1 := by
  rcases Nat.lt_or_eq_of_le hij with h1 | h1
  · have := up_all h h1 hj; omega
  · subst h1; exact Int.le_refl _
theorem down_le {L : Spans} {len : Int} (h : May L len) (a : Int) : Down (qle a) L := by
  intro i j hij hj hq
  have := up_le h hij hj
  have hq' := of_decide_eq_true hq
  exact decide_eq_true (by omega)
end Go.Proofs.Ytfohomkldpcbdaa.Grm
