/-
  Contracts of package span (without Times; wants package num alone): what each function returns for any spans and integers of 64 bits. No condition.
-/
import Derived.Test.YtkbaponpebkpiaaNum
import Derived.Test.YtkbaponpebkpiaaSpn
namespace Go.Proofs.Ytkbaponpebkpiaa.Spo
open Go.ChangeShapes Go.WideShapes Go.ChangeAt Go.RowKit
open Num Arr
set_option linter.unusedVariables false
set_option maxRecDepth 100000

theorem right_any (a b : Int) (w : World) :
    Calls Try.prog 33 #[.agg #[.int .i64 a, .int .i64 b]] w fun e w' => e = .returned (.bool (decide (a ≤ b))) ∧ Below w.heap.size w w' := by
  go_enter Try.func33, Try.ntmps33
  go_wp2
  go_ret
  exact ⟨rfl, (Below.refl _ _).alloc (Nat.le_refl _) _⟩
theorem at_any (x : Int) (w : World) :
    Calls Try.prog 49 #[.int .i64 x] w fun e w' => e = .returned (.agg #[.int .i64 x, .int .i64 x]) ∧ Below w.heap.size w w' := by
  go_enter Try.func49, Try.ntmps49
  go_wp2
  refine bodyPost_ret (by simp [results, Try.results49, go_sem]) rfl ⟨rfl, ?_⟩
  exact (Below.refl _ _).alloc (Nat.le_refl _) _
/-- The number, if there is one; else 0. -/
def orZ (ok : Bool) (x : Int) : Int := if ok then x else 0
end Go.Proofs.Ytkbaponpebkpiaa.Spo
