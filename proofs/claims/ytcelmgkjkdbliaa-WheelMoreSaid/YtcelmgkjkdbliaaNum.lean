/-
  Contracts of the functions of package num: what each returns for any integers of 64 bits. No condition.
-/
import Derived.Test.YtcelmgkjkdbliaaRows
import Derived.WalkKit
import Derived.ProofKit
import Derived.OpenShut
import Derived.WalkLawsBesides
import Derived.Lib.Hide
import Derived.Outline
namespace Go.Proofs.Ytcelmgkjkdbliaa.Num
open Go.ChangeShapes Go.WideShapes Go.ChangeAt Go.RowKit
set_option linter.unusedVariables false

/-- Does a number fit? -/
def Fits (n : Int) : Prop := -9223372036854775808 ≤ n ∧ n ≤ 9223372036854775807
instance (n : Int) : Decidable (Fits n) := by unfold Fits; infer_instance

/-- The absolute value. -/
def abs (a : Int) : Int := if a < 0 then -a else a
theorem size_any (a : Int) (w : World) (ha : Fits a) :
    Calls Try.prog 21 #[.int .i64 a] w fun e w' => e = .returned (.int .u64 (abs a)) ∧ w = w' := by
  obtain ⟨ha1, ha2⟩ := ha
  by_cases hn : a < 0
  · have hz : IntKind.u64.wrap (-(IntKind.u64.wrap a)) = abs a := by
      unfold abs; rw [if_pos hn]; simp only [IntKind.wrap, IntKind.bits, IntKind.signed]; simp; omega
    have h2 : decide (a < 0) = true := by simpa using hn
    go_enter Try.func21, Try.ntmps21
    go_wp2
    go_ret
    exact ⟨rfl, rfl⟩
  · have hz : abs a = a := by unfold abs; rw [if_neg hn]
    rw [hz]
    clear hz
    have h2 : decide (a < 0) = false := by simpa using hn
    go_enter Try.func21, Try.ntmps21
    go_wp2
    go_ret
    exact ⟨rfl, rfl⟩

theorem sign_any (a : Int) (w : World) :
    Calls Try.prog 23 #[.int .i64 a] w fun e w' => e = .returned (.int .i64 (if a < 0 then -1 else if 0 < a then 1 else 0)) ∧ w = w' := by
  by_cases hn : a < 0
  · rw [if_pos hn]
    go_enter Try.func23, Try.ntmps23
    go_wp2
    go_ret
    exact ⟨rfl, rfl⟩
  · rw [if_neg hn]
    by_cases hp : 0 < a
    · rw [if_pos hp]
      go_enter Try.func23, Try.ntmps23
      go_wp2
      go_ret
      exact ⟨rfl, rfl⟩
    · rw [if_neg hp]
      go_enter Try.func23, Try.ntmps23
      go_wp2
      go_ret
      exact ⟨rfl, rfl⟩

end Go.Proofs.Ytcelmgkjkdbliaa.Num
