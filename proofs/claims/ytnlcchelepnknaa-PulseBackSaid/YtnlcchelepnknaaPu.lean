/-
  Counters that wrap around, without a program: how many pulses lie between two counts. No condition.
-/
import Derived.Test.YtnlcchelepnknaaSc
namespace Go.Proofs.Ytnlcchelepnknaa.Pu
set_option linter.unusedVariables false
/-- The number nearest to 0 by which two counts differ; of two that are as near the one below 0. -/
def dlt (f t : Int) : Int := if 32768 ≤ (t - f + 65536) % 65536 then (t - f + 65536) % 65536 - 65536 else (t - f + 65536) % 65536
theorem dlt_is (f t : Int) : -32768 ≤ dlt f t ∧ dlt f t ≤ 32767 ∧ (f + dlt f t) % 65536 = t % 65536 := by
  unfold dlt
  split <;> omega
theorem dlt_of {f t d : Int} (h1 : -32768 ≤ d) (h2 : d ≤ 32767) (h : (f + d) % 65536 = t % 65536) : dlt f t = d := by
  unfold dlt
  split <;> omega
theorem dlt_back (f t : Int) (hf : 0 ≤ f ∧ f ≤ 65535) (ht : 0 ≤ t ∧ t ≤ 65535) : dlt f t = -dlt t f ∨ (dlt f t = -32768 ∧ dlt t f = dlt f t) := by
  unfold dlt
  split <;> split <;> omega
theorem dlt_self (f : Int) : dlt f f = 0 := by
  unfold dlt
  split <;> omega
end Go.Proofs.Ytnlcchelepnknaa.Pu
