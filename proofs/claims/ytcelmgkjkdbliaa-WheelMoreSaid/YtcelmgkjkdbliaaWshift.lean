/-
  Contracts of package wide: shifts, told of natural numbers. Conditions: halves below 2^64; any count.
-/
import Derived.Test.YtcelmgkjkdbliaaWide
import Derived.StillTailTactics
import Derived.Laws.ShiftsVar
import Derived.Laws.BitsAllLaws
namespace Go.Proofs.Ytcelmgkjkdbliaa.Wide
open Go.ChangeShapes Go.WideShapes Go.ChangeAt Go.RowKit
open Arr Bt
set_option linter.unusedVariables false
set_option maxRecDepth 100000

theorem wshl (x n : Nat) : IntKind.u64.wrap ((x : Int) * 2 ^ n) = ((x * 2 ^ n % 18446744073709551616 : Nat) : Int) := by
  rw [IntKind.wrap_u64, Int.natCast_emod, Int.natCast_mul, Int.natCast_pow]; rfl
theorem wshr (x n : Nat) : (x : Int) / 2 ^ n = ((x / 2 ^ n : Nat) : Int) := by rw [Int.natCast_ediv, Int.natCast_pow]; rfl
theorem or_add {a b i : Nat} (h : b < 2 ^ i) : a * 2 ^ i ||| b = a * 2 ^ i + b := by
  have := Nat.shiftLeft_add_eq_or_of_lt h a
  rw [Nat.shiftLeft_eq] at this
  exact this.symm
/-- The two powers, and what they leave of a half. -/
theorem halves {n : Nat} (hn : n < 64) : 2 ^ n * 2 ^ (64 - n) = 18446744073709551616 := by
  rw [← Nat.pow_add, show n + (64 - n) = 64 by omega]
theorem parts {x p q : Nat} (hq : 0 < q) (hpq : p * q = 18446744073709551616) (hx : x < 18446744073709551616) : x * p = 18446744073709551616 * (x / q) + p * (x % q) ∧ p * (x % q) + p ≤ 18446744073709551616 ∧ x / q < p := by
  refine ⟨?_, ?_, ?_⟩
  · have e := Nat.div_add_mod x q
    have h1 : x * p = (q * (x / q) + x % q) * p := by rw [e]
    rw [h1, Nat.add_mul, ← hpq]
    rw [show q * (x / q) * p = p * q * (x / q) by ac_rfl, Nat.mul_comm (x % q) p]
  · have h1 := Nat.mod_lt x hq
    have h2 := Nat.mul_le_mul_left p (show x % q + 1 ≤ q from h1)
    rw [hpq, Nat.mul_add, Nat.mul_one] at h2
    exact h2
  · rw [Nat.div_lt_iff_lt_mul hq, hpq]; exact hx
end Go.Proofs.Ytcelmgkjkdbliaa.Wide
