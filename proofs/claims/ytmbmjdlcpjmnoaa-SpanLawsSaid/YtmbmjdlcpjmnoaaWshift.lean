/-
  Contracts of package wide: shifts, told of natural numbers. Conditions: halves below 2^64; any count.
-/
import Derived.Test.YtmbmjdlcpjmnoaaWide
import Derived.StillTailTactics
import Derived.Laws.ShiftsVar
import Derived.Laws.BitsAllLaws
namespace Go.Proofs.Ytmbmjdlcpjmnoaa.Wide
open Go.ChangeShapes Go.WideShapes Go.ChangeAt Go.RowKit
open Arr Bt
set_option linter.unusedVariables false
set_option maxRecDepth 100000

theorem wshl (x n : Nat) : IntKind.u64.wrap ((x : Int) * 2 ^ n) = ((x * 2 ^ n % 18446744073709551616 : Nat) : Int) := by
  rw [IntKind.wrap_u64, Int.natCast_emod, Int.natCast_mul, Int.natCast_pow]; rfl
theorem wshr (x n : Nat) : (x : Int) / 2 ^ n = ((x / 2 ^ n : Nat) : Int) := by rw [Int.natCast_ediv, Int.natCast_pow]; rfl
theorem or_add {a b i : Nat} (h : b < 2 ^ i) : a * 2 ^ i ||| b = a * 2 ^ i + b := by
  have := Nat.shiftLeft_add_eq_or_of_lt h a
  rw [Nat.shiftLeft_eq] at this
  exact this.symm
/-- The two powers, and what they leave of a half. -/
theorem halves {n : Nat} (hn : n < 64) : 2 ^ n * 2 ^ (64 - n) = 18446744073709551616 := by
  rw [← Nat.pow_add, show n + (64 - n) = 64 by omega]
theorem parts {x p q : Nat} (hq : 0 < q) (hpq : p * q = 18446744073709551616) (hx : x < 18446744073709551616) : x * p = 18446744073709551616 * (x / q) + p * (x % q) ∧ p * (x % q) + p ≤ 18446744073709551616 ∧ x / q < p := by
  refine ⟨?_, ?_, ?_⟩
  · have e := Nat.div_add_mod x q
    have h1 : x * p = (q * (x / q) + x % q) * p := by rw [e]
    rw [h1, Nat.add_mul, ← hpq]
    rw [show q * (x / q) * p = p * q * (x / q) by ac_rfl, Nat.mul_comm (x % q) p]
  · have h1 := Nat.mod_lt x hq
    have h2 := Nat.mul_le_mul_left p (show x % q + 1 ≤ q from h1)
    rw [hpq, Nat.mul_add, Nat.mul_one] at h2
    exact h2
  · rw [Nat.div_lt_iff_lt_mul hq, hpq]; exact hx
theorem shl_near_eq {xh xl n : Nat} (h1 : H xh) (h2 : H xl) (hn : n < 64) : num xh xl * 2 ^ n % 340282366920938463463374607431768211456 = num (xh * 2 ^ n % 18446744073709551616 ||| xl / 2 ^ (64 - n)) (xl * 2 ^ n % 18446744073709551616) := by
  have hpq := halves hn
  have hp := Nat.two_pow_pos n
  have hq := Nat.two_pow_pos (64 - n)
  obtain ⟨a1, a2, a3⟩ := parts hq hpq h1
  obtain ⟨b1, b2, b3⟩ := parts hq hpq h2
  have e1 : xh * 2 ^ n % 18446744073709551616 = xh % 2 ^ (64 - n) * 2 ^ n := by rw [a1, Nat.mul_comm (xh % _) _]; omega
  rw [e1, or_add b3, Nat.mul_comm (xh % _) _]
  unfold num
  rw [Nat.add_mul, Nat.mul_right_comm, a1, b1]
  generalize 2 ^ n * (xh % 2 ^ (64 - n)) = c at *
  generalize 2 ^ n * (xl % 2 ^ (64 - n)) = d at *
  generalize xh / 2 ^ (64 - n) = u at *
  generalize xl / 2 ^ (64 - n) = v at *
  generalize 2 ^ n = p at *
  omega
theorem shr_near_eq {xh xl n : Nat} (h1 : H xh) (h2 : H xl) (hn : n < 64) : num xh xl / 2 ^ n = num (xh / 2 ^ n) (xl / 2 ^ n ||| xh * 2 ^ (64 - n) % 18446744073709551616) := by
  have hpq := halves hn
  have hp := Nat.two_pow_pos n
  rw [Nat.mul_comm] at hpq
  obtain ⟨a1, a2, a3⟩ := parts hp hpq h1
  obtain ⟨b1, b2, b3⟩ := parts hp hpq h2
  have e1 : xh * 2 ^ (64 - n) % 18446744073709551616 = xh % 2 ^ n * 2 ^ (64 - n) := by rw [a1, Nat.mul_comm (xh % _) _]; omega
  rw [e1, Nat.or_comm, or_add b3]
  have e2 : num xh xl = 2 ^ n * (num (xh / 2 ^ n) (xh % 2 ^ n * 2 ^ (64 - n) + xl / 2 ^ n)) + xl % 2 ^ n := by
    unfold num
    have f1 := Nat.div_add_mod xh (2 ^ n)
    have f2 := Nat.div_add_mod xl (2 ^ n)
    rw [Nat.mul_add, Nat.mul_add, show 2 ^ n * (xh / 2 ^ n * 18446744073709551616) = 2 ^ n * (xh / 2 ^ n) * 18446744073709551616 by ac_rfl,
      show 2 ^ n * (xh % 2 ^ n * 2 ^ (64 - n)) = xh % 2 ^ n * (2 ^ (64 - n) * 2 ^ n) by ac_rfl, hpq]
    omega
  rw [e2, Nat.mul_add_div hp, Nat.div_eq_of_lt (Nat.mod_lt _ hp), Nat.add_zero]
theorem shl_far_eq {xh xl k : Nat} (h1 : H xh) (h2 : H xl) : num xh xl * 2 ^ (k + 64) % 340282366920938463463374607431768211456 = num (xl * 2 ^ min k 64 % 18446744073709551616) 0 := by
  have e : xl * 2 ^ min k 64 % 18446744073709551616 = xl * 2 ^ k % 18446744073709551616 := by
    rcases Nat.le_total k 64 with h | h
    · rw [Nat.min_eq_left h]
    · rw [Nat.min_eq_right h]
      obtain ⟨j, rfl⟩ : ∃ j, k = 64 + j := ⟨k - 64, by omega⟩
      rw [Nat.pow_add, show (2 : Nat) ^ 64 = 18446744073709551616 from rfl, Nat.mul_mod_left, Nat.mul_left_comm, Nat.mul_mod_right]
  rw [e]
  unfold num
  rw [Nat.pow_add, show (2 : Nat) ^ 64 = 18446744073709551616 from rfl, Nat.add_mul, show xh * 18446744073709551616 * (2 ^ k * 18446744073709551616) = xh * 2 ^ k * 340282366920938463463374607431768211456 by rw [show (340282366920938463463374607431768211456 : Nat) = 18446744073709551616 * 18446744073709551616 from rfl]; ac_rfl, ← Nat.mul_assoc]
  generalize xl * 2 ^ k = c
  generalize xh * 2 ^ k = d
  omega
theorem shr_far_eq {xh xl k : Nat} (h1 : H xh) (h2 : H xl) : num xh xl / 2 ^ (k + 64) = num 0 (xh / 2 ^ min k 64) := by
  have e : xh / 2 ^ min k 64 = xh / 2 ^ k := by
    rcases Nat.le_total k 64 with h | h
    · rw [Nat.min_eq_left h]
    · rw [Nat.min_eq_right h, Nat.div_eq_of_lt (show xh < 2 ^ 64 from h1), Nat.div_eq_of_lt (Nat.lt_of_lt_of_le (show xh < 2 ^ 64 from h1) (Nat.pow_le_pow_right (by omega) h))]
  rw [e, Nat.add_comm k 64, Nat.pow_add, ← Nat.div_div_eq_div_mul, show (2 : Nat) ^ 64 = 18446744073709551616 from rfl, num_hi h2]
  unfold num
  omega
theorem or_H {a b : Nat} (ha : H a) (hb : H b) : H (a ||| b) := Nat.or_lt_two_pow (n := 64) ha hb
theorem shr_H {x n : Nat} (h : H x) : H (x / 2 ^ n) := Nat.lt_of_le_of_lt (Nat.div_le_self _ _) h
end Go.Proofs.Ytmbmjdlcpjmnoaa.Wide
