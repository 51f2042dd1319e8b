/-
  The reference's sums, shifts, orders and lengths of numbers of 128 bits, told of natural numbers. Conditions: numbers below 2^128, halves below 2^64.
-/
import Derived.Test.YtcelmgkjkdbliaaOf
namespace Go.Proofs.Ytcelmgkjkdbliaa.Ref
open Go.ChangeShapes Go.WideShapes Go.ChangeAt Go.RowKit
open Arr Bt
set_option linter.unusedVariables false

/-- The order of two numbers. -/
def cmpN (n m : Nat) : Int := if n < m then -1 else if m < n then 1 else 0
theorem cmp_lt {n m : Nat} (h : n < m) : cmpN n m = -1 := if_pos h
theorem cmp_gt {n m : Nat} (h : m < n) : cmpN n m = 1 := by unfold cmpN; rw [if_neg (by omega), if_pos h]
theorem cmp_eq (n : Nat) : cmpN n n = 0 := by unfold cmpN; simp
end Go.Proofs.Ytcelmgkjkdbliaa.Ref
