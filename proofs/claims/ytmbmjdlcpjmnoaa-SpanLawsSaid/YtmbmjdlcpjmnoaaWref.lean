/-
  The reference's sums, shifts, orders and lengths of numbers of 128 bits, told of natural numbers. Conditions: numbers below 2^128, halves below 2^64.
-/
import Derived.Test.YtmbmjdlcpjmnoaaOf
namespace Go.Proofs.Ytmbmjdlcpjmnoaa.Ref
open Go.ChangeShapes Go.WideShapes Go.ChangeAt Go.RowKit
open Arr Bt
set_option linter.unusedVariables false

theorem cell_bv {w : World} {g : Nat} {n : Nat} {t : TypeId} {fr : Nat × Nat} (h : w.heap[g]? = some (.cells (bv n) t fr)) {i : Nat} (hi : i < 128) : w.cell? ⟨g, i, none⟩ = some (.int .i64 (bt n i)) := cell_row h hi
/-- The order of two numbers. -/
def cmpN (n m : Nat) : Int := if n < m then -1 else if m < n then 1 else 0
theorem cmp_lt {n m : Nat} (h : n < m) : cmpN n m = -1 := if_pos h
theorem cmp_gt {n m : Nat} (h : m < n) : cmpN n m = 1 := by unfold cmpN; rw [if_neg (by omega), if_pos h]
theorem cmp_eq (n : Nat) : cmpN n n = 0 := by unfold cmpN; simp
end Go.Proofs.Ytmbmjdlcpjmnoaa.Ref
