/-
  Contract of package wide: the root, told of natural numbers. Condition: halves below 2^64.
-/
import Derived.Test.YtmbmjdlcpjmnoaaWshift
import Derived.Test.YtmbmjdlcpjmnoaaSteady
namespace Go.Proofs.Ytmbmjdlcpjmnoaa.Wide
open Go.ChangeShapes Go.WideShapes Go.ChangeAt Go.RowKit
open Arr Bt Steady
set_option linter.unusedVariables false
set_option maxRecDepth 100000

/-- The root: the greatest number whose square is at most n. -/
def IsRoot (n r : Nat) : Prop := r * r ≤ n ∧ n < (r + 1) * (r + 1)
theorem isRoot_unique {n r s : Nat} (h : IsRoot n r) (k : IsRoot n s) : r = s := by
  obtain ⟨h1, h2⟩ := h
  obtain ⟨k1, k2⟩ := k
  rcases Nat.lt_trichotomy r s with hl | hl | hl
  · have := Nat.mul_le_mul (show r + 1 ≤ s from hl) (show r + 1 ≤ s from hl)
    omega
  · exact hl
  · have := Nat.mul_le_mul (show s + 1 ≤ r from hl) (show s + 1 ≤ r from hl)
    omega
/-- The root on the way, g bits to go. -/
def Rt (n g r : Nat) : Prop := r * r ≤ n ∧ n < (r + 2 ^ g) * (r + 2 ^ g) ∧ ∃ k, r = k * 2 ^ g ∧ r + 2 ^ g ≤ 18446744073709551616
theorem rt_start {n : Nat} (h : W128 n) : Rt n 64 0 := by
  refine ⟨by omega, ?_, 0, by omega, by simp⟩
  rw [Nat.zero_add, ← Nat.pow_add]
  exact h
theorem rt_yes {n g r : Nat} (h : Rt n (g + 1) r) (hm : (r + 2 ^ g) * (r + 2 ^ g) ≤ n) : Rt n g (r + 2 ^ g) := by
  obtain ⟨h1, h2, k, h3, h4⟩ := h
  rw [Nat.pow_succ] at h2 h3 h4
  refine ⟨hm, ?_, 2 * k + 1, ?_, by omega⟩
  · rw [show r + 2 ^ g + 2 ^ g = r + 2 ^ g * 2 by omega]; exact h2
  · rw [h3, Nat.add_mul, Nat.one_mul, show k * (2 ^ g * 2) = 2 * k * 2 ^ g by ac_rfl]
theorem rt_no {n g r : Nat} (h : Rt n (g + 1) r) (hm : n < (r + 2 ^ g) * (r + 2 ^ g)) : Rt n g r := by
  obtain ⟨h1, h2, k, h3, h4⟩ := h
  rw [Nat.pow_succ] at h3 h4
  exact ⟨h1, hm, 2 * k, by rw [h3]; ac_rfl, by omega⟩
theorem rt_or {n g r : Nat} (h : Rt n (g + 1) r) : r ||| 2 ^ g = r + 2 ^ g := by
  obtain ⟨_, _, k, h3, _⟩ := h
  have hl : (2 : Nat) ^ g < 2 ^ (g + 1) := Nat.pow_lt_pow_right (by omega) (by omega)
  rw [h3]
  exact or_add hl
theorem rt_end {n r : Nat} (h : Rt n 0 r) : IsRoot n r := ⟨h.1, h.2.1⟩
theorem rt_lt {n g r : Nat} (h : Rt n g r) : H r ∧ H (2 ^ g / 2) := by
  obtain ⟨_, _, k, _, h4⟩ := h
  have := Nat.two_pow_pos g
  unfold H
  omega
theorem half_pow (g : Nat) : 2 ^ (g + 1) / 2 = 2 ^ g := by rw [Nat.pow_succ]; omega
theorem cmp_le {n m : Nat} : Ref.cmpN m n ≤ 0 ↔ m ≤ n := by
  unfold Ref.cmpN
  split
  · omega
  · split <;> omega
theorem row_struct (w : World) (xh xl : Nat) : (w.alloc (.cells #[.int .u64 xh, .int .u64 xl] 67)).heap[w.heap.size]? = some (.cells #[.int .u64 xh, .int .u64 xl] 67 (0, 0)) := heap_alloc_new _ _
theorem infoW : (Try.prog.info? 67).map (·.size) = some 2 := by kernel_rfl
theorem prodW {a b : Nat} (ha : H a) (hb : H b) : W128 (a * b) := by
  have h1 := Nat.mul_le_mul (Nat.le_sub_one_of_lt ha) (Nat.le_sub_one_of_lt hb)
  unfold W128
  omega
theorem mul_sq (m : Nat) (w : World) (hm : H m) : Calls Try.prog 44 #[.int .u64 m, .int .u64 m] w fun e w' => e = .returned (.agg #[.int .u64 ((m * m / 18446744073709551616 : Nat) : Int), .int .u64 ((m * m % 18446744073709551616 : Nat) : Int)]) ∧ Below w.heap.size w w' := mul_any m m w hm hm
theorem cmp_sq (m xh xl : Nat) (w : World) (hm : H m) (h1 : H xh) (h2 : H xl) :
    Calls Try.prog 53 #[.agg #[.int .u64 ((m * m / 18446744073709551616 : Nat) : Int), .int .u64 ((m * m % 18446744073709551616 : Nat) : Int)], .agg #[.int .u64 xh, .int .u64 xl]] w fun e w' => e = .returned (.int .i64 (Ref.cmpN (m * m) (num xh xl))) ∧ Below w.heap.size w w' := by
  have c := cmp_halves (m * m / 18446744073709551616) (m * m % 18446744073709551616) xh xl w (hi_H (prodW hm hm)) (lo_H _) h1 h2
  rw [num_of] at c
  exact c

end Go.Proofs.Ytmbmjdlcpjmnoaa.Wide
