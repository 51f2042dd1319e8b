/-
  Times told by integers: its digits stand for the product. No condition but that both factors fit.
-/
import Derived.Test.YtnlcchelepnknaaTimes
namespace Go.Proofs.Ytnlcchelepnknaa.Ref
open Go.ChangeShapes Go.WideShapes Go.ChangeAt Go.RowKit
open Num
set_option linter.unusedVariables false

theorem mult_digits {p00 p01 p10 p11 z0 z1 z2 z3 : Int} (h : Mult p00 p01 p10 p11 z0 z1 z2 z3) (h00 : 0 ≤ p00) (h01 : 0 ≤ p01) (h10 : 0 ≤ p10) (h11 : 0 ≤ p11) :
    z0 = (p00 + 4294967296 * p01 + 4294967296 * p10 + 18446744073709551616 * p11) % 4294967296 ∧
    z1 = (p00 + 4294967296 * p01 + 4294967296 * p10 + 18446744073709551616 * p11) / 4294967296 % 4294967296 ∧
    z2 = (p00 + 4294967296 * p01 + 4294967296 * p10 + 18446744073709551616 * p11) / 18446744073709551616 % 4294967296 ∧
    z3 = (p00 + 4294967296 * p01 + 4294967296 * p10 + 18446744073709551616 * p11) / 79228162514264337593543950336 := by
  obtain ⟨c1, m1, c2, m2, c3, e0, e1, e2, e3, e4, e5, e6, e7, e8⟩ := h
  obtain ⟨d0, d1, d2, d3⟩ := digits_of (n := p00 + 4294967296 * p01 + 4294967296 * p10 + 18446744073709551616 * p11) (o0 := z0) (o1 := z1) (o2 := z2) (o3 := z3) (by omega) (by omega) (by omega) (by omega) (by omega) (by omega) (by omega)
  exact ⟨d0.symm, d1.symm, d2.symm, d3.symm⟩
theorem prod_expand (a0 a1 b0 b1 : Int) : (a0 + 4294967296 * a1) * (b0 + 4294967296 * b1) = a0 * b0 + 4294967296 * (a0 * b1) + 4294967296 * (a1 * b0) + 18446744073709551616 * (a1 * b1) := by
  rw [Int.add_mul, Int.mul_add, Int.mul_add]
  have e1 : a0 * (4294967296 * b1) = 4294967296 * (a0 * b1) := by ac_rfl
  have e2 : 4294967296 * a1 * b0 = 4294967296 * (a1 * b0) := by ac_rfl
  have e3 : 4294967296 * a1 * (4294967296 * b1) = 4294967296 * (4294967296 * (a1 * b1)) := by ac_rfl
  rw [e1, e2, e3]; omega
theorem exact_num (a b : Int) : IsNum (a * b) (sg a * sg b) (abs a * abs b % 4294967296) (abs a * abs b / 4294967296 % 4294967296) (abs a * abs b / 18446744073709551616 % 4294967296) (abs a * abs b / 79228162514264337593543950336) := by
  have one : ∀ c : Int, sg c = 1 ∨ sg c = -1 := fun c => by unfold sg; split <;> simp
  have back : ∀ c : Int, sg c * abs c = c := fun c => by unfold sg abs; split <;> omega
  have pos : ∀ c : Int, 0 ≤ abs c := fun c => by unfold abs; split <;> omega
  refine ⟨abs a * abs b, ?_, Int.mul_nonneg (pos a) (pos b), ?_, rfl, rfl, rfl, rfl⟩
  · rcases one a with h | h <;> rcases one b with k | k <;> rw [h, k] <;> simp
  · calc sg a * sg b * (abs a * abs b) = (sg a * abs a) * (sg b * abs b) := by ac_rfl
      _ = a * b := by rw [back a, back b]
end Go.Proofs.Ytnlcchelepnknaa.Ref
