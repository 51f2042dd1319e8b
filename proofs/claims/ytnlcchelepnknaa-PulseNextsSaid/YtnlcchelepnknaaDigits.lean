/-
  The reference's functions told by the integer that the digits stand for. Conditions: integers below 2^127 in size.
-/
import Derived.Test.YtnlcchelepnknaaSum
import Derived.Test.YtnlcchelepnknaaBack
namespace Go.Proofs.Ytnlcchelepnknaa.Ref
open Go.ChangeShapes Go.WideShapes Go.ChangeAt Go.RowKit
open Num
set_option linter.unusedVariables false

/-- The sign u and the digits d0 .. d3 stand for the integer z. -/
def IsNum (z u d0 d1 d2 d3 : Int) : Prop :=
  ∃ n, (u = 1 ∨ u = -1) ∧ 0 ≤ n ∧ u * n = z ∧ d0 = n % 4294967296 ∧ d1 = n / 4294967296 % 4294967296 ∧ d2 = n / 18446744073709551616 % 4294967296 ∧ d3 = n / 79228162514264337593543950336
/-- Well within the room of four digits. -/
def Small (z : Int) : Prop := -85070591730234615865843651857942052864 < z ∧ z < 85070591730234615865843651857942052864
/-- The number if it fits, else 0; and whether it fits. -/
def fitOr (z : Int) : Int := if Fits z then z else 0
def fitB (z : Int) : Bool := decide (Fits z)

theorem isNum_size {z u n : Int} (hu : u = 1 ∨ u = -1) (h : u * n = z) (hz : Small z) (h0 : 0 ≤ n) : Half n := by
  unfold Small at hz; unfold Half
  rcases hu with rfl | rfl <;> omega
theorem of_num (a : Int) (w : World) (ha : Fits a) :
    Calls Try.prog 13 #[.int .i64 a] w fun e w' => (∃ u d0 d1 d2 d3, e = .returned (.agg #[.int .i64 u, .int .u64 d0, .int .u64 d1, .int .u64 d2, .int .u64 d3]) ∧ IsNum a u d0 d1 d2 d3) ∧ Below w.heap.size w w' := by
  refine (of_any a w ha).mono ?_
  rintro e w' ⟨rfl, hb⟩
  refine ⟨⟨_, _, _, _, _, rfl, abs a, ?_, ?_, ?_, rfl, rfl, rfl, rfl⟩, hb⟩
  · unfold sg; split <;> simp
  · unfold abs; split <;> omega
  · unfold abs sg; split <;> omega
theorem sum_num (z u d0 d1 d2 d3 y v c0 c1 c2 c3 : Int) (w : World) (h : IsNum z u d0 d1 d2 d3) (k : IsNum y v c0 c1 c2 c3) (hz : Small z) (hy : Small y) :
    Calls Try.prog 12 #[.agg #[.int .i64 u, .int .u64 d0, .int .u64 d1, .int .u64 d2, .int .u64 d3], .agg #[.int .i64 v, .int .u64 c0, .int .u64 c1, .int .u64 c2, .int .u64 c3]] w fun e w' =>
      (∃ u d0 d1 d2 d3, e = .returned (.agg #[.int .i64 u, .int .u64 d0, .int .u64 d1, .int .u64 d2, .int .u64 d3]) ∧ IsNum (z + y) u d0 d1 d2 d3) ∧ Below w.heap.size w w' := by
  obtain ⟨n, hu, h0, e1, rfl, rfl, rfl, rfl⟩ := h
  obtain ⟨m, hv, k0, e2, rfl, rfl, rfl, rfl⟩ := k
  have hn := isNum_size hu e1 hz h0
  have hm := isNum_size hv e2 hy k0
  by_cases huv : u = v
  · subst huv
    refine (sum_same u n m w hn hm).mono ?_
    rintro e w' ⟨rfl, hb⟩
    exact ⟨⟨_, _, _, _, _, rfl, n + m, hu, by omega, by rw [← e1, ← e2, Int.mul_add], rfl, rfl, rfl, rfl⟩, hb⟩
  · by_cases hl : n < m
    · refine (sum_less u v n m w huv hn hm hl).mono ?_
      rintro e w' ⟨rfl, hb⟩
      exact ⟨⟨_, _, _, _, _, rfl, m - n, hv, by omega, by rcases hu with rfl | rfl <;> rcases hv with rfl | rfl <;> omega, rfl, rfl, rfl, rfl⟩, hb⟩
    · refine (sum_more u v n m w huv hn hm (by omega)).mono ?_
      rintro e w' ⟨rfl, hb⟩
      exact ⟨⟨_, _, _, _, _, rfl, n - m, hu, by omega, by rcases hu with rfl | rfl <;> rcases hv with rfl | rfl <;> omega, rfl, rfl, rfl, rfl⟩, hb⟩
theorem back_num (z u d0 d1 d2 d3 : Int) (w : World) (h : IsNum z u d0 d1 d2 d3) :
    Calls Try.prog 11 #[.agg #[.int .i64 u, .int .u64 d0, .int .u64 d1, .int .u64 d2, .int .u64 d3]] w fun e w' => e = .returned (.tuple #[.int .i64 (sat z), .bool (fitB z)]) ∧ Below w.heap.size w w' := by
  obtain ⟨n, hu, h0, rfl, rfl, rfl, rfl, rfl⟩ := h
  exact back_any u n w hu h0
/-! The program's own calls, told in the same words -/
theorem add_num (a b : Int) (w : World) (ha : Fits a) (hb : Fits b) :
    Calls Try.prog 19 #[.int .i64 a, .int .i64 b] w fun e w' => e = .returned (.tuple #[.int .i64 (fitOr (a + b)), .bool (fitB (a + b))]) ∧ w = w' := by
  by_cases hf : Fits (a + b)
  · rw [show fitOr (a + b) = a + b from if_pos hf, show fitB (a + b) = true from decide_eq_true hf]; exact add_yes a b w ha hb hf
  · rw [show fitOr (a + b) = 0 from if_neg hf, show fitB (a + b) = false from decide_eq_false hf]; exact add_no a b w ha hb hf
theorem fits_small {a : Int} (h : Fits a) : Small a := by unfold Fits at h; unfold Small; omega
theorem fits_small_neg {a : Int} (h : Fits a) : Small (-a) := by unfold Fits at h; unfold Small; omega
end Go.Proofs.Ytnlcchelepnknaa.Ref
