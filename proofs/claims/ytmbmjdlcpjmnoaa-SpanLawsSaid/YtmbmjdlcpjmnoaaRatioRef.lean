/-
  The reference's numbers as layer 3's statements ask of them: the sign, the order of sizes, what a quotient leaves. Conditions: integers of 64 bits.
-/
import Derived.Test.YtmbmjdlcpjmnoaaProd
import Derived.Test.YtmbmjdlcpjmnoaaRatio
import Derived.Test.YtmbmjdlcpjmnoaaSteady
namespace Go.Proofs.Ytmbmjdlcpjmnoaa.RatioRef
open Go.ChangeShapes Go.WideShapes Go.ChangeAt Go.RowKit
open Num Ref Ratio Steady Arr
set_option linter.unusedVariables false
set_option maxRecDepth 100000

theorem less_num (z u d0 d1 d2 d3 y v c0 c1 c2 c3 : Int) (w : World) (h : IsNum z u d0 d1 d2 d3) (k : IsNum y v c0 c1 c2 c3) :
    Calls Try.prog 28 #[.agg #[.int .u64 d0, .int .u64 d1, .int .u64 d2, .int .u64 d3], .agg #[.int .u64 c0, .int .u64 c1, .int .u64 c2, .int .u64 c3]] w fun e w' =>
      e = .returned (.bool (decide (z.natAbs < y.natAbs))) ∧ Below w.heap.size w w' := by
  obtain ⟨n, hu, h0, rfl, rfl, rfl, rfl, rfl⟩ := h
  obtain ⟨m, hv, k0, rfl, rfl, rfl, rfl, rfl⟩ := k
  have e : decide (n < m) = decide ((u * n).natAbs < (v * m).natAbs) := by
    rw [decide_eq_decide]
    rcases hu with rfl | rfl <;> rcases hv with rfl | rfl <;> omega
  rw [← e]
  exact less_any n m w
/-- Well within the room of four digits. -/
def Mild (z : Int) : Prop := -170141183460469231731687303715884105728 < z ∧ z < 170141183460469231731687303715884105728
theorem sum_mild (z u d0 d1 d2 d3 y v c0 c1 c2 c3 : Int) (w : World) (h : IsNum z u d0 d1 d2 d3) (k : IsNum y v c0 c1 c2 c3) (hz : Mild z) (hy : Mild y) :
    Calls Try.prog 15 #[.agg #[.int .i64 u, .int .u64 d0, .int .u64 d1, .int .u64 d2, .int .u64 d3], .agg #[.int .i64 v, .int .u64 c0, .int .u64 c1, .int .u64 c2, .int .u64 c3]] w fun e w' =>
      (∃ u d0 d1 d2 d3, e = .returned (.agg #[.int .i64 u, .int .u64 d0, .int .u64 d1, .int .u64 d2, .int .u64 d3]) ∧ IsNum (z + y) u d0 d1 d2 d3) ∧ Below w.heap.size w w' := by
  obtain ⟨n, hu, h0, e1, rfl, rfl, rfl, rfl⟩ := h
  obtain ⟨m, hv, k0, e2, rfl, rfl, rfl, rfl⟩ := k
  have hn : Half n := by unfold Mild at hz; unfold Half; rcases hu with rfl | rfl <;> omega
  have hm : Half m := by unfold Mild at hy; unfold Half; rcases hv with rfl | rfl <;> omega
  by_cases huv : u = v
  · subst huv
    refine (sum_same u n m w hn hm).mono ?_
    rintro e w' ⟨rfl, hb⟩
    exact ⟨⟨_, _, _, _, _, rfl, n + m, hu, by omega, by rw [← e1, ← e2, Int.mul_add], rfl, rfl, rfl, rfl⟩, hb⟩
  · by_cases hl : n < m
    · refine (sum_less u v n m w huv hn hm hl).mono ?_
      rintro e w' ⟨rfl, hb⟩
      exact ⟨⟨_, _, _, _, _, rfl, m - n, hv, by omega, by rcases hu with rfl | rfl <;> rcases hv with rfl | rfl <;> omega, rfl, rfl, rfl, rfl⟩, hb⟩
    · refine (sum_more u v n m w huv hn hm (by omega)).mono ?_
      rintro e w' ⟨rfl, hb⟩
      exact ⟨⟨_, _, _, _, _, rfl, n - m, hu, by omega, by rcases hu with rfl | rfl <;> rcases hv with rfl | rfl <;> omega, rfl, rfl, rfl, rfl⟩, hb⟩
theorem prod_mild {a b : Int} (ha : Fits a) (hb : Fits b) : Mild (a * b) := by
  obtain ⟨A, _, nA, lA, _⟩ := fits_abs ha
  obtain ⟨B, _, nB, lB, _⟩ := fits_abs hb
  have h1 : A * B ≤ 85070591730234615865843651857942052864 := Nat.le_trans (Nat.mul_le_mul lA lB) (by decide)
  have h2 : (a * b).natAbs = A * B := by rw [Int.natAbs_mul, nA, nB]
  unfold Mild
  omega
theorem mild_neg {z : Int} (h : Mild z) : Mild (-z) := by unfold Mild at *; omega
theorem infoN : (Try.prog.info? 28).map (·.size) = some 5 := by kernel_rfl
theorem five_one (u d0 d1 d2 d3 : Int) : (#[Value.int .i64 u, .int .u64 d0, .int .u64 d1, .int .u64 d2, .int .u64 d3]).all (·.oneCell') = true := by simp [Value.oneCell']
end Go.Proofs.Ytmbmjdlcpjmnoaa.RatioRef
