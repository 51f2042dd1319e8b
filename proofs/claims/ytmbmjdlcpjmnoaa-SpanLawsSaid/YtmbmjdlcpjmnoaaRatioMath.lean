/-
  Quotients rounded down and up, told of integers: what they leave, their order, and what is beyond 64 bits. No condition but that what is divided by isn't 0.
-/
import Derived.Test.YtmbmjdlcpjmnoaaRatioBeyond
namespace Go.Proofs.Ytmbmjdlcpjmnoaa.RatioRef
open Go.ChangeShapes Go.WideShapes Go.ChangeAt Go.RowKit
open Num Ref Ratio
set_option linter.unusedVariables false
set_option maxRecDepth 100000

/-- What a quotient leaves, rounded down. -/
theorem floor_left {p c q : Int} (h0 : c ≠ 0) (h : q = quo p c false) : (0 < c → 0 ≤ p - q * c ∧ p - q * c < c) ∧ (c < 0 → p - q * c ≤ 0 ∧ c < p - q * c) := by
  subst h
  unfold quo
  simp only [Bool.false_eq_true, if_false]
  refine ⟨fun hc => ?_, fun hc => ?_⟩
  · rw [Int.fdiv_eq_ediv_of_nonneg p (by omega)]
    have e := Int.mul_ediv_add_emod p c
    have e1 := Int.emod_nonneg p h0
    have e2 := Int.emod_lt_of_pos p hc
    rw [Int.mul_comm c] at e
    omega
  · rw [← Int.neg_fdiv_neg p c, Int.fdiv_eq_ediv_of_nonneg (-p) (by omega)]
    have e := Int.mul_ediv_add_emod (-p) (-c)
    have e1 := Int.emod_nonneg (-p) (b := -c) (by omega)
    have e2 := Int.emod_lt_of_pos (-p) (b := -c) (by omega)
    rw [Int.mul_comm (-c), Int.mul_neg] at e
    omega
theorem quo_up (p c : Int) : quo p c true = -quo (-p) c false := rfl
/-- What a quotient lacks, rounded up. -/
theorem ceil_left {p c q : Int} (h0 : c ≠ 0) (h : q = quo p c true) : (0 < c → p - q * c ≤ 0 ∧ -c < p - q * c) ∧ (c < 0 → 0 ≤ p - q * c ∧ p - q * c < -c) := by
  have k := floor_left (p := -p) (q := -q) h0 (by rw [h, quo_up]; omega)
  rw [Int.neg_mul] at k
  refine ⟨fun hc => ?_, fun hc => ?_⟩
  · have := k.1 hc; omega
  · have := k.2 hc; omega
theorem sgn_pos {z : Int} (h : 0 < z) : sgn z = 1 := by unfold sgn; rw [if_neg (by omega), if_pos h]
theorem sgn_neg {z : Int} (h : z < 0) : sgn z = -1 := by unfold sgn; rw [if_pos h]
theorem sgn_zero {z : Int} (h : z = 0) : sgn z = 0 := by subst h; rfl
theorem sgn_zero_iff (z : Int) : sgn z = 0 ↔ z = 0 := by
  unfold sgn; split
  · omega
  · split <;> omega
theorem lies_floor {p c q : Int} (h0 : c ≠ 0) (h : q = quo p c false) : liesB (p - q * c) c false = true := by
  obtain ⟨k1, k2⟩ := floor_left h0 h
  unfold liesB
  generalize p - q * c = z at *
  by_cases hz : z = 0
  · rw [sgn_zero hz]; simp
  · rcases Int.lt_or_gt_of_ne h0 with hc | hc
    · obtain ⟨a1, a2⟩ := k2 hc
      rw [sgn_neg (show z < 0 by omega), decide_eq_true hc, decide_eq_true (show z.natAbs < c.natAbs by omega)]
      rfl
    · obtain ⟨a1, a2⟩ := k1 hc
      rw [sgn_pos (show 0 < z by omega), decide_eq_false (show ¬ c < 0 by omega), decide_eq_true (show z.natAbs < c.natAbs by omega)]
      rfl
theorem lies_ceil {p c q : Int} (h0 : c ≠ 0) (h : q = quo p c true) : liesB (p - q * c) c true = true := by
  obtain ⟨k1, k2⟩ := ceil_left h0 h
  unfold liesB
  generalize p - q * c = z at *
  by_cases hz : z = 0
  · rw [sgn_zero hz]; simp
  · rcases Int.lt_or_gt_of_ne h0 with hc | hc
    · obtain ⟨a1, a2⟩ := k2 hc
      rw [sgn_pos (show 0 < z by omega), decide_eq_true hc, decide_eq_true (show z.natAbs < c.natAbs by omega)]
      rfl
    · obtain ⟨a1, a2⟩ := k1 hc
      rw [sgn_neg (show z < 0 by omega), decide_eq_false (show ¬ c < 0 by omega), decide_eq_true (show z.natAbs < c.natAbs by omega)]
      rfl
theorem mul_least {k c : Int} (hk : k ≤ -1) : (0 < c → k * c ≤ -c) ∧ (c < 0 → -c ≤ k * c) := by
  refine ⟨fun hc => ?_, fun hc => ?_⟩
  · have := Int.mul_le_mul_of_nonneg_right hk (show 0 ≤ c by omega); omega
  · have := Int.mul_le_mul_of_nonpos_right hk (show c ≤ 0 by omega); omega
theorem mul_most {k c : Int} (hk : 1 ≤ k) : (0 < c → c ≤ k * c) ∧ (c < 0 → k * c ≤ c) := by
  refine ⟨fun hc => ?_, fun hc => ?_⟩
  · have := Int.mul_le_mul_of_nonneg_right hk (show 0 ≤ c by omega); omega
  · have := Int.mul_le_mul_of_nonpos_right hk (show c ≤ 0 by omega); omega
theorem beyond_true {p c : Int} {up : Bool} (h0 : c ≠ 0) (hf : ¬ Fits (quo p c up)) : beyondB (p - -9223372036854775808 * c) (p - 9223372036854775807 * c) c up = true := by
  obtain ⟨q, hq⟩ : ∃ q, q = quo p c up := ⟨_, rfl⟩
  rw [← hq] at hf
  have el : p - -9223372036854775808 * c = (p - q * c) + (q + 9223372036854775808) * c := by rw [Int.add_mul]; omega
  have em : p - 9223372036854775807 * c = (p - q * c) + (q - 9223372036854775807) * c := by rw [Int.sub_mul]; omega
  rw [el, em]
  unfold beyondB
  have hcase : q + 9223372036854775808 ≤ -1 ∨ 1 ≤ q - 9223372036854775807 := by unfold Fits at hf; omega
  have hz : ∀ z : Int, 0 < z → decide (0 < sgn z) = true := fun z h => by rw [sgn_pos h]; rfl
  have hz' : ∀ z : Int, z < 0 → decide (0 < -sgn z) = true := fun z h => by rw [sgn_neg h]; rfl
  have hy : ∀ z : Int, z < 0 → decide (sgn z < 0) = true := fun z h => by rw [sgn_neg h]; rfl
  have hy' : ∀ z : Int, 0 < z → decide (-sgn z < 0) = true := fun z h => by rw [sgn_pos h]; rfl
  have hn : ∀ z : Int, c.natAbs ≤ z.natAbs → decide (z.natAbs < c.natAbs) = false := fun z h => decide_eq_false (by omega)
  cases up
  · obtain ⟨k1, k2⟩ := floor_left h0 hq
    generalize p - q * c = r at *
    rcases hcase with hk | hk
    · obtain ⟨m1, m2⟩ := mul_least (c := c) hk
      generalize (q + 9223372036854775808) * c = L at *
      rcases Int.lt_or_gt_of_ne h0 with hc | hc
      · have := k2 hc; have := m2 hc
        rw [if_pos hc, if_pos hc, hy' (r + L) (by omega)]; simp
      · have := k1 hc; have := m1 hc
        rw [if_neg (show ¬ c < 0 by omega), if_neg (show ¬ c < 0 by omega), hy (r + L) (by omega)]; simp
    · obtain ⟨m1, m2⟩ := mul_most (c := c) hk
      generalize (q - 9223372036854775807) * c = L at *
      rcases Int.lt_or_gt_of_ne h0 with hc | hc
      · have := k2 hc; have := m2 hc
        rw [if_pos hc, if_pos hc, hz' (r + L) (by omega), hn (r + L) (by omega)]; simp
      · have := k1 hc; have := m1 hc
        rw [if_neg (show ¬ c < 0 by omega), if_neg (show ¬ c < 0 by omega), hz (r + L) (by omega), hn (r + L) (by omega)]; simp
  · obtain ⟨k1, k2⟩ := ceil_left h0 hq
    generalize p - q * c = r at *
    rcases hcase with hk | hk
    · obtain ⟨m1, m2⟩ := mul_least (c := c) hk
      generalize (q + 9223372036854775808) * c = L at *
      rcases Int.lt_or_gt_of_ne h0 with hc | hc
      · have := k2 hc; have := m2 hc
        rw [if_pos hc, if_pos hc, hy' (r + L) (by omega), hn (r + L) (by omega)]; simp
      · have := k1 hc; have := m1 hc
        rw [if_neg (show ¬ c < 0 by omega), if_neg (show ¬ c < 0 by omega), hy (r + L) (by omega), hn (r + L) (by omega)]; simp
    · obtain ⟨m1, m2⟩ := mul_most (c := c) hk
      generalize (q - 9223372036854775807) * c = L at *
      rcases Int.lt_or_gt_of_ne h0 with hc | hc
      · have := k2 hc; have := m2 hc
        rw [if_pos hc, if_pos hc, hz' (r + L) (by omega)]; simp
      · have := k1 hc; have := m1 hc
        rw [if_neg (show ¬ c < 0 by omega), if_neg (show ¬ c < 0 by omega), hz (r + L) (by omega)]; simp
/-- Down and up a quotient is the same, or one apart. -/
theorem quo_both {p c f g : Int} (h0 : c ≠ 0) (hf : f = quo p c false) (hg : g = quo p c true) : (g = f ∧ p - f * c = 0) ∨ (g = f + 1 ∧ p - f * c ≠ 0) := by
  obtain ⟨k1, k2⟩ := floor_left h0 hf
  by_cases hz : p - f * c = 0
  · left
    refine ⟨?_, hz⟩
    rw [hg, quo_up]
    have hp : -p = -f * c := by rw [Int.neg_mul]; omega
    rw [hp]
    unfold quo
    simp only [Bool.false_eq_true, if_false]
    rw [Int.mul_fdiv_cancel _ h0]
    omega
  · right
    refine ⟨?_, hz⟩
    rw [hg, quo_up]
    unfold quo
    simp only [Bool.false_eq_true, if_false]
    have e : -(f + 1) * c = -(f * c) - c := by rw [Int.neg_mul, Int.add_mul]; omega
    rcases Int.lt_or_gt_of_ne h0 with hc | hc
    · have := k2 hc
      rw [fdiv_neg_of (q := -(f + 1)) hc (by rw [e]; omega) (by rw [e]; omega)]
      omega
    · have := k1 hc
      rw [fdiv_pos_of (q := -(f + 1)) hc (by rw [e]; omega) (by rw [e]; omega)]
      omega
/-- The other sign of it all turns the one into the other. -/
theorem quo_turned (a b c : Int) : quo (-a * b) c true = -quo (a * b) c false := by
  rw [quo_up, Int.neg_mul, Int.neg_neg]
theorem quo_mono {p r c : Int} (hc : 0 < c) (h : p ≤ r) (up : Bool) : quo p c up ≤ quo r c up := by
  unfold quo
  cases up
  · simp only [Bool.false_eq_true, if_false]
    rw [Int.fdiv_eq_ediv_of_nonneg p (by omega), Int.fdiv_eq_ediv_of_nonneg r (by omega)]
    exact Int.ediv_le_ediv hc h
  · simp only [if_true]
    rw [Int.fdiv_eq_ediv_of_nonneg (-p) (by omega), Int.fdiv_eq_ediv_of_nonneg (-r) (by omega)]
    have := Int.ediv_le_ediv hc (show -r ≤ -p by omega)
    omega
end Go.Proofs.Ytmbmjdlcpjmnoaa.RatioRef
