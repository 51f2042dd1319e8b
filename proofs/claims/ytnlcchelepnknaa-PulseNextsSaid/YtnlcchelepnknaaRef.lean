/-
  Contracts of the functions of package odographref01: numbers as four digits of 2^32 with a sign; what each returns, told of integers. Conditions: digits below 2^32, the sums below 2^128.
-/
import Derived.Test.YtnlcchelepnknaaNum
import Derived.Deep.QuietTactic
import Derived.BigQuiet
import Derived.LoopTactic
import Derived.Below
import Derived.Deep.Draws
namespace Go.Proofs.Ytnlcchelepnknaa.Ref
open Go.ChangeShapes Go.WideShapes Go.ChangeAt Go.RowKit
open Num
set_option linter.unusedVariables false

theorem below_drewN {B : Nat} {a w : World} (h : Below B a w) (n : Nat) : Below B a (w.drewN n) := ⟨h.os, h.tape, h.output, h.size, h.block⟩

/-- Four digits of 2^32, the lowest one first. -/
def D4 (n : Int) : Value := .agg #[.int .u64 (n % 4294967296), .int .u64 (n / 4294967296 % 4294967296), .int .u64 (n / 18446744073709551616 % 4294967296), .int .u64 (n / 79228162514264337593543950336)]
/-- A number: its sign and its digits. -/
def NV (s n : Int) : Value := .agg #[.int .i64 s, .int .u64 (n % 4294967296), .int .u64 (n / 4294967296 % 4294967296), .int .u64 (n / 18446744073709551616 % 4294967296), .int .u64 (n / 79228162514264337593543950336)]

theorem rsize_any (a : Int) (w : World) (ha : Fits a) :
    Calls Try.prog 18 #[.int .i64 a] w fun e w' => e = .returned (.int .u64 (abs a)) ∧ w = w' := by
  obtain ⟨ha1, ha2⟩ := ha
  by_cases hn : a < 0
  · have hz : abs a = -(a + 1) + 1 := by unfold abs; rw [if_pos hn]; omega
    have hl : ¬ 0 ≤ a := by omega
    go_enter Try.func18, Try.ntmps18
    go_wp2
    go_ret
    exact ⟨rfl, rfl⟩
  · have hz : abs a = a := by unfold abs; rw [if_neg hn]
    rw [hz]
    clear hz
    go_enter Try.func18, Try.ntmps18
    go_wp2
    go_ret
    exact ⟨rfl, rfl⟩

/-- The sign of a number as Of tells it. -/
def sg (a : Int) : Int := if a < 0 then -1 else 1
theorem of_any (a : Int) (w : World) (ha : Fits a) :
    Calls Try.prog 13 #[.int .i64 a] w fun e w' => e = .returned (NV (sg a) (abs a)) ∧ Below w.heap.size w w' := by
  have c := fun W => rsize_any a W ha
  obtain ⟨ha1, ha2⟩ := ha
  have b1 : 0 ≤ abs a := by unfold abs; split <;> omega
  have b2 : abs a ≤ 9223372036854775808 := by unfold abs; split <;> omega
  generalize abs a = n at *
  have d0 : n / 4294967296 % 4294967296 = n / 4294967296 := by omega
  have d1 : n / 18446744073709551616 % 4294967296 = 0 := by omega
  have d2 : n / 79228162514264337593543950336 = 0 := by omega
  have E : NV (sg a) n = .agg #[.int .i64 (sg a), .int .u64 (n % 4294967296), .int .u64 (n / 4294967296), .int .u64 0, .int .u64 0] := by
    unfold NV; rw [d0, d1, d2]
  rw [E]
  clear E d0 d1 d2
  by_cases hn : a < 0
  · have hs : sg a = -1 := by unfold sg; rw [if_pos hn]
    rw [hs]
    clear hs
    go_enter Try.func13, Try.ntmps13
    go_wp2_with (go_at_call 18; refine (c _).mono ?_; rintro e w' ⟨rfl, rfl⟩)
    refine bodyPost_ret (by simp [results, Try.results13, go_sem]) rfl ⟨rfl, ?_⟩
    exact ((Below.refl _ _).alloc (Nat.le_refl _) _).alloc (by simp) _
  · have hs : sg a = 1 := by unfold sg; rw [if_neg hn]
    rw [hs]
    clear hs
    go_enter Try.func13, Try.ntmps13
    go_wp2_with (go_at_call 18; refine (c _).mono ?_; rintro e w' ⟨rfl, rfl⟩)
    refine bodyPost_ret (by simp [results, Try.results13, go_sem]) rfl ⟨rfl, ?_⟩
    exact ((Below.refl _ _).alloc (Nat.le_refl _) _).alloc (by simp) _
theorem less_four (a0 a1 a2 a3 b0 b1 b2 b3 : Int) (w : World) :
    Calls Try.prog 15 #[.agg #[.int .u64 a0, .int .u64 a1, .int .u64 a2, .int .u64 a3], .agg #[.int .u64 b0, .int .u64 b1, .int .u64 b2, .int .u64 b3]] w fun e w' =>
      e = .returned (.bool (if a3 = b3 then if a2 = b2 then if a1 = b1 then decide (a0 < b0) else decide (a1 < b1) else decide (a2 < b2) else decide (a3 < b3))) ∧ Below w.heap.size w w' := by
  by_cases h3 : a3 = b3
  · rw [if_pos h3]
    subst h3
    by_cases h2 : a2 = b2
    · rw [if_pos h2]
      subst h2
      by_cases h1 : a1 = b1
      · rw [if_pos h1]
        subst h1
        by_cases h0 : a0 = b0
        · subst h0
          go_enter Try.func15, Try.ntmps15
          go_wp2
          refine wp_loop_rounds 5 ?_
          rw [rounds_succ]
          go_wp2
          go_quiet (fail)
          go_wp2
          rw [rounds_succ]
          go_wp2
          go_quiet (fail)
          go_wp2
          rw [rounds_succ]
          go_wp2
          go_quiet (fail)
          go_wp2
          rw [rounds_succ]
          go_wp2
          go_quiet (fail)
          go_wp2
          rw [rounds_succ]
          go_wp2
          go_ret
          refine ⟨by simp, ?_⟩
          repeat (with_reducible apply below_drewN)
          exact ((Below.refl _ _).alloc (Nat.le_refl _) _).alloc (by simp) _
        · have e : (a0 != b0) = true := by simpa using h0
          go_enter Try.func15, Try.ntmps15
          go_wp2
          refine wp_loop_rounds 5 ?_
          rw [rounds_succ]
          go_wp2
          go_quiet (fail)
          go_wp2
          rw [rounds_succ]
          go_wp2
          go_quiet (fail)
          go_wp2
          rw [rounds_succ]
          go_wp2
          go_quiet (fail)
          go_wp2
          rw [rounds_succ]
          go_wp2
          go_quiet (fail)
          go_wp2
          go_quiet (fail)
          go_wp2
          go_ret
          refine ⟨rfl, ?_⟩
          repeat (with_reducible apply below_drewN)
          exact ((Below.refl _ _).alloc (Nat.le_refl _) _).alloc (by simp) _
      · have e : (a1 != b1) = true := by simpa using h1
        rw [if_neg h1]
        go_enter Try.func15, Try.ntmps15
        go_wp2
        refine wp_loop_rounds 5 ?_
        rw [rounds_succ]
        go_wp2
        go_quiet (fail)
        go_wp2
        rw [rounds_succ]
        go_wp2
        go_quiet (fail)
        go_wp2
        rw [rounds_succ]
        go_wp2
        go_quiet (fail)
        go_wp2
        go_quiet (fail)
        go_wp2
        go_ret
        refine ⟨rfl, ?_⟩
        repeat (with_reducible apply below_drewN)
        exact ((Below.refl _ _).alloc (Nat.le_refl _) _).alloc (by simp) _
    · have e : (a2 != b2) = true := by simpa using h2
      rw [if_neg h2]
      go_enter Try.func15, Try.ntmps15
      go_wp2
      refine wp_loop_rounds 5 ?_
      rw [rounds_succ]
      go_wp2
      go_quiet (fail)
      go_wp2
      rw [rounds_succ]
      go_wp2
      go_quiet (fail)
      go_wp2
      go_quiet (fail)
      go_wp2
      go_ret
      refine ⟨rfl, ?_⟩
      repeat (with_reducible apply below_drewN)
      exact ((Below.refl _ _).alloc (Nat.le_refl _) _).alloc (by simp) _
  · have e : (a3 != b3) = true := by simpa using h3
    rw [if_neg h3]
    go_enter Try.func15, Try.ntmps15
    go_wp2
    refine wp_loop_rounds 5 ?_
    rw [rounds_succ]
    go_wp2
    go_quiet (fail)
    go_wp2
    go_quiet (fail)
    go_wp2
    go_ret
    refine ⟨rfl, ?_⟩
    repeat (with_reducible apply below_drewN)
    exact ((Below.refl _ _).alloc (Nat.le_refl _) _).alloc (by simp) _
set_option maxHeartbeats 1000000 in
theorem plus_four (a0 a1 a2 a3 b0 b1 b2 b3 : Int) (w : World)
    (p0 : 0 ≤ a0) (q0 : a0 ≤ 4294967295) (p1 : 0 ≤ a1) (q1 : a1 ≤ 4294967295) (p2 : 0 ≤ a2) (q2 : a2 ≤ 4294967295) (p3 : 0 ≤ a3) (q3 : a3 ≤ 4294967295)
    (r0 : 0 ≤ b0) (s0 : b0 ≤ 4294967295) (r1 : 0 ≤ b1) (s1 : b1 ≤ 4294967295) (r2 : 0 ≤ b2) (s2 : b2 ≤ 4294967295) (r3 : 0 ≤ b3) (s3 : b3 ≤ 4294967295) :
    Calls Try.prog 16 #[.agg #[.int .u64 a0, .int .u64 a1, .int .u64 a2, .int .u64 a3], .agg #[.int .u64 b0, .int .u64 b1, .int .u64 b2, .int .u64 b3]] w fun e w' =>
      (∃ o0 o1 o2 o3 c1 c2 c3, e = .returned (.agg #[.int .u64 o0, .int .u64 o1, .int .u64 o2, .int .u64 o3]) ∧
        o0 = (a0 + b0) % 4294967296 ∧ c1 = (a0 + b0) / 4294967296 ∧ o1 = (a1 + b1 + c1) % 4294967296 ∧ c2 = (a1 + b1 + c1) / 4294967296 ∧
        o2 = (a2 + b2 + c2) % 4294967296 ∧ c3 = (a2 + b2 + c2) / 4294967296 ∧ o3 = (a3 + b3 + c3) % 4294967296) ∧ Below w.heap.size w w' := by
  go_enter Try.func16, Try.ntmps16
  go_wp2
  refine wp_loop_rounds 5 ?_
  rw [rounds_succ]
  go_wp2
  go_quiet (fail)
  go_wp2
  rw [rounds_succ]
  go_wp2
  go_quiet (fail)
  go_wp2
  rw [rounds_succ]
  go_wp2
  go_quiet (fail)
  go_wp2
  rw [rounds_succ]
  go_wp2
  go_quiet (fail)
  go_wp2
  rw [rounds_succ]
  go_wp2
  refine bodyPost_ret (v := ?v) ?h1 rfl ?h2
  case h1 => simp [results, Try.results16, go_sem]; rfl
  case h2 =>
    refine ⟨⟨_, _, _, _, _, _, _, rfl, rfl, rfl, rfl, rfl, rfl, rfl, rfl⟩, ?_⟩
    repeat (first | (with_reducible exact Below.refl _ _) | (with_reducible refine below_drewN ?_ _) | (with_reducible refine Below.setCell ?_ (by first | (simp; done) | (simp; omega)) _) | (with_reducible refine Below.alloc ?_ (by first | (simp; done) | (simp; omega)) _))
set_option maxHeartbeats 1000000 in
theorem minus_four (a0 a1 a2 a3 b0 b1 b2 b3 : Int) (w : World)
    (p0 : 0 ≤ a0) (q0 : a0 ≤ 4294967295) (p1 : 0 ≤ a1) (q1 : a1 ≤ 4294967295) (p2 : 0 ≤ a2) (q2 : a2 ≤ 4294967295) (p3 : 0 ≤ a3) (q3 : a3 ≤ 4294967295)
    (r0 : 0 ≤ b0) (s0 : b0 ≤ 4294967295) (r1 : 0 ≤ b1) (s1 : b1 ≤ 4294967295) (r2 : 0 ≤ b2) (s2 : b2 ≤ 4294967295) (r3 : 0 ≤ b3) (s3 : b3 ≤ 4294967295) :
    Calls Try.prog 17 #[.agg #[.int .u64 a0, .int .u64 a1, .int .u64 a2, .int .u64 a3], .agg #[.int .u64 b0, .int .u64 b1, .int .u64 b2, .int .u64 b3]] w fun e w' =>
      (∃ o0 o1 o2 o3 c1 c2 c3, e = .returned (.agg #[.int .u64 o0, .int .u64 o1, .int .u64 o2, .int .u64 o3]) ∧
        o0 = (a0 + 4294967296 - b0) % 4294967296 ∧ c1 = 1 - (a0 + 4294967296 - b0) / 4294967296 ∧
        o1 = (a1 + 4294967296 - b1 - c1) % 4294967296 ∧ c2 = 1 - (a1 + 4294967296 - b1 - c1) / 4294967296 ∧
        o2 = (a2 + 4294967296 - b2 - c2) % 4294967296 ∧ c3 = 1 - (a2 + 4294967296 - b2 - c2) / 4294967296 ∧ o3 = (a3 + 4294967296 - b3 - c3) % 4294967296) ∧ Below w.heap.size w w' := by
  go_enter Try.func17, Try.ntmps17
  go_wp2
  refine wp_loop_rounds 5 ?_
  rw [rounds_succ]
  go_wp2
  go_quiet (fail)
  go_wp2
  rw [rounds_succ]
  go_wp2
  go_quiet (fail)
  go_wp2
  rw [rounds_succ]
  go_wp2
  go_quiet (fail)
  go_wp2
  rw [rounds_succ]
  go_wp2
  go_quiet (fail)
  go_wp2
  rw [rounds_succ]
  go_wp2
  refine bodyPost_ret (v := ?v) ?h1 rfl ?h2
  case h1 => simp [results, Try.results17, go_sem]; rfl
  case h2 =>
    refine ⟨⟨_, _, _, _, _, _, _, rfl, rfl, rfl, rfl, rfl, rfl, rfl, rfl⟩, ?_⟩
    repeat (first | (with_reducible exact Below.refl _ _) | (with_reducible refine below_drewN ?_ _) | (with_reducible refine Below.setCell ?_ (by first | (simp; done) | (simp; omega)) _) | (with_reducible refine Below.alloc ?_ (by first | (simp; done) | (simp; omega)) _))
/-- A number of four digits. -/
def Four (n : Int) : Prop := 0 ≤ n ∧ n < 340282366920938463463374607431768211456
theorem digits_of {n o0 o1 o2 o3 : Int} (h : n = o0 + 4294967296 * o1 + 18446744073709551616 * o2 + 79228162514264337593543950336 * o3)
    (p0 : 0 ≤ o0) (q0 : o0 ≤ 4294967295) (p1 : 0 ≤ o1) (q1 : o1 ≤ 4294967295) (p2 : 0 ≤ o2) (q2 : o2 ≤ 4294967295) :
    n % 4294967296 = o0 ∧ n / 4294967296 % 4294967296 = o1 ∧ n / 18446744073709551616 % 4294967296 = o2 ∧ n / 79228162514264337593543950336 = o3 := by
  omega
theorem of_digits (n : Int) : n = n % 4294967296 + 4294967296 * (n / 4294967296 % 4294967296) + 18446744073709551616 * (n / 18446744073709551616 % 4294967296) + 79228162514264337593543950336 * (n / 79228162514264337593543950336) := by
  omega
theorem four_top {n : Int} (h : Four n) : 0 ≤ n / 79228162514264337593543950336 ∧ n / 79228162514264337593543950336 ≤ 4294967295 := by
  unfold Four at h; omega
theorem less_any (n m : Int) (w : World) :
    Calls Try.prog 15 #[D4 n, D4 m] w fun e w' => e = .returned (.bool (decide (n < m))) ∧ Below w.heap.size w w' := by
  refine (less_four _ _ _ _ _ _ _ _ w).mono ?_
  rintro e w' ⟨rfl, hb⟩
  refine ⟨?_, hb⟩
  congr 2
  have e1 := of_digits n
  have e2 := of_digits m
  have n0 := Int.emod_nonneg n (b := 4294967296) (by decide)
  have n0' := Int.emod_lt_of_pos n (b := 4294967296) (by decide)
  have n1 := Int.emod_nonneg (n / 4294967296) (b := 4294967296) (by decide)
  have n1' := Int.emod_lt_of_pos (n / 4294967296) (b := 4294967296) (by decide)
  have n2 := Int.emod_nonneg (n / 18446744073709551616) (b := 4294967296) (by decide)
  have n2' := Int.emod_lt_of_pos (n / 18446744073709551616) (b := 4294967296) (by decide)
  have m0 := Int.emod_nonneg m (b := 4294967296) (by decide)
  have m0' := Int.emod_lt_of_pos m (b := 4294967296) (by decide)
  have m1 := Int.emod_nonneg (m / 4294967296) (b := 4294967296) (by decide)
  have m1' := Int.emod_lt_of_pos (m / 4294967296) (b := 4294967296) (by decide)
  have m2 := Int.emod_nonneg (m / 18446744073709551616) (b := 4294967296) (by decide)
  have m2' := Int.emod_lt_of_pos (m / 18446744073709551616) (b := 4294967296) (by decide)
  generalize n % 4294967296 = a0 at *
  generalize n / 4294967296 % 4294967296 = a1 at *
  generalize n / 18446744073709551616 % 4294967296 = a2 at *
  generalize n / 79228162514264337593543950336 = a3 at *
  generalize m % 4294967296 = b0 at *
  generalize m / 4294967296 % 4294967296 = b1 at *
  generalize m / 18446744073709551616 % 4294967296 = b2 at *
  generalize m / 79228162514264337593543950336 = b3 at *
  by_cases h3 : a3 = b3
  · rw [if_pos h3]
    by_cases h2 : a2 = b2
    · rw [if_pos h2]
      by_cases h1 : a1 = b1
      · rw [if_pos h1]; exact decide_eq_decide.2 (by omega)
      · rw [if_neg h1]; exact decide_eq_decide.2 (by omega)
    · rw [if_neg h2]; exact decide_eq_decide.2 (by omega)
  · rw [if_neg h3]; exact decide_eq_decide.2 (by omega)
theorem plus_any (n m : Int) (w : World) (hn : Four n) (hm : Four m) (h : Four (n + m)) :
    Calls Try.prog 16 #[D4 n, D4 m] w fun e w' => e = .returned (D4 (n + m)) ∧ Below w.heap.size w w' := by
  have n0 := Int.emod_nonneg n (b := 4294967296) (by decide)
  have n0' := Int.emod_lt_of_pos n (b := 4294967296) (by decide)
  have n1 := Int.emod_nonneg (n / 4294967296) (b := 4294967296) (by decide)
  have n1' := Int.emod_lt_of_pos (n / 4294967296) (b := 4294967296) (by decide)
  have n2 := Int.emod_nonneg (n / 18446744073709551616) (b := 4294967296) (by decide)
  have n2' := Int.emod_lt_of_pos (n / 18446744073709551616) (b := 4294967296) (by decide)
  have m0 := Int.emod_nonneg m (b := 4294967296) (by decide)
  have m0' := Int.emod_lt_of_pos m (b := 4294967296) (by decide)
  have m1 := Int.emod_nonneg (m / 4294967296) (b := 4294967296) (by decide)
  have m1' := Int.emod_lt_of_pos (m / 4294967296) (b := 4294967296) (by decide)
  have m2 := Int.emod_nonneg (m / 18446744073709551616) (b := 4294967296) (by decide)
  have m2' := Int.emod_lt_of_pos (m / 18446744073709551616) (b := 4294967296) (by decide)
  obtain ⟨n3, n3'⟩ := four_top hn
  obtain ⟨m3, m3'⟩ := four_top hm
  refine (plus_four _ _ _ _ _ _ _ _ w n0 (by omega) n1 (by omega) n2 (by omega) n3 n3' m0 (by omega) m1 (by omega) m2 (by omega) m3 m3').mono ?_
  rintro e w' ⟨⟨o0, o1, o2, o3, c1, c2, c3, rfl, h0, g1, h1, g2, h2, g3, h3⟩, hb⟩
  refine ⟨?_, hb⟩
  have e1 := of_digits n
  have e2 := of_digits m
  unfold Four at h
  generalize n % 4294967296 = a0 at *
  generalize n / 4294967296 % 4294967296 = a1 at *
  generalize n / 18446744073709551616 % 4294967296 = a2 at *
  generalize n / 79228162514264337593543950336 = a3 at *
  generalize m % 4294967296 = b0 at *
  generalize m / 4294967296 % 4294967296 = b1 at *
  generalize m / 18446744073709551616 % 4294967296 = b2 at *
  generalize m / 79228162514264337593543950336 = b3 at *
  obtain ⟨d0, d1, d2, d3⟩ := digits_of (n := n + m) (o0 := o0) (o1 := o1) (o2 := o2) (o3 := o3) (by omega) (by omega) (by omega) (by omega) (by omega) (by omega) (by omega)
  unfold D4
  rw [d0, d1, d2, d3]
theorem minus_any (n m : Int) (w : World) (hn : Four n) (hm : Four m) (h : m ≤ n) :
    Calls Try.prog 17 #[D4 n, D4 m] w fun e w' => e = .returned (D4 (n - m)) ∧ Below w.heap.size w w' := by
  have n0 := Int.emod_nonneg n (b := 4294967296) (by decide)
  have n0' := Int.emod_lt_of_pos n (b := 4294967296) (by decide)
  have n1 := Int.emod_nonneg (n / 4294967296) (b := 4294967296) (by decide)
  have n1' := Int.emod_lt_of_pos (n / 4294967296) (b := 4294967296) (by decide)
  have n2 := Int.emod_nonneg (n / 18446744073709551616) (b := 4294967296) (by decide)
  have n2' := Int.emod_lt_of_pos (n / 18446744073709551616) (b := 4294967296) (by decide)
  have m0 := Int.emod_nonneg m (b := 4294967296) (by decide)
  have m0' := Int.emod_lt_of_pos m (b := 4294967296) (by decide)
  have m1 := Int.emod_nonneg (m / 4294967296) (b := 4294967296) (by decide)
  have m1' := Int.emod_lt_of_pos (m / 4294967296) (b := 4294967296) (by decide)
  have m2 := Int.emod_nonneg (m / 18446744073709551616) (b := 4294967296) (by decide)
  have m2' := Int.emod_lt_of_pos (m / 18446744073709551616) (b := 4294967296) (by decide)
  obtain ⟨n3, n3'⟩ := four_top hn
  obtain ⟨m3, m3'⟩ := four_top hm
  refine (minus_four _ _ _ _ _ _ _ _ w n0 (by omega) n1 (by omega) n2 (by omega) n3 n3' m0 (by omega) m1 (by omega) m2 (by omega) m3 m3').mono ?_
  rintro e w' ⟨⟨o0, o1, o2, o3, c1, c2, c3, rfl, h0, g1, h1, g2, h2, g3, h3⟩, hb⟩
  refine ⟨?_, hb⟩
  have e1 := of_digits n
  have e2 := of_digits m
  generalize n % 4294967296 = a0 at *
  generalize n / 4294967296 % 4294967296 = a1 at *
  generalize n / 18446744073709551616 % 4294967296 = a2 at *
  generalize n / 79228162514264337593543950336 = a3 at *
  generalize m % 4294967296 = b0 at *
  generalize m / 4294967296 % 4294967296 = b1 at *
  generalize m / 18446744073709551616 % 4294967296 = b2 at *
  generalize m / 79228162514264337593543950336 = b3 at *
  obtain ⟨d0, d1, d2, d3⟩ := digits_of (n := n - m) (o0 := o0) (o1 := o1) (o2 := o2) (o3 := o3) (by omega) (by omega) (by omega) (by omega) (by omega) (by omega) (by omega)
  unfold D4
  rw [d0, d1, d2, d3]
end Go.Proofs.Ytnlcchelepnknaa.Ref
