/-
  Contracts of package wide: products, sums, differences, orders, lengths, told of natural numbers. Conditions: halves below 2^64.
-/
import Derived.Test.YtcelmgkjkdbliaaShelf
import Derived.Test.YtcelmgkjkdbliaaBt
import Derived.Test.YtcelmgkjkdbliaaWref
import Derived.BigGuardPart
namespace Go.Proofs.Ytcelmgkjkdbliaa.Wide
open Go.ChangeShapes Go.WideShapes Go.ChangeAt Go.RowKit
open Arr Bt
set_option linter.unusedVariables false
set_option maxRecDepth 100000

/-- Below 2^64. -/
def H (n : Nat) : Prop := n < 18446744073709551616
theorem H.lt {n : Nat} (h : H n) : n < 18446744073709551616 := h
/-- The number of two halves. -/
def num (hi lo : Nat) : Nat := hi * 18446744073709551616 + lo
theorem num_hi {hi lo : Nat} (l : H lo) : num hi lo / 18446744073709551616 = hi := by unfold H at l; unfold num; omega
theorem num_lo {hi lo : Nat} (l : H lo) : num hi lo % 18446744073709551616 = lo := by unfold H at l; unfold num; omega
theorem num_of (n : Nat) : num (n / 18446744073709551616) (n % 18446744073709551616) = n := by unfold num; omega
theorem lo_H (n : Nat) : H (n % 18446744073709551616) := by unfold H; omega
theorem hi_H {n : Nat} (h : W128 n) : H (n / 18446744073709551616) := by unfold H; unfold W128 at h; omega
/-- A number as the program has it. -/
def UV (n : Nat) : Value := .agg #[.int .u64 ((n / 18446744073709551616 : Nat) : Int), .int .u64 ((n % 18446744073709551616 : Nat) : Int)]
theorem uv_num {hi lo : Nat} (l : H lo) : UV (num hi lo) = .agg #[.int .u64 hi, .int .u64 lo] := by unfold UV; rw [num_hi l, num_lo l]

theorem mul_any (a b : Nat) (w : World) (ha : H a) (hb : H b) :
    Calls Try.prog 20 #[.int .u64 a, .int .u64 b] w fun e w' => e = .returned (UV (a * b)) ∧ Below w.heap.size w w' := by
  have c := fun W => Shelf.bits_Mul64 a b ha hb W
  unfold UV
  generalize a * b / 18446744073709551616 = hi at *
  generalize a * b % 18446744073709551616 = lo at *
  clear ha hb
  go_enter Try.func20, Try.ntmps20
  go_wp2_with (go_at_call 27; ((with_reducible refine (c _).mono ?_); rintro e w' ⟨rfl, hw⟩; rw [hw]))
  refine bodyPost_ret (by simp [results, Try.results20, go_sem]) rfl ⟨rfl, ?_⟩
  exact (Below.refl _ _).alloc (Nat.le_refl _) _
theorem add_halves (xh xl yh yl : Nat) (w : World) (h1 : H xh) (h2 : H xl) (h3 : H yh) (h4 : H yl) :
    Calls Try.prog 24 #[.agg #[.int .u64 xh, .int .u64 xl], .agg #[.int .u64 yh, .int .u64 yl]] w fun e w' =>
      e = .returned (.tuple #[UV ((num xh xl + num yh yl) % 340282366920938463463374607431768211456), .bool (decide (340282366920938463463374607431768211456 ≤ num xh xl + num yh yl))]) ∧ Below w.heap.size w w' := by
  obtain ⟨s, hs⟩ : ∃ s, s = (xl + yl + 0) % 18446744073709551616 := ⟨_, rfl⟩
  obtain ⟨c, hc⟩ : ∃ c, c = (xl + yl + 0) / 18446744073709551616 := ⟨_, rfl⟩
  obtain ⟨t, ht⟩ : ∃ t, t = (xh + yh + c) % 18446744073709551616 := ⟨_, rfl⟩
  obtain ⟨d, hd⟩ : ∃ d, d = (xh + yh + c) / 18446744073709551616 := ⟨_, rfl⟩
  have e0 := Shelf.add64 xl yl 0 (by omega) h2 h4
  rw [← hs, ← hc] at e0
  have e1 : ∀ w, (callFunc 29 #[.int .u64 xl, .int .u64 yl, .int .u64 0]).run Try.prog w = .ok (.value (.tuple #[.int .u64 s, .int .u64 c])) w := e0
  clear e0
  have e2 := Shelf.add64 xh yh c (by unfold H at h2 h4; omega) h1 h3
  rw [← ht, ← hd] at e2
  have r1 : UV ((num xh xl + num yh yl) % 340282366920938463463374607431768211456) = .agg #[.int .u64 t, .int .u64 s] := by
    unfold UV
    unfold H at *
    rw [show (num xh xl + num yh yl) % 340282366920938463463374607431768211456 / 18446744073709551616 = t by unfold num; omega, show (num xh xl + num yh yl) % 340282366920938463463374607431768211456 % 18446744073709551616 = s by unfold num; omega]
  have r2 : decide (340282366920938463463374607431768211456 ≤ num xh xl + num yh yl) = (((d : Nat) : Int) != 0) := by
    unfold H at *
    by_cases h0 : d = 0
    · have : ((d : Int) != 0) = false := by simp [h0]
      rw [this]
      exact decide_eq_false (by unfold num; omega)
    · have : ((d : Int) != 0) = true := by simp [h0]
      rw [this]
      exact decide_eq_true (by unfold num; omega)
  rw [r1, r2]
  clear r1 r2 hs hc ht hd h1 h2 h3 h4
  go_enter Try.func24, Try.ntmps24
  go_wp2
  refine bodyPost_ret (by simp [results, Try.results24, go_sem]) rfl ⟨rfl, ?_⟩
  exact (((Below.refl _ _).alloc (Nat.le_refl _) _).alloc (by simp) _).alloc (by simp; omega) _
theorem cmp_halves (xh xl yh yl : Nat) (w : World) (h1 : H xh) (h2 : H xl) (h3 : H yh) (h4 : H yl) :
    Calls Try.prog 30 #[.agg #[.int .u64 xh, .int .u64 xl], .agg #[.int .u64 yh, .int .u64 yl]] w fun e w' =>
      e = .returned (.int .i64 (Ref.cmpN (num xh xl) (num yh yl))) ∧ Below w.heap.size w w' := by
  unfold H at h1 h2 h3 h4
  by_cases he : xh = yh ∧ xl = yl
  · obtain ⟨rfl, rfl⟩ := he
    rw [Ref.cmp_eq]
    clear h1 h2 h3 h4
    go_enter Try.func30, Try.ntmps30
    go_wp2
    go_ret
    exact ⟨rfl, ((Below.refl _ _).alloc (Nat.le_refl _) _).alloc (by simp) _⟩
  by_cases ha : xh < yh
  · have t1 : ((xh : Int) == (yh : Int)) = false := by simp; omega
    have t2 : decide ((xh : Int) < (yh : Int)) = true := by simp; omega
    rw [Ref.cmp_lt (by unfold num; omega)]
    clear h1 h2 h3 h4 he
    go_enter Try.func30, Try.ntmps30
    go_wp2
    go_ret
    exact ⟨rfl, ((Below.refl _ _).alloc (Nat.le_refl _) _).alloc (by simp) _⟩
  by_cases hb : xh = yh
  · subst hb
    have hn : ¬ xl = yl := fun e => he ⟨rfl, e⟩
    have t1 : ((xl : Int) == (yl : Int)) = false := by simp; omega
    have t2 : decide ((xh : Int) < (xh : Int)) = false := by simp
    by_cases hc : xl < yl
    · have t3 : decide ((xl : Int) < (yl : Int)) = true := by simp; omega
      rw [Ref.cmp_lt (by unfold num; omega)]
      clear h1 h2 h3 h4 he
      go_enter Try.func30, Try.ntmps30
      go_wp2
      go_ret
      exact ⟨rfl, ((Below.refl _ _).alloc (Nat.le_refl _) _).alloc (by simp) _⟩
    · have t3 : decide ((xl : Int) < (yl : Int)) = false := by simp; omega
      rw [Ref.cmp_gt (by unfold num; omega)]
      clear h1 h2 h3 h4 he
      go_enter Try.func30, Try.ntmps30
      go_wp2
      go_ret
      exact ⟨rfl, ((Below.refl _ _).alloc (Nat.le_refl _) _).alloc (by simp) _⟩
  · have t1 : ((xh : Int) == (yh : Int)) = false := by simp; omega
    have t2 : decide ((xh : Int) < (yh : Int)) = false := by simp; omega
    rw [Ref.cmp_gt (by unfold num; omega)]
    clear h1 h2 h3 h4 he
    go_enter Try.func30, Try.ntmps30
    go_wp2
    go_ret
    exact ⟨rfl, ((Below.refl _ _).alloc (Nat.le_refl _) _).alloc (by simp) _⟩
end Go.Proofs.Ytcelmgkjkdbliaa.Wide
