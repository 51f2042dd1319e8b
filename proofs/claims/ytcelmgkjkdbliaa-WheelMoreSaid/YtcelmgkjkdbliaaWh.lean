/-
  Wheels, without a program: what is learned of a circumference. No condition.
-/
import Derived.Test.YtcelmgkjkdbliaaSn
namespace Go.Proofs.Ytcelmgkjkdbliaa.Wh
open Go.ChangeShapes Go.WideShapes Go.ChangeAt Go.RowKit
open Sn
set_option linter.unusedVariables false
set_option linter.unusedSimpArgs false

structure Lz where
  a : Int
  b : Int
  ok : Bool
/-- What is learned going forward. -/
def fwd (lo hi x y p n : Int) : Lz :=
  if n < 2 ∨ x ≤ 0 then ⟨lo, hi, false⟩
  else if min (up (y * p) (n - 1)) hi < max ((x * p) / (n + 1)) lo then ⟨lo, hi, false⟩
  else ⟨max ((x * p) / (n + 1)) lo, min (up (y * p) (n - 1)) hi, true⟩
def learn (lo hi x y p n : Int) : Lz := if n < 0 then fwd lo hi (-y) (-x) p (-n) else fwd lo hi x y p n
theorem fwd_in {lo hi x y p n : Int} (h : lo ≤ hi) : lo ≤ (fwd lo hi x y p n).a ∧ (fwd lo hi x y p n).b ≤ hi ∧ (fwd lo hi x y p n).a ≤ (fwd lo hi x y p n).b := by
  unfold fwd
  split
  · exact ⟨Int.le_refl _, Int.le_refl _, h⟩
  · split
    · exact ⟨Int.le_refl _, Int.le_refl _, h⟩
    · dsimp only
      omega
theorem learn_in {lo hi x y p n : Int} (h : lo ≤ hi) : lo ≤ (learn lo hi x y p n).a ∧ (learn lo hi x y p n).b ≤ hi ∧ (learn lo hi x y p n).a ≤ (learn lo hi x y p n).b := by
  unfold learn
  split
  · exact fwd_in h
  · exact fwd_in h
theorem fwd_true {lo hi x y p n own w : Int} (hp : 1 ≤ p) (h1 : lo ≤ own) (h2 : own ≤ hi) (h0 : 1 ≤ lo) (h3 : x ≤ w) (h4 : w ≤ y) (h5 : -own < n * own - w * p) (h6 : n * own - w * p < own) : (fwd lo hi x y p n).a ≤ own ∧ own ≤ (fwd lo hi x y p n).b := by
  unfold fwd
  split
  · exact ⟨h1, h2⟩
  · rename_i hn
    have k1 : x * p ≤ w * p := Int.mul_le_mul_of_nonneg_right h3 (by omega)
    have k2 : w * p ≤ y * p := Int.mul_le_mul_of_nonneg_right h4 (by omega)
    have e1 : own * (n + 1) = n * own + own := by rw [Int.mul_add, Int.mul_comm own n]; omega
    have e2 : own * (n - 1) = n * own - own := by rw [Int.mul_sub, Int.mul_comm own n]; omega
    have d1 : (x * p) / (n + 1) ≤ own := down_le (by omega) (by omega)
    have d2 : own ≤ up (y * p) (n - 1) := le_up (by omega) (by omega)
    split
    · exact ⟨h1, h2⟩
    · dsimp only
      omega
theorem learn_true {lo hi x y p n own w : Int} (hp : 1 ≤ p) (h1 : lo ≤ own) (h2 : own ≤ hi) (h0 : 1 ≤ lo) (h3 : x ≤ w) (h4 : w ≤ y) (h5 : -own < n * own - w * p) (h6 : n * own - w * p < own) : (learn lo hi x y p n).a ≤ own ∧ own ≤ (learn lo hi x y p n).b := by
  unfold learn
  split
  · exact fwd_true (w := -w) hp h1 h2 h0 (by omega) (by omega) (by rw [Int.neg_mul, Int.neg_mul]; omega) (by rw [Int.neg_mul, Int.neg_mul]; omega)
  · exact fwd_true hp h1 h2 h0 h3 h4 h5 h6
theorem learn_back (lo hi x y p n : Int) : learn lo hi (-y) (-x) p (-n) = learn lo hi x y p n := by
  unfold learn
  by_cases h : n < 0
  · rw [if_pos h, if_neg (by omega)]
  · rw [if_neg h]
    by_cases h2 : 0 < n
    · rw [if_pos (by omega), Int.neg_neg, Int.neg_neg, Int.neg_neg]
    · rw [if_neg (by omega)]
      unfold fwd
      rw [if_pos (by omega), if_pos (by omega)]
theorem fwd_more {lo hi x y x' y' p n : Int} (hp : 1 ≤ p) (h1 : x ≤ x') (h2 : y' ≤ y) (h3 : (fwd lo hi x y p n).ok = true) (h4 : (fwd lo hi x' y' p n).ok = true) : (fwd lo hi x y p n).a ≤ (fwd lo hi x' y' p n).a ∧ (fwd lo hi x' y' p n).b ≤ (fwd lo hi x y p n).b := by
  unfold fwd at h3 h4 ⊢
  split at h3
  · cases h3
  rename_i n1
  split at h3
  · cases h3
  rename_i n2
  split at h4
  · cases h4
  rename_i n3
  split at h4
  · cases h4
  rename_i n4
  rw [if_neg n1, if_neg n2, if_neg n3, if_neg n4]
  have k1 := down_mono (p := n + 1) (by omega) (show x * p ≤ x' * p from Int.mul_le_mul_of_nonneg_right h1 (by omega))
  have k2 := up_mono (p := n - 1) (by omega) (show y' * p ≤ y * p from Int.mul_le_mul_of_nonneg_right h2 (by omega))
  dsimp only
  omega
theorem learn_more {lo hi x y x' y' p n : Int} (hp : 1 ≤ p) (h1 : x ≤ x') (h2 : y' ≤ y) (h3 : (learn lo hi x y p n).ok = true) (h4 : (learn lo hi x' y' p n).ok = true) : (learn lo hi x y p n).a ≤ (learn lo hi x' y' p n).a ∧ (learn lo hi x' y' p n).b ≤ (learn lo hi x y p n).b := by
  unfold learn at h3 h4 ⊢
  by_cases h : n < 0
  · rw [if_pos h] at h3 h4
    rw [if_pos h, if_pos h]
    exact fwd_more hp (by omega) (by omega) h3 h4
  · rw [if_neg h] at h3 h4
    rw [if_neg h, if_neg h]
    exact fwd_more hp h1 h2 h3 h4
end Go.Proofs.Ytcelmgkjkdbliaa.Wh
