/-
  Contracts of package wide: products, sums, differences, orders, lengths, told of natural numbers. Conditions: halves below 2^64.
-/
import Derived.Test.YtjniohijomoakaaShelf
import Derived.Test.YtjniohijomoakaaBt
import Derived.Test.YtjniohijomoakaaWref
import Derived.BigGuardPart
namespace Go.Proofs.Ytjniohijomoakaa.Wide
open Go.ChangeShapes Go.WideShapes Go.ChangeAt Go.RowKit
open Arr Bt
set_option linter.unusedVariables false
set_option maxRecDepth 100000

/-- Below 2^64. -/
def H (n : Nat) : Prop := n < 18446744073709551616
theorem H.lt {n : Nat} (h : H n) : n < 18446744073709551616 := h
/-- The number of two halves. -/
def num (hi lo : Nat) : Nat := hi * 18446744073709551616 + lo
theorem num_lt {hi lo : Nat} (h : H hi) (l : H lo) : W128 (num hi lo) := by unfold H at h l; unfold W128 num; omega
theorem num_hi {hi lo : Nat} (l : H lo) : num hi lo / 18446744073709551616 = hi := by unfold H at l; unfold num; omega
theorem num_lo {hi lo : Nat} (l : H lo) : num hi lo % 18446744073709551616 = lo := by unfold H at l; unfold num; omega
theorem num_of (n : Nat) : num (n / 18446744073709551616) (n % 18446744073709551616) = n := by unfold num; omega
theorem lo_H (n : Nat) : H (n % 18446744073709551616) := by unfold H; omega
theorem hi_H {n : Nat} (h : W128 n) : H (n / 18446744073709551616) := by unfold H; unfold W128 at h; omega
/-- A number as the program has it. -/
def UV (n : Nat) : Value := .agg #[.int .u64 ((n / 18446744073709551616 : Nat) : Int), .int .u64 ((n % 18446744073709551616 : Nat) : Int)]
theorem uv_num {hi lo : Nat} (l : H lo) : UV (num hi lo) = .agg #[.int .u64 hi, .int .u64 lo] := by unfold UV; rw [num_hi l, num_lo l]

theorem mul_any (a b : Nat) (w : World) (ha : H a) (hb : H b) :
    Calls Try.prog 11 #[.int .u64 a, .int .u64 b] w fun e w' => e = .returned (UV (a * b)) ∧ Below w.heap.size w w' := by
  have c := fun W => Shelf.bits_Mul64 a b ha hb W
  unfold UV
  generalize a * b / 18446744073709551616 = hi at *
  generalize a * b % 18446744073709551616 = lo at *
  clear ha hb
  go_enter Try.func11, Try.ntmps11
  go_wp2_with (go_at_call 27; ((with_reducible refine (c _).mono ?_); rintro e w' ⟨rfl, hw⟩; rw [hw]))
  refine bodyPost_ret (by simp [results, Try.results11, go_sem]) rfl ⟨rfl, ?_⟩
  exact (Below.refl _ _).alloc (Nat.le_refl _) _
theorem add_halves (xh xl yh yl : Nat) (w : World) (h1 : H xh) (h2 : H xl) (h3 : H yh) (h4 : H yl) :
    Calls Try.prog 13 #[.agg #[.int .u64 xh, .int .u64 xl], .agg #[.int .u64 yh, .int .u64 yl]] w fun e w' =>
      e = .returned (.tuple #[UV ((num xh xl + num yh yl) % 340282366920938463463374607431768211456), .bool (decide (340282366920938463463374607431768211456 ≤ num xh xl + num yh yl))]) ∧ Below w.heap.size w w' := by
  obtain ⟨s, hs⟩ : ∃ s, s = (xl + yl + 0) % 18446744073709551616 := ⟨_, rfl⟩
  obtain ⟨c, hc⟩ : ∃ c, c = (xl + yl + 0) / 18446744073709551616 := ⟨_, rfl⟩
  obtain ⟨t, ht⟩ : ∃ t, t = (xh + yh + c) % 18446744073709551616 := ⟨_, rfl⟩
  obtain ⟨d, hd⟩ : ∃ d, d = (xh + yh + c) / 18446744073709551616 := ⟨_, rfl⟩
  have e0 := Shelf.add64 xl yl 0 (by omega) h2 h4
  rw [← hs, ← hc] at e0
  have e1 : ∀ w, (callFunc 28 #[.int .u64 xl, .int .u64 yl, .int .u64 0]).run Try.prog w = .ok (.value (.tuple #[.int .u64 s, .int .u64 c])) w := e0
  clear e0
  have e2 := Shelf.add64 xh yh c (by unfold H at h2 h4; omega) h1 h3
  rw [← ht, ← hd] at e2
  have r1 : UV ((num xh xl + num yh yl) % 340282366920938463463374607431768211456) = .agg #[.int .u64 t, .int .u64 s] := by
    unfold UV
    unfold H at *
    rw [show (num xh xl + num yh yl) % 340282366920938463463374607431768211456 / 18446744073709551616 = t by unfold num; omega, show (num xh xl + num yh yl) % 340282366920938463463374607431768211456 % 18446744073709551616 = s by unfold num; omega]
  have r2 : decide (340282366920938463463374607431768211456 ≤ num xh xl + num yh yl) = (((d : Nat) : Int) != 0) := by
    unfold H at *
    by_cases h0 : d = 0
    · have : ((d : Int) != 0) = false := by simp [h0]
      rw [this]
      exact decide_eq_false (by unfold num; omega)
    · have : ((d : Int) != 0) = true := by simp [h0]
      rw [this]
      exact decide_eq_true (by unfold num; omega)
  rw [r1, r2]
  clear r1 r2 hs hc ht hd h1 h2 h3 h4
  go_enter Try.func13, Try.ntmps13
  go_wp2
  refine bodyPost_ret (by simp [results, Try.results13, go_sem]) rfl ⟨rfl, ?_⟩
  exact (((Below.refl _ _).alloc (Nat.le_refl _) _).alloc (by simp) _).alloc (by simp; omega) _
theorem sub_halves (xh xl yh yl : Nat) (w : World) (h1 : H xh) (h2 : H xl) (h3 : H yh) (h4 : H yl) :
    Calls Try.prog 15 #[.agg #[.int .u64 xh, .int .u64 xl], .agg #[.int .u64 yh, .int .u64 yl]] w fun e w' =>
      e = .returned (.tuple #[UV ((num xh xl + 340282366920938463463374607431768211456 - num yh yl) % 340282366920938463463374607431768211456), .bool (decide (num xh xl < num yh yl))]) ∧ Below w.heap.size w w' := by
  obtain ⟨s, hs⟩ : ∃ s, s = (xl + 18446744073709551616 - yl - 0) % 18446744073709551616 := ⟨_, rfl⟩
  obtain ⟨c, hc⟩ : ∃ c, c = (if xl < yl + 0 then 1 else 0) := ⟨_, rfl⟩
  obtain ⟨t, ht⟩ : ∃ t, t = (xh + 18446744073709551616 - yh - c) % 18446744073709551616 := ⟨_, rfl⟩
  obtain ⟨d, hd⟩ : ∃ d, d = (if xh < yh + c then 1 else 0) := ⟨_, rfl⟩
  have e0 := Shelf.sub64 xl yl 0 (by omega)
  rw [← hs, ← hc] at e0
  have e1 : ∀ w, (callFunc 29 #[.int .u64 xl, .int .u64 yl, .int .u64 0]).run Try.prog w = .ok (.value (.tuple #[.int .u64 s, .int .u64 c])) w := e0
  have e2 := Shelf.sub64 xh yh c (by rw [hc]; split <;> omega)
  rw [← ht, ← hd] at e2
  clear e0
  unfold H at h1 h2 h3 h4
  have cs : (c = 1 ∧ xl < yl) ∨ (c = 0 ∧ yl ≤ xl) := by
    rw [hc]; split
    · exact .inl ⟨rfl, by omega⟩
    · exact .inr ⟨rfl, by omega⟩
  have ds : (d = 1 ∧ xh < yh + c) ∨ (d = 0 ∧ yh + c ≤ xh) := by
    rw [hd]; split
    · exact .inl ⟨rfl, by omega⟩
    · exact .inr ⟨rfl, by omega⟩
  have r1 : UV ((num xh xl + 340282366920938463463374607431768211456 - num yh yl) % 340282366920938463463374607431768211456) = .agg #[.int .u64 t, .int .u64 s] := by
    unfold UV
    rw [show (num xh xl + 340282366920938463463374607431768211456 - num yh yl) % 340282366920938463463374607431768211456 / 18446744073709551616 = t by unfold num; omega, show (num xh xl + 340282366920938463463374607431768211456 - num yh yl) % 340282366920938463463374607431768211456 % 18446744073709551616 = s by unfold num; omega]
  have r2 : decide (num xh xl < num yh yl) = (((d : Nat) : Int) != 0) := by
    by_cases h0 : d = 0
    · have : ((d : Int) != 0) = false := by simp [h0]
      rw [this]
      exact decide_eq_false (by unfold num; omega)
    · have : ((d : Int) != 0) = true := by simp [h0]
      rw [this]
      exact decide_eq_true (by unfold num; omega)
  rw [r1, r2]
  clear r1 r2 hs hc ht hd h1 h2 h3 h4 cs ds
  go_enter Try.func15, Try.ntmps15
  go_wp2
  refine bodyPost_ret (by simp [results, Try.results15, go_sem]) rfl ⟨rfl, ?_⟩
  exact (((Below.refl _ _).alloc (Nat.le_refl _) _).alloc (by simp) _).alloc (by simp; omega) _
theorem cmp_halves (xh xl yh yl : Nat) (w : World) (h1 : H xh) (h2 : H xl) (h3 : H yh) (h4 : H yl) :
    Calls Try.prog 17 #[.agg #[.int .u64 xh, .int .u64 xl], .agg #[.int .u64 yh, .int .u64 yl]] w fun e w' =>
      e = .returned (.int .i64 (Ref.cmpN (num xh xl) (num yh yl))) ∧ Below w.heap.size w w' := by
  unfold H at h1 h2 h3 h4
  by_cases he : xh = yh ∧ xl = yl
  · obtain ⟨rfl, rfl⟩ := he
    rw [Ref.cmp_eq]
    clear h1 h2 h3 h4
    go_enter Try.func17, Try.ntmps17
    go_wp2
    go_ret
    exact ⟨rfl, ((Below.refl _ _).alloc (Nat.le_refl _) _).alloc (by simp) _⟩
  by_cases ha : xh < yh
  · have t1 : ((xh : Int) == (yh : Int)) = false := by simp; omega
    have t2 : decide ((xh : Int) < (yh : Int)) = true := by simp; omega
    rw [Ref.cmp_lt (by unfold num; omega)]
    clear h1 h2 h3 h4 he
    go_enter Try.func17, Try.ntmps17
    go_wp2
    go_ret
    exact ⟨rfl, ((Below.refl _ _).alloc (Nat.le_refl _) _).alloc (by simp) _⟩
  by_cases hb : xh = yh
  · subst hb
    have hn : ¬ xl = yl := fun e => he ⟨rfl, e⟩
    have t1 : ((xl : Int) == (yl : Int)) = false := by simp; omega
    have t2 : decide ((xh : Int) < (xh : Int)) = false := by simp
    by_cases hc : xl < yl
    · have t3 : decide ((xl : Int) < (yl : Int)) = true := by simp; omega
      rw [Ref.cmp_lt (by unfold num; omega)]
      clear h1 h2 h3 h4 he
      go_enter Try.func17, Try.ntmps17
      go_wp2
      go_ret
      exact ⟨rfl, ((Below.refl _ _).alloc (Nat.le_refl _) _).alloc (by simp) _⟩
    · have t3 : decide ((xl : Int) < (yl : Int)) = false := by simp; omega
      rw [Ref.cmp_gt (by unfold num; omega)]
      clear h1 h2 h3 h4 he
      go_enter Try.func17, Try.ntmps17
      go_wp2
      go_ret
      exact ⟨rfl, ((Below.refl _ _).alloc (Nat.le_refl _) _).alloc (by simp) _⟩
  · have t1 : ((xh : Int) == (yh : Int)) = false := by simp; omega
    have t2 : decide ((xh : Int) < (yh : Int)) = false := by simp; omega
    rw [Ref.cmp_gt (by unfold num; omega)]
    clear h1 h2 h3 h4 he
    go_enter Try.func17, Try.ntmps17
    go_wp2
    go_ret
    exact ⟨rfl, ((Below.refl _ _).alloc (Nat.le_refl _) _).alloc (by simp) _⟩
/-- The length. -/
theorem len_halves (xh xl : Nat) (w : World) (h1 : H xh) (h2 : H xl) :
    Calls Try.prog 18 #[.agg #[.int .u64 xh, .int .u64 xl]] w fun e w' => (∃ l : Nat, e = .returned (.int .i64 l) ∧ IsLen (num xh xl) l) ∧ Below w.heap.size w w' := by
  have c1 := fun W => Shelf.bits_Len64 xh W (by omega) (by unfold H at h1; omega)
  have c2 := fun W => Shelf.bits_Len64 xl W (by omega) (by unfold H at h2; omega)
  have l1 := bitLen_isLen h1
  have l2 := bitLen_isLen h2
  rw [Int.toNat_natCast] at c1 c2
  have b1 : Lib.bitLen xh ≤ 64 := by
    rcases Nat.lt_or_ge 64 (Lib.bitLen xh) with h | h
    · have := l1.2 (by omega)
      have := Nat.pow_le_pow_right (n := 2) (by omega) (show 64 ≤ Lib.bitLen xh - 1 by omega)
      unfold H at h1
      omega
    · exact h
  generalize Lib.bitLen xh = p at *
  generalize Lib.bitLen xl = q at *
  have H2 := Lib.hid h2
  by_cases h0 : xh = 0
  · subst h0
    have e0 : num 0 xl = xl := by unfold num; omega
    rw [e0]
    have t1 : (((0 : Nat) : Int) != 0) = false := by simp
    have L2 := Lib.hid l2
    clear h1 h2 l1 l2 e0 c1
    go_enter Try.func18, Try.ntmps18
    go_wp2_with (go_at_call 30; ((with_reducible refine (c2 _).mono ?_); rintro e w' ⟨rfl, hw⟩; rw [hw]))
    go_ret
    exact ⟨⟨q, rfl, L2.out⟩, (Below.refl _ _).alloc (Nat.le_refl _) _⟩
  · have t1 : ((xh : Int) != 0) = true := by simp [h0]
    have L3 := Lib.hid (isLen_high h2 (by omega) l1)
    clear h1 h2 l1 l2 c2 h0
    go_enter Try.func18, Try.ntmps18
    go_wp2_with (go_at_call 30; ((with_reducible refine (c1 _).mono ?_); rintro e w' ⟨rfl, hw⟩; rw [hw]))
    go_ret
    exact ⟨⟨64 + p, rfl, L3.out⟩, (Below.refl _ _).alloc (Nat.le_refl _) _⟩
end Go.Proofs.Ytjniohijomoakaa.Wide
