/-
  The walk of WideBack: for any two numbers of 64 bits it returns true. No condition.
-/
import Derived.Test.YtjniohijomoakaaWideProductsWalk
namespace Go.Proofs.Ytjniohijomoakaa.Walks
open Go.ChangeShapes Go.WideShapes Go.ChangeAt Go.RowKit
open Arr Bt Ref Wide Steady
set_option linter.unusedVariables false
set_option maxRecDepth 100000

theorem root_sq (n : Nat) (w : World) (hn : H n) :
    Calls Try.prog 26 #[.agg #[.int .u64 ((n * n / 18446744073709551616 : Nat) : Int), .int .u64 ((n * n % 18446744073709551616 : Nat) : Int)]] w fun e w' => e = .returned (.int .u64 n) ∧ Below w.heap.size w w' := by
  have c := root_halves (n * n / 18446744073709551616) (n * n % 18446744073709551616) w (hi_H (prodW hn hn)) (lo_H _)
  rw [num_of] at c
  refine c.mono fun e w' ⟨⟨r, he, hr, _⟩, hb⟩ => ?_
  have : r = n := isRoot_unique hr ⟨Nat.le_refl _, Nat.mul_lt_mul'' (Nat.lt_succ_self n) (Nat.lt_succ_self n)⟩
  subst this
  exact ⟨he, hb⟩
theorem div_back (n m : Nat) (w : World) (hn : H n) (hm : H m) (h0 : 0 < m) :
    Calls Try.prog 24 #[.agg #[.int .u64 ((n * m / 18446744073709551616 : Nat) : Int), .int .u64 ((n * m % 18446744073709551616 : Nat) : Int)], .int .u64 m] w fun e w' => e = .returned (.tuple #[.agg #[.int .u64 0, .int .u64 n], .int .u64 0, .int .i64 0]) ∧ Below w.heap.size w w' := by
  have c := div_halves (n * m / 18446744073709551616) (n * m % 18446744073709551616) m w (hi_H (prodW hn hm)) (lo_H _) hm h0
  rw [num_of, Nat.mul_div_cancel _ h0, Nat.mul_mod_left] at c
  have e : UV n = .agg #[.int .u64 0, .int .u64 n] := by
    have h1 : n / 18446744073709551616 = 0 := by unfold H at hn; omega
    have h2 : n % 18446744073709551616 = n := by unfold H at hn; omega
    unfold UV
    rw [h1, h2]
    rfl
  rw [e] at c
  exact c
/-- The first half of the law: the product lies in its variable; the root and the product the other way round are right. -/
theorem wideBack_walk (a : Int) (wa : (Lit.int .u64 a).wf = true) (b : Int) (wb : (Lit.int .u64 b).wf = true) (w : World) :
    Calls Try.prog 8 #[.int .u64 a, .int .u64 b] w fun e w' => e = .returned (.bool true) ∧ Below w.heap.size w w' := by
  obtain ⟨n, rfl, hn⟩ := nat_of_wf wa
  obtain ⟨m, rfl, hm⟩ := nat_of_wf wb
  clear wa wb
  have c1 := fun W => Wide.mul_any n m W hn hm
  have c2 := fun W => Wide.mul_any n n W hn hn
  have c3 := fun W => Wide.mul_any m n W hm hn
  have c4 := fun W => root_sq n W hn
  have c5 := fun W h0 => div_back n m W hn hm h0
  rw [Nat.mul_comm m n] at c3
  unfold UV at c1 c2 c3
  have hH : H n := hn
  have hH : H n := hn
  have hH : H n := hn
  by_cases h0 : m = 0
  · subst h0
    rw [Nat.mul_zero] at c1 c3
    have e1 : ((0 / 18446744073709551616 : Nat) : Int) = 0 := rfl
    have e3 : ((0 : Nat) : Int) = 0 := rfl
    simp only [Nat.zero_div, Nat.zero_mod, e3] at c1 c3 ⊢
    clear e1 e3 c5 hm
    generalize n * n / 18446744073709551616 = p1 at *
    generalize n * n % 18446744073709551616 = q1 at *
    clear hn hH
    go_enter Try.func8, Try.ntmps8
    go_upto_region 4 with (first
      | (go_at_call 9; ((with_reducible refine (anchor_any _).mono ?_); rintro e w1 ⟨rfl, h1⟩))
      | (go_at_call 11; ((with_reducible refine (c1 _).mono ?_); rintro e w2 ⟨rfl, h2⟩)))
    refine wp_region_steady [.late, .late, .plain, .plain, .late, .late, .late, .late, .late, .plain, .plain, .late, .late] none [] 51 (by kernel_rfl) rfl (by kernel_rfl) (by kernel_rfl) ?_
    refine st_late (.int .u64 n) rfl rfl (fun _ => rfl) ?_
    simp only [Nat.reduceAdd, Act.put, List.setIfInBounds_toArray, List.set_cons_zero, List.set_cons_succ]
    refine st_late (.int .u64 n) rfl rfl (fun _ => rfl) ?_
    simp only [Nat.reduceAdd, Act.put, List.setIfInBounds_toArray, List.set_cons_zero, List.set_cons_succ]
    refine st_call 11 #[.int .u64 n, .int .u64 n] (.agg #[.int .u64 p1, .int .u64 q1]) rfl rfl (fun _ => by go_simp) (c2) ?_
    simp only [Nat.reduceAdd, Act.put, List.setIfInBounds_toArray, List.set_cons_zero, List.set_cons_succ]
    refine st_call 26 #[.agg #[.int .u64 p1, .int .u64 q1]] (.int .u64 n) rfl rfl (fun _ => by go_simp) (c4) ?_
    simp only [Nat.reduceAdd, Act.put, List.setIfInBounds_toArray, List.set_cons_zero, List.set_cons_succ]
    refine st_late (.int .u64 n) rfl rfl (fun _ => rfl) ?_
    simp only [Nat.reduceAdd, Act.put, List.setIfInBounds_toArray, List.set_cons_zero, List.set_cons_succ]
    refine st_late (.bool false) rfl rfl (fun _ => by go_simp) ?_
    simp only [Nat.reduceAdd, Act.put, List.setIfInBounds_toArray, List.set_cons_zero, List.set_cons_succ]
    refine st_late (.bool false) rfl rfl (fun _ => rfl) ?_
    simp only [Nat.reduceAdd, Act.put, List.setIfInBounds_toArray, List.set_cons_zero, List.set_cons_succ]
    refine st_late (.int .u64 0) rfl rfl (fun _ => rfl) ?_
    simp only [Nat.reduceAdd, Act.put, List.setIfInBounds_toArray, List.set_cons_zero, List.set_cons_succ]
    refine st_late (.int .u64 n) rfl rfl (fun _ => rfl) ?_
    simp only [Nat.reduceAdd, Act.put, List.setIfInBounds_toArray, List.set_cons_zero, List.set_cons_succ]
    refine st_call 11 #[.int .u64 0, .int .u64 n] (.agg #[.int .u64 0, .int .u64 0]) rfl rfl (fun _ => by go_simp) (c3) ?_
    simp only [Nat.reduceAdd, Act.put, List.setIfInBounds_toArray, List.set_cons_zero, List.set_cons_succ]
    refine st_load 28 (.tmp 5) (w2.heap.size) _ _ _ _ rfl rfl rfl rfl (heap_alloc_new w2 _) Try.underlying28 rfl infoW ?_
    simp only [Nat.reduceAdd, Act.put, List.setIfInBounds_toArray, List.set_cons_zero, List.set_cons_succ]
    refine st_late (.bool false) rfl rfl (fun _ => by go_simp) ?_
    simp only [Nat.reduceAdd, Act.put, List.setIfInBounds_toArray, List.set_cons_zero, List.set_cons_succ]
    refine st_late (.bool false) rfl rfl (fun _ => by go_simp) ?_
    simp only [Nat.reduceAdd, Act.put, List.setIfInBounds_toArray, List.set_cons_zero, List.set_cons_succ]
    refine st_nil ?_
    intro ps whwd hwd
    simp only [fin, List.foldl_nil]
    have hB := hwd.below
    clear hwd
    have q5 := below_row hB (by show w2.heap.size < (w2.alloc _).heap.size; simp) (heap_alloc_new w2 (.cells #[.int .u64 0, .int .u64 0] 28))
    have k1 := cell_of_row _ _ 0 _ _ _ q5
    have k2 := cell_of_row _ _ 1 _ _ _ q5
    clear q5
    go_wp2
    go_ret
    have s1 := h1.size
    have s2 := h2.size
    exact ⟨rfl, ((h1.trans (h2.mono s1)).alloc (by omega) _).drew.trans (hB.mono (by show _ ≤ (w2.alloc _).heap.size; simp; omega))⟩
  · have c6 := fun W => c5 W (by omega)
    have t0 : ((m : Int) == 0) = false := by simp; omega
    clear c5 h0
    generalize n * n / 18446744073709551616 = p1 at *
    generalize n * n % 18446744073709551616 = q1 at *
    generalize n * m / 18446744073709551616 = p2 at *
    generalize n * m % 18446744073709551616 = q2 at *
    clear hn hH hm
    go_enter Try.func8, Try.ntmps8
    go_upto_region 4 with (first
      | (go_at_call 9; ((with_reducible refine (anchor_any _).mono ?_); rintro e w1 ⟨rfl, h1⟩))
      | (go_at_call 11; ((with_reducible refine (c1 _).mono ?_); rintro e w2 ⟨rfl, h2⟩)))
    refine wp_region_steady [.late, .late, .plain, .plain, .late, .late, .late, .late, .late, .plain, .plain, .late, .late] none [] 51 (by kernel_rfl) rfl (by kernel_rfl) (by kernel_rfl) ?_
    refine st_late (.int .u64 n) rfl rfl (fun _ => rfl) ?_
    simp only [Nat.reduceAdd, Act.put, List.setIfInBounds_toArray, List.set_cons_zero, List.set_cons_succ]
    refine st_late (.int .u64 n) rfl rfl (fun _ => rfl) ?_
    simp only [Nat.reduceAdd, Act.put, List.setIfInBounds_toArray, List.set_cons_zero, List.set_cons_succ]
    refine st_call 11 #[.int .u64 n, .int .u64 n] (.agg #[.int .u64 p1, .int .u64 q1]) rfl rfl (fun _ => by go_simp) (c2) ?_
    simp only [Nat.reduceAdd, Act.put, List.setIfInBounds_toArray, List.set_cons_zero, List.set_cons_succ]
    refine st_call 26 #[.agg #[.int .u64 p1, .int .u64 q1]] (.int .u64 n) rfl rfl (fun _ => by go_simp) (c4) ?_
    simp only [Nat.reduceAdd, Act.put, List.setIfInBounds_toArray, List.set_cons_zero, List.set_cons_succ]
    refine st_late (.int .u64 n) rfl rfl (fun _ => rfl) ?_
    simp only [Nat.reduceAdd, Act.put, List.setIfInBounds_toArray, List.set_cons_zero, List.set_cons_succ]
    refine st_late (.bool false) rfl rfl (fun _ => by go_simp) ?_
    simp only [Nat.reduceAdd, Act.put, List.setIfInBounds_toArray, List.set_cons_zero, List.set_cons_succ]
    refine st_late (.bool false) rfl rfl (fun _ => rfl) ?_
    simp only [Nat.reduceAdd, Act.put, List.setIfInBounds_toArray, List.set_cons_zero, List.set_cons_succ]
    refine st_late (.int .u64 m) rfl rfl (fun _ => rfl) ?_
    simp only [Nat.reduceAdd, Act.put, List.setIfInBounds_toArray, List.set_cons_zero, List.set_cons_succ]
    refine st_late (.int .u64 n) rfl rfl (fun _ => rfl) ?_
    simp only [Nat.reduceAdd, Act.put, List.setIfInBounds_toArray, List.set_cons_zero, List.set_cons_succ]
    refine st_call 11 #[.int .u64 m, .int .u64 n] (.agg #[.int .u64 p2, .int .u64 q2]) rfl rfl (fun _ => by go_simp) (c3) ?_
    simp only [Nat.reduceAdd, Act.put, List.setIfInBounds_toArray, List.set_cons_zero, List.set_cons_succ]
    refine st_load 28 (.tmp 5) (w2.heap.size) _ _ _ _ rfl rfl rfl rfl (heap_alloc_new w2 _) Try.underlying28 rfl infoW ?_
    simp only [Nat.reduceAdd, Act.put, List.setIfInBounds_toArray, List.set_cons_zero, List.set_cons_succ]
    refine st_late (.bool false) rfl rfl (fun _ => by go_simp) ?_
    simp only [Nat.reduceAdd, Act.put, List.setIfInBounds_toArray, List.set_cons_zero, List.set_cons_succ]
    refine st_late (.bool false) rfl rfl (fun _ => by go_simp) ?_
    simp only [Nat.reduceAdd, Act.put, List.setIfInBounds_toArray, List.set_cons_zero, List.set_cons_succ]
    refine st_nil ?_
    intro ps whwd hwd
    simp only [fin, List.foldl_nil]
    have hB := hwd.below
    clear hwd
    have q5 := below_row hB (by show w2.heap.size < (w2.alloc _).heap.size; simp) (heap_alloc_new w2 (.cells #[.int .u64 p2, .int .u64 q2] 28))
    have k1 := cell_of_row _ _ 0 _ _ _ q5
    have k2 := cell_of_row _ _ 1 _ _ _ q5
    clear q5
    go_wp2_with (go_at_call 24; ((with_reducible refine (c6 _).mono ?_); rintro e w3 ⟨rfl, h3⟩))
    go_ret
    have s1 := h1.size
    have s2 := h2.size
    have s3 := hB.size
    have s4 : w2.heap.size + 1 ≤ whwd.heap.size := by have : (w2.alloc (.cells #[.int .u64 p2, .int .u64 q2] 28)).drew.heap.size = w2.heap.size + 1 := by simp
                                                      omega
    exact ⟨rfl, ((((h1.trans (h2.mono s1)).alloc (by omega) _).drew.trans (hB.mono (by show _ ≤ (w2.alloc _).heap.size; simp; omega))).trans (h3.mono (by omega))).alloc (by have := h3.size; omega) _⟩
end Go.Proofs.Ytjniohijomoakaa.Walks
