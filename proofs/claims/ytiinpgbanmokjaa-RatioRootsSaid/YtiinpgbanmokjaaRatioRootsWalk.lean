/-
  The walk of RatioRoots: for any two integers of 64 bits it returns true. No condition.
-/
import Derived.Test.YtiinpgbanmokjaaRatioMath
namespace Go.Proofs.Ytiinpgbanmokjaa.Walks
open Go.ChangeShapes Go.WideShapes Go.ChangeAt Go.RowKit
open Num Ref Ratio RatioRef Steady Arr
set_option linter.unusedVariables false
set_option maxRecDepth 100000

set_option maxHeartbeats 2000000 in
theorem roots_core (a b r r1 u p0 p1 p2 p3 ux x0 x1 x2 x3 uy y0 y1 y2 y3 : Int) (w : World) (ha : 0 ≤ a) (hb : 0 ≤ b) (h0 : 0 ≤ r) (h1 : r ≤ 9223372036854775806) (hr : r + 1 = r1)
    (cR : ∀ W, Calls Try.prog 15 #[.int .i64 a, .int .i64 b] W fun e w' => e = .returned (.tuple #[.int .i64 r, .int .i64 0]) ∧ Below W.heap.size W w')
    (cP : ∀ W, Calls Try.prog 16 #[.int .i64 a, .int .i64 b] W fun e w' => e = .returned (.agg #[.int .i64 u, .int .u64 p0, .int .u64 p1, .int .u64 p2, .int .u64 p3]) ∧ Below W.heap.size W w')
    (cX : ∀ W, Calls Try.prog 16 #[.int .i64 r, .int .i64 r] W fun e w' => e = .returned (.agg #[.int .i64 ux, .int .u64 x0, .int .u64 x1, .int .u64 x2, .int .u64 x3]) ∧ Below W.heap.size W w')
    (cY : ∀ W, Calls Try.prog 16 #[.int .i64 r1, .int .i64 r1] W fun e w' => e = .returned (.agg #[.int .i64 uy, .int .u64 y0, .int .u64 y1, .int .u64 y2, .int .u64 y3]) ∧ Below W.heap.size W w')
    (l1 : ∀ W, Calls Try.prog 17 #[.agg #[.int .u64 p0, .int .u64 p1, .int .u64 p2, .int .u64 p3], .agg #[.int .u64 x0, .int .u64 x1, .int .u64 x2, .int .u64 x3]] W fun e w' => e = .returned (.bool false) ∧ Below W.heap.size W w')
    (l2 : ∀ W, Calls Try.prog 17 #[.agg #[.int .u64 p0, .int .u64 p1, .int .u64 p2, .int .u64 p3], .agg #[.int .u64 y0, .int .u64 y1, .int .u64 y2, .int .u64 y3]] W fun e w' => e = .returned (.bool true) ∧ Below W.heap.size W w')
    :
    Calls Try.prog 6 #[.int .i64 a, .int .i64 b] w fun e w' => e = .returned (.bool true) ∧ Below w.heap.size w w' := by
  have t1 : decide (a < 0) = false := decide_eq_false (by omega)
  have t2 : decide (b < 0) = false := decide_eq_false (by omega)
  have t3 : (r == 9223372036854775807) = false := by simp; omega
  have ew : wrap64 (r + 1) = r1 := by rw [← hr]; unfold wrap64; omega
  have ew' : IntKind.i64.wrap (r + 1) = r1 := by rw [← hr, IntKind.wrap_i64]; omega
  clear ha hb hr
  go_enter Try.func6, Try.ntmps6
  go_upto_region 9 with (first
    | (go_at_call 8; ((with_reducible refine (anchor_any _).mono ?_); rintro e w0 ⟨rfl, hb0⟩))
    | (go_at_call 15; ((with_reducible refine (cR _).mono ?_); rintro e w1 ⟨rfl, hb1⟩))
    | (go_at_call 16; ((with_reducible refine (cP _).mono ?_); rintro e w2 ⟨rfl, hb2⟩)))
  have B1 := hb0.trans (hb1.mono hb0.size)
  have B2 := B1.trans (hb2.mono B1.size)
  have B3 := B2.alloc B2.size (.cells #[.int .i64 u, .int .u64 p0, .int .u64 p1, .int .u64 p2, .int .u64 p3] 31)
  have q7 := heap_alloc_new w2 (.cells #[.int .i64 u, .int .u64 p0, .int .u64 p1, .int .u64 p2, .int .u64 p3] 31)
  clear hb0 hb1 hb2 B1 B2 cR cP
  refine wp_region_steady [.late, .plain, .late, .late, .plain, .late, .plain, .late, .late, .late, .plain, .late, .late, .late, .late, .plain, .late, .plain, .late, .late] none [] 76 (by kernel_rfl) rfl (by kernel_rfl) (by kernel_rfl) ?_
  refine st_late (.pointer (some ⟨w2.heap.size, 1, none⟩)) rfl rfl (fun _ => by go_simp) ?_
  simp only [Nat.reduceAdd, Act.put, List.setIfInBounds_toArray, List.set_cons_zero, List.set_cons_succ]
  refine st_part 29 (.tmp 57) (w2.heap.size) 1 [.int .u64 p0, .int .u64 p1, .int .u64 p2, .int .u64 p3] _ _ _ _ rfl rfl rfl rfl q7 rfl Try.underlying29 rfl infoD ?_
  simp only [Nat.reduceAdd, Act.put, List.setIfInBounds_toArray, List.set_cons_zero, List.set_cons_succ]
  refine st_late (.int .i64 r) rfl rfl (fun _ => rfl) ?_
  simp only [Nat.reduceAdd, Act.put, List.setIfInBounds_toArray, List.set_cons_zero, List.set_cons_succ]
  refine st_late (.int .i64 r) rfl rfl (fun _ => rfl) ?_
  simp only [Nat.reduceAdd, Act.put, List.setIfInBounds_toArray, List.set_cons_zero, List.set_cons_succ]
  refine st_call 16 #[.int .i64 r, .int .i64 r] (.agg #[.int .i64 ux, .int .u64 x0, .int .u64 x1, .int .u64 x2, .int .u64 x3]) rfl rfl (fun _ => by go_simp) (cX) ?_
  simp only [Nat.reduceAdd, Act.put, List.setIfInBounds_toArray, List.set_cons_zero, List.set_cons_succ]
  refine st_late (.agg #[.int .u64 x0, .int .u64 x1, .int .u64 x2, .int .u64 x3]) rfl rfl (fun _ => by go_simp; rw [field_digits]; rfl) ?_
  simp only [Nat.reduceAdd, Act.put, List.setIfInBounds_toArray, List.set_cons_zero, List.set_cons_succ]
  refine st_call 17 #[.agg #[.int .u64 p0, .int .u64 p1, .int .u64 p2, .int .u64 p3], .agg #[.int .u64 x0, .int .u64 x1, .int .u64 x2, .int .u64 x3]] (.bool false) rfl rfl (fun _ => by go_simp) (l1) ?_
  simp only [Nat.reduceAdd, Act.put, List.setIfInBounds_toArray, List.set_cons_zero, List.set_cons_succ]
  refine st_late (.bool true) rfl rfl (fun _ => by go_simp) ?_
  simp only [Nat.reduceAdd, Act.put, List.setIfInBounds_toArray, List.set_cons_zero, List.set_cons_succ]
  refine st_late (.bool true) rfl rfl (fun _ => rfl) ?_
  simp only [Nat.reduceAdd, Act.put, List.setIfInBounds_toArray, List.set_cons_zero, List.set_cons_succ]
  refine st_late (.pointer (some ⟨w2.heap.size, 1, none⟩)) rfl rfl (fun _ => by go_simp) ?_
  simp only [Nat.reduceAdd, Act.put, List.setIfInBounds_toArray, List.set_cons_zero, List.set_cons_succ]
  refine st_part 29 (.tmp 66) (w2.heap.size) 1 [.int .u64 p0, .int .u64 p1, .int .u64 p2, .int .u64 p3] _ _ _ _ rfl rfl rfl rfl q7 rfl Try.underlying29 rfl infoD ?_
  simp only [Nat.reduceAdd, Act.put, List.setIfInBounds_toArray, List.set_cons_zero, List.set_cons_succ]
  refine st_late (.int .i64 r) rfl rfl (fun _ => rfl) ?_
  simp only [Nat.reduceAdd, Act.put, List.setIfInBounds_toArray, List.set_cons_zero, List.set_cons_succ]
  refine st_late (.int .i64 r1) rfl rfl (fun _ => by go_simp) ?_
  simp only [Nat.reduceAdd, Act.put, List.setIfInBounds_toArray, List.set_cons_zero, List.set_cons_succ]
  refine st_late (.int .i64 r) rfl rfl (fun _ => rfl) ?_
  simp only [Nat.reduceAdd, Act.put, List.setIfInBounds_toArray, List.set_cons_zero, List.set_cons_succ]
  refine st_late (.int .i64 r1) rfl rfl (fun _ => by go_simp) ?_
  simp only [Nat.reduceAdd, Act.put, List.setIfInBounds_toArray, List.set_cons_zero, List.set_cons_succ]
  refine st_call 16 #[.int .i64 r1, .int .i64 r1] (.agg #[.int .i64 uy, .int .u64 y0, .int .u64 y1, .int .u64 y2, .int .u64 y3]) rfl rfl (fun _ => by go_simp) (cY) ?_
  simp only [Nat.reduceAdd, Act.put, List.setIfInBounds_toArray, List.set_cons_zero, List.set_cons_succ]
  refine st_late (.agg #[.int .u64 y0, .int .u64 y1, .int .u64 y2, .int .u64 y3]) rfl rfl (fun _ => by go_simp; rw [field_digits]; rfl) ?_
  simp only [Nat.reduceAdd, Act.put, List.setIfInBounds_toArray, List.set_cons_zero, List.set_cons_succ]
  refine st_call 17 #[.agg #[.int .u64 p0, .int .u64 p1, .int .u64 p2, .int .u64 p3], .agg #[.int .u64 y0, .int .u64 y1, .int .u64 y2, .int .u64 y3]] (.bool true) rfl rfl (fun _ => by go_simp) (l2) ?_
  simp only [Nat.reduceAdd, Act.put, List.setIfInBounds_toArray, List.set_cons_zero, List.set_cons_succ]
  refine st_late (.bool true) rfl rfl (fun _ => by go_simp) ?_
  simp only [Nat.reduceAdd, Act.put, List.setIfInBounds_toArray, List.set_cons_zero, List.set_cons_succ]
  refine st_late (.bool true) rfl rfl (fun _ => rfl) ?_
  simp only [Nat.reduceAdd, Act.put, List.setIfInBounds_toArray, List.set_cons_zero, List.set_cons_succ]
  refine st_nil ?_
  intro phwd whwd hwd
  simp only [fin, List.foldl_nil]
  have B4 := B3.drew.trans (hwd.below.mono B3.size)
  clear hwd
  go_wp2
  go_ret
  exact ⟨rfl, B4⟩
theorem isRoot_exists (n : Nat) : ∃ r, Wide.IsRoot n r := by
  induction n with
  | zero => exact ⟨0, by decide, by decide⟩
  | succ n ih =>
    obtain ⟨r, h1, h2⟩ := ih
    by_cases h : (r + 1) * (r + 1) ≤ n + 1
    · refine ⟨r + 1, h, ?_⟩
      have : (r + 1) * (r + 1) < (r + 1 + 1) * (r + 1 + 1) := Nat.mul_lt_mul'' (by omega) (by omega)
      omega
    · exact ⟨r, by omega, by omega⟩
theorem root_least {A B r : Nat} (hA : A ≤ 9223372036854775807) (hB : B ≤ 9223372036854775807) (h : Wide.IsRoot (A * B) r) : r ≤ 9223372036854775807 := by
  rcases Nat.lt_or_ge 9223372036854775807 r with k | k
  · have h1 := h.1
    have h2 := Nat.mul_le_mul hA hB
    have := Nat.mul_le_mul (show 9223372036854775808 ≤ r from k) (show 9223372036854775808 ≤ r from k)
    omega
  · exact k
theorem root_exact (A B r : Nat) (w : World) (hA : A ≤ 9223372036854775807) (hB : B ≤ 9223372036854775807) (h : Wide.IsRoot (A * B) r) :
    Calls Try.prog 15 #[.int .i64 A, .int .i64 B] w fun e w' => e = .returned (.tuple #[.int .i64 r, .int .i64 0]) ∧ Below w.heap.size w w' := by
  refine (root_nat A B w hA hB).mono ?_
  rintro e w' ⟨⟨s, rfl, hs, _⟩, hb⟩
  rw [Wide.isRoot_unique hs h]
  exact ⟨rfl, hb⟩
set_option maxHeartbeats 1000000 in
theorem ratioRoots_walk (a : Int) (wa : (Lit.int .i64 a).wf = true) (b : Int) (wb : (Lit.int .i64 b).wf = true) (w : World) :
    Calls Try.prog 6 #[.int .i64 a, .int .i64 b] w fun e w' => e = .returned (.bool true) ∧ Below w.heap.size w w' := by
  have ha := fits_of_wf wa
  have hb := fits_of_wf wb
  clear wa wb
  by_cases h : a < 0 ∨ b < 0
  · have cR := fun W => root_refused a b W h
    clear ha hb
    by_cases h1 : a < 0
    · have t1 : decide (a < 0) = true := decide_eq_true h1
      clear h h1
      go_enter Try.func6, Try.ntmps6
      go_wp2_with (first
        | (go_at_call 8; ((with_reducible refine (anchor_any _).mono ?_); rintro e w0 ⟨rfl, hb0⟩))
        | (go_at_call 15; ((with_reducible refine (cR _).mono ?_); rintro e w1 ⟨rfl, hb1⟩)))
      go_ret
      exact ⟨rfl, hb0.trans (hb1.mono hb0.size)⟩
    · have t1 : decide (a < 0) = false := decide_eq_false h1
      have t2 : decide (b < 0) = true := decide_eq_true (by omega)
      clear h h1
      go_enter Try.func6, Try.ntmps6
      go_wp2_with (first
        | (go_at_call 8; ((with_reducible refine (anchor_any _).mono ?_); rintro e w0 ⟨rfl, hb0⟩))
        | (go_at_call 15; ((with_reducible refine (cR _).mono ?_); rintro e w1 ⟨rfl, hb1⟩)))
      go_ret
      exact ⟨rfl, hb0.trans (hb1.mono hb0.size)⟩
  · obtain ⟨A, rfl⟩ : ∃ A : Nat, a = A := ⟨a.toNat, by omega⟩
    obtain ⟨B, rfl⟩ : ∃ B : Nat, b = B := ⟨b.toNat, by omega⟩
    have hA : A ≤ 9223372036854775807 := by unfold Fits at ha; omega
    have hB : B ≤ 9223372036854775807 := by unfold Fits at hb; omega
    obtain ⟨r, hr⟩ := isRoot_exists (A * B)
    have cR := fun W => root_exact A B r W hA hB hr
    have hl := root_least hA hB hr
    by_cases hm : r = 9223372036854775807
    · have hAB : A = 9223372036854775807 ∧ B = 9223372036854775807 := by
        have h1 := hr.1
        rw [hm] at h1
        refine ⟨?_, ?_⟩
        · rcases Nat.lt_or_ge A 9223372036854775807 with k | k
          · have := Nat.mul_le_mul (show A ≤ 9223372036854775806 by omega) hB
            omega
          · omega
        · rcases Nat.lt_or_ge B 9223372036854775807 with k | k
          · have := Nat.mul_le_mul hA (show B ≤ 9223372036854775806 by omega)
            omega
          · omega
      obtain ⟨rfl, rfl⟩ := hAB
      subst hm
      have e : ((9223372036854775807 : Nat) : Int) = 9223372036854775807 := rfl
      rw [e] at cR ⊢
      clear ha hb h hA hB hr hl e
      go_enter Try.func6, Try.ntmps6
      go_wp2_with (first
        | (go_at_call 8; ((with_reducible refine (anchor_any _).mono ?_); rintro e w0 ⟨rfl, hb0⟩))
        | (go_at_call 15; ((with_reducible refine (cR _).mono ?_); rintro e w1 ⟨rfl, hb1⟩)))
      go_ret
      exact ⟨rfl, hb0.trans (hb1.mono hb0.size)⟩
    · have hf : Fits (r : Int) := by unfold Fits; omega
      have hf1 : Fits ((r : Int) + 1) := by unfold Fits; omega
      have np : ((A : Int) * (B : Int)).natAbs = A * B := by rw [Int.natAbs_mul]; rfl
      have nx : ((r : Int) * (r : Int)).natAbs = r * r := by rw [Int.natAbs_mul]; rfl
      have ny : (((r : Int) + 1) * ((r : Int) + 1)).natAbs = (r + 1) * (r + 1) := by rw [Int.natAbs_mul]; rfl
      refine roots_core A B r (r + 1) _ _ _ _ _ _ _ _ _ _ _ _ _ _ _ w (by omega) (by omega) (by omega) (by omega) rfl cR (fun W => times_exact A B W ha hb) (fun W => times_exact r r W hf hf) (fun W => times_exact (r + 1) (r + 1) W hf1 hf1) (fun W => ?_) (fun W => ?_)
      · have c := less_num _ _ _ _ _ _ _ _ _ _ _ _ W (exact_num A B) (exact_num r r)
        rw [np, nx, decide_eq_false (by have := hr.1; omega)] at c
        exact c
      · have c := less_num _ _ _ _ _ _ _ _ _ _ _ _ W (exact_num A B) (exact_num (r + 1) (r + 1))
        rw [np, ny, decide_eq_true hr.2] at c
        exact c
end Go.Proofs.Ytiinpgbanmokjaa.Walks
