/-
  The walk of WideRoots: for any number of 128 bits it returns true. No condition.
-/
import Derived.Test.YtjniohijomoakaaWideBackWalk
namespace Go.Proofs.Ytjniohijomoakaa.Walks
open Go.ChangeShapes Go.WideShapes Go.ChangeAt Go.RowKit
open Arr Bt Ref Wide Steady
set_option linter.unusedVariables false
set_option maxRecDepth 100000

theorem root_below {n r : Nat} (h : IsRoot n r) : ¬ (0 < cmpN (r * r) n) := by
  have := (cmp_le (n := n) (m := r * r)).2 h.1
  omega
set_option maxHeartbeats 4000000 in
theorem wideRoots_walk (a : Int) (wa : (Lit.int .u64 a).wf = true) (b : Int) (wb : (Lit.int .u64 b).wf = true) (w : World) :
    Calls Try.prog 7 #[.agg #[.int .u64 a, .int .u64 b]] w fun e w' => e = .returned (.bool true) ∧ Below w.heap.size w w' := by
  obtain ⟨xh, rfl, h1⟩ := nat_of_wf wa
  obtain ⟨xl, rfl, h2⟩ := nat_of_wf wb
  clear wa wb
  have cr := fun W => root_halves xh xl W h1 h2
  have cb : ∀ W, Calls Try.prog 10 #[.agg #[.int .u64 xh, .int .u64 xl]] W fun e w' => e = .returned (.agg (bv (num xh xl))) ∧ Below W.heap.size W w' := fun W => bits_any xh xl W h1 h2
  have hN := num_lt h1 h2
  clear h1 h2
  have HN := Lib.hid hN
  clear hN
  go_enter Try.func7, Try.ntmps7
  go_upto_region 3 with (go_at_call 9; ((with_reducible refine (anchor_any _).mono ?_); rintro e w1 ⟨rfl, g1⟩))
  have hB1 : Below w.heap.size w w1 := ((Below.refl _ _).alloc (Nat.le_refl _) _).trans (g1.mono (by simp))
  have q1 := below_row g1 (by simp) (heap_alloc_new w (.cells #[.int .u64 xh, .int .u64 xl] 28))
  clear g1
  go_wp2_with (first
    | (refine wpList_load_row rfl 28 (.tmp 1) rfl w.heap.size rfl _ _ _ _ q1 Try.underlying28 rfl infoW ?_; simp only [Act.put, List.setIfInBounds_toArray, List.set_cons_zero, List.set_cons_succ])
    | (go_at_call 26; ((with_reducible refine (cr _).mono ?_); rintro e w2 ⟨⟨r, rfl, hr, hrH⟩, g2⟩)))
  have q0 := below_row g2 (lt_of_row q1) q1
  have hB2 := hB1.trans (g2.mono hB1.size)
  clear g2 hB1 q1 cr
  have c1 := fun W => Ref.mul_any r r W hrH hrH
  have c2 := fun W => cmp_any (r * r) (num xh xl) W (prodW hrH hrH) HN.out
  have t1 : decide (0 < cmpN (r * r) (num xh xl)) = false := decide_eq_false (root_below hr)
  have HR := Lib.hid hr
  have HRH := Lib.hid hrH
  generalize cmpN (r * r) (num xh xl) = c at *
  clear hr hrH
  refine wp_region_steady [.late, .late, .plain, .plain, .plain, .plain, .late] none [] 28 (by kernel_rfl) rfl (by kernel_rfl) (by kernel_rfl) ?_
  refine st_late (.int .u64 r) rfl rfl (fun _ => rfl) ?_
  simp only [Nat.reduceAdd, Act.put, List.setIfInBounds_toArray, List.set_cons_zero, List.set_cons_succ]
  refine st_late (.int .u64 r) rfl rfl (fun _ => rfl) ?_
  simp only [Nat.reduceAdd, Act.put, List.setIfInBounds_toArray, List.set_cons_zero, List.set_cons_succ]
  refine st_call 12 #[.int .u64 r, .int .u64 r] (.agg (bv (r * r))) rfl rfl (fun _ => by go_simp) (c1) ?_
  simp only [Nat.reduceAdd, Act.put, List.setIfInBounds_toArray, List.set_cons_zero, List.set_cons_succ]
  refine st_load 28 (.tmp 1) (w.heap.size) _ _ _ _ rfl rfl rfl rfl q0 Try.underlying28 rfl infoW ?_
  simp only [Nat.reduceAdd, Act.put, List.setIfInBounds_toArray, List.set_cons_zero, List.set_cons_succ]
  refine st_call 10 #[.agg #[.int .u64 xh, .int .u64 xl]] (.agg (bv (num xh xl))) rfl rfl (fun _ => by go_simp) (cb) ?_
  simp only [Nat.reduceAdd, Act.put, List.setIfInBounds_toArray, List.set_cons_zero, List.set_cons_succ]
  refine st_call 16 #[.agg (bv (r * r)), .agg (bv (num xh xl))] (.int .i64 c) rfl rfl (fun _ => by go_simp) (c2) ?_
  simp only [Nat.reduceAdd, Act.put, List.setIfInBounds_toArray, List.set_cons_zero, List.set_cons_succ]
  refine st_late (.bool false) rfl rfl (fun _ => by go_simp) ?_
  simp only [Nat.reduceAdd, Act.put, List.setIfInBounds_toArray, List.set_cons_zero, List.set_cons_succ]
  refine st_nil ?_
  intro ps whwd hwd
  simp only [fin, List.foldl_nil]
  have hB3 := hB2.drew.trans (hwd.below.mono hB2.size)
  have q3 := below_row hwd.below (lt_of_row q0) q0
  clear hwd hB2 q0 c1 c2 t1
  have q0 := q3
  clear q3
  by_cases ht : r = 18446744073709551615
  · have t2 : ((r : Int) == 18446744073709551615) = true := by simp; omega
    have T2 := Lib.hid t2
    clear ht t2
    go_wp2
    generalize (18446744073709551615 : Int) = big at *
    refine wp_region_steady [.late, .late, .late, .plain, .plain, .plain, .plain, .plain, .plain, .plain, .plain, .plain, .late, .late] none [] 28 (by kernel_rfl) rfl (by kernel_rfl) (by kernel_rfl) ?_
    refine st_late (.int .u64 r) rfl rfl (fun _ => rfl) ?_
    simp only [Nat.reduceAdd, Act.put, List.setIfInBounds_toArray, List.set_cons_zero, List.set_cons_succ]
    refine st_late (.bool true) rfl rfl (fun _ => by rw [run_eql_int 22 _ _ _ .u64 (r : Int) big _ rfl rfl rfl Try.underlying22]; exact congrArg (fun z => Result.ok (Next.value (Value.bool z)) _) T2.out) ?_
    simp only [Nat.reduceAdd, Act.put, List.setIfInBounds_toArray, List.set_cons_zero, List.set_cons_succ]
    refine st_late (.bool true) rfl rfl (fun _ => rfl) ?_
    simp only [Nat.reduceAdd, Act.put, List.setIfInBounds_toArray, List.set_cons_zero, List.set_cons_succ]
    refine st_skip rfl rfl ?_
    simp only [Nat.reduceAdd, Act.put, List.setIfInBounds_toArray, List.set_cons_zero, List.set_cons_succ]
    refine st_skip rfl rfl ?_
    simp only [Nat.reduceAdd, Act.put, List.setIfInBounds_toArray, List.set_cons_zero, List.set_cons_succ]
    refine st_skip rfl rfl ?_
    simp only [Nat.reduceAdd, Act.put, List.setIfInBounds_toArray, List.set_cons_zero, List.set_cons_succ]
    refine st_skip rfl rfl ?_
    simp only [Nat.reduceAdd, Act.put, List.setIfInBounds_toArray, List.set_cons_zero, List.set_cons_succ]
    refine st_skip rfl rfl ?_
    simp only [Nat.reduceAdd, Act.put, List.setIfInBounds_toArray, List.set_cons_zero, List.set_cons_succ]
    refine st_skip rfl rfl ?_
    simp only [Nat.reduceAdd, Act.put, List.setIfInBounds_toArray, List.set_cons_zero, List.set_cons_succ]
    refine st_skip rfl rfl ?_
    simp only [Nat.reduceAdd, Act.put, List.setIfInBounds_toArray, List.set_cons_zero, List.set_cons_succ]
    refine st_skip rfl rfl ?_
    simp only [Nat.reduceAdd, Act.put, List.setIfInBounds_toArray, List.set_cons_zero, List.set_cons_succ]
    refine st_skip rfl rfl ?_
    simp only [Nat.reduceAdd, Act.put, List.setIfInBounds_toArray, List.set_cons_zero, List.set_cons_succ]
    refine st_late (.bool true) rfl rfl (fun _ => by go_simp) ?_
    simp only [Nat.reduceAdd, Act.put, List.setIfInBounds_toArray, List.set_cons_zero, List.set_cons_succ]
    refine st_late (.bool true) rfl rfl (fun _ => rfl) ?_
    simp only [Nat.reduceAdd, Act.put, List.setIfInBounds_toArray, List.set_cons_zero, List.set_cons_succ]
    refine st_nil ?_
    intro ps whwe hwe
    simp only [fin, List.foldl_nil]
    have hB4 := hB3.drew.trans (hwe.below.mono hB3.size)
    go_wp2
    go_ret
    exact ⟨rfl, hB4⟩
  · have t2 : ((r : Int) == 18446744073709551615) = false := by simp; omega
    have T2 := Lib.hid t2
    clear t2
    obtain ⟨r1, hr1⟩ : ∃ r1, r + 1 = r1 := ⟨_, rfl⟩
    have hH : H r1 := by have := HRH.out; unfold H at *; omega
    have c3 := fun W => Ref.mul_any r1 r1 W hH hH
    have c4 := fun W => cmp_any (r1 * r1) (num xh xl) W (prodW hH hH) HN.out
    have e1 : cmpN (r1 * r1) (num xh xl) = 1 := cmp_gt (by rw [← hr1]; exact HR.out.2)
    rw [e1] at c4
    have ew : IntKind.u64.wrap ((r : Int) + 1) = (r1 : Int) := by rw [IntKind.wrap_u64]; unfold H at hH; omega
    clear ht e1 hr1 hH
    go_wp2
    generalize (18446744073709551615 : Int) = big at *
    refine wp_region_steady [.late, .late, .late, .late, .late, .late, .late, .plain, .plain, .plain, .plain, .late, .late, .late] none [] 28 (by kernel_rfl) rfl (by kernel_rfl) (by kernel_rfl) ?_
    refine st_late (.int .u64 r) rfl rfl (fun _ => rfl) ?_
    simp only [Nat.reduceAdd, Act.put, List.setIfInBounds_toArray, List.set_cons_zero, List.set_cons_succ]
    refine st_late (.bool false) rfl rfl (fun _ => by rw [run_eql_int 22 _ _ _ .u64 (r : Int) big _ rfl rfl rfl Try.underlying22]; exact congrArg (fun z => Result.ok (Next.value (Value.bool z)) _) T2.out) ?_
    simp only [Nat.reduceAdd, Act.put, List.setIfInBounds_toArray, List.set_cons_zero, List.set_cons_succ]
    refine st_late (.bool false) rfl rfl (fun _ => rfl) ?_
    simp only [Nat.reduceAdd, Act.put, List.setIfInBounds_toArray, List.set_cons_zero, List.set_cons_succ]
    refine st_late (.int .u64 r) rfl rfl (fun _ => rfl) ?_
    simp only [Nat.reduceAdd, Act.put, List.setIfInBounds_toArray, List.set_cons_zero, List.set_cons_succ]
    refine st_late (.int .u64 r1) rfl rfl (fun _ => by go_simp) ?_
    simp only [Nat.reduceAdd, Act.put, List.setIfInBounds_toArray, List.set_cons_zero, List.set_cons_succ]
    refine st_late (.int .u64 r) rfl rfl (fun _ => rfl) ?_
    simp only [Nat.reduceAdd, Act.put, List.setIfInBounds_toArray, List.set_cons_zero, List.set_cons_succ]
    refine st_late (.int .u64 r1) rfl rfl (fun _ => by go_simp) ?_
    simp only [Nat.reduceAdd, Act.put, List.setIfInBounds_toArray, List.set_cons_zero, List.set_cons_succ]
    refine st_call 12 #[.int .u64 r1, .int .u64 r1] (.agg (bv (r1 * r1))) rfl rfl (fun _ => by go_simp) (c3) ?_
    simp only [Nat.reduceAdd, Act.put, List.setIfInBounds_toArray, List.set_cons_zero, List.set_cons_succ]
    refine st_load 28 (.tmp 1) (w.heap.size) _ _ _ _ rfl rfl rfl rfl q0 Try.underlying28 rfl infoW ?_
    simp only [Nat.reduceAdd, Act.put, List.setIfInBounds_toArray, List.set_cons_zero, List.set_cons_succ]
    refine st_call 10 #[.agg #[.int .u64 xh, .int .u64 xl]] (.agg (bv (num xh xl))) rfl rfl (fun _ => by go_simp) (cb) ?_
    simp only [Nat.reduceAdd, Act.put, List.setIfInBounds_toArray, List.set_cons_zero, List.set_cons_succ]
    refine st_call 16 #[.agg (bv (r1 * r1)), .agg (bv (num xh xl))] (.int .i64 1) rfl rfl (fun _ => by go_simp) (c4) ?_
    simp only [Nat.reduceAdd, Act.put, List.setIfInBounds_toArray, List.set_cons_zero, List.set_cons_succ]
    refine st_late (.bool true) rfl rfl (fun _ => by go_simp) ?_
    simp only [Nat.reduceAdd, Act.put, List.setIfInBounds_toArray, List.set_cons_zero, List.set_cons_succ]
    refine st_late (.bool true) rfl rfl (fun _ => by go_simp) ?_
    simp only [Nat.reduceAdd, Act.put, List.setIfInBounds_toArray, List.set_cons_zero, List.set_cons_succ]
    refine st_late (.bool true) rfl rfl (fun _ => rfl) ?_
    simp only [Nat.reduceAdd, Act.put, List.setIfInBounds_toArray, List.set_cons_zero, List.set_cons_succ]
    refine st_nil ?_
    intro ps whwe hwe
    simp only [fin, List.foldl_nil]
    have hB4 := hB3.drew.trans (hwe.below.mono hB3.size)
    go_wp2
    go_ret
    exact ⟨rfl, hB4⟩
end Go.Proofs.Ytjniohijomoakaa.Walks
