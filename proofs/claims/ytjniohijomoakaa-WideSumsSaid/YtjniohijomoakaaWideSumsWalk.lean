/-
  The walk of WideSums: for any two numbers of 128 bits it returns true. No condition.
-/
import Derived.Test.YtjniohijomoakaaWideShiftsWalk
namespace Go.Proofs.Ytjniohijomoakaa.Walks
open Go.ChangeShapes Go.WideShapes Go.ChangeAt Go.RowKit
open Arr Bt Ref Wide Steady
set_option linter.unusedVariables false
set_option maxRecDepth 100000

set_option maxHeartbeats 8000000 in
theorem sums_core (xh xl yh yl sh sl dh dl n m s d cc c2 : Nat) (c : Int) (o bl : Bool) (w : World)
    (cA : ∀ W, Calls Try.prog 13 #[.agg #[.int .u64 xh, .int .u64 xl], .agg #[.int .u64 yh, .int .u64 yl]] W fun e w' => e = .returned (.tuple #[.agg #[.int .u64 sh, .int .u64 sl], .bool o]) ∧ Below W.heap.size W w')
    (cS : ∀ W, Calls Try.prog 15 #[.agg #[.int .u64 xh, .int .u64 xl], .agg #[.int .u64 yh, .int .u64 yl]] W fun e w' => e = .returned (.tuple #[.agg #[.int .u64 dh, .int .u64 dl], .bool bl]) ∧ Below W.heap.size W w')
    (cU : ∀ W, Calls Try.prog 17 #[.agg #[.int .u64 xh, .int .u64 xl], .agg #[.int .u64 yh, .int .u64 yl]] W fun e w' => e = .returned (.int .i64 c) ∧ Below W.heap.size W w')
    (cbx : ∀ W, Calls Try.prog 10 #[.agg #[.int .u64 xh, .int .u64 xl]] W fun e w' => e = .returned (.agg (bv n)) ∧ Below W.heap.size W w')
    (cby : ∀ W, Calls Try.prog 10 #[.agg #[.int .u64 yh, .int .u64 yl]] W fun e w' => e = .returned (.agg (bv m)) ∧ Below W.heap.size W w')
    (cbs : ∀ W, Calls Try.prog 10 #[.agg #[.int .u64 sh, .int .u64 sl]] W fun e w' => e = .returned (.agg (bv s)) ∧ Below W.heap.size W w')
    (cbd : ∀ W, Calls Try.prog 10 #[.agg #[.int .u64 dh, .int .u64 dl]] W fun e w' => e = .returned (.agg (bv d)) ∧ Below W.heap.size W w')
    (cAd : ∀ W, Calls Try.prog 14 #[.agg (bv n), .agg (bv m)] W fun e w' => e = .returned (.tuple #[.agg (bv s), .int .i64 cc]) ∧ Below W.heap.size W w')
    (cBk : ∀ W, Calls Try.prog 14 #[.agg (bv d), .agg (bv m)] W fun e w' => e = .returned (.tuple #[.agg (bv n), .int .i64 c2]) ∧ Below W.heap.size W w')
    (cC : ∀ W, Calls Try.prog 16 #[.agg (bv n), .agg (bv m)] W fun e w' => e = .returned (.int .i64 c) ∧ Below W.heap.size W w')
    (f1 : ((cc : Int) == 1) = o) (f2 : decide (c < 0) = bl) :
    Calls Try.prog 4 #[.agg #[.int .u64 xh, .int .u64 xl], .agg #[.int .u64 yh, .int .u64 yl]] w fun e w' => e = .returned (.bool true) ∧ Below w.heap.size w w' := by
  have es := eql_bv s
  have en := eql_bv n
  go_enter Try.func4, Try.ntmps4
  go_upto_region 3 with (go_at_call 9; ((with_reducible refine (anchor_any _).mono ?_); rintro e w1 ⟨rfl, g1⟩))
  have hB1 : Below w.heap.size w w1 := (((Below.refl _ _).alloc (Nat.le_refl _) _).alloc (by simp) _).trans (g1.mono (by simp; omega))
  have qx := below_row g1 (by simp; omega) (heap_alloc2_old w (.cells #[.int .u64 xh, .int .u64 xl] 28) (.cells #[.int .u64 yh, .int .u64 yl] 28))
  have qy := below_row g1 (by simp) (heap_alloc2_new w (.cells #[.int .u64 xh, .int .u64 xl] 28) (.cells #[.int .u64 yh, .int .u64 yl] 28))
  clear g1
  go_upto_region 4 with (first
    | (refine wpList_load_row rfl 28 (.tmp 2) rfl w.heap.size rfl _ _ _ _ qx Try.underlying28 rfl infoW ?_; simp only [Act.put, List.setIfInBounds_toArray, List.set_cons_zero, List.set_cons_succ])
    | (refine wpList_load_row rfl 28 (.tmp 3) rfl (w.heap.size + 1) rfl _ _ _ _ qy Try.underlying28 rfl infoW ?_; simp only [Act.put, List.setIfInBounds_toArray, List.set_cons_zero, List.set_cons_succ])
    | (go_at_call 13; ((with_reducible refine (cA _).mono ?_); rintro e w2 ⟨rfl, g2⟩)))
  have n_qx := row_alloc (below_row g2 (lt_of_row qx) qx) (.cells #[.int .u64 sh, .int .u64 sl] 28)
  have n_qy := row_alloc (below_row g2 (lt_of_row qy) qy) (.cells #[.int .u64 sh, .int .u64 sl] 28)
  have q5 := heap_alloc_new w2 (.cells #[.int .u64 sh, .int .u64 sl] 28)
  have hB2 := hB1.trans (g2.mono hB1.size)
  have hB3 := hB2.alloc hB2.size (.cells #[.int .u64 sh, .int .u64 sl] 28)
  clear g2 hB1 hB2 qx qy cA
  have qx := n_qx
  have qy := n_qy
  clear n_qx n_qy
  refine wp_region_steady [.plain, .plain, .plain, .plain, .plain, .late, .late, .late, .make 25 (zs) 9 (bv s), .put 8, .late] none [(8, 7)] 78 (by kernel_rfl) rfl (by kernel_rfl) (by kernel_rfl) ?_
  refine st_load 28 (.tmp 2) (w.heap.size) _ _ _ _ rfl rfl rfl rfl qx Try.underlying28 rfl infoW ?_
  simp only [Nat.reduceAdd, Act.put, List.setIfInBounds_toArray, List.set_cons_zero, List.set_cons_succ]
  refine st_call 10 #[.agg #[.int .u64 xh, .int .u64 xl]] (.agg (bv n)) rfl rfl (fun _ => by go_simp) (cbx) ?_
  simp only [Nat.reduceAdd, Act.put, List.setIfInBounds_toArray, List.set_cons_zero, List.set_cons_succ]
  refine st_load 28 (.tmp 3) (w.heap.size + 1) _ _ _ _ rfl rfl rfl rfl qy Try.underlying28 rfl infoW ?_
  simp only [Nat.reduceAdd, Act.put, List.setIfInBounds_toArray, List.set_cons_zero, List.set_cons_succ]
  refine st_call 10 #[.agg #[.int .u64 yh, .int .u64 yl]] (.agg (bv m)) rfl rfl (fun _ => by go_simp) (cby) ?_
  simp only [Nat.reduceAdd, Act.put, List.setIfInBounds_toArray, List.set_cons_zero, List.set_cons_succ]
  refine st_call 14 #[.agg (bv n), .agg (bv m)] (.tuple #[.agg (bv s), .int .i64 cc]) rfl rfl (fun _ => by go_simp) (cAd) ?_
  simp only [Nat.reduceAdd, Act.put, List.setIfInBounds_toArray, List.set_cons_zero, List.set_cons_succ]
  refine st_late (.tuple #[.agg (bv s), .int .i64 cc]) rfl rfl (fun _ => rfl) ?_
  simp only [Nat.reduceAdd, Act.put, List.setIfInBounds_toArray, List.set_cons_zero, List.set_cons_succ]
  refine st_late (.agg (bv s)) rfl rfl (fun _ => by go_simp) ?_
  simp only [Nat.reduceAdd, Act.put, List.setIfInBounds_toArray, List.set_cons_zero, List.set_cons_succ]
  refine st_late (.int .i64 cc) rfl rfl (fun _ => by go_simp) ?_
  simp only [Nat.reduceAdd, Act.put, List.setIfInBounds_toArray, List.set_cons_zero, List.set_cons_succ]
  refine st_make 25 (zs) 9 (bv s) rfl rfl rfl zeroU ?_
  simp only [Nat.reduceAdd, Act.put, List.setIfInBounds_toArray, List.set_cons_zero, List.set_cons_succ]
  refine st_put 8 25 7 (.tmp 28) _ _ _ rfl rfl rfl rfl (by simp) rfl rfl rfl (by rw [bv_size]; exact infoU) (by rw [bv_size, zs_size]) (bv_one _) ?_
  simp only [Nat.reduceAdd]
  refine st_late (.int .i64 cc) rfl rfl (fun _ => rfl) ?_
  simp only [Nat.reduceAdd, Act.put, List.setIfInBounds_toArray, List.set_cons_zero, List.set_cons_succ]
  refine st_nil ?_
  intro phwa whwa hwa
  simp only [fin, List.foldl_cons, List.foldl_nil, Act.put, List.setIfInBounds_toArray, List.set_cons_zero, List.set_cons_succ]
  have hC := hwa.below
  have n_qx := below_row hC (lt_of_row qx) qx
  have n_qy := below_row hC (lt_of_row qy) qy
  have n_q5 := below_row hC (lt_of_row q5) q5
  have hB4 := hB3.drew.trans (hC.mono hB3.size)
  have q7 := (hwa.row (k := 8) (s := 9) rfl rfl rfl).2
  clear cAd
  clear hwa hC hB3 qx qy q5
  have qx := n_qx
  clear n_qx
  have qy := n_qy
  clear n_qy
  have q5 := n_q5
  clear n_q5
  go_upto_region 6 with (first
    | (refine wpList_load_row rfl 28 (.tmp 2) rfl w.heap.size rfl _ _ _ _ qx Try.underlying28 rfl infoW ?_; simp only [Act.put, List.setIfInBounds_toArray, List.set_cons_zero, List.set_cons_succ])
    | (refine wpList_load_row rfl 28 (.tmp 3) rfl (w.heap.size + 1) rfl _ _ _ _ qy Try.underlying28 rfl infoW ?_; simp only [Act.put, List.setIfInBounds_toArray, List.set_cons_zero, List.set_cons_succ])
    | (go_at_call 15; ((with_reducible refine (cS _).mono ?_); rintro e w3 ⟨rfl, g3⟩)))
  have n_qx := row_alloc (below_row g3 (lt_of_row qx) qx) (.cells #[.int .u64 dh, .int .u64 dl] 28)
  have n_qy := row_alloc (below_row g3 (lt_of_row qy) qy) (.cells #[.int .u64 dh, .int .u64 dl] 28)
  have n_q5 := row_alloc (below_row g3 (lt_of_row q5) q5) (.cells #[.int .u64 dh, .int .u64 dl] 28)
  have n_q7 := row_alloc (below_row g3 (lt_of_row q7) q7) (.cells #[.int .u64 dh, .int .u64 dl] 28)
  have q9 := heap_alloc_new w3 (.cells #[.int .u64 dh, .int .u64 dl] 28)
  have hB5 := hB4.trans (g3.mono hB4.size)
  have hB6 := hB5.alloc hB5.size (.cells #[.int .u64 dh, .int .u64 dl] 28)
  clear g3 hB4 hB5 qx qy q5 q7 cS
  have qx := n_qx
  have qy := n_qy
  have q5 := n_q5
  have q7 := n_q7
  clear n_qx n_qy n_q5 n_q7
  refine wp_region_steady [.plain, .plain, .plain, .plain, .plain, .late, .late, .late, .make 25 (zs) 9 (bv n), .put 8, .late] none [(8, 11)] 78 (by kernel_rfl) rfl (by kernel_rfl) (by kernel_rfl) ?_
  refine st_load 28 (.tmp 9) (w3.heap.size) _ _ _ _ rfl rfl rfl rfl q9 Try.underlying28 rfl infoW ?_
  simp only [Nat.reduceAdd, Act.put, List.setIfInBounds_toArray, List.set_cons_zero, List.set_cons_succ]
  refine st_call 10 #[.agg #[.int .u64 dh, .int .u64 dl]] (.agg (bv d)) rfl rfl (fun _ => by go_simp) (cbd) ?_
  simp only [Nat.reduceAdd, Act.put, List.setIfInBounds_toArray, List.set_cons_zero, List.set_cons_succ]
  refine st_load 28 (.tmp 3) (w.heap.size + 1) _ _ _ _ rfl rfl rfl rfl qy Try.underlying28 rfl infoW ?_
  simp only [Nat.reduceAdd, Act.put, List.setIfInBounds_toArray, List.set_cons_zero, List.set_cons_succ]
  refine st_call 10 #[.agg #[.int .u64 yh, .int .u64 yl]] (.agg (bv m)) rfl rfl (fun _ => by go_simp) (cby) ?_
  simp only [Nat.reduceAdd, Act.put, List.setIfInBounds_toArray, List.set_cons_zero, List.set_cons_succ]
  refine st_call 14 #[.agg (bv d), .agg (bv m)] (.tuple #[.agg (bv n), .int .i64 c2]) rfl rfl (fun _ => by go_simp) (cBk) ?_
  simp only [Nat.reduceAdd, Act.put, List.setIfInBounds_toArray, List.set_cons_zero, List.set_cons_succ]
  refine st_late (.tuple #[.agg (bv n), .int .i64 c2]) rfl rfl (fun _ => rfl) ?_
  simp only [Nat.reduceAdd, Act.put, List.setIfInBounds_toArray, List.set_cons_zero, List.set_cons_succ]
  refine st_late (.agg (bv n)) rfl rfl (fun _ => by go_simp) ?_
  simp only [Nat.reduceAdd, Act.put, List.setIfInBounds_toArray, List.set_cons_zero, List.set_cons_succ]
  refine st_late (.int .i64 c2) rfl rfl (fun _ => by go_simp) ?_
  simp only [Nat.reduceAdd, Act.put, List.setIfInBounds_toArray, List.set_cons_zero, List.set_cons_succ]
  refine st_make 25 (zs) 9 (bv n) rfl rfl rfl zeroU ?_
  simp only [Nat.reduceAdd, Act.put, List.setIfInBounds_toArray, List.set_cons_zero, List.set_cons_succ]
  refine st_put 8 25 11 (.tmp 42) _ _ _ rfl rfl rfl rfl (by simp) rfl rfl rfl (by rw [bv_size]; exact infoU) (by rw [bv_size, zs_size]) (bv_one _) ?_
  simp only [Nat.reduceAdd]
  refine st_late (.int .i64 c2) rfl rfl (fun _ => rfl) ?_
  simp only [Nat.reduceAdd, Act.put, List.setIfInBounds_toArray, List.set_cons_zero, List.set_cons_succ]
  refine st_nil ?_
  intro phwb whwb hwb
  simp only [fin, List.foldl_cons, List.foldl_nil, Act.put, List.setIfInBounds_toArray, List.set_cons_zero, List.set_cons_succ]
  have hC := hwb.below
  have n_qx := below_row hC (lt_of_row qx) qx
  have n_qy := below_row hC (lt_of_row qy) qy
  have n_q5 := below_row hC (lt_of_row q5) q5
  have n_q7 := below_row hC (lt_of_row q7) q7
  have hB7 := hB6.drew.trans (hC.mono hB6.size)
  have q11 := (hwb.row (k := 8) (s := 9) rfl rfl rfl).2
  clear q9 cBk cbd
  clear hwb hC hB6 qx qy q5 q7
  have qx := n_qx
  clear n_qx
  have qy := n_qy
  clear n_qy
  have q5 := n_q5
  clear n_q5
  have q7 := n_q7
  clear n_q7
  go_wp2
  refine wp_region_steady [.plain, .plain, .plain, .plain, .plain, .late] none [] 78 (by kernel_rfl) rfl (by kernel_rfl) (by kernel_rfl) ?_
  refine st_load 28 (.tmp 2) (w.heap.size) _ _ _ _ rfl rfl rfl rfl qx Try.underlying28 rfl infoW ?_
  simp only [Nat.reduceAdd, Act.put, List.setIfInBounds_toArray, List.set_cons_zero, List.set_cons_succ]
  refine st_call 10 #[.agg #[.int .u64 xh, .int .u64 xl]] (.agg (bv n)) rfl rfl (fun _ => by go_simp) (cbx) ?_
  simp only [Nat.reduceAdd, Act.put, List.setIfInBounds_toArray, List.set_cons_zero, List.set_cons_succ]
  refine st_load 28 (.tmp 3) (w.heap.size + 1) _ _ _ _ rfl rfl rfl rfl qy Try.underlying28 rfl infoW ?_
  simp only [Nat.reduceAdd, Act.put, List.setIfInBounds_toArray, List.set_cons_zero, List.set_cons_succ]
  refine st_call 10 #[.agg #[.int .u64 yh, .int .u64 yl]] (.agg (bv m)) rfl rfl (fun _ => by go_simp) (cby) ?_
  simp only [Nat.reduceAdd, Act.put, List.setIfInBounds_toArray, List.set_cons_zero, List.set_cons_succ]
  refine st_call 16 #[.agg (bv n), .agg (bv m)] (.int .i64 c) rfl rfl (fun _ => by go_simp) (cC) ?_
  simp only [Nat.reduceAdd, Act.put, List.setIfInBounds_toArray, List.set_cons_zero, List.set_cons_succ]
  refine st_late (.int .i64 c) rfl rfl (fun _ => rfl) ?_
  simp only [Nat.reduceAdd, Act.put, List.setIfInBounds_toArray, List.set_cons_zero, List.set_cons_succ]
  refine st_nil ?_
  intro phwc whwc hwc
  simp only [fin, List.foldl_nil]
  have hC := hwc.below
  have n_qx := below_row hC (lt_of_row qx) qx
  have n_qy := below_row hC (lt_of_row qy) qy
  have n_q5 := below_row hC (lt_of_row q5) q5
  have n_q7 := below_row hC (lt_of_row q7) q7
  have n_q11 := below_row hC (lt_of_row q11) q11
  have hB8 := hB7.drew.trans (hC.mono hB7.size)
  clear cC cby
  clear hwc hC hB7 qx qy q5 q7 q11
  have qx := n_qx
  clear n_qx
  have qy := n_qy
  clear n_qy
  have q5 := n_q5
  clear n_q5
  have q7 := n_q7
  clear n_q7
  have q11 := n_q11
  clear n_q11
  go_wp2
  refine wp_region_steady [.plain, .plain, .plain, .late, .late, .late, .late, .late, .late, .late, .late, .plain, .plain, .plain, .late, .late, .late, .late, .late, .late, .late, .late, .late, .plain, .plain, .plain, .late, .late, .late, .late] none [] 78 (by kernel_rfl) rfl (by kernel_rfl) (by kernel_rfl) ?_
  refine st_load 28 (.tmp 5) (w2.heap.size) _ _ _ _ rfl rfl rfl rfl q5 Try.underlying28 rfl infoW ?_
  simp only [Nat.reduceAdd, Act.put, List.setIfInBounds_toArray, List.set_cons_zero, List.set_cons_succ]
  refine st_call 10 #[.agg #[.int .u64 sh, .int .u64 sl]] (.agg (bv s)) rfl rfl (fun _ => by go_simp) (cbs) ?_
  simp only [Nat.reduceAdd, Act.put, List.setIfInBounds_toArray, List.set_cons_zero, List.set_cons_succ]
  refine st_load 25 (.tmp 7) (phwa 8) _ _ _ _ rfl rfl rfl rfl q7 Try.underlying25 rfl (by rw [bv_size]; exact infoU) ?_
  simp only [Nat.reduceAdd, Act.put, List.setIfInBounds_toArray, List.set_cons_zero, List.set_cons_succ]
  refine st_late (.bool true) rfl rfl (fun _ => by go_simp) ?_
  simp only [Nat.reduceAdd, Act.put, List.setIfInBounds_toArray, List.set_cons_zero, List.set_cons_succ]
  refine st_late (.bool true) rfl rfl (fun _ => rfl) ?_
  simp only [Nat.reduceAdd, Act.put, List.setIfInBounds_toArray, List.set_cons_zero, List.set_cons_succ]
  refine st_late (.bool o) rfl rfl (fun _ => rfl) ?_
  simp only [Nat.reduceAdd, Act.put, List.setIfInBounds_toArray, List.set_cons_zero, List.set_cons_succ]
  refine st_late (.int .i64 cc) rfl rfl (fun _ => rfl) ?_
  simp only [Nat.reduceAdd, Act.put, List.setIfInBounds_toArray, List.set_cons_zero, List.set_cons_succ]
  refine st_late (.bool o) rfl rfl (fun _ => by go_simp) ?_
  simp only [Nat.reduceAdd, Act.put, List.setIfInBounds_toArray, List.set_cons_zero, List.set_cons_succ]
  refine st_late (.bool true) rfl rfl (fun _ => by go_simp) ?_
  simp only [Nat.reduceAdd, Act.put, List.setIfInBounds_toArray, List.set_cons_zero, List.set_cons_succ]
  refine st_late (.bool true) rfl rfl (fun _ => by go_simp) ?_
  simp only [Nat.reduceAdd, Act.put, List.setIfInBounds_toArray, List.set_cons_zero, List.set_cons_succ]
  refine st_late (.bool true) rfl rfl (fun _ => rfl) ?_
  simp only [Nat.reduceAdd, Act.put, List.setIfInBounds_toArray, List.set_cons_zero, List.set_cons_succ]
  refine st_load 25 (.tmp 11) (phwb 8) _ _ _ _ rfl rfl rfl rfl q11 Try.underlying25 rfl (by rw [bv_size]; exact infoU) ?_
  simp only [Nat.reduceAdd, Act.put, List.setIfInBounds_toArray, List.set_cons_zero, List.set_cons_succ]
  refine st_load 28 (.tmp 2) (w.heap.size) _ _ _ _ rfl rfl rfl rfl qx Try.underlying28 rfl infoW ?_
  simp only [Nat.reduceAdd, Act.put, List.setIfInBounds_toArray, List.set_cons_zero, List.set_cons_succ]
  refine st_call 10 #[.agg #[.int .u64 xh, .int .u64 xl]] (.agg (bv n)) rfl rfl (fun _ => by go_simp) (cbx) ?_
  simp only [Nat.reduceAdd, Act.put, List.setIfInBounds_toArray, List.set_cons_zero, List.set_cons_succ]
  refine st_late (.bool true) rfl rfl (fun _ => by go_simp) ?_
  simp only [Nat.reduceAdd, Act.put, List.setIfInBounds_toArray, List.set_cons_zero, List.set_cons_succ]
  refine st_late (.bool true) rfl rfl (fun _ => by go_simp) ?_
  simp only [Nat.reduceAdd, Act.put, List.setIfInBounds_toArray, List.set_cons_zero, List.set_cons_succ]
  refine st_late (.bool true) rfl rfl (fun _ => rfl) ?_
  simp only [Nat.reduceAdd, Act.put, List.setIfInBounds_toArray, List.set_cons_zero, List.set_cons_succ]
  refine st_late (.bool bl) rfl rfl (fun _ => rfl) ?_
  simp only [Nat.reduceAdd, Act.put, List.setIfInBounds_toArray, List.set_cons_zero, List.set_cons_succ]
  refine st_late (.int .i64 c) rfl rfl (fun _ => rfl) ?_
  simp only [Nat.reduceAdd, Act.put, List.setIfInBounds_toArray, List.set_cons_zero, List.set_cons_succ]
  refine st_late (.bool bl) rfl rfl (fun _ => by go_simp) ?_
  simp only [Nat.reduceAdd, Act.put, List.setIfInBounds_toArray, List.set_cons_zero, List.set_cons_succ]
  refine st_late (.bool true) rfl rfl (fun _ => by go_simp) ?_
  simp only [Nat.reduceAdd, Act.put, List.setIfInBounds_toArray, List.set_cons_zero, List.set_cons_succ]
  refine st_late (.bool true) rfl rfl (fun _ => by go_simp) ?_
  simp only [Nat.reduceAdd, Act.put, List.setIfInBounds_toArray, List.set_cons_zero, List.set_cons_succ]
  refine st_late (.bool true) rfl rfl (fun _ => rfl) ?_
  simp only [Nat.reduceAdd, Act.put, List.setIfInBounds_toArray, List.set_cons_zero, List.set_cons_succ]
  refine st_load 28 (.tmp 2) (w.heap.size) _ _ _ _ rfl rfl rfl rfl qx Try.underlying28 rfl infoW ?_
  simp only [Nat.reduceAdd, Act.put, List.setIfInBounds_toArray, List.set_cons_zero, List.set_cons_succ]
  refine st_load 28 (.tmp 3) (w.heap.size + 1) _ _ _ _ rfl rfl rfl rfl qy Try.underlying28 rfl infoW ?_
  simp only [Nat.reduceAdd, Act.put, List.setIfInBounds_toArray, List.set_cons_zero, List.set_cons_succ]
  refine st_call 17 #[.agg #[.int .u64 xh, .int .u64 xl], .agg #[.int .u64 yh, .int .u64 yl]] (.int .i64 c) rfl rfl (fun _ => by go_simp) (cU) ?_
  simp only [Nat.reduceAdd, Act.put, List.setIfInBounds_toArray, List.set_cons_zero, List.set_cons_succ]
  refine st_late (.int .i64 c) rfl rfl (fun _ => rfl) ?_
  simp only [Nat.reduceAdd, Act.put, List.setIfInBounds_toArray, List.set_cons_zero, List.set_cons_succ]
  refine st_late (.bool true) rfl rfl (fun _ => by go_simp) ?_
  simp only [Nat.reduceAdd, Act.put, List.setIfInBounds_toArray, List.set_cons_zero, List.set_cons_succ]
  refine st_late (.bool true) rfl rfl (fun _ => by go_simp) ?_
  simp only [Nat.reduceAdd, Act.put, List.setIfInBounds_toArray, List.set_cons_zero, List.set_cons_succ]
  refine st_late (.bool true) rfl rfl (fun _ => rfl) ?_
  simp only [Nat.reduceAdd, Act.put, List.setIfInBounds_toArray, List.set_cons_zero, List.set_cons_succ]
  refine st_nil ?_
  intro phwd whwd hwd
  simp only [fin, List.foldl_nil]
  have hB9 := hB8.drew.trans (hwd.below.mono hB8.size)
  go_wp2
  go_ret
  exact ⟨rfl, hB9⟩
theorem wideSums_walk (a : Int) (wa : (Lit.int .u64 a).wf = true) (b : Int) (wb : (Lit.int .u64 b).wf = true) (a' : Int) (wa' : (Lit.int .u64 a').wf = true) (b' : Int) (wb' : (Lit.int .u64 b').wf = true) (w : World) :
    Calls Try.prog 4 #[.agg #[.int .u64 a, .int .u64 b], .agg #[.int .u64 a', .int .u64 b']] w fun e w' => e = .returned (.bool true) ∧ Below w.heap.size w w' := by
  obtain ⟨xh, rfl, h1⟩ := nat_of_wf wa
  obtain ⟨xl, rfl, h2⟩ := nat_of_wf wb
  obtain ⟨yh, rfl, h3⟩ := nat_of_wf wa'
  obtain ⟨yl, rfl, h4⟩ := nat_of_wf wb'
  have hn := num_lt h1 h2
  have hm := num_lt h3 h4
  have ws : W128 ((num xh xl + num yh yl) % 340282366920938463463374607431768211456) := Nat.mod_lt _ (by omega)
  have wd : W128 ((num xh xl + 340282366920938463463374607431768211456 - num yh yl) % 340282366920938463463374607431768211456) := Nat.mod_lt _ (by omega)
  have eb : ((num xh xl + 340282366920938463463374607431768211456 - num yh yl) % 340282366920938463463374607431768211456 + num yh yl) % 340282366920938463463374607431768211456 = num xh xl := by unfold W128 at hn hm; omega
  have ecy : cy (num xh xl) (num yh yl) 128 = if 340282366920938463463374607431768211456 ≤ num xh xl + num yh yl then 1 else 0 := by
    rw [cy_128 hn hm]; unfold W128 at hn hm; split <;> omega
  refine sums_core xh xl yh yl _ _ _ _ (num xh xl) (num yh yl) ((num xh xl + num yh yl) % 340282366920938463463374607431768211456) ((num xh xl + 340282366920938463463374607431768211456 - num yh yl) % 340282366920938463463374607431768211456)
    (cy (num xh xl) (num yh yl) 128) (cy ((num xh xl + 340282366920938463463374607431768211456 - num yh yl) % 340282366920938463463374607431768211456) (num yh yl) 128) (cmpN (num xh xl) (num yh yl)) _ _ w
    (fun W => add_halves xh xl yh yl W h1 h2 h3 h4) (fun W => sub_halves xh xl yh yl W h1 h2 h3 h4) (fun W => cmp_halves xh xl yh yl W h1 h2 h3 h4) (fun W => bits_any xh xl W h1 h2) (fun W => bits_any yh yl W h3 h4)
    (fun W => bits_of _ W ws) (fun W => bits_of _ W wd) (fun W => ?_) (fun W => ?_) (fun W => cmp_any _ _ W hn hm) ?_ ?_
  · rw [bv_mod]; exact add_any _ _ W hn hm
  · have c := add_any _ _ W wd hm
    rw [← bv_mod ((num xh xl + 340282366920938463463374607431768211456 - num yh yl) % 340282366920938463463374607431768211456 + num yh yl), eb] at c
    exact c
  · rw [ecy]
    by_cases h : 340282366920938463463374607431768211456 ≤ num xh xl + num yh yl
    · rw [if_pos h, decide_eq_true h]; rfl
    · rw [if_neg h, decide_eq_false h]; rfl
  · unfold cmpN
    by_cases h : num xh xl < num yh yl
    · rw [if_pos h, decide_eq_true h]; rfl
    · rw [if_neg h, decide_eq_false h]
      split <;> rfl
end Go.Proofs.Ytjniohijomoakaa.Walks
