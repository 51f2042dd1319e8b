/-
  What layer 3's statements say of what a quotient leaves: 'lies'. Conditions: integers of 64 bits.
-/
import Derived.Test.YtiinpgbanmokjaaRatioRef
namespace Go.Proofs.Ytiinpgbanmokjaa.RatioRef
open Go.ChangeShapes Go.WideShapes Go.ChangeAt Go.RowKit
open Num Ref Ratio Steady Arr
set_option linter.unusedVariables false
set_option maxRecDepth 100000

theorem field_digits (v c0 c1 c2 c3 : Int) (w : World) : (Instr.field 31 (.agg #[.int .i64 v, .int .u64 c0, .int .u64 c1, .int .u64 c2, .int .u64 c3]) 1).run Try.prog w = .ok (.agg #[.int .u64 c0, .int .u64 c1, .int .u64 c2, .int .u64 c3]) w := by kernel_rfl
theorem infoD : (Try.prog.info? 29).map (·.size) = some 4 := by kernel_rfl
set_option maxHeartbeats 2000000 in
theorem lies_core (u d0 d1 d2 d3 c v c0 c1 c2 c3 s side : Int) (up L : Bool) (w : World)
    (cs : ∀ W, Calls Try.prog 14 #[.agg #[.int .i64 u, .int .u64 d0, .int .u64 d1, .int .u64 d2, .int .u64 d3]] W fun e w' => e = .returned (.int .i64 s) ∧ Below W.heap.size W w')
    (co : ∀ W, Calls Try.prog 19 #[.int .i64 c] W fun e w' => e = .returned (.agg #[.int .i64 v, .int .u64 c0, .int .u64 c1, .int .u64 c2, .int .u64 c3]) ∧ Below W.heap.size W w')
    (cl : ∀ W, Calls Try.prog 17 #[.agg #[.int .u64 d0, .int .u64 d1, .int .u64 d2, .int .u64 d3], .agg #[.int .u64 c0, .int .u64 c1, .int .u64 c2, .int .u64 c3]] W fun e w' => e = .returned (.bool L) ∧ Below W.heap.size W w')
    (hs : side = if (decide (c < 0) != up) then -1 else 1) :
    Calls Try.prog 11 #[.agg #[.int .i64 u, .int .u64 d0, .int .u64 d1, .int .u64 d2, .int .u64 d3], .int .i64 c, .bool up] w fun e w' => e = .returned (.bool (decide (s = 0) || (decide (s = side) && L))) ∧ Below w.heap.size w w' := by
  obtain ⟨n, hn⟩ : ∃ n, decide (c < 0) = n := ⟨_, rfl⟩
  rw [hn] at hs
  go_enter Try.func11, Try.ntmps11
  have q0 : (w.alloc (.cells #[.int .i64 u, .int .u64 d0, .int .u64 d1, .int .u64 d2, .int .u64 d3] 31)).heap[w.heap.size]? = some (.cells #[.int .i64 u, .int .u64 d0, .int .u64 d1, .int .u64 d2, .int .u64 d3] 31 (0, 0)) := heap_alloc_new w _
  have B1 : Below w.heap.size w (w.alloc (.cells #[.int .i64 u, .int .u64 d0, .int .u64 d1, .int .u64 d2, .int .u64 d3] 31)) := (Below.refl _ _).alloc (Nat.le_refl _) _
  have hsz : (w.alloc (.cells #[.int .i64 u, .int .u64 d0, .int .u64 d1, .int .u64 d2, .int .u64 d3] 31)).heap.size = w.heap.size + 1 := by simp
  have hfin : ∀ (W : World), Below (w.alloc (.cells #[.int .i64 u, .int .u64 d0, .int .u64 d1, .int .u64 d2, .int .u64 d3] 31)).drew.heap.size (w.alloc (.cells #[.int .i64 u, .int .u64 d0, .int .u64 d1, .int .u64 d2, .int .u64 d3] 31)).drew W → Below w.heap.size w W := fun W h => B1.drew.trans (h.mono B1.size)
  by_cases h0 : s = 0
  · have t0 : (s == 0) = true := by simpa using h0
    rw [decide_eq_true h0, Bool.true_or]
    clear h0
    cases n <;> cases up
    all_goals
      simp only [bne_self_eq_false, show (true != false) = true from rfl, show (false != true) = true from rfl, Bool.false_eq_true, if_false, if_true] at hs
      subst hs
      go_wp2
    · refine wp_region_steady [.plain, .plain, .late, .late, .plain, .plain, .plain, .plain, .plain, .plain, .plain, .plain, .plain, .plain, .plain, .plain, .late, .late] none [] 29 (by kernel_rfl) rfl (by kernel_rfl) (by kernel_rfl) ?_
      refine st_load 31 (.tmp 3) (w.heap.size) _ _ _ _ rfl rfl rfl rfl q0 Try.underlying31 rfl infoN ?_
      simp only [Nat.reduceAdd, Act.put, List.setIfInBounds_toArray, List.set_cons_zero, List.set_cons_succ]
      refine st_call 14 #[.agg #[.int .i64 u, .int .u64 d0, .int .u64 d1, .int .u64 d2, .int .u64 d3]] (.int .i64 s) rfl rfl (fun _ => by go_simp) (cs) ?_
      simp only [Nat.reduceAdd, Act.put, List.setIfInBounds_toArray, List.set_cons_zero, List.set_cons_succ]
      refine st_late (.bool true) rfl rfl (fun _ => by go_simp) ?_
      simp only [Nat.reduceAdd, Act.put, List.setIfInBounds_toArray, List.set_cons_zero, List.set_cons_succ]
      refine st_late (.bool true) rfl rfl (fun _ => rfl) ?_
      simp only [Nat.reduceAdd, Act.put, List.setIfInBounds_toArray, List.set_cons_zero, List.set_cons_succ]
      refine st_skip rfl rfl ?_
      simp only [Nat.reduceAdd, Act.put, List.setIfInBounds_toArray, List.set_cons_zero, List.set_cons_succ]
      refine st_skip rfl rfl ?_
      simp only [Nat.reduceAdd, Act.put, List.setIfInBounds_toArray, List.set_cons_zero, List.set_cons_succ]
      refine st_skip rfl rfl ?_
      simp only [Nat.reduceAdd, Act.put, List.setIfInBounds_toArray, List.set_cons_zero, List.set_cons_succ]
      refine st_skip rfl rfl ?_
      simp only [Nat.reduceAdd, Act.put, List.setIfInBounds_toArray, List.set_cons_zero, List.set_cons_succ]
      refine st_skip rfl rfl ?_
      simp only [Nat.reduceAdd, Act.put, List.setIfInBounds_toArray, List.set_cons_zero, List.set_cons_succ]
      refine st_skip rfl rfl ?_
      simp only [Nat.reduceAdd, Act.put, List.setIfInBounds_toArray, List.set_cons_zero, List.set_cons_succ]
      refine st_skip rfl rfl ?_
      simp only [Nat.reduceAdd, Act.put, List.setIfInBounds_toArray, List.set_cons_zero, List.set_cons_succ]
      refine st_skip rfl rfl ?_
      simp only [Nat.reduceAdd, Act.put, List.setIfInBounds_toArray, List.set_cons_zero, List.set_cons_succ]
      refine st_skip rfl rfl ?_
      simp only [Nat.reduceAdd, Act.put, List.setIfInBounds_toArray, List.set_cons_zero, List.set_cons_succ]
      refine st_skip rfl rfl ?_
      simp only [Nat.reduceAdd, Act.put, List.setIfInBounds_toArray, List.set_cons_zero, List.set_cons_succ]
      refine st_skip rfl rfl ?_
      simp only [Nat.reduceAdd, Act.put, List.setIfInBounds_toArray, List.set_cons_zero, List.set_cons_succ]
      refine st_skip rfl rfl ?_
      simp only [Nat.reduceAdd, Act.put, List.setIfInBounds_toArray, List.set_cons_zero, List.set_cons_succ]
      refine st_late (.bool true) rfl rfl (fun _ => by go_simp) ?_
      simp only [Nat.reduceAdd, Act.put, List.setIfInBounds_toArray, List.set_cons_zero, List.set_cons_succ]
      refine st_late (.bool true) rfl rfl (fun _ => rfl) ?_
      simp only [Nat.reduceAdd, Act.put, List.setIfInBounds_toArray, List.set_cons_zero, List.set_cons_succ]
      refine st_nil ?_
      intro phwd whwd hwd
      simp only [fin, List.foldl_nil]
      have hB := hfin _ hwd.below
      clear hwd
      go_wp2
      go_ret
      exact ⟨rfl, hB⟩
    · refine wp_region_steady [.plain, .plain, .late, .late, .plain, .plain, .plain, .plain, .plain, .plain, .plain, .plain, .plain, .plain, .plain, .plain, .late, .late] none [] 29 (by kernel_rfl) rfl (by kernel_rfl) (by kernel_rfl) ?_
      refine st_load 31 (.tmp 3) (w.heap.size) _ _ _ _ rfl rfl rfl rfl q0 Try.underlying31 rfl infoN ?_
      simp only [Nat.reduceAdd, Act.put, List.setIfInBounds_toArray, List.set_cons_zero, List.set_cons_succ]
      refine st_call 14 #[.agg #[.int .i64 u, .int .u64 d0, .int .u64 d1, .int .u64 d2, .int .u64 d3]] (.int .i64 s) rfl rfl (fun _ => by go_simp) (cs) ?_
      simp only [Nat.reduceAdd, Act.put, List.setIfInBounds_toArray, List.set_cons_zero, List.set_cons_succ]
      refine st_late (.bool true) rfl rfl (fun _ => by go_simp) ?_
      simp only [Nat.reduceAdd, Act.put, List.setIfInBounds_toArray, List.set_cons_zero, List.set_cons_succ]
      refine st_late (.bool true) rfl rfl (fun _ => rfl) ?_
      simp only [Nat.reduceAdd, Act.put, List.setIfInBounds_toArray, List.set_cons_zero, List.set_cons_succ]
      refine st_skip rfl rfl ?_
      simp only [Nat.reduceAdd, Act.put, List.setIfInBounds_toArray, List.set_cons_zero, List.set_cons_succ]
      refine st_skip rfl rfl ?_
      simp only [Nat.reduceAdd, Act.put, List.setIfInBounds_toArray, List.set_cons_zero, List.set_cons_succ]
      refine st_skip rfl rfl ?_
      simp only [Nat.reduceAdd, Act.put, List.setIfInBounds_toArray, List.set_cons_zero, List.set_cons_succ]
      refine st_skip rfl rfl ?_
      simp only [Nat.reduceAdd, Act.put, List.setIfInBounds_toArray, List.set_cons_zero, List.set_cons_succ]
      refine st_skip rfl rfl ?_
      simp only [Nat.reduceAdd, Act.put, List.setIfInBounds_toArray, List.set_cons_zero, List.set_cons_succ]
      refine st_skip rfl rfl ?_
      simp only [Nat.reduceAdd, Act.put, List.setIfInBounds_toArray, List.set_cons_zero, List.set_cons_succ]
      refine st_skip rfl rfl ?_
      simp only [Nat.reduceAdd, Act.put, List.setIfInBounds_toArray, List.set_cons_zero, List.set_cons_succ]
      refine st_skip rfl rfl ?_
      simp only [Nat.reduceAdd, Act.put, List.setIfInBounds_toArray, List.set_cons_zero, List.set_cons_succ]
      refine st_skip rfl rfl ?_
      simp only [Nat.reduceAdd, Act.put, List.setIfInBounds_toArray, List.set_cons_zero, List.set_cons_succ]
      refine st_skip rfl rfl ?_
      simp only [Nat.reduceAdd, Act.put, List.setIfInBounds_toArray, List.set_cons_zero, List.set_cons_succ]
      refine st_skip rfl rfl ?_
      simp only [Nat.reduceAdd, Act.put, List.setIfInBounds_toArray, List.set_cons_zero, List.set_cons_succ]
      refine st_skip rfl rfl ?_
      simp only [Nat.reduceAdd, Act.put, List.setIfInBounds_toArray, List.set_cons_zero, List.set_cons_succ]
      refine st_late (.bool true) rfl rfl (fun _ => by go_simp) ?_
      simp only [Nat.reduceAdd, Act.put, List.setIfInBounds_toArray, List.set_cons_zero, List.set_cons_succ]
      refine st_late (.bool true) rfl rfl (fun _ => rfl) ?_
      simp only [Nat.reduceAdd, Act.put, List.setIfInBounds_toArray, List.set_cons_zero, List.set_cons_succ]
      refine st_nil ?_
      intro phwd whwd hwd
      simp only [fin, List.foldl_nil]
      have hB := hfin _ hwd.below
      clear hwd
      go_wp2
      go_ret
      exact ⟨rfl, hB⟩
    · refine wp_region_steady [.plain, .plain, .late, .late, .plain, .plain, .plain, .plain, .plain, .plain, .plain, .plain, .plain, .plain, .plain, .plain, .late, .late] none [] 29 (by kernel_rfl) rfl (by kernel_rfl) (by kernel_rfl) ?_
      refine st_load 31 (.tmp 3) (w.heap.size) _ _ _ _ rfl rfl rfl rfl q0 Try.underlying31 rfl infoN ?_
      simp only [Nat.reduceAdd, Act.put, List.setIfInBounds_toArray, List.set_cons_zero, List.set_cons_succ]
      refine st_call 14 #[.agg #[.int .i64 u, .int .u64 d0, .int .u64 d1, .int .u64 d2, .int .u64 d3]] (.int .i64 s) rfl rfl (fun _ => by go_simp) (cs) ?_
      simp only [Nat.reduceAdd, Act.put, List.setIfInBounds_toArray, List.set_cons_zero, List.set_cons_succ]
      refine st_late (.bool true) rfl rfl (fun _ => by go_simp) ?_
      simp only [Nat.reduceAdd, Act.put, List.setIfInBounds_toArray, List.set_cons_zero, List.set_cons_succ]
      refine st_late (.bool true) rfl rfl (fun _ => rfl) ?_
      simp only [Nat.reduceAdd, Act.put, List.setIfInBounds_toArray, List.set_cons_zero, List.set_cons_succ]
      refine st_skip rfl rfl ?_
      simp only [Nat.reduceAdd, Act.put, List.setIfInBounds_toArray, List.set_cons_zero, List.set_cons_succ]
      refine st_skip rfl rfl ?_
      simp only [Nat.reduceAdd, Act.put, List.setIfInBounds_toArray, List.set_cons_zero, List.set_cons_succ]
      refine st_skip rfl rfl ?_
      simp only [Nat.reduceAdd, Act.put, List.setIfInBounds_toArray, List.set_cons_zero, List.set_cons_succ]
      refine st_skip rfl rfl ?_
      simp only [Nat.reduceAdd, Act.put, List.setIfInBounds_toArray, List.set_cons_zero, List.set_cons_succ]
      refine st_skip rfl rfl ?_
      simp only [Nat.reduceAdd, Act.put, List.setIfInBounds_toArray, List.set_cons_zero, List.set_cons_succ]
      refine st_skip rfl rfl ?_
      simp only [Nat.reduceAdd, Act.put, List.setIfInBounds_toArray, List.set_cons_zero, List.set_cons_succ]
      refine st_skip rfl rfl ?_
      simp only [Nat.reduceAdd, Act.put, List.setIfInBounds_toArray, List.set_cons_zero, List.set_cons_succ]
      refine st_skip rfl rfl ?_
      simp only [Nat.reduceAdd, Act.put, List.setIfInBounds_toArray, List.set_cons_zero, List.set_cons_succ]
      refine st_skip rfl rfl ?_
      simp only [Nat.reduceAdd, Act.put, List.setIfInBounds_toArray, List.set_cons_zero, List.set_cons_succ]
      refine st_skip rfl rfl ?_
      simp only [Nat.reduceAdd, Act.put, List.setIfInBounds_toArray, List.set_cons_zero, List.set_cons_succ]
      refine st_skip rfl rfl ?_
      simp only [Nat.reduceAdd, Act.put, List.setIfInBounds_toArray, List.set_cons_zero, List.set_cons_succ]
      refine st_skip rfl rfl ?_
      simp only [Nat.reduceAdd, Act.put, List.setIfInBounds_toArray, List.set_cons_zero, List.set_cons_succ]
      refine st_late (.bool true) rfl rfl (fun _ => by go_simp) ?_
      simp only [Nat.reduceAdd, Act.put, List.setIfInBounds_toArray, List.set_cons_zero, List.set_cons_succ]
      refine st_late (.bool true) rfl rfl (fun _ => rfl) ?_
      simp only [Nat.reduceAdd, Act.put, List.setIfInBounds_toArray, List.set_cons_zero, List.set_cons_succ]
      refine st_nil ?_
      intro phwd whwd hwd
      simp only [fin, List.foldl_nil]
      have hB := hfin _ hwd.below
      clear hwd
      go_wp2
      go_ret
      exact ⟨rfl, hB⟩
    · refine wp_region_steady [.plain, .plain, .late, .late, .plain, .plain, .plain, .plain, .plain, .plain, .plain, .plain, .plain, .plain, .plain, .plain, .late, .late] none [] 29 (by kernel_rfl) rfl (by kernel_rfl) (by kernel_rfl) ?_
      refine st_load 31 (.tmp 3) (w.heap.size) _ _ _ _ rfl rfl rfl rfl q0 Try.underlying31 rfl infoN ?_
      simp only [Nat.reduceAdd, Act.put, List.setIfInBounds_toArray, List.set_cons_zero, List.set_cons_succ]
      refine st_call 14 #[.agg #[.int .i64 u, .int .u64 d0, .int .u64 d1, .int .u64 d2, .int .u64 d3]] (.int .i64 s) rfl rfl (fun _ => by go_simp) (cs) ?_
      simp only [Nat.reduceAdd, Act.put, List.setIfInBounds_toArray, List.set_cons_zero, List.set_cons_succ]
      refine st_late (.bool true) rfl rfl (fun _ => by go_simp) ?_
      simp only [Nat.reduceAdd, Act.put, List.setIfInBounds_toArray, List.set_cons_zero, List.set_cons_succ]
      refine st_late (.bool true) rfl rfl (fun _ => rfl) ?_
      simp only [Nat.reduceAdd, Act.put, List.setIfInBounds_toArray, List.set_cons_zero, List.set_cons_succ]
      refine st_skip rfl rfl ?_
      simp only [Nat.reduceAdd, Act.put, List.setIfInBounds_toArray, List.set_cons_zero, List.set_cons_succ]
      refine st_skip rfl rfl ?_
      simp only [Nat.reduceAdd, Act.put, List.setIfInBounds_toArray, List.set_cons_zero, List.set_cons_succ]
      refine st_skip rfl rfl ?_
      simp only [Nat.reduceAdd, Act.put, List.setIfInBounds_toArray, List.set_cons_zero, List.set_cons_succ]
      refine st_skip rfl rfl ?_
      simp only [Nat.reduceAdd, Act.put, List.setIfInBounds_toArray, List.set_cons_zero, List.set_cons_succ]
      refine st_skip rfl rfl ?_
      simp only [Nat.reduceAdd, Act.put, List.setIfInBounds_toArray, List.set_cons_zero, List.set_cons_succ]
      refine st_skip rfl rfl ?_
      simp only [Nat.reduceAdd, Act.put, List.setIfInBounds_toArray, List.set_cons_zero, List.set_cons_succ]
      refine st_skip rfl rfl ?_
      simp only [Nat.reduceAdd, Act.put, List.setIfInBounds_toArray, List.set_cons_zero, List.set_cons_succ]
      refine st_skip rfl rfl ?_
      simp only [Nat.reduceAdd, Act.put, List.setIfInBounds_toArray, List.set_cons_zero, List.set_cons_succ]
      refine st_skip rfl rfl ?_
      simp only [Nat.reduceAdd, Act.put, List.setIfInBounds_toArray, List.set_cons_zero, List.set_cons_succ]
      refine st_skip rfl rfl ?_
      simp only [Nat.reduceAdd, Act.put, List.setIfInBounds_toArray, List.set_cons_zero, List.set_cons_succ]
      refine st_skip rfl rfl ?_
      simp only [Nat.reduceAdd, Act.put, List.setIfInBounds_toArray, List.set_cons_zero, List.set_cons_succ]
      refine st_skip rfl rfl ?_
      simp only [Nat.reduceAdd, Act.put, List.setIfInBounds_toArray, List.set_cons_zero, List.set_cons_succ]
      refine st_late (.bool true) rfl rfl (fun _ => by go_simp) ?_
      simp only [Nat.reduceAdd, Act.put, List.setIfInBounds_toArray, List.set_cons_zero, List.set_cons_succ]
      refine st_late (.bool true) rfl rfl (fun _ => rfl) ?_
      simp only [Nat.reduceAdd, Act.put, List.setIfInBounds_toArray, List.set_cons_zero, List.set_cons_succ]
      refine st_nil ?_
      intro phwd whwd hwd
      simp only [fin, List.foldl_nil]
      have hB := hfin _ hwd.below
      clear hwd
      go_wp2
      go_ret
      exact ⟨rfl, hB⟩
  · have t0 : (s == 0) = false := by simpa using h0
    rw [decide_eq_false h0, Bool.false_or]
    clear h0
    by_cases h1 : s = side
    · have t1 : (s == side) = true := by simpa using h1
      rw [decide_eq_true h1, Bool.true_and]
      clear h1
      cases n <;> cases up
      all_goals
        simp only [bne_self_eq_false, show (true != false) = true from rfl, show (false != true) = true from rfl, Bool.false_eq_true, if_false, if_true] at hs
        subst hs
        go_wp2
      · refine wp_region_steady [.plain, .plain, .late, .late, .plain, .plain, .late, .late, .late, .late, .plain, .late, .plain, .late, .plain, .late, .late, .late] none [] 29 (by kernel_rfl) rfl (by kernel_rfl) (by kernel_rfl) ?_
        refine st_load 31 (.tmp 3) (w.heap.size) _ _ _ _ rfl rfl rfl rfl q0 Try.underlying31 rfl infoN ?_
        simp only [Nat.reduceAdd, Act.put, List.setIfInBounds_toArray, List.set_cons_zero, List.set_cons_succ]
        refine st_call 14 #[.agg #[.int .i64 u, .int .u64 d0, .int .u64 d1, .int .u64 d2, .int .u64 d3]] (.int .i64 s) rfl rfl (fun _ => by go_simp) (cs) ?_
        simp only [Nat.reduceAdd, Act.put, List.setIfInBounds_toArray, List.set_cons_zero, List.set_cons_succ]
        refine st_late (.bool false) rfl rfl (fun _ => by go_simp) ?_
        simp only [Nat.reduceAdd, Act.put, List.setIfInBounds_toArray, List.set_cons_zero, List.set_cons_succ]
        refine st_late (.bool false) rfl rfl (fun _ => rfl) ?_
        simp only [Nat.reduceAdd, Act.put, List.setIfInBounds_toArray, List.set_cons_zero, List.set_cons_succ]
        refine st_load 31 (.tmp 3) (w.heap.size) _ _ _ _ rfl rfl rfl rfl q0 Try.underlying31 rfl infoN ?_
        simp only [Nat.reduceAdd, Act.put, List.setIfInBounds_toArray, List.set_cons_zero, List.set_cons_succ]
        refine st_call 14 #[.agg #[.int .i64 u, .int .u64 d0, .int .u64 d1, .int .u64 d2, .int .u64 d3]] (.int .i64 s) rfl rfl (fun _ => by go_simp) (cs) ?_
        simp only [Nat.reduceAdd, Act.put, List.setIfInBounds_toArray, List.set_cons_zero, List.set_cons_succ]
        refine st_late (.int .i64 1) rfl rfl (fun _ => rfl) ?_
        simp only [Nat.reduceAdd, Act.put, List.setIfInBounds_toArray, List.set_cons_zero, List.set_cons_succ]
        refine st_late (.bool true) rfl rfl (fun _ => by go_simp) ?_
        simp only [Nat.reduceAdd, Act.put, List.setIfInBounds_toArray, List.set_cons_zero, List.set_cons_succ]
        refine st_late (.bool true) rfl rfl (fun _ => rfl) ?_
        simp only [Nat.reduceAdd, Act.put, List.setIfInBounds_toArray, List.set_cons_zero, List.set_cons_succ]
        refine st_late (.pointer (some ⟨w.heap.size, 1, none⟩)) rfl rfl (fun _ => by go_simp) ?_
        simp only [Nat.reduceAdd, Act.put, List.setIfInBounds_toArray, List.set_cons_zero, List.set_cons_succ]
        refine st_part 29 (.tmp 21) (w.heap.size) 1 [.int .u64 d0, .int .u64 d1, .int .u64 d2, .int .u64 d3] _ _ _ _ rfl rfl rfl rfl q0 rfl Try.underlying29 rfl infoD ?_
        simp only [Nat.reduceAdd, Act.put, List.setIfInBounds_toArray, List.set_cons_zero, List.set_cons_succ]
        refine st_late (.int .i64 c) rfl rfl (fun _ => rfl) ?_
        simp only [Nat.reduceAdd, Act.put, List.setIfInBounds_toArray, List.set_cons_zero, List.set_cons_succ]
        refine st_call 19 #[.int .i64 c] (.agg #[.int .i64 v, .int .u64 c0, .int .u64 c1, .int .u64 c2, .int .u64 c3]) rfl rfl (fun _ => by go_simp) (co) ?_
        simp only [Nat.reduceAdd, Act.put, List.setIfInBounds_toArray, List.set_cons_zero, List.set_cons_succ]
        refine st_late (.agg #[.int .u64 c0, .int .u64 c1, .int .u64 c2, .int .u64 c3]) rfl rfl (fun _ => by go_simp; rw [field_digits]; rfl) ?_
        simp only [Nat.reduceAdd, Act.put, List.setIfInBounds_toArray, List.set_cons_zero, List.set_cons_succ]
        refine st_call 17 #[.agg #[.int .u64 d0, .int .u64 d1, .int .u64 d2, .int .u64 d3], .agg #[.int .u64 c0, .int .u64 c1, .int .u64 c2, .int .u64 c3]] (.bool L) rfl rfl (fun _ => by go_simp) (cl) ?_
        simp only [Nat.reduceAdd, Act.put, List.setIfInBounds_toArray, List.set_cons_zero, List.set_cons_succ]
        refine st_late (.bool L) rfl rfl (fun _ => by go_simp) ?_
        simp only [Nat.reduceAdd, Act.put, List.setIfInBounds_toArray, List.set_cons_zero, List.set_cons_succ]
        refine st_late (.bool L) rfl rfl (fun _ => by go_simp) ?_
        simp only [Nat.reduceAdd, Act.put, List.setIfInBounds_toArray, List.set_cons_zero, List.set_cons_succ]
        refine st_late (.bool L) rfl rfl (fun _ => rfl) ?_
        simp only [Nat.reduceAdd, Act.put, List.setIfInBounds_toArray, List.set_cons_zero, List.set_cons_succ]
        refine st_nil ?_
        intro phwd whwd hwd
        simp only [fin, List.foldl_nil]
        have hB := hfin _ hwd.below
        clear hwd
        go_wp2
        go_ret
        exact ⟨rfl, hB⟩
      · refine wp_region_steady [.plain, .plain, .late, .late, .plain, .plain, .late, .late, .late, .late, .plain, .late, .plain, .late, .plain, .late, .late, .late] none [] 29 (by kernel_rfl) rfl (by kernel_rfl) (by kernel_rfl) ?_
        refine st_load 31 (.tmp 3) (w.heap.size) _ _ _ _ rfl rfl rfl rfl q0 Try.underlying31 rfl infoN ?_
        simp only [Nat.reduceAdd, Act.put, List.setIfInBounds_toArray, List.set_cons_zero, List.set_cons_succ]
        refine st_call 14 #[.agg #[.int .i64 u, .int .u64 d0, .int .u64 d1, .int .u64 d2, .int .u64 d3]] (.int .i64 s) rfl rfl (fun _ => by go_simp) (cs) ?_
        simp only [Nat.reduceAdd, Act.put, List.setIfInBounds_toArray, List.set_cons_zero, List.set_cons_succ]
        refine st_late (.bool false) rfl rfl (fun _ => by go_simp) ?_
        simp only [Nat.reduceAdd, Act.put, List.setIfInBounds_toArray, List.set_cons_zero, List.set_cons_succ]
        refine st_late (.bool false) rfl rfl (fun _ => rfl) ?_
        simp only [Nat.reduceAdd, Act.put, List.setIfInBounds_toArray, List.set_cons_zero, List.set_cons_succ]
        refine st_load 31 (.tmp 3) (w.heap.size) _ _ _ _ rfl rfl rfl rfl q0 Try.underlying31 rfl infoN ?_
        simp only [Nat.reduceAdd, Act.put, List.setIfInBounds_toArray, List.set_cons_zero, List.set_cons_succ]
        refine st_call 14 #[.agg #[.int .i64 u, .int .u64 d0, .int .u64 d1, .int .u64 d2, .int .u64 d3]] (.int .i64 s) rfl rfl (fun _ => by go_simp) (cs) ?_
        simp only [Nat.reduceAdd, Act.put, List.setIfInBounds_toArray, List.set_cons_zero, List.set_cons_succ]
        refine st_late (.int .i64 (-1)) rfl rfl (fun _ => rfl) ?_
        simp only [Nat.reduceAdd, Act.put, List.setIfInBounds_toArray, List.set_cons_zero, List.set_cons_succ]
        refine st_late (.bool true) rfl rfl (fun _ => by go_simp) ?_
        simp only [Nat.reduceAdd, Act.put, List.setIfInBounds_toArray, List.set_cons_zero, List.set_cons_succ]
        refine st_late (.bool true) rfl rfl (fun _ => rfl) ?_
        simp only [Nat.reduceAdd, Act.put, List.setIfInBounds_toArray, List.set_cons_zero, List.set_cons_succ]
        refine st_late (.pointer (some ⟨w.heap.size, 1, none⟩)) rfl rfl (fun _ => by go_simp) ?_
        simp only [Nat.reduceAdd, Act.put, List.setIfInBounds_toArray, List.set_cons_zero, List.set_cons_succ]
        refine st_part 29 (.tmp 21) (w.heap.size) 1 [.int .u64 d0, .int .u64 d1, .int .u64 d2, .int .u64 d3] _ _ _ _ rfl rfl rfl rfl q0 rfl Try.underlying29 rfl infoD ?_
        simp only [Nat.reduceAdd, Act.put, List.setIfInBounds_toArray, List.set_cons_zero, List.set_cons_succ]
        refine st_late (.int .i64 c) rfl rfl (fun _ => rfl) ?_
        simp only [Nat.reduceAdd, Act.put, List.setIfInBounds_toArray, List.set_cons_zero, List.set_cons_succ]
        refine st_call 19 #[.int .i64 c] (.agg #[.int .i64 v, .int .u64 c0, .int .u64 c1, .int .u64 c2, .int .u64 c3]) rfl rfl (fun _ => by go_simp) (co) ?_
        simp only [Nat.reduceAdd, Act.put, List.setIfInBounds_toArray, List.set_cons_zero, List.set_cons_succ]
        refine st_late (.agg #[.int .u64 c0, .int .u64 c1, .int .u64 c2, .int .u64 c3]) rfl rfl (fun _ => by go_simp; rw [field_digits]; rfl) ?_
        simp only [Nat.reduceAdd, Act.put, List.setIfInBounds_toArray, List.set_cons_zero, List.set_cons_succ]
        refine st_call 17 #[.agg #[.int .u64 d0, .int .u64 d1, .int .u64 d2, .int .u64 d3], .agg #[.int .u64 c0, .int .u64 c1, .int .u64 c2, .int .u64 c3]] (.bool L) rfl rfl (fun _ => by go_simp) (cl) ?_
        simp only [Nat.reduceAdd, Act.put, List.setIfInBounds_toArray, List.set_cons_zero, List.set_cons_succ]
        refine st_late (.bool L) rfl rfl (fun _ => by go_simp) ?_
        simp only [Nat.reduceAdd, Act.put, List.setIfInBounds_toArray, List.set_cons_zero, List.set_cons_succ]
        refine st_late (.bool L) rfl rfl (fun _ => by go_simp) ?_
        simp only [Nat.reduceAdd, Act.put, List.setIfInBounds_toArray, List.set_cons_zero, List.set_cons_succ]
        refine st_late (.bool L) rfl rfl (fun _ => rfl) ?_
        simp only [Nat.reduceAdd, Act.put, List.setIfInBounds_toArray, List.set_cons_zero, List.set_cons_succ]
        refine st_nil ?_
        intro phwd whwd hwd
        simp only [fin, List.foldl_nil]
        have hB := hfin _ hwd.below
        clear hwd
        go_wp2
        go_ret
        exact ⟨rfl, hB⟩
      · refine wp_region_steady [.plain, .plain, .late, .late, .plain, .plain, .late, .late, .late, .late, .plain, .late, .plain, .late, .plain, .late, .late, .late] none [] 29 (by kernel_rfl) rfl (by kernel_rfl) (by kernel_rfl) ?_
        refine st_load 31 (.tmp 3) (w.heap.size) _ _ _ _ rfl rfl rfl rfl q0 Try.underlying31 rfl infoN ?_
        simp only [Nat.reduceAdd, Act.put, List.setIfInBounds_toArray, List.set_cons_zero, List.set_cons_succ]
        refine st_call 14 #[.agg #[.int .i64 u, .int .u64 d0, .int .u64 d1, .int .u64 d2, .int .u64 d3]] (.int .i64 s) rfl rfl (fun _ => by go_simp) (cs) ?_
        simp only [Nat.reduceAdd, Act.put, List.setIfInBounds_toArray, List.set_cons_zero, List.set_cons_succ]
        refine st_late (.bool false) rfl rfl (fun _ => by go_simp) ?_
        simp only [Nat.reduceAdd, Act.put, List.setIfInBounds_toArray, List.set_cons_zero, List.set_cons_succ]
        refine st_late (.bool false) rfl rfl (fun _ => rfl) ?_
        simp only [Nat.reduceAdd, Act.put, List.setIfInBounds_toArray, List.set_cons_zero, List.set_cons_succ]
        refine st_load 31 (.tmp 3) (w.heap.size) _ _ _ _ rfl rfl rfl rfl q0 Try.underlying31 rfl infoN ?_
        simp only [Nat.reduceAdd, Act.put, List.setIfInBounds_toArray, List.set_cons_zero, List.set_cons_succ]
        refine st_call 14 #[.agg #[.int .i64 u, .int .u64 d0, .int .u64 d1, .int .u64 d2, .int .u64 d3]] (.int .i64 s) rfl rfl (fun _ => by go_simp) (cs) ?_
        simp only [Nat.reduceAdd, Act.put, List.setIfInBounds_toArray, List.set_cons_zero, List.set_cons_succ]
        refine st_late (.int .i64 (-1)) rfl rfl (fun _ => rfl) ?_
        simp only [Nat.reduceAdd, Act.put, List.setIfInBounds_toArray, List.set_cons_zero, List.set_cons_succ]
        refine st_late (.bool true) rfl rfl (fun _ => by go_simp) ?_
        simp only [Nat.reduceAdd, Act.put, List.setIfInBounds_toArray, List.set_cons_zero, List.set_cons_succ]
        refine st_late (.bool true) rfl rfl (fun _ => rfl) ?_
        simp only [Nat.reduceAdd, Act.put, List.setIfInBounds_toArray, List.set_cons_zero, List.set_cons_succ]
        refine st_late (.pointer (some ⟨w.heap.size, 1, none⟩)) rfl rfl (fun _ => by go_simp) ?_
        simp only [Nat.reduceAdd, Act.put, List.setIfInBounds_toArray, List.set_cons_zero, List.set_cons_succ]
        refine st_part 29 (.tmp 21) (w.heap.size) 1 [.int .u64 d0, .int .u64 d1, .int .u64 d2, .int .u64 d3] _ _ _ _ rfl rfl rfl rfl q0 rfl Try.underlying29 rfl infoD ?_
        simp only [Nat.reduceAdd, Act.put, List.setIfInBounds_toArray, List.set_cons_zero, List.set_cons_succ]
        refine st_late (.int .i64 c) rfl rfl (fun _ => rfl) ?_
        simp only [Nat.reduceAdd, Act.put, List.setIfInBounds_toArray, List.set_cons_zero, List.set_cons_succ]
        refine st_call 19 #[.int .i64 c] (.agg #[.int .i64 v, .int .u64 c0, .int .u64 c1, .int .u64 c2, .int .u64 c3]) rfl rfl (fun _ => by go_simp) (co) ?_
        simp only [Nat.reduceAdd, Act.put, List.setIfInBounds_toArray, List.set_cons_zero, List.set_cons_succ]
        refine st_late (.agg #[.int .u64 c0, .int .u64 c1, .int .u64 c2, .int .u64 c3]) rfl rfl (fun _ => by go_simp; rw [field_digits]; rfl) ?_
        simp only [Nat.reduceAdd, Act.put, List.setIfInBounds_toArray, List.set_cons_zero, List.set_cons_succ]
        refine st_call 17 #[.agg #[.int .u64 d0, .int .u64 d1, .int .u64 d2, .int .u64 d3], .agg #[.int .u64 c0, .int .u64 c1, .int .u64 c2, .int .u64 c3]] (.bool L) rfl rfl (fun _ => by go_simp) (cl) ?_
        simp only [Nat.reduceAdd, Act.put, List.setIfInBounds_toArray, List.set_cons_zero, List.set_cons_succ]
        refine st_late (.bool L) rfl rfl (fun _ => by go_simp) ?_
        simp only [Nat.reduceAdd, Act.put, List.setIfInBounds_toArray, List.set_cons_zero, List.set_cons_succ]
        refine st_late (.bool L) rfl rfl (fun _ => by go_simp) ?_
        simp only [Nat.reduceAdd, Act.put, List.setIfInBounds_toArray, List.set_cons_zero, List.set_cons_succ]
        refine st_late (.bool L) rfl rfl (fun _ => rfl) ?_
        simp only [Nat.reduceAdd, Act.put, List.setIfInBounds_toArray, List.set_cons_zero, List.set_cons_succ]
        refine st_nil ?_
        intro phwd whwd hwd
        simp only [fin, List.foldl_nil]
        have hB := hfin _ hwd.below
        clear hwd
        go_wp2
        go_ret
        exact ⟨rfl, hB⟩
      · refine wp_region_steady [.plain, .plain, .late, .late, .plain, .plain, .late, .late, .late, .late, .plain, .late, .plain, .late, .plain, .late, .late, .late] none [] 29 (by kernel_rfl) rfl (by kernel_rfl) (by kernel_rfl) ?_
        refine st_load 31 (.tmp 3) (w.heap.size) _ _ _ _ rfl rfl rfl rfl q0 Try.underlying31 rfl infoN ?_
        simp only [Nat.reduceAdd, Act.put, List.setIfInBounds_toArray, List.set_cons_zero, List.set_cons_succ]
        refine st_call 14 #[.agg #[.int .i64 u, .int .u64 d0, .int .u64 d1, .int .u64 d2, .int .u64 d3]] (.int .i64 s) rfl rfl (fun _ => by go_simp) (cs) ?_
        simp only [Nat.reduceAdd, Act.put, List.setIfInBounds_toArray, List.set_cons_zero, List.set_cons_succ]
        refine st_late (.bool false) rfl rfl (fun _ => by go_simp) ?_
        simp only [Nat.reduceAdd, Act.put, List.setIfInBounds_toArray, List.set_cons_zero, List.set_cons_succ]
        refine st_late (.bool false) rfl rfl (fun _ => rfl) ?_
        simp only [Nat.reduceAdd, Act.put, List.setIfInBounds_toArray, List.set_cons_zero, List.set_cons_succ]
        refine st_load 31 (.tmp 3) (w.heap.size) _ _ _ _ rfl rfl rfl rfl q0 Try.underlying31 rfl infoN ?_
        simp only [Nat.reduceAdd, Act.put, List.setIfInBounds_toArray, List.set_cons_zero, List.set_cons_succ]
        refine st_call 14 #[.agg #[.int .i64 u, .int .u64 d0, .int .u64 d1, .int .u64 d2, .int .u64 d3]] (.int .i64 s) rfl rfl (fun _ => by go_simp) (cs) ?_
        simp only [Nat.reduceAdd, Act.put, List.setIfInBounds_toArray, List.set_cons_zero, List.set_cons_succ]
        refine st_late (.int .i64 1) rfl rfl (fun _ => rfl) ?_
        simp only [Nat.reduceAdd, Act.put, List.setIfInBounds_toArray, List.set_cons_zero, List.set_cons_succ]
        refine st_late (.bool true) rfl rfl (fun _ => by go_simp) ?_
        simp only [Nat.reduceAdd, Act.put, List.setIfInBounds_toArray, List.set_cons_zero, List.set_cons_succ]
        refine st_late (.bool true) rfl rfl (fun _ => rfl) ?_
        simp only [Nat.reduceAdd, Act.put, List.setIfInBounds_toArray, List.set_cons_zero, List.set_cons_succ]
        refine st_late (.pointer (some ⟨w.heap.size, 1, none⟩)) rfl rfl (fun _ => by go_simp) ?_
        simp only [Nat.reduceAdd, Act.put, List.setIfInBounds_toArray, List.set_cons_zero, List.set_cons_succ]
        refine st_part 29 (.tmp 21) (w.heap.size) 1 [.int .u64 d0, .int .u64 d1, .int .u64 d2, .int .u64 d3] _ _ _ _ rfl rfl rfl rfl q0 rfl Try.underlying29 rfl infoD ?_
        simp only [Nat.reduceAdd, Act.put, List.setIfInBounds_toArray, List.set_cons_zero, List.set_cons_succ]
        refine st_late (.int .i64 c) rfl rfl (fun _ => rfl) ?_
        simp only [Nat.reduceAdd, Act.put, List.setIfInBounds_toArray, List.set_cons_zero, List.set_cons_succ]
        refine st_call 19 #[.int .i64 c] (.agg #[.int .i64 v, .int .u64 c0, .int .u64 c1, .int .u64 c2, .int .u64 c3]) rfl rfl (fun _ => by go_simp) (co) ?_
        simp only [Nat.reduceAdd, Act.put, List.setIfInBounds_toArray, List.set_cons_zero, List.set_cons_succ]
        refine st_late (.agg #[.int .u64 c0, .int .u64 c1, .int .u64 c2, .int .u64 c3]) rfl rfl (fun _ => by go_simp; rw [field_digits]; rfl) ?_
        simp only [Nat.reduceAdd, Act.put, List.setIfInBounds_toArray, List.set_cons_zero, List.set_cons_succ]
        refine st_call 17 #[.agg #[.int .u64 d0, .int .u64 d1, .int .u64 d2, .int .u64 d3], .agg #[.int .u64 c0, .int .u64 c1, .int .u64 c2, .int .u64 c3]] (.bool L) rfl rfl (fun _ => by go_simp) (cl) ?_
        simp only [Nat.reduceAdd, Act.put, List.setIfInBounds_toArray, List.set_cons_zero, List.set_cons_succ]
        refine st_late (.bool L) rfl rfl (fun _ => by go_simp) ?_
        simp only [Nat.reduceAdd, Act.put, List.setIfInBounds_toArray, List.set_cons_zero, List.set_cons_succ]
        refine st_late (.bool L) rfl rfl (fun _ => by go_simp) ?_
        simp only [Nat.reduceAdd, Act.put, List.setIfInBounds_toArray, List.set_cons_zero, List.set_cons_succ]
        refine st_late (.bool L) rfl rfl (fun _ => rfl) ?_
        simp only [Nat.reduceAdd, Act.put, List.setIfInBounds_toArray, List.set_cons_zero, List.set_cons_succ]
        refine st_nil ?_
        intro phwd whwd hwd
        simp only [fin, List.foldl_nil]
        have hB := hfin _ hwd.below
        clear hwd
        go_wp2
        go_ret
        exact ⟨rfl, hB⟩
    · have t1 : (s == side) = false := by simpa using h1
      rw [decide_eq_false h1, Bool.false_and]
      clear h1
      cases n <;> cases up
      all_goals
        simp only [bne_self_eq_false, show (true != false) = true from rfl, show (false != true) = true from rfl, Bool.false_eq_true, if_false, if_true] at hs
        subst hs
        go_wp2
      · refine wp_region_steady [.plain, .plain, .late, .late, .plain, .plain, .late, .late, .late, .plain, .plain, .plain, .plain, .plain, .plain, .late, .late, .late] none [] 29 (by kernel_rfl) rfl (by kernel_rfl) (by kernel_rfl) ?_
        refine st_load 31 (.tmp 3) (w.heap.size) _ _ _ _ rfl rfl rfl rfl q0 Try.underlying31 rfl infoN ?_
        simp only [Nat.reduceAdd, Act.put, List.setIfInBounds_toArray, List.set_cons_zero, List.set_cons_succ]
        refine st_call 14 #[.agg #[.int .i64 u, .int .u64 d0, .int .u64 d1, .int .u64 d2, .int .u64 d3]] (.int .i64 s) rfl rfl (fun _ => by go_simp) (cs) ?_
        simp only [Nat.reduceAdd, Act.put, List.setIfInBounds_toArray, List.set_cons_zero, List.set_cons_succ]
        refine st_late (.bool false) rfl rfl (fun _ => by go_simp) ?_
        simp only [Nat.reduceAdd, Act.put, List.setIfInBounds_toArray, List.set_cons_zero, List.set_cons_succ]
        refine st_late (.bool false) rfl rfl (fun _ => rfl) ?_
        simp only [Nat.reduceAdd, Act.put, List.setIfInBounds_toArray, List.set_cons_zero, List.set_cons_succ]
        refine st_load 31 (.tmp 3) (w.heap.size) _ _ _ _ rfl rfl rfl rfl q0 Try.underlying31 rfl infoN ?_
        simp only [Nat.reduceAdd, Act.put, List.setIfInBounds_toArray, List.set_cons_zero, List.set_cons_succ]
        refine st_call 14 #[.agg #[.int .i64 u, .int .u64 d0, .int .u64 d1, .int .u64 d2, .int .u64 d3]] (.int .i64 s) rfl rfl (fun _ => by go_simp) (cs) ?_
        simp only [Nat.reduceAdd, Act.put, List.setIfInBounds_toArray, List.set_cons_zero, List.set_cons_succ]
        refine st_late (.int .i64 1) rfl rfl (fun _ => rfl) ?_
        simp only [Nat.reduceAdd, Act.put, List.setIfInBounds_toArray, List.set_cons_zero, List.set_cons_succ]
        refine st_late (.bool false) rfl rfl (fun _ => by go_simp) ?_
        simp only [Nat.reduceAdd, Act.put, List.setIfInBounds_toArray, List.set_cons_zero, List.set_cons_succ]
        refine st_late (.bool false) rfl rfl (fun _ => rfl) ?_
        simp only [Nat.reduceAdd, Act.put, List.setIfInBounds_toArray, List.set_cons_zero, List.set_cons_succ]
        refine st_skip rfl rfl ?_
        simp only [Nat.reduceAdd, Act.put, List.setIfInBounds_toArray, List.set_cons_zero, List.set_cons_succ]
        refine st_skip rfl rfl ?_
        simp only [Nat.reduceAdd, Act.put, List.setIfInBounds_toArray, List.set_cons_zero, List.set_cons_succ]
        refine st_skip rfl rfl ?_
        simp only [Nat.reduceAdd, Act.put, List.setIfInBounds_toArray, List.set_cons_zero, List.set_cons_succ]
        refine st_skip rfl rfl ?_
        simp only [Nat.reduceAdd, Act.put, List.setIfInBounds_toArray, List.set_cons_zero, List.set_cons_succ]
        refine st_skip rfl rfl ?_
        simp only [Nat.reduceAdd, Act.put, List.setIfInBounds_toArray, List.set_cons_zero, List.set_cons_succ]
        refine st_skip rfl rfl ?_
        simp only [Nat.reduceAdd, Act.put, List.setIfInBounds_toArray, List.set_cons_zero, List.set_cons_succ]
        refine st_late (.bool false) rfl rfl (fun _ => by go_simp) ?_
        simp only [Nat.reduceAdd, Act.put, List.setIfInBounds_toArray, List.set_cons_zero, List.set_cons_succ]
        refine st_late (.bool false) rfl rfl (fun _ => by go_simp) ?_
        simp only [Nat.reduceAdd, Act.put, List.setIfInBounds_toArray, List.set_cons_zero, List.set_cons_succ]
        refine st_late (.bool false) rfl rfl (fun _ => rfl) ?_
        simp only [Nat.reduceAdd, Act.put, List.setIfInBounds_toArray, List.set_cons_zero, List.set_cons_succ]
        refine st_nil ?_
        intro phwd whwd hwd
        simp only [fin, List.foldl_nil]
        have hB := hfin _ hwd.below
        clear hwd
        go_wp2
        go_ret
        exact ⟨rfl, hB⟩
      · refine wp_region_steady [.plain, .plain, .late, .late, .plain, .plain, .late, .late, .late, .plain, .plain, .plain, .plain, .plain, .plain, .late, .late, .late] none [] 29 (by kernel_rfl) rfl (by kernel_rfl) (by kernel_rfl) ?_
        refine st_load 31 (.tmp 3) (w.heap.size) _ _ _ _ rfl rfl rfl rfl q0 Try.underlying31 rfl infoN ?_
        simp only [Nat.reduceAdd, Act.put, List.setIfInBounds_toArray, List.set_cons_zero, List.set_cons_succ]
        refine st_call 14 #[.agg #[.int .i64 u, .int .u64 d0, .int .u64 d1, .int .u64 d2, .int .u64 d3]] (.int .i64 s) rfl rfl (fun _ => by go_simp) (cs) ?_
        simp only [Nat.reduceAdd, Act.put, List.setIfInBounds_toArray, List.set_cons_zero, List.set_cons_succ]
        refine st_late (.bool false) rfl rfl (fun _ => by go_simp) ?_
        simp only [Nat.reduceAdd, Act.put, List.setIfInBounds_toArray, List.set_cons_zero, List.set_cons_succ]
        refine st_late (.bool false) rfl rfl (fun _ => rfl) ?_
        simp only [Nat.reduceAdd, Act.put, List.setIfInBounds_toArray, List.set_cons_zero, List.set_cons_succ]
        refine st_load 31 (.tmp 3) (w.heap.size) _ _ _ _ rfl rfl rfl rfl q0 Try.underlying31 rfl infoN ?_
        simp only [Nat.reduceAdd, Act.put, List.setIfInBounds_toArray, List.set_cons_zero, List.set_cons_succ]
        refine st_call 14 #[.agg #[.int .i64 u, .int .u64 d0, .int .u64 d1, .int .u64 d2, .int .u64 d3]] (.int .i64 s) rfl rfl (fun _ => by go_simp) (cs) ?_
        simp only [Nat.reduceAdd, Act.put, List.setIfInBounds_toArray, List.set_cons_zero, List.set_cons_succ]
        refine st_late (.int .i64 (-1)) rfl rfl (fun _ => rfl) ?_
        simp only [Nat.reduceAdd, Act.put, List.setIfInBounds_toArray, List.set_cons_zero, List.set_cons_succ]
        refine st_late (.bool false) rfl rfl (fun _ => by go_simp) ?_
        simp only [Nat.reduceAdd, Act.put, List.setIfInBounds_toArray, List.set_cons_zero, List.set_cons_succ]
        refine st_late (.bool false) rfl rfl (fun _ => rfl) ?_
        simp only [Nat.reduceAdd, Act.put, List.setIfInBounds_toArray, List.set_cons_zero, List.set_cons_succ]
        refine st_skip rfl rfl ?_
        simp only [Nat.reduceAdd, Act.put, List.setIfInBounds_toArray, List.set_cons_zero, List.set_cons_succ]
        refine st_skip rfl rfl ?_
        simp only [Nat.reduceAdd, Act.put, List.setIfInBounds_toArray, List.set_cons_zero, List.set_cons_succ]
        refine st_skip rfl rfl ?_
        simp only [Nat.reduceAdd, Act.put, List.setIfInBounds_toArray, List.set_cons_zero, List.set_cons_succ]
        refine st_skip rfl rfl ?_
        simp only [Nat.reduceAdd, Act.put, List.setIfInBounds_toArray, List.set_cons_zero, List.set_cons_succ]
        refine st_skip rfl rfl ?_
        simp only [Nat.reduceAdd, Act.put, List.setIfInBounds_toArray, List.set_cons_zero, List.set_cons_succ]
        refine st_skip rfl rfl ?_
        simp only [Nat.reduceAdd, Act.put, List.setIfInBounds_toArray, List.set_cons_zero, List.set_cons_succ]
        refine st_late (.bool false) rfl rfl (fun _ => by go_simp) ?_
        simp only [Nat.reduceAdd, Act.put, List.setIfInBounds_toArray, List.set_cons_zero, List.set_cons_succ]
        refine st_late (.bool false) rfl rfl (fun _ => by go_simp) ?_
        simp only [Nat.reduceAdd, Act.put, List.setIfInBounds_toArray, List.set_cons_zero, List.set_cons_succ]
        refine st_late (.bool false) rfl rfl (fun _ => rfl) ?_
        simp only [Nat.reduceAdd, Act.put, List.setIfInBounds_toArray, List.set_cons_zero, List.set_cons_succ]
        refine st_nil ?_
        intro phwd whwd hwd
        simp only [fin, List.foldl_nil]
        have hB := hfin _ hwd.below
        clear hwd
        go_wp2
        go_ret
        exact ⟨rfl, hB⟩
      · refine wp_region_steady [.plain, .plain, .late, .late, .plain, .plain, .late, .late, .late, .plain, .plain, .plain, .plain, .plain, .plain, .late, .late, .late] none [] 29 (by kernel_rfl) rfl (by kernel_rfl) (by kernel_rfl) ?_
        refine st_load 31 (.tmp 3) (w.heap.size) _ _ _ _ rfl rfl rfl rfl q0 Try.underlying31 rfl infoN ?_
        simp only [Nat.reduceAdd, Act.put, List.setIfInBounds_toArray, List.set_cons_zero, List.set_cons_succ]
        refine st_call 14 #[.agg #[.int .i64 u, .int .u64 d0, .int .u64 d1, .int .u64 d2, .int .u64 d3]] (.int .i64 s) rfl rfl (fun _ => by go_simp) (cs) ?_
        simp only [Nat.reduceAdd, Act.put, List.setIfInBounds_toArray, List.set_cons_zero, List.set_cons_succ]
        refine st_late (.bool false) rfl rfl (fun _ => by go_simp) ?_
        simp only [Nat.reduceAdd, Act.put, List.setIfInBounds_toArray, List.set_cons_zero, List.set_cons_succ]
        refine st_late (.bool false) rfl rfl (fun _ => rfl) ?_
        simp only [Nat.reduceAdd, Act.put, List.setIfInBounds_toArray, List.set_cons_zero, List.set_cons_succ]
        refine st_load 31 (.tmp 3) (w.heap.size) _ _ _ _ rfl rfl rfl rfl q0 Try.underlying31 rfl infoN ?_
        simp only [Nat.reduceAdd, Act.put, List.setIfInBounds_toArray, List.set_cons_zero, List.set_cons_succ]
        refine st_call 14 #[.agg #[.int .i64 u, .int .u64 d0, .int .u64 d1, .int .u64 d2, .int .u64 d3]] (.int .i64 s) rfl rfl (fun _ => by go_simp) (cs) ?_
        simp only [Nat.reduceAdd, Act.put, List.setIfInBounds_toArray, List.set_cons_zero, List.set_cons_succ]
        refine st_late (.int .i64 (-1)) rfl rfl (fun _ => rfl) ?_
        simp only [Nat.reduceAdd, Act.put, List.setIfInBounds_toArray, List.set_cons_zero, List.set_cons_succ]
        refine st_late (.bool false) rfl rfl (fun _ => by go_simp) ?_
        simp only [Nat.reduceAdd, Act.put, List.setIfInBounds_toArray, List.set_cons_zero, List.set_cons_succ]
        refine st_late (.bool false) rfl rfl (fun _ => rfl) ?_
        simp only [Nat.reduceAdd, Act.put, List.setIfInBounds_toArray, List.set_cons_zero, List.set_cons_succ]
        refine st_skip rfl rfl ?_
        simp only [Nat.reduceAdd, Act.put, List.setIfInBounds_toArray, List.set_cons_zero, List.set_cons_succ]
        refine st_skip rfl rfl ?_
        simp only [Nat.reduceAdd, Act.put, List.setIfInBounds_toArray, List.set_cons_zero, List.set_cons_succ]
        refine st_skip rfl rfl ?_
        simp only [Nat.reduceAdd, Act.put, List.setIfInBounds_toArray, List.set_cons_zero, List.set_cons_succ]
        refine st_skip rfl rfl ?_
        simp only [Nat.reduceAdd, Act.put, List.setIfInBounds_toArray, List.set_cons_zero, List.set_cons_succ]
        refine st_skip rfl rfl ?_
        simp only [Nat.reduceAdd, Act.put, List.setIfInBounds_toArray, List.set_cons_zero, List.set_cons_succ]
        refine st_skip rfl rfl ?_
        simp only [Nat.reduceAdd, Act.put, List.setIfInBounds_toArray, List.set_cons_zero, List.set_cons_succ]
        refine st_late (.bool false) rfl rfl (fun _ => by go_simp) ?_
        simp only [Nat.reduceAdd, Act.put, List.setIfInBounds_toArray, List.set_cons_zero, List.set_cons_succ]
        refine st_late (.bool false) rfl rfl (fun _ => by go_simp) ?_
        simp only [Nat.reduceAdd, Act.put, List.setIfInBounds_toArray, List.set_cons_zero, List.set_cons_succ]
        refine st_late (.bool false) rfl rfl (fun _ => rfl) ?_
        simp only [Nat.reduceAdd, Act.put, List.setIfInBounds_toArray, List.set_cons_zero, List.set_cons_succ]
        refine st_nil ?_
        intro phwd whwd hwd
        simp only [fin, List.foldl_nil]
        have hB := hfin _ hwd.below
        clear hwd
        go_wp2
        go_ret
        exact ⟨rfl, hB⟩
      · refine wp_region_steady [.plain, .plain, .late, .late, .plain, .plain, .late, .late, .late, .plain, .plain, .plain, .plain, .plain, .plain, .late, .late, .late] none [] 29 (by kernel_rfl) rfl (by kernel_rfl) (by kernel_rfl) ?_
        refine st_load 31 (.tmp 3) (w.heap.size) _ _ _ _ rfl rfl rfl rfl q0 Try.underlying31 rfl infoN ?_
        simp only [Nat.reduceAdd, Act.put, List.setIfInBounds_toArray, List.set_cons_zero, List.set_cons_succ]
        refine st_call 14 #[.agg #[.int .i64 u, .int .u64 d0, .int .u64 d1, .int .u64 d2, .int .u64 d3]] (.int .i64 s) rfl rfl (fun _ => by go_simp) (cs) ?_
        simp only [Nat.reduceAdd, Act.put, List.setIfInBounds_toArray, List.set_cons_zero, List.set_cons_succ]
        refine st_late (.bool false) rfl rfl (fun _ => by go_simp) ?_
        simp only [Nat.reduceAdd, Act.put, List.setIfInBounds_toArray, List.set_cons_zero, List.set_cons_succ]
        refine st_late (.bool false) rfl rfl (fun _ => rfl) ?_
        simp only [Nat.reduceAdd, Act.put, List.setIfInBounds_toArray, List.set_cons_zero, List.set_cons_succ]
        refine st_load 31 (.tmp 3) (w.heap.size) _ _ _ _ rfl rfl rfl rfl q0 Try.underlying31 rfl infoN ?_
        simp only [Nat.reduceAdd, Act.put, List.setIfInBounds_toArray, List.set_cons_zero, List.set_cons_succ]
        refine st_call 14 #[.agg #[.int .i64 u, .int .u64 d0, .int .u64 d1, .int .u64 d2, .int .u64 d3]] (.int .i64 s) rfl rfl (fun _ => by go_simp) (cs) ?_
        simp only [Nat.reduceAdd, Act.put, List.setIfInBounds_toArray, List.set_cons_zero, List.set_cons_succ]
        refine st_late (.int .i64 1) rfl rfl (fun _ => rfl) ?_
        simp only [Nat.reduceAdd, Act.put, List.setIfInBounds_toArray, List.set_cons_zero, List.set_cons_succ]
        refine st_late (.bool false) rfl rfl (fun _ => by go_simp) ?_
        simp only [Nat.reduceAdd, Act.put, List.setIfInBounds_toArray, List.set_cons_zero, List.set_cons_succ]
        refine st_late (.bool false) rfl rfl (fun _ => rfl) ?_
        simp only [Nat.reduceAdd, Act.put, List.setIfInBounds_toArray, List.set_cons_zero, List.set_cons_succ]
        refine st_skip rfl rfl ?_
        simp only [Nat.reduceAdd, Act.put, List.setIfInBounds_toArray, List.set_cons_zero, List.set_cons_succ]
        refine st_skip rfl rfl ?_
        simp only [Nat.reduceAdd, Act.put, List.setIfInBounds_toArray, List.set_cons_zero, List.set_cons_succ]
        refine st_skip rfl rfl ?_
        simp only [Nat.reduceAdd, Act.put, List.setIfInBounds_toArray, List.set_cons_zero, List.set_cons_succ]
        refine st_skip rfl rfl ?_
        simp only [Nat.reduceAdd, Act.put, List.setIfInBounds_toArray, List.set_cons_zero, List.set_cons_succ]
        refine st_skip rfl rfl ?_
        simp only [Nat.reduceAdd, Act.put, List.setIfInBounds_toArray, List.set_cons_zero, List.set_cons_succ]
        refine st_skip rfl rfl ?_
        simp only [Nat.reduceAdd, Act.put, List.setIfInBounds_toArray, List.set_cons_zero, List.set_cons_succ]
        refine st_late (.bool false) rfl rfl (fun _ => by go_simp) ?_
        simp only [Nat.reduceAdd, Act.put, List.setIfInBounds_toArray, List.set_cons_zero, List.set_cons_succ]
        refine st_late (.bool false) rfl rfl (fun _ => by go_simp) ?_
        simp only [Nat.reduceAdd, Act.put, List.setIfInBounds_toArray, List.set_cons_zero, List.set_cons_succ]
        refine st_late (.bool false) rfl rfl (fun _ => rfl) ?_
        simp only [Nat.reduceAdd, Act.put, List.setIfInBounds_toArray, List.set_cons_zero, List.set_cons_succ]
        refine st_nil ?_
        intro phwd whwd hwd
        simp only [fin, List.foldl_nil]
        have hB := hfin _ hwd.below
        clear hwd
        go_wp2
        go_ret
        exact ⟨rfl, hB⟩
/-- Does a rest lie between nothing and what is divided by, on its side? -/
def liesB (z c : Int) (up : Bool) : Bool := decide (sgn z = 0) || (decide (sgn z = if (decide (c < 0) != up) then -1 else 1) && decide (z.natAbs < c.natAbs))
theorem isNum_of (a : Int) (ha : Fits a) : IsNum a (sg a) (abs a % 4294967296) (abs a / 4294967296 % 4294967296) (abs a / 18446744073709551616 % 4294967296) (abs a / 79228162514264337593543950336) :=
  ⟨abs a, by unfold sg; split <;> simp, by unfold abs; split <;> omega, by unfold abs sg; split <;> omega, rfl, rfl, rfl, rfl⟩
theorem lies_num (z u d0 d1 d2 d3 c : Int) (up : Bool) (w : World) (h : IsNum z u d0 d1 d2 d3) (hc : Fits c) :
    Calls Try.prog 11 #[.agg #[.int .i64 u, .int .u64 d0, .int .u64 d1, .int .u64 d2, .int .u64 d3], .int .i64 c, .bool up] w fun e w' => e = .returned (.bool (liesB z c up)) ∧ Below w.heap.size w w' :=
  lies_core u d0 d1 d2 d3 c _ _ _ _ _ (sgn z) _ up _ w (fun W => sign_num z u d0 d1 d2 d3 W h) (fun W => of_any c W hc) (fun W => less_num z u d0 d1 d2 d3 c _ _ _ _ _ W h (isNum_of c hc)) rfl
end Go.Proofs.Ytiinpgbanmokjaa.RatioRef
