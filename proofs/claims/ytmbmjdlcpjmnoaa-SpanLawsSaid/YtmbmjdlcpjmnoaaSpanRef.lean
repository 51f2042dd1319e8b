/-
  Contracts of package odographref04 and of layer 4's helpers, told of integers. Conditions: integers of 64 bits; numbers of the reference below 2^127.
-/
import Derived.Test.YtmbmjdlcpjmnoaaSpan
import Derived.Test.YtmbmjdlcpjmnoaaNm
import Derived.Test.YtmbmjdlcpjmnoaaSw
namespace Go.Proofs.Ytmbmjdlcpjmnoaa.SpanRef
open Go.ChangeShapes Go.WideShapes Go.ChangeAt Go.RowKit
open Num Ref Ratio Arr Nmx Span Steady Sx Sw
set_option linter.unusedVariables false
set_option maxRecDepth 100000

set_option maxHeartbeats 2000000 in
theorem ends_core (x y : Nm) (X Y : Int) (f e : Bool)
    (c1 : ∀ W, Calls Try.prog 42 #[x.V] W fun e' w' => e' = .returned (.tuple #[.int .i64 X, .bool f]) ∧ Below W.heap.size W w')
    (c2 : ∀ W, Calls Try.prog 42 #[y.V] W fun e' w' => e' = .returned (.tuple #[.int .i64 Y, .bool e]) ∧ Below W.heap.size W w') (w : World) :
    Calls Try.prog 33 #[.agg x.cs, .agg y.cs] w fun e1 w' => e1 = .returned (.tuple #[.int .i64 (if f && e && !decide (Y < X) then X else 0), .int .i64 (if f && e && !decide (Y < X) then Y else 0), .bool (f && e && !decide (Y < X))]) ∧ Below w.heap.size w w' := by
  refine calls_sx Try.func33 rfl ?_
  simp only [Try.ntmps33, List.size_toArray, List.length_cons, List.length_nil, Nat.reduceAdd, Nat.reduceSub, Array.replicate_succ, Array.replicate_zero, List.push_toArray, List.append_toArray, List.nil_append, List.cons_append]
  refine wc_seq ?_
  refine wc_region ?_
  refine wl_new 28 (x.cs) rfl (fun _ => by go_simp) ?_
  intro g1
  simp only [Act.put, List.setIfInBounds_toArray, List.set_cons_zero, List.set_cons_succ]
  refine wl_new 28 (y.cs) rfl (fun _ => by go_simp) ?_
  intro g2
  simp only [Act.put, List.setIfInBounds_toArray, List.set_cons_zero, List.set_cons_succ]
  refine wl_val (.int .i64 0) rfl (fun _ => rfl) ?_
  simp only [Act.put, List.setIfInBounds_toArray, List.set_cons_zero, List.set_cons_succ]
  refine wl_val (.int .i64 0) rfl (fun _ => rfl) ?_
  simp only [Act.put, List.setIfInBounds_toArray, List.set_cons_zero, List.set_cons_succ]
  refine wl_val (.bool false) rfl (fun _ => rfl) ?_
  simp only [Act.put, List.setIfInBounds_toArray, List.set_cons_zero, List.set_cons_succ]
  refine wl_nil ?_
  refine we_then ?_
  refine wc_seq ?_
  refine wc_region ?_
  refine wl_load 28 (.tmp 2) (own_row 1 rfl) rfl rfl rfl Try.underlying28 rfl (by kernel_rfl) ?_
  simp only [Act.put, List.setIfInBounds_toArray, List.set_cons_zero, List.set_cons_succ]
  refine wl_call 42 #[.agg x.cs] (.tuple #[.int .i64 X, .bool f]) rfl (fun _ => by go_simp) c1 ?_
  simp only [Act.put, List.setIfInBounds_toArray, List.set_cons_zero, List.set_cons_succ]
  refine wl_val (.tuple #[.int .i64 X, .bool f]) rfl (fun _ => rfl) ?_
  simp only [Act.put, List.setIfInBounds_toArray, List.set_cons_zero, List.set_cons_succ]
  refine wl_val (.int .i64 X) rfl (fun _ => by go_simp) ?_
  simp only [Act.put, List.setIfInBounds_toArray, List.set_cons_zero, List.set_cons_succ]
  refine wl_val (.bool f) rfl (fun _ => by go_simp) ?_
  simp only [Act.put, List.setIfInBounds_toArray, List.set_cons_zero, List.set_cons_succ]
  refine wl_val (.int .i64 X) rfl (fun _ => rfl) ?_
  simp only [Act.put, List.setIfInBounds_toArray, List.set_cons_zero, List.set_cons_succ]
  refine wl_val (.bool f) rfl (fun _ => rfl) ?_
  simp only [Act.put, List.setIfInBounds_toArray, List.set_cons_zero, List.set_cons_succ]
  refine wl_nil ?_
  refine we_then ?_
  refine wc_seq ?_
  refine wc_region ?_
  refine wl_load 28 (.tmp 3) (own_row 0 rfl) rfl rfl rfl Try.underlying28 rfl (by kernel_rfl) ?_
  simp only [Act.put, List.setIfInBounds_toArray, List.set_cons_zero, List.set_cons_succ]
  refine wl_call 42 #[.agg y.cs] (.tuple #[.int .i64 Y, .bool e]) rfl (fun _ => by go_simp) c2 ?_
  simp only [Act.put, List.setIfInBounds_toArray, List.set_cons_zero, List.set_cons_succ]
  refine wl_val (.tuple #[.int .i64 Y, .bool e]) rfl (fun _ => rfl) ?_
  simp only [Act.put, List.setIfInBounds_toArray, List.set_cons_zero, List.set_cons_succ]
  refine wl_val (.int .i64 Y) rfl (fun _ => by go_simp) ?_
  simp only [Act.put, List.setIfInBounds_toArray, List.set_cons_zero, List.set_cons_succ]
  refine wl_val (.bool e) rfl (fun _ => by go_simp) ?_
  simp only [Act.put, List.setIfInBounds_toArray, List.set_cons_zero, List.set_cons_succ]
  refine wl_val (.int .i64 Y) rfl (fun _ => rfl) ?_
  simp only [Act.put, List.setIfInBounds_toArray, List.set_cons_zero, List.set_cons_succ]
  refine wl_val (.bool e) rfl (fun _ => rfl) ?_
  simp only [Act.put, List.setIfInBounds_toArray, List.set_cons_zero, List.set_cons_succ]
  refine wl_nil ?_
  refine we_then ?_
  refine wc_seq ?_
  refine wc_seq ?_
  refine wc_region ?_
  refine wl_val (.bool f) rfl (fun _ => rfl) ?_
  simp only [Act.put, List.setIfInBounds_toArray, List.set_cons_zero, List.set_cons_succ]
  refine wl_val (.bool (!f)) rfl (fun _ => by go_simp) ?_
  simp only [Act.put, List.setIfInBounds_toArray, List.set_cons_zero, List.set_cons_succ]
  refine wl_val (.bool (!f)) rfl (fun _ => rfl) ?_
  simp only [Act.put, List.setIfInBounds_toArray, List.set_cons_zero, List.set_cons_succ]
  cases h3 : (f)
  · skip
    refine wl_skip rfl ?_
    simp only [Act.put, List.setIfInBounds_toArray, List.set_cons_zero, List.set_cons_succ]
    refine wl_skip rfl ?_
    simp only [Act.put, List.setIfInBounds_toArray, List.set_cons_zero, List.set_cons_succ]
    refine wl_val (.bool true) rfl (fun _ => rfl) ?_
    simp only [Act.put, List.setIfInBounds_toArray, List.set_cons_zero, List.set_cons_succ]
    refine wl_val (.bool true) rfl (fun _ => rfl) ?_
    simp only [Act.put, List.setIfInBounds_toArray, List.set_cons_zero, List.set_cons_succ]
    refine wl_skip rfl ?_
    simp only [Act.put, List.setIfInBounds_toArray, List.set_cons_zero, List.set_cons_succ]
    refine wl_skip rfl ?_
    simp only [Act.put, List.setIfInBounds_toArray, List.set_cons_zero, List.set_cons_succ]
    refine wl_skip rfl ?_
    simp only [Act.put, List.setIfInBounds_toArray, List.set_cons_zero, List.set_cons_succ]
    refine wl_val (.bool true) rfl (fun _ => rfl) ?_
    simp only [Act.put, List.setIfInBounds_toArray, List.set_cons_zero, List.set_cons_succ]
    refine wl_nil ?_
    refine we_then ?_
    refine wc_true rfl ?_
    refine wc_seq ?_
    refine wc_region ?_
    refine wl_val (.int .i64 0) rfl (fun _ => rfl) ?_
    simp only [Act.put, List.setIfInBounds_toArray, List.set_cons_zero, List.set_cons_succ]
    refine wl_val (.int .i64 0) rfl (fun _ => rfl) ?_
    simp only [Act.put, List.setIfInBounds_toArray, List.set_cons_zero, List.set_cons_succ]
    refine wl_val (.bool false) rfl (fun _ => rfl) ?_
    simp only [Act.put, List.setIfInBounds_toArray, List.set_cons_zero, List.set_cons_succ]
    refine wl_nil ?_
    refine we_then ?_
    refine wc_ret ?_
    refine we_then_ret ?_
    refine we_ret3 (.int .i64 0) (.int .i64 0) (.bool false) rfl rfl rfl rfl rfl (fun w1 hE => ?_)
    exact ⟨by simp [*], hE.below⟩
  · skip
    refine wl_val (.bool e) rfl (fun _ => rfl) ?_
    simp only [Act.put, List.setIfInBounds_toArray, List.set_cons_zero, List.set_cons_succ]
    refine wl_val (.bool (!e)) rfl (fun _ => by go_simp) ?_
    simp only [Act.put, List.setIfInBounds_toArray, List.set_cons_zero, List.set_cons_succ]
    refine wl_val (.bool (!e)) rfl (fun _ => rfl) ?_
    simp only [Act.put, List.setIfInBounds_toArray, List.set_cons_zero, List.set_cons_succ]
    refine wl_val (.bool (!e)) rfl (fun _ => rfl) ?_
    simp only [Act.put, List.setIfInBounds_toArray, List.set_cons_zero, List.set_cons_succ]
    cases h4 : (e)
    · skip
      refine wl_skip rfl ?_
      simp only [Act.put, List.setIfInBounds_toArray, List.set_cons_zero, List.set_cons_succ]
      refine wl_skip rfl ?_
      simp only [Act.put, List.setIfInBounds_toArray, List.set_cons_zero, List.set_cons_succ]
      refine wl_skip rfl ?_
      simp only [Act.put, List.setIfInBounds_toArray, List.set_cons_zero, List.set_cons_succ]
      refine wl_val (.bool true) rfl (fun _ => rfl) ?_
      simp only [Act.put, List.setIfInBounds_toArray, List.set_cons_zero, List.set_cons_succ]
      refine wl_nil ?_
      refine we_then ?_
      refine wc_true rfl ?_
      refine wc_seq ?_
      refine wc_region ?_
      refine wl_val (.int .i64 0) rfl (fun _ => rfl) ?_
      simp only [Act.put, List.setIfInBounds_toArray, List.set_cons_zero, List.set_cons_succ]
      refine wl_val (.int .i64 0) rfl (fun _ => rfl) ?_
      simp only [Act.put, List.setIfInBounds_toArray, List.set_cons_zero, List.set_cons_succ]
      refine wl_val (.bool false) rfl (fun _ => rfl) ?_
      simp only [Act.put, List.setIfInBounds_toArray, List.set_cons_zero, List.set_cons_succ]
      refine wl_nil ?_
      refine we_then ?_
      refine wc_ret ?_
      refine we_then_ret ?_
      refine we_ret3 (.int .i64 0) (.int .i64 0) (.bool false) rfl rfl rfl rfl rfl (fun w1 hE => ?_)
      exact ⟨by simp [*], hE.below⟩
    · skip
      refine wl_val (.int .i64 X) rfl (fun _ => rfl) ?_
      simp only [Act.put, List.setIfInBounds_toArray, List.set_cons_zero, List.set_cons_succ]
      refine wl_val (.int .i64 Y) rfl (fun _ => rfl) ?_
      simp only [Act.put, List.setIfInBounds_toArray, List.set_cons_zero, List.set_cons_succ]
      refine wl_val (.bool (decide (Y < X))) rfl (fun w => run_cmp rfl rfl rfl Try.underlying2 rfl w) ?_
      simp only [Act.put, List.setIfInBounds_toArray, List.set_cons_zero, List.set_cons_succ]
      refine wl_val (.bool (decide (Y < X))) rfl (fun _ => rfl) ?_
      simp only [Act.put, List.setIfInBounds_toArray, List.set_cons_zero, List.set_cons_succ]
      refine wl_nil ?_
      refine we_then ?_
      cases h5 : (decide (Y < X))
      · skip
        have p5 : ¬ (Y < X) := of_decide_eq_false h5
        refine wc_false rfl ?_
        refine wc_skip ?_
        refine we_then ?_
        refine wc_seq ?_
        refine wc_region ?_
        refine wl_val (.int .i64 X) rfl (fun _ => rfl) ?_
        simp only [Act.put, List.setIfInBounds_toArray, List.set_cons_zero, List.set_cons_succ]
        refine wl_val (.int .i64 Y) rfl (fun _ => rfl) ?_
        simp only [Act.put, List.setIfInBounds_toArray, List.set_cons_zero, List.set_cons_succ]
        refine wl_val (.int .i64 X) rfl (fun _ => rfl) ?_
        simp only [Act.put, List.setIfInBounds_toArray, List.set_cons_zero, List.set_cons_succ]
        refine wl_val (.int .i64 Y) rfl (fun _ => rfl) ?_
        simp only [Act.put, List.setIfInBounds_toArray, List.set_cons_zero, List.set_cons_succ]
        refine wl_val (.bool true) rfl (fun _ => rfl) ?_
        simp only [Act.put, List.setIfInBounds_toArray, List.set_cons_zero, List.set_cons_succ]
        refine wl_nil ?_
        refine we_then ?_
        refine wc_ret ?_
        refine we_ret3 (.int .i64 X) (.int .i64 Y) (.bool true) rfl rfl rfl rfl rfl (fun w1 hE => ?_)
        exact ⟨by simp [*], hE.below⟩
      · skip
        have p5 : Y < X := of_decide_eq_true h5
        refine wc_true rfl ?_
        refine wc_seq ?_
        refine wc_region ?_
        refine wl_val (.int .i64 0) rfl (fun _ => rfl) ?_
        simp only [Act.put, List.setIfInBounds_toArray, List.set_cons_zero, List.set_cons_succ]
        refine wl_val (.int .i64 0) rfl (fun _ => rfl) ?_
        simp only [Act.put, List.setIfInBounds_toArray, List.set_cons_zero, List.set_cons_succ]
        refine wl_val (.bool false) rfl (fun _ => rfl) ?_
        simp only [Act.put, List.setIfInBounds_toArray, List.set_cons_zero, List.set_cons_succ]
        refine wl_nil ?_
        refine we_then ?_
        refine wc_ret ?_
        refine we_then_ret ?_
        refine we_ret3 (.int .i64 0) (.int .i64 0) (.bool false) rfl rfl rfl rfl rfl (fun w1 hE => ?_)
        exact ⟨by simp [*], hE.below⟩
theorem ends_any (x y : Nm) (w : World) (hx : x.ok) (hy : y.ok) :
    Calls Try.prog 33 #[x.V, y.V] w fun e w' => e = .returned (.tuple #[.int .i64 (orZ (tB true x.z y.z) x.z), .int .i64 (orZ (tB true x.z y.z) y.z), .bool (tB true x.z y.z)]) ∧ Below w.heap.size w w' := by
  have h := ends_core x y _ _ _ _ (fun W => back_nm x W hx) (fun W => back_nm y W hy) w
  have e1 : (fitB x.z && fitB y.z && !decide (sat y.z < sat x.z)) = tB true x.z y.z := by
    unfold tB fitB
    by_cases h1 : Fits x.z
    · by_cases h2 : Fits y.z
      · rw [sat_fits h1, sat_fits h2, decide_eq_true h1, decide_eq_true h2]
        by_cases h3 : x.z ≤ y.z
        · rw [decide_eq_true h3, decide_eq_false (by omega)]; rfl
        · rw [decide_eq_false h3, decide_eq_true (by omega)]; rfl
      · rw [decide_eq_false h2]; simp
    · rw [decide_eq_false h1]; simp
  have e2 : tB true x.z y.z = true → Fits x.z ∧ Fits y.z := by
    intro k
    unfold tB fitB at k
    simp only [Bool.and_eq_true, decide_eq_true_eq] at k
    exact ⟨k.1.1.2, k.1.2⟩
  rw [e1] at h
  have e3 : (if tB true x.z y.z = true then sat x.z else 0) = orZ (tB true x.z y.z) x.z := by
    unfold orZ
    by_cases k : tB true x.z y.z = true
    · rw [if_pos k, if_pos k, sat_fits (e2 k).1]
    · rw [if_neg k, if_neg k]
  have e4 : (if tB true x.z y.z = true then sat y.z else 0) = orZ (tB true x.z y.z) y.z := by
    unfold orZ
    by_cases k : tB true x.z y.z = true
    · rw [if_pos k, if_pos k, sat_fits (e2 k).2]
    · rw [if_neg k, if_neg k]
  rw [e3, e4] at h
  exact h
set_option maxHeartbeats 2000000 in
theorem is_yes (x y : Nm) (A B : Int)
    (c : ∀ W, Calls Try.prog 33 #[x.V, y.V] W fun e w' => e = .returned (.tuple #[.int .i64 A, .int .i64 B, .bool true]) ∧ Below W.heap.size W w') (w : World) :
    Calls Try.prog 14 #[.agg #[.int .i64 A, .int .i64 B], .bool true, .bool true, .agg x.cs, .agg y.cs] w fun e w' => e = .returned (.bool true) ∧ Below w.heap.size w w' := by
  refine calls_sx Try.func14 rfl ?_
  simp only [Try.ntmps14, List.size_toArray, List.length_cons, List.length_nil, Nat.reduceAdd, Nat.reduceSub, Array.replicate_succ, Array.replicate_zero, List.push_toArray, List.append_toArray, List.nil_append, List.cons_append]
  refine wc_seq ?_
  refine wc_region ?_
  refine wl_new 23 (#[.int .i64 A, .int .i64 B]) rfl (fun _ => by go_simp) ?_
  intro g1
  simp only [Act.put, List.setIfInBounds_toArray, List.set_cons_zero, List.set_cons_succ]
  refine wl_new 28 (x.cs) rfl (fun _ => by go_simp) ?_
  intro g2
  simp only [Act.put, List.setIfInBounds_toArray, List.set_cons_zero, List.set_cons_succ]
  refine wl_new 28 (y.cs) rfl (fun _ => by go_simp) ?_
  intro g3
  simp only [Act.put, List.setIfInBounds_toArray, List.set_cons_zero, List.set_cons_succ]
  refine wl_val (.bool false) rfl (fun _ => rfl) ?_
  simp only [Act.put, List.setIfInBounds_toArray, List.set_cons_zero, List.set_cons_succ]
  refine wl_nil ?_
  refine we_then ?_
  refine wc_seq ?_
  refine wc_region ?_
  refine wl_load 28 (.tmp 8) (own_row 1 rfl) rfl rfl rfl Try.underlying28 rfl (by kernel_rfl) ?_
  simp only [Act.put, List.setIfInBounds_toArray, List.set_cons_zero, List.set_cons_succ]
  refine wl_load 28 (.tmp 9) (own_row 0 rfl) rfl rfl rfl Try.underlying28 rfl (by kernel_rfl) ?_
  simp only [Act.put, List.setIfInBounds_toArray, List.set_cons_zero, List.set_cons_succ]
  refine wl_call 33 #[.agg x.cs, .agg y.cs] (.tuple #[.int .i64 A, .int .i64 B, .bool true]) rfl (fun _ => by go_simp) c ?_
  simp only [Act.put, List.setIfInBounds_toArray, List.set_cons_zero, List.set_cons_succ]
  refine wl_val (.tuple #[.int .i64 A, .int .i64 B, .bool true]) rfl (fun _ => rfl) ?_
  simp only [Act.put, List.setIfInBounds_toArray, List.set_cons_zero, List.set_cons_succ]
  refine wl_val (.int .i64 A) rfl (fun _ => by go_simp) ?_
  simp only [Act.put, List.setIfInBounds_toArray, List.set_cons_zero, List.set_cons_succ]
  refine wl_val (.int .i64 B) rfl (fun _ => by go_simp) ?_
  simp only [Act.put, List.setIfInBounds_toArray, List.set_cons_zero, List.set_cons_succ]
  refine wl_val (.bool true) rfl (fun _ => by go_simp) ?_
  simp only [Act.put, List.setIfInBounds_toArray, List.set_cons_zero, List.set_cons_succ]
  refine wl_val (.int .i64 A) rfl (fun _ => rfl) ?_
  simp only [Act.put, List.setIfInBounds_toArray, List.set_cons_zero, List.set_cons_succ]
  refine wl_val (.int .i64 B) rfl (fun _ => rfl) ?_
  simp only [Act.put, List.setIfInBounds_toArray, List.set_cons_zero, List.set_cons_succ]
  refine wl_val (.bool true) rfl (fun _ => rfl) ?_
  simp only [Act.put, List.setIfInBounds_toArray, List.set_cons_zero, List.set_cons_succ]
  refine wl_nil ?_
  refine we_then ?_
  refine wc_seq ?_
  refine wc_seq ?_
  refine wc_region ?_
  refine wl_val (.bool true) rfl (fun _ => rfl) ?_
  simp only [Act.put, List.setIfInBounds_toArray, List.set_cons_zero, List.set_cons_succ]
  refine wl_val (.bool false) rfl (fun _ => by go_simp) ?_
  simp only [Act.put, List.setIfInBounds_toArray, List.set_cons_zero, List.set_cons_succ]
  refine wl_val (.bool false) rfl (fun _ => rfl) ?_
  simp only [Act.put, List.setIfInBounds_toArray, List.set_cons_zero, List.set_cons_succ]
  refine wl_val (.bool true) rfl (fun _ => rfl) ?_
  simp only [Act.put, List.setIfInBounds_toArray, List.set_cons_zero, List.set_cons_succ]
  refine wl_val (.bool false) rfl (fun _ => by go_simp) ?_
  simp only [Act.put, List.setIfInBounds_toArray, List.set_cons_zero, List.set_cons_succ]
  refine wl_val (.bool false) rfl (fun _ => rfl) ?_
  simp only [Act.put, List.setIfInBounds_toArray, List.set_cons_zero, List.set_cons_succ]
  refine wl_nil ?_
  refine we_then ?_
  refine wc_false rfl ?_
  refine wc_skip ?_
  refine we_then ?_
  refine wc_seq ?_
  refine wc_region ?_
  refine wl_val (.bool true) rfl (fun _ => rfl) ?_
  simp only [Act.put, List.setIfInBounds_toArray, List.set_cons_zero, List.set_cons_succ]
  refine wl_val (.bool true) rfl (fun _ => rfl) ?_
  simp only [Act.put, List.setIfInBounds_toArray, List.set_cons_zero, List.set_cons_succ]
  refine wl_val (.pointer (some ⟨g1, 0, none⟩)) rfl (fun _ => by go_simp) ?_
  simp only [Act.put, List.setIfInBounds_toArray, List.set_cons_zero, List.set_cons_succ]
  refine wl_cell 2 (.tmp 36) (.int .i64 A) (own_row 2 rfl) rfl rfl rfl rfl Try.isAgg2 ?_
  simp only [Act.put, List.setIfInBounds_toArray, List.set_cons_zero, List.set_cons_succ]
  refine wl_val (.int .i64 A) rfl (fun _ => rfl) ?_
  simp only [Act.put, List.setIfInBounds_toArray, List.set_cons_zero, List.set_cons_succ]
  refine wl_val (.bool true) rfl (fun w => run_cmp (b := true) rfl rfl rfl Try.underlying2 (by simp [cmpOf]) w) ?_
  simp only [Act.put, List.setIfInBounds_toArray, List.set_cons_zero, List.set_cons_succ]
  refine wl_val (.bool true) rfl (fun _ => rfl) ?_
  simp only [Act.put, List.setIfInBounds_toArray, List.set_cons_zero, List.set_cons_succ]
  refine wl_val (.bool true) rfl (fun _ => rfl) ?_
  simp only [Act.put, List.setIfInBounds_toArray, List.set_cons_zero, List.set_cons_succ]
  refine wl_val (.pointer (some ⟨g1, 1, none⟩)) rfl (fun _ => by go_simp) ?_
  simp only [Act.put, List.setIfInBounds_toArray, List.set_cons_zero, List.set_cons_succ]
  refine wl_cell 2 (.tmp 42) (.int .i64 B) (own_row 2 rfl) rfl rfl rfl rfl Try.isAgg2 ?_
  simp only [Act.put, List.setIfInBounds_toArray, List.set_cons_zero, List.set_cons_succ]
  refine wl_val (.int .i64 B) rfl (fun _ => rfl) ?_
  simp only [Act.put, List.setIfInBounds_toArray, List.set_cons_zero, List.set_cons_succ]
  refine wl_val (.bool true) rfl (fun w => run_cmp (b := true) rfl rfl rfl Try.underlying2 (by simp [cmpOf]) w) ?_
  simp only [Act.put, List.setIfInBounds_toArray, List.set_cons_zero, List.set_cons_succ]
  refine wl_val (.bool true) rfl (fun _ => rfl) ?_
  simp only [Act.put, List.setIfInBounds_toArray, List.set_cons_zero, List.set_cons_succ]
  refine wl_val (.bool true) rfl (fun _ => rfl) ?_
  simp only [Act.put, List.setIfInBounds_toArray, List.set_cons_zero, List.set_cons_succ]
  refine wl_nil ?_
  refine we_then ?_
  refine wc_ret ?_
  refine we_ret1 (.bool true) rfl rfl rfl (fun w1 hE => ?_)
  exact ⟨by simp [*], hE.below⟩
set_option maxHeartbeats 2000000 in
theorem is_no (x y : Nm) (A B : Int) (r m : Bool) (h : (r && m) = false)
    (c : ∀ W, Calls Try.prog 33 #[x.V, y.V] W fun e w' => e = .returned (.tuple #[.int .i64 A, .int .i64 B, .bool m]) ∧ Below W.heap.size W w') (w : World) :
    Calls Try.prog 14 #[.agg #[.int .i64 0, .int .i64 0], .bool false, .bool r, .agg x.cs, .agg y.cs] w fun e w' => e = .returned (.bool true) ∧ Below w.heap.size w w' := by
  refine calls_sx Try.func14 rfl ?_
  simp only [Try.ntmps14, List.size_toArray, List.length_cons, List.length_nil, Nat.reduceAdd, Nat.reduceSub, Array.replicate_succ, Array.replicate_zero, List.push_toArray, List.append_toArray, List.nil_append, List.cons_append]
  refine wc_seq ?_
  refine wc_region ?_
  refine wl_new 23 (#[.int .i64 0, .int .i64 0]) rfl (fun _ => by go_simp) ?_
  intro g1
  simp only [Act.put, List.setIfInBounds_toArray, List.set_cons_zero, List.set_cons_succ]
  refine wl_new 28 (x.cs) rfl (fun _ => by go_simp) ?_
  intro g2
  simp only [Act.put, List.setIfInBounds_toArray, List.set_cons_zero, List.set_cons_succ]
  refine wl_new 28 (y.cs) rfl (fun _ => by go_simp) ?_
  intro g3
  simp only [Act.put, List.setIfInBounds_toArray, List.set_cons_zero, List.set_cons_succ]
  refine wl_val (.bool false) rfl (fun _ => rfl) ?_
  simp only [Act.put, List.setIfInBounds_toArray, List.set_cons_zero, List.set_cons_succ]
  refine wl_nil ?_
  refine we_then ?_
  refine wc_seq ?_
  refine wc_region ?_
  refine wl_load 28 (.tmp 8) (own_row 1 rfl) rfl rfl rfl Try.underlying28 rfl (by kernel_rfl) ?_
  simp only [Act.put, List.setIfInBounds_toArray, List.set_cons_zero, List.set_cons_succ]
  refine wl_load 28 (.tmp 9) (own_row 0 rfl) rfl rfl rfl Try.underlying28 rfl (by kernel_rfl) ?_
  simp only [Act.put, List.setIfInBounds_toArray, List.set_cons_zero, List.set_cons_succ]
  refine wl_call 33 #[.agg x.cs, .agg y.cs] (.tuple #[.int .i64 A, .int .i64 B, .bool m]) rfl (fun _ => by go_simp) c ?_
  simp only [Act.put, List.setIfInBounds_toArray, List.set_cons_zero, List.set_cons_succ]
  refine wl_val (.tuple #[.int .i64 A, .int .i64 B, .bool m]) rfl (fun _ => rfl) ?_
  simp only [Act.put, List.setIfInBounds_toArray, List.set_cons_zero, List.set_cons_succ]
  refine wl_val (.int .i64 A) rfl (fun _ => by go_simp) ?_
  simp only [Act.put, List.setIfInBounds_toArray, List.set_cons_zero, List.set_cons_succ]
  refine wl_val (.int .i64 B) rfl (fun _ => by go_simp) ?_
  simp only [Act.put, List.setIfInBounds_toArray, List.set_cons_zero, List.set_cons_succ]
  refine wl_val (.bool m) rfl (fun _ => by go_simp) ?_
  simp only [Act.put, List.setIfInBounds_toArray, List.set_cons_zero, List.set_cons_succ]
  refine wl_val (.int .i64 A) rfl (fun _ => rfl) ?_
  simp only [Act.put, List.setIfInBounds_toArray, List.set_cons_zero, List.set_cons_succ]
  refine wl_val (.int .i64 B) rfl (fun _ => rfl) ?_
  simp only [Act.put, List.setIfInBounds_toArray, List.set_cons_zero, List.set_cons_succ]
  refine wl_val (.bool m) rfl (fun _ => rfl) ?_
  simp only [Act.put, List.setIfInBounds_toArray, List.set_cons_zero, List.set_cons_succ]
  refine wl_nil ?_
  refine we_then ?_
  refine wc_seq ?_
  refine wc_seq ?_
  refine wc_region ?_
  refine wl_val (.bool r) rfl (fun _ => rfl) ?_
  simp only [Act.put, List.setIfInBounds_toArray, List.set_cons_zero, List.set_cons_succ]
  refine wl_val (.bool (!r)) rfl (fun _ => by go_simp) ?_
  simp only [Act.put, List.setIfInBounds_toArray, List.set_cons_zero, List.set_cons_succ]
  refine wl_val (.bool (!r)) rfl (fun _ => rfl) ?_
  simp only [Act.put, List.setIfInBounds_toArray, List.set_cons_zero, List.set_cons_succ]
  cases h4 : (r)
  · skip
    refine wl_skip rfl ?_
    simp only [Act.put, List.setIfInBounds_toArray, List.set_cons_zero, List.set_cons_succ]
    refine wl_skip rfl ?_
    simp only [Act.put, List.setIfInBounds_toArray, List.set_cons_zero, List.set_cons_succ]
    refine wl_val (.bool true) rfl (fun _ => rfl) ?_
    simp only [Act.put, List.setIfInBounds_toArray, List.set_cons_zero, List.set_cons_succ]
    refine wl_nil ?_
    refine we_then ?_
    refine wc_true rfl ?_
    refine wc_seq ?_
    refine wc_region ?_
    refine wl_val (.bool false) rfl (fun _ => rfl) ?_
    simp only [Act.put, List.setIfInBounds_toArray, List.set_cons_zero, List.set_cons_succ]
    refine wl_val (.bool true) rfl (fun _ => by go_simp) ?_
    simp only [Act.put, List.setIfInBounds_toArray, List.set_cons_zero, List.set_cons_succ]
    refine wl_val (.bool true) rfl (fun _ => rfl) ?_
    simp only [Act.put, List.setIfInBounds_toArray, List.set_cons_zero, List.set_cons_succ]
    refine wl_load 23 (.tmp 5) (own_row 2 rfl) rfl rfl rfl Try.underlying23 rfl (by kernel_rfl) ?_
    simp only [Act.put, List.setIfInBounds_toArray, List.set_cons_zero, List.set_cons_succ]
    refine wl_val (.agg #[.int .i64 0, .int .i64 0]) rfl (fun _ => by go_simp) ?_
    simp only [Act.put, List.setIfInBounds_toArray, List.set_cons_zero, List.set_cons_succ]
    refine wl_val (.bool true) rfl (fun _ => by go_simp) ?_
    simp only [Act.put, List.setIfInBounds_toArray, List.set_cons_zero, List.set_cons_succ]
    refine wl_val (.bool true) rfl (fun _ => rfl) ?_
    simp only [Act.put, List.setIfInBounds_toArray, List.set_cons_zero, List.set_cons_succ]
    refine wl_val (.bool true) rfl (fun _ => rfl) ?_
    simp only [Act.put, List.setIfInBounds_toArray, List.set_cons_zero, List.set_cons_succ]
    refine wl_nil ?_
    refine we_then ?_
    refine wc_ret ?_
    refine we_then_ret ?_
    refine we_ret1 (.bool true) rfl rfl rfl (fun w1 hE => ?_)
    exact ⟨by simp [*], hE.below⟩
  · skip
    refine wl_val (.bool m) rfl (fun _ => rfl) ?_
    simp only [Act.put, List.setIfInBounds_toArray, List.set_cons_zero, List.set_cons_succ]
    refine wl_val (.bool (!m)) rfl (fun _ => by go_simp) ?_
    simp only [Act.put, List.setIfInBounds_toArray, List.set_cons_zero, List.set_cons_succ]
    refine wl_val (.bool (!m)) rfl (fun _ => rfl) ?_
    simp only [Act.put, List.setIfInBounds_toArray, List.set_cons_zero, List.set_cons_succ]
    refine wl_nil ?_
    refine we_then ?_
    cases h5 : (m)
    · skip
      refine wc_true rfl ?_
      refine wc_seq ?_
      refine wc_region ?_
      refine wl_val (.bool false) rfl (fun _ => rfl) ?_
      simp only [Act.put, List.setIfInBounds_toArray, List.set_cons_zero, List.set_cons_succ]
      refine wl_val (.bool true) rfl (fun _ => by go_simp) ?_
      simp only [Act.put, List.setIfInBounds_toArray, List.set_cons_zero, List.set_cons_succ]
      refine wl_val (.bool true) rfl (fun _ => rfl) ?_
      simp only [Act.put, List.setIfInBounds_toArray, List.set_cons_zero, List.set_cons_succ]
      refine wl_load 23 (.tmp 5) (own_row 2 rfl) rfl rfl rfl Try.underlying23 rfl (by kernel_rfl) ?_
      simp only [Act.put, List.setIfInBounds_toArray, List.set_cons_zero, List.set_cons_succ]
      refine wl_val (.agg #[.int .i64 0, .int .i64 0]) rfl (fun _ => by go_simp) ?_
      simp only [Act.put, List.setIfInBounds_toArray, List.set_cons_zero, List.set_cons_succ]
      refine wl_val (.bool true) rfl (fun _ => by go_simp) ?_
      simp only [Act.put, List.setIfInBounds_toArray, List.set_cons_zero, List.set_cons_succ]
      refine wl_val (.bool true) rfl (fun _ => rfl) ?_
      simp only [Act.put, List.setIfInBounds_toArray, List.set_cons_zero, List.set_cons_succ]
      refine wl_val (.bool true) rfl (fun _ => rfl) ?_
      simp only [Act.put, List.setIfInBounds_toArray, List.set_cons_zero, List.set_cons_succ]
      refine wl_nil ?_
      refine we_then ?_
      refine wc_ret ?_
      refine we_then_ret ?_
      refine we_ret1 (.bool true) rfl rfl rfl (fun w1 hE => ?_)
      exact ⟨by simp [*], hE.below⟩
    · skip
      simp [*] at h
theorem tB_and (r : Bool) (X Y : Int) : tB r X Y = (r && tB true X Y) := by unfold tB; cases r <;> simp
theorem is_told (x y : Nm) (r : Bool) (X Y : Int) (w : World) (hx : x.ok) (hy : y.ok) (eX : x.z = X) (eY : y.z = Y) :
    Calls Try.prog 14 #[.agg #[.int .i64 (orZ (tB r X Y) X), .int .i64 (orZ (tB r X Y) Y)], .bool (tB r X Y), .bool r, x.V, y.V] w fun e w' => e = .returned (.bool true) ∧ Below w.heap.size w w' := by
  have c := fun W => ends_any x y W hx hy
  rw [eX, eY] at c
  by_cases h : tB r X Y = true
  · have h2 := h
    rw [tB_and, Bool.and_eq_true] at h2
    have h3 := h2.1
    subst h3
    rw [h] at c ⊢
    exact is_yes x y _ _ c w
  · have h1 : tB r X Y = false := by simpa using h
    rw [h1]
    rw [tB_and] at h1
    exact is_no x y _ _ r _ h1 c w
/-- Digits are held against noughts. -/
theorem ne_zero {o : Oper} {a : Act} {x y : Operand} (d : Nm) (hd : d.ok) (ho : o.op = .binOp .neq 26 x y 26)
    (hx : a.eval x = .agg #[.int .u64 (d.n % 4294967296), .int .u64 (d.n / 4294967296 % 4294967296), .int .u64 (d.n / 18446744073709551616 % 4294967296), .int .u64 (d.n / 79228162514264337593543950336)])
    (hy : a.eval y = .agg #[.int .u64 0, .int .u64 0, .int .u64 0, .int .u64 0]) (w : World) : (execOp a.eval o).run Try.prog w = .ok (.value (.bool (decide (d.n ≠ 0)))) w := by
  refine run_neR ho hx hy (fun _ => by go_simp) (fun w => ?_) w
  have h := run_equalIn_list (P := Try.prog) 9998 .u64 26 25 [d.n % 4294967296, d.n / 4294967296 % 4294967296, d.n / 18446744073709551616 % 4294967296, d.n / 79228162514264337593543950336] [0, 0, 0, 0] rfl w (by kernel_rfl) (by kernel_rfl) (by kernel_rfl)
  have e : ([d.n % 4294967296, d.n / 4294967296 % 4294967296, d.n / 18446744073709551616 % 4294967296, d.n / 79228162514264337593543950336] == [(0 : Int), 0, 0, 0]) = !(decide (d.n ≠ 0)) := by
    have h0 := hd.pos
    by_cases k : d.n = 0
    · rw [k]; rfl
    · rw [decide_eq_true k, Bool.not_true]
      rw [beq_eq_false_iff_ne]
      intro hc
      simp only [List.cons.injEq, and_true] at hc
      have := of_digits d.n
      omega
  rw [← e]
  exact h
theorem eq_zero {o : Oper} {a : Act} {x y : Operand} (d : Nm) (hd : d.ok) (ho : o.op = .binOp .eql 26 x y 26)
    (hx : a.eval x = .agg #[.int .u64 (d.n % 4294967296), .int .u64 (d.n / 4294967296 % 4294967296), .int .u64 (d.n / 18446744073709551616 % 4294967296), .int .u64 (d.n / 79228162514264337593543950336)])
    (hy : a.eval y = .agg #[.int .u64 0, .int .u64 0, .int .u64 0, .int .u64 0]) (w : World) : (execOp a.eval o).run Try.prog w = .ok (.value (.bool (decide (d.n = 0)))) w := by
  refine run_eqR ho hx hy (fun _ => by go_simp) (fun w => ?_) w
  have h := run_equalIn_list (P := Try.prog) 9998 .u64 26 25 [d.n % 4294967296, d.n / 4294967296 % 4294967296, d.n / 18446744073709551616 % 4294967296, d.n / 79228162514264337593543950336] [0, 0, 0, 0] rfl w (by kernel_rfl) (by kernel_rfl) (by kernel_rfl)
  have e : ([d.n % 4294967296, d.n / 4294967296 % 4294967296, d.n / 18446744073709551616 % 4294967296, d.n / 79228162514264337593543950336] == [(0 : Int), 0, 0, 0]) = decide (d.n = 0) := by
    have h0 := hd.pos
    by_cases k : d.n = 0
    · rw [k]; rfl
    · rw [decide_eq_false k]
      rw [beq_eq_false_iff_ne]
      intro hc
      simp only [List.cons.injEq, and_true] at hc
      have := of_digits d.n
      omega
  rw [← e]
  exact h
set_option maxHeartbeats 2000000 in
theorem above_core (n b : Int) (p t m d : Nm) (hd : d.ok)
    (c1 : ∀ W, Calls Try.prog 27 #[.int .i64 n, .int .i64 b] W fun e w' => e = .returned (.agg t.cs) ∧ Below W.heap.size W w')
    (c2 : ∀ W, Calls Try.prog 16 #[.agg p.cs] W fun e w' => e = .returned (.agg m.cs) ∧ Below W.heap.size W w')
    (c3 : ∀ W, Calls Try.prog 15 #[.agg t.cs, .agg m.cs] W fun e w' => e = .returned (.agg d.cs) ∧ Below W.heap.size W w') (w : World) :
    Calls Try.prog 39 #[.int .i64 n, .int .i64 b, .agg p.cs] w fun e w' => e = .returned (.bool (decide (0 < d.s) && decide (d.n ≠ 0))) ∧ Below w.heap.size w w' := by
  refine calls_sx Try.func39 rfl ?_
  simp only [Try.ntmps39, List.size_toArray, List.length_cons, List.length_nil, Nat.reduceAdd, Nat.reduceSub, Array.replicate_succ, Array.replicate_zero, List.push_toArray, List.append_toArray, List.nil_append, List.cons_append]
  refine wc_seq ?_
  refine wc_region ?_
  refine wl_new 28 (p.cs) rfl (fun _ => by go_simp) ?_
  intro g1
  simp only [Act.put, List.setIfInBounds_toArray, List.set_cons_zero, List.set_cons_succ]
  refine wl_val (.bool false) rfl (fun _ => rfl) ?_
  simp only [Act.put, List.setIfInBounds_toArray, List.set_cons_zero, List.set_cons_succ]
  refine wl_nil ?_
  refine we_then ?_
  refine wc_seq ?_
  refine wc_draw [.late, .late, .plain, .plain, .plain, .plain, .make 28 (#[.int .i64 0, .int .u64 0, .int .u64 0, .int .u64 0, .int .u64 0]) 7 (d.cs), .put 6] none [(6, 7)] 23 (by kernel_rfl) rfl (by kernel_rfl) (by kernel_rfl) ?_
  refine ws_late (.int .i64 n) rfl rfl (fun _ => rfl) ?_
  simp only [Nat.reduceAdd, Act.put, List.setIfInBounds_toArray, List.set_cons_zero, List.set_cons_succ]
  refine ws_late (.int .i64 b) rfl rfl (fun _ => rfl) ?_
  simp only [Nat.reduceAdd, Act.put, List.setIfInBounds_toArray, List.set_cons_zero, List.set_cons_succ]
  refine ws_call 27 #[.int .i64 n, .int .i64 b] (.agg t.cs) rfl rfl (fun _ => by go_simp) c1 ?_
  simp only [Nat.reduceAdd, Act.put, List.setIfInBounds_toArray, List.set_cons_zero, List.set_cons_succ]
  refine ws_load 28 (.tmp 5) (own_row 0 rfl) rfl rfl rfl rfl Try.underlying28 rfl (by kernel_rfl) ?_
  simp only [Nat.reduceAdd, Act.put, List.setIfInBounds_toArray, List.set_cons_zero, List.set_cons_succ]
  refine ws_call 16 #[.agg p.cs] (.agg m.cs) rfl rfl (fun _ => by go_simp) c2 ?_
  simp only [Nat.reduceAdd, Act.put, List.setIfInBounds_toArray, List.set_cons_zero, List.set_cons_succ]
  refine ws_call 15 #[.agg t.cs, .agg m.cs] (.agg d.cs) rfl rfl (fun _ => by go_simp) c3 ?_
  simp only [Nat.reduceAdd, Act.put, List.setIfInBounds_toArray, List.set_cons_zero, List.set_cons_succ]
  refine ws_make 28 (#[.int .i64 0, .int .u64 0, .int .u64 0, .int .u64 0, .int .u64 0]) 7 (d.cs) rfl rfl rfl (zero_of_info (n := 5) (by kernel_rfl)).1 ?_
  simp only [Nat.reduceAdd, Act.put, List.setIfInBounds_toArray, List.set_cons_zero, List.set_cons_succ]
  refine ws_put 6 28 7 (.tmp 13) _ _ _ rfl rfl rfl rfl (by simp) rfl rfl rfl (by kernel_rfl) rfl (Nm.one d) ?_
  simp only [Nat.reduceAdd]
  refine ws_nil [(6, d.cs, 28)] ⟨⟨by decide, _, _, _, rfl, .inl ⟨by decide, rfl⟩⟩, trivial⟩ (by simp) ?_
  intro ps2
  simp only [fin, List.foldl_cons, List.foldl_nil, List.map, rowOf, List.cons_append, List.nil_append, Act.put, List.setIfInBounds_toArray, List.set_cons_zero, List.set_cons_succ]
  refine we_then ?_
  refine wc_seq ?_
  refine wc_region ?_
  refine wl_val (.pointer (some ⟨(ps2 6), 0, none⟩)) rfl (fun _ => by go_simp) ?_
  simp only [Act.put, List.setIfInBounds_toArray, List.set_cons_zero, List.set_cons_succ]
  refine wl_cell 3 (.tmp 14) (.int .i64 d.s) (own_row 0 rfl) rfl rfl rfl rfl Try.isAgg3 ?_
  simp only [Act.put, List.setIfInBounds_toArray, List.set_cons_zero, List.set_cons_succ]
  refine wl_val (.bool (decide (0 < d.s))) rfl (fun w => run_cmp rfl rfl rfl Try.underlying3 rfl w) ?_
  simp only [Act.put, List.setIfInBounds_toArray, List.set_cons_zero, List.set_cons_succ]
  refine wl_val (.bool (decide (0 < d.s))) rfl (fun _ => rfl) ?_
  simp only [Act.put, List.setIfInBounds_toArray, List.set_cons_zero, List.set_cons_succ]
  cases h3 : (decide (0 < d.s))
  · skip
    have p3 : ¬ (0 < d.s) := of_decide_eq_false h3
    refine wl_skip rfl ?_
    simp only [Act.put, List.setIfInBounds_toArray, List.set_cons_zero, List.set_cons_succ]
    refine wl_skip rfl ?_
    simp only [Act.put, List.setIfInBounds_toArray, List.set_cons_zero, List.set_cons_succ]
    refine wl_skip rfl ?_
    simp only [Act.put, List.setIfInBounds_toArray, List.set_cons_zero, List.set_cons_succ]
    refine wl_skip rfl ?_
    simp only [Act.put, List.setIfInBounds_toArray, List.set_cons_zero, List.set_cons_succ]
    refine wl_val (.bool false) rfl (fun _ => rfl) ?_
    simp only [Act.put, List.setIfInBounds_toArray, List.set_cons_zero, List.set_cons_succ]
    refine wl_val (.bool false) rfl (fun _ => rfl) ?_
    simp only [Act.put, List.setIfInBounds_toArray, List.set_cons_zero, List.set_cons_succ]
    refine wl_nil ?_
    refine we_then ?_
    refine wc_ret ?_
    refine we_ret1 (.bool false) rfl rfl rfl (fun w1 hE => ?_)
    exact ⟨by simp [*], hE.below⟩
  · skip
    have p3 : 0 < d.s := of_decide_eq_true h3
    refine wl_val (.pointer (some ⟨(ps2 6), 1, none⟩)) rfl (fun _ => by go_simp) ?_
    simp only [Act.put, List.setIfInBounds_toArray, List.set_cons_zero, List.set_cons_succ]
    refine wl_part 26 (.tmp 18) [.int .u64 (d.n % 4294967296), .int .u64 (d.n / 4294967296 % 4294967296), .int .u64 (d.n / 18446744073709551616 % 4294967296), .int .u64 (d.n / 79228162514264337593543950336)] (own_row 0 rfl) rfl rfl rfl rfl Try.underlying26 rfl (by kernel_rfl) ?_
    simp only [Act.put, List.setIfInBounds_toArray, List.set_cons_zero, List.set_cons_succ]
    refine wl_val (.agg #[.int .u64 0, .int .u64 0, .int .u64 0, .int .u64 0]) rfl (fun _ => by go_simp) ?_
    simp only [Act.put, List.setIfInBounds_toArray, List.set_cons_zero, List.set_cons_succ]
    refine wl_val (.bool (decide (d.n ≠ 0))) rfl (fun w => ne_zero d hd rfl rfl rfl w) ?_
    simp only [Act.put, List.setIfInBounds_toArray, List.set_cons_zero, List.set_cons_succ]
    refine wl_val (.bool (decide (d.n ≠ 0))) rfl (fun _ => rfl) ?_
    simp only [Act.put, List.setIfInBounds_toArray, List.set_cons_zero, List.set_cons_succ]
    refine wl_val (.bool (decide (d.n ≠ 0))) rfl (fun _ => rfl) ?_
    simp only [Act.put, List.setIfInBounds_toArray, List.set_cons_zero, List.set_cons_succ]
    refine wl_nil ?_
    refine we_then ?_
    refine wc_ret ?_
    refine we_ret1 (.bool (decide (d.n ≠ 0))) rfl rfl rfl (fun w1 hE => ?_)
    exact ⟨by simp [*], hE.below⟩
set_option maxHeartbeats 2000000 in
theorem above2_core (n b : Int) (p t f s m d : Nm) (hd : d.ok)
    (c1 : ∀ W, Calls Try.prog 27 #[.int .i64 n, .int .i64 b] W fun e w' => e = .returned (.agg t.cs) ∧ Below W.heap.size W w')
    (c2 : ∀ W, Calls Try.prog 9 #[.int .i64 b] W fun e w' => e = .returned (.agg f.cs) ∧ Below W.heap.size W w')
    (c3 : ∀ W, Calls Try.prog 15 #[.agg t.cs, .agg f.cs] W fun e w' => e = .returned (.agg s.cs) ∧ Below W.heap.size W w')
    (c4 : ∀ W, Calls Try.prog 16 #[.agg s.cs] W fun e w' => e = .returned (.agg m.cs) ∧ Below W.heap.size W w')
    (c5 : ∀ W, Calls Try.prog 15 #[.agg p.cs, .agg m.cs] W fun e w' => e = .returned (.agg d.cs) ∧ Below W.heap.size W w') (w : World) :
    Calls Try.prog 40 #[.int .i64 n, .int .i64 b, .agg p.cs] w fun e w' => e = .returned (.bool (decide (0 < d.s) || decide (d.n = 0))) ∧ Below w.heap.size w w' := by
  refine calls_sx Try.func40 rfl ?_
  simp only [Try.ntmps40, List.size_toArray, List.length_cons, List.length_nil, Nat.reduceAdd, Nat.reduceSub, Array.replicate_succ, Array.replicate_zero, List.push_toArray, List.append_toArray, List.nil_append, List.cons_append]
  refine wc_seq ?_
  refine wc_region ?_
  refine wl_new 28 (p.cs) rfl (fun _ => by go_simp) ?_
  intro g1
  simp only [Act.put, List.setIfInBounds_toArray, List.set_cons_zero, List.set_cons_succ]
  refine wl_val (.bool false) rfl (fun _ => rfl) ?_
  simp only [Act.put, List.setIfInBounds_toArray, List.set_cons_zero, List.set_cons_succ]
  refine wl_nil ?_
  refine we_then ?_
  refine wc_seq ?_
  refine wc_draw [.plain, .late, .late, .plain, .late, .plain, .plain, .plain, .plain, .make 28 (#[.int .i64 0, .int .u64 0, .int .u64 0, .int .u64 0, .int .u64 0]) 10 (d.cs), .put 9] none [(9, 7)] 26 (by kernel_rfl) rfl (by kernel_rfl) (by kernel_rfl) ?_
  refine ws_load 28 (.tmp 5) (own_row 0 rfl) rfl rfl rfl rfl Try.underlying28 rfl (by kernel_rfl) ?_
  simp only [Nat.reduceAdd, Act.put, List.setIfInBounds_toArray, List.set_cons_zero, List.set_cons_succ]
  refine ws_late (.int .i64 n) rfl rfl (fun _ => rfl) ?_
  simp only [Nat.reduceAdd, Act.put, List.setIfInBounds_toArray, List.set_cons_zero, List.set_cons_succ]
  refine ws_late (.int .i64 b) rfl rfl (fun _ => rfl) ?_
  simp only [Nat.reduceAdd, Act.put, List.setIfInBounds_toArray, List.set_cons_zero, List.set_cons_succ]
  refine ws_call 27 #[.int .i64 n, .int .i64 b] (.agg t.cs) rfl rfl (fun _ => by go_simp) c1 ?_
  simp only [Nat.reduceAdd, Act.put, List.setIfInBounds_toArray, List.set_cons_zero, List.set_cons_succ]
  refine ws_late (.int .i64 b) rfl rfl (fun _ => rfl) ?_
  simp only [Nat.reduceAdd, Act.put, List.setIfInBounds_toArray, List.set_cons_zero, List.set_cons_succ]
  refine ws_call 9 #[.int .i64 b] (.agg f.cs) rfl rfl (fun _ => by go_simp) c2 ?_
  simp only [Nat.reduceAdd, Act.put, List.setIfInBounds_toArray, List.set_cons_zero, List.set_cons_succ]
  refine ws_call 15 #[.agg t.cs, .agg f.cs] (.agg s.cs) rfl rfl (fun _ => by go_simp) c3 ?_
  simp only [Nat.reduceAdd, Act.put, List.setIfInBounds_toArray, List.set_cons_zero, List.set_cons_succ]
  refine ws_call 16 #[.agg s.cs] (.agg m.cs) rfl rfl (fun _ => by go_simp) c4 ?_
  simp only [Nat.reduceAdd, Act.put, List.setIfInBounds_toArray, List.set_cons_zero, List.set_cons_succ]
  refine ws_call 15 #[.agg p.cs, .agg m.cs] (.agg d.cs) rfl rfl (fun _ => by go_simp) c5 ?_
  simp only [Nat.reduceAdd, Act.put, List.setIfInBounds_toArray, List.set_cons_zero, List.set_cons_succ]
  refine ws_make 28 (#[.int .i64 0, .int .u64 0, .int .u64 0, .int .u64 0, .int .u64 0]) 10 (d.cs) rfl rfl rfl (zero_of_info (n := 5) (by kernel_rfl)).1 ?_
  simp only [Nat.reduceAdd, Act.put, List.setIfInBounds_toArray, List.set_cons_zero, List.set_cons_succ]
  refine ws_put 9 28 7 (.tmp 16) _ _ _ rfl rfl rfl rfl (by simp) rfl rfl rfl (by kernel_rfl) rfl (Nm.one d) ?_
  simp only [Nat.reduceAdd]
  refine ws_nil [(9, d.cs, 28)] ⟨⟨by decide, _, _, _, rfl, .inl ⟨by decide, rfl⟩⟩, trivial⟩ (by simp) ?_
  intro ps2
  simp only [fin, List.foldl_cons, List.foldl_nil, List.map, rowOf, List.cons_append, List.nil_append, Act.put, List.setIfInBounds_toArray, List.set_cons_zero, List.set_cons_succ]
  refine we_then ?_
  refine wc_seq ?_
  refine wc_region ?_
  refine wl_val (.pointer (some ⟨(ps2 9), 0, none⟩)) rfl (fun _ => by go_simp) ?_
  simp only [Act.put, List.setIfInBounds_toArray, List.set_cons_zero, List.set_cons_succ]
  refine wl_cell 3 (.tmp 17) (.int .i64 d.s) (own_row 0 rfl) rfl rfl rfl rfl Try.isAgg3 ?_
  simp only [Act.put, List.setIfInBounds_toArray, List.set_cons_zero, List.set_cons_succ]
  refine wl_val (.bool (decide (0 < d.s))) rfl (fun w => run_cmp rfl rfl rfl Try.underlying3 rfl w) ?_
  simp only [Act.put, List.setIfInBounds_toArray, List.set_cons_zero, List.set_cons_succ]
  refine wl_val (.bool (decide (0 < d.s))) rfl (fun _ => rfl) ?_
  simp only [Act.put, List.setIfInBounds_toArray, List.set_cons_zero, List.set_cons_succ]
  cases h3 : (decide (0 < d.s))
  · skip
    have p3 : ¬ (0 < d.s) := of_decide_eq_false h3
    refine wl_val (.pointer (some ⟨(ps2 9), 1, none⟩)) rfl (fun _ => by go_simp) ?_
    simp only [Act.put, List.setIfInBounds_toArray, List.set_cons_zero, List.set_cons_succ]
    refine wl_part 26 (.tmp 21) [.int .u64 (d.n % 4294967296), .int .u64 (d.n / 4294967296 % 4294967296), .int .u64 (d.n / 18446744073709551616 % 4294967296), .int .u64 (d.n / 79228162514264337593543950336)] (own_row 0 rfl) rfl rfl rfl rfl Try.underlying26 rfl (by kernel_rfl) ?_
    simp only [Act.put, List.setIfInBounds_toArray, List.set_cons_zero, List.set_cons_succ]
    refine wl_val (.agg #[.int .u64 0, .int .u64 0, .int .u64 0, .int .u64 0]) rfl (fun _ => by go_simp) ?_
    simp only [Act.put, List.setIfInBounds_toArray, List.set_cons_zero, List.set_cons_succ]
    refine wl_val (.bool (decide (d.n = 0))) rfl (fun w => eq_zero d hd rfl rfl rfl w) ?_
    simp only [Act.put, List.setIfInBounds_toArray, List.set_cons_zero, List.set_cons_succ]
    refine wl_val (.bool (decide (d.n = 0))) rfl (fun _ => rfl) ?_
    simp only [Act.put, List.setIfInBounds_toArray, List.set_cons_zero, List.set_cons_succ]
    refine wl_val (.bool (decide (d.n = 0))) rfl (fun _ => rfl) ?_
    simp only [Act.put, List.setIfInBounds_toArray, List.set_cons_zero, List.set_cons_succ]
    refine wl_nil ?_
    refine we_then ?_
    refine wc_ret ?_
    refine we_ret1 (.bool (decide (d.n = 0))) rfl rfl rfl (fun w1 hE => ?_)
    exact ⟨by simp [*], hE.below⟩
  · skip
    have p3 : 0 < d.s := of_decide_eq_true h3
    refine wl_skip rfl ?_
    simp only [Act.put, List.setIfInBounds_toArray, List.set_cons_zero, List.set_cons_succ]
    refine wl_skip rfl ?_
    simp only [Act.put, List.setIfInBounds_toArray, List.set_cons_zero, List.set_cons_succ]
    refine wl_skip rfl ?_
    simp only [Act.put, List.setIfInBounds_toArray, List.set_cons_zero, List.set_cons_succ]
    refine wl_skip rfl ?_
    simp only [Act.put, List.setIfInBounds_toArray, List.set_cons_zero, List.set_cons_succ]
    refine wl_val (.bool true) rfl (fun _ => rfl) ?_
    simp only [Act.put, List.setIfInBounds_toArray, List.set_cons_zero, List.set_cons_succ]
    refine wl_val (.bool true) rfl (fun _ => rfl) ?_
    simp only [Act.put, List.setIfInBounds_toArray, List.set_cons_zero, List.set_cons_succ]
    refine wl_nil ?_
    refine we_then ?_
    refine wc_ret ?_
    refine we_ret1 (.bool true) rfl rfl rfl (fun w1 hE => ?_)
    exact ⟨by simp [*], hE.below⟩
theorem above_any (n b : Int) (p : Nm) (w : World) (hn : Fits n) (hb : Fits b) (hp : p.ok) (hl : p.n ≤ 85070591730234615865843651857942052864) :
    Calls Try.prog 39 #[.int .i64 n, .int .i64 b, p.V] w fun e w' => e = .returned (.bool (decide (p.z < n * b))) ∧ Below w.heap.size w w' := by
  have k1 := nmul_ok n b
  have k2 := nneg_ok hp
  have k3 := nadd_ok k1 k2
  have l1 := nmul_le hn hb
  have e : decide (p.z < n * b) = (decide (0 < (nadd (nmul n b) (nneg p)).s) && decide ((nadd (nmul n b) (nneg p)).n ≠ 0)) := by
    rw [← Bool.decide_and, decide_eq_decide, ← nm_pos k3, nadd_z k1 k2, nmul_z, nneg_z]
    omega
  rw [e]
  exact above_core n b p _ _ _ k3 (fun W => times_nm n b W hn hb) (fun W => minor_nm p W hp) (fun W => sum_nm _ _ W k1 k2 (by unfold Nm.half; omega) (by unfold Nm.half; rw [nneg_n]; omega)) w
theorem above2_any (n b : Int) (p : Nm) (w : World) (hn : Fits n) (hb : Fits b) (hp : p.ok) (hl : p.n ≤ 85070591730234615865843651857942052864) :
    Calls Try.prog 40 #[.int .i64 n, .int .i64 b, p.V] w fun e w' => e = .returned (.bool (decide (n * b + b ≤ p.z))) ∧ Below w.heap.size w w' := by
  have k1 := nmul_ok n b
  have k2 := nof_ok b
  have k3 := nadd_ok k1 k2
  have k4 := nneg_ok k3
  have k5 := nadd_ok hp k4
  have l1 := nmul_le hn hb
  have l2 : (nof b).n ≤ 9223372036854775808 := abs_le hb
  have l3 := nadd_n k1 k2
  have e : decide (n * b + b ≤ p.z) = (decide (0 < (nadd p (nneg (nadd (nmul n b) (nof b)))).s) || decide ((nadd p (nneg (nadd (nmul n b) (nof b)))).n = 0)) := by
    rw [← Bool.decide_or, decide_eq_decide]
    have z1 := nadd_z hp k4
    have z2 := nadd_z k1 k2
    rw [nneg_z, z2, nmul_z, nof_z] at z1
    have h1 := nm_pos k5
    have h2 := nm_zero k5
    constructor
    · intro h
      by_cases h0 : (nadd p (nneg (nadd (nmul n b) (nof b)))).z = 0
      · exact .inr (h2.1 h0)
      · exact .inl (h1.1 (by omega)).1
    · rintro (h | h)
      · by_cases h0 : (nadd p (nneg (nadd (nmul n b) (nof b)))).n = 0
        · have := h2.2 h0; omega
        · have := h1.2 ⟨h, h0⟩; omega
      · have := h2.2 h; omega
  rw [e]
  exact above2_core n b p _ _ _ _ _ k5 (fun W => times_nm n b W hn hb) (fun W => of_nm b W hb) (fun W => sum_nm _ _ W k1 k2 (by unfold Nm.half; omega) (by unfold Nm.half; omega))
    (fun W => minor_nm _ W k3) (fun W => sum_nm _ _ W hp k4 (by unfold Nm.half; omega) (by unfold Nm.half; rw [nneg_n]; omega)) w
theorem half_any (a b : Int) (w : World) (ha : Fits a) (hb : Fits b) (h : a ≤ b) :
    Calls Try.prog 41 #[.int .i64 a, .int .i64 b] w fun e w' => e = .returned (.int .i64 ((b - a) / 2)) ∧ Below w.heap.size w w' := by
  have e := width_wrap ha hb h
  have h0 : 0 ≤ b - a := by omega
  have h1 : b - a ≤ 18446744073709551615 := by unfold Fits at ha hb; omega
  generalize b - a = d at *
  clear h ha hb
  go_enter Try.func41, Try.ntmps41
  go_wp2
  go_ret
  exact ⟨rfl, Below.refl _ _⟩
theorem eq_span {o : Oper} {a : Act} {x y : Operand} {p0 q0 : Int} {p1 q1 : Int} (ho : o.op = .binOp .eql 23 x y 23) (hx : a.eval x = .agg #[.int .i64 p0, .int .i64 p1])
    (hy : a.eval y = .agg #[.int .i64 q0, .int .i64 q1]) (w : World) : (execOp a.eval o).run Try.prog w = .ok (.value (.bool (p0 == q0 && p1 == q1))) w := by
  unfold execOp
  simp only [ho, hx, hy]
  by_cases h0 : p0 = q0 <;> by_cases h1 : p1 = q1 <;> simp [go_sem, *]
theorem ne_span {o : Oper} {a : Act} {x y : Operand} {p0 q0 : Int} {p1 q1 : Int} (ho : o.op = .binOp .neq 23 x y 23) (hx : a.eval x = .agg #[.int .i64 p0, .int .i64 p1])
    (hy : a.eval y = .agg #[.int .i64 q0, .int .i64 q1]) (w : World) : (execOp a.eval o).run Try.prog w = .ok (.value (.bool (!(p0 == q0 && p1 == q1)))) w := by
  unfold execOp
  simp only [ho, hx, hy]
  by_cases h0 : p0 = q0 <;> by_cases h1 : p1 = q1 <;> simp [go_sem, *]
set_option maxHeartbeats 2000000 in
theorem quotient_core (x y b q : Int) (p : Nm)
    (cT : ∀ W, Calls Try.prog 27 #[.int .i64 x, .int .i64 y] W fun e w' => e = .returned p.V ∧ Below W.heap.size W w')
    (cA : ∀ n, Fits n → ∀ W, Calls Try.prog 39 #[.int .i64 n, .int .i64 b, p.V] W fun e w' => e = .returned (.bool (decide (q < n))) ∧ Below W.heap.size W w')
    (cA2 : ∀ W, Calls Try.prog 40 #[.int .i64 9223372036854775807, .int .i64 b, p.V] W fun e w' => e = .returned (.bool (decide (9223372036854775807 + 1 ≤ q))) ∧ Below W.heap.size W w') (w : World) :
    Calls Try.prog 26 #[.int .i64 x, .int .i64 y, .int .i64 b] w fun e w' => e = .returned (.tuple #[.int .i64 (fitOr q), .bool (fitB q)]) ∧ Below w.heap.size w w' := by
  refine calls_sx Try.func26 rfl ?_
  simp only [Try.ntmps26, List.size_toArray, List.length_cons, List.length_nil, Nat.reduceAdd, Nat.reduceSub, Array.replicate_succ, Array.replicate_zero, List.push_toArray, List.append_toArray, List.nil_append, List.cons_append]
  refine wc_seq ?_
  refine wc_region ?_
  refine wl_val (.int .i64 0) rfl (fun _ => rfl) ?_
  simp only [Act.put, List.setIfInBounds_toArray, List.set_cons_zero, List.set_cons_succ]
  refine wl_val (.bool false) rfl (fun _ => rfl) ?_
  simp only [Act.put, List.setIfInBounds_toArray, List.set_cons_zero, List.set_cons_succ]
  refine wl_nil ?_
  refine we_then ?_
  refine wc_seq ?_
  refine wc_region ?_
  refine wl_val (.int .i64 x) rfl (fun _ => rfl) ?_
  simp only [Act.put, List.setIfInBounds_toArray, List.set_cons_zero, List.set_cons_succ]
  refine wl_val (.int .i64 y) rfl (fun _ => rfl) ?_
  simp only [Act.put, List.setIfInBounds_toArray, List.set_cons_zero, List.set_cons_succ]
  refine wl_call 27 #[.int .i64 x, .int .i64 y] (.agg p.cs) rfl (fun _ => by go_simp) cT ?_
  simp only [Act.put, List.setIfInBounds_toArray, List.set_cons_zero, List.set_cons_succ]
  refine wl_new 28 (#[.int .i64 0, .int .u64 0, .int .u64 0, .int .u64 0, .int .u64 0]) rfl (fun _ => by go_simp) ?_
  intro g1
  simp only [Act.put, List.setIfInBounds_toArray, List.set_cons_zero, List.set_cons_succ]
  refine wl_store 0 28 (.tmp 8) (.tmp 14) (p.cs) rfl rfl rfl rfl rfl (by kernel_rfl) rfl (Nm.one p) ?_
  simp only [Act.put, List.set_cons_zero]
  refine wl_nil ?_
  refine we_then ?_
  refine wc_seq ?_
  refine wc_region ?_
  refine wl_val (.int .i64 (-9223372036854775808)) rfl (fun _ => rfl) ?_
  simp only [Act.put, List.setIfInBounds_toArray, List.set_cons_zero, List.set_cons_succ]
  refine wl_nil ?_
  refine we_then ?_
  refine wc_seq ?_
  refine wc_region ?_
  refine wl_val (.int .i64 9223372036854775807) rfl (fun _ => rfl) ?_
  simp only [Act.put, List.setIfInBounds_toArray, List.set_cons_zero, List.set_cons_succ]
  refine wl_nil ?_
  refine we_then ?_
  refine wc_cut (fun (zz : Value × Value × Value × Value × Value × Value × Value × Value × Value × Value × Value × Value × Value × Value × Value × Value × Value × Value × Value) => match zz with | ⟨u6, u7, u15, u16, u17, u18, u19, u20, u21, u22, u23, u24, u25, u26, u27, u28, u29, u30, u31⟩ => ({ tmps := #[.int .i64 x, .int .i64 y, .int .i64 b, undef, undef, undef, u6, u7, .pointer (some ⟨g1, 0, none⟩), .int .i64 (-9223372036854775808), .int .i64 9223372036854775807, undef, .int .i64 x, .int .i64 y, .agg p.cs, u15, u16, u17, u18, u19, u20, u21, u22, u23, u24, u25, u26, u27, u28, u29, u30, u31, undef, undef, undef, undef, undef, undef, undef, undef, undef, undef, undef, undef, undef, undef, undef, undef], defers := [] } : Act)) (fun (zz : Value × Value × Value × Value × Value × Value × Value × Value × Value × Value × Value × Value × Value × Value × Value × Value × Value × Value × Value) => match zz with | ⟨u6, u7, u15, u16, u17, u18, u19, u20, u21, u22, u23, u24, u25, u26, u27, u28, u29, u30, u31⟩ => [⟨g1, p.cs, 28⟩]) (fun (zz : Value × Value × Value × Value × Value × Value × Value × Value × Value × Value × Value × Value × Value × Value × Value × Value × Value × Value × Value) => match zz with | ⟨u6, u7, u15, u16, u17, u18, u19, u20, u21, u22, u23, u24, u25, u26, u27, u28, u29, u30, u31⟩ => -9223372036854775808 ≤ q ∧ q ≤ 9223372036854775807) ?_ ?_
  · skip
    refine wc_seq ?_
    refine wc_region ?_
    refine wl_val (.int .i64 (-9223372036854775808)) rfl (fun _ => rfl) ?_
    simp only [Act.put, List.setIfInBounds_toArray, List.set_cons_zero, List.set_cons_succ]
    refine wl_val (.int .i64 b) rfl (fun _ => rfl) ?_
    simp only [Act.put, List.setIfInBounds_toArray, List.set_cons_zero, List.set_cons_succ]
    refine wl_load 28 (.tmp 8) (own_row 0 rfl) rfl rfl rfl Try.underlying28 rfl (by kernel_rfl) ?_
    simp only [Act.put, List.setIfInBounds_toArray, List.set_cons_zero, List.set_cons_succ]
    refine wl_call 39 #[.int .i64 (-9223372036854775808), .int .i64 b, .agg p.cs] (.bool (decide (q < -9223372036854775808))) rfl (fun _ => by go_simp) (cA (-9223372036854775808) (by unfold Fits; omega)) ?_
    simp only [Act.put, List.setIfInBounds_toArray, List.set_cons_zero, List.set_cons_succ]
    refine wl_val (.bool (decide (q < -9223372036854775808))) rfl (fun _ => rfl) ?_
    simp only [Act.put, List.setIfInBounds_toArray, List.set_cons_zero, List.set_cons_succ]
    cases h2 : (decide (q < -9223372036854775808))
    · skip
      have p2 : ¬ (q < -9223372036854775808) := of_decide_eq_false h2
      refine wl_val (.int .i64 9223372036854775807) rfl (fun _ => rfl) ?_
      simp only [Act.put, List.setIfInBounds_toArray, List.set_cons_zero, List.set_cons_succ]
      refine wl_val (.int .i64 b) rfl (fun _ => rfl) ?_
      simp only [Act.put, List.setIfInBounds_toArray, List.set_cons_zero, List.set_cons_succ]
      refine wl_load 28 (.tmp 8) (own_row 0 rfl) rfl rfl rfl Try.underlying28 rfl (by kernel_rfl) ?_
      simp only [Act.put, List.setIfInBounds_toArray, List.set_cons_zero, List.set_cons_succ]
      refine wl_call 39 #[.int .i64 9223372036854775807, .int .i64 b, .agg p.cs] (.bool (decide (q < 9223372036854775807))) rfl (fun _ => by go_simp) (cA 9223372036854775807 (by unfold Fits; omega)) ?_
      simp only [Act.put, List.setIfInBounds_toArray, List.set_cons_zero, List.set_cons_succ]
      refine wl_val (.bool (!(decide (q < 9223372036854775807)))) rfl (fun _ => by go_simp) ?_
      simp only [Act.put, List.setIfInBounds_toArray, List.set_cons_zero, List.set_cons_succ]
      refine wl_val (.bool (!(decide (q < 9223372036854775807)))) rfl (fun _ => rfl) ?_
      simp only [Act.put, List.setIfInBounds_toArray, List.set_cons_zero, List.set_cons_succ]
      cases h3 : (decide (q < 9223372036854775807))
      · skip
        have p3 : ¬ (q < 9223372036854775807) := of_decide_eq_false h3
        refine wl_val (.int .i64 9223372036854775807) rfl (fun _ => rfl) ?_
        simp only [Act.put, List.setIfInBounds_toArray, List.set_cons_zero, List.set_cons_succ]
        refine wl_val (.int .i64 b) rfl (fun _ => rfl) ?_
        simp only [Act.put, List.setIfInBounds_toArray, List.set_cons_zero, List.set_cons_succ]
        refine wl_load 28 (.tmp 8) (own_row 0 rfl) rfl rfl rfl Try.underlying28 rfl (by kernel_rfl) ?_
        simp only [Act.put, List.setIfInBounds_toArray, List.set_cons_zero, List.set_cons_succ]
        refine wl_call 40 #[.int .i64 9223372036854775807, .int .i64 b, .agg p.cs] (.bool (decide (9223372036854775807 + 1 ≤ q))) rfl (fun _ => by go_simp) cA2 ?_
        simp only [Act.put, List.setIfInBounds_toArray, List.set_cons_zero, List.set_cons_succ]
        refine wl_val (.bool (decide (9223372036854775807 + 1 ≤ q))) rfl (fun _ => rfl) ?_
        simp only [Act.put, List.setIfInBounds_toArray, List.set_cons_zero, List.set_cons_succ]
        refine wl_val (.bool (decide (9223372036854775807 + 1 ≤ q))) rfl (fun _ => rfl) ?_
        simp only [Act.put, List.setIfInBounds_toArray, List.set_cons_zero, List.set_cons_succ]
        refine wl_nil ?_
        refine we_then ?_
        cases h4 : (decide (9223372036854775807 + 1 ≤ q))
        · skip
          have p4 : ¬ (9223372036854775807 + 1 ≤ q) := of_decide_eq_false h4
          refine wc_false rfl ?_
          refine wc_skip ?_
          exact we_meet ⟨_, _, _, _, _, _, _, _, _, _, _, _, _, _, _, _, _, _, _⟩ (by (try dsimp only); omega) rfl (List.Sublist.cons_cons _ List.Sublist.slnil)
        · skip
          have p4 : 9223372036854775807 + 1 ≤ q := of_decide_eq_true h4
          refine wc_true rfl ?_
          refine wc_seq ?_
          refine wc_region ?_
          refine wl_val (.int .i64 0) rfl (fun _ => rfl) ?_
          simp only [Act.put, List.setIfInBounds_toArray, List.set_cons_zero, List.set_cons_succ]
          refine wl_val (.bool false) rfl (fun _ => rfl) ?_
          simp only [Act.put, List.setIfInBounds_toArray, List.set_cons_zero, List.set_cons_succ]
          refine wl_nil ?_
          refine we_then ?_
          refine wc_ret ?_
          refine we_then_ret ?_
          refine we_ret2 (.int .i64 0) (.bool false) rfl rfl rfl rfl (fun w1 hE => ?_)
          have hn : ¬ Fits q := by unfold Fits; omega
          exact ⟨by rw [fitOr, fitB, if_neg hn, decide_eq_false hn], hE.below⟩
      · skip
        have p3 : q < 9223372036854775807 := of_decide_eq_true h3
        refine wl_skip rfl ?_
        simp only [Act.put, List.setIfInBounds_toArray, List.set_cons_zero, List.set_cons_succ]
        refine wl_skip rfl ?_
        simp only [Act.put, List.setIfInBounds_toArray, List.set_cons_zero, List.set_cons_succ]
        refine wl_skip rfl ?_
        simp only [Act.put, List.setIfInBounds_toArray, List.set_cons_zero, List.set_cons_succ]
        refine wl_skip rfl ?_
        simp only [Act.put, List.setIfInBounds_toArray, List.set_cons_zero, List.set_cons_succ]
        refine wl_val (.bool false) rfl (fun _ => rfl) ?_
        simp only [Act.put, List.setIfInBounds_toArray, List.set_cons_zero, List.set_cons_succ]
        refine wl_val (.bool false) rfl (fun _ => rfl) ?_
        simp only [Act.put, List.setIfInBounds_toArray, List.set_cons_zero, List.set_cons_succ]
        refine wl_nil ?_
        refine we_then ?_
        refine wc_false rfl ?_
        refine wc_skip ?_
        exact we_meet ⟨_, _, _, _, _, _, _, _, _, _, _, _, _, _, _, _, _, _, _⟩ (by (try dsimp only); omega) rfl (List.Sublist.cons_cons _ List.Sublist.slnil)
    · skip
      have p2 : q < -9223372036854775808 := of_decide_eq_true h2
      refine wl_skip rfl ?_
      simp only [Act.put, List.setIfInBounds_toArray, List.set_cons_zero, List.set_cons_succ]
      refine wl_skip rfl ?_
      simp only [Act.put, List.setIfInBounds_toArray, List.set_cons_zero, List.set_cons_succ]
      refine wl_skip rfl ?_
      simp only [Act.put, List.setIfInBounds_toArray, List.set_cons_zero, List.set_cons_succ]
      refine wl_skip rfl ?_
      simp only [Act.put, List.setIfInBounds_toArray, List.set_cons_zero, List.set_cons_succ]
      refine wl_skip rfl ?_
      simp only [Act.put, List.setIfInBounds_toArray, List.set_cons_zero, List.set_cons_succ]
      refine wl_skip rfl ?_
      simp only [Act.put, List.setIfInBounds_toArray, List.set_cons_zero, List.set_cons_succ]
      refine wl_skip rfl ?_
      simp only [Act.put, List.setIfInBounds_toArray, List.set_cons_zero, List.set_cons_succ]
      refine wl_skip rfl ?_
      simp only [Act.put, List.setIfInBounds_toArray, List.set_cons_zero, List.set_cons_succ]
      refine wl_skip rfl ?_
      simp only [Act.put, List.setIfInBounds_toArray, List.set_cons_zero, List.set_cons_succ]
      refine wl_skip rfl ?_
      simp only [Act.put, List.setIfInBounds_toArray, List.set_cons_zero, List.set_cons_succ]
      refine wl_skip rfl ?_
      simp only [Act.put, List.setIfInBounds_toArray, List.set_cons_zero, List.set_cons_succ]
      refine wl_val (.bool true) rfl (fun _ => rfl) ?_
      simp only [Act.put, List.setIfInBounds_toArray, List.set_cons_zero, List.set_cons_succ]
      refine wl_nil ?_
      refine we_then ?_
      refine wc_true rfl ?_
      refine wc_seq ?_
      refine wc_region ?_
      refine wl_val (.int .i64 0) rfl (fun _ => rfl) ?_
      simp only [Act.put, List.setIfInBounds_toArray, List.set_cons_zero, List.set_cons_succ]
      refine wl_val (.bool false) rfl (fun _ => rfl) ?_
      simp only [Act.put, List.setIfInBounds_toArray, List.set_cons_zero, List.set_cons_succ]
      refine wl_nil ?_
      refine we_then ?_
      refine wc_ret ?_
      refine we_then_ret ?_
      refine we_ret2 (.int .i64 0) (.bool false) rfl rfl rfl rfl (fun w1 hE => ?_)
      have hn : ¬ Fits q := by unfold Fits; omega
      exact ⟨by rw [fitOr, fitB, if_neg hn, decide_eq_false hn], hE.below⟩
  · rintro ⟨u6, u7, u15, u16, u17, u18, u19, u20, u21, u22, u23, u24, u25, u26, u27, u28, u29, u30, u31⟩ hφ
    (try dsimp only at hφ ⊢)
    refine wc_seq ?_
    refine wc_block ?_
    refine wc_loop (fun (zz : Int × Int × Value × Value × Value × Value × Value × Value × Value × Value × Value × Value × Value × Value × Value × Value × Value × Value) => match zz with | ⟨lo, hi, u11, u32, u33, u34, u35, u36, u37, u38, u39, u40, u41, u42, u43, u44, u45, u46⟩ => ({ tmps := #[.int .i64 x, .int .i64 y, .int .i64 b, undef, undef, undef, u6, u7, .pointer (some ⟨g1, 0, none⟩), .int .i64 lo, .int .i64 hi, u11, .int .i64 x, .int .i64 y, .agg p.cs, u15, u16, u17, u18, u19, u20, u21, u22, u23, u24, u25, u26, u27, u28, u29, u30, u31, u32, u33, u34, u35, u36, u37, u38, u39, u40, u41, u42, u43, u44, u45, u46, undef], defers := [] } : Act)) (fun (zz : Int × Int × Value × Value × Value × Value × Value × Value × Value × Value × Value × Value × Value × Value × Value × Value × Value × Value) => match zz with | ⟨lo, hi, u11, u32, u33, u34, u35, u36, u37, u38, u39, u40, u41, u42, u43, u44, u45, u46⟩ => [⟨g1, p.cs, 28⟩]) (fun (zz : Int × Int × Value × Value × Value × Value × Value × Value × Value × Value × Value × Value × Value × Value × Value × Value × Value × Value) => match zz with | ⟨lo, hi, u11, u32, u33, u34, u35, u36, u37, u38, u39, u40, u41, u42, u43, u44, u45, u46⟩ => -9223372036854775808 ≤ lo ∧ lo ≤ q ∧ q ≤ hi ∧ hi ≤ 9223372036854775807) (fun (zz : Int × Int × Value × Value × Value × Value × Value × Value × Value × Value × Value × Value × Value × Value × Value × Value × Value × Value) => match zz with | ⟨lo, hi, u11, u32, u33, u34, u35, u36, u37, u38, u39, u40, u41, u42, u43, u44, u45, u46⟩ => (hi - lo).toNat) ⟨(-9223372036854775808), 9223372036854775807, _, _, _, _, _, _, _, _, _, _, _, _, _, _, _, _⟩ (by (try dsimp only); exact ⟨by omega, by omega, by omega, by omega⟩) rfl (List.Sublist.cons_cons _ List.Sublist.slnil) ?_
    rintro ⟨lo, hi, u11, u32, u33, u34, u35, u36, u37, u38, u39, u40, u41, u42, u43, u44, u45, u46⟩ hφ
    (try dsimp only at hφ ⊢)
    obtain ⟨b1, b2, b3, b4⟩ := hφ
    refine wc_seq ?_
    refine wc_seq ?_
    refine wc_region ?_
    refine wl_val (.int .i64 lo) rfl (fun _ => rfl) ?_
    simp only [Act.put, List.setIfInBounds_toArray, List.set_cons_zero, List.set_cons_succ]
    refine wl_val (.int .i64 hi) rfl (fun _ => rfl) ?_
    simp only [Act.put, List.setIfInBounds_toArray, List.set_cons_zero, List.set_cons_succ]
    refine wl_val (.bool (decide (lo < hi))) rfl (fun w => run_cmp rfl rfl rfl Try.underlying2 rfl w) ?_
    simp only [Act.put, List.setIfInBounds_toArray, List.set_cons_zero, List.set_cons_succ]
    refine wl_nil ?_
    refine we_then ?_
    cases h5 : (decide (lo < hi))
    · skip
      have p5 : ¬ (lo < hi) := of_decide_eq_false h5
      refine wc_false rfl ?_
      refine wc_exit ?_
      refine we_then_exit ?_
      refine we_then_exit ?_
      refine we_in_here ?_
      refine we_then ?_
      refine wc_seq ?_
      refine wc_region ?_
      refine wl_val (.int .i64 lo) rfl (fun _ => rfl) ?_
      simp only [Act.put, List.setIfInBounds_toArray, List.set_cons_zero, List.set_cons_succ]
      refine wl_val (.int .i64 lo) rfl (fun _ => rfl) ?_
      simp only [Act.put, List.setIfInBounds_toArray, List.set_cons_zero, List.set_cons_succ]
      refine wl_val (.bool true) rfl (fun _ => rfl) ?_
      simp only [Act.put, List.setIfInBounds_toArray, List.set_cons_zero, List.set_cons_succ]
      refine wl_nil ?_
      refine we_then ?_
      refine wc_ret ?_
      refine we_ret2 (.int .i64 lo) (.bool true) rfl rfl rfl rfl (fun w1 hE => ?_)
      have hf : Fits q := by unfold Fits; omega
      exact ⟨by rw [fitOr, fitB, if_pos hf, decide_eq_true hf, show q = lo by omega], hE.below⟩
    · skip
      have p5 : lo < hi := of_decide_eq_true h5
      refine wc_true rfl ?_
      refine wc_skip ?_
      refine we_then ?_
      refine wc_block ?_
      refine wc_seq ?_
      refine wc_region ?_
      refine wl_val (.int .i64 hi) rfl (fun _ => rfl) ?_
      simp only [Act.put, List.setIfInBounds_toArray, List.set_cons_zero, List.set_cons_succ]
      refine wl_val (.int .i64 lo) rfl (fun _ => rfl) ?_
      simp only [Act.put, List.setIfInBounds_toArray, List.set_cons_zero, List.set_cons_succ]
      refine wl_val (.int .i64 hi) rfl (fun _ => rfl) ?_
      simp only [Act.put, List.setIfInBounds_toArray, List.set_cons_zero, List.set_cons_succ]
      refine wl_call 41 #[.int .i64 lo, .int .i64 hi] (.int .i64 ((hi - lo) / 2)) rfl (fun _ => by go_simp) (fun W => half_any lo hi W (by unfold Fits; omega) (by unfold Fits; omega) (by omega)) ?_
      simp only [Act.put, List.setIfInBounds_toArray, List.set_cons_zero, List.set_cons_succ]
      refine wl_val (.int .i64 (hi - ((hi - lo) / 2))) rfl (fun w => run_arith (op := .sub) rfl rfl rfl Try.underlying2 (congrArg some (i64_in (by omega) (by omega))) w) ?_
      simp only [Act.put, List.setIfInBounds_toArray, List.set_cons_zero, List.set_cons_succ]
      refine wl_val (.int .i64 (hi - ((hi - lo) / 2))) rfl (fun _ => rfl) ?_
      simp only [Act.put, List.setIfInBounds_toArray, List.set_cons_zero, List.set_cons_succ]
      refine wl_nil ?_
      refine we_then ?_
      refine wc_seq ?_
      refine wc_region ?_
      refine wl_val (.int .i64 (hi - ((hi - lo) / 2))) rfl (fun _ => rfl) ?_
      simp only [Act.put, List.setIfInBounds_toArray, List.set_cons_zero, List.set_cons_succ]
      refine wl_val (.int .i64 b) rfl (fun _ => rfl) ?_
      simp only [Act.put, List.setIfInBounds_toArray, List.set_cons_zero, List.set_cons_succ]
      refine wl_load 28 (.tmp 8) (own_row 0 rfl) rfl rfl rfl Try.underlying28 rfl (by kernel_rfl) ?_
      simp only [Act.put, List.setIfInBounds_toArray, List.set_cons_zero, List.set_cons_succ]
      refine wl_call 39 #[.int .i64 (hi - ((hi - lo) / 2)), .int .i64 b, .agg p.cs] (.bool (decide (q < (hi - ((hi - lo) / 2))))) rfl (fun _ => by go_simp) (cA (hi - ((hi - lo) / 2)) (by unfold Fits; omega)) ?_
      simp only [Act.put, List.setIfInBounds_toArray, List.set_cons_zero, List.set_cons_succ]
      refine wl_nil ?_
      refine we_then ?_
      cases h6 : (decide (q < (hi - ((hi - lo) / 2))))
      · skip
        have p6 : ¬ (q < (hi - ((hi - lo) / 2))) := of_decide_eq_false h6
        refine wc_false rfl ?_
        refine wc_region ?_
        refine wl_val (.int .i64 (hi - ((hi - lo) / 2))) rfl (fun _ => rfl) ?_
        simp only [Act.put, List.setIfInBounds_toArray, List.set_cons_zero, List.set_cons_succ]
        refine wl_val (.int .i64 (hi - ((hi - lo) / 2))) rfl (fun _ => rfl) ?_
        simp only [Act.put, List.setIfInBounds_toArray, List.set_cons_zero, List.set_cons_succ]
        refine wl_nil ?_
        refine we_in ?_
        exact we_meet ⟨(hi - ((hi - lo) / 2)), hi, _, _, _, _, _, _, _, _, _, _, _, _, _, _, _, _⟩ (by (try dsimp only); exact ⟨⟨by omega, by omega, by omega, by omega⟩, by omega⟩) rfl (List.Sublist.cons_cons _ List.Sublist.slnil)
      · skip
        have p6 : q < (hi - ((hi - lo) / 2)) := of_decide_eq_true h6
        refine wc_true rfl ?_
        refine wc_region ?_
        refine wl_val (.int .i64 (hi - ((hi - lo) / 2))) rfl (fun _ => rfl) ?_
        simp only [Act.put, List.setIfInBounds_toArray, List.set_cons_zero, List.set_cons_succ]
        refine wl_val (.int .i64 ((hi - ((hi - lo) / 2)) - 1)) rfl (fun w => run_arith (op := .sub) rfl rfl rfl Try.underlying2 (congrArg some (i64_in (by omega) (by omega))) w) ?_
        simp only [Act.put, List.setIfInBounds_toArray, List.set_cons_zero, List.set_cons_succ]
        refine wl_val (.int .i64 ((hi - ((hi - lo) / 2)) - 1)) rfl (fun _ => rfl) ?_
        simp only [Act.put, List.setIfInBounds_toArray, List.set_cons_zero, List.set_cons_succ]
        refine wl_nil ?_
        refine we_in ?_
        exact we_meet ⟨lo, ((hi - ((hi - lo) / 2)) - 1), _, _, _, _, _, _, _, _, _, _, _, _, _, _, _, _⟩ (by (try dsimp only); exact ⟨⟨by omega, by omega, by omega, by omega⟩, by omega⟩) rfl (List.Sublist.cons_cons _ List.Sublist.slnil)
theorem quotient_any (x y b : Int) (w : World) (hx : Fits x) (hy : Fits y) (hb : Fits b) (h0 : 0 < b) :
    Calls Try.prog 26 #[.int .i64 x, .int .i64 y, .int .i64 b] w fun e w' => e = .returned (.tuple #[.int .i64 (fitOr (x * y / b)), .bool (fitB (x * y / b))]) ∧ Below w.heap.size w w' := by
  refine quotient_core x y b (x * y / b) (nmul x y) (fun W => times_nm x y W hx hy) (fun n hn W => ?_) (fun W => ?_) w
  · have h := above_any n b (nmul x y) W hn hb (nmul_ok x y) (nmul_le hx hy)
    rw [nmul_z] at h
    have e : decide (x * y < n * b) = decide (x * y / b < n) := by rw [decide_eq_decide]; exact (Int.ediv_lt_iff_lt_mul h0).symm
    rw [e] at h
    exact h
  · have h := above2_any 9223372036854775807 b (nmul x y) W (by unfold Fits; omega) hb (nmul_ok x y) (nmul_le hx hy)
    rw [nmul_z] at h
    have e : decide (9223372036854775807 * b + b ≤ x * y) = decide (9223372036854775807 + 1 ≤ x * y / b) := by
      rw [decide_eq_decide, Int.le_ediv_iff_mul_le h0]
      omega
    rw [e] at h
    exact h
end Go.Proofs.Ytmbmjdlcpjmnoaa.SpanRef
