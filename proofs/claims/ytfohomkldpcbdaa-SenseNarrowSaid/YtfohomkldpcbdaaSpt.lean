/-
 Package span's Times, for any spans and numbers. Conditions: integers of 64 bits.
-/
import Derived.Test.YtfohomkldpcbdaaSpo
import Derived.Test.YtfohomkldpcbdaaRatio
import Derived.Test.YtfohomkldpcbdaaSk
namespace Go.Proofs.Ytfohomkldpcbdaa.Spt
open Go.ChangeShapes Go.WideShapes Go.ChangeAt Go.RowKit
open Arr Steady Sx Sw Sl Sb Num Spo Sc Sk
set_option linter.unusedVariables false
set_option linter.unusedSimpArgs false
set_option maxRecDepth 100000

/-- What is told of two ends with their errors. -/
def tv (x y v : Int) : Int := if x = 0 ∧ y = 0 then v else 0
def te (x y : Int) : Int := if x = 0 then y else x
set_option maxHeartbeats 2000000 in
theorem times_no (a b k n : Int) (w : World) (h : ¬ a ≤ b ∨ n < 1) :
  Calls Try.prog 23 #[.agg #[.int .i64 a, .int .i64 b], .int .i64 k, .int .i64 n] w fun e w' => e = .returned (.tuple #[.agg #[.int .i64 (0), .int .i64 (0)], .int .i64 (10)]) ∧ Below w.heap.size w w' := by
 refine calls_sx Try.func23 rfl ?_
 simp only [Try.ntmps23, List.size_toArray, List.length_cons, List.length_nil, Nat.reduceAdd, Nat.reduceSub, Array.replicate_succ, Array.replicate_zero, List.push_toArray, List.append_toArray, List.nil_append, List.cons_append]
 refine wc_seq ?_
 refine wc_region ?_
 refine wl_new 23 (#[.int .i64 a, .int .i64 b]) rfl (fun _ => by go_simp) ?_
 intro g1
 simp only [Act.put, Xa, Xz, Xs]
 refine wl_new 23 (#[.int .i64 0, .int .i64 0]) rfl (fun _ => by go_simp) ?_
 intro g2
 simp only [Act.put, Xa, Xz, Xs]
 refine wl_val (.int .i64 0) rfl (fun _ => rfl) ?_
 simp only [Act.put, Xa, Xz, Xs]
 refine wl_nil ?_
 refine we_then ?_
 refine wc_seq ?_
 refine wc_seq ?_
 refine wc_region ?_
 refine wl_load 23 (.tmp 3) (own_row 1 rfl) rfl rfl rfl Try.underlying23 rfl (by kernel_rfl) ?_
 simp only [Act.put, Xa, Xz, Xs]
 refine wl_call 36 #[.agg #[.int .i64 a, .int .i64 b]] (.bool (decide (a ≤ b))) rfl (fun _ => by go_simp) (fun W => Spo.right_any a b W) ?_
 simp only [Act.put, Xa, Xz, Xs]
 refine wl_val (.bool (!(decide (a ≤ b)))) rfl (fun _ => by go_simp) ?_
 simp only [Act.put, Xa, Xz, Xs]
 refine wl_val (.bool (!(decide (a ≤ b)))) rfl (fun _ => rfl) ?_
 simp only [Act.put, Xa, Xz, Xs]
 cases h3 : (decide (a ≤ b))
 ·
  skip
  have p3 : ¬ (a ≤ b) := of_decide_eq_false h3
  refine wl_skip rfl ?_
  simp only [Act.put, Xa, Xz, Xs]
  refine wl_skip rfl ?_
  simp only [Act.put, Xa, Xz, Xs]
  refine wl_val (.bool true) rfl (fun _ => rfl) ?_
  simp only [Act.put, Xa, Xz, Xs]
  refine wl_nil ?_
  refine we_then ?_
  refine wc_true rfl ?_
  refine wc_seq ?_
  refine wc_region ?_
  refine wl_val (.agg #[.int .i64 0, .int .i64 0]) rfl (fun _ => by go_simp) ?_
  simp only [Act.put, Xa, Xz, Xs]
  refine wl_store 0 23 (.tmp 6) (.tmp 18) (#[.int .i64 0, .int .i64 0]) rfl rfl rfl rfl rfl (by kernel_rfl) rfl (by simp [Value.oneCell']) ?_
  simp only [Act.put, List.set_cons_zero]
  refine wl_val (.int .i64 10) rfl (fun _ => rfl) ?_
  simp only [Act.put, Xa, Xz, Xs]
  refine wl_nil ?_
  refine we_then ?_
  refine wc_ret ?_
  refine we_then_ret ?_
  refine we_ret_cell_tmp (.int .i64 10) (own_row 0 rfl) rfl rfl rfl rfl Try.underlying23 rfl (by kernel_rfl) (fun w1 hE => ?_)
  exact ⟨rfl, hE.below⟩
 ·
  skip
  have p3 : a ≤ b := of_decide_eq_true h3
  refine wl_val (.int .i64 n) rfl (fun _ => rfl) ?_
  simp only [Act.put, Xa, Xz, Xs]
  refine wl_val (.bool (decide (n < 1))) rfl (fun w => run_cmp rfl rfl rfl Try.underlying2 rfl w) ?_
  simp only [Act.put, Xa, Xz, Xs]
  refine wl_val (.bool (decide (n < 1))) rfl (fun _ => rfl) ?_
  simp only [Act.put, Xa, Xz, Xs]
  refine wl_nil ?_
  refine we_then ?_
  cases h4 : (decide (n < 1))
  ·
   skip
   have p4 : ¬ (n < 1) := of_decide_eq_false h4
   exact (by exfalso; omega)
  ·
   skip
   have p4 : n < 1 := of_decide_eq_true h4
   refine wc_true rfl ?_
   refine wc_seq ?_
   refine wc_region ?_
   refine wl_val (.agg #[.int .i64 0, .int .i64 0]) rfl (fun _ => by go_simp) ?_
   simp only [Act.put, Xa, Xz, Xs]
   refine wl_store 0 23 (.tmp 6) (.tmp 18) (#[.int .i64 0, .int .i64 0]) rfl rfl rfl rfl rfl (by kernel_rfl) rfl (by simp [Value.oneCell']) ?_
   simp only [Act.put, List.set_cons_zero]
   refine wl_val (.int .i64 10) rfl (fun _ => rfl) ?_
   simp only [Act.put, Xa, Xz, Xs]
   refine wl_nil ?_
   refine we_then ?_
   refine wc_ret ?_
   refine we_then_ret ?_
   refine we_ret_cell_tmp (.int .i64 10) (own_row 0 rfl) rfl rfl rfl rfl Try.underlying23 rfl (by kernel_rfl) (fun w1 hE => ?_)
   exact ⟨rfl, hE.below⟩
set_option maxHeartbeats 2000000 in
theorem times_core (a b k n V1 E1 V2 E2 : Int) (w : World) (h1 : a ≤ b) (h2 : 1 ≤ n)
  (c : k < 0 → ∀ W, Calls Try.prog 37 #[.int .i64 k, .int .i64 b, .int .i64 n] W fun e w' => e = .returned (.tuple #[.int .i64 V1, .int .i64 E1]) ∧ Below W.heap.size W w')
  (c' : ¬ k < 0 → ∀ W, Calls Try.prog 37 #[.int .i64 k, .int .i64 a, .int .i64 n] W fun e w' => e = .returned (.tuple #[.int .i64 V1, .int .i64 E1]) ∧ Below W.heap.size W w')
  (d : k < 0 → ∀ W, Calls Try.prog 38 #[.int .i64 k, .int .i64 a, .int .i64 n] W fun e w' => e = .returned (.tuple #[.int .i64 V2, .int .i64 E2]) ∧ Below W.heap.size W w')
  (d' : ¬ k < 0 → ∀ W, Calls Try.prog 38 #[.int .i64 k, .int .i64 b, .int .i64 n] W fun e w' => e = .returned (.tuple #[.int .i64 V2, .int .i64 E2]) ∧ Below W.heap.size W w') :
  Calls Try.prog 23 #[.agg #[.int .i64 a, .int .i64 b], .int .i64 k, .int .i64 n] w fun e w' => e = .returned (.tuple #[.agg #[.int .i64 (tv E1 E2 V1), .int .i64 (tv E1 E2 V2)], .int .i64 (te E1 E2)]) ∧ Below w.heap.size w w' := by
 refine calls_sx Try.func23 rfl ?_
 simp only [Try.ntmps23, List.size_toArray, List.length_cons, List.length_nil, Nat.reduceAdd, Nat.reduceSub, Array.replicate_succ, Array.replicate_zero, List.push_toArray, List.append_toArray, List.nil_append, List.cons_append]
 refine wc_seq ?_
 refine wc_region ?_
 refine wl_new 23 (#[.int .i64 a, .int .i64 b]) rfl (fun _ => by go_simp) ?_
 intro g1
 simp only [Act.put, Xa, Xz, Xs]
 refine wl_new 23 (#[.int .i64 0, .int .i64 0]) rfl (fun _ => by go_simp) ?_
 intro g2
 simp only [Act.put, Xa, Xz, Xs]
 refine wl_val (.int .i64 0) rfl (fun _ => rfl) ?_
 simp only [Act.put, Xa, Xz, Xs]
 refine wl_nil ?_
 refine we_then ?_
 refine wc_seq ?_
 refine wc_seq ?_
 refine wc_region ?_
 refine wl_load 23 (.tmp 3) (own_row 1 rfl) rfl rfl rfl Try.underlying23 rfl (by kernel_rfl) ?_
 simp only [Act.put, Xa, Xz, Xs]
 refine wl_call 36 #[.agg #[.int .i64 a, .int .i64 b]] (.bool (decide (a ≤ b))) rfl (fun _ => by go_simp) (fun W => Spo.right_any a b W) ?_
 simp only [Act.put, Xa, Xz, Xs]
 refine wl_val (.bool (!(decide (a ≤ b)))) rfl (fun _ => by go_simp) ?_
 simp only [Act.put, Xa, Xz, Xs]
 refine wl_val (.bool (!(decide (a ≤ b)))) rfl (fun _ => rfl) ?_
 simp only [Act.put, Xa, Xz, Xs]
 cases h3 : (decide (a ≤ b))
 ·
  skip
  have p3 : ¬ (a ≤ b) := of_decide_eq_false h3
  exact (by exfalso; omega)
 ·
  skip
  have p3 : a ≤ b := of_decide_eq_true h3
  refine wl_val (.int .i64 n) rfl (fun _ => rfl) ?_
  simp only [Act.put, Xa, Xz, Xs]
  refine wl_val (.bool (decide (n < 1))) rfl (fun w => run_cmp rfl rfl rfl Try.underlying2 rfl w) ?_
  simp only [Act.put, Xa, Xz, Xs]
  refine wl_val (.bool (decide (n < 1))) rfl (fun _ => rfl) ?_
  simp only [Act.put, Xa, Xz, Xs]
  refine wl_nil ?_
  refine we_then ?_
  cases h4 : (decide (n < 1))
  ·
   skip
   have p4 : ¬ (n < 1) := of_decide_eq_false h4
   refine wc_false rfl ?_
   refine wc_skip ?_
   refine we_then ?_
   refine wc_seq ?_
   refine wc_seq ?_
   refine wc_region ?_
   refine wl_val (.int .i64 k) rfl (fun _ => rfl) ?_
   simp only [Act.put, Xa, Xz, Xs]
   refine wl_val (.bool (decide (k < 0))) rfl (fun w => run_cmp rfl rfl rfl Try.underlying2 rfl w) ?_
   simp only [Act.put, Xa, Xz, Xs]
   refine wl_nil ?_
   refine we_then ?_
   cases h5 : (decide (k < 0))
   ·
    skip
    have p5 : ¬ (k < 0) := of_decide_eq_false h5
    refine wc_false rfl ?_
    refine wc_skip ?_
    refine we_then ?_
    refine wc_seq ?_
    refine wc_region ?_
    refine wl_val (.int .i64 k) rfl (fun _ => rfl) ?_
    simp only [Act.put, Xa, Xz, Xs]
    refine wl_val (.pointer (some ⟨g1, 0, none⟩)) rfl (fun _ => by go_simp) ?_
    simp only [Act.put, Xa, Xz, Xs]
    refine wl_cell 2 (.tmp 28) (.int .i64 a) (own_row 1 rfl) rfl rfl rfl rfl Try.isAgg2 ?_
    simp only [Act.put, Xa, Xz, Xs]
    refine wl_val (.int .i64 n) rfl (fun _ => rfl) ?_
    simp only [Act.put, Xa, Xz, Xs]
    refine wl_call 37 #[.int .i64 k, .int .i64 a, .int .i64 n] (.tuple #[.int .i64 V1, .int .i64 E1]) rfl (fun _ => by go_simp) (fun W => c' (by omega) W) ?_
    simp only [Act.put, Xa, Xz, Xs]
    refine wl_val (.tuple #[.int .i64 V1, .int .i64 E1]) rfl (fun _ => rfl) ?_
    simp only [Act.put, Xa, Xz, Xs]
    refine wl_val (.int .i64 V1) rfl (fun _ => by go_simp) ?_
    simp only [Act.put, Xa, Xz, Xs]
    refine wl_val (.int .i64 E1) rfl (fun _ => by go_simp) ?_
    simp only [Act.put, Xa, Xz, Xs]
    refine wl_val (.int .i64 V1) rfl (fun _ => rfl) ?_
    simp only [Act.put, Xa, Xz, Xs]
    refine wl_val (.int .i64 E1) rfl (fun _ => rfl) ?_
    simp only [Act.put, Xa, Xz, Xs]
    refine wl_nil ?_
    refine we_then ?_
    refine wc_seq ?_
    refine wc_seq ?_
    refine wc_region ?_
    refine wl_val (.int .i64 E1) rfl (fun _ => rfl) ?_
    simp only [Act.put, Xa, Xz, Xs]
    refine wl_val (.bool (E1 != 0)) rfl (fun w => run_cmp rfl rfl rfl Try.underlying25 rfl w) ?_
    simp only [Act.put, Xa, Xz, Xs]
    refine wl_nil ?_
    refine we_then ?_
    cases h6 : (E1 != 0)
    ·
     skip
     have p6 : ¬ (E1 ≠ 0) := by first | (simp; done) | (simp at h6; done) | simpa using h6
     refine wc_false rfl ?_
     refine wc_skip ?_
     refine we_then ?_
     refine wc_seq ?_
     refine wc_region ?_
     refine wl_val (.int .i64 k) rfl (fun _ => rfl) ?_
     simp only [Act.put, Xa, Xz, Xs]
     refine wl_val (.pointer (some ⟨g1, 1, none⟩)) rfl (fun _ => by go_simp) ?_
     simp only [Act.put, Xa, Xz, Xs]
     refine wl_cell 2 (.tmp 40) (.int .i64 b) (own_row 1 rfl) rfl rfl rfl rfl Try.isAgg2 ?_
     simp only [Act.put, Xa, Xz, Xs]
     refine wl_val (.int .i64 n) rfl (fun _ => rfl) ?_
     simp only [Act.put, Xa, Xz, Xs]
     refine wl_call 38 #[.int .i64 k, .int .i64 b, .int .i64 n] (.tuple #[.int .i64 V2, .int .i64 E2]) rfl (fun _ => by go_simp) (fun W => d' (by omega) W) ?_
     simp only [Act.put, Xa, Xz, Xs]
     refine wl_val (.tuple #[.int .i64 V2, .int .i64 E2]) rfl (fun _ => rfl) ?_
     simp only [Act.put, Xa, Xz, Xs]
     refine wl_val (.int .i64 V2) rfl (fun _ => by go_simp) ?_
     simp only [Act.put, Xa, Xz, Xs]
     refine wl_val (.int .i64 E2) rfl (fun _ => by go_simp) ?_
     simp only [Act.put, Xa, Xz, Xs]
     refine wl_val (.int .i64 V2) rfl (fun _ => rfl) ?_
     simp only [Act.put, Xa, Xz, Xs]
     refine wl_val (.int .i64 E2) rfl (fun _ => rfl) ?_
     simp only [Act.put, Xa, Xz, Xs]
     refine wl_nil ?_
     refine we_then ?_
     refine wc_seq ?_
     refine wc_seq ?_
     refine wc_region ?_
     refine wl_val (.int .i64 E2) rfl (fun _ => rfl) ?_
     simp only [Act.put, Xa, Xz, Xs]
     refine wl_val (.bool (E2 != 0)) rfl (fun w => run_cmp rfl rfl rfl Try.underlying25 rfl w) ?_
     simp only [Act.put, Xa, Xz, Xs]
     refine wl_nil ?_
     refine we_then ?_
     cases h7 : (E2 != 0)
     ·
      skip
      have p7 : ¬ (E2 ≠ 0) := by first | (simp; done) | (simp at h7; done) | simpa using h7
      refine wc_false rfl ?_
      refine wc_skip ?_
      refine we_then ?_
      refine wc_seq ?_
      refine wc_region ?_
      refine wl_val (.int .i64 V1) rfl (fun _ => rfl) ?_
      simp only [Act.put, Xa, Xz, Xs]
      refine wl_val (.int .i64 V2) rfl (fun _ => rfl) ?_
      simp only [Act.put, Xa, Xz, Xs]
      refine wl_val (.agg #[.int .i64 V1, .int .i64 V2]) rfl (fun _ => by go_simp) ?_
      simp only [Act.put, Xa, Xz, Xs]
      refine wl_store 0 23 (.tmp 6) (.tmp 52) (#[.int .i64 V1, .int .i64 V2]) rfl rfl rfl rfl rfl (by kernel_rfl) rfl (by simp [Value.oneCell']) ?_
      simp only [Act.put, List.set_cons_zero]
      refine wl_val (.int .i64 0) rfl (fun _ => rfl) ?_
      simp only [Act.put, Xa, Xz, Xs]
      refine wl_nil ?_
      refine we_then ?_
      refine wc_ret ?_
      refine we_ret_cell_tmp (.int .i64 0) (own_row 0 rfl) rfl rfl rfl rfl Try.underlying23 rfl (by kernel_rfl) (fun w1 hE => ?_)
      exact ⟨by rw [show tv E1 E2 V1 = V1 from by unfold tv; split <;> simp_all, show tv E1 E2 V2 = V2 from by unfold tv; split <;> simp_all, show te E1 E2 = 0 from by unfold te; split <;> simp_all], hE.below⟩
     ·
      skip
      have p7 : E2 ≠ 0 := by first | (simp; done) | (simp at h7; done) | simpa using h7
      refine wc_true rfl ?_
      refine wc_seq ?_
      refine wc_region ?_
      refine wl_val (.agg #[.int .i64 0, .int .i64 0]) rfl (fun _ => by go_simp) ?_
      simp only [Act.put, Xa, Xz, Xs]
      refine wl_val (.int .i64 E2) rfl (fun _ => rfl) ?_
      simp only [Act.put, Xa, Xz, Xs]
      refine wl_store 0 23 (.tmp 6) (.tmp 48) (#[.int .i64 0, .int .i64 0]) rfl rfl rfl rfl rfl (by kernel_rfl) rfl (by simp [Value.oneCell']) ?_
      simp only [Act.put, List.set_cons_zero]
      refine wl_val (.int .i64 E2) rfl (fun _ => rfl) ?_
      simp only [Act.put, Xa, Xz, Xs]
      refine wl_nil ?_
      refine we_then ?_
      refine wc_ret ?_
      refine we_then_ret ?_
      refine we_ret_cell_tmp (.int .i64 E2) (own_row 0 rfl) rfl rfl rfl rfl Try.underlying23 rfl (by kernel_rfl) (fun w1 hE => ?_)
      exact ⟨by rw [show tv E1 E2 V1 = 0 from by unfold tv; split <;> simp_all, show tv E1 E2 V2 = 0 from by unfold tv; split <;> simp_all, show te E1 E2 = E2 from by unfold te; split <;> simp_all], hE.below⟩
    ·
     skip
     have p6 : E1 ≠ 0 := by first | (simp; done) | (simp at h6; done) | simpa using h6
     refine wc_true rfl ?_
     refine wc_seq ?_
     refine wc_region ?_
     refine wl_val (.agg #[.int .i64 0, .int .i64 0]) rfl (fun _ => by go_simp) ?_
     simp only [Act.put, Xa, Xz, Xs]
     refine wl_val (.int .i64 E1) rfl (fun _ => rfl) ?_
     simp only [Act.put, Xa, Xz, Xs]
     refine wl_store 0 23 (.tmp 6) (.tmp 36) (#[.int .i64 0, .int .i64 0]) rfl rfl rfl rfl rfl (by kernel_rfl) rfl (by simp [Value.oneCell']) ?_
     simp only [Act.put, List.set_cons_zero]
     refine wl_val (.int .i64 E1) rfl (fun _ => rfl) ?_
     simp only [Act.put, Xa, Xz, Xs]
     refine wl_nil ?_
     refine we_then ?_
     refine wc_ret ?_
     refine we_then_ret ?_
     refine we_ret_cell_tmp (.int .i64 E1) (own_row 0 rfl) rfl rfl rfl rfl Try.underlying23 rfl (by kernel_rfl) (fun w1 hE => ?_)
     exact ⟨by rw [show tv E1 E2 V1 = 0 from by unfold tv; split <;> simp_all, show tv E1 E2 V2 = 0 from by unfold tv; split <;> simp_all, show te E1 E2 = E1 from by unfold te; split <;> simp_all], hE.below⟩
   ·
    skip
    have p5 : k < 0 := of_decide_eq_true h5
    refine wc_true rfl ?_
    refine wc_region ?_
    refine wl_val (.pointer (some ⟨g1, 1, none⟩)) rfl (fun _ => by go_simp) ?_
    simp only [Act.put, Xa, Xz, Xs]
    refine wl_cell 2 (.tmp 21) (.int .i64 b) (own_row 1 rfl) rfl rfl rfl rfl Try.isAgg2 ?_
    simp only [Act.put, Xa, Xz, Xs]
    refine wl_val (.pointer (some ⟨g1, 0, none⟩)) rfl (fun _ => by go_simp) ?_
    simp only [Act.put, Xa, Xz, Xs]
    refine wl_cell 2 (.tmp 23) (.int .i64 a) (own_row 1 rfl) rfl rfl rfl rfl Try.isAgg2 ?_
    simp only [Act.put, Xa, Xz, Xs]
    refine wl_val (.agg #[.int .i64 b, .int .i64 a]) rfl (fun _ => by go_simp) ?_
    simp only [Act.put, Xa, Xz, Xs]
    refine wl_store 1 23 (.tmp 3) (.tmp 25) (#[.int .i64 b, .int .i64 a]) rfl rfl rfl rfl rfl (by kernel_rfl) rfl (by simp [Value.oneCell']) ?_
    simp only [Act.put, List.set_cons_zero, List.set_cons_succ]
    refine wl_nil ?_
    refine we_then ?_
    refine wc_seq ?_
    refine wc_region ?_
    refine wl_val (.int .i64 k) rfl (fun _ => rfl) ?_
    simp only [Act.put, Xa, Xz, Xs]
    refine wl_val (.pointer (some ⟨g1, 0, none⟩)) rfl (fun _ => by go_simp) ?_
    simp only [Act.put, Xa, Xz, Xs]
    refine wl_cell 2 (.tmp 28) (.int .i64 b) (own_row 1 rfl) rfl rfl rfl rfl Try.isAgg2 ?_
    simp only [Act.put, Xa, Xz, Xs]
    refine wl_val (.int .i64 n) rfl (fun _ => rfl) ?_
    simp only [Act.put, Xa, Xz, Xs]
    refine wl_call 37 #[.int .i64 k, .int .i64 b, .int .i64 n] (.tuple #[.int .i64 V1, .int .i64 E1]) rfl (fun _ => by go_simp) (fun W => c (by omega) W) ?_
    simp only [Act.put, Xa, Xz, Xs]
    refine wl_val (.tuple #[.int .i64 V1, .int .i64 E1]) rfl (fun _ => rfl) ?_
    simp only [Act.put, Xa, Xz, Xs]
    refine wl_val (.int .i64 V1) rfl (fun _ => by go_simp) ?_
    simp only [Act.put, Xa, Xz, Xs]
    refine wl_val (.int .i64 E1) rfl (fun _ => by go_simp) ?_
    simp only [Act.put, Xa, Xz, Xs]
    refine wl_val (.int .i64 V1) rfl (fun _ => rfl) ?_
    simp only [Act.put, Xa, Xz, Xs]
    refine wl_val (.int .i64 E1) rfl (fun _ => rfl) ?_
    simp only [Act.put, Xa, Xz, Xs]
    refine wl_nil ?_
    refine we_then ?_
    refine wc_seq ?_
    refine wc_seq ?_
    refine wc_region ?_
    refine wl_val (.int .i64 E1) rfl (fun _ => rfl) ?_
    simp only [Act.put, Xa, Xz, Xs]
    refine wl_val (.bool (E1 != 0)) rfl (fun w => run_cmp rfl rfl rfl Try.underlying25 rfl w) ?_
    simp only [Act.put, Xa, Xz, Xs]
    refine wl_nil ?_
    refine we_then ?_
    cases h8 : (E1 != 0)
    ·
     skip
     have p8 : ¬ (E1 ≠ 0) := by first | (simp; done) | (simp at h8; done) | simpa using h8
     refine wc_false rfl ?_
     refine wc_skip ?_
     refine we_then ?_
     refine wc_seq ?_
     refine wc_region ?_
     refine wl_val (.int .i64 k) rfl (fun _ => rfl) ?_
     simp only [Act.put, Xa, Xz, Xs]
     refine wl_val (.pointer (some ⟨g1, 1, none⟩)) rfl (fun _ => by go_simp) ?_
     simp only [Act.put, Xa, Xz, Xs]
     refine wl_cell 2 (.tmp 40) (.int .i64 a) (own_row 1 rfl) rfl rfl rfl rfl Try.isAgg2 ?_
     simp only [Act.put, Xa, Xz, Xs]
     refine wl_val (.int .i64 n) rfl (fun _ => rfl) ?_
     simp only [Act.put, Xa, Xz, Xs]
     refine wl_call 38 #[.int .i64 k, .int .i64 a, .int .i64 n] (.tuple #[.int .i64 V2, .int .i64 E2]) rfl (fun _ => by go_simp) (fun W => d (by omega) W) ?_
     simp only [Act.put, Xa, Xz, Xs]
     refine wl_val (.tuple #[.int .i64 V2, .int .i64 E2]) rfl (fun _ => rfl) ?_
     simp only [Act.put, Xa, Xz, Xs]
     refine wl_val (.int .i64 V2) rfl (fun _ => by go_simp) ?_
     simp only [Act.put, Xa, Xz, Xs]
     refine wl_val (.int .i64 E2) rfl (fun _ => by go_simp) ?_
     simp only [Act.put, Xa, Xz, Xs]
     refine wl_val (.int .i64 V2) rfl (fun _ => rfl) ?_
     simp only [Act.put, Xa, Xz, Xs]
     refine wl_val (.int .i64 E2) rfl (fun _ => rfl) ?_
     simp only [Act.put, Xa, Xz, Xs]
     refine wl_nil ?_
     refine we_then ?_
     refine wc_seq ?_
     refine wc_seq ?_
     refine wc_region ?_
     refine wl_val (.int .i64 E2) rfl (fun _ => rfl) ?_
     simp only [Act.put, Xa, Xz, Xs]
     refine wl_val (.bool (E2 != 0)) rfl (fun w => run_cmp rfl rfl rfl Try.underlying25 rfl w) ?_
     simp only [Act.put, Xa, Xz, Xs]
     refine wl_nil ?_
     refine we_then ?_
     cases h9 : (E2 != 0)
     ·
      skip
      have p9 : ¬ (E2 ≠ 0) := by first | (simp; done) | (simp at h9; done) | simpa using h9
      refine wc_false rfl ?_
      refine wc_skip ?_
      refine we_then ?_
      refine wc_seq ?_
      refine wc_region ?_
      refine wl_val (.int .i64 V1) rfl (fun _ => rfl) ?_
      simp only [Act.put, Xa, Xz, Xs]
      refine wl_val (.int .i64 V2) rfl (fun _ => rfl) ?_
      simp only [Act.put, Xa, Xz, Xs]
      refine wl_val (.agg #[.int .i64 V1, .int .i64 V2]) rfl (fun _ => by go_simp) ?_
      simp only [Act.put, Xa, Xz, Xs]
      refine wl_store 0 23 (.tmp 6) (.tmp 52) (#[.int .i64 V1, .int .i64 V2]) rfl rfl rfl rfl rfl (by kernel_rfl) rfl (by simp [Value.oneCell']) ?_
      simp only [Act.put, List.set_cons_zero]
      refine wl_val (.int .i64 0) rfl (fun _ => rfl) ?_
      simp only [Act.put, Xa, Xz, Xs]
      refine wl_nil ?_
      refine we_then ?_
      refine wc_ret ?_
      refine we_ret_cell_tmp (.int .i64 0) (own_row 0 rfl) rfl rfl rfl rfl Try.underlying23 rfl (by kernel_rfl) (fun w1 hE => ?_)
      exact ⟨by rw [show tv E1 E2 V1 = V1 from by unfold tv; split <;> simp_all, show tv E1 E2 V2 = V2 from by unfold tv; split <;> simp_all, show te E1 E2 = 0 from by unfold te; split <;> simp_all], hE.below⟩
     ·
      skip
      have p9 : E2 ≠ 0 := by first | (simp; done) | (simp at h9; done) | simpa using h9
      refine wc_true rfl ?_
      refine wc_seq ?_
      refine wc_region ?_
      refine wl_val (.agg #[.int .i64 0, .int .i64 0]) rfl (fun _ => by go_simp) ?_
      simp only [Act.put, Xa, Xz, Xs]
      refine wl_val (.int .i64 E2) rfl (fun _ => rfl) ?_
      simp only [Act.put, Xa, Xz, Xs]
      refine wl_store 0 23 (.tmp 6) (.tmp 48) (#[.int .i64 0, .int .i64 0]) rfl rfl rfl rfl rfl (by kernel_rfl) rfl (by simp [Value.oneCell']) ?_
      simp only [Act.put, List.set_cons_zero]
      refine wl_val (.int .i64 E2) rfl (fun _ => rfl) ?_
      simp only [Act.put, Xa, Xz, Xs]
      refine wl_nil ?_
      refine we_then ?_
      refine wc_ret ?_
      refine we_then_ret ?_
      refine we_ret_cell_tmp (.int .i64 E2) (own_row 0 rfl) rfl rfl rfl rfl Try.underlying23 rfl (by kernel_rfl) (fun w1 hE => ?_)
      exact ⟨by rw [show tv E1 E2 V1 = 0 from by unfold tv; split <;> simp_all, show tv E1 E2 V2 = 0 from by unfold tv; split <;> simp_all, show te E1 E2 = E2 from by unfold te; split <;> simp_all], hE.below⟩
    ·
     skip
     have p8 : E1 ≠ 0 := by first | (simp; done) | (simp at h8; done) | simpa using h8
     refine wc_true rfl ?_
     refine wc_seq ?_
     refine wc_region ?_
     refine wl_val (.agg #[.int .i64 0, .int .i64 0]) rfl (fun _ => by go_simp) ?_
     simp only [Act.put, Xa, Xz, Xs]
     refine wl_val (.int .i64 E1) rfl (fun _ => rfl) ?_
     simp only [Act.put, Xa, Xz, Xs]
     refine wl_store 0 23 (.tmp 6) (.tmp 36) (#[.int .i64 0, .int .i64 0]) rfl rfl rfl rfl rfl (by kernel_rfl) rfl (by simp [Value.oneCell']) ?_
     simp only [Act.put, List.set_cons_zero]
     refine wl_val (.int .i64 E1) rfl (fun _ => rfl) ?_
     simp only [Act.put, Xa, Xz, Xs]
     refine wl_nil ?_
     refine we_then ?_
     refine wc_ret ?_
     refine we_then_ret ?_
     refine we_ret_cell_tmp (.int .i64 E1) (own_row 0 rfl) rfl rfl rfl rfl Try.underlying23 rfl (by kernel_rfl) (fun w1 hE => ?_)
     exact ⟨by rw [show tv E1 E2 V1 = 0 from by unfold tv; split <;> simp_all, show tv E1 E2 V2 = 0 from by unfold tv; split <;> simp_all, show te E1 E2 = E1 from by unfold te; split <;> simp_all], hE.below⟩
  ·
   skip
   have p4 : n < 1 := of_decide_eq_true h4
   exact (by exfalso; omega)
/-- The ends and their errors. -/
def q1 (a b k n : Int) : Int := Ratio.quoV (k * (if k < 0 then b else a)) n false
def e1 (a b k n : Int) : Int := Ratio.quoE (k * (if k < 0 then b else a)) n false
def q2 (a b k n : Int) : Int := Ratio.quoV (k * (if k < 0 then a else b)) n true
def e2 (a b k n : Int) : Int := Ratio.quoE (k * (if k < 0 then a else b)) n true
theorem times_any (a b k n : Int) (w : World) (h1 : a ≤ b) (h2 : 1 ≤ n) (ha : Fits a) (hb : Fits b) (hk : Fits k) (hn : Fits n) :
  Calls Try.prog 23 #[.agg #[.int .i64 a, .int .i64 b], .int .i64 k, .int .i64 n] w fun e w' => e = .returned (.tuple #[.agg #[.int .i64 (tv (e1 a b k n) (e2 a b k n) (q1 a b k n)), .int .i64 (tv (e1 a b k n) (e2 a b k n) (q2 a b k n))], .int .i64 (te (e1 a b k n) (e2 a b k n))]) ∧ Below w.heap.size w w' := by
 refine times_core a b k n _ _ _ _ w h1 h2 (fun hc W => ?_) (fun hc W => ?_) (fun hc W => ?_) (fun hc W => ?_)
 ·
  have h := Ratio.floor_any k b n W hk hb hn
  unfold q1 e1; rw [if_pos hc]; exact h
 ·
  have h := Ratio.floor_any k a n W hk ha hn
  unfold q1 e1; rw [if_neg hc]; exact h
 ·
  have h := Ratio.ceil_any k a n W hk ha hn
  unfold q2 e2; rw [if_pos hc]; exact h
 ·
  have h := Ratio.ceil_any k b n W hk hb hn
  unfold q2 e2; rw [if_neg hc]; exact h
/-- Small numbers' ends: rounded outwards. -/
theorem small_ends {a b k n : Int} (hn : 1 ≤ n) (h1 : -1152921504606846976 ≤ (k * (if k < 0 then b else a))) (h2 : (k * (if k < 0 then b else a)) ≤ 1152921504606846976) (h3 : -1152921504606846976 ≤ (k * (if k < 0 then a else b))) (h4 : (k * (if k < 0 then a else b)) ≤ 1152921504606846976) :
  e1 a b k n = 0 ∧ e2 a b k n = 0 ∧ q1 a b k n = (k * (if k < 0 then b else a)) / n ∧ q2 a b k n = -(-(k * (if k < 0 then a else b)) / n) := by
 have key : ∀ m : Int, -1152921504606846976 ≤ m → m ≤ 1152921504606846976 → -1152921504606846976 ≤ m / n ∧ m / n ≤ 1152921504606846976 := by
  intro m k1 k2
  have u : (1152921504606846976 : Int) * 1 ≤ 1152921504606846976 * n := Int.mul_le_mul_of_nonneg_left hn (by decide)
  exact ⟨(Int.le_ediv_iff_mul_le (by omega)).2 (by rw [Int.neg_mul]; omega), Int.le_of_lt_add_one ((Int.ediv_lt_iff_lt_mul (by omega)).2 (by rw [Int.add_mul]; omega))⟩
 unfold e1 e2 q1 q2
 generalize (k * (if k < 0 then b else a)) = x at *
 generalize (k * (if k < 0 then a else b)) = y at *
 obtain ⟨a1, a2⟩ := key x h1 h2
 obtain ⟨b1, b2⟩ := key (-y) (by omega) (by omega)
 have f1 : Num.Fits (x / n) := by unfold Num.Fits; omega
 have f2 : Num.Fits (-(-y / n)) := by unfold Num.Fits; omega
 have h0 : ¬ n = 0 := by omega
 have g1 : Ratio.quo x n false = x / n := by unfold Ratio.quo; rw [if_neg Bool.false_ne_true, Int.fdiv_eq_ediv_of_nonneg _ (by omega)]
 have g2 : Ratio.quo y n true = -(-y / n) := by unfold Ratio.quo; rw [if_pos rfl, Int.fdiv_eq_ediv_of_nonneg _ (by omega)]
 unfold Ratio.quoV Ratio.quoE
 rw [g1, g2, if_neg h0, if_neg h0, if_neg h0, if_neg h0, if_pos f1, if_pos f1, if_pos f2, if_pos f2]
 exact ⟨rfl, rfl, rfl, rfl⟩
set_option maxHeartbeats 2000000 in
theorem around_any (x f : Int) (w : World) (hx : Fits x) (hf : Fits f) :
  Calls Try.prog 28 #[.int .i64 x, .int .i64 f] w fun e w' => e = .returned (.tuple #[.agg #[.int .i64 (Spo.orZ (Spo.tB (true) (x + -f) (x + f)) (x + -f)), .int .i64 (Spo.orZ (Spo.tB (true) (x + -f) (x + f)) (x + f))], .bool (Spo.tB (true) (x + -f) (x + f))]) ∧ Below w.heap.size w w' := by
 refine calls_sx Try.func28 rfl ?_
 simp only [Try.ntmps28, List.size_toArray, List.length_cons, List.length_nil, Nat.reduceAdd, Nat.reduceSub, Array.replicate_succ, Array.replicate_zero, List.push_toArray, List.append_toArray, List.nil_append, List.cons_append]
 refine wc_seq ?_
 refine wc_region ?_
 refine wl_new 23 (#[.int .i64 0, .int .i64 0]) rfl (fun _ => by go_simp) ?_
 intro g1
 simp only [Act.put, Xa, Xz, Xs]
 refine wl_val (.bool false) rfl (fun _ => rfl) ?_
 simp only [Act.put, Xa, Xz, Xs]
 refine wl_nil ?_
 refine we_then ?_
 refine wc_seq ?_
 refine wc_region ?_
 refine wl_val (.int .i64 x) rfl (fun _ => rfl) ?_
 simp only [Act.put, Xa, Xz, Xs]
 refine wl_call 30 #[.int .i64 x] (.agg #[.int .i64 x, .int .i64 x]) rfl (fun _ => by go_simp) (fun W => Spo.at_any x W) ?_
 simp only [Act.put, Xa, Xz, Xs]
 refine wl_val (.int .i64 f) rfl (fun _ => rfl) ?_
 simp only [Act.put, Xa, Xz, Xs]
 refine wl_call 32 #[.agg #[.int .i64 x, .int .i64 x], .int .i64 f] (.tuple #[.agg #[.int .i64 (Spo.orZ (Spo.tB true (x + -f) (x + f)) (x + -f)), .int .i64 (Spo.orZ (Spo.tB true (x + -f) (x + f)) (x + f))], .bool (Spo.tB true (x + -f) (x + f))]) rfl (fun _ => by go_simp) (fun W => by have h := Spo.grow_any x x f W hx hx hf; rw [decide_eq_true (Int.le_refl x)] at h; exact h) ?_
 simp only [Act.put, Xa, Xz, Xs]
 refine wl_val (.agg #[.int .i64 (Spo.orZ (Spo.tB true (x + -f) (x + f)) (x + -f)), .int .i64 (Spo.orZ (Spo.tB true (x + -f) (x + f)) (x + f))]) rfl (fun _ => by go_simp) ?_
 simp only [Act.put, Xa, Xz, Xs]
 refine wl_val (.bool (Spo.tB true (x + -f) (x + f))) rfl (fun _ => by go_simp) ?_
 simp only [Act.put, Xa, Xz, Xs]
 refine wl_store 0 23 (.tmp 4) (.tmp 10) (#[.int .i64 (Spo.orZ (Spo.tB true (x + -f) (x + f)) (x + -f)), .int .i64 (Spo.orZ (Spo.tB true (x + -f) (x + f)) (x + f))]) rfl rfl rfl rfl rfl (by kernel_rfl) rfl (by simp [Value.oneCell']) ?_
 simp only [Act.put, List.set_cons_zero]
 refine wl_val (.bool (Spo.tB true (x + -f) (x + f))) rfl (fun _ => rfl) ?_
 simp only [Act.put, Xa, Xz, Xs]
 refine wl_nil ?_
 refine we_then ?_
 refine wc_ret ?_
 refine we_ret_cell_tmp (.bool (Spo.tB true (x + -f) (x + f))) (own_row 0 rfl) rfl rfl rfl rfl Try.underlying23 rfl (by kernel_rfl) (fun w1 hE => ?_)
 exact ⟨rfl, hE.below⟩
end Go.Proofs.Ytfohomkldpcbdaa.Spt
