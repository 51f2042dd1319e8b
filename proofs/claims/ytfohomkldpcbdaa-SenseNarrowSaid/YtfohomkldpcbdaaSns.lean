/-
 Package sense. Conditions: what the document asks of each argument; Tacho also for any integers of 64 bits.
-/
import Derived.Test.YtfohomkldpcbdaaSn
import Derived.Test.YtfohomkldpcbdaaSnref
import Derived.Test.YtfohomkldpcbdaaSpt
import Derived.Test.YtfohomkldpcbdaaCnf
namespace Go.Proofs.Ytfohomkldpcbdaa.Sns
open Go.ChangeShapes Go.WideShapes Go.ChangeAt Go.RowKit
open Arr Steady Sx Sw Sl Sb Num Spt Sb Sc Si Sk Gr Tk Tkh Tkl Cf Cfref Sn Snref
set_option linter.unusedVariables false
set_option linter.unusedSimpArgs false
set_option maxRecDepth 100000

set_option maxHeartbeats 2000000 in
theorem tacho_far (d a b p : Int) (w : World) (h : d < -32768 ∨ 32767 < d) :
  Calls Try.prog 10 #[.int .i64 d, .agg #[.int .i64 a, .int .i64 b], .int .i64 p] w fun e w' => e = .returned (.tuple #[.agg #[.int .i64 (0), .int .i64 (0)], .int .i64 (10)]) ∧ Below w.heap.size w w' := by
 refine calls_sx Try.func10 rfl ?_
 simp only [Try.ntmps10, List.size_toArray, List.length_cons, List.length_nil, Nat.reduceAdd, Nat.reduceSub, Array.replicate_succ, Array.replicate_zero, List.push_toArray, List.append_toArray, List.nil_append, List.cons_append]
 refine wc_seq ?_
 refine wc_region ?_
 refine wl_new 23 (#[.int .i64 a, .int .i64 b]) rfl (fun _ => by go_simp) ?_
 intro g1
 simp only [Act.put, Xa, Xz, Xs]
 refine wl_new 23 (#[.int .i64 0, .int .i64 0]) rfl (fun _ => by go_simp) ?_
 intro g2
 simp only [Act.put, Xa, Xz, Xs]
 refine wl_val (.int .i64 0) rfl (fun _ => rfl) ?_
 simp only [Act.put, Xa, Xz, Xs]
 refine wl_nil ?_
 refine we_then ?_
 refine wc_seq ?_
 refine wc_seq ?_
 refine wc_region ?_
 refine wl_val (.int .i64 d) rfl (fun _ => rfl) ?_
 simp only [Act.put, Xa, Xz, Xs]
 refine wl_val (.bool (decide (d < -32768))) rfl (fun w => run_cmp rfl rfl rfl Try.underlying2 rfl w) ?_
 simp only [Act.put, Xa, Xz, Xs]
 refine wl_val (.bool (decide (d < -32768))) rfl (fun _ => rfl) ?_
 simp only [Act.put, Xa, Xz, Xs]
 cases h3 : (decide (d < -32768))
 ·
  skip
  have p3 : ¬ (d < -32768) := of_decide_eq_false h3
  refine wl_val (.int .i64 d) rfl (fun _ => rfl) ?_
  simp only [Act.put, Xa, Xz, Xs]
  refine wl_val (.bool (decide (32767 < d))) rfl (fun w => run_cmp rfl rfl rfl Try.underlying2 rfl w) ?_
  simp only [Act.put, Xa, Xz, Xs]
  refine wl_val (.bool (decide (32767 < d))) rfl (fun _ => rfl) ?_
  simp only [Act.put, Xa, Xz, Xs]
  refine wl_nil ?_
  refine we_then ?_
  cases h4 : (decide (32767 < d))
  ·
   skip
   have p4 : ¬ (32767 < d) := of_decide_eq_false h4
   exact (by exfalso; omega)
  ·
   skip
   have p4 : 32767 < d := of_decide_eq_true h4
   refine wc_true rfl ?_
   refine wc_seq ?_
   refine wc_region ?_
   refine wl_val (.agg #[.int .i64 0, .int .i64 0]) rfl (fun _ => by go_simp) ?_
   simp only [Act.put, Xa, Xz, Xs]
   refine wl_store 0 23 (.tmp 6) (.tmp 17) (#[.int .i64 0, .int .i64 0]) rfl rfl rfl rfl rfl (by kernel_rfl) rfl (by simp [Value.oneCell']) ?_
   simp only [Act.put, List.set_cons_zero]
   refine wl_val (.int .i64 10) rfl (fun _ => rfl) ?_
   simp only [Act.put, Xa, Xz, Xs]
   refine wl_nil ?_
   refine we_then ?_
   refine wc_ret ?_
   refine we_then_ret ?_
   refine we_ret_cell_tmp (.int .i64 10) (own_row 0 rfl) rfl rfl rfl rfl Try.underlying23 rfl (by kernel_rfl) (fun w1 hE => ?_)
   exact ⟨rfl, hE.below⟩
 ·
  skip
  have p3 : d < -32768 := of_decide_eq_true h3
  refine wl_skip rfl ?_
  simp only [Act.put, Xa, Xz, Xs]
  refine wl_skip rfl ?_
  simp only [Act.put, Xa, Xz, Xs]
  refine wl_val (.bool true) rfl (fun _ => rfl) ?_
  simp only [Act.put, Xa, Xz, Xs]
  refine wl_nil ?_
  refine we_then ?_
  refine wc_true rfl ?_
  refine wc_seq ?_
  refine wc_region ?_
  refine wl_val (.agg #[.int .i64 0, .int .i64 0]) rfl (fun _ => by go_simp) ?_
  simp only [Act.put, Xa, Xz, Xs]
  refine wl_store 0 23 (.tmp 6) (.tmp 17) (#[.int .i64 0, .int .i64 0]) rfl rfl rfl rfl rfl (by kernel_rfl) rfl (by simp [Value.oneCell']) ?_
  simp only [Act.put, List.set_cons_zero]
  refine wl_val (.int .i64 10) rfl (fun _ => rfl) ?_
  simp only [Act.put, Xa, Xz, Xs]
  refine wl_nil ?_
  refine we_then ?_
  refine wc_ret ?_
  refine we_then_ret ?_
  refine we_ret_cell_tmp (.int .i64 10) (own_row 0 rfl) rfl rfl rfl rfl Try.underlying23 rfl (by kernel_rfl) (fun w1 hE => ?_)
  exact ⟨rfl, hE.below⟩
set_option maxHeartbeats 2000000 in
theorem tacho_core (d a b p X1 Y1 E1 X2 Y2 E2 x y : Int) (w : World) (h1 : -32768 ≤ d) (h2 : d ≤ 32767)
  (c1 : ∀ W, Calls Try.prog 23 #[.agg #[.int .i64 a, .int .i64 b], .int .i64 (d - 1), .int .i64 p] W fun e w' => e = .returned (.tuple #[.agg #[.int .i64 X1, .int .i64 Y1], .int .i64 E1]) ∧ Below W.heap.size W w')
  (c2 : ∀ W, Calls Try.prog 23 #[.agg #[.int .i64 a, .int .i64 b], .int .i64 (d + 1), .int .i64 p] W fun e w' => e = .returned (.tuple #[.agg #[.int .i64 X2, .int .i64 Y2], .int .i64 E2]) ∧ Below W.heap.size W w')
  (c3 : ∀ W, Calls Try.prog 24 #[.agg #[.int .i64 X1, .int .i64 Y1], .agg #[.int .i64 X2, .int .i64 Y2]] W fun e w' => e = .returned (.agg #[.int .i64 x, .int .i64 y]) ∧ Below W.heap.size W w') :
  Calls Try.prog 10 #[.int .i64 d, .agg #[.int .i64 a, .int .i64 b], .int .i64 p] w fun e w' => e = .returned (.tuple #[.agg #[.int .i64 (tv E1 E2 x), .int .i64 (tv E1 E2 y)], .int .i64 (te E1 E2)]) ∧ Below w.heap.size w w' := by
 refine calls_sx Try.func10 rfl ?_
 simp only [Try.ntmps10, List.size_toArray, List.length_cons, List.length_nil, Nat.reduceAdd, Nat.reduceSub, Array.replicate_succ, Array.replicate_zero, List.push_toArray, List.append_toArray, List.nil_append, List.cons_append]
 refine wc_seq ?_
 refine wc_region ?_
 refine wl_new 23 (#[.int .i64 a, .int .i64 b]) rfl (fun _ => by go_simp) ?_
 intro g1
 simp only [Act.put, Xa, Xz, Xs]
 refine wl_new 23 (#[.int .i64 0, .int .i64 0]) rfl (fun _ => by go_simp) ?_
 intro g2
 simp only [Act.put, Xa, Xz, Xs]
 refine wl_val (.int .i64 0) rfl (fun _ => rfl) ?_
 simp only [Act.put, Xa, Xz, Xs]
 refine wl_nil ?_
 refine we_then ?_
 refine wc_seq ?_
 refine wc_seq ?_
 refine wc_region ?_
 refine wl_val (.int .i64 d) rfl (fun _ => rfl) ?_
 simp only [Act.put, Xa, Xz, Xs]
 refine wl_val (.bool (decide (d < -32768))) rfl (fun w => run_cmp rfl rfl rfl Try.underlying2 rfl w) ?_
 simp only [Act.put, Xa, Xz, Xs]
 refine wl_val (.bool (decide (d < -32768))) rfl (fun _ => rfl) ?_
 simp only [Act.put, Xa, Xz, Xs]
 cases h3 : (decide (d < -32768))
 ·
  skip
  have p3 : ¬ (d < -32768) := of_decide_eq_false h3
  refine wl_val (.int .i64 d) rfl (fun _ => rfl) ?_
  simp only [Act.put, Xa, Xz, Xs]
  refine wl_val (.bool (decide (32767 < d))) rfl (fun w => run_cmp rfl rfl rfl Try.underlying2 rfl w) ?_
  simp only [Act.put, Xa, Xz, Xs]
  refine wl_val (.bool (decide (32767 < d))) rfl (fun _ => rfl) ?_
  simp only [Act.put, Xa, Xz, Xs]
  refine wl_nil ?_
  refine we_then ?_
  cases h4 : (decide (32767 < d))
  ·
   skip
   have p4 : ¬ (32767 < d) := of_decide_eq_false h4
   refine wc_false rfl ?_
   refine wc_skip ?_
   refine we_then ?_
   refine wc_seq ?_
   refine wc_region ?_
   refine wl_load 23 (.tmp 4) (own_row 1 rfl) rfl rfl rfl Try.underlying23 rfl (by kernel_rfl) ?_
   simp only [Act.put, Xa, Xz, Xs]
   refine wl_val (.int .i64 d) rfl (fun _ => rfl) ?_
   simp only [Act.put, Xa, Xz, Xs]
   refine wl_val (.int .i64 (d - 1)) rfl (fun w => run_arith (op := .sub) rfl rfl rfl Try.underlying2 (congrArg some (i64_in (by omega) (by omega))) w) ?_
   simp only [Act.put, Xa, Xz, Xs]
   refine wl_val (.int .i64 p) rfl (fun _ => rfl) ?_
   simp only [Act.put, Xa, Xz, Xs]
   refine wl_call 23 #[.agg #[.int .i64 a, .int .i64 b], .int .i64 (d - 1), .int .i64 p] (.tuple #[.agg #[.int .i64 X1, .int .i64 Y1], .int .i64 E1]) rfl (fun _ => by go_simp) (fun W => c1 W) ?_
   simp only [Act.put, Xa, Xz, Xs]
   refine wl_val (.tuple #[.agg #[.int .i64 X1, .int .i64 Y1], .int .i64 E1]) rfl (fun _ => rfl) ?_
   simp only [Act.put, Xa, Xz, Xs]
   refine wl_val (.agg #[.int .i64 X1, .int .i64 Y1]) rfl (fun _ => by go_simp) ?_
   simp only [Act.put, Xa, Xz, Xs]
   refine wl_val (.int .i64 E1) rfl (fun _ => by go_simp) ?_
   simp only [Act.put, Xa, Xz, Xs]
   refine wl_new 23 (#[.int .i64 0, .int .i64 0]) rfl (fun _ => by go_simp) ?_
   intro g5
   simp only [Act.put, Xa, Xz, Xs]
   refine wl_store 0 23 (.tmp 8) (.tmp 24) (#[.int .i64 X1, .int .i64 Y1]) rfl rfl rfl rfl rfl (by kernel_rfl) rfl (by simp [Value.oneCell']) ?_
   simp only [Act.put, List.set_cons_zero]
   refine wl_val (.int .i64 E1) rfl (fun _ => rfl) ?_
   simp only [Act.put, Xa, Xz, Xs]
   refine wl_nil ?_
   refine we_then ?_
   refine wc_seq ?_
   refine wc_seq ?_
   refine wc_region ?_
   refine wl_val (.int .i64 E1) rfl (fun _ => rfl) ?_
   simp only [Act.put, Xa, Xz, Xs]
   refine wl_val (.bool (E1 != 0)) rfl (fun w => run_cmp rfl rfl rfl Try.underlying25 rfl w) ?_
   simp only [Act.put, Xa, Xz, Xs]
   refine wl_nil ?_
   refine we_then ?_
   cases h6 : (E1 != 0)
   ·
    skip
    have p6 : ¬ (E1 ≠ 0) := by first | (simp; done) | (simp at h6; done) | simpa using h6
    refine wc_false rfl ?_
    refine wc_skip ?_
    refine we_then ?_
    refine wc_seq ?_
    refine wc_region ?_
    refine wl_load 23 (.tmp 4) (own_row 2 rfl) rfl rfl rfl Try.underlying23 rfl (by kernel_rfl) ?_
    simp only [Act.put, Xa, Xz, Xs]
    refine wl_val (.int .i64 d) rfl (fun _ => rfl) ?_
    simp only [Act.put, Xa, Xz, Xs]
    refine wl_val (.int .i64 (d + 1)) rfl (fun w => run_arith (op := .add) rfl rfl rfl Try.underlying2 (congrArg some (i64_in (by omega) (by omega))) w) ?_
    simp only [Act.put, Xa, Xz, Xs]
    refine wl_val (.int .i64 p) rfl (fun _ => rfl) ?_
    simp only [Act.put, Xa, Xz, Xs]
    refine wl_call 23 #[.agg #[.int .i64 a, .int .i64 b], .int .i64 (d + 1), .int .i64 p] (.tuple #[.agg #[.int .i64 X2, .int .i64 Y2], .int .i64 E2]) rfl (fun _ => by go_simp) (fun W => c2 W) ?_
    simp only [Act.put, Xa, Xz, Xs]
    refine wl_val (.tuple #[.agg #[.int .i64 X2, .int .i64 Y2], .int .i64 E2]) rfl (fun _ => rfl) ?_
    simp only [Act.put, Xa, Xz, Xs]
    refine wl_val (.agg #[.int .i64 X2, .int .i64 Y2]) rfl (fun _ => by go_simp) ?_
    simp only [Act.put, Xa, Xz, Xs]
    refine wl_val (.int .i64 E2) rfl (fun _ => by go_simp) ?_
    simp only [Act.put, Xa, Xz, Xs]
    refine wl_new 23 (#[.int .i64 0, .int .i64 0]) rfl (fun _ => by go_simp) ?_
    intro g7
    simp only [Act.put, Xa, Xz, Xs]
    refine wl_store 0 23 (.tmp 10) (.tmp 36) (#[.int .i64 X2, .int .i64 Y2]) rfl rfl rfl rfl rfl (by kernel_rfl) rfl (by simp [Value.oneCell']) ?_
    simp only [Act.put, List.set_cons_zero]
    refine wl_val (.int .i64 E2) rfl (fun _ => rfl) ?_
    simp only [Act.put, Xa, Xz, Xs]
    refine wl_nil ?_
    refine we_then ?_
    refine wc_seq ?_
    refine wc_seq ?_
    refine wc_region ?_
    refine wl_val (.int .i64 E2) rfl (fun _ => rfl) ?_
    simp only [Act.put, Xa, Xz, Xs]
    refine wl_val (.bool (E2 != 0)) rfl (fun w => run_cmp rfl rfl rfl Try.underlying25 rfl w) ?_
    simp only [Act.put, Xa, Xz, Xs]
    refine wl_nil ?_
    refine we_then ?_
    cases h8 : (E2 != 0)
    ·
     skip
     have p8 : ¬ (E2 ≠ 0) := by first | (simp; done) | (simp at h8; done) | simpa using h8
     refine wc_false rfl ?_
     refine wc_skip ?_
     refine we_then ?_
     refine wc_seq ?_
     refine wc_region ?_
     refine wl_load 23 (.tmp 8) (own_row 1 rfl) rfl rfl rfl Try.underlying23 rfl (by kernel_rfl) ?_
     simp only [Act.put, Xa, Xz, Xs]
     refine wl_load 23 (.tmp 10) (own_row 0 rfl) rfl rfl rfl Try.underlying23 rfl (by kernel_rfl) ?_
     simp only [Act.put, Xa, Xz, Xs]
     refine wl_call 24 #[.agg #[.int .i64 X1, .int .i64 Y1], .agg #[.int .i64 X2, .int .i64 Y2]] (.agg #[.int .i64 x, .int .i64 y]) rfl (fun _ => by go_simp) (fun W => c3 W) ?_
     simp only [Act.put, Xa, Xz, Xs]
     refine wl_store 2 23 (.tmp 6) (.tmp 44) (#[.int .i64 x, .int .i64 y]) rfl rfl rfl rfl rfl (by kernel_rfl) rfl (by simp [Value.oneCell']) ?_
     simp only [Act.put, List.set_cons_zero, List.set_cons_succ]
     refine wl_val (.int .i64 0) rfl (fun _ => rfl) ?_
     simp only [Act.put, Xa, Xz, Xs]
     refine wl_nil ?_
     refine we_then ?_
     refine wc_ret ?_
     refine we_ret_cell_tmp (.int .i64 0) (own_row 2 rfl) rfl rfl rfl rfl Try.underlying23 rfl (by kernel_rfl) (fun w1 hE => ?_)
     exact ⟨by rw [show tv E1 E2 x = x from by unfold tv; split <;> simp_all, show tv E1 E2 y = y from by unfold tv; split <;> simp_all, show te E1 E2 = 0 from by unfold te; split <;> simp_all], hE.below⟩
    ·
     skip
     have p8 : E2 ≠ 0 := by first | (simp; done) | (simp at h8; done) | simpa using h8
     refine wc_true rfl ?_
     refine wc_seq ?_
     refine wc_region ?_
     refine wl_val (.agg #[.int .i64 0, .int .i64 0]) rfl (fun _ => by go_simp) ?_
     simp only [Act.put, Xa, Xz, Xs]
     refine wl_val (.int .i64 E2) rfl (fun _ => rfl) ?_
     simp only [Act.put, Xa, Xz, Xs]
     refine wl_store 2 23 (.tmp 6) (.tmp 40) (#[.int .i64 0, .int .i64 0]) rfl rfl rfl rfl rfl (by kernel_rfl) rfl (by simp [Value.oneCell']) ?_
     simp only [Act.put, List.set_cons_zero, List.set_cons_succ]
     refine wl_val (.int .i64 E2) rfl (fun _ => rfl) ?_
     simp only [Act.put, Xa, Xz, Xs]
     refine wl_nil ?_
     refine we_then ?_
     refine wc_ret ?_
     refine we_then_ret ?_
     refine we_ret_cell_tmp (.int .i64 E2) (own_row 2 rfl) rfl rfl rfl rfl Try.underlying23 rfl (by kernel_rfl) (fun w1 hE => ?_)
     exact ⟨by rw [show tv E1 E2 x = 0 from by unfold tv; split <;> simp_all, show tv E1 E2 y = 0 from by unfold tv; split <;> simp_all, show te E1 E2 = E2 from by unfold te; split <;> simp_all], hE.below⟩
   ·
    skip
    have p6 : E1 ≠ 0 := by first | (simp; done) | (simp at h6; done) | simpa using h6
    refine wc_true rfl ?_
    refine wc_seq ?_
    refine wc_region ?_
    refine wl_val (.agg #[.int .i64 0, .int .i64 0]) rfl (fun _ => by go_simp) ?_
    simp only [Act.put, Xa, Xz, Xs]
    refine wl_val (.int .i64 E1) rfl (fun _ => rfl) ?_
    simp only [Act.put, Xa, Xz, Xs]
    refine wl_store 1 23 (.tmp 6) (.tmp 28) (#[.int .i64 0, .int .i64 0]) rfl rfl rfl rfl rfl (by kernel_rfl) rfl (by simp [Value.oneCell']) ?_
    simp only [Act.put, List.set_cons_zero, List.set_cons_succ]
    refine wl_val (.int .i64 E1) rfl (fun _ => rfl) ?_
    simp only [Act.put, Xa, Xz, Xs]
    refine wl_nil ?_
    refine we_then ?_
    refine wc_ret ?_
    refine we_then_ret ?_
    refine we_ret_cell_tmp (.int .i64 E1) (own_row 1 rfl) rfl rfl rfl rfl Try.underlying23 rfl (by kernel_rfl) (fun w1 hE => ?_)
    exact ⟨by rw [show tv E1 E2 x = 0 from by unfold tv; split <;> simp_all, show tv E1 E2 y = 0 from by unfold tv; split <;> simp_all, show te E1 E2 = E1 from by unfold te; split <;> simp_all], hE.below⟩
  ·
   skip
   have p4 : 32767 < d := of_decide_eq_true h4
   exact (by exfalso; omega)
 ·
  skip
  have p3 : d < -32768 := of_decide_eq_true h3
  exact (by exfalso; omega)
theorem tacho_no (d a b p : Int) (w : World) (h : d < -32768 ∨ 32767 < d ∨ b < a ∨ p < 1) :
  Calls Try.prog 10 #[.int .i64 d, .agg #[.int .i64 a, .int .i64 b], .int .i64 p] w fun e w' => e = .returned (.tuple #[.agg #[.int .i64 (0), .int .i64 (0)], .int .i64 (10)]) ∧ Below w.heap.size w w' := by
 by_cases hd : d < -32768 ∨ 32767 < d
 ·
  exact tacho_far d a b p w hd
 have k := tacho_core d a b p 0 0 10 0 0 10 _ _ w (by omega) (by omega) (fun W => times_no a b (d - 1) p W (by omega)) (fun W => times_no a b (d + 1) p W (by omega)) (fun W => Spn.hull_any 0 0 0 0 W)
 exact k
theorem tacho_just (d a b p : Int) (w : World) (h1 : -32768 ≤ d) (h2 : d ≤ 32767) (h3 : a ≤ b) (h4 : 1 ≤ p) (ha : Fits a) (hb : Fits b) (hp : Fits p) : ∃ x1 y1 g1 x2 y2 g2 : Int,
  x1 = tv (e1 a b (d - 1) p) (e2 a b (d - 1) p) (q1 a b (d - 1) p) ∧ y1 = tv (e1 a b (d - 1) p) (e2 a b (d - 1) p) (q2 a b (d - 1) p) ∧ g1 = te (e1 a b (d - 1) p) (e2 a b (d - 1) p) ∧
  x2 = tv (e1 a b (d + 1) p) (e2 a b (d + 1) p) (q1 a b (d + 1) p) ∧ y2 = tv (e1 a b (d + 1) p) (e2 a b (d + 1) p) (q2 a b (d + 1) p) ∧ g2 = te (e1 a b (d + 1) p) (e2 a b (d + 1) p) ∧
  Calls Try.prog 10 #[.int .i64 d, .agg #[.int .i64 a, .int .i64 b], .int .i64 p] w fun e w' => e = .returned (.tuple #[.agg #[.int .i64 (tv g1 g2 (Spn.hullF x1 y1 x2 y2).1), .int .i64 (tv g1 g2 (Spn.hullF x1 y1 x2 y2).2)], .int .i64 (te g1 g2)]) ∧ Below w.heap.size w w' := by
 refine ⟨_, _, _, _, _, _, rfl, rfl, rfl, rfl, rfl, rfl, ?_⟩
 exact tacho_core d a b p _ _ _ _ _ _ _ _ w h1 h2 (fun W => times_any a b (d - 1) p W h3 h4 ha hb (by unfold Num.Fits; omega) hp) (fun W => times_any a b (d + 1) p W h3 h4 ha hb (by unfold Num.Fits; omega) hp) (fun W => Spn.hull_any _ _ _ _ W)
theorem tacho_some (d a b p : Int) (w : World) (h1 : -9223372036854775808 ≤ d ∧ d ≤ 9223372036854775807) (h2 : -9223372036854775808 ≤ a ∧ a ≤ 9223372036854775807) (h3 : -9223372036854775808 ≤ b ∧ b ≤ 9223372036854775807) (h4 : -9223372036854775808 ≤ p ∧ p ≤ 9223372036854775807) :
  Calls Try.prog 10 #[.int .i64 d, .agg #[.int .i64 a, .int .i64 b], .int .i64 p] w fun e w' => ∃ z : Tz, True ∧ e = .returned (.tuple #[.agg #[.int .i64 z.x, .int .i64 z.y], .int .i64 z.e]) ∧ Env w w' [] := by
 by_cases h : d < -32768 ∨ 32767 < d ∨ b < a ∨ p < 1
 ·
  refine (tacho_no d a b p w h).mono ?_
  rintro e w' ⟨rfl, hB⟩
  exact ⟨⟨0, 0, 10⟩, trivial, rfl, ⟨hB, by simp, by simp, List.Pairwise.nil⟩⟩
 ·
  obtain ⟨x1, y1, g1, x2, y2, g2, _, _, _, _, _, _, hc⟩ := tacho_just d a b p w (by omega) (by omega) (by omega) (by omega) (by unfold Num.Fits; omega) (by unfold Num.Fits; omega) (by unfold Num.Fits; omega)
  refine hc.mono ?_
  rintro e w' ⟨rfl, hB⟩
  exact ⟨⟨_, _, _⟩, trivial, rfl, ⟨hB, by simp, by simp, List.Pairwise.nil⟩⟩
/-- The ends of what a number within bounds times a wheel's circumferences is. -/
theorem wheel_ends {k a b p : Int} (hk : -32769 ≤ k) (hk' : k ≤ 32768) (h3 : 1 ≤ a) (h4 : a ≤ b) (h5 : b ≤ 8388608) (h6 : 1 ≤ p) :
  e1 a b k p = 0 ∧ e2 a b k p = 0 ∧ q1 a b k p = tlo (k + 1) a b p ∧ q2 a b k p = thi (k - 1) a b p := by
 have pr : ∀ z : Int, 1 ≤ z → z ≤ 8388608 → -274886295552 ≤ k * z ∧ k * z ≤ 274886295552 := by
  intro z k1 k2
  have u1 : (-32769) * z ≤ k * z := Int.mul_le_mul_of_nonneg_right hk (by omega)
  have u2 : k * z ≤ 32768 * z := Int.mul_le_mul_of_nonneg_right hk' (by omega)
  omega
 have pa := pr a h3 (by omega)
 have pb := pr b (by omega) h5
 obtain ⟨r1, r2, r3, r4⟩ := small_ends (a := a) (b := b) (k := k) (n := p) h6 (by split <;> omega) (by split <;> omega) (by split <;> omega) (by split <;> omega)
 refine ⟨r1, r2, ?_, ?_⟩
 ·
  rw [r3]; unfold tlo
  by_cases c : k < 0
  ·
   rw [if_pos c, if_pos (by omega), show k + 1 - 1 = k by omega]
  ·
   rw [if_neg c, if_neg (by omega), show k + 1 - 1 = k by omega]
 ·
  rw [r4]; unfold thi up
  by_cases c : k < 0
  ·
   rw [if_pos c, if_pos (by omega), show k - 1 + 1 = k by omega]
  ·
   rw [if_neg c, if_neg (by omega), show k - 1 + 1 = k by omega]
theorem ends_le {k a b p : Int} (h : a ≤ b) (h4 : a ≤ b) (h6 : 1 ≤ p) (hk : -32769 ≤ k) (hk' : k ≤ 32768) (h3 : 1 ≤ a) (h5 : b ≤ 8388608) : q1 a b k p ≤ q2 a b k p := by
 obtain ⟨_, _, r3, r4⟩ := wheel_ends hk hk' h3 h4 h5 h6
 rw [r3, r4]
 unfold tlo thi
 have dn : ∀ x y : Int, x ≤ y → x / p ≤ up y p := by
  intro x y hxy
  have u1 := Int.ediv_mul_le x (b := p) (by omega)
  have u2 := Int.ediv_mul_le (-y) (b := p) (by omega)
  unfold up
  have u3 : (x / p + -y / p) * p ≤ 0 * p := by rw [Int.add_mul]; omega
  have u4 := Int.le_of_mul_le_mul_right u3 (by omega)
  omega
 by_cases c : k < 0
 ·
  rw [if_pos (by omega), if_pos (by omega), show k + 1 - 1 = k by omega, show k - 1 + 1 = k by omega]; exact dn _ _ (mul_dn (by omega) h4)
 ·
  rw [if_neg (by omega), if_neg (by omega), show k + 1 - 1 = k by omega, show k - 1 + 1 = k by omega]; exact dn _ _ (mul_up (by omega) h4)
theorem tacho_yes (d a b p : Int) (w : World) (h1 : -32768 ≤ d) (h2 : d ≤ 32767) (h3 : 1 ≤ a) (h4 : a ≤ b) (h5 : b ≤ 8388608) (h6 : 1 ≤ p) (h7 : p ≤ 1024) :
  Calls Try.prog 10 #[.int .i64 d, .agg #[.int .i64 a, .int .i64 b], .int .i64 p] w fun e w' => e = .returned (.tuple #[.agg #[.int .i64 (tlo d a b p), .int .i64 (thi d a b p)], .int .i64 0]) ∧ Below w.heap.size w w' := by
 obtain ⟨a1, a2, a3, a4⟩ := wheel_ends (k := d - 1) (a := a) (b := b) (p := p) (by omega) (by omega) h3 h4 h5 h6
 obtain ⟨b1, b2, b3, b4⟩ := wheel_ends (k := d + 1) (a := a) (b := b) (p := p) (by omega) (by omega) h3 h4 h5 h6
 rw [show d - 1 + 1 = d by omega] at a3
 rw [show d + 1 - 1 = d by omega] at b4
 have t1 := tach_more (d := d) (lo := a) (hi := b) (p := p) h6 h3 h4
 have t2 := tach_more (d := d + 1) (lo := a) (hi := b) (p := p) h6 h3 h4
 have t3 := tach_more (d := d - 1) (lo := a) (hi := b) (p := p) h6 h3 h4
 have t4 := tach_more (d := d - 1 - 1) (lo := a) (hi := b) (p := p) h6 h3 h4
 rw [show d - 1 + 1 = d by omega] at t3
 rw [show d - 1 - 1 + 1 = d - 1 by omega] at t4
 have o1 : tlo d a b p ≤ thi (d - 1 - 1) a b p := by rw [← a3, ← a4]; exact ends_le (by omega) h4 h6 (by omega) (by omega) h3 h5
 have o2 : tlo (d + 1 + 1) a b p ≤ thi d a b p := by rw [← b3, ← b4]; exact ends_le (by omega) h4 h6 (by omega) (by omega) h3 h5
 obtain ⟨x1, y1, g1, x2, y2, g2, f1, f2, f3, f4, f5, f6, hc⟩ := tacho_just d a b p w h1 h2 h4 h6 (by unfold Num.Fits; omega) (by unfold Num.Fits; omega) (by unfold Num.Fits; omega)
 rw [a1, a2] at f1 f2 f3
 rw [b1, b2] at f4 f5 f6
 rw [a3] at f1
 rw [a4] at f2
 rw [b3] at f4
 rw [b4] at f5
 have v1 : x1 = tlo d a b p := f1
 have v2 : y1 = thi (d - 1 - 1) a b p := f2
 have v3 : g1 = 0 := f3
 have v4 : x2 = tlo (d + 1 + 1) a b p := f4
 have v5 : y2 = thi d a b p := f5
 have v6 : g2 = 0 := f6
 clear f1 f2 f3 f4 f5 f6
 have hh : Spn.hullF x1 y1 x2 y2 = (tlo d a b p, thi d a b p) := by
  unfold Spn.hullF
  rw [if_pos (by omega), if_pos (by omega), Int.min_eq_left (by omega), Int.max_eq_right (by omega), v1, v5]
 rw [hh, v3, v6] at hc
 exact hc
theorem told_yes {r : Bool} {X Y : Int} (hr : r = true) (h1 : -1152921504606846976 ≤ X) (h2 : X ≤ Y) (h3 : Y ≤ 1152921504606846976) : Spo.tB r X Y = true := by
 have f1 : Num.Fits X := by unfold Num.Fits; omega
 have f2 : Num.Fits Y := by unfold Num.Fits; omega
 unfold Spo.tB Spo.fitB
 rw [hr, decide_eq_true f1, decide_eq_true f2, decide_eq_true h2]; rfl
set_option maxHeartbeats 2000000 in
theorem speeds_any (c : Cf) (w : World) (h1 : 1 ≤ c.ms) (h2 : c.ms ≤ 16777216) :
  Calls Try.prog 35 #[.agg #[.int .i64 c.pu, .int .i64 c.lo, .int .i64 c.hi, .int .i64 c.rb, .int .i64 c.rp, .int .i64 c.ae, .int .i64 c.ms, .int .i64 c.ma, .int .i64 c.an, .int .i64 c.st, .int .i64 c.ss, .int .i64 c.ro, .int .i64 c.ti, .int .i64 c.br]] w fun e w' => e = .returned (.agg #[.int .i64 (-c.ms), .int .i64 c.ms]) ∧ Below w.heap.size w w' := by
 refine calls_sx Try.func35 rfl ?_
 simp only [Try.ntmps35, List.size_toArray, List.length_cons, List.length_nil, Nat.reduceAdd, Nat.reduceSub, Array.replicate_succ, Array.replicate_zero, List.push_toArray, List.append_toArray, List.nil_append, List.cons_append]
 refine wc_seq ?_
 refine wc_region ?_
 refine wl_new 36 (#[.int .i64 c.pu, .int .i64 c.lo, .int .i64 c.hi, .int .i64 c.rb, .int .i64 c.rp, .int .i64 c.ae, .int .i64 c.ms, .int .i64 c.ma, .int .i64 c.an, .int .i64 c.st, .int .i64 c.ss, .int .i64 c.ro, .int .i64 c.ti, .int .i64 c.br]) rfl (fun _ => by go_simp) ?_
 intro g1
 simp only [Act.put, Xa, Xz, Xs]
 refine wl_new 23 (#[.int .i64 0, .int .i64 0]) rfl (fun _ => by go_simp) ?_
 intro g2
 simp only [Act.put, Xa, Xz, Xs]
 refine wl_nil ?_
 refine we_then ?_
 refine wc_seq ?_
 refine wc_region ?_
 refine wl_val (.pointer (some ⟨g1, 6, none⟩)) rfl (fun _ => by go_simp) ?_
 simp only [Act.put, Xa, Xz, Xs]
 refine wl_cell 2 (.tmp 3) (.int .i64 c.ms) (own_row 1 rfl) rfl rfl rfl rfl Try.isAgg2 ?_
 simp only [Act.put, Xa, Xz, Xs]
 refine wl_val (.int .i64 (-c.ms)) rfl (fun w => run_neg rfl rfl Try.underlying2 (i64_in (by omega) (by omega)) w) ?_
 simp only [Act.put, Xa, Xz, Xs]
 refine wl_val (.pointer (some ⟨g1, 6, none⟩)) rfl (fun _ => by go_simp) ?_
 simp only [Act.put, Xa, Xz, Xs]
 refine wl_cell 2 (.tmp 6) (.int .i64 c.ms) (own_row 1 rfl) rfl rfl rfl rfl Try.isAgg2 ?_
 simp only [Act.put, Xa, Xz, Xs]
 refine wl_val (.agg #[.int .i64 (-c.ms), .int .i64 c.ms]) rfl (fun _ => by go_simp) ?_
 simp only [Act.put, Xa, Xz, Xs]
 refine wl_store 0 23 (.tmp 2) (.tmp 8) (#[.int .i64 (-c.ms), .int .i64 c.ms]) rfl rfl rfl rfl rfl (by kernel_rfl) rfl (by simp [Value.oneCell']) ?_
 simp only [Act.put, List.set_cons_zero]
 refine wl_nil ?_
 refine we_then ?_
 refine wc_ret ?_
 refine we_ret_cell (own_row 0 rfl) rfl rfl rfl Try.underlying23 rfl (by kernel_rfl) (fun w1 hE => ?_)
 exact ⟨rfl, hE.below⟩
set_option maxHeartbeats 2000000 in
theorem radar_any (c : Cf) (r : Int) (w : World) (hc : Ok c) (h1 : -2147483648 ≤ r) (h2 : r ≤ 2147483647) :
  Calls Try.prog 15 #[.agg #[.int .i64 c.pu, .int .i64 c.lo, .int .i64 c.hi, .int .i64 c.rb, .int .i64 c.rp, .int .i64 c.ae, .int .i64 c.ms, .int .i64 c.ma, .int .i64 c.an, .int .i64 c.st, .int .i64 c.ss, .int .i64 c.ro, .int .i64 c.ti, .int .i64 c.br], .int .i64 r] w fun e w' => e = .returned (.agg #[.int .i64 (r - err c r), .int .i64 (r + err c r)]) ∧ Below w.heap.size w w' := by
 obtain ⟨x1, x2⟩ := err_in hc (r := r) (by omega) (by omega)
 refine calls_sx Try.func15 rfl ?_
 simp only [Try.ntmps15, List.size_toArray, List.length_cons, List.length_nil, Nat.reduceAdd, Nat.reduceSub, Array.replicate_succ, Array.replicate_zero, List.push_toArray, List.append_toArray, List.nil_append, List.cons_append]
 refine wc_seq ?_
 refine wc_region ?_
 refine wl_new 36 (#[.int .i64 c.pu, .int .i64 c.lo, .int .i64 c.hi, .int .i64 c.rb, .int .i64 c.rp, .int .i64 c.ae, .int .i64 c.ms, .int .i64 c.ma, .int .i64 c.an, .int .i64 c.st, .int .i64 c.ss, .int .i64 c.ro, .int .i64 c.ti, .int .i64 c.br]) rfl (fun _ => by go_simp) ?_
 intro g1
 simp only [Act.put, Xa, Xz, Xs]
 refine wl_new 23 (#[.int .i64 0, .int .i64 0]) rfl (fun _ => by go_simp) ?_
 intro g2
 simp only [Act.put, Xa, Xz, Xs]
 refine wl_nil ?_
 refine we_then ?_
 refine wc_seq ?_
 refine wc_region ?_
 refine wl_val (.int .i64 r) rfl (fun _ => rfl) ?_
 simp only [Act.put, Xa, Xz, Xs]
 refine wl_load 36 (.tmp 2) (own_row 1 rfl) rfl rfl rfl Try.underlying36 rfl (by kernel_rfl) ?_
 simp only [Act.put, Xa, Xz, Xs]
 refine wl_val (.int .i64 r) rfl (fun _ => rfl) ?_
 simp only [Act.put, Xa, Xz, Xs]
 refine wl_call 29 #[.agg #[.int .i64 c.pu, .int .i64 c.lo, .int .i64 c.hi, .int .i64 c.rb, .int .i64 c.rp, .int .i64 c.ae, .int .i64 c.ms, .int .i64 c.ma, .int .i64 c.an, .int .i64 c.st, .int .i64 c.ss, .int .i64 c.ro, .int .i64 c.ti, .int .i64 c.br], .int .i64 r] (.int .i64 (err c r)) rfl (fun _ => by go_simp) (fun W => Cnf.error_any c r W hc (by omega) (by omega)) ?_
 simp only [Act.put, Xa, Xz, Xs]
 refine wl_call 28 #[.int .i64 r, .int .i64 (err c r)] (.tuple #[.agg #[.int .i64 (r - (err c r)), .int .i64 (r + (err c r))], .bool true]) rfl (fun _ => by go_simp) (fun W => by have h := Spt.around_any r (err c r) W (by unfold Num.Fits; omega) (by unfold Num.Fits; omega); rw [told_yes (r := true) (X := r + -(err c r)) (Y := r + (err c r)) rfl (by omega) (by omega) (by omega)] at h; exact h) ?_
 simp only [Act.put, Xa, Xz, Xs]
 refine wl_val (.tuple #[.agg #[.int .i64 (r - (err c r)), .int .i64 (r + (err c r))], .bool true]) rfl (fun _ => rfl) ?_
 simp only [Act.put, Xa, Xz, Xs]
 refine wl_val (.agg #[.int .i64 (r - (err c r)), .int .i64 (r + (err c r))]) rfl (fun _ => by go_simp) ?_
 simp only [Act.put, Xa, Xz, Xs]
 refine wl_val (.bool true) rfl (fun _ => by go_simp) ?_
 simp only [Act.put, Xa, Xz, Xs]
 refine wl_new 23 (#[.int .i64 0, .int .i64 0]) rfl (fun _ => by go_simp) ?_
 intro g3
 simp only [Act.put, Xa, Xz, Xs]
 refine wl_store 0 23 (.tmp 5) (.tmp 13) (#[.int .i64 (r - (err c r)), .int .i64 (r + (err c r))]) rfl rfl rfl rfl rfl (by kernel_rfl) rfl (by simp [Value.oneCell']) ?_
 simp only [Act.put, List.set_cons_zero]
 refine wl_val (.bool true) rfl (fun _ => rfl) ?_
 simp only [Act.put, Xa, Xz, Xs]
 refine wl_nil ?_
 refine we_then ?_
 refine wc_seq ?_
 refine wc_region ?_
 refine wl_load 23 (.tmp 5) (own_row 0 rfl) rfl rfl rfl Try.underlying23 rfl (by kernel_rfl) ?_
 simp only [Act.put, Xa, Xz, Xs]
 refine wl_store 1 23 (.tmp 4) (.tmp 15) (#[.int .i64 (r - (err c r)), .int .i64 (r + (err c r))]) rfl rfl rfl rfl rfl (by kernel_rfl) rfl (by simp [Value.oneCell']) ?_
 simp only [Act.put, List.set_cons_zero, List.set_cons_succ]
 refine wl_nil ?_
 refine we_then ?_
 refine wc_ret ?_
 refine we_ret_cell (own_row 1 rfl) rfl rfl rfl Try.underlying23 rfl (by kernel_rfl) (fun w1 hE => ?_)
 exact ⟨rfl, hE.below⟩
set_option maxHeartbeats 2000000 in
theorem accel_any (c : Cf) (m a b : Int) (w : World) (hc : Ok c) (h1 : -2147483648 ≤ m) (h2 : m ≤ 2147483647) (h3 : -1048576 ≤ a) (h4 : a ≤ b) (h5 : b ≤ 1048576) :
  Calls Try.prog 18 #[.agg #[.int .i64 c.pu, .int .i64 c.lo, .int .i64 c.hi, .int .i64 c.rb, .int .i64 c.rp, .int .i64 c.ae, .int .i64 c.ms, .int .i64 c.ma, .int .i64 c.an, .int .i64 c.st, .int .i64 c.ss, .int .i64 c.ro, .int .i64 c.ti, .int .i64 c.br], .int .i64 m, .agg #[.int .i64 a, .int .i64 b]] w fun e w' => e = .returned (.agg #[.int .i64 (m - b - c.ae), .int .i64 (m - a + c.ae)]) ∧ Below w.heap.size w w' := by
 have c1 := hc.ae1
 have c2 := hc.ae2
 have c3 := hc.ms1
 have c4 := hc.ms2
 have c5 := hc.ma1
 have c6 := hc.ma2
 refine calls_sx Try.func18 rfl ?_
 simp only [Try.ntmps18, List.size_toArray, List.length_cons, List.length_nil, Nat.reduceAdd, Nat.reduceSub, Array.replicate_succ, Array.replicate_zero, List.push_toArray, List.append_toArray, List.nil_append, List.cons_append]
 refine wc_seq ?_
 refine wc_region ?_
 refine wl_new 36 (#[.int .i64 c.pu, .int .i64 c.lo, .int .i64 c.hi, .int .i64 c.rb, .int .i64 c.rp, .int .i64 c.ae, .int .i64 c.ms, .int .i64 c.ma, .int .i64 c.an, .int .i64 c.st, .int .i64 c.ss, .int .i64 c.ro, .int .i64 c.ti, .int .i64 c.br]) rfl (fun _ => by go_simp) ?_
 intro g1
 simp only [Act.put, Xa, Xz, Xs]
 refine wl_new 23 (#[.int .i64 a, .int .i64 b]) rfl (fun _ => by go_simp) ?_
 intro g2
 simp only [Act.put, Xa, Xz, Xs]
 refine wl_new 23 (#[.int .i64 0, .int .i64 0]) rfl (fun _ => by go_simp) ?_
 intro g3
 simp only [Act.put, Xa, Xz, Xs]
 refine wl_nil ?_
 refine we_then ?_
 refine wc_seq ?_
 refine wc_draw [.late, .plain, .plain, .plain, .late, .late, .late, .make 23 (#[.int .i64 0, .int .i64 0]) 8 (#[.int .i64 (m - b), .int .i64 (m - a)]), .put 7, .late] none [(7, 7)] 26 (by kernel_rfl) rfl (by kernel_rfl) (by kernel_rfl) ?_
 refine ws_late (.int .i64 m) rfl rfl (fun _ => rfl) ?_
 simp only [Nat.reduceAdd, Act.put, Xa, Xz, Xs]
 refine ws_call 30 #[.int .i64 m] (.agg #[.int .i64 m, .int .i64 m]) rfl rfl (fun _ => by go_simp) (fun W => Spo.at_any m W) ?_
 simp only [Nat.reduceAdd, Act.put, Xa, Xz, Xs]
 refine ws_load 23 (.tmp 5) (own_row 1 rfl) rfl rfl rfl rfl Try.underlying23 rfl (by kernel_rfl) ?_
 simp only [Nat.reduceAdd, Act.put, Xa, Xz, Xs]
 refine ws_call 31 #[.agg #[.int .i64 m, .int .i64 m], .agg #[.int .i64 a, .int .i64 b]] (.tuple #[.agg #[.int .i64 (m - b), .int .i64 (m - a)], .bool true]) rfl rfl (fun _ => by go_simp) (fun W => by have h := Spo.sub_any m m a b W (by unfold Num.Fits; omega) (by unfold Num.Fits; omega) (by unfold Num.Fits; omega) (by unfold Num.Fits; omega); rw [told_yes (r := decide (m ≤ m) && decide (a ≤ b)) (X := m + -b) (Y := m + -a) (by rw [decide_eq_true (by omega), decide_eq_true (by omega)]; rfl) (by omega) (by omega) (by omega)] at h; exact h) ?_
 simp only [Nat.reduceAdd, Act.put, Xa, Xz, Xs]
 refine ws_late (.tuple #[.agg #[.int .i64 (m - b), .int .i64 (m - a)], .bool true]) rfl rfl (fun _ => rfl) ?_
 simp only [Nat.reduceAdd, Act.put, Xa, Xz, Xs]
 refine ws_late (.agg #[.int .i64 (m - b), .int .i64 (m - a)]) rfl rfl (fun _ => by go_simp) ?_
 simp only [Nat.reduceAdd, Act.put, Xa, Xz, Xs]
 refine ws_late (.bool true) rfl rfl (fun _ => by go_simp) ?_
 simp only [Nat.reduceAdd, Act.put, Xa, Xz, Xs]
 refine ws_make 23 (#[.int .i64 0, .int .i64 0]) 8 (#[.int .i64 (m - b), .int .i64 (m - a)]) rfl rfl rfl (zero_of_info (n := 2) (by kernel_rfl)).1 ?_
 simp only [Nat.reduceAdd, Act.put, Xa, Xz, Xs]
 refine ws_put 7 23 7 (.tmp 16) _ _ _ rfl rfl rfl rfl (by simp) rfl rfl rfl (by kernel_rfl) rfl (by simp [Value.oneCell']) ?_
 simp only [Nat.reduceAdd]
 refine ws_late (.bool true) rfl rfl (fun _ => rfl) ?_
 simp only [Nat.reduceAdd, Act.put, Xa, Xz, Xs]
 refine ws_nil [(7, #[.int .i64 (m - b), .int .i64 (m - a)], 23)] ⟨⟨by decide, _, _, _, rfl, .inl ⟨by decide, rfl⟩⟩, trivial⟩ (by simp) ?_
 intro ps4
 simp only [fin, List.foldl_cons, List.foldl_nil, List.map, rowOf, List.cons_append, List.nil_append, Act.put, Xa, Xz, Xs]
 refine we_then ?_
 refine wc_seq ?_
 refine wc_region ?_
 refine wl_load 23 (.tmp 7) (own_row 0 rfl) rfl rfl rfl Try.underlying23 rfl (by kernel_rfl) ?_
 simp only [Act.put, Xa, Xz, Xs]
 refine wl_val (.pointer (some ⟨g1, 5, none⟩)) rfl (fun _ => by go_simp) ?_
 simp only [Act.put, Xa, Xz, Xs]
 refine wl_cell 2 (.tmp 20) (.int .i64 c.ae) (own_row 3 rfl) rfl rfl rfl rfl Try.isAgg2 ?_
 simp only [Act.put, Xa, Xz, Xs]
 refine wl_call 32 #[.agg #[.int .i64 (m - b), .int .i64 (m - a)], .int .i64 c.ae] (.tuple #[.agg #[.int .i64 ((m - b) - c.ae), .int .i64 ((m - a) + c.ae)], .bool true]) rfl (fun _ => by go_simp) (fun W => by have h := Spo.grow_any (m - b) (m - a) c.ae W (by unfold Num.Fits; omega) (by unfold Num.Fits; omega) (by unfold Num.Fits; omega); rw [told_yes (r := decide ((m - b) ≤ (m - a))) (X := (m - b) + -c.ae) (Y := (m - a) + c.ae) (decide_eq_true (by omega)) (by omega) (by omega) (by omega)] at h; exact h) ?_
 simp only [Act.put, Xa, Xz, Xs]
 refine wl_val (.tuple #[.agg #[.int .i64 ((m - b) - c.ae), .int .i64 ((m - a) + c.ae)], .bool true]) rfl (fun _ => rfl) ?_
 simp only [Act.put, Xa, Xz, Xs]
 refine wl_val (.agg #[.int .i64 ((m - b) - c.ae), .int .i64 ((m - a) + c.ae)]) rfl (fun _ => by go_simp) ?_
 simp only [Act.put, Xa, Xz, Xs]
 refine wl_val (.bool true) rfl (fun _ => by go_simp) ?_
 simp only [Act.put, Xa, Xz, Xs]
 refine wl_new 23 (#[.int .i64 0, .int .i64 0]) rfl (fun _ => by go_simp) ?_
 intro g5
 simp only [Act.put, Xa, Xz, Xs]
 refine wl_store 0 23 (.tmp 9) (.tmp 23) (#[.int .i64 ((m - b) - c.ae), .int .i64 ((m - a) + c.ae)]) rfl rfl rfl rfl rfl (by kernel_rfl) rfl (by simp [Value.oneCell']) ?_
 simp only [Act.put, List.set_cons_zero]
 refine wl_val (.bool true) rfl (fun _ => rfl) ?_
 simp only [Act.put, Xa, Xz, Xs]
 refine wl_nil ?_
 refine we_then ?_
 refine wc_seq ?_
 refine wc_region ?_
 refine wl_load 23 (.tmp 9) (own_row 0 rfl) rfl rfl rfl Try.underlying23 rfl (by kernel_rfl) ?_
 simp only [Act.put, Xa, Xz, Xs]
 refine wl_store 2 23 (.tmp 6) (.tmp 25) (#[.int .i64 ((m - b) - c.ae), .int .i64 ((m - a) + c.ae)]) rfl rfl rfl rfl rfl (by kernel_rfl) rfl (by simp [Value.oneCell']) ?_
 simp only [Act.put, List.set_cons_zero, List.set_cons_succ]
 refine wl_nil ?_
 refine we_then ?_
 refine wc_ret ?_
 refine we_ret_cell (own_row 2 rfl) rfl rfl rfl Try.underlying23 rfl (by kernel_rfl) (fun w1 hE => ?_)
 exact ⟨rfl, hE.below⟩
set_option maxHeartbeats 2000000 in
theorem from_any (a b x y : Int) (w : World) (h1 : -1099511627776 ≤ a) (h2 : a ≤ b) (h3 : b ≤ 1099511627776) (h4 : -1099511627776 ≤ x) (h5 : x ≤ y) (h6 : y ≤ 1099511627776) :
  Calls Try.prog 20 #[.agg #[.int .i64 a, .int .i64 b], .agg #[.int .i64 x, .int .i64 y]] w fun e w' => e = .returned (.agg #[.int .i64 (a + x), .int .i64 (b + y)]) ∧ Below w.heap.size w w' := by
 refine calls_sx Try.func20 rfl ?_
 simp only [Try.ntmps20, List.size_toArray, List.length_cons, List.length_nil, Nat.reduceAdd, Nat.reduceSub, Array.replicate_succ, Array.replicate_zero, List.push_toArray, List.append_toArray, List.nil_append, List.cons_append]
 refine wc_seq ?_
 refine wc_region ?_
 refine wl_new 23 (#[.int .i64 a, .int .i64 b]) rfl (fun _ => by go_simp) ?_
 intro g1
 simp only [Act.put, Xa, Xz, Xs]
 refine wl_new 23 (#[.int .i64 x, .int .i64 y]) rfl (fun _ => by go_simp) ?_
 intro g2
 simp only [Act.put, Xa, Xz, Xs]
 refine wl_new 23 (#[.int .i64 0, .int .i64 0]) rfl (fun _ => by go_simp) ?_
 intro g3
 simp only [Act.put, Xa, Xz, Xs]
 refine wl_nil ?_
 refine we_then ?_
 refine wc_seq ?_
 refine wc_region ?_
 refine wl_load 23 (.tmp 2) (own_row 2 rfl) rfl rfl rfl Try.underlying23 rfl (by kernel_rfl) ?_
 simp only [Act.put, Xa, Xz, Xs]
 refine wl_load 23 (.tmp 3) (own_row 1 rfl) rfl rfl rfl Try.underlying23 rfl (by kernel_rfl) ?_
 simp only [Act.put, Xa, Xz, Xs]
 refine wl_call 33 #[.agg #[.int .i64 a, .int .i64 b], .agg #[.int .i64 x, .int .i64 y]] (.tuple #[.agg #[.int .i64 (a + x), .int .i64 (b + y)], .bool true]) rfl (fun _ => by go_simp) (fun W => by have h := Spo.add_any a b x y W (by unfold Num.Fits; omega) (by unfold Num.Fits; omega) (by unfold Num.Fits; omega) (by unfold Num.Fits; omega); rw [told_yes (r := decide (a ≤ b) && decide (x ≤ y)) (X := a + x) (Y := b + y) (by rw [decide_eq_true (by omega), decide_eq_true (by omega)]; rfl) (by omega) (by omega) (by omega)] at h; exact h) ?_
 simp only [Act.put, Xa, Xz, Xs]
 refine wl_val (.tuple #[.agg #[.int .i64 (a + x), .int .i64 (b + y)], .bool true]) rfl (fun _ => rfl) ?_
 simp only [Act.put, Xa, Xz, Xs]
 refine wl_val (.agg #[.int .i64 (a + x), .int .i64 (b + y)]) rfl (fun _ => by go_simp) ?_
 simp only [Act.put, Xa, Xz, Xs]
 refine wl_val (.bool true) rfl (fun _ => by go_simp) ?_
 simp only [Act.put, Xa, Xz, Xs]
 refine wl_new 23 (#[.int .i64 0, .int .i64 0]) rfl (fun _ => by go_simp) ?_
 intro g4
 simp only [Act.put, Xa, Xz, Xs]
 refine wl_store 0 23 (.tmp 5) (.tmp 11) (#[.int .i64 (a + x), .int .i64 (b + y)]) rfl rfl rfl rfl rfl (by kernel_rfl) rfl (by simp [Value.oneCell']) ?_
 simp only [Act.put, List.set_cons_zero]
 refine wl_val (.bool true) rfl (fun _ => rfl) ?_
 simp only [Act.put, Xa, Xz, Xs]
 refine wl_nil ?_
 refine we_then ?_
 refine wc_seq ?_
 refine wc_region ?_
 refine wl_load 23 (.tmp 5) (own_row 0 rfl) rfl rfl rfl Try.underlying23 rfl (by kernel_rfl) ?_
 simp only [Act.put, Xa, Xz, Xs]
 refine wl_store 1 23 (.tmp 4) (.tmp 13) (#[.int .i64 (a + x), .int .i64 (b + y)]) rfl rfl rfl rfl rfl (by kernel_rfl) rfl (by simp [Value.oneCell']) ?_
 simp only [Act.put, List.set_cons_zero, List.set_cons_succ]
 refine wl_nil ?_
 refine we_then ?_
 refine wc_ret ?_
 refine we_ret_cell (own_row 1 rfl) rfl rfl rfl Try.underlying23 rfl (by kernel_rfl) (fun w1 hE => ?_)
 exact ⟨rfl, hE.below⟩
set_option maxHeartbeats 2000000 in
theorem prior_any (c : Cf) (a b : Int) (w : World) (hc : Ok c) (h1 : -c.ms ≤ a) (h2 : a ≤ b) (h3 : b ≤ c.ms) :
  Calls Try.prog 21 #[.agg #[.int .i64 c.pu, .int .i64 c.lo, .int .i64 c.hi, .int .i64 c.rb, .int .i64 c.rp, .int .i64 c.ae, .int .i64 c.ms, .int .i64 c.ma, .int .i64 c.an, .int .i64 c.st, .int .i64 c.ss, .int .i64 c.ro, .int .i64 c.ti, .int .i64 c.br], .agg #[.int .i64 a, .int .i64 b]] w fun e w' => e = .returned (.agg #[.int .i64 (max (a - c.ma) (-c.ms)), .int .i64 (min (b + c.ma) c.ms)]) ∧ Below w.heap.size w w' := by
 have c1 := hc.ae1
 have c2 := hc.ae2
 have c3 := hc.ms1
 have c4 := hc.ms2
 have c5 := hc.ma1
 have c6 := hc.ma2
 refine calls_sx Try.func21 rfl ?_
 simp only [Try.ntmps21, List.size_toArray, List.length_cons, List.length_nil, Nat.reduceAdd, Nat.reduceSub, Array.replicate_succ, Array.replicate_zero, List.push_toArray, List.append_toArray, List.nil_append, List.cons_append]
 refine wc_seq ?_
 refine wc_region ?_
 refine wl_new 36 (#[.int .i64 c.pu, .int .i64 c.lo, .int .i64 c.hi, .int .i64 c.rb, .int .i64 c.rp, .int .i64 c.ae, .int .i64 c.ms, .int .i64 c.ma, .int .i64 c.an, .int .i64 c.st, .int .i64 c.ss, .int .i64 c.ro, .int .i64 c.ti, .int .i64 c.br]) rfl (fun _ => by go_simp) ?_
 intro g1
 simp only [Act.put, Xa, Xz, Xs]
 refine wl_new 23 (#[.int .i64 a, .int .i64 b]) rfl (fun _ => by go_simp) ?_
 intro g2
 simp only [Act.put, Xa, Xz, Xs]
 refine wl_new 23 (#[.int .i64 0, .int .i64 0]) rfl (fun _ => by go_simp) ?_
 intro g3
 simp only [Act.put, Xa, Xz, Xs]
 refine wl_nil ?_
 refine we_then ?_
 refine wc_seq ?_
 refine wc_region ?_
 refine wl_load 23 (.tmp 3) (own_row 1 rfl) rfl rfl rfl Try.underlying23 rfl (by kernel_rfl) ?_
 simp only [Act.put, Xa, Xz, Xs]
 refine wl_val (.pointer (some ⟨g1, 7, none⟩)) rfl (fun _ => by go_simp) ?_
 simp only [Act.put, Xa, Xz, Xs]
 refine wl_cell 2 (.tmp 11) (.int .i64 c.ma) (own_row 2 rfl) rfl rfl rfl rfl Try.isAgg2 ?_
 simp only [Act.put, Xa, Xz, Xs]
 refine wl_call 32 #[.agg #[.int .i64 a, .int .i64 b], .int .i64 c.ma] (.tuple #[.agg #[.int .i64 (a - c.ma), .int .i64 (b + c.ma)], .bool true]) rfl (fun _ => by go_simp) (fun W => by have h := Spo.grow_any a b c.ma W (by unfold Num.Fits; omega) (by unfold Num.Fits; omega) (by unfold Num.Fits; omega); rw [told_yes (r := decide (a ≤ b)) (X := a + -c.ma) (Y := b + c.ma) (decide_eq_true (by omega)) (by omega) (by omega) (by omega)] at h; exact h) ?_
 simp only [Act.put, Xa, Xz, Xs]
 refine wl_val (.tuple #[.agg #[.int .i64 (a - c.ma), .int .i64 (b + c.ma)], .bool true]) rfl (fun _ => rfl) ?_
 simp only [Act.put, Xa, Xz, Xs]
 refine wl_val (.agg #[.int .i64 (a - c.ma), .int .i64 (b + c.ma)]) rfl (fun _ => by go_simp) ?_
 simp only [Act.put, Xa, Xz, Xs]
 refine wl_val (.bool true) rfl (fun _ => by go_simp) ?_
 simp only [Act.put, Xa, Xz, Xs]
 refine wl_new 23 (#[.int .i64 0, .int .i64 0]) rfl (fun _ => by go_simp) ?_
 intro g4
 simp only [Act.put, Xa, Xz, Xs]
 refine wl_store 0 23 (.tmp 5) (.tmp 14) (#[.int .i64 (a - c.ma), .int .i64 (b + c.ma)]) rfl rfl rfl rfl rfl (by kernel_rfl) rfl (by simp [Value.oneCell']) ?_
 simp only [Act.put, List.set_cons_zero]
 refine wl_val (.bool true) rfl (fun _ => rfl) ?_
 simp only [Act.put, Xa, Xz, Xs]
 refine wl_nil ?_
 refine we_then ?_
 refine wc_seq ?_
 refine wc_draw [.plain, .plain, .plain, .plain, .late, .late, .late, .make 23 (#[.int .i64 0, .int .i64 0]) 8 (#[.int .i64 (max (a - c.ma) (-c.ms)), .int .i64 (min (b + c.ma) c.ms)]), .put 7, .late] none [(7, 7)] 24 (by kernel_rfl) rfl (by kernel_rfl) (by kernel_rfl) ?_
 refine ws_load 23 (.tmp 5) (own_row 0 rfl) rfl rfl rfl rfl Try.underlying23 rfl (by kernel_rfl) ?_
 simp only [Nat.reduceAdd, Act.put, Xa, Xz, Xs]
 refine ws_load 36 (.tmp 2) (own_row 3 rfl) rfl rfl rfl rfl Try.underlying36 rfl (by kernel_rfl) ?_
 simp only [Nat.reduceAdd, Act.put, Xa, Xz, Xs]
 refine ws_call 35 #[.agg #[.int .i64 c.pu, .int .i64 c.lo, .int .i64 c.hi, .int .i64 c.rb, .int .i64 c.rp, .int .i64 c.ae, .int .i64 c.ms, .int .i64 c.ma, .int .i64 c.an, .int .i64 c.st, .int .i64 c.ss, .int .i64 c.ro, .int .i64 c.ti, .int .i64 c.br]] (.agg #[.int .i64 (-c.ms), .int .i64 c.ms]) rfl rfl (fun _ => by go_simp) (fun W => speeds_any c W (by omega) (by omega)) ?_
 simp only [Nat.reduceAdd, Act.put, Xa, Xz, Xs]
 refine ws_call 34 #[.agg #[.int .i64 (a - c.ma), .int .i64 (b + c.ma)], .agg #[.int .i64 (-c.ms), .int .i64 c.ms]] (.tuple #[.agg #[.int .i64 (max (a - c.ma) (-c.ms)), .int .i64 (min (b + c.ma) c.ms)], .bool true]) rfl rfl (fun _ => by go_simp) (fun W => by have h := Spo.meet_any (a - c.ma) (b + c.ma) (-c.ms) c.ms W; rw [show (true && decide (max (a - c.ma) (-c.ms) ≤ min (b + c.ma) c.ms)) = true from by rw [decide_eq_true (by omega)]; rfl] at h; exact h) ?_
 simp only [Nat.reduceAdd, Act.put, Xa, Xz, Xs]
 refine ws_late (.tuple #[.agg #[.int .i64 (max (a - c.ma) (-c.ms)), .int .i64 (min (b + c.ma) c.ms)], .bool true]) rfl rfl (fun _ => rfl) ?_
 simp only [Nat.reduceAdd, Act.put, Xa, Xz, Xs]
 refine ws_late (.agg #[.int .i64 (max (a - c.ma) (-c.ms)), .int .i64 (min (b + c.ma) c.ms)]) rfl rfl (fun _ => by go_simp) ?_
 simp only [Nat.reduceAdd, Act.put, Xa, Xz, Xs]
 refine ws_late (.bool true) rfl rfl (fun _ => by go_simp) ?_
 simp only [Nat.reduceAdd, Act.put, Xa, Xz, Xs]
 refine ws_make 23 (#[.int .i64 0, .int .i64 0]) 8 (#[.int .i64 (max (a - c.ma) (-c.ms)), .int .i64 (min (b + c.ma) c.ms)]) rfl rfl rfl (zero_of_info (n := 2) (by kernel_rfl)).1 ?_
 simp only [Nat.reduceAdd, Act.put, Xa, Xz, Xs]
 refine ws_put 7 23 7 (.tmp 21) _ _ _ rfl rfl rfl rfl (by simp) rfl rfl rfl (by kernel_rfl) rfl (by simp [Value.oneCell']) ?_
 simp only [Nat.reduceAdd]
 refine ws_late (.bool true) rfl rfl (fun _ => rfl) ?_
 simp only [Nat.reduceAdd, Act.put, Xa, Xz, Xs]
 refine ws_nil [(7, #[.int .i64 (max (a - c.ma) (-c.ms)), .int .i64 (min (b + c.ma) c.ms)], 23)] ⟨⟨by decide, _, _, _, rfl, .inl ⟨by decide, rfl⟩⟩, trivial⟩ (by simp) ?_
 intro ps5
 simp only [fin, List.foldl_cons, List.foldl_nil, List.map, rowOf, List.cons_append, List.nil_append, Act.put, Xa, Xz, Xs]
 refine we_then ?_
 refine wc_seq ?_
 refine wc_region ?_
 refine wl_load 23 (.tmp 7) (own_row 0 rfl) rfl rfl rfl Try.underlying23 rfl (by kernel_rfl) ?_
 simp only [Act.put, Xa, Xz, Xs]
 refine wl_store 2 23 (.tmp 4) (.tmp 23) (#[.int .i64 (max (a - c.ma) (-c.ms)), .int .i64 (min (b + c.ma) c.ms)]) rfl rfl rfl rfl rfl (by kernel_rfl) rfl (by simp [Value.oneCell']) ?_
 simp only [Act.put, List.set_cons_zero, List.set_cons_succ]
 refine wl_nil ?_
 refine we_then ?_
 refine wc_ret ?_
 refine we_ret_cell (own_row 2 rfl) rfl rfl rfl Try.underlying23 rfl (by kernel_rfl) (fun w1 hE => ?_)
 exact ⟨rfl, hE.below⟩
end Go.Proofs.Ytfohomkldpcbdaa.Sns
