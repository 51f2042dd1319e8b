/-
 Package wheel. Conditions: what the document asks of each argument.
-/
import Derived.Test.YtcelmgkjkdbliaaWh
import Derived.Test.YtcelmgkjkdbliaaSpn
import Derived.Test.YtcelmgkjkdbliaaRatio
import Derived.Test.YtcelmgkjkdbliaaSk
namespace Go.Proofs.Ytcelmgkjkdbliaa.Wls
open Go.ChangeShapes Go.WideShapes Go.ChangeAt Go.RowKit
open Arr Steady Sx Sw Sl Sb Num Sb Sc Si Sk Sn Wh
set_option linter.unusedVariables false
set_option linter.unusedSimpArgs false
set_option maxRecDepth 100000

set_option maxHeartbeats 2000000 in
theorem narrowed_core (lo hi x y p n V1 E1 V2 E2 P Q : Int) (o : Bool) (w : World) (h1 : 2 ≤ n) (h2 : n ≤ 1099511627776)
  (c1 : ∀ W, Calls Try.prog 15 #[.int .i64 x, .int .i64 p, .int .i64 (n + 1)] W fun e w' => e = .returned (.tuple #[.int .i64 V1, .int .i64 E1]) ∧ Below W.heap.size W w')
  (c2 : ∀ W, Calls Try.prog 16 #[.int .i64 y, .int .i64 p, .int .i64 (n - 1)] W fun e w' => e = .returned (.tuple #[.int .i64 V2, .int .i64 E2]) ∧ Below W.heap.size W w')
  (c3 : ∀ W, Calls Try.prog 17 #[.agg #[.int .i64 lo, .int .i64 hi], .agg #[.int .i64 V1, .int .i64 V2]] W fun e w' => e = .returned (.tuple #[.agg #[.int .i64 P, .int .i64 Q], .bool o]) ∧ Below W.heap.size W w') :
  Calls Try.prog 12 #[.agg #[.int .i64 lo, .int .i64 hi], .int .i64 x, .int .i64 y, .int .i64 p, .int .i64 n] w fun e w' => e = .returned (.tuple #[.agg #[.int .i64 (bif o then P else lo), .int .i64 (bif o then Q else hi)], .bool o]) ∧ Below w.heap.size w w' := by
 refine calls_sx Try.func12 rfl ?_
 simp only [Try.ntmps12, List.size_toArray, List.length_cons, List.length_nil, Nat.reduceAdd, Nat.reduceSub, Array.replicate_succ, Array.replicate_zero, List.push_toArray, List.append_toArray, List.nil_append, List.cons_append]
 refine wc_seq ?_
 refine wc_region ?_
 refine wl_new 23 (#[.int .i64 lo, .int .i64 hi]) rfl (fun _ => by go_simp) ?_
 intro g1
 simp only [Act.put, Xa, Xz, Xs]
 refine wl_new 23 (#[.int .i64 0, .int .i64 0]) rfl (fun _ => by go_simp) ?_
 intro g2
 simp only [Act.put, Xa, Xz, Xs]
 refine wl_val (.bool false) rfl (fun _ => rfl) ?_
 simp only [Act.put, Xa, Xz, Xs]
 refine wl_nil ?_
 refine we_then ?_
 refine wc_seq ?_
 refine wc_region ?_
 refine wl_val (.int .i64 x) rfl (fun _ => rfl) ?_
 simp only [Act.put, Xa, Xz, Xs]
 refine wl_val (.int .i64 p) rfl (fun _ => rfl) ?_
 simp only [Act.put, Xa, Xz, Xs]
 refine wl_val (.int .i64 n) rfl (fun _ => rfl) ?_
 simp only [Act.put, Xa, Xz, Xs]
 refine wl_val (.int .i64 (n + 1)) rfl (fun w => run_arith (op := .add) rfl rfl rfl Try.underlying2 (congrArg some (i64_in (by omega) (by omega))) w) ?_
 simp only [Act.put, Xa, Xz, Xs]
 refine wl_call 15 #[.int .i64 x, .int .i64 p, .int .i64 (n + 1)] (.tuple #[.int .i64 V1, .int .i64 E1]) rfl (fun _ => by go_simp) (fun W => c1 W) ?_
 simp only [Act.put, Xa, Xz, Xs]
 refine wl_val (.tuple #[.int .i64 V1, .int .i64 E1]) rfl (fun _ => rfl) ?_
 simp only [Act.put, Xa, Xz, Xs]
 refine wl_val (.int .i64 V1) rfl (fun _ => by go_simp) ?_
 simp only [Act.put, Xa, Xz, Xs]
 refine wl_val (.int .i64 E1) rfl (fun _ => by go_simp) ?_
 simp only [Act.put, Xa, Xz, Xs]
 refine wl_val (.int .i64 V1) rfl (fun _ => rfl) ?_
 simp only [Act.put, Xa, Xz, Xs]
 refine wl_val (.int .i64 E1) rfl (fun _ => rfl) ?_
 simp only [Act.put, Xa, Xz, Xs]
 refine wl_nil ?_
 refine we_then ?_
 refine wc_seq ?_
 refine wc_region ?_
 refine wl_val (.int .i64 y) rfl (fun _ => rfl) ?_
 simp only [Act.put, Xa, Xz, Xs]
 refine wl_val (.int .i64 p) rfl (fun _ => rfl) ?_
 simp only [Act.put, Xa, Xz, Xs]
 refine wl_val (.int .i64 n) rfl (fun _ => rfl) ?_
 simp only [Act.put, Xa, Xz, Xs]
 refine wl_val (.int .i64 (n - 1)) rfl (fun w => run_arith (op := .sub) rfl rfl rfl Try.underlying2 (congrArg some (i64_in (by omega) (by omega))) w) ?_
 simp only [Act.put, Xa, Xz, Xs]
 refine wl_call 16 #[.int .i64 y, .int .i64 p, .int .i64 (n - 1)] (.tuple #[.int .i64 V2, .int .i64 E2]) rfl (fun _ => by go_simp) (fun W => c2 W) ?_
 simp only [Act.put, Xa, Xz, Xs]
 refine wl_val (.tuple #[.int .i64 V2, .int .i64 E2]) rfl (fun _ => rfl) ?_
 simp only [Act.put, Xa, Xz, Xs]
 refine wl_val (.int .i64 V2) rfl (fun _ => by go_simp) ?_
 simp only [Act.put, Xa, Xz, Xs]
 refine wl_val (.int .i64 E2) rfl (fun _ => by go_simp) ?_
 simp only [Act.put, Xa, Xz, Xs]
 refine wl_val (.int .i64 V2) rfl (fun _ => rfl) ?_
 simp only [Act.put, Xa, Xz, Xs]
 refine wl_val (.int .i64 E2) rfl (fun _ => rfl) ?_
 simp only [Act.put, Xa, Xz, Xs]
 refine wl_nil ?_
 refine we_then ?_
 refine wc_seq ?_
 refine wc_region ?_
 refine wl_load 23 (.tmp 5) (own_row 1 rfl) rfl rfl rfl Try.underlying23 rfl (by kernel_rfl) ?_
 simp only [Act.put, Xa, Xz, Xs]
 refine wl_val (.int .i64 V1) rfl (fun _ => rfl) ?_
 simp only [Act.put, Xa, Xz, Xs]
 refine wl_val (.int .i64 V2) rfl (fun _ => rfl) ?_
 simp only [Act.put, Xa, Xz, Xs]
 refine wl_val (.agg #[.int .i64 V1, .int .i64 V2]) rfl (fun _ => by go_simp) ?_
 simp only [Act.put, Xa, Xz, Xs]
 refine wl_call 17 #[.agg #[.int .i64 lo, .int .i64 hi], .agg #[.int .i64 V1, .int .i64 V2]] (.tuple #[.agg #[.int .i64 P, .int .i64 Q], .bool o]) rfl (fun _ => by go_simp) (fun W => c3 W) ?_
 simp only [Act.put, Xa, Xz, Xs]
 refine wl_val (.tuple #[.agg #[.int .i64 P, .int .i64 Q], .bool o]) rfl (fun _ => rfl) ?_
 simp only [Act.put, Xa, Xz, Xs]
 refine wl_val (.agg #[.int .i64 P, .int .i64 Q]) rfl (fun _ => by go_simp) ?_
 simp only [Act.put, Xa, Xz, Xs]
 refine wl_val (.bool o) rfl (fun _ => by go_simp) ?_
 simp only [Act.put, Xa, Xz, Xs]
 refine wl_new 23 (#[.int .i64 0, .int .i64 0]) rfl (fun _ => by go_simp) ?_
 intro g3
 simp only [Act.put, Xa, Xz, Xs]
 refine wl_store 0 23 (.tmp 16) (.tmp 40) (#[.int .i64 P, .int .i64 Q]) rfl rfl rfl rfl rfl (by kernel_rfl) rfl (by simp [Value.oneCell']) ?_
 simp only [Act.put, List.set_cons_zero]
 refine wl_val (.bool o) rfl (fun _ => rfl) ?_
 simp only [Act.put, Xa, Xz, Xs]
 refine wl_nil ?_
 refine we_then ?_
 refine wc_seq ?_
 refine wc_seq ?_
 refine wc_region ?_
 refine wl_val (.bool o) rfl (fun _ => rfl) ?_
 simp only [Act.put, Xa, Xz, Xs]
 refine wl_val (.bool (!o)) rfl (fun _ => by go_simp) ?_
 simp only [Act.put, Xa, Xz, Xs]
 refine wl_nil ?_
 refine we_then ?_
 cases h4 : (o)
 ·
  skip
  refine wc_true rfl ?_
  refine wc_seq ?_
  refine wc_region ?_
  refine wl_load 23 (.tmp 5) (own_row 2 rfl) rfl rfl rfl Try.underlying23 rfl (by kernel_rfl) ?_
  simp only [Act.put, Xa, Xz, Xs]
  refine wl_store 1 23 (.tmp 10) (.tmp 44) (#[.int .i64 lo, .int .i64 hi]) rfl rfl rfl rfl rfl (by kernel_rfl) rfl (by simp [Value.oneCell']) ?_
  simp only [Act.put, List.set_cons_zero, List.set_cons_succ]
  refine wl_val (.bool false) rfl (fun _ => rfl) ?_
  simp only [Act.put, Xa, Xz, Xs]
  refine wl_nil ?_
  refine we_then ?_
  refine wc_ret ?_
  refine we_then_ret ?_
  refine we_ret_cell_tmp (.bool false) (own_row 1 rfl) rfl rfl rfl rfl Try.underlying23 rfl (by kernel_rfl) (fun w1 hE => ?_)
  exact ⟨rfl, hE.below⟩
 ·
  skip
  refine wc_false rfl ?_
  refine wc_skip ?_
  refine we_then ?_
  refine wc_seq ?_
  refine wc_region ?_
  refine wl_load 23 (.tmp 16) (own_row 0 rfl) rfl rfl rfl Try.underlying23 rfl (by kernel_rfl) ?_
  simp only [Act.put, Xa, Xz, Xs]
  refine wl_store 1 23 (.tmp 10) (.tmp 45) (#[.int .i64 P, .int .i64 Q]) rfl rfl rfl rfl rfl (by kernel_rfl) rfl (by simp [Value.oneCell']) ?_
  simp only [Act.put, List.set_cons_zero, List.set_cons_succ]
  refine wl_val (.bool true) rfl (fun _ => rfl) ?_
  simp only [Act.put, Xa, Xz, Xs]
  refine wl_nil ?_
  refine we_then ?_
  refine wc_ret ?_
  refine we_ret_cell_tmp (.bool true) (own_row 1 rfl) rfl rfl rfl rfl Try.underlying23 rfl (by kernel_rfl) (fun w1 hE => ?_)
  exact ⟨rfl, hE.below⟩
theorem narrowed_any (lo hi x y p n : Int) (w : World) (h1 : 2 ≤ n) (h2 : n ≤ 1099511627776) (h3 : 0 < x) (h4 : x ≤ y) (h5 : y ≤ 17592186044416) (h6 : 1 ≤ p) (h7 : p ≤ 1024) :
  Calls Try.prog 12 #[.agg #[.int .i64 lo, .int .i64 hi], .int .i64 x, .int .i64 y, .int .i64 p, .int .i64 n] w fun e w' => e = .returned (.tuple #[.agg #[.int .i64 (fwd lo hi x y p n).a, .int .i64 (fwd lo hi x y p n).b], .bool (fwd lo hi x y p n).ok]) ∧ Below w.heap.size w w' := by
 have ff := fun W => Ratio.floor_any x p (n + 1) W (by unfold Num.Fits; omega) (by unfold Num.Fits; omega) (by unfold Num.Fits; omega)
 have cc := fun W => Ratio.ceil_any y p (n - 1) W (by unfold Num.Fits; omega) (by unfold Num.Fits; omega) (by unfold Num.Fits; omega)
 have px : 0 ≤ x * p := Int.mul_nonneg (by omega) (by omega)
 have px' : x * p ≤ 17592186044416 * 1024 := Int.mul_le_mul (by omega) h7 (by omega) (by omega)
 have py : 0 ≤ y * p := Int.mul_nonneg (by omega) (by omega)
 have py' : y * p ≤ 17592186044416 * 1024 := Int.mul_le_mul (by omega) h7 (by omega) (by omega)
 have u1 : 0 ≤ x * p / (n + 1) := Int.ediv_nonneg px (by omega)
 have u2 : x * p / (n + 1) ≤ x * p := Int.ediv_le_self _ px
 have u3 : up (y * p) (n - 1) ≤ 1152921504606846976 := by
  unfold up
  have := Int.mul_le_mul_of_nonneg_left (a := 1) (b := n - 1) (c := 1152921504606846976) (by omega) (by decide)
  have : -1152921504606846976 ≤ -(y * p) / (n - 1) := (Int.le_ediv_iff_mul_le (by omega)).2 (by rw [Int.neg_mul]; omega)
  omega
 have u4 : 0 ≤ up (y * p) (n - 1) := by
  unfold up
  have : -(y * p) / (n - 1) < 1 := (Int.ediv_lt_iff_lt_mul (by omega)).2 (by omega)
  omega
 have g1 : Ratio.quo (x * p) (n + 1) false = x * p / (n + 1) := by unfold Ratio.quo; rw [if_neg Bool.false_ne_true, Int.fdiv_eq_ediv_of_nonneg _ (by omega)]
 have g2 : Ratio.quo (y * p) (n - 1) true = up (y * p) (n - 1) := by unfold Ratio.quo up; rw [if_pos rfl, Int.fdiv_eq_ediv_of_nonneg _ (by omega)]
 have v1 : Ratio.quoV (x * p) (n + 1) false = x * p / (n + 1) := by unfold Ratio.quoV; rw [if_neg (by omega), g1, if_pos (by unfold Num.Fits; omega)]
 have v2 : Ratio.quoV (y * p) (n - 1) true = up (y * p) (n - 1) := by unfold Ratio.quoV; rw [if_neg (by omega), g2, if_pos (by unfold Num.Fits; omega)]
 rw [v1] at ff
 rw [v2] at cc
 have k := narrowed_core lo hi x y p n _ _ _ _ _ _ _ w h1 h2 ff cc (fun W => Spn.meet_any lo hi _ _ W)
 have hf : fwd lo hi x y p n = if min (up (y * p) (n - 1)) hi < max ((x * p) / (n + 1)) lo then ⟨lo, hi, false⟩ else ⟨max ((x * p) / (n + 1)) lo, min (up (y * p) (n - 1)) hi, true⟩ := by unfold fwd; rw [if_neg (by omega)]
 by_cases c : max lo (x * p / (n + 1)) ≤ min hi (up (y * p) (n - 1))
 ·
  rw [decide_eq_true c] at k
  rw [hf, if_neg (by omega), Int.max_comm (x * p / (n + 1)), Int.min_comm (up (y * p) (n - 1))]
  exact k
 ·
  rw [decide_eq_false c] at k
  rw [hf, if_pos (by omega)]
  exact k
set_option maxHeartbeats 2000000 in
theorem learn_fwd (lo hi x y p n : Int) (w : World) (h1 : -17592186044416 ≤ x) (h2 : x ≤ y) (h3 : y ≤ 17592186044416) (h4 : 1 ≤ p) (h5 : p ≤ 1024) (h6 : -1099511627776 ≤ n) (h7 : n ≤ 1099511627776) (k1 : 2 ≤ n) (k2 : 0 < x) :
  Calls Try.prog 9 #[.agg #[.int .i64 lo, .int .i64 hi], .agg #[.int .i64 x, .int .i64 y], .int .i64 p, .int .i64 n] w fun e w' => e = .returned (.tuple #[.agg #[.int .i64 (fwd lo hi x y p n).a, .int .i64 (fwd lo hi x y p n).b], .bool (fwd lo hi x y p n).ok]) ∧ Below w.heap.size w w' := by
 refine calls_sx Try.func9 rfl ?_
 simp only [Try.ntmps9, List.size_toArray, List.length_cons, List.length_nil, Nat.reduceAdd, Nat.reduceSub, Array.replicate_succ, Array.replicate_zero, List.push_toArray, List.append_toArray, List.nil_append, List.cons_append]
 refine wc_seq ?_
 refine wc_region ?_
 refine wl_new 23 (#[.int .i64 lo, .int .i64 hi]) rfl (fun _ => by go_simp) ?_
 intro g1
 simp only [Act.put, Xa, Xz, Xs]
 refine wl_new 23 (#[.int .i64 x, .int .i64 y]) rfl (fun _ => by go_simp) ?_
 intro g2
 simp only [Act.put, Xa, Xz, Xs]
 refine wl_new 23 (#[.int .i64 0, .int .i64 0]) rfl (fun _ => by go_simp) ?_
 intro g3
 simp only [Act.put, Xa, Xz, Xs]
 refine wl_val (.bool false) rfl (fun _ => rfl) ?_
 simp only [Act.put, Xa, Xz, Xs]
 refine wl_nil ?_
 refine we_then ?_
 refine wc_seq ?_
 refine wc_block ?_
 refine wc_seq ?_
 refine wc_region ?_
 refine wl_val (.int .i64 n) rfl (fun _ => rfl) ?_
 simp only [Act.put, Xa, Xz, Xs]
 refine wl_val (.bool (decide (2 ≤ n))) rfl (fun w => run_cmp rfl rfl rfl Try.underlying2 rfl w) ?_
 simp only [Act.put, Xa, Xz, Xs]
 refine wl_val (.bool (decide (2 ≤ n))) rfl (fun _ => rfl) ?_
 simp only [Act.put, Xa, Xz, Xs]
 cases h4 : (decide (2 ≤ n))
 ·
  skip
  have p4 : ¬ (2 ≤ n) := of_decide_eq_false h4
  exact (by exfalso; omega)
 ·
  skip
  have p4 : 2 ≤ n := of_decide_eq_true h4
  refine wl_val (.pointer (some ⟨g2, 0, none⟩)) rfl (fun _ => by go_simp) ?_
  simp only [Act.put, Xa, Xz, Xs]
  refine wl_cell 2 (.tmp 14) (.int .i64 x) (own_row 1 rfl) rfl rfl rfl rfl Try.isAgg2 ?_
  simp only [Act.put, Xa, Xz, Xs]
  refine wl_val (.bool (decide (0 < x))) rfl (fun w => run_cmp rfl rfl rfl Try.underlying2 rfl w) ?_
  simp only [Act.put, Xa, Xz, Xs]
  refine wl_val (.bool (decide (0 < x))) rfl (fun _ => rfl) ?_
  simp only [Act.put, Xa, Xz, Xs]
  refine wl_val (.bool (decide (0 < x))) rfl (fun _ => rfl) ?_
  simp only [Act.put, Xa, Xz, Xs]
  refine wl_nil ?_
  refine we_then ?_
  cases h5 : (decide (0 < x))
  ·
   skip
   have p5 : ¬ (0 < x) := of_decide_eq_false h5
   exact (by exfalso; omega)
  ·
   skip
   have p5 : 0 < x := of_decide_eq_true h5
   refine wc_true rfl ?_
   refine wc_seq ?_
   refine wc_region ?_
   refine wl_load 23 (.tmp 4) (own_row 2 rfl) rfl rfl rfl Try.underlying23 rfl (by kernel_rfl) ?_
   simp only [Act.put, Xa, Xz, Xs]
   refine wl_val (.pointer (some ⟨g2, 0, none⟩)) rfl (fun _ => by go_simp) ?_
   simp only [Act.put, Xa, Xz, Xs]
   refine wl_cell 2 (.tmp 19) (.int .i64 x) (own_row 1 rfl) rfl rfl rfl rfl Try.isAgg2 ?_
   simp only [Act.put, Xa, Xz, Xs]
   refine wl_val (.pointer (some ⟨g2, 1, none⟩)) rfl (fun _ => by go_simp) ?_
   simp only [Act.put, Xa, Xz, Xs]
   refine wl_cell 2 (.tmp 21) (.int .i64 y) (own_row 1 rfl) rfl rfl rfl rfl Try.isAgg2 ?_
   simp only [Act.put, Xa, Xz, Xs]
   refine wl_val (.int .i64 p) rfl (fun _ => rfl) ?_
   simp only [Act.put, Xa, Xz, Xs]
   refine wl_val (.int .i64 n) rfl (fun _ => rfl) ?_
   simp only [Act.put, Xa, Xz, Xs]
   refine wl_call 12 #[.agg #[.int .i64 lo, .int .i64 hi], .int .i64 x, .int .i64 y, .int .i64 p, .int .i64 n] (.tuple #[.agg #[.int .i64 ((fwd lo hi x y p n).a), .int .i64 ((fwd lo hi x y p n).b)], .bool ((fwd lo hi x y p n).ok)]) rfl (fun _ => by go_simp) (fun W => narrowed_any lo hi x y p n W (by omega) (by omega) (by omega) (by omega) (by omega) (by omega) (by omega)) ?_
   simp only [Act.put, Xa, Xz, Xs]
   refine wl_val (.agg #[.int .i64 ((fwd lo hi x y p n).a), .int .i64 ((fwd lo hi x y p n).b)]) rfl (fun _ => by go_simp) ?_
   simp only [Act.put, Xa, Xz, Xs]
   refine wl_val (.bool ((fwd lo hi x y p n).ok)) rfl (fun _ => by go_simp) ?_
   simp only [Act.put, Xa, Xz, Xs]
   refine wl_store 0 23 (.tmp 8) (.tmp 26) (#[.int .i64 ((fwd lo hi x y p n).a), .int .i64 ((fwd lo hi x y p n).b)]) rfl rfl rfl rfl rfl (by kernel_rfl) rfl (by simp [Value.oneCell']) ?_
   simp only [Act.put, List.set_cons_zero]
   refine wl_val (.bool ((fwd lo hi x y p n).ok)) rfl (fun _ => rfl) ?_
   simp only [Act.put, Xa, Xz, Xs]
   refine wl_nil ?_
   refine we_then ?_
   refine wc_ret ?_
   refine we_in_ret ?_
   refine we_then_ret ?_
   refine we_ret_cell_tmp (.bool ((fwd lo hi x y p n).ok)) (own_row 0 rfl) rfl rfl rfl rfl Try.underlying23 rfl (by kernel_rfl) (fun w1 hE => ?_)
   exact ⟨rfl, hE.below⟩
set_option maxHeartbeats 2000000 in
theorem learn_bwd (lo hi x y p n : Int) (w : World) (h1 : -17592186044416 ≤ x) (h2 : x ≤ y) (h3 : y ≤ 17592186044416) (h4 : 1 ≤ p) (h5 : p ≤ 1024) (h6 : -1099511627776 ≤ n) (h7 : n ≤ 1099511627776) (k1 : n ≤ -2) (k2 : y < 0) :
  Calls Try.prog 9 #[.agg #[.int .i64 lo, .int .i64 hi], .agg #[.int .i64 x, .int .i64 y], .int .i64 p, .int .i64 n] w fun e w' => e = .returned (.tuple #[.agg #[.int .i64 (fwd lo hi (-y) (-x) p (-n)).a, .int .i64 (fwd lo hi (-y) (-x) p (-n)).b], .bool (fwd lo hi (-y) (-x) p (-n)).ok]) ∧ Below w.heap.size w w' := by
 refine calls_sx Try.func9 rfl ?_
 simp only [Try.ntmps9, List.size_toArray, List.length_cons, List.length_nil, Nat.reduceAdd, Nat.reduceSub, Array.replicate_succ, Array.replicate_zero, List.push_toArray, List.append_toArray, List.nil_append, List.cons_append]
 refine wc_seq ?_
 refine wc_region ?_
 refine wl_new 23 (#[.int .i64 lo, .int .i64 hi]) rfl (fun _ => by go_simp) ?_
 intro g1
 simp only [Act.put, Xa, Xz, Xs]
 refine wl_new 23 (#[.int .i64 x, .int .i64 y]) rfl (fun _ => by go_simp) ?_
 intro g2
 simp only [Act.put, Xa, Xz, Xs]
 refine wl_new 23 (#[.int .i64 0, .int .i64 0]) rfl (fun _ => by go_simp) ?_
 intro g3
 simp only [Act.put, Xa, Xz, Xs]
 refine wl_val (.bool false) rfl (fun _ => rfl) ?_
 simp only [Act.put, Xa, Xz, Xs]
 refine wl_nil ?_
 refine we_then ?_
 refine wc_seq ?_
 refine wc_block ?_
 refine wc_seq ?_
 refine wc_region ?_
 refine wl_val (.int .i64 n) rfl (fun _ => rfl) ?_
 simp only [Act.put, Xa, Xz, Xs]
 refine wl_val (.bool (decide (2 ≤ n))) rfl (fun w => run_cmp rfl rfl rfl Try.underlying2 rfl w) ?_
 simp only [Act.put, Xa, Xz, Xs]
 refine wl_val (.bool (decide (2 ≤ n))) rfl (fun _ => rfl) ?_
 simp only [Act.put, Xa, Xz, Xs]
 cases h4 : (decide (2 ≤ n))
 ·
  skip
  have p4 : ¬ (2 ≤ n) := of_decide_eq_false h4
  refine wl_skip rfl ?_
  simp only [Act.put, Xa, Xz, Xs]
  refine wl_skip rfl ?_
  simp only [Act.put, Xa, Xz, Xs]
  refine wl_skip rfl ?_
  simp only [Act.put, Xa, Xz, Xs]
  refine wl_val (.bool false) rfl (fun _ => rfl) ?_
  simp only [Act.put, Xa, Xz, Xs]
  refine wl_val (.bool false) rfl (fun _ => rfl) ?_
  simp only [Act.put, Xa, Xz, Xs]
  refine wl_nil ?_
  refine we_then ?_
  refine wc_false rfl ?_
  refine wc_seq ?_
  refine wc_region ?_
  refine wl_val (.int .i64 n) rfl (fun _ => rfl) ?_
  simp only [Act.put, Xa, Xz, Xs]
  refine wl_val (.bool (decide (n ≤ -2))) rfl (fun w => run_cmp rfl rfl rfl Try.underlying2 rfl w) ?_
  simp only [Act.put, Xa, Xz, Xs]
  refine wl_val (.bool (decide (n ≤ -2))) rfl (fun _ => rfl) ?_
  simp only [Act.put, Xa, Xz, Xs]
  cases h5 : (decide (n ≤ -2))
  ·
   skip
   have p5 : ¬ (n ≤ -2) := of_decide_eq_false h5
   exact (by exfalso; omega)
  ·
   skip
   have p5 : n ≤ -2 := of_decide_eq_true h5
   refine wl_val (.pointer (some ⟨g2, 1, none⟩)) rfl (fun _ => by go_simp) ?_
   simp only [Act.put, Xa, Xz, Xs]
   refine wl_cell 2 (.tmp 32) (.int .i64 y) (own_row 1 rfl) rfl rfl rfl rfl Try.isAgg2 ?_
   simp only [Act.put, Xa, Xz, Xs]
   refine wl_val (.bool (decide (y < 0))) rfl (fun w => run_cmp rfl rfl rfl Try.underlying2 rfl w) ?_
   simp only [Act.put, Xa, Xz, Xs]
   refine wl_val (.bool (decide (y < 0))) rfl (fun _ => rfl) ?_
   simp only [Act.put, Xa, Xz, Xs]
   refine wl_val (.bool (decide (y < 0))) rfl (fun _ => rfl) ?_
   simp only [Act.put, Xa, Xz, Xs]
   refine wl_nil ?_
   refine we_then ?_
   cases h6 : (decide (y < 0))
   ·
    skip
    have p6 : ¬ (y < 0) := of_decide_eq_false h6
    exact (by exfalso; omega)
   ·
    skip
    have p6 : y < 0 := of_decide_eq_true h6
    refine wc_true rfl ?_
    refine wc_seq ?_
    refine wc_region ?_
    refine wl_load 23 (.tmp 4) (own_row 2 rfl) rfl rfl rfl Try.underlying23 rfl (by kernel_rfl) ?_
    simp only [Act.put, Xa, Xz, Xs]
    refine wl_val (.pointer (some ⟨g2, 1, none⟩)) rfl (fun _ => by go_simp) ?_
    simp only [Act.put, Xa, Xz, Xs]
    refine wl_cell 2 (.tmp 37) (.int .i64 y) (own_row 1 rfl) rfl rfl rfl rfl Try.isAgg2 ?_
    simp only [Act.put, Xa, Xz, Xs]
    refine wl_val (.int .i64 (-y)) rfl (fun w => run_neg rfl rfl Try.underlying2 (i64_in (by omega) (by omega)) w) ?_
    simp only [Act.put, Xa, Xz, Xs]
    refine wl_val (.pointer (some ⟨g2, 0, none⟩)) rfl (fun _ => by go_simp) ?_
    simp only [Act.put, Xa, Xz, Xs]
    refine wl_cell 2 (.tmp 40) (.int .i64 x) (own_row 1 rfl) rfl rfl rfl rfl Try.isAgg2 ?_
    simp only [Act.put, Xa, Xz, Xs]
    refine wl_val (.int .i64 (-x)) rfl (fun w => run_neg rfl rfl Try.underlying2 (i64_in (by omega) (by omega)) w) ?_
    simp only [Act.put, Xa, Xz, Xs]
    refine wl_val (.int .i64 p) rfl (fun _ => rfl) ?_
    simp only [Act.put, Xa, Xz, Xs]
    refine wl_val (.int .i64 n) rfl (fun _ => rfl) ?_
    simp only [Act.put, Xa, Xz, Xs]
    refine wl_val (.int .i64 (-n)) rfl (fun w => run_neg rfl rfl Try.underlying2 (i64_in (by omega) (by omega)) w) ?_
    simp only [Act.put, Xa, Xz, Xs]
    refine wl_call 12 #[.agg #[.int .i64 lo, .int .i64 hi], .int .i64 (-y), .int .i64 (-x), .int .i64 p, .int .i64 (-n)] (.tuple #[.agg #[.int .i64 ((fwd lo hi (-y) (-x) p (-n)).a), .int .i64 ((fwd lo hi (-y) (-x) p (-n)).b)], .bool ((fwd lo hi (-y) (-x) p (-n)).ok)]) rfl (fun _ => by go_simp) (fun W => narrowed_any lo hi (-y) (-x) p (-n) W (by omega) (by omega) (by omega) (by omega) (by omega) (by omega) (by omega)) ?_
    simp only [Act.put, Xa, Xz, Xs]
    refine wl_val (.agg #[.int .i64 ((fwd lo hi (-y) (-x) p (-n)).a), .int .i64 ((fwd lo hi (-y) (-x) p (-n)).b)]) rfl (fun _ => by go_simp) ?_
    simp only [Act.put, Xa, Xz, Xs]
    refine wl_val (.bool ((fwd lo hi (-y) (-x) p (-n)).ok)) rfl (fun _ => by go_simp) ?_
    simp only [Act.put, Xa, Xz, Xs]
    refine wl_store 0 23 (.tmp 8) (.tmp 47) (#[.int .i64 ((fwd lo hi (-y) (-x) p (-n)).a), .int .i64 ((fwd lo hi (-y) (-x) p (-n)).b)]) rfl rfl rfl rfl rfl (by kernel_rfl) rfl (by simp [Value.oneCell']) ?_
    simp only [Act.put, List.set_cons_zero]
    refine wl_val (.bool ((fwd lo hi (-y) (-x) p (-n)).ok)) rfl (fun _ => rfl) ?_
    simp only [Act.put, Xa, Xz, Xs]
    refine wl_nil ?_
    refine we_then ?_
    refine wc_ret ?_
    refine we_in_ret ?_
    refine we_then_ret ?_
    refine we_ret_cell_tmp (.bool ((fwd lo hi (-y) (-x) p (-n)).ok)) (own_row 0 rfl) rfl rfl rfl rfl Try.underlying23 rfl (by kernel_rfl) (fun w1 hE => ?_)
    exact ⟨rfl, hE.below⟩
 ·
  skip
  have p4 : 2 ≤ n := of_decide_eq_true h4
  exact (by exfalso; omega)
set_option maxHeartbeats 2000000 in
theorem learn_none (lo hi x y p n : Int) (w : World) (h1 : -17592186044416 ≤ x) (h2 : x ≤ y) (h3 : y ≤ 17592186044416) (h4 : 1 ≤ p) (h5 : p ≤ 1024) (h6 : -1099511627776 ≤ n) (h7 : n ≤ 1099511627776) (k1 : n < 2 ∨ x ≤ 0) (k2 : -2 < n ∨ 0 ≤ y) :
  Calls Try.prog 9 #[.agg #[.int .i64 lo, .int .i64 hi], .agg #[.int .i64 x, .int .i64 y], .int .i64 p, .int .i64 n] w fun e w' => e = .returned (.tuple #[.agg #[.int .i64 lo, .int .i64 hi], .bool false]) ∧ Below w.heap.size w w' := by
 refine calls_sx Try.func9 rfl ?_
 simp only [Try.ntmps9, List.size_toArray, List.length_cons, List.length_nil, Nat.reduceAdd, Nat.reduceSub, Array.replicate_succ, Array.replicate_zero, List.push_toArray, List.append_toArray, List.nil_append, List.cons_append]
 refine wc_seq ?_
 refine wc_region ?_
 refine wl_new 23 (#[.int .i64 lo, .int .i64 hi]) rfl (fun _ => by go_simp) ?_
 intro g1
 simp only [Act.put, Xa, Xz, Xs]
 refine wl_new 23 (#[.int .i64 x, .int .i64 y]) rfl (fun _ => by go_simp) ?_
 intro g2
 simp only [Act.put, Xa, Xz, Xs]
 refine wl_new 23 (#[.int .i64 0, .int .i64 0]) rfl (fun _ => by go_simp) ?_
 intro g3
 simp only [Act.put, Xa, Xz, Xs]
 refine wl_val (.bool false) rfl (fun _ => rfl) ?_
 simp only [Act.put, Xa, Xz, Xs]
 refine wl_nil ?_
 refine we_then ?_
 refine wc_seq ?_
 refine wc_block ?_
 refine wc_seq ?_
 refine wc_region ?_
 refine wl_val (.int .i64 n) rfl (fun _ => rfl) ?_
 simp only [Act.put, Xa, Xz, Xs]
 refine wl_val (.bool (decide (2 ≤ n))) rfl (fun w => run_cmp rfl rfl rfl Try.underlying2 rfl w) ?_
 simp only [Act.put, Xa, Xz, Xs]
 refine wl_val (.bool (decide (2 ≤ n))) rfl (fun _ => rfl) ?_
 simp only [Act.put, Xa, Xz, Xs]
 cases h4 : (decide (2 ≤ n))
 ·
  skip
  have p4 : ¬ (2 ≤ n) := of_decide_eq_false h4
  refine wl_skip rfl ?_
  simp only [Act.put, Xa, Xz, Xs]
  refine wl_skip rfl ?_
  simp only [Act.put, Xa, Xz, Xs]
  refine wl_skip rfl ?_
  simp only [Act.put, Xa, Xz, Xs]
  refine wl_val (.bool false) rfl (fun _ => rfl) ?_
  simp only [Act.put, Xa, Xz, Xs]
  refine wl_val (.bool false) rfl (fun _ => rfl) ?_
  simp only [Act.put, Xa, Xz, Xs]
  refine wl_nil ?_
  refine we_then ?_
  refine wc_false rfl ?_
  refine wc_seq ?_
  refine wc_region ?_
  refine wl_val (.int .i64 n) rfl (fun _ => rfl) ?_
  simp only [Act.put, Xa, Xz, Xs]
  refine wl_val (.bool (decide (n ≤ -2))) rfl (fun w => run_cmp rfl rfl rfl Try.underlying2 rfl w) ?_
  simp only [Act.put, Xa, Xz, Xs]
  refine wl_val (.bool (decide (n ≤ -2))) rfl (fun _ => rfl) ?_
  simp only [Act.put, Xa, Xz, Xs]
  cases h5 : (decide (n ≤ -2))
  ·
   skip
   have p5 : ¬ (n ≤ -2) := of_decide_eq_false h5
   refine wl_skip rfl ?_
   simp only [Act.put, Xa, Xz, Xs]
   refine wl_skip rfl ?_
   simp only [Act.put, Xa, Xz, Xs]
   refine wl_skip rfl ?_
   simp only [Act.put, Xa, Xz, Xs]
   refine wl_val (.bool false) rfl (fun _ => rfl) ?_
   simp only [Act.put, Xa, Xz, Xs]
   refine wl_val (.bool false) rfl (fun _ => rfl) ?_
   simp only [Act.put, Xa, Xz, Xs]
   refine wl_nil ?_
   refine we_then ?_
   refine wc_false rfl ?_
   refine wc_skip ?_
   refine we_in ?_
   refine we_then ?_
   refine wc_seq ?_
   refine wc_region ?_
   refine wl_load 23 (.tmp 4) (own_row 2 rfl) rfl rfl rfl Try.underlying23 rfl (by kernel_rfl) ?_
   simp only [Act.put, Xa, Xz, Xs]
   refine wl_store 0 23 (.tmp 8) (.tmp 49) (#[.int .i64 lo, .int .i64 hi]) rfl rfl rfl rfl rfl (by kernel_rfl) rfl (by simp [Value.oneCell']) ?_
   simp only [Act.put, List.set_cons_zero]
   refine wl_val (.bool false) rfl (fun _ => rfl) ?_
   simp only [Act.put, Xa, Xz, Xs]
   refine wl_nil ?_
   refine we_then ?_
   refine wc_ret ?_
   refine we_ret_cell_tmp (.bool false) (own_row 0 rfl) rfl rfl rfl rfl Try.underlying23 rfl (by kernel_rfl) (fun w1 hE => ?_)
   exact ⟨rfl, hE.below⟩
  ·
   skip
   have p5 : n ≤ -2 := of_decide_eq_true h5
   refine wl_val (.pointer (some ⟨g2, 1, none⟩)) rfl (fun _ => by go_simp) ?_
   simp only [Act.put, Xa, Xz, Xs]
   refine wl_cell 2 (.tmp 32) (.int .i64 y) (own_row 1 rfl) rfl rfl rfl rfl Try.isAgg2 ?_
   simp only [Act.put, Xa, Xz, Xs]
   refine wl_val (.bool (decide (y < 0))) rfl (fun w => run_cmp rfl rfl rfl Try.underlying2 rfl w) ?_
   simp only [Act.put, Xa, Xz, Xs]
   refine wl_val (.bool (decide (y < 0))) rfl (fun _ => rfl) ?_
   simp only [Act.put, Xa, Xz, Xs]
   refine wl_val (.bool (decide (y < 0))) rfl (fun _ => rfl) ?_
   simp only [Act.put, Xa, Xz, Xs]
   refine wl_nil ?_
   refine we_then ?_
   cases h6 : (decide (y < 0))
   ·
    skip
    have p6 : ¬ (y < 0) := of_decide_eq_false h6
    refine wc_false rfl ?_
    refine wc_skip ?_
    refine we_in ?_
    refine we_then ?_
    refine wc_seq ?_
    refine wc_region ?_
    refine wl_load 23 (.tmp 4) (own_row 2 rfl) rfl rfl rfl Try.underlying23 rfl (by kernel_rfl) ?_
    simp only [Act.put, Xa, Xz, Xs]
    refine wl_store 0 23 (.tmp 8) (.tmp 49) (#[.int .i64 lo, .int .i64 hi]) rfl rfl rfl rfl rfl (by kernel_rfl) rfl (by simp [Value.oneCell']) ?_
    simp only [Act.put, List.set_cons_zero]
    refine wl_val (.bool false) rfl (fun _ => rfl) ?_
    simp only [Act.put, Xa, Xz, Xs]
    refine wl_nil ?_
    refine we_then ?_
    refine wc_ret ?_
    refine we_ret_cell_tmp (.bool false) (own_row 0 rfl) rfl rfl rfl rfl Try.underlying23 rfl (by kernel_rfl) (fun w1 hE => ?_)
    exact ⟨rfl, hE.below⟩
   ·
    skip
    have p6 : y < 0 := of_decide_eq_true h6
    exact (by exfalso; omega)
 ·
  skip
  have p4 : 2 ≤ n := of_decide_eq_true h4
  refine wl_val (.pointer (some ⟨g2, 0, none⟩)) rfl (fun _ => by go_simp) ?_
  simp only [Act.put, Xa, Xz, Xs]
  refine wl_cell 2 (.tmp 14) (.int .i64 x) (own_row 1 rfl) rfl rfl rfl rfl Try.isAgg2 ?_
  simp only [Act.put, Xa, Xz, Xs]
  refine wl_val (.bool (decide (0 < x))) rfl (fun w => run_cmp rfl rfl rfl Try.underlying2 rfl w) ?_
  simp only [Act.put, Xa, Xz, Xs]
  refine wl_val (.bool (decide (0 < x))) rfl (fun _ => rfl) ?_
  simp only [Act.put, Xa, Xz, Xs]
  refine wl_val (.bool (decide (0 < x))) rfl (fun _ => rfl) ?_
  simp only [Act.put, Xa, Xz, Xs]
  refine wl_nil ?_
  refine we_then ?_
  cases h7 : (decide (0 < x))
  ·
   skip
   have p7 : ¬ (0 < x) := of_decide_eq_false h7
   refine wc_false rfl ?_
   refine wc_seq ?_
   refine wc_region ?_
   refine wl_val (.int .i64 n) rfl (fun _ => rfl) ?_
   simp only [Act.put, Xa, Xz, Xs]
   refine wl_val (.bool (decide (n ≤ -2))) rfl (fun w => run_cmp rfl rfl rfl Try.underlying2 rfl w) ?_
   simp only [Act.put, Xa, Xz, Xs]
   refine wl_val (.bool (decide (n ≤ -2))) rfl (fun _ => rfl) ?_
   simp only [Act.put, Xa, Xz, Xs]
   cases h8 : (decide (n ≤ -2))
   ·
    skip
    have p8 : ¬ (n ≤ -2) := of_decide_eq_false h8
    refine wl_skip rfl ?_
    simp only [Act.put, Xa, Xz, Xs]
    refine wl_skip rfl ?_
    simp only [Act.put, Xa, Xz, Xs]
    refine wl_skip rfl ?_
    simp only [Act.put, Xa, Xz, Xs]
    refine wl_val (.bool false) rfl (fun _ => rfl) ?_
    simp only [Act.put, Xa, Xz, Xs]
    refine wl_val (.bool false) rfl (fun _ => rfl) ?_
    simp only [Act.put, Xa, Xz, Xs]
    refine wl_nil ?_
    refine we_then ?_
    refine wc_false rfl ?_
    refine wc_skip ?_
    refine we_in ?_
    refine we_then ?_
    refine wc_seq ?_
    refine wc_region ?_
    refine wl_load 23 (.tmp 4) (own_row 2 rfl) rfl rfl rfl Try.underlying23 rfl (by kernel_rfl) ?_
    simp only [Act.put, Xa, Xz, Xs]
    refine wl_store 0 23 (.tmp 8) (.tmp 49) (#[.int .i64 lo, .int .i64 hi]) rfl rfl rfl rfl rfl (by kernel_rfl) rfl (by simp [Value.oneCell']) ?_
    simp only [Act.put, List.set_cons_zero]
    refine wl_val (.bool false) rfl (fun _ => rfl) ?_
    simp only [Act.put, Xa, Xz, Xs]
    refine wl_nil ?_
    refine we_then ?_
    refine wc_ret ?_
    refine we_ret_cell_tmp (.bool false) (own_row 0 rfl) rfl rfl rfl rfl Try.underlying23 rfl (by kernel_rfl) (fun w1 hE => ?_)
    exact ⟨rfl, hE.below⟩
   ·
    skip
    have p8 : n ≤ -2 := of_decide_eq_true h8
    exact (by exfalso; omega)
  ·
   skip
   have p7 : 0 < x := of_decide_eq_true h7
   exact (by exfalso; omega)
theorem learn_any (lo hi x y p n : Int) (w : World) (h1 : 1 ≤ lo) (h2 : lo ≤ hi) (h3 : hi ≤ 8388608) (h4 : -17592186044416 ≤ x) (h5 : x ≤ y) (h6 : y ≤ 17592186044416) (h7 : 1 ≤ p) (h8 : p ≤ 1024) (h9 : -1099511627776 ≤ n) (h10 : n ≤ 1099511627776) :
  Calls Try.prog 9 #[.agg #[.int .i64 lo, .int .i64 hi], .agg #[.int .i64 x, .int .i64 y], .int .i64 p, .int .i64 n] w fun e w' => e = .returned (.tuple #[.agg #[.int .i64 (learn lo hi x y p n).a, .int .i64 (learn lo hi x y p n).b], .bool (learn lo hi x y p n).ok]) ∧ Below w.heap.size w w' := by
 by_cases c1 : 2 ≤ n ∧ 0 < x
 ·
  have k := learn_fwd lo hi x y p n w h4 h5 h6 h7 h8 h9 h10 c1.1 c1.2
  rw [show learn lo hi x y p n = fwd lo hi x y p n from by unfold learn; rw [if_neg (by omega)]]
  exact k
 ·
  by_cases c2 : n ≤ -2 ∧ y < 0
  ·
   have k := learn_bwd lo hi x y p n w h4 h5 h6 h7 h8 h9 h10 c2.1 c2.2
   rw [show learn lo hi x y p n = fwd lo hi (-y) (-x) p (-n) from by unfold learn; rw [if_pos (by omega)]]
   exact k
  ·
   have k := learn_none lo hi x y p n w h4 h5 h6 h7 h8 h9 h10 (by omega) (by omega)
   rw [show learn lo hi x y p n = ⟨lo, hi, false⟩ from by
    unfold learn fwd
    by_cases c : n < 0
    ·
     rw [if_pos c, if_pos (by omega)]
    ·
     rw [if_neg c, if_pos (by omega)]]
   exact k
end Go.Proofs.Ytcelmgkjkdbliaa.Wls
