/-
 The laws of layer 16: their helper, and their example. No condition.
-/
import Derived.Test.YtcelmgkjkdbliaaWls
import Derived.Test.YtcelmgkjkdbliaaWhref
import Derived.Test.YtcelmgkjkdbliaaSpn
namespace Go.Proofs.Ytcelmgkjkdbliaa.Whlw
open Go.ChangeShapes Go.WideShapes Go.ChangeAt Go.RowKit
open Arr Steady Sx Sw Sl Sb Sc Si Sj Sk Cf Sn Snref Wh Whref
set_option linter.unusedVariables false
set_option linter.unusedSimpArgs false
set_option maxRecDepth 100000

set_option maxHeartbeats 2000000 in
theorem anchor_any  (w : World) :
  Calls Try.prog 7 #[] w fun e w' => e = .returned (.bool true) ∧ Below w.heap.size w w' := by
 refine calls_sx Try.func7 rfl ?_
 simp only [Try.ntmps7, List.size_toArray, List.length_nil, Nat.reduceSub, Array.replicate_succ, Array.replicate_zero, List.push_toArray, List.append_toArray, List.nil_append, List.cons_append]
 refine wc_seq ?_
 refine wc_region ?_
 refine wl_val (.bool false) rfl (fun _ => rfl) ?_
 simp only [Act.put, Xa, Xz]
 refine wl_nil ?_
 refine we_then ?_
 refine wc_seq ?_
 refine wc_region ?_
 refine wl_val (.agg #[.int .i64 900, .int .i64 1100]) rfl (fun _ => by go_simp) ?_
 simp only [Act.put, Xa, Xz, Xs]
 refine wl_val (.agg #[.int .i64 10000, .int .i64 10010]) rfl (fun _ => by go_simp) ?_
 simp only [Act.put, Xa, Xz, Xs]
 refine wl_call 9 #[.agg #[.int .i64 900, .int .i64 1100], .agg #[.int .i64 10000, .int .i64 10010], .int .i64 10, .int .i64 100] (.tuple #[.agg #[.int .i64 990, .int .i64 1012], .bool true]) rfl (fun _ => by go_simp) (fun W => by have h := Wls.learn_any 900 1100 10000 10010 10 100 W (by decide) (by decide) (by decide) (by decide) (by decide) (by decide) (by decide) (by decide) (by decide) (by decide); rwa [show learn 900 1100 10000 10010 10 100 = ⟨990, 1012, true⟩ from rfl] at h) ?_
 simp only [Act.put, Xa, Xz, Xs]
 refine wl_val (.tuple #[.agg #[.int .i64 990, .int .i64 1012], .bool true]) rfl (fun _ => rfl) ?_
 simp only [Act.put, Xa, Xz, Xs]
 refine wl_val (.agg #[.int .i64 990, .int .i64 1012]) rfl (fun _ => by go_simp) ?_
 simp only [Act.put, Xa, Xz, Xs]
 refine wl_val (.bool true) rfl (fun _ => by go_simp) ?_
 simp only [Act.put, Xa, Xz, Xs]
 refine wl_new 23 (#[.int .i64 0, .int .i64 0]) rfl (fun _ => by go_simp) ?_
 intro g1
 simp only [Act.put, Xa, Xz, Xs]
 refine wl_store 0 23 (.tmp 1) (.tmp 7) (#[.int .i64 990, .int .i64 1012]) rfl rfl rfl rfl rfl (by kernel_rfl) rfl (by simp [Value.oneCell']) ?_
 simp only [Act.put, List.set_cons_zero]
 refine wl_val (.bool true) rfl (fun _ => rfl) ?_
 simp only [Act.put, Xa, Xz, Xs]
 refine wl_nil ?_
 refine we_then ?_
 refine wc_seq ?_
 refine wc_region ?_
 refine wl_val (.bool true) rfl (fun _ => rfl) ?_
 simp only [Act.put, Xa, Xz, Xs]
 refine wl_val (.bool true) rfl (fun _ => rfl) ?_
 simp only [Act.put, Xa, Xz, Xs]
 refine wl_load 23 (.tmp 1) (own_row 0 rfl) rfl rfl rfl Try.underlying23 rfl (by kernel_rfl) ?_
 simp only [Act.put, Xa, Xz, Xs]
 refine wl_val (.agg #[.int .i64 990, .int .i64 1012]) rfl (fun _ => by go_simp) ?_
 simp only [Act.put, Xa, Xz, Xs]
 refine wl_val (.bool true) rfl (fun _ => by go_simp) ?_
 simp only [Act.put, Xa, Xz, Xs]
 refine wl_val (.bool true) rfl (fun _ => rfl) ?_
 simp only [Act.put, Xa, Xz, Xs]
 refine wl_val (.bool true) rfl (fun _ => rfl) ?_
 simp only [Act.put, Xa, Xz]
 refine wl_nil ?_
 refine we_then ?_
 refine wc_ret ?_
 refine we_ret1 (.bool true) rfl rfl rfl (fun w1 hE => ?_)
 exact ⟨rfl, hE.below⟩
theorem no_in {n own : Int} (h1 : -274877906944 ≤ n) (h2 : n ≤ 274877906944) (h3 : 0 ≤ own) (h4 : own ≤ 8388608) : -2305843009213693952 ≤ n * own ∧ n * own ≤ 2305843009213693952 := by
 have k1 : n * own ≤ 274877906944 * own := Int.mul_le_mul_of_nonneg_right h2 h3
 have k2 : -274877906944 * own ≤ n * own := Int.mul_le_mul_of_nonneg_right h1 h3
 omega
def mayW (a b x y p n : Int) : Bool := decide (1 ≤ a ∧ a ≤ b ∧ b ≤ 8388608 ∧ -17592186044416 ≤ x ∧ x ≤ y ∧ y ≤ 17592186044416 ∧ 1 ≤ p ∧ p ≤ 1024 ∧ -1099511627776 ≤ n ∧ n ≤ 1099511627776)
theorem mayW_yes {a b x y p n : Int} (h : 1 ≤ a ∧ a ≤ b ∧ b ≤ 8388608 ∧ -17592186044416 ≤ x ∧ x ≤ y ∧ y ≤ 17592186044416 ∧ 1 ≤ p ∧ p ≤ 1024 ∧ -1099511627776 ≤ n ∧ n ≤ 1099511627776) : mayW a b x y p n = true := decide_eq_true h
theorem mayW_no {a b x y p n : Int} (h : ¬ (1 ≤ a ∧ a ≤ b ∧ b ≤ 8388608 ∧ -17592186044416 ≤ x ∧ x ≤ y ∧ y ≤ 17592186044416 ∧ 1 ≤ p ∧ p ≤ 1024 ∧ -1099511627776 ≤ n ∧ n ≤ 1099511627776)) : mayW a b x y p n = false := decide_eq_false h
theorem mayW_of {a b x y p n : Int} (h : mayW a b x y p n = true) : 1 ≤ a ∧ a ≤ b ∧ b ≤ 8388608 ∧ -17592186044416 ≤ x ∧ x ≤ y ∧ y ≤ 17592186044416 ∧ 1 ≤ p ∧ p ≤ 1024 ∧ -1099511627776 ≤ n ∧ n ≤ 1099511627776 := of_decide_eq_true h
theorem mayW_not {a b x y p n : Int} (h : mayW a b x y p n = false) : ¬ (1 ≤ a ∧ a ≤ b ∧ b ≤ 8388608 ∧ -17592186044416 ≤ x ∧ x ≤ y ∧ y ≤ 17592186044416 ∧ 1 ≤ p ∧ p ≤ 1024 ∧ -1099511627776 ≤ n ∧ n ≤ 1099511627776) := of_decide_eq_false h
set_option maxHeartbeats 4000000 in
theorem may_any (a b x y p n : Int) (w : World) :
  Calls Try.prog 8 #[.agg #[.int .i64 a, .int .i64 b], .agg #[.int .i64 x, .int .i64 y], .int .i64 p, .int .i64 n] w fun e w' => e = .returned (.bool (mayW a b x y p n)) ∧ Below w.heap.size w w' := by
 refine calls_sx Try.func8 rfl ?_
 simp only [Try.ntmps8, List.size_toArray, List.length_cons, List.length_nil, Nat.reduceAdd, Nat.reduceSub, Array.replicate_succ, Array.replicate_zero, List.push_toArray, List.append_toArray, List.nil_append, List.cons_append]
 refine wc_seq ?_
 refine wc_region ?_
 refine wl_new 23 (#[.int .i64 a, .int .i64 b]) rfl (fun _ => by go_simp) ?_
 intro g1
 simp only [Act.put, Xa, Xz, Xs]
 refine wl_new 23 (#[.int .i64 x, .int .i64 y]) rfl (fun _ => by go_simp) ?_
 intro g2
 simp only [Act.put, Xa, Xz, Xs]
 refine wl_val (.bool false) rfl (fun _ => rfl) ?_
 simp only [Act.put, Xa, Xz, Xs]
 refine wl_nil ?_
 refine we_then ?_
 refine wc_seq ?_
 refine wc_region ?_
 refine wl_val (.pointer (some ⟨g1, 0, none⟩)) rfl (fun _ => by go_simp) ?_
 simp only [Act.put, Xa, Xz, Xs]
 refine wl_cell 2 (.tmp 9) (.int .i64 a) (own_row 1 rfl) rfl rfl rfl rfl Try.isAgg2 ?_
 simp only [Act.put, Xa, Xz, Xs]
 refine wl_val (.bool (decide (1 ≤ a))) rfl (fun w => run_cmp rfl rfl rfl Try.underlying2 rfl w) ?_
 simp only [Act.put, Xa, Xz, Xs]
 refine wl_val (.bool (decide (1 ≤ a))) rfl (fun _ => rfl) ?_
 simp only [Act.put, Xa, Xz, Xs]
 cases h3 : (decide (1 ≤ a))
 ·
  skip
  have p3 : ¬ (1 ≤ a) := of_decide_eq_false h3
  refine wl_skip rfl ?_
  simp only [Act.put, Xa, Xz, Xs]
  refine wl_skip rfl ?_
  simp only [Act.put, Xa, Xz, Xs]
  refine wl_skip rfl ?_
  simp only [Act.put, Xa, Xz, Xs]
  refine wl_skip rfl ?_
  simp only [Act.put, Xa, Xz, Xs]
  refine wl_skip rfl ?_
  simp only [Act.put, Xa, Xz, Xs]
  refine wl_val (.bool false) rfl (fun _ => rfl) ?_
  simp only [Act.put, Xa, Xz, Xs]
  refine wl_val (.bool false) rfl (fun _ => rfl) ?_
  simp only [Act.put, Xa, Xz, Xs]
  refine wl_skip rfl ?_
  simp only [Act.put, Xa, Xz, Xs]
  refine wl_skip rfl ?_
  simp only [Act.put, Xa, Xz, Xs]
  refine wl_skip rfl ?_
  simp only [Act.put, Xa, Xz, Xs]
  refine wl_val (.bool false) rfl (fun _ => rfl) ?_
  simp only [Act.put, Xa, Xz, Xs]
  refine wl_val (.bool false) rfl (fun _ => rfl) ?_
  simp only [Act.put, Xa, Xz, Xs]
  refine wl_skip rfl ?_
  simp only [Act.put, Xa, Xz, Xs]
  refine wl_skip rfl ?_
  simp only [Act.put, Xa, Xz, Xs]
  refine wl_skip rfl ?_
  simp only [Act.put, Xa, Xz, Xs]
  refine wl_val (.bool false) rfl (fun _ => rfl) ?_
  simp only [Act.put, Xa, Xz, Xs]
  refine wl_val (.bool false) rfl (fun _ => rfl) ?_
  simp only [Act.put, Xa, Xz, Xs]
  refine wl_skip rfl ?_
  simp only [Act.put, Xa, Xz, Xs]
  refine wl_skip rfl ?_
  simp only [Act.put, Xa, Xz, Xs]
  refine wl_skip rfl ?_
  simp only [Act.put, Xa, Xz, Xs]
  refine wl_skip rfl ?_
  simp only [Act.put, Xa, Xz, Xs]
  refine wl_skip rfl ?_
  simp only [Act.put, Xa, Xz, Xs]
  refine wl_val (.bool false) rfl (fun _ => rfl) ?_
  simp only [Act.put, Xa, Xz, Xs]
  refine wl_val (.bool false) rfl (fun _ => rfl) ?_
  simp only [Act.put, Xa, Xz, Xs]
  refine wl_skip rfl ?_
  simp only [Act.put, Xa, Xz, Xs]
  refine wl_skip rfl ?_
  simp only [Act.put, Xa, Xz, Xs]
  refine wl_skip rfl ?_
  simp only [Act.put, Xa, Xz, Xs]
  refine wl_val (.bool false) rfl (fun _ => rfl) ?_
  simp only [Act.put, Xa, Xz, Xs]
  refine wl_val (.bool false) rfl (fun _ => rfl) ?_
  simp only [Act.put, Xa, Xz, Xs]
  refine wl_skip rfl ?_
  simp only [Act.put, Xa, Xz, Xs]
  refine wl_skip rfl ?_
  simp only [Act.put, Xa, Xz, Xs]
  refine wl_val (.bool false) rfl (fun _ => rfl) ?_
  simp only [Act.put, Xa, Xz, Xs]
  refine wl_val (.bool false) rfl (fun _ => rfl) ?_
  simp only [Act.put, Xa, Xz, Xs]
  refine wl_skip rfl ?_
  simp only [Act.put, Xa, Xz, Xs]
  refine wl_skip rfl ?_
  simp only [Act.put, Xa, Xz, Xs]
  refine wl_val (.bool false) rfl (fun _ => rfl) ?_
  simp only [Act.put, Xa, Xz, Xs]
  refine wl_val (.bool false) rfl (fun _ => rfl) ?_
  simp only [Act.put, Xa, Xz, Xs]
  refine wl_skip rfl ?_
  simp only [Act.put, Xa, Xz, Xs]
  refine wl_skip rfl ?_
  simp only [Act.put, Xa, Xz, Xs]
  refine wl_val (.bool false) rfl (fun _ => rfl) ?_
  simp only [Act.put, Xa, Xz, Xs]
  refine wl_val (.bool false) rfl (fun _ => rfl) ?_
  simp only [Act.put, Xa, Xz, Xs]
  refine wl_skip rfl ?_
  simp only [Act.put, Xa, Xz, Xs]
  refine wl_skip rfl ?_
  simp only [Act.put, Xa, Xz, Xs]
  refine wl_val (.bool false) rfl (fun _ => rfl) ?_
  simp only [Act.put, Xa, Xz, Xs]
  refine wl_val (.bool false) rfl (fun _ => rfl) ?_
  simp only [Act.put, Xa, Xz, Xs]
  refine wl_nil ?_
  refine we_then ?_
  refine wc_ret ?_
  refine we_ret1 (.bool false) rfl rfl rfl (fun w1 hE => ?_)
  exact ⟨by rw [mayW_no (by omega)], hE.below⟩
 ·
  skip
  have p3 : 1 ≤ a := of_decide_eq_true h3
  refine wl_val (.pointer (some ⟨g1, 0, none⟩)) rfl (fun _ => by go_simp) ?_
  simp only [Act.put, Xa, Xz, Xs]
  refine wl_cell 2 (.tmp 13) (.int .i64 a) (own_row 1 rfl) rfl rfl rfl rfl Try.isAgg2 ?_
  simp only [Act.put, Xa, Xz, Xs]
  refine wl_val (.pointer (some ⟨g1, 1, none⟩)) rfl (fun _ => by go_simp) ?_
  simp only [Act.put, Xa, Xz, Xs]
  refine wl_cell 2 (.tmp 15) (.int .i64 b) (own_row 1 rfl) rfl rfl rfl rfl Try.isAgg2 ?_
  simp only [Act.put, Xa, Xz, Xs]
  refine wl_val (.bool (decide (a ≤ b))) rfl (fun w => run_cmp rfl rfl rfl Try.underlying2 rfl w) ?_
  simp only [Act.put, Xa, Xz, Xs]
  refine wl_val (.bool (decide (a ≤ b))) rfl (fun _ => rfl) ?_
  simp only [Act.put, Xa, Xz, Xs]
  refine wl_val (.bool (decide (a ≤ b))) rfl (fun _ => rfl) ?_
  simp only [Act.put, Xa, Xz, Xs]
  cases h4 : (decide (a ≤ b))
  ·
   skip
   have p4 : ¬ (a ≤ b) := of_decide_eq_false h4
   refine wl_skip rfl ?_
   simp only [Act.put, Xa, Xz, Xs]
   refine wl_skip rfl ?_
   simp only [Act.put, Xa, Xz, Xs]
   refine wl_skip rfl ?_
   simp only [Act.put, Xa, Xz, Xs]
   refine wl_val (.bool false) rfl (fun _ => rfl) ?_
   simp only [Act.put, Xa, Xz, Xs]
   refine wl_val (.bool false) rfl (fun _ => rfl) ?_
   simp only [Act.put, Xa, Xz, Xs]
   refine wl_skip rfl ?_
   simp only [Act.put, Xa, Xz, Xs]
   refine wl_skip rfl ?_
   simp only [Act.put, Xa, Xz, Xs]
   refine wl_skip rfl ?_
   simp only [Act.put, Xa, Xz, Xs]
   refine wl_val (.bool false) rfl (fun _ => rfl) ?_
   simp only [Act.put, Xa, Xz, Xs]
   refine wl_val (.bool false) rfl (fun _ => rfl) ?_
   simp only [Act.put, Xa, Xz, Xs]
   refine wl_skip rfl ?_
   simp only [Act.put, Xa, Xz, Xs]
   refine wl_skip rfl ?_
   simp only [Act.put, Xa, Xz, Xs]
   refine wl_skip rfl ?_
   simp only [Act.put, Xa, Xz, Xs]
   refine wl_skip rfl ?_
   simp only [Act.put, Xa, Xz, Xs]
   refine wl_skip rfl ?_
   simp only [Act.put, Xa, Xz, Xs]
   refine wl_val (.bool false) rfl (fun _ => rfl) ?_
   simp only [Act.put, Xa, Xz, Xs]
   refine wl_val (.bool false) rfl (fun _ => rfl) ?_
   simp only [Act.put, Xa, Xz, Xs]
   refine wl_skip rfl ?_
   simp only [Act.put, Xa, Xz, Xs]
   refine wl_skip rfl ?_
   simp only [Act.put, Xa, Xz, Xs]
   refine wl_skip rfl ?_
   simp only [Act.put, Xa, Xz, Xs]
   refine wl_val (.bool false) rfl (fun _ => rfl) ?_
   simp only [Act.put, Xa, Xz, Xs]
   refine wl_val (.bool false) rfl (fun _ => rfl) ?_
   simp only [Act.put, Xa, Xz, Xs]
   refine wl_skip rfl ?_
   simp only [Act.put, Xa, Xz, Xs]
   refine wl_skip rfl ?_
   simp only [Act.put, Xa, Xz, Xs]
   refine wl_val (.bool false) rfl (fun _ => rfl) ?_
   simp only [Act.put, Xa, Xz, Xs]
   refine wl_val (.bool false) rfl (fun _ => rfl) ?_
   simp only [Act.put, Xa, Xz, Xs]
   refine wl_skip rfl ?_
   simp only [Act.put, Xa, Xz, Xs]
   refine wl_skip rfl ?_
   simp only [Act.put, Xa, Xz, Xs]
   refine wl_val (.bool false) rfl (fun _ => rfl) ?_
   simp only [Act.put, Xa, Xz, Xs]
   refine wl_val (.bool false) rfl (fun _ => rfl) ?_
   simp only [Act.put, Xa, Xz, Xs]
   refine wl_skip rfl ?_
   simp only [Act.put, Xa, Xz, Xs]
   refine wl_skip rfl ?_
   simp only [Act.put, Xa, Xz, Xs]
   refine wl_val (.bool false) rfl (fun _ => rfl) ?_
   simp only [Act.put, Xa, Xz, Xs]
   refine wl_val (.bool false) rfl (fun _ => rfl) ?_
   simp only [Act.put, Xa, Xz, Xs]
   refine wl_skip rfl ?_
   simp only [Act.put, Xa, Xz, Xs]
   refine wl_skip rfl ?_
   simp only [Act.put, Xa, Xz, Xs]
   refine wl_val (.bool false) rfl (fun _ => rfl) ?_
   simp only [Act.put, Xa, Xz, Xs]
   refine wl_val (.bool false) rfl (fun _ => rfl) ?_
   simp only [Act.put, Xa, Xz, Xs]
   refine wl_nil ?_
   refine we_then ?_
   refine wc_ret ?_
   refine we_ret1 (.bool false) rfl rfl rfl (fun w1 hE => ?_)
   exact ⟨by rw [mayW_no (by omega)], hE.below⟩
  ·
   skip
   have p4 : a ≤ b := of_decide_eq_true h4
   refine wl_val (.pointer (some ⟨g1, 1, none⟩)) rfl (fun _ => by go_simp) ?_
   simp only [Act.put, Xa, Xz, Xs]
   refine wl_cell 2 (.tmp 20) (.int .i64 b) (own_row 1 rfl) rfl rfl rfl rfl Try.isAgg2 ?_
   simp only [Act.put, Xa, Xz, Xs]
   refine wl_val (.bool (decide (b ≤ 8388608))) rfl (fun w => run_cmp rfl rfl rfl Try.underlying2 rfl w) ?_
   simp only [Act.put, Xa, Xz, Xs]
   refine wl_val (.bool (decide (b ≤ 8388608))) rfl (fun _ => rfl) ?_
   simp only [Act.put, Xa, Xz, Xs]
   refine wl_val (.bool (decide (b ≤ 8388608))) rfl (fun _ => rfl) ?_
   simp only [Act.put, Xa, Xz, Xs]
   cases h5 : (decide (b ≤ 8388608))
   ·
    skip
    have p5 : ¬ (b ≤ 8388608) := of_decide_eq_false h5
    refine wl_skip rfl ?_
    simp only [Act.put, Xa, Xz, Xs]
    refine wl_skip rfl ?_
    simp only [Act.put, Xa, Xz, Xs]
    refine wl_skip rfl ?_
    simp only [Act.put, Xa, Xz, Xs]
    refine wl_val (.bool false) rfl (fun _ => rfl) ?_
    simp only [Act.put, Xa, Xz, Xs]
    refine wl_val (.bool false) rfl (fun _ => rfl) ?_
    simp only [Act.put, Xa, Xz, Xs]
    refine wl_skip rfl ?_
    simp only [Act.put, Xa, Xz, Xs]
    refine wl_skip rfl ?_
    simp only [Act.put, Xa, Xz, Xs]
    refine wl_skip rfl ?_
    simp only [Act.put, Xa, Xz, Xs]
    refine wl_skip rfl ?_
    simp only [Act.put, Xa, Xz, Xs]
    refine wl_skip rfl ?_
    simp only [Act.put, Xa, Xz, Xs]
    refine wl_val (.bool false) rfl (fun _ => rfl) ?_
    simp only [Act.put, Xa, Xz, Xs]
    refine wl_val (.bool false) rfl (fun _ => rfl) ?_
    simp only [Act.put, Xa, Xz, Xs]
    refine wl_skip rfl ?_
    simp only [Act.put, Xa, Xz, Xs]
    refine wl_skip rfl ?_
    simp only [Act.put, Xa, Xz, Xs]
    refine wl_skip rfl ?_
    simp only [Act.put, Xa, Xz, Xs]
    refine wl_val (.bool false) rfl (fun _ => rfl) ?_
    simp only [Act.put, Xa, Xz, Xs]
    refine wl_val (.bool false) rfl (fun _ => rfl) ?_
    simp only [Act.put, Xa, Xz, Xs]
    refine wl_skip rfl ?_
    simp only [Act.put, Xa, Xz, Xs]
    refine wl_skip rfl ?_
    simp only [Act.put, Xa, Xz, Xs]
    refine wl_val (.bool false) rfl (fun _ => rfl) ?_
    simp only [Act.put, Xa, Xz, Xs]
    refine wl_val (.bool false) rfl (fun _ => rfl) ?_
    simp only [Act.put, Xa, Xz, Xs]
    refine wl_skip rfl ?_
    simp only [Act.put, Xa, Xz, Xs]
    refine wl_skip rfl ?_
    simp only [Act.put, Xa, Xz, Xs]
    refine wl_val (.bool false) rfl (fun _ => rfl) ?_
    simp only [Act.put, Xa, Xz, Xs]
    refine wl_val (.bool false) rfl (fun _ => rfl) ?_
    simp only [Act.put, Xa, Xz, Xs]
    refine wl_skip rfl ?_
    simp only [Act.put, Xa, Xz, Xs]
    refine wl_skip rfl ?_
    simp only [Act.put, Xa, Xz, Xs]
    refine wl_val (.bool false) rfl (fun _ => rfl) ?_
    simp only [Act.put, Xa, Xz, Xs]
    refine wl_val (.bool false) rfl (fun _ => rfl) ?_
    simp only [Act.put, Xa, Xz, Xs]
    refine wl_skip rfl ?_
    simp only [Act.put, Xa, Xz, Xs]
    refine wl_skip rfl ?_
    simp only [Act.put, Xa, Xz, Xs]
    refine wl_val (.bool false) rfl (fun _ => rfl) ?_
    simp only [Act.put, Xa, Xz, Xs]
    refine wl_val (.bool false) rfl (fun _ => rfl) ?_
    simp only [Act.put, Xa, Xz, Xs]
    refine wl_nil ?_
    refine we_then ?_
    refine wc_ret ?_
    refine we_ret1 (.bool false) rfl rfl rfl (fun w1 hE => ?_)
    exact ⟨by rw [mayW_no (by omega)], hE.below⟩
   ·
    skip
    have p5 : b ≤ 8388608 := of_decide_eq_true h5
    refine wl_val (.pointer (some ⟨g2, 0, none⟩)) rfl (fun _ => by go_simp) ?_
    simp only [Act.put, Xa, Xz, Xs]
    refine wl_cell 2 (.tmp 25) (.int .i64 x) (own_row 0 rfl) rfl rfl rfl rfl Try.isAgg2 ?_
    simp only [Act.put, Xa, Xz, Xs]
    refine wl_val (.bool (decide (-17592186044416 ≤ x))) rfl (fun w => run_cmp rfl rfl rfl Try.underlying2 rfl w) ?_
    simp only [Act.put, Xa, Xz, Xs]
    refine wl_val (.bool (decide (-17592186044416 ≤ x))) rfl (fun _ => rfl) ?_
    simp only [Act.put, Xa, Xz, Xs]
    refine wl_val (.bool (decide (-17592186044416 ≤ x))) rfl (fun _ => rfl) ?_
    simp only [Act.put, Xa, Xz, Xs]
    cases h6 : (decide (-17592186044416 ≤ x))
    ·
     skip
     have p6 : ¬ (-17592186044416 ≤ x) := of_decide_eq_false h6
     refine wl_skip rfl ?_
     simp only [Act.put, Xa, Xz, Xs]
     refine wl_skip rfl ?_
     simp only [Act.put, Xa, Xz, Xs]
     refine wl_skip rfl ?_
     simp only [Act.put, Xa, Xz, Xs]
     refine wl_skip rfl ?_
     simp only [Act.put, Xa, Xz, Xs]
     refine wl_skip rfl ?_
     simp only [Act.put, Xa, Xz, Xs]
     refine wl_val (.bool false) rfl (fun _ => rfl) ?_
     simp only [Act.put, Xa, Xz, Xs]
     refine wl_val (.bool false) rfl (fun _ => rfl) ?_
     simp only [Act.put, Xa, Xz, Xs]
     refine wl_skip rfl ?_
     simp only [Act.put, Xa, Xz, Xs]
     refine wl_skip rfl ?_
     simp only [Act.put, Xa, Xz, Xs]
     refine wl_skip rfl ?_
     simp only [Act.put, Xa, Xz, Xs]
     refine wl_val (.bool false) rfl (fun _ => rfl) ?_
     simp only [Act.put, Xa, Xz, Xs]
     refine wl_val (.bool false) rfl (fun _ => rfl) ?_
     simp only [Act.put, Xa, Xz, Xs]
     refine wl_skip rfl ?_
     simp only [Act.put, Xa, Xz, Xs]
     refine wl_skip rfl ?_
     simp only [Act.put, Xa, Xz, Xs]
     refine wl_val (.bool false) rfl (fun _ => rfl) ?_
     simp only [Act.put, Xa, Xz, Xs]
     refine wl_val (.bool false) rfl (fun _ => rfl) ?_
     simp only [Act.put, Xa, Xz, Xs]
     refine wl_skip rfl ?_
     simp only [Act.put, Xa, Xz, Xs]
     refine wl_skip rfl ?_
     simp only [Act.put, Xa, Xz, Xs]
     refine wl_val (.bool false) rfl (fun _ => rfl) ?_
     simp only [Act.put, Xa, Xz, Xs]
     refine wl_val (.bool false) rfl (fun _ => rfl) ?_
     simp only [Act.put, Xa, Xz, Xs]
     refine wl_skip rfl ?_
     simp only [Act.put, Xa, Xz, Xs]
     refine wl_skip rfl ?_
     simp only [Act.put, Xa, Xz, Xs]
     refine wl_val (.bool false) rfl (fun _ => rfl) ?_
     simp only [Act.put, Xa, Xz, Xs]
     refine wl_val (.bool false) rfl (fun _ => rfl) ?_
     simp only [Act.put, Xa, Xz, Xs]
     refine wl_skip rfl ?_
     simp only [Act.put, Xa, Xz, Xs]
     refine wl_skip rfl ?_
     simp only [Act.put, Xa, Xz, Xs]
     refine wl_val (.bool false) rfl (fun _ => rfl) ?_
     simp only [Act.put, Xa, Xz, Xs]
     refine wl_val (.bool false) rfl (fun _ => rfl) ?_
     simp only [Act.put, Xa, Xz, Xs]
     refine wl_nil ?_
     refine we_then ?_
     refine wc_ret ?_
     refine we_ret1 (.bool false) rfl rfl rfl (fun w1 hE => ?_)
     exact ⟨by rw [mayW_no (by omega)], hE.below⟩
    ·
     skip
     have p6 : -17592186044416 ≤ x := of_decide_eq_true h6
     refine wl_val (.pointer (some ⟨g2, 0, none⟩)) rfl (fun _ => by go_simp) ?_
     simp only [Act.put, Xa, Xz, Xs]
     refine wl_cell 2 (.tmp 30) (.int .i64 x) (own_row 0 rfl) rfl rfl rfl rfl Try.isAgg2 ?_
     simp only [Act.put, Xa, Xz, Xs]
     refine wl_val (.pointer (some ⟨g2, 1, none⟩)) rfl (fun _ => by go_simp) ?_
     simp only [Act.put, Xa, Xz, Xs]
     refine wl_cell 2 (.tmp 32) (.int .i64 y) (own_row 0 rfl) rfl rfl rfl rfl Try.isAgg2 ?_
     simp only [Act.put, Xa, Xz, Xs]
     refine wl_val (.bool (decide (x ≤ y))) rfl (fun w => run_cmp rfl rfl rfl Try.underlying2 rfl w) ?_
     simp only [Act.put, Xa, Xz, Xs]
     refine wl_val (.bool (decide (x ≤ y))) rfl (fun _ => rfl) ?_
     simp only [Act.put, Xa, Xz, Xs]
     refine wl_val (.bool (decide (x ≤ y))) rfl (fun _ => rfl) ?_
     simp only [Act.put, Xa, Xz, Xs]
     cases h7 : (decide (x ≤ y))
     ·
      skip
      have p7 : ¬ (x ≤ y) := of_decide_eq_false h7
      refine wl_skip rfl ?_
      simp only [Act.put, Xa, Xz, Xs]
      refine wl_skip rfl ?_
      simp only [Act.put, Xa, Xz, Xs]
      refine wl_skip rfl ?_
      simp only [Act.put, Xa, Xz, Xs]
      refine wl_val (.bool false) rfl (fun _ => rfl) ?_
      simp only [Act.put, Xa, Xz, Xs]
      refine wl_val (.bool false) rfl (fun _ => rfl) ?_
      simp only [Act.put, Xa, Xz, Xs]
      refine wl_skip rfl ?_
      simp only [Act.put, Xa, Xz, Xs]
      refine wl_skip rfl ?_
      simp only [Act.put, Xa, Xz, Xs]
      refine wl_val (.bool false) rfl (fun _ => rfl) ?_
      simp only [Act.put, Xa, Xz, Xs]
      refine wl_val (.bool false) rfl (fun _ => rfl) ?_
      simp only [Act.put, Xa, Xz, Xs]
      refine wl_skip rfl ?_
      simp only [Act.put, Xa, Xz, Xs]
      refine wl_skip rfl ?_
      simp only [Act.put, Xa, Xz, Xs]
      refine wl_val (.bool false) rfl (fun _ => rfl) ?_
      simp only [Act.put, Xa, Xz, Xs]
      refine wl_val (.bool false) rfl (fun _ => rfl) ?_
      simp only [Act.put, Xa, Xz, Xs]
      refine wl_skip rfl ?_
      simp only [Act.put, Xa, Xz, Xs]
      refine wl_skip rfl ?_
      simp only [Act.put, Xa, Xz, Xs]
      refine wl_val (.bool false) rfl (fun _ => rfl) ?_
      simp only [Act.put, Xa, Xz, Xs]
      refine wl_val (.bool false) rfl (fun _ => rfl) ?_
      simp only [Act.put, Xa, Xz, Xs]
      refine wl_skip rfl ?_
      simp only [Act.put, Xa, Xz, Xs]
      refine wl_skip rfl ?_
      simp only [Act.put, Xa, Xz, Xs]
      refine wl_val (.bool false) rfl (fun _ => rfl) ?_
      simp only [Act.put, Xa, Xz, Xs]
      refine wl_val (.bool false) rfl (fun _ => rfl) ?_
      simp only [Act.put, Xa, Xz, Xs]
      refine wl_nil ?_
      refine we_then ?_
      refine wc_ret ?_
      refine we_ret1 (.bool false) rfl rfl rfl (fun w1 hE => ?_)
      exact ⟨by rw [mayW_no (by omega)], hE.below⟩
     ·
      skip
      have p7 : x ≤ y := of_decide_eq_true h7
      refine wl_val (.pointer (some ⟨g2, 1, none⟩)) rfl (fun _ => by go_simp) ?_
      simp only [Act.put, Xa, Xz, Xs]
      refine wl_cell 2 (.tmp 37) (.int .i64 y) (own_row 0 rfl) rfl rfl rfl rfl Try.isAgg2 ?_
      simp only [Act.put, Xa, Xz, Xs]
      refine wl_val (.bool (decide (y ≤ 17592186044416))) rfl (fun w => run_cmp rfl rfl rfl Try.underlying2 rfl w) ?_
      simp only [Act.put, Xa, Xz, Xs]
      refine wl_val (.bool (decide (y ≤ 17592186044416))) rfl (fun _ => rfl) ?_
      simp only [Act.put, Xa, Xz, Xs]
      refine wl_val (.bool (decide (y ≤ 17592186044416))) rfl (fun _ => rfl) ?_
      simp only [Act.put, Xa, Xz, Xs]
      cases h8 : (decide (y ≤ 17592186044416))
      ·
       skip
       have p8 : ¬ (y ≤ 17592186044416) := of_decide_eq_false h8
       refine wl_skip rfl ?_
       simp only [Act.put, Xa, Xz, Xs]
       refine wl_skip rfl ?_
       simp only [Act.put, Xa, Xz, Xs]
       refine wl_val (.bool false) rfl (fun _ => rfl) ?_
       simp only [Act.put, Xa, Xz, Xs]
       refine wl_val (.bool false) rfl (fun _ => rfl) ?_
       simp only [Act.put, Xa, Xz, Xs]
       refine wl_skip rfl ?_
       simp only [Act.put, Xa, Xz, Xs]
       refine wl_skip rfl ?_
       simp only [Act.put, Xa, Xz, Xs]
       refine wl_val (.bool false) rfl (fun _ => rfl) ?_
       simp only [Act.put, Xa, Xz, Xs]
       refine wl_val (.bool false) rfl (fun _ => rfl) ?_
       simp only [Act.put, Xa, Xz, Xs]
       refine wl_skip rfl ?_
       simp only [Act.put, Xa, Xz, Xs]
       refine wl_skip rfl ?_
       simp only [Act.put, Xa, Xz, Xs]
       refine wl_val (.bool false) rfl (fun _ => rfl) ?_
       simp only [Act.put, Xa, Xz, Xs]
       refine wl_val (.bool false) rfl (fun _ => rfl) ?_
       simp only [Act.put, Xa, Xz, Xs]
       refine wl_skip rfl ?_
       simp only [Act.put, Xa, Xz, Xs]
       refine wl_skip rfl ?_
       simp only [Act.put, Xa, Xz, Xs]
       refine wl_val (.bool false) rfl (fun _ => rfl) ?_
       simp only [Act.put, Xa, Xz, Xs]
       refine wl_val (.bool false) rfl (fun _ => rfl) ?_
       simp only [Act.put, Xa, Xz, Xs]
       refine wl_nil ?_
       refine we_then ?_
       refine wc_ret ?_
       refine we_ret1 (.bool false) rfl rfl rfl (fun w1 hE => ?_)
       exact ⟨by rw [mayW_no (by omega)], hE.below⟩
      ·
       skip
       have p8 : y ≤ 17592186044416 := of_decide_eq_true h8
       refine wl_val (.int .i64 p) rfl (fun _ => rfl) ?_
       simp only [Act.put, Xa, Xz, Xs]
       refine wl_val (.bool (decide (1 ≤ p))) rfl (fun w => run_cmp rfl rfl rfl Try.underlying2 rfl w) ?_
       simp only [Act.put, Xa, Xz, Xs]
       refine wl_val (.bool (decide (1 ≤ p))) rfl (fun _ => rfl) ?_
       simp only [Act.put, Xa, Xz, Xs]
       refine wl_val (.bool (decide (1 ≤ p))) rfl (fun _ => rfl) ?_
       simp only [Act.put, Xa, Xz, Xs]
       cases h9 : (decide (1 ≤ p))
       ·
        skip
        have p9 : ¬ (1 ≤ p) := of_decide_eq_false h9
        refine wl_skip rfl ?_
        simp only [Act.put, Xa, Xz, Xs]
        refine wl_skip rfl ?_
        simp only [Act.put, Xa, Xz, Xs]
        refine wl_val (.bool false) rfl (fun _ => rfl) ?_
        simp only [Act.put, Xa, Xz, Xs]
        refine wl_val (.bool false) rfl (fun _ => rfl) ?_
        simp only [Act.put, Xa, Xz, Xs]
        refine wl_skip rfl ?_
        simp only [Act.put, Xa, Xz, Xs]
        refine wl_skip rfl ?_
        simp only [Act.put, Xa, Xz, Xs]
        refine wl_val (.bool false) rfl (fun _ => rfl) ?_
        simp only [Act.put, Xa, Xz, Xs]
        refine wl_val (.bool false) rfl (fun _ => rfl) ?_
        simp only [Act.put, Xa, Xz, Xs]
        refine wl_skip rfl ?_
        simp only [Act.put, Xa, Xz, Xs]
        refine wl_skip rfl ?_
        simp only [Act.put, Xa, Xz, Xs]
        refine wl_val (.bool false) rfl (fun _ => rfl) ?_
        simp only [Act.put, Xa, Xz, Xs]
        refine wl_val (.bool false) rfl (fun _ => rfl) ?_
        simp only [Act.put, Xa, Xz, Xs]
        refine wl_nil ?_
        refine we_then ?_
        refine wc_ret ?_
        refine we_ret1 (.bool false) rfl rfl rfl (fun w1 hE => ?_)
        exact ⟨by rw [mayW_no (by omega)], hE.below⟩
       ·
        skip
        have p9 : 1 ≤ p := of_decide_eq_true h9
        refine wl_val (.int .i64 p) rfl (fun _ => rfl) ?_
        simp only [Act.put, Xa, Xz, Xs]
        refine wl_val (.bool (decide (p ≤ 1024))) rfl (fun w => run_cmp rfl rfl rfl Try.underlying2 rfl w) ?_
        simp only [Act.put, Xa, Xz, Xs]
        refine wl_val (.bool (decide (p ≤ 1024))) rfl (fun _ => rfl) ?_
        simp only [Act.put, Xa, Xz, Xs]
        refine wl_val (.bool (decide (p ≤ 1024))) rfl (fun _ => rfl) ?_
        simp only [Act.put, Xa, Xz, Xs]
        cases h10 : (decide (p ≤ 1024))
        ·
         skip
         have p10 : ¬ (p ≤ 1024) := of_decide_eq_false h10
         refine wl_skip rfl ?_
         simp only [Act.put, Xa, Xz, Xs]
         refine wl_skip rfl ?_
         simp only [Act.put, Xa, Xz, Xs]
         refine wl_val (.bool false) rfl (fun _ => rfl) ?_
         simp only [Act.put, Xa, Xz, Xs]
         refine wl_val (.bool false) rfl (fun _ => rfl) ?_
         simp only [Act.put, Xa, Xz, Xs]
         refine wl_skip rfl ?_
         simp only [Act.put, Xa, Xz, Xs]
         refine wl_skip rfl ?_
         simp only [Act.put, Xa, Xz, Xs]
         refine wl_val (.bool false) rfl (fun _ => rfl) ?_
         simp only [Act.put, Xa, Xz, Xs]
         refine wl_val (.bool false) rfl (fun _ => rfl) ?_
         simp only [Act.put, Xa, Xz, Xs]
         refine wl_nil ?_
         refine we_then ?_
         refine wc_ret ?_
         refine we_ret1 (.bool false) rfl rfl rfl (fun w1 hE => ?_)
         exact ⟨by rw [mayW_no (by omega)], hE.below⟩
        ·
         skip
         have p10 : p ≤ 1024 := of_decide_eq_true h10
         refine wl_val (.int .i64 n) rfl (fun _ => rfl) ?_
         simp only [Act.put, Xa, Xz, Xs]
         refine wl_val (.bool (decide (-1099511627776 ≤ n))) rfl (fun w => run_cmp rfl rfl rfl Try.underlying2 rfl w) ?_
         simp only [Act.put, Xa, Xz, Xs]
         refine wl_val (.bool (decide (-1099511627776 ≤ n))) rfl (fun _ => rfl) ?_
         simp only [Act.put, Xa, Xz, Xs]
         refine wl_val (.bool (decide (-1099511627776 ≤ n))) rfl (fun _ => rfl) ?_
         simp only [Act.put, Xa, Xz, Xs]
         cases h11 : (decide (-1099511627776 ≤ n))
         ·
          skip
          have p11 : ¬ (-1099511627776 ≤ n) := of_decide_eq_false h11
          refine wl_skip rfl ?_
          simp only [Act.put, Xa, Xz, Xs]
          refine wl_skip rfl ?_
          simp only [Act.put, Xa, Xz, Xs]
          refine wl_val (.bool false) rfl (fun _ => rfl) ?_
          simp only [Act.put, Xa, Xz, Xs]
          refine wl_val (.bool false) rfl (fun _ => rfl) ?_
          simp only [Act.put, Xa, Xz, Xs]
          refine wl_nil ?_
          refine we_then ?_
          refine wc_ret ?_
          refine we_ret1 (.bool false) rfl rfl rfl (fun w1 hE => ?_)
          exact ⟨by rw [mayW_no (by omega)], hE.below⟩
         ·
          skip
          have p11 : -1099511627776 ≤ n := of_decide_eq_true h11
          refine wl_val (.int .i64 n) rfl (fun _ => rfl) ?_
          simp only [Act.put, Xa, Xz, Xs]
          refine wl_val (.bool (decide (n ≤ 1099511627776))) rfl (fun w => run_cmp rfl rfl rfl Try.underlying2 rfl w) ?_
          simp only [Act.put, Xa, Xz, Xs]
          refine wl_val (.bool (decide (n ≤ 1099511627776))) rfl (fun _ => rfl) ?_
          simp only [Act.put, Xa, Xz, Xs]
          refine wl_val (.bool (decide (n ≤ 1099511627776))) rfl (fun _ => rfl) ?_
          simp only [Act.put, Xa, Xz, Xs]
          refine wl_nil ?_
          refine we_then ?_
          refine wc_ret ?_
          refine we_ret1 (.bool (decide (n ≤ 1099511627776))) rfl rfl rfl (fun w1 hE => ?_)
          exact ⟨by rw [show mayW a b x y p n = (decide (n ≤ 1099511627776)) from by by_cases h9 : n ≤ 1099511627776; (rw [mayW_yes (by omega)]; exact (decide_eq_true h9).symm); (rw [mayW_no (by omega)]; exact (decide_eq_false h9).symm)], hE.below⟩
theorem has_b (a b x : Int) (w : World) :
  Calls Try.prog 11 #[.agg #[.int .i64 a, .int .i64 b], .int .i64 x] w fun e w' => e = .returned (.bool (decide (a ≤ x) && decide (x ≤ b))) ∧ Below w.heap.size w w' := Spn.has_any a b x w
end Go.Proofs.Ytcelmgkjkdbliaa.Whlw
