/-
 The reference of layer 16 (wheels). Conditions: what the document promises it for.
-/
import Derived.Test.YtcelmgkjkdbliaaWh
import Derived.Test.YtcelmgkjkdbliaaSnref
namespace Go.Proofs.Ytcelmgkjkdbliaa.Whref
open Go.ChangeShapes Go.WideShapes Go.ChangeAt Go.RowKit
open Arr Steady Sx Sw Sl Sb Sc Si Sj Sk Cf Sn Snref Wh
set_option linter.unusedVariables false
set_option linter.unusedSimpArgs false
set_option maxRecDepth 100000

theorem wp_in {v p : Int} (h1 : -17592186044416 ≤ v) (h2 : v ≤ 17592186044416) (h3 : 1 ≤ p) (h4 : p ≤ 1024) : -18014398509481984 ≤ v * p ∧ v * p ≤ 18014398509481984 := by
 have k1 : v * p ≤ 17592186044416 * p := Int.mul_le_mul_of_nonneg_right h2 (by omega)
 have k2 : -17592186044416 * p ≤ v * p := Int.mul_le_mul_of_nonneg_right h1 (by omega)
 omega
set_option maxHeartbeats 4000000 in
theorem learn_ref (lo hi x y p n : Int) (w : World) (h1 : 1 ≤ lo) (h2 : lo ≤ hi) (h3 : hi ≤ 8388608) (h4 : -17592186044416 ≤ x) (h5 : x ≤ y) (h6 : y ≤ 17592186044416) (h7 : 1 ≤ p) (h8 : p ≤ 1024) (h9 : -1099511627776 ≤ n) (h10 : n ≤ 1099511627776) :
  Calls Try.prog 10 #[.int .i64 lo, .int .i64 hi, .int .i64 x, .int .i64 y, .int .i64 p, .int .i64 n] w fun e w' => e = .returned (.tuple #[.int .i64 (learn lo hi x y p n).a, .int .i64 (learn lo hi x y p n).b, .bool (learn lo hi x y p n).ok]) ∧ Below w.heap.size w w' := by
 have m1 := wp_in (v := x) (p := p) (by omega) (by omega) (by omega) (by omega)
 have m2 := wp_in (v := y) (p := p) (by omega) (by omega) (by omega) (by omega)
 have m3 := wp_in (v := -x) (p := p) (by omega) (by omega) (by omega) (by omega)
 have m4 := wp_in (v := -y) (p := p) (by omega) (by omega) (by omega) (by omega)
 refine calls_sx Try.func10 rfl ?_
 simp only [Try.ntmps10, List.size_toArray, List.length_cons, List.length_nil, Nat.reduceAdd, Nat.reduceSub, Array.replicate_succ, Array.replicate_zero, List.push_toArray, List.append_toArray, List.nil_append, List.cons_append]
 refine wc_seq ?_
 refine wc_region ?_
 refine wl_val (.int .i64 0) rfl (fun _ => rfl) ?_
 simp only [Act.put, Xa, Xz, Xs]
 refine wl_val (.int .i64 0) rfl (fun _ => rfl) ?_
 simp only [Act.put, Xa, Xz, Xs]
 refine wl_val (.bool false) rfl (fun _ => rfl) ?_
 simp only [Act.put, Xa, Xz, Xs]
 refine wl_nil ?_
 refine we_then ?_
 refine wc_seq ?_
 refine wc_seq ?_
 refine wc_region ?_
 refine wl_val (.int .i64 n) rfl (fun _ => rfl) ?_
 simp only [Act.put, Xa, Xz, Xs]
 refine wl_val (.bool (decide (n < 0))) rfl (fun w => run_cmp rfl rfl rfl Try.underlying2 rfl w) ?_
 simp only [Act.put, Xa, Xz, Xs]
 refine wl_nil ?_
 refine we_then ?_
 cases h1 : (decide (n < 0))
 ·
  skip
  have p1 : ¬ (n < 0) := of_decide_eq_false h1
  refine wc_false rfl ?_
  refine wc_skip ?_
  refine we_then ?_
  refine wc_seq ?_
  refine wc_seq ?_
  refine wc_region ?_
  refine wl_val (.int .i64 n) rfl (fun _ => rfl) ?_
  simp only [Act.put, Xa, Xz, Xs]
  refine wl_val (.bool (decide (n < 2))) rfl (fun w => run_cmp rfl rfl rfl Try.underlying2 rfl w) ?_
  simp only [Act.put, Xa, Xz, Xs]
  refine wl_val (.bool (decide (n < 2))) rfl (fun _ => rfl) ?_
  simp only [Act.put, Xa, Xz, Xs]
  cases h2 : (decide (n < 2))
  ·
   skip
   have p2 : ¬ (n < 2) := of_decide_eq_false h2
   refine wl_val (.int .i64 x) rfl (fun _ => rfl) ?_
   simp only [Act.put, Xa, Xz, Xs]
   refine wl_val (.bool (decide (x ≤ 0))) rfl (fun w => run_cmp rfl rfl rfl Try.underlying2 rfl w) ?_
   simp only [Act.put, Xa, Xz, Xs]
   refine wl_val (.bool (decide (x ≤ 0))) rfl (fun _ => rfl) ?_
   simp only [Act.put, Xa, Xz, Xs]
   refine wl_nil ?_
   refine we_then ?_
   cases h3 : (decide (x ≤ 0))
   ·
    skip
    have p3 : ¬ (x ≤ 0) := of_decide_eq_false h3
    refine wc_false rfl ?_
    refine wc_skip ?_
    refine we_then ?_
    refine wc_seq ?_
    refine wc_region ?_
    refine wl_val (.int .i64 x) rfl (fun _ => rfl) ?_
    simp only [Act.put, Xa, Xz, Xs]
    refine wl_val (.int .i64 p) rfl (fun _ => rfl) ?_
    simp only [Act.put, Xa, Xz, Xs]
    refine wl_val (.int .i64 (x * p)) rfl (fun w => run_arith (op := .mul) rfl rfl rfl Try.underlying2 (congrArg some (i64_in (by omega) (by omega))) w) ?_
    simp only [Act.put, Xa, Xz, Xs]
    refine wl_val (.int .i64 n) rfl (fun _ => rfl) ?_
    simp only [Act.put, Xa, Xz, Xs]
    refine wl_val (.int .i64 (n + 1)) rfl (fun w => run_arith (op := .add) rfl rfl rfl Try.underlying2 (congrArg some (i64_in (by omega) (by omega))) w) ?_
    simp only [Act.put, Xa, Xz, Xs]
    refine wl_call 13 #[.int .i64 (x * p), .int .i64 (n + 1)] (.int .i64 ((x * p) / (n + 1))) rfl (fun _ => by go_simp) (fun W => Snref.down_any (x * p) (n + 1) W (by omega) (by omega) (by omega)) ?_
    simp only [Act.put, Xa, Xz, Xs]
    refine wl_val (.int .i64 ((x * p) / (n + 1))) rfl (fun _ => rfl) ?_
    simp only [Act.put, Xa, Xz, Xs]
    refine wl_nil ?_
    refine we_then ?_
    refine wc_seq ?_
    refine wc_region ?_
    refine wl_val (.int .i64 y) rfl (fun _ => rfl) ?_
    simp only [Act.put, Xa, Xz, Xs]
    refine wl_val (.int .i64 p) rfl (fun _ => rfl) ?_
    simp only [Act.put, Xa, Xz, Xs]
    refine wl_val (.int .i64 (y * p)) rfl (fun w => run_arith (op := .mul) rfl rfl rfl Try.underlying2 (congrArg some (i64_in (by omega) (by omega))) w) ?_
    simp only [Act.put, Xa, Xz, Xs]
    refine wl_val (.int .i64 n) rfl (fun _ => rfl) ?_
    simp only [Act.put, Xa, Xz, Xs]
    refine wl_val (.int .i64 (n - 1)) rfl (fun w => run_arith (op := .sub) rfl rfl rfl Try.underlying2 (congrArg some (i64_in (by omega) (by omega))) w) ?_
    simp only [Act.put, Xa, Xz, Xs]
    refine wl_call 14 #[.int .i64 (y * p), .int .i64 (n - 1)] (.int .i64 (up (y * p) (n - 1))) rfl (fun _ => by go_simp) (fun W => Snref.up_any (y * p) (n - 1) W (by omega) (by omega) (by omega)) ?_
    simp only [Act.put, Xa, Xz, Xs]
    refine wl_val (.int .i64 (up (y * p) (n - 1))) rfl (fun _ => rfl) ?_
    simp only [Act.put, Xa, Xz, Xs]
    refine wl_nil ?_
    refine we_then ?_
    refine wc_seq ?_
    refine wc_seq ?_
    refine wc_region ?_
    refine wl_val (.int .i64 ((x * p) / (n + 1))) rfl (fun _ => rfl) ?_
    simp only [Act.put, Xa, Xz, Xs]
    refine wl_val (.int .i64 lo) rfl (fun _ => rfl) ?_
    simp only [Act.put, Xa, Xz, Xs]
    refine wl_val (.bool (decide (((x * p) / (n + 1)) < lo))) rfl (fun w => run_cmp rfl rfl rfl Try.underlying2 rfl w) ?_
    simp only [Act.put, Xa, Xz, Xs]
    refine wl_nil ?_
    refine we_then ?_
    cases h4 : (decide (((x * p) / (n + 1)) < lo))
    ·
     skip
     have p4 : ¬ (((x * p) / (n + 1)) < lo) := of_decide_eq_false h4
     refine wc_false rfl ?_
     refine wc_skip ?_
     refine we_then ?_
     refine wc_seq ?_
     refine wc_seq ?_
     refine wc_region ?_
     refine wl_val (.int .i64 (up (y * p) (n - 1))) rfl (fun _ => rfl) ?_
     simp only [Act.put, Xa, Xz, Xs]
     refine wl_val (.int .i64 hi) rfl (fun _ => rfl) ?_
     simp only [Act.put, Xa, Xz, Xs]
     refine wl_val (.bool (decide (hi < (up (y * p) (n - 1))))) rfl (fun w => run_cmp rfl rfl rfl Try.underlying2 rfl w) ?_
     simp only [Act.put, Xa, Xz, Xs]
     refine wl_nil ?_
     refine we_then ?_
     cases h5 : (decide (hi < (up (y * p) (n - 1))))
     ·
      skip
      have p5 : ¬ (hi < (up (y * p) (n - 1))) := of_decide_eq_false h5
      refine wc_false rfl ?_
      refine wc_skip ?_
      refine we_then ?_
      refine wc_seq ?_
      refine wc_seq ?_
      refine wc_region ?_
      refine wl_val (.int .i64 ((x * p) / (n + 1))) rfl (fun _ => rfl) ?_
      simp only [Act.put, Xa, Xz, Xs]
      refine wl_val (.int .i64 (up (y * p) (n - 1))) rfl (fun _ => rfl) ?_
      simp only [Act.put, Xa, Xz, Xs]
      refine wl_val (.bool (decide ((up (y * p) (n - 1)) < ((x * p) / (n + 1))))) rfl (fun w => run_cmp rfl rfl rfl Try.underlying2 rfl w) ?_
      simp only [Act.put, Xa, Xz, Xs]
      refine wl_nil ?_
      refine we_then ?_
      cases h6 : (decide ((up (y * p) (n - 1)) < ((x * p) / (n + 1))))
      ·
       skip
       have p6 : ¬ ((up (y * p) (n - 1)) < ((x * p) / (n + 1))) := of_decide_eq_false h6
       refine wc_false rfl ?_
       refine wc_skip ?_
       refine we_then ?_
       refine wc_seq ?_
       refine wc_region ?_
       refine wl_val (.int .i64 ((x * p) / (n + 1))) rfl (fun _ => rfl) ?_
       simp only [Act.put, Xa, Xz, Xs]
       refine wl_val (.int .i64 (up (y * p) (n - 1))) rfl (fun _ => rfl) ?_
       simp only [Act.put, Xa, Xz, Xs]
       refine wl_val (.int .i64 ((x * p) / (n + 1))) rfl (fun _ => rfl) ?_
       simp only [Act.put, Xa, Xz, Xs]
       refine wl_val (.int .i64 (up (y * p) (n - 1))) rfl (fun _ => rfl) ?_
       simp only [Act.put, Xa, Xz, Xs]
       refine wl_val (.bool true) rfl (fun _ => rfl) ?_
       simp only [Act.put, Xa, Xz, Xs]
       refine wl_nil ?_
       refine we_then ?_
       refine wc_ret ?_
       refine we_ret3 (.int .i64 ((x * p) / (n + 1))) (.int .i64 (up (y * p) (n - 1))) (.bool true) rfl rfl rfl rfl rfl (fun w1 hE => ?_)
       have e0 : learn lo hi x y p n = ⟨((x * p) / (n + 1)), (up (y * p) (n - 1)), true⟩ := by
        unfold learn
        rw [if_neg (by omega)]
        unfold fwd
        rw [if_neg (by omega), if_neg (by omega)]
        rw [show max ((x * p) / (n + 1)) lo = ((x * p) / (n + 1)) by omega, show min (up (y * p) (n - 1)) hi = (up (y * p) (n - 1)) by omega]
       exact ⟨by rw [e0], hE.below⟩
      ·
       skip
       have p6 : (up (y * p) (n - 1)) < ((x * p) / (n + 1)) := of_decide_eq_true h6
       refine wc_true rfl ?_
       refine wc_seq ?_
       refine wc_region ?_
       refine wl_val (.int .i64 lo) rfl (fun _ => rfl) ?_
       simp only [Act.put, Xa, Xz, Xs]
       refine wl_val (.int .i64 hi) rfl (fun _ => rfl) ?_
       simp only [Act.put, Xa, Xz, Xs]
       refine wl_val (.int .i64 lo) rfl (fun _ => rfl) ?_
       simp only [Act.put, Xa, Xz, Xs]
       refine wl_val (.int .i64 hi) rfl (fun _ => rfl) ?_
       simp only [Act.put, Xa, Xz, Xs]
       refine wl_val (.bool false) rfl (fun _ => rfl) ?_
       simp only [Act.put, Xa, Xz, Xs]
       refine wl_nil ?_
       refine we_then ?_
       refine wc_ret ?_
       refine we_then_ret ?_
       refine we_ret3 (.int .i64 lo) (.int .i64 hi) (.bool false) rfl rfl rfl rfl rfl (fun w1 hE => ?_)
       have e0 : learn lo hi x y p n = ⟨lo, hi, false⟩ := by
        unfold learn
        rw [if_neg (by omega)]
        unfold fwd
        rw [if_neg (by omega), if_pos (by omega)]
       exact ⟨by rw [e0], hE.below⟩
     ·
      skip
      have p5 : hi < (up (y * p) (n - 1)) := of_decide_eq_true h5
      refine wc_true rfl ?_
      refine wc_region ?_
      refine wl_val (.int .i64 hi) rfl (fun _ => rfl) ?_
      simp only [Act.put, Xa, Xz, Xs]
      refine wl_val (.int .i64 hi) rfl (fun _ => rfl) ?_
      simp only [Act.put, Xa, Xz, Xs]
      refine wl_nil ?_
      refine we_then ?_
      refine wc_seq ?_
      refine wc_seq ?_
      refine wc_region ?_
      refine wl_val (.int .i64 ((x * p) / (n + 1))) rfl (fun _ => rfl) ?_
      simp only [Act.put, Xa, Xz, Xs]
      refine wl_val (.int .i64 hi) rfl (fun _ => rfl) ?_
      simp only [Act.put, Xa, Xz, Xs]
      refine wl_val (.bool (decide (hi < ((x * p) / (n + 1))))) rfl (fun w => run_cmp rfl rfl rfl Try.underlying2 rfl w) ?_
      simp only [Act.put, Xa, Xz, Xs]
      refine wl_nil ?_
      refine we_then ?_
      cases h7 : (decide (hi < ((x * p) / (n + 1))))
      ·
       skip
       have p7 : ¬ (hi < ((x * p) / (n + 1))) := of_decide_eq_false h7
       refine wc_false rfl ?_
       refine wc_skip ?_
       refine we_then ?_
       refine wc_seq ?_
       refine wc_region ?_
       refine wl_val (.int .i64 ((x * p) / (n + 1))) rfl (fun _ => rfl) ?_
       simp only [Act.put, Xa, Xz, Xs]
       refine wl_val (.int .i64 hi) rfl (fun _ => rfl) ?_
       simp only [Act.put, Xa, Xz, Xs]
       refine wl_val (.int .i64 ((x * p) / (n + 1))) rfl (fun _ => rfl) ?_
       simp only [Act.put, Xa, Xz, Xs]
       refine wl_val (.int .i64 hi) rfl (fun _ => rfl) ?_
       simp only [Act.put, Xa, Xz, Xs]
       refine wl_val (.bool true) rfl (fun _ => rfl) ?_
       simp only [Act.put, Xa, Xz, Xs]
       refine wl_nil ?_
       refine we_then ?_
       refine wc_ret ?_
       refine we_ret3 (.int .i64 ((x * p) / (n + 1))) (.int .i64 hi) (.bool true) rfl rfl rfl rfl rfl (fun w1 hE => ?_)
       have e0 : learn lo hi x y p n = ⟨((x * p) / (n + 1)), hi, true⟩ := by
        unfold learn
        rw [if_neg (by omega)]
        unfold fwd
        rw [if_neg (by omega), if_neg (by omega)]
        rw [show max ((x * p) / (n + 1)) lo = ((x * p) / (n + 1)) by omega, show min (up (y * p) (n - 1)) hi = hi by omega]
       exact ⟨by rw [e0], hE.below⟩
      ·
       skip
       have p7 : hi < ((x * p) / (n + 1)) := of_decide_eq_true h7
       refine wc_true rfl ?_
       refine wc_seq ?_
       refine wc_region ?_
       refine wl_val (.int .i64 lo) rfl (fun _ => rfl) ?_
       simp only [Act.put, Xa, Xz, Xs]
       refine wl_val (.int .i64 hi) rfl (fun _ => rfl) ?_
       simp only [Act.put, Xa, Xz, Xs]
       refine wl_val (.int .i64 lo) rfl (fun _ => rfl) ?_
       simp only [Act.put, Xa, Xz, Xs]
       refine wl_val (.int .i64 hi) rfl (fun _ => rfl) ?_
       simp only [Act.put, Xa, Xz, Xs]
       refine wl_val (.bool false) rfl (fun _ => rfl) ?_
       simp only [Act.put, Xa, Xz, Xs]
       refine wl_nil ?_
       refine we_then ?_
       refine wc_ret ?_
       refine we_then_ret ?_
       refine we_ret3 (.int .i64 lo) (.int .i64 hi) (.bool false) rfl rfl rfl rfl rfl (fun w1 hE => ?_)
       have e0 : learn lo hi x y p n = ⟨lo, hi, false⟩ := by
        unfold learn
        rw [if_neg (by omega)]
        unfold fwd
        rw [if_neg (by omega), if_pos (by omega)]
       exact ⟨by rw [e0], hE.below⟩
    ·
     skip
     have p4 : ((x * p) / (n + 1)) < lo := of_decide_eq_true h4
     refine wc_true rfl ?_
     refine wc_region ?_
     refine wl_val (.int .i64 lo) rfl (fun _ => rfl) ?_
     simp only [Act.put, Xa, Xz, Xs]
     refine wl_val (.int .i64 lo) rfl (fun _ => rfl) ?_
     simp only [Act.put, Xa, Xz, Xs]
     refine wl_nil ?_
     refine we_then ?_
     refine wc_seq ?_
     refine wc_seq ?_
     refine wc_region ?_
     refine wl_val (.int .i64 (up (y * p) (n - 1))) rfl (fun _ => rfl) ?_
     simp only [Act.put, Xa, Xz, Xs]
     refine wl_val (.int .i64 hi) rfl (fun _ => rfl) ?_
     simp only [Act.put, Xa, Xz, Xs]
     refine wl_val (.bool (decide (hi < (up (y * p) (n - 1))))) rfl (fun w => run_cmp rfl rfl rfl Try.underlying2 rfl w) ?_
     simp only [Act.put, Xa, Xz, Xs]
     refine wl_nil ?_
     refine we_then ?_
     cases h8 : (decide (hi < (up (y * p) (n - 1))))
     ·
      skip
      have p8 : ¬ (hi < (up (y * p) (n - 1))) := of_decide_eq_false h8
      refine wc_false rfl ?_
      refine wc_skip ?_
      refine we_then ?_
      refine wc_seq ?_
      refine wc_seq ?_
      refine wc_region ?_
      refine wl_val (.int .i64 lo) rfl (fun _ => rfl) ?_
      simp only [Act.put, Xa, Xz, Xs]
      refine wl_val (.int .i64 (up (y * p) (n - 1))) rfl (fun _ => rfl) ?_
      simp only [Act.put, Xa, Xz, Xs]
      refine wl_val (.bool (decide ((up (y * p) (n - 1)) < lo))) rfl (fun w => run_cmp rfl rfl rfl Try.underlying2 rfl w) ?_
      simp only [Act.put, Xa, Xz, Xs]
      refine wl_nil ?_
      refine we_then ?_
      cases h9 : (decide ((up (y * p) (n - 1)) < lo))
      ·
       skip
       have p9 : ¬ ((up (y * p) (n - 1)) < lo) := of_decide_eq_false h9
       refine wc_false rfl ?_
       refine wc_skip ?_
       refine we_then ?_
       refine wc_seq ?_
       refine wc_region ?_
       refine wl_val (.int .i64 lo) rfl (fun _ => rfl) ?_
       simp only [Act.put, Xa, Xz, Xs]
       refine wl_val (.int .i64 (up (y * p) (n - 1))) rfl (fun _ => rfl) ?_
       simp only [Act.put, Xa, Xz, Xs]
       refine wl_val (.int .i64 lo) rfl (fun _ => rfl) ?_
       simp only [Act.put, Xa, Xz, Xs]
       refine wl_val (.int .i64 (up (y * p) (n - 1))) rfl (fun _ => rfl) ?_
       simp only [Act.put, Xa, Xz, Xs]
       refine wl_val (.bool true) rfl (fun _ => rfl) ?_
       simp only [Act.put, Xa, Xz, Xs]
       refine wl_nil ?_
       refine we_then ?_
       refine wc_ret ?_
       refine we_ret3 (.int .i64 lo) (.int .i64 (up (y * p) (n - 1))) (.bool true) rfl rfl rfl rfl rfl (fun w1 hE => ?_)
       have e0 : learn lo hi x y p n = ⟨lo, (up (y * p) (n - 1)), true⟩ := by
        unfold learn
        rw [if_neg (by omega)]
        unfold fwd
        rw [if_neg (by omega), if_neg (by omega)]
        rw [show max ((x * p) / (n + 1)) lo = lo by omega, show min (up (y * p) (n - 1)) hi = (up (y * p) (n - 1)) by omega]
       exact ⟨by rw [e0], hE.below⟩
      ·
       skip
       have p9 : (up (y * p) (n - 1)) < lo := of_decide_eq_true h9
       refine wc_true rfl ?_
       refine wc_seq ?_
       refine wc_region ?_
       refine wl_val (.int .i64 lo) rfl (fun _ => rfl) ?_
       simp only [Act.put, Xa, Xz, Xs]
       refine wl_val (.int .i64 hi) rfl (fun _ => rfl) ?_
       simp only [Act.put, Xa, Xz, Xs]
       refine wl_val (.int .i64 lo) rfl (fun _ => rfl) ?_
       simp only [Act.put, Xa, Xz, Xs]
       refine wl_val (.int .i64 hi) rfl (fun _ => rfl) ?_
       simp only [Act.put, Xa, Xz, Xs]
       refine wl_val (.bool false) rfl (fun _ => rfl) ?_
       simp only [Act.put, Xa, Xz, Xs]
       refine wl_nil ?_
       refine we_then ?_
       refine wc_ret ?_
       refine we_then_ret ?_
       refine we_ret3 (.int .i64 lo) (.int .i64 hi) (.bool false) rfl rfl rfl rfl rfl (fun w1 hE => ?_)
       have e0 : learn lo hi x y p n = ⟨lo, hi, false⟩ := by
        unfold learn
        rw [if_neg (by omega)]
        unfold fwd
        rw [if_neg (by omega), if_pos (by omega)]
       exact ⟨by rw [e0], hE.below⟩
     ·
      skip
      have p8 : hi < (up (y * p) (n - 1)) := of_decide_eq_true h8
      refine wc_true rfl ?_
      refine wc_region ?_
      refine wl_val (.int .i64 hi) rfl (fun _ => rfl) ?_
      simp only [Act.put, Xa, Xz, Xs]
      refine wl_val (.int .i64 hi) rfl (fun _ => rfl) ?_
      simp only [Act.put, Xa, Xz, Xs]
      refine wl_nil ?_
      refine we_then ?_
      refine wc_seq ?_
      refine wc_seq ?_
      refine wc_region ?_
      refine wl_val (.int .i64 lo) rfl (fun _ => rfl) ?_
      simp only [Act.put, Xa, Xz, Xs]
      refine wl_val (.int .i64 hi) rfl (fun _ => rfl) ?_
      simp only [Act.put, Xa, Xz, Xs]
      refine wl_val (.bool (decide (hi < lo))) rfl (fun w => run_cmp rfl rfl rfl Try.underlying2 rfl w) ?_
      simp only [Act.put, Xa, Xz, Xs]
      refine wl_nil ?_
      refine we_then ?_
      cases h10 : (decide (hi < lo))
      ·
       skip
       have p10 : ¬ (hi < lo) := of_decide_eq_false h10
       refine wc_false rfl ?_
       refine wc_skip ?_
       refine we_then ?_
       refine wc_seq ?_
       refine wc_region ?_
       refine wl_val (.int .i64 lo) rfl (fun _ => rfl) ?_
       simp only [Act.put, Xa, Xz, Xs]
       refine wl_val (.int .i64 hi) rfl (fun _ => rfl) ?_
       simp only [Act.put, Xa, Xz, Xs]
       refine wl_val (.int .i64 lo) rfl (fun _ => rfl) ?_
       simp only [Act.put, Xa, Xz, Xs]
       refine wl_val (.int .i64 hi) rfl (fun _ => rfl) ?_
       simp only [Act.put, Xa, Xz, Xs]
       refine wl_val (.bool true) rfl (fun _ => rfl) ?_
       simp only [Act.put, Xa, Xz, Xs]
       refine wl_nil ?_
       refine we_then ?_
       refine wc_ret ?_
       refine we_ret3 (.int .i64 lo) (.int .i64 hi) (.bool true) rfl rfl rfl rfl rfl (fun w1 hE => ?_)
       have e0 : learn lo hi x y p n = ⟨lo, hi, true⟩ := by
        unfold learn
        rw [if_neg (by omega)]
        unfold fwd
        rw [if_neg (by omega), if_neg (by omega)]
        rw [show max ((x * p) / (n + 1)) lo = lo by omega, show min (up (y * p) (n - 1)) hi = hi by omega]
       exact ⟨by rw [e0], hE.below⟩
      ·
       skip
       have p10 : hi < lo := of_decide_eq_true h10
       refine wc_true rfl ?_
       refine wc_seq ?_
       refine wc_region ?_
       refine wl_val (.int .i64 lo) rfl (fun _ => rfl) ?_
       simp only [Act.put, Xa, Xz, Xs]
       refine wl_val (.int .i64 hi) rfl (fun _ => rfl) ?_
       simp only [Act.put, Xa, Xz, Xs]
       refine wl_val (.int .i64 lo) rfl (fun _ => rfl) ?_
       simp only [Act.put, Xa, Xz, Xs]
       refine wl_val (.int .i64 hi) rfl (fun _ => rfl) ?_
       simp only [Act.put, Xa, Xz, Xs]
       refine wl_val (.bool false) rfl (fun _ => rfl) ?_
       simp only [Act.put, Xa, Xz, Xs]
       refine wl_nil ?_
       refine we_then ?_
       refine wc_ret ?_
       refine we_then_ret ?_
       refine we_ret3 (.int .i64 lo) (.int .i64 hi) (.bool false) rfl rfl rfl rfl rfl (fun w1 hE => ?_)
       have e0 : learn lo hi x y p n = ⟨lo, hi, false⟩ := by
        unfold learn
        rw [if_neg (by omega)]
        unfold fwd
        rw [if_neg (by omega), if_pos (by omega)]
       exact ⟨by rw [e0], hE.below⟩
   ·
    skip
    have p3 : x ≤ 0 := of_decide_eq_true h3
    refine wc_true rfl ?_
    refine wc_seq ?_
    refine wc_region ?_
    refine wl_val (.int .i64 lo) rfl (fun _ => rfl) ?_
    simp only [Act.put, Xa, Xz, Xs]
    refine wl_val (.int .i64 hi) rfl (fun _ => rfl) ?_
    simp only [Act.put, Xa, Xz, Xs]
    refine wl_val (.int .i64 lo) rfl (fun _ => rfl) ?_
    simp only [Act.put, Xa, Xz, Xs]
    refine wl_val (.int .i64 hi) rfl (fun _ => rfl) ?_
    simp only [Act.put, Xa, Xz, Xs]
    refine wl_val (.bool false) rfl (fun _ => rfl) ?_
    simp only [Act.put, Xa, Xz, Xs]
    refine wl_nil ?_
    refine we_then ?_
    refine wc_ret ?_
    refine we_then_ret ?_
    refine we_ret3 (.int .i64 lo) (.int .i64 hi) (.bool false) rfl rfl rfl rfl rfl (fun w1 hE => ?_)
    have e0 : learn lo hi x y p n = ⟨lo, hi, false⟩ := by
     unfold learn
     rw [if_neg (by omega)]
     unfold fwd
     rw [if_pos (by omega)]
    exact ⟨by rw [e0], hE.below⟩
  ·
   skip
   have p2 : n < 2 := of_decide_eq_true h2
   refine wl_skip rfl ?_
   simp only [Act.put, Xa, Xz, Xs]
   refine wl_skip rfl ?_
   simp only [Act.put, Xa, Xz, Xs]
   refine wl_val (.bool true) rfl (fun _ => rfl) ?_
   simp only [Act.put, Xa, Xz, Xs]
   refine wl_nil ?_
   refine we_then ?_
   refine wc_true rfl ?_
   refine wc_seq ?_
   refine wc_region ?_
   refine wl_val (.int .i64 lo) rfl (fun _ => rfl) ?_
   simp only [Act.put, Xa, Xz, Xs]
   refine wl_val (.int .i64 hi) rfl (fun _ => rfl) ?_
   simp only [Act.put, Xa, Xz, Xs]
   refine wl_val (.int .i64 lo) rfl (fun _ => rfl) ?_
   simp only [Act.put, Xa, Xz, Xs]
   refine wl_val (.int .i64 hi) rfl (fun _ => rfl) ?_
   simp only [Act.put, Xa, Xz, Xs]
   refine wl_val (.bool false) rfl (fun _ => rfl) ?_
   simp only [Act.put, Xa, Xz, Xs]
   refine wl_nil ?_
   refine we_then ?_
   refine wc_ret ?_
   refine we_then_ret ?_
   refine we_ret3 (.int .i64 lo) (.int .i64 hi) (.bool false) rfl rfl rfl rfl rfl (fun w1 hE => ?_)
   have e0 : learn lo hi x y p n = ⟨lo, hi, false⟩ := by
    unfold learn
    rw [if_neg (by omega)]
    unfold fwd
    rw [if_pos (by omega)]
   exact ⟨by rw [e0], hE.below⟩
 ·
  skip
  have p1 : n < 0 := of_decide_eq_true h1
  refine wc_true rfl ?_
  refine wc_seq ?_
  refine wc_region ?_
  refine wl_val (.int .i64 n) rfl (fun _ => rfl) ?_
  simp only [Act.put, Xa, Xz, Xs]
  refine wl_val (.int .i64 (-n)) rfl (fun w => run_neg rfl rfl Try.underlying2 (i64_in (by omega) (by omega)) w) ?_
  simp only [Act.put, Xa, Xz, Xs]
  refine wl_val (.int .i64 (-n)) rfl (fun _ => rfl) ?_
  simp only [Act.put, Xa, Xz, Xs]
  refine wl_nil ?_
  refine we_then ?_
  refine wc_seq ?_
  refine wc_region ?_
  refine wl_val (.int .i64 x) rfl (fun _ => rfl) ?_
  simp only [Act.put, Xa, Xz, Xs]
  refine wl_val (.int .i64 (-x)) rfl (fun w => run_neg rfl rfl Try.underlying2 (i64_in (by omega) (by omega)) w) ?_
  simp only [Act.put, Xa, Xz, Xs]
  refine wl_val (.int .i64 (-x)) rfl (fun _ => rfl) ?_
  simp only [Act.put, Xa, Xz, Xs]
  refine wl_nil ?_
  refine we_then ?_
  refine wc_seq ?_
  refine wc_region ?_
  refine wl_val (.int .i64 y) rfl (fun _ => rfl) ?_
  simp only [Act.put, Xa, Xz, Xs]
  refine wl_val (.int .i64 (-y)) rfl (fun w => run_neg rfl rfl Try.underlying2 (i64_in (by omega) (by omega)) w) ?_
  simp only [Act.put, Xa, Xz, Xs]
  refine wl_val (.int .i64 (-y)) rfl (fun _ => rfl) ?_
  simp only [Act.put, Xa, Xz, Xs]
  refine wl_nil ?_
  refine we_then ?_
  refine wc_region ?_
  refine wl_val (.int .i64 (-x)) rfl (fun _ => rfl) ?_
  simp only [Act.put, Xa, Xz, Xs]
  refine wl_val (.int .i64 (-x)) rfl (fun _ => rfl) ?_
  simp only [Act.put, Xa, Xz, Xs]
  refine wl_nil ?_
  refine we_then ?_
  refine wc_seq ?_
  refine wc_seq ?_
  refine wc_region ?_
  refine wl_val (.int .i64 (-n)) rfl (fun _ => rfl) ?_
  simp only [Act.put, Xa, Xz, Xs]
  refine wl_val (.bool (decide ((-n) < 2))) rfl (fun w => run_cmp rfl rfl rfl Try.underlying2 rfl w) ?_
  simp only [Act.put, Xa, Xz, Xs]
  refine wl_val (.bool (decide ((-n) < 2))) rfl (fun _ => rfl) ?_
  simp only [Act.put, Xa, Xz, Xs]
  cases h11 : (decide ((-n) < 2))
  ·
   skip
   have p11 : ¬ ((-n) < 2) := of_decide_eq_false h11
   refine wl_val (.int .i64 (-y)) rfl (fun _ => rfl) ?_
   simp only [Act.put, Xa, Xz, Xs]
   refine wl_val (.bool (decide ((-y) ≤ 0))) rfl (fun w => run_cmp rfl rfl rfl Try.underlying2 rfl w) ?_
   simp only [Act.put, Xa, Xz, Xs]
   refine wl_val (.bool (decide ((-y) ≤ 0))) rfl (fun _ => rfl) ?_
   simp only [Act.put, Xa, Xz, Xs]
   refine wl_nil ?_
   refine we_then ?_
   cases h12 : (decide ((-y) ≤ 0))
   ·
    skip
    have p12 : ¬ ((-y) ≤ 0) := of_decide_eq_false h12
    refine wc_false rfl ?_
    refine wc_skip ?_
    refine we_then ?_
    refine wc_seq ?_
    refine wc_region ?_
    refine wl_val (.int .i64 (-y)) rfl (fun _ => rfl) ?_
    simp only [Act.put, Xa, Xz, Xs]
    refine wl_val (.int .i64 p) rfl (fun _ => rfl) ?_
    simp only [Act.put, Xa, Xz, Xs]
    refine wl_val (.int .i64 ((-y) * p)) rfl (fun w => run_arith (op := .mul) rfl rfl rfl Try.underlying2 (congrArg some (i64_in (by omega) (by omega))) w) ?_
    simp only [Act.put, Xa, Xz, Xs]
    refine wl_val (.int .i64 (-n)) rfl (fun _ => rfl) ?_
    simp only [Act.put, Xa, Xz, Xs]
    refine wl_val (.int .i64 ((-n) + 1)) rfl (fun w => run_arith (op := .add) rfl rfl rfl Try.underlying2 (congrArg some (i64_in (by omega) (by omega))) w) ?_
    simp only [Act.put, Xa, Xz, Xs]
    refine wl_call 13 #[.int .i64 ((-y) * p), .int .i64 ((-n) + 1)] (.int .i64 (((-y) * p) / ((-n) + 1))) rfl (fun _ => by go_simp) (fun W => Snref.down_any ((-y) * p) ((-n) + 1) W (by omega) (by omega) (by omega)) ?_
    simp only [Act.put, Xa, Xz, Xs]
    refine wl_val (.int .i64 (((-y) * p) / ((-n) + 1))) rfl (fun _ => rfl) ?_
    simp only [Act.put, Xa, Xz, Xs]
    refine wl_nil ?_
    refine we_then ?_
    refine wc_seq ?_
    refine wc_region ?_
    refine wl_val (.int .i64 (-x)) rfl (fun _ => rfl) ?_
    simp only [Act.put, Xa, Xz, Xs]
    refine wl_val (.int .i64 p) rfl (fun _ => rfl) ?_
    simp only [Act.put, Xa, Xz, Xs]
    refine wl_val (.int .i64 ((-x) * p)) rfl (fun w => run_arith (op := .mul) rfl rfl rfl Try.underlying2 (congrArg some (i64_in (by omega) (by omega))) w) ?_
    simp only [Act.put, Xa, Xz, Xs]
    refine wl_val (.int .i64 (-n)) rfl (fun _ => rfl) ?_
    simp only [Act.put, Xa, Xz, Xs]
    refine wl_val (.int .i64 ((-n) - 1)) rfl (fun w => run_arith (op := .sub) rfl rfl rfl Try.underlying2 (congrArg some (i64_in (by omega) (by omega))) w) ?_
    simp only [Act.put, Xa, Xz, Xs]
    refine wl_call 14 #[.int .i64 ((-x) * p), .int .i64 ((-n) - 1)] (.int .i64 (up ((-x) * p) ((-n) - 1))) rfl (fun _ => by go_simp) (fun W => Snref.up_any ((-x) * p) ((-n) - 1) W (by omega) (by omega) (by omega)) ?_
    simp only [Act.put, Xa, Xz, Xs]
    refine wl_val (.int .i64 (up ((-x) * p) ((-n) - 1))) rfl (fun _ => rfl) ?_
    simp only [Act.put, Xa, Xz, Xs]
    refine wl_nil ?_
    refine we_then ?_
    refine wc_seq ?_
    refine wc_seq ?_
    refine wc_region ?_
    refine wl_val (.int .i64 (((-y) * p) / ((-n) + 1))) rfl (fun _ => rfl) ?_
    simp only [Act.put, Xa, Xz, Xs]
    refine wl_val (.int .i64 lo) rfl (fun _ => rfl) ?_
    simp only [Act.put, Xa, Xz, Xs]
    refine wl_val (.bool (decide ((((-y) * p) / ((-n) + 1)) < lo))) rfl (fun w => run_cmp rfl rfl rfl Try.underlying2 rfl w) ?_
    simp only [Act.put, Xa, Xz, Xs]
    refine wl_nil ?_
    refine we_then ?_
    cases h13 : (decide ((((-y) * p) / ((-n) + 1)) < lo))
    ·
     skip
     have p13 : ¬ ((((-y) * p) / ((-n) + 1)) < lo) := of_decide_eq_false h13
     refine wc_false rfl ?_
     refine wc_skip ?_
     refine we_then ?_
     refine wc_seq ?_
     refine wc_seq ?_
     refine wc_region ?_
     refine wl_val (.int .i64 (up ((-x) * p) ((-n) - 1))) rfl (fun _ => rfl) ?_
     simp only [Act.put, Xa, Xz, Xs]
     refine wl_val (.int .i64 hi) rfl (fun _ => rfl) ?_
     simp only [Act.put, Xa, Xz, Xs]
     refine wl_val (.bool (decide (hi < (up ((-x) * p) ((-n) - 1))))) rfl (fun w => run_cmp rfl rfl rfl Try.underlying2 rfl w) ?_
     simp only [Act.put, Xa, Xz, Xs]
     refine wl_nil ?_
     refine we_then ?_
     cases h14 : (decide (hi < (up ((-x) * p) ((-n) - 1))))
     ·
      skip
      have p14 : ¬ (hi < (up ((-x) * p) ((-n) - 1))) := of_decide_eq_false h14
      refine wc_false rfl ?_
      refine wc_skip ?_
      refine we_then ?_
      refine wc_seq ?_
      refine wc_seq ?_
      refine wc_region ?_
      refine wl_val (.int .i64 (((-y) * p) / ((-n) + 1))) rfl (fun _ => rfl) ?_
      simp only [Act.put, Xa, Xz, Xs]
      refine wl_val (.int .i64 (up ((-x) * p) ((-n) - 1))) rfl (fun _ => rfl) ?_
      simp only [Act.put, Xa, Xz, Xs]
      refine wl_val (.bool (decide ((up ((-x) * p) ((-n) - 1)) < (((-y) * p) / ((-n) + 1))))) rfl (fun w => run_cmp rfl rfl rfl Try.underlying2 rfl w) ?_
      simp only [Act.put, Xa, Xz, Xs]
      refine wl_nil ?_
      refine we_then ?_
      cases h15 : (decide ((up ((-x) * p) ((-n) - 1)) < (((-y) * p) / ((-n) + 1))))
      ·
       skip
       have p15 : ¬ ((up ((-x) * p) ((-n) - 1)) < (((-y) * p) / ((-n) + 1))) := of_decide_eq_false h15
       refine wc_false rfl ?_
       refine wc_skip ?_
       refine we_then ?_
       refine wc_seq ?_
       refine wc_region ?_
       refine wl_val (.int .i64 (((-y) * p) / ((-n) + 1))) rfl (fun _ => rfl) ?_
       simp only [Act.put, Xa, Xz, Xs]
       refine wl_val (.int .i64 (up ((-x) * p) ((-n) - 1))) rfl (fun _ => rfl) ?_
       simp only [Act.put, Xa, Xz, Xs]
       refine wl_val (.int .i64 (((-y) * p) / ((-n) + 1))) rfl (fun _ => rfl) ?_
       simp only [Act.put, Xa, Xz, Xs]
       refine wl_val (.int .i64 (up ((-x) * p) ((-n) - 1))) rfl (fun _ => rfl) ?_
       simp only [Act.put, Xa, Xz, Xs]
       refine wl_val (.bool true) rfl (fun _ => rfl) ?_
       simp only [Act.put, Xa, Xz, Xs]
       refine wl_nil ?_
       refine we_then ?_
       refine wc_ret ?_
       refine we_ret3 (.int .i64 (((-y) * p) / ((-n) + 1))) (.int .i64 (up ((-x) * p) ((-n) - 1))) (.bool true) rfl rfl rfl rfl rfl (fun w1 hE => ?_)
       have e0 : learn lo hi x y p n = ⟨(((-y) * p) / ((-n) + 1)), (up ((-x) * p) ((-n) - 1)), true⟩ := by
        unfold learn
        rw [if_pos (by omega)]
        unfold fwd
        rw [if_neg (by omega), if_neg (by omega)]
        rw [show max (((-y) * p) / ((-n) + 1)) lo = (((-y) * p) / ((-n) + 1)) by omega, show min (up ((-x) * p) ((-n) - 1)) hi = (up ((-x) * p) ((-n) - 1)) by omega]
       exact ⟨by rw [e0], hE.below⟩
      ·
       skip
       have p15 : (up ((-x) * p) ((-n) - 1)) < (((-y) * p) / ((-n) + 1)) := of_decide_eq_true h15
       refine wc_true rfl ?_
       refine wc_seq ?_
       refine wc_region ?_
       refine wl_val (.int .i64 lo) rfl (fun _ => rfl) ?_
       simp only [Act.put, Xa, Xz, Xs]
       refine wl_val (.int .i64 hi) rfl (fun _ => rfl) ?_
       simp only [Act.put, Xa, Xz, Xs]
       refine wl_val (.int .i64 lo) rfl (fun _ => rfl) ?_
       simp only [Act.put, Xa, Xz, Xs]
       refine wl_val (.int .i64 hi) rfl (fun _ => rfl) ?_
       simp only [Act.put, Xa, Xz, Xs]
       refine wl_val (.bool false) rfl (fun _ => rfl) ?_
       simp only [Act.put, Xa, Xz, Xs]
       refine wl_nil ?_
       refine we_then ?_
       refine wc_ret ?_
       refine we_then_ret ?_
       refine we_ret3 (.int .i64 lo) (.int .i64 hi) (.bool false) rfl rfl rfl rfl rfl (fun w1 hE => ?_)
       have e0 : learn lo hi x y p n = ⟨lo, hi, false⟩ := by
        unfold learn
        rw [if_pos (by omega)]
        unfold fwd
        rw [if_neg (by omega), if_pos (by omega)]
       exact ⟨by rw [e0], hE.below⟩
     ·
      skip
      have p14 : hi < (up ((-x) * p) ((-n) - 1)) := of_decide_eq_true h14
      refine wc_true rfl ?_
      refine wc_region ?_
      refine wl_val (.int .i64 hi) rfl (fun _ => rfl) ?_
      simp only [Act.put, Xa, Xz, Xs]
      refine wl_val (.int .i64 hi) rfl (fun _ => rfl) ?_
      simp only [Act.put, Xa, Xz, Xs]
      refine wl_nil ?_
      refine we_then ?_
      refine wc_seq ?_
      refine wc_seq ?_
      refine wc_region ?_
      refine wl_val (.int .i64 (((-y) * p) / ((-n) + 1))) rfl (fun _ => rfl) ?_
      simp only [Act.put, Xa, Xz, Xs]
      refine wl_val (.int .i64 hi) rfl (fun _ => rfl) ?_
      simp only [Act.put, Xa, Xz, Xs]
      refine wl_val (.bool (decide (hi < (((-y) * p) / ((-n) + 1))))) rfl (fun w => run_cmp rfl rfl rfl Try.underlying2 rfl w) ?_
      simp only [Act.put, Xa, Xz, Xs]
      refine wl_nil ?_
      refine we_then ?_
      cases h16 : (decide (hi < (((-y) * p) / ((-n) + 1))))
      ·
       skip
       have p16 : ¬ (hi < (((-y) * p) / ((-n) + 1))) := of_decide_eq_false h16
       refine wc_false rfl ?_
       refine wc_skip ?_
       refine we_then ?_
       refine wc_seq ?_
       refine wc_region ?_
       refine wl_val (.int .i64 (((-y) * p) / ((-n) + 1))) rfl (fun _ => rfl) ?_
       simp only [Act.put, Xa, Xz, Xs]
       refine wl_val (.int .i64 hi) rfl (fun _ => rfl) ?_
       simp only [Act.put, Xa, Xz, Xs]
       refine wl_val (.int .i64 (((-y) * p) / ((-n) + 1))) rfl (fun _ => rfl) ?_
       simp only [Act.put, Xa, Xz, Xs]
       refine wl_val (.int .i64 hi) rfl (fun _ => rfl) ?_
       simp only [Act.put, Xa, Xz, Xs]
       refine wl_val (.bool true) rfl (fun _ => rfl) ?_
       simp only [Act.put, Xa, Xz, Xs]
       refine wl_nil ?_
       refine we_then ?_
       refine wc_ret ?_
       refine we_ret3 (.int .i64 (((-y) * p) / ((-n) + 1))) (.int .i64 hi) (.bool true) rfl rfl rfl rfl rfl (fun w1 hE => ?_)
       have e0 : learn lo hi x y p n = ⟨(((-y) * p) / ((-n) + 1)), hi, true⟩ := by
        unfold learn
        rw [if_pos (by omega)]
        unfold fwd
        rw [if_neg (by omega), if_neg (by omega)]
        rw [show max (((-y) * p) / ((-n) + 1)) lo = (((-y) * p) / ((-n) + 1)) by omega, show min (up ((-x) * p) ((-n) - 1)) hi = hi by omega]
       exact ⟨by rw [e0], hE.below⟩
      ·
       skip
       have p16 : hi < (((-y) * p) / ((-n) + 1)) := of_decide_eq_true h16
       refine wc_true rfl ?_
       refine wc_seq ?_
       refine wc_region ?_
       refine wl_val (.int .i64 lo) rfl (fun _ => rfl) ?_
       simp only [Act.put, Xa, Xz, Xs]
       refine wl_val (.int .i64 hi) rfl (fun _ => rfl) ?_
       simp only [Act.put, Xa, Xz, Xs]
       refine wl_val (.int .i64 lo) rfl (fun _ => rfl) ?_
       simp only [Act.put, Xa, Xz, Xs]
       refine wl_val (.int .i64 hi) rfl (fun _ => rfl) ?_
       simp only [Act.put, Xa, Xz, Xs]
       refine wl_val (.bool false) rfl (fun _ => rfl) ?_
       simp only [Act.put, Xa, Xz, Xs]
       refine wl_nil ?_
       refine we_then ?_
       refine wc_ret ?_
       refine we_then_ret ?_
       refine we_ret3 (.int .i64 lo) (.int .i64 hi) (.bool false) rfl rfl rfl rfl rfl (fun w1 hE => ?_)
       have e0 : learn lo hi x y p n = ⟨lo, hi, false⟩ := by
        unfold learn
        rw [if_pos (by omega)]
        unfold fwd
        rw [if_neg (by omega), if_pos (by omega)]
       exact ⟨by rw [e0], hE.below⟩
    ·
     skip
     have p13 : (((-y) * p) / ((-n) + 1)) < lo := of_decide_eq_true h13
     refine wc_true rfl ?_
     refine wc_region ?_
     refine wl_val (.int .i64 lo) rfl (fun _ => rfl) ?_
     simp only [Act.put, Xa, Xz, Xs]
     refine wl_val (.int .i64 lo) rfl (fun _ => rfl) ?_
     simp only [Act.put, Xa, Xz, Xs]
     refine wl_nil ?_
     refine we_then ?_
     refine wc_seq ?_
     refine wc_seq ?_
     refine wc_region ?_
     refine wl_val (.int .i64 (up ((-x) * p) ((-n) - 1))) rfl (fun _ => rfl) ?_
     simp only [Act.put, Xa, Xz, Xs]
     refine wl_val (.int .i64 hi) rfl (fun _ => rfl) ?_
     simp only [Act.put, Xa, Xz, Xs]
     refine wl_val (.bool (decide (hi < (up ((-x) * p) ((-n) - 1))))) rfl (fun w => run_cmp rfl rfl rfl Try.underlying2 rfl w) ?_
     simp only [Act.put, Xa, Xz, Xs]
     refine wl_nil ?_
     refine we_then ?_
     cases h17 : (decide (hi < (up ((-x) * p) ((-n) - 1))))
     ·
      skip
      have p17 : ¬ (hi < (up ((-x) * p) ((-n) - 1))) := of_decide_eq_false h17
      refine wc_false rfl ?_
      refine wc_skip ?_
      refine we_then ?_
      refine wc_seq ?_
      refine wc_seq ?_
      refine wc_region ?_
      refine wl_val (.int .i64 lo) rfl (fun _ => rfl) ?_
      simp only [Act.put, Xa, Xz, Xs]
      refine wl_val (.int .i64 (up ((-x) * p) ((-n) - 1))) rfl (fun _ => rfl) ?_
      simp only [Act.put, Xa, Xz, Xs]
      refine wl_val (.bool (decide ((up ((-x) * p) ((-n) - 1)) < lo))) rfl (fun w => run_cmp rfl rfl rfl Try.underlying2 rfl w) ?_
      simp only [Act.put, Xa, Xz, Xs]
      refine wl_nil ?_
      refine we_then ?_
      cases h18 : (decide ((up ((-x) * p) ((-n) - 1)) < lo))
      ·
       skip
       have p18 : ¬ ((up ((-x) * p) ((-n) - 1)) < lo) := of_decide_eq_false h18
       refine wc_false rfl ?_
       refine wc_skip ?_
       refine we_then ?_
       refine wc_seq ?_
       refine wc_region ?_
       refine wl_val (.int .i64 lo) rfl (fun _ => rfl) ?_
       simp only [Act.put, Xa, Xz, Xs]
       refine wl_val (.int .i64 (up ((-x) * p) ((-n) - 1))) rfl (fun _ => rfl) ?_
       simp only [Act.put, Xa, Xz, Xs]
       refine wl_val (.int .i64 lo) rfl (fun _ => rfl) ?_
       simp only [Act.put, Xa, Xz, Xs]
       refine wl_val (.int .i64 (up ((-x) * p) ((-n) - 1))) rfl (fun _ => rfl) ?_
       simp only [Act.put, Xa, Xz, Xs]
       refine wl_val (.bool true) rfl (fun _ => rfl) ?_
       simp only [Act.put, Xa, Xz, Xs]
       refine wl_nil ?_
       refine we_then ?_
       refine wc_ret ?_
       refine we_ret3 (.int .i64 lo) (.int .i64 (up ((-x) * p) ((-n) - 1))) (.bool true) rfl rfl rfl rfl rfl (fun w1 hE => ?_)
       have e0 : learn lo hi x y p n = ⟨lo, (up ((-x) * p) ((-n) - 1)), true⟩ := by
        unfold learn
        rw [if_pos (by omega)]
        unfold fwd
        rw [if_neg (by omega), if_neg (by omega)]
        rw [show max (((-y) * p) / ((-n) + 1)) lo = lo by omega, show min (up ((-x) * p) ((-n) - 1)) hi = (up ((-x) * p) ((-n) - 1)) by omega]
       exact ⟨by rw [e0], hE.below⟩
      ·
       skip
       have p18 : (up ((-x) * p) ((-n) - 1)) < lo := of_decide_eq_true h18
       refine wc_true rfl ?_
       refine wc_seq ?_
       refine wc_region ?_
       refine wl_val (.int .i64 lo) rfl (fun _ => rfl) ?_
       simp only [Act.put, Xa, Xz, Xs]
       refine wl_val (.int .i64 hi) rfl (fun _ => rfl) ?_
       simp only [Act.put, Xa, Xz, Xs]
       refine wl_val (.int .i64 lo) rfl (fun _ => rfl) ?_
       simp only [Act.put, Xa, Xz, Xs]
       refine wl_val (.int .i64 hi) rfl (fun _ => rfl) ?_
       simp only [Act.put, Xa, Xz, Xs]
       refine wl_val (.bool false) rfl (fun _ => rfl) ?_
       simp only [Act.put, Xa, Xz, Xs]
       refine wl_nil ?_
       refine we_then ?_
       refine wc_ret ?_
       refine we_then_ret ?_
       refine we_ret3 (.int .i64 lo) (.int .i64 hi) (.bool false) rfl rfl rfl rfl rfl (fun w1 hE => ?_)
       have e0 : learn lo hi x y p n = ⟨lo, hi, false⟩ := by
        unfold learn
        rw [if_pos (by omega)]
        unfold fwd
        rw [if_neg (by omega), if_pos (by omega)]
       exact ⟨by rw [e0], hE.below⟩
     ·
      skip
      have p17 : hi < (up ((-x) * p) ((-n) - 1)) := of_decide_eq_true h17
      refine wc_true rfl ?_
      refine wc_region ?_
      refine wl_val (.int .i64 hi) rfl (fun _ => rfl) ?_
      simp only [Act.put, Xa, Xz, Xs]
      refine wl_val (.int .i64 hi) rfl (fun _ => rfl) ?_
      simp only [Act.put, Xa, Xz, Xs]
      refine wl_nil ?_
      refine we_then ?_
      refine wc_seq ?_
      refine wc_seq ?_
      refine wc_region ?_
      refine wl_val (.int .i64 lo) rfl (fun _ => rfl) ?_
      simp only [Act.put, Xa, Xz, Xs]
      refine wl_val (.int .i64 hi) rfl (fun _ => rfl) ?_
      simp only [Act.put, Xa, Xz, Xs]
      refine wl_val (.bool (decide (hi < lo))) rfl (fun w => run_cmp rfl rfl rfl Try.underlying2 rfl w) ?_
      simp only [Act.put, Xa, Xz, Xs]
      refine wl_nil ?_
      refine we_then ?_
      cases h19 : (decide (hi < lo))
      ·
       skip
       have p19 : ¬ (hi < lo) := of_decide_eq_false h19
       refine wc_false rfl ?_
       refine wc_skip ?_
       refine we_then ?_
       refine wc_seq ?_
       refine wc_region ?_
       refine wl_val (.int .i64 lo) rfl (fun _ => rfl) ?_
       simp only [Act.put, Xa, Xz, Xs]
       refine wl_val (.int .i64 hi) rfl (fun _ => rfl) ?_
       simp only [Act.put, Xa, Xz, Xs]
       refine wl_val (.int .i64 lo) rfl (fun _ => rfl) ?_
       simp only [Act.put, Xa, Xz, Xs]
       refine wl_val (.int .i64 hi) rfl (fun _ => rfl) ?_
       simp only [Act.put, Xa, Xz, Xs]
       refine wl_val (.bool true) rfl (fun _ => rfl) ?_
       simp only [Act.put, Xa, Xz, Xs]
       refine wl_nil ?_
       refine we_then ?_
       refine wc_ret ?_
       refine we_ret3 (.int .i64 lo) (.int .i64 hi) (.bool true) rfl rfl rfl rfl rfl (fun w1 hE => ?_)
       have e0 : learn lo hi x y p n = ⟨lo, hi, true⟩ := by
        unfold learn
        rw [if_pos (by omega)]
        unfold fwd
        rw [if_neg (by omega), if_neg (by omega)]
        rw [show max (((-y) * p) / ((-n) + 1)) lo = lo by omega, show min (up ((-x) * p) ((-n) - 1)) hi = hi by omega]
       exact ⟨by rw [e0], hE.below⟩
      ·
       skip
       have p19 : hi < lo := of_decide_eq_true h19
       refine wc_true rfl ?_
       refine wc_seq ?_
       refine wc_region ?_
       refine wl_val (.int .i64 lo) rfl (fun _ => rfl) ?_
       simp only [Act.put, Xa, Xz, Xs]
       refine wl_val (.int .i64 hi) rfl (fun _ => rfl) ?_
       simp only [Act.put, Xa, Xz, Xs]
       refine wl_val (.int .i64 lo) rfl (fun _ => rfl) ?_
       simp only [Act.put, Xa, Xz, Xs]
       refine wl_val (.int .i64 hi) rfl (fun _ => rfl) ?_
       simp only [Act.put, Xa, Xz, Xs]
       refine wl_val (.bool false) rfl (fun _ => rfl) ?_
       simp only [Act.put, Xa, Xz, Xs]
       refine wl_nil ?_
       refine we_then ?_
       refine wc_ret ?_
       refine we_then_ret ?_
       refine we_ret3 (.int .i64 lo) (.int .i64 hi) (.bool false) rfl rfl rfl rfl rfl (fun w1 hE => ?_)
       have e0 : learn lo hi x y p n = ⟨lo, hi, false⟩ := by
        unfold learn
        rw [if_pos (by omega)]
        unfold fwd
        rw [if_neg (by omega), if_pos (by omega)]
       exact ⟨by rw [e0], hE.below⟩
   ·
    skip
    have p12 : (-y) ≤ 0 := of_decide_eq_true h12
    refine wc_true rfl ?_
    refine wc_seq ?_
    refine wc_region ?_
    refine wl_val (.int .i64 lo) rfl (fun _ => rfl) ?_
    simp only [Act.put, Xa, Xz, Xs]
    refine wl_val (.int .i64 hi) rfl (fun _ => rfl) ?_
    simp only [Act.put, Xa, Xz, Xs]
    refine wl_val (.int .i64 lo) rfl (fun _ => rfl) ?_
    simp only [Act.put, Xa, Xz, Xs]
    refine wl_val (.int .i64 hi) rfl (fun _ => rfl) ?_
    simp only [Act.put, Xa, Xz, Xs]
    refine wl_val (.bool false) rfl (fun _ => rfl) ?_
    simp only [Act.put, Xa, Xz, Xs]
    refine wl_nil ?_
    refine we_then ?_
    refine wc_ret ?_
    refine we_then_ret ?_
    refine we_ret3 (.int .i64 lo) (.int .i64 hi) (.bool false) rfl rfl rfl rfl rfl (fun w1 hE => ?_)
    have e0 : learn lo hi x y p n = ⟨lo, hi, false⟩ := by
     unfold learn
     rw [if_pos (by omega)]
     unfold fwd
     rw [if_pos (by omega)]
    exact ⟨by rw [e0], hE.below⟩
  ·
   skip
   have p11 : (-n) < 2 := of_decide_eq_true h11
   refine wl_skip rfl ?_
   simp only [Act.put, Xa, Xz, Xs]
   refine wl_skip rfl ?_
   simp only [Act.put, Xa, Xz, Xs]
   refine wl_val (.bool true) rfl (fun _ => rfl) ?_
   simp only [Act.put, Xa, Xz, Xs]
   refine wl_nil ?_
   refine we_then ?_
   refine wc_true rfl ?_
   refine wc_seq ?_
   refine wc_region ?_
   refine wl_val (.int .i64 lo) rfl (fun _ => rfl) ?_
   simp only [Act.put, Xa, Xz, Xs]
   refine wl_val (.int .i64 hi) rfl (fun _ => rfl) ?_
   simp only [Act.put, Xa, Xz, Xs]
   refine wl_val (.int .i64 lo) rfl (fun _ => rfl) ?_
   simp only [Act.put, Xa, Xz, Xs]
   refine wl_val (.int .i64 hi) rfl (fun _ => rfl) ?_
   simp only [Act.put, Xa, Xz, Xs]
   refine wl_val (.bool false) rfl (fun _ => rfl) ?_
   simp only [Act.put, Xa, Xz, Xs]
   refine wl_nil ?_
   refine we_then ?_
   refine wc_ret ?_
   refine we_then_ret ?_
   refine we_ret3 (.int .i64 lo) (.int .i64 hi) (.bool false) rfl rfl rfl rfl rfl (fun w1 hE => ?_)
   have e0 : learn lo hi x y p n = ⟨lo, hi, false⟩ := by
    unfold learn
    rw [if_pos (by omega)]
    unfold fwd
    rw [if_pos (by omega)]
   exact ⟨by rw [e0], hE.below⟩
end Go.Proofs.Ytcelmgkjkdbliaa.Whref
