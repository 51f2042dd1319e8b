/-
  WheelMore: the law's walk. No condition.
-/
import Derived.Test.YtcelmgkjkdbliaaWhlw
namespace Go.Proofs.Ytcelmgkjkdbliaa.Walks
open Go.ChangeShapes Go.WideShapes Go.ChangeAt Go.RowKit
open Arr Steady Sx Sw Sl Sb Sc Si Sj Sk Cf Sn Snref Wh Whref Whlw
set_option linter.unusedVariables false
set_option linter.unusedSimpArgs false
set_option maxRecDepth 100000

set_option maxHeartbeats 8000000 in
theorem wheelMore_walk (a : Int) (wa : (Lit.int .i64 a).wf = true) (b : Int) (wb : (Lit.int .i64 b).wf = true) (x : Int) (wx : (Lit.int .i64 x).wf = true) (y : Int) (wy : (Lit.int .i64 y).wf = true) (x2 : Int) (wx2 : (Lit.int .i64 x2).wf = true) (y2 : Int) (wy2 : (Lit.int .i64 y2).wf = true) (p : Int) (wp : (Lit.int .i64 p).wf = true) (n : Int) (wn : (Lit.int .i64 n).wf = true) (w : World) :
    Calls Try.prog 6 #[.agg #[.int .i64 a, .int .i64 b], .agg #[.int .i64 x, .int .i64 y], .agg #[.int .i64 x2, .int .i64 y2], .int .i64 p, .int .i64 n] w fun e w' => e = .returned (.bool true) ∧ Below w.heap.size w w' := by
  have ha := i64_of_wf wa
  have hb := i64_of_wf wb
  have hx := i64_of_wf wx
  have hy := i64_of_wf wy
  have hx2 := i64_of_wf wx2
  have hy2 := i64_of_wf wy2
  have hp := i64_of_wf wp
  have hn := i64_of_wf wn
  refine calls_sx Try.func6 rfl ?_
  simp only [Try.ntmps6, List.size_toArray, List.length_cons, List.length_nil, Nat.reduceAdd, Nat.reduceSub, Array.replicate_succ, Array.replicate_zero, List.push_toArray, List.append_toArray, List.nil_append, List.cons_append]
  refine wc_seq ?_
  refine wc_region ?_
  refine wl_new 23 (#[.int .i64 a, .int .i64 b]) rfl (fun _ => by go_simp) ?_
  intro g1
  simp only [Act.put, Xa, Xz, Xs]
  refine wl_new 23 (#[.int .i64 x, .int .i64 y]) rfl (fun _ => by go_simp) ?_
  intro g2
  simp only [Act.put, Xa, Xz, Xs]
  refine wl_new 23 (#[.int .i64 x2, .int .i64 y2]) rfl (fun _ => by go_simp) ?_
  intro g3
  simp only [Act.put, Xa, Xz, Xs]
  refine wl_val (.bool false) rfl (fun _ => rfl) ?_
  simp only [Act.put, Xa, Xz, Xs]
  refine wl_nil ?_
  refine we_then ?_
  refine wc_seq ?_
  refine wc_seq ?_
  refine wc_region ?_
  refine wl_call 7 #[] (.bool true) rfl (fun _ => by go_simp) (fun W => Whlw.anchor_any W) ?_
  simp only [Act.put, Xa, Xz, Xs]
  refine wl_val (.bool false) rfl (fun _ => by go_simp) ?_
  simp only [Act.put, Xa, Xz, Xs]
  refine wl_nil ?_
  refine we_then ?_
  refine wc_false rfl ?_
  refine wc_skip ?_
  refine we_then ?_
  refine wc_seq ?_
  refine wc_seq ?_
  refine wc_region ?_
  refine wl_load 23 (.tmp 5) (own_row 2 rfl) rfl rfl rfl Try.underlying23 rfl (by kernel_rfl) ?_
  simp only [Act.put, Xa, Xz, Xs]
  refine wl_load 23 (.tmp 6) (own_row 1 rfl) rfl rfl rfl Try.underlying23 rfl (by kernel_rfl) ?_
  simp only [Act.put, Xa, Xz, Xs]
  refine wl_val (.int .i64 p) rfl (fun _ => rfl) ?_
  simp only [Act.put, Xa, Xz, Xs]
  refine wl_val (.int .i64 n) rfl (fun _ => rfl) ?_
  simp only [Act.put, Xa, Xz, Xs]
  refine wl_call 8 #[.agg #[.int .i64 a, .int .i64 b], .agg #[.int .i64 x, .int .i64 y], .int .i64 p, .int .i64 n] (.bool (mayW a b x y p n)) rfl (fun _ => by go_simp) (fun W => may_any a b x y p n W) ?_
  simp only [Act.put, Xa, Xz, Xs]
  refine wl_val (.bool (!(mayW a b x y p n))) rfl (fun _ => by go_simp) ?_
  simp only [Act.put, Xa, Xz, Xs]
  refine wl_val (.bool (!(mayW a b x y p n))) rfl (fun _ => rfl) ?_
  simp only [Act.put, Xa, Xz, Xs]
  cases h4 : (mayW a b x y p n)
  · skip
    have qwh4 := mayW_not h4
    refine wl_skip rfl ?_
    simp only [Act.put, Xa, Xz, Xs]
    refine wl_skip rfl ?_
    simp only [Act.put, Xa, Xz, Xs]
    refine wl_skip rfl ?_
    simp only [Act.put, Xa, Xz, Xs]
    refine wl_skip rfl ?_
    simp only [Act.put, Xa, Xz, Xs]
    refine wl_skip rfl ?_
    simp only [Act.put, Xa, Xz, Xs]
    refine wl_skip rfl ?_
    simp only [Act.put, Xa, Xz, Xs]
    refine wl_val (.bool true) rfl (fun _ => rfl) ?_
    simp only [Act.put, Xa, Xz, Xs]
    refine wl_val (.bool true) rfl (fun _ => rfl) ?_
    simp only [Act.put, Xa, Xz, Xs]
    refine wl_skip rfl ?_
    simp only [Act.put, Xa, Xz, Xs]
    refine wl_skip rfl ?_
    simp only [Act.put, Xa, Xz, Xs]
    refine wl_skip rfl ?_
    simp only [Act.put, Xa, Xz, Xs]
    refine wl_skip rfl ?_
    simp only [Act.put, Xa, Xz, Xs]
    refine wl_skip rfl ?_
    simp only [Act.put, Xa, Xz, Xs]
    refine wl_val (.bool true) rfl (fun _ => rfl) ?_
    simp only [Act.put, Xa, Xz, Xs]
    refine wl_val (.bool true) rfl (fun _ => rfl) ?_
    simp only [Act.put, Xa, Xz, Xs]
    refine wl_skip rfl ?_
    simp only [Act.put, Xa, Xz, Xs]
    refine wl_skip rfl ?_
    simp only [Act.put, Xa, Xz, Xs]
    refine wl_skip rfl ?_
    simp only [Act.put, Xa, Xz, Xs]
    refine wl_skip rfl ?_
    simp only [Act.put, Xa, Xz, Xs]
    refine wl_skip rfl ?_
    simp only [Act.put, Xa, Xz, Xs]
    refine wl_val (.bool true) rfl (fun _ => rfl) ?_
    simp only [Act.put, Xa, Xz, Xs]
    refine wl_nil ?_
    refine we_then ?_
    refine wc_true rfl ?_
    refine wc_seq ?_
    refine wc_region ?_
    refine wl_val (.bool true) rfl (fun _ => rfl) ?_
    simp only [Act.put, Xa, Xz, Xs]
    refine wl_nil ?_
    refine we_then ?_
    refine wc_ret ?_
    refine we_then_ret ?_
    refine we_ret1 (.bool true) rfl rfl rfl (fun w1 hE => ?_)
    exact ⟨rfl, hE.below⟩
  · skip
    have qwh4 := mayW_of h4
    refine wl_load 23 (.tmp 5) (own_row 2 rfl) rfl rfl rfl Try.underlying23 rfl (by kernel_rfl) ?_
    simp only [Act.put, Xa, Xz, Xs]
    refine wl_load 23 (.tmp 7) (own_row 0 rfl) rfl rfl rfl Try.underlying23 rfl (by kernel_rfl) ?_
    simp only [Act.put, Xa, Xz, Xs]
    refine wl_val (.int .i64 p) rfl (fun _ => rfl) ?_
    simp only [Act.put, Xa, Xz, Xs]
    refine wl_val (.int .i64 n) rfl (fun _ => rfl) ?_
    simp only [Act.put, Xa, Xz, Xs]
    refine wl_call 8 #[.agg #[.int .i64 a, .int .i64 b], .agg #[.int .i64 x2, .int .i64 y2], .int .i64 p, .int .i64 n] (.bool (mayW a b x2 y2 p n)) rfl (fun _ => by go_simp) (fun W => may_any a b x2 y2 p n W) ?_
    simp only [Act.put, Xa, Xz, Xs]
    refine wl_val (.bool (!(mayW a b x2 y2 p n))) rfl (fun _ => by go_simp) ?_
    simp only [Act.put, Xa, Xz, Xs]
    refine wl_val (.bool (!(mayW a b x2 y2 p n))) rfl (fun _ => rfl) ?_
    simp only [Act.put, Xa, Xz, Xs]
    refine wl_val (.bool (!(mayW a b x2 y2 p n))) rfl (fun _ => rfl) ?_
    simp only [Act.put, Xa, Xz, Xs]
    cases h5 : (mayW a b x2 y2 p n)
    · skip
      have qwh5 := mayW_not h5
      refine wl_skip rfl ?_
      simp only [Act.put, Xa, Xz, Xs]
      refine wl_skip rfl ?_
      simp only [Act.put, Xa, Xz, Xs]
      refine wl_skip rfl ?_
      simp only [Act.put, Xa, Xz, Xs]
      refine wl_skip rfl ?_
      simp only [Act.put, Xa, Xz, Xs]
      refine wl_skip rfl ?_
      simp only [Act.put, Xa, Xz, Xs]
      refine wl_val (.bool true) rfl (fun _ => rfl) ?_
      simp only [Act.put, Xa, Xz, Xs]
      refine wl_val (.bool true) rfl (fun _ => rfl) ?_
      simp only [Act.put, Xa, Xz, Xs]
      refine wl_skip rfl ?_
      simp only [Act.put, Xa, Xz, Xs]
      refine wl_skip rfl ?_
      simp only [Act.put, Xa, Xz, Xs]
      refine wl_skip rfl ?_
      simp only [Act.put, Xa, Xz, Xs]
      refine wl_skip rfl ?_
      simp only [Act.put, Xa, Xz, Xs]
      refine wl_skip rfl ?_
      simp only [Act.put, Xa, Xz, Xs]
      refine wl_val (.bool true) rfl (fun _ => rfl) ?_
      simp only [Act.put, Xa, Xz, Xs]
      refine wl_nil ?_
      refine we_then ?_
      refine wc_true rfl ?_
      refine wc_seq ?_
      refine wc_region ?_
      refine wl_val (.bool true) rfl (fun _ => rfl) ?_
      simp only [Act.put, Xa, Xz, Xs]
      refine wl_nil ?_
      refine we_then ?_
      refine wc_ret ?_
      refine we_then_ret ?_
      refine we_ret1 (.bool true) rfl rfl rfl (fun w1 hE => ?_)
      exact ⟨rfl, hE.below⟩
    · skip
      have qwh5 := mayW_of h5
      refine wl_val (.pointer (some ⟨g3, 0, none⟩)) rfl (fun _ => by go_simp) ?_
      simp only [Act.put, Xa, Xz, Xs]
      refine wl_cell 2 (.tmp 32) (.int .i64 x2) (own_row 0 rfl) rfl rfl rfl rfl Try.isAgg2 ?_
      simp only [Act.put, Xa, Xz, Xs]
      refine wl_val (.pointer (some ⟨g2, 0, none⟩)) rfl (fun _ => by go_simp) ?_
      simp only [Act.put, Xa, Xz, Xs]
      refine wl_cell 2 (.tmp 34) (.int .i64 x) (own_row 1 rfl) rfl rfl rfl rfl Try.isAgg2 ?_
      simp only [Act.put, Xa, Xz, Xs]
      refine wl_val (.bool (decide (x2 < x))) rfl (fun w => run_cmp rfl rfl rfl Try.underlying2 rfl w) ?_
      simp only [Act.put, Xa, Xz, Xs]
      refine wl_val (.bool (decide (x2 < x))) rfl (fun _ => rfl) ?_
      simp only [Act.put, Xa, Xz, Xs]
      refine wl_val (.bool (decide (x2 < x))) rfl (fun _ => rfl) ?_
      simp only [Act.put, Xa, Xz, Xs]
      cases h6 : (decide (x2 < x))
      · skip
        have p6 : ¬ (x2 < x) := of_decide_eq_false h6
        refine wl_val (.pointer (some ⟨g3, 1, none⟩)) rfl (fun _ => by go_simp) ?_
        simp only [Act.put, Xa, Xz, Xs]
        refine wl_cell 2 (.tmp 39) (.int .i64 y2) (own_row 0 rfl) rfl rfl rfl rfl Try.isAgg2 ?_
        simp only [Act.put, Xa, Xz, Xs]
        refine wl_val (.pointer (some ⟨g2, 1, none⟩)) rfl (fun _ => by go_simp) ?_
        simp only [Act.put, Xa, Xz, Xs]
        refine wl_cell 2 (.tmp 41) (.int .i64 y) (own_row 1 rfl) rfl rfl rfl rfl Try.isAgg2 ?_
        simp only [Act.put, Xa, Xz, Xs]
        refine wl_val (.bool (decide (y < y2))) rfl (fun w => run_cmp rfl rfl rfl Try.underlying2 rfl w) ?_
        simp only [Act.put, Xa, Xz, Xs]
        refine wl_val (.bool (decide (y < y2))) rfl (fun _ => rfl) ?_
        simp only [Act.put, Xa, Xz, Xs]
        refine wl_nil ?_
        refine we_then ?_
        cases h7 : (decide (y < y2))
        · skip
          have p7 : ¬ (y < y2) := of_decide_eq_false h7
          refine wc_false rfl ?_
          refine wc_skip ?_
          refine we_then ?_
          refine wc_seq ?_
          refine wc_region ?_
          refine wl_load 23 (.tmp 5) (own_row 2 rfl) rfl rfl rfl Try.underlying23 rfl (by kernel_rfl) ?_
          simp only [Act.put, Xa, Xz, Xs]
          refine wl_load 23 (.tmp 6) (own_row 1 rfl) rfl rfl rfl Try.underlying23 rfl (by kernel_rfl) ?_
          simp only [Act.put, Xa, Xz, Xs]
          refine wl_val (.int .i64 p) rfl (fun _ => rfl) ?_
          simp only [Act.put, Xa, Xz, Xs]
          refine wl_val (.int .i64 n) rfl (fun _ => rfl) ?_
          simp only [Act.put, Xa, Xz, Xs]
          refine wl_call 9 #[.agg #[.int .i64 a, .int .i64 b], .agg #[.int .i64 x, .int .i64 y], .int .i64 p, .int .i64 n] (.tuple #[.agg #[.int .i64 ((learn a b x y p n).a), .int .i64 ((learn a b x y p n).b)], .bool ((learn a b x y p n).ok)]) rfl (fun _ => by go_simp) (fun W => Wls.learn_any a b x y p n W (by omega) (by omega) (by omega) (by omega) (by omega) (by omega) (by omega) (by omega) (by omega) (by omega)) ?_
          simp only [Act.put, Xa, Xz, Xs]
          refine wl_val (.tuple #[.agg #[.int .i64 ((learn a b x y p n).a), .int .i64 ((learn a b x y p n).b)], .bool ((learn a b x y p n).ok)]) rfl (fun _ => rfl) ?_
          simp only [Act.put, Xa, Xz, Xs]
          refine wl_val (.agg #[.int .i64 ((learn a b x y p n).a), .int .i64 ((learn a b x y p n).b)]) rfl (fun _ => by go_simp) ?_
          simp only [Act.put, Xa, Xz, Xs]
          refine wl_val (.bool ((learn a b x y p n).ok)) rfl (fun _ => by go_simp) ?_
          simp only [Act.put, Xa, Xz, Xs]
          refine wl_new 23 (#[.int .i64 0, .int .i64 0]) rfl (fun _ => by go_simp) ?_
          intro g8
          simp only [Act.put, Xa, Xz, Xs]
          refine wl_store 0 23 (.tmp 11) (.tmp 51) (#[.int .i64 ((learn a b x y p n).a), .int .i64 ((learn a b x y p n).b)]) rfl rfl rfl rfl rfl (by kernel_rfl) rfl (by simp [Value.oneCell']) ?_
          simp only [Act.put, List.set_cons_zero]
          refine wl_val (.bool ((learn a b x y p n).ok)) rfl (fun _ => rfl) ?_
          simp only [Act.put, Xa, Xz, Xs]
          refine wl_nil ?_
          refine we_then ?_
          refine wc_seq ?_
          refine wc_region ?_
          refine wl_load 23 (.tmp 5) (own_row 3 rfl) rfl rfl rfl Try.underlying23 rfl (by kernel_rfl) ?_
          simp only [Act.put, Xa, Xz, Xs]
          refine wl_load 23 (.tmp 7) (own_row 1 rfl) rfl rfl rfl Try.underlying23 rfl (by kernel_rfl) ?_
          simp only [Act.put, Xa, Xz, Xs]
          refine wl_val (.int .i64 p) rfl (fun _ => rfl) ?_
          simp only [Act.put, Xa, Xz, Xs]
          refine wl_val (.int .i64 n) rfl (fun _ => rfl) ?_
          simp only [Act.put, Xa, Xz, Xs]
          refine wl_call 9 #[.agg #[.int .i64 a, .int .i64 b], .agg #[.int .i64 x2, .int .i64 y2], .int .i64 p, .int .i64 n] (.tuple #[.agg #[.int .i64 ((learn a b x2 y2 p n).a), .int .i64 ((learn a b x2 y2 p n).b)], .bool ((learn a b x2 y2 p n).ok)]) rfl (fun _ => by go_simp) (fun W => Wls.learn_any a b x2 y2 p n W (by omega) (by omega) (by omega) (by omega) (by omega) (by omega) (by omega) (by omega) (by omega) (by omega)) ?_
          simp only [Act.put, Xa, Xz, Xs]
          refine wl_val (.tuple #[.agg #[.int .i64 ((learn a b x2 y2 p n).a), .int .i64 ((learn a b x2 y2 p n).b)], .bool ((learn a b x2 y2 p n).ok)]) rfl (fun _ => rfl) ?_
          simp only [Act.put, Xa, Xz, Xs]
          refine wl_val (.agg #[.int .i64 ((learn a b x2 y2 p n).a), .int .i64 ((learn a b x2 y2 p n).b)]) rfl (fun _ => by go_simp) ?_
          simp only [Act.put, Xa, Xz, Xs]
          refine wl_val (.bool ((learn a b x2 y2 p n).ok)) rfl (fun _ => by go_simp) ?_
          simp only [Act.put, Xa, Xz, Xs]
          refine wl_new 23 (#[.int .i64 0, .int .i64 0]) rfl (fun _ => by go_simp) ?_
          intro g9
          simp only [Act.put, Xa, Xz, Xs]
          refine wl_store 0 23 (.tmp 13) (.tmp 59) (#[.int .i64 ((learn a b x2 y2 p n).a), .int .i64 ((learn a b x2 y2 p n).b)]) rfl rfl rfl rfl rfl (by kernel_rfl) rfl (by simp [Value.oneCell']) ?_
          simp only [Act.put, List.set_cons_zero]
          refine wl_val (.bool ((learn a b x2 y2 p n).ok)) rfl (fun _ => rfl) ?_
          simp only [Act.put, Xa, Xz, Xs]
          refine wl_nil ?_
          refine we_then ?_
          refine wc_seq ?_
          refine wc_region ?_
          refine wl_val (.bool ((learn a b x y p n).ok)) rfl (fun _ => rfl) ?_
          simp only [Act.put, Xa, Xz, Xs]
          refine wl_val (.bool (!((learn a b x y p n).ok))) rfl (fun _ => by go_simp) ?_
          simp only [Act.put, Xa, Xz, Xs]
          refine wl_val (.bool (!((learn a b x y p n).ok))) rfl (fun _ => rfl) ?_
          simp only [Act.put, Xa, Xz, Xs]
          cases h10 : ((learn a b x y p n).ok)
          · skip
            refine wl_skip rfl ?_
            simp only [Act.put, Xa, Xz, Xs]
            refine wl_skip rfl ?_
            simp only [Act.put, Xa, Xz, Xs]
            refine wl_val (.bool true) rfl (fun _ => rfl) ?_
            simp only [Act.put, Xa, Xz, Xs]
            refine wl_val (.bool true) rfl (fun _ => rfl) ?_
            simp only [Act.put, Xa, Xz, Xs]
            refine wl_skip rfl ?_
            simp only [Act.put, Xa, Xz, Xs]
            refine wl_skip rfl ?_
            simp only [Act.put, Xa, Xz, Xs]
            refine wl_skip rfl ?_
            simp only [Act.put, Xa, Xz, Xs]
            refine wl_skip rfl ?_
            simp only [Act.put, Xa, Xz, Xs]
            refine wl_skip rfl ?_
            simp only [Act.put, Xa, Xz, Xs]
            refine wl_skip rfl ?_
            simp only [Act.put, Xa, Xz, Xs]
            refine wl_skip rfl ?_
            simp only [Act.put, Xa, Xz, Xs]
            refine wl_skip rfl ?_
            simp only [Act.put, Xa, Xz, Xs]
            refine wl_skip rfl ?_
            simp only [Act.put, Xa, Xz, Xs]
            refine wl_skip rfl ?_
            simp only [Act.put, Xa, Xz, Xs]
            refine wl_skip rfl ?_
            simp only [Act.put, Xa, Xz, Xs]
            refine wl_skip rfl ?_
            simp only [Act.put, Xa, Xz, Xs]
            refine wl_val (.bool true) rfl (fun _ => rfl) ?_
            simp only [Act.put, Xa, Xz, Xs]
            refine wl_val (.bool true) rfl (fun _ => rfl) ?_
            simp only [Act.put, Xa, Xz, Xs]
            refine wl_nil ?_
            refine we_then ?_
            refine wc_ret ?_
            refine we_ret1 (.bool true) rfl rfl rfl (fun w1 hE => ?_)
            exact ⟨rfl, hE.below⟩
          · skip
            refine wl_val (.bool ((learn a b x2 y2 p n).ok)) rfl (fun _ => rfl) ?_
            simp only [Act.put, Xa, Xz, Xs]
            refine wl_val (.bool (!((learn a b x2 y2 p n).ok))) rfl (fun _ => by go_simp) ?_
            simp only [Act.put, Xa, Xz, Xs]
            refine wl_val (.bool (!((learn a b x2 y2 p n).ok))) rfl (fun _ => rfl) ?_
            simp only [Act.put, Xa, Xz, Xs]
            refine wl_val (.bool (!((learn a b x2 y2 p n).ok))) rfl (fun _ => rfl) ?_
            simp only [Act.put, Xa, Xz, Xs]
            cases h11 : ((learn a b x2 y2 p n).ok)
            · skip
              refine wl_skip rfl ?_
              simp only [Act.put, Xa, Xz, Xs]
              refine wl_skip rfl ?_
              simp only [Act.put, Xa, Xz, Xs]
              refine wl_skip rfl ?_
              simp only [Act.put, Xa, Xz, Xs]
              refine wl_skip rfl ?_
              simp only [Act.put, Xa, Xz, Xs]
              refine wl_skip rfl ?_
              simp only [Act.put, Xa, Xz, Xs]
              refine wl_skip rfl ?_
              simp only [Act.put, Xa, Xz, Xs]
              refine wl_skip rfl ?_
              simp only [Act.put, Xa, Xz, Xs]
              refine wl_skip rfl ?_
              simp only [Act.put, Xa, Xz, Xs]
              refine wl_skip rfl ?_
              simp only [Act.put, Xa, Xz, Xs]
              refine wl_skip rfl ?_
              simp only [Act.put, Xa, Xz, Xs]
              refine wl_skip rfl ?_
              simp only [Act.put, Xa, Xz, Xs]
              refine wl_skip rfl ?_
              simp only [Act.put, Xa, Xz, Xs]
              refine wl_val (.bool true) rfl (fun _ => rfl) ?_
              simp only [Act.put, Xa, Xz, Xs]
              refine wl_val (.bool true) rfl (fun _ => rfl) ?_
              simp only [Act.put, Xa, Xz, Xs]
              refine wl_nil ?_
              refine we_then ?_
              refine wc_ret ?_
              refine we_ret1 (.bool true) rfl rfl rfl (fun w1 hE => ?_)
              exact ⟨rfl, hE.below⟩
            · skip
              refine wl_val (.pointer (some ⟨g9, 0, none⟩)) rfl (fun _ => by go_simp) ?_
              simp only [Act.put, Xa, Xz, Xs]
              refine wl_cell 2 (.tmp 68) (.int .i64 ((learn a b x2 y2 p n).a)) (own_row 0 rfl) rfl rfl rfl rfl Try.isAgg2 ?_
              simp only [Act.put, Xa, Xz, Xs]
              refine wl_val (.pointer (some ⟨g8, 0, none⟩)) rfl (fun _ => by go_simp) ?_
              simp only [Act.put, Xa, Xz, Xs]
              refine wl_cell 2 (.tmp 70) (.int .i64 ((learn a b x y p n).a)) (own_row 1 rfl) rfl rfl rfl rfl Try.isAgg2 ?_
              simp only [Act.put, Xa, Xz, Xs]
              refine wl_val (.bool (decide ((learn a b x y p n).a ≤ (learn a b x2 y2 p n).a))) rfl (fun w => run_cmp rfl rfl rfl Try.underlying2 rfl w) ?_
              simp only [Act.put, Xa, Xz, Xs]
              refine wl_val (.bool (decide ((learn a b x y p n).a ≤ (learn a b x2 y2 p n).a))) rfl (fun _ => rfl) ?_
              simp only [Act.put, Xa, Xz, Xs]
              cases h12 : (decide ((learn a b x y p n).a ≤ (learn a b x2 y2 p n).a))
              · skip
                have p12 : ¬ ((learn a b x y p n).a ≤ (learn a b x2 y2 p n).a) := of_decide_eq_false h12
                refine wl_skip rfl ?_
                simp only [Act.put, Xa, Xz, Xs]
                refine wl_skip rfl ?_
                simp only [Act.put, Xa, Xz, Xs]
                refine wl_skip rfl ?_
                simp only [Act.put, Xa, Xz, Xs]
                refine wl_skip rfl ?_
                simp only [Act.put, Xa, Xz, Xs]
                refine wl_skip rfl ?_
                simp only [Act.put, Xa, Xz, Xs]
                refine wl_val (.bool false) rfl (fun _ => rfl) ?_
                simp only [Act.put, Xa, Xz, Xs]
                refine wl_val (.bool false) rfl (fun _ => rfl) ?_
                simp only [Act.put, Xa, Xz, Xs]
                refine wl_val (.bool false) rfl (fun _ => rfl) ?_
                simp only [Act.put, Xa, Xz, Xs]
                refine wl_nil ?_
                refine we_then ?_
                refine wc_ret ?_
                refine we_ret1 (.bool false) rfl rfl rfl (fun w1 hE => ?_)
                have lm := learn_more (lo := a) (hi := b) (x := x) (y := y) (x' := x2) (y' := y2) (p := p) (n := n) (by omega) (by omega) (by omega) h10 h11
                exact (by exfalso; omega)
              · skip
                have p12 : (learn a b x y p n).a ≤ (learn a b x2 y2 p n).a := of_decide_eq_true h12
                refine wl_val (.pointer (some ⟨g9, 1, none⟩)) rfl (fun _ => by go_simp) ?_
                simp only [Act.put, Xa, Xz, Xs]
                refine wl_cell 2 (.tmp 74) (.int .i64 ((learn a b x2 y2 p n).b)) (own_row 0 rfl) rfl rfl rfl rfl Try.isAgg2 ?_
                simp only [Act.put, Xa, Xz, Xs]
                refine wl_val (.pointer (some ⟨g8, 1, none⟩)) rfl (fun _ => by go_simp) ?_
                simp only [Act.put, Xa, Xz, Xs]
                refine wl_cell 2 (.tmp 76) (.int .i64 ((learn a b x y p n).b)) (own_row 1 rfl) rfl rfl rfl rfl Try.isAgg2 ?_
                simp only [Act.put, Xa, Xz, Xs]
                refine wl_val (.bool (decide ((learn a b x2 y2 p n).b ≤ (learn a b x y p n).b))) rfl (fun w => run_cmp rfl rfl rfl Try.underlying2 rfl w) ?_
                simp only [Act.put, Xa, Xz, Xs]
                refine wl_val (.bool (decide ((learn a b x2 y2 p n).b ≤ (learn a b x y p n).b))) rfl (fun _ => rfl) ?_
                simp only [Act.put, Xa, Xz, Xs]
                refine wl_val (.bool (decide ((learn a b x2 y2 p n).b ≤ (learn a b x y p n).b))) rfl (fun _ => rfl) ?_
                simp only [Act.put, Xa, Xz, Xs]
                refine wl_val (.bool (decide ((learn a b x2 y2 p n).b ≤ (learn a b x y p n).b))) rfl (fun _ => rfl) ?_
                simp only [Act.put, Xa, Xz, Xs]
                refine wl_nil ?_
                refine we_then ?_
                refine wc_ret ?_
                refine we_ret1 (.bool (decide ((learn a b x2 y2 p n).b ≤ (learn a b x y p n).b))) rfl rfl rfl (fun w1 hE => ?_)
                have lm := learn_more (lo := a) (hi := b) (x := x) (y := y) (x' := x2) (y' := y2) (p := p) (n := n) (by omega) (by omega) (by omega) h10 h11
                exact ⟨by rw [show (decide ((learn a b x2 y2 p n).b ≤ (learn a b x y p n).b)) = true from by simp; omega], hE.below⟩
        · skip
          have p7 : y < y2 := of_decide_eq_true h7
          refine wc_true rfl ?_
          refine wc_seq ?_
          refine wc_region ?_
          refine wl_val (.bool true) rfl (fun _ => rfl) ?_
          simp only [Act.put, Xa, Xz, Xs]
          refine wl_nil ?_
          refine we_then ?_
          refine wc_ret ?_
          refine we_then_ret ?_
          refine we_ret1 (.bool true) rfl rfl rfl (fun w1 hE => ?_)
          exact ⟨rfl, hE.below⟩
      · skip
        have p6 : x2 < x := of_decide_eq_true h6
        refine wl_skip rfl ?_
        simp only [Act.put, Xa, Xz, Xs]
        refine wl_skip rfl ?_
        simp only [Act.put, Xa, Xz, Xs]
        refine wl_skip rfl ?_
        simp only [Act.put, Xa, Xz, Xs]
        refine wl_skip rfl ?_
        simp only [Act.put, Xa, Xz, Xs]
        refine wl_skip rfl ?_
        simp only [Act.put, Xa, Xz, Xs]
        refine wl_val (.bool true) rfl (fun _ => rfl) ?_
        simp only [Act.put, Xa, Xz, Xs]
        refine wl_nil ?_
        refine we_then ?_
        refine wc_true rfl ?_
        refine wc_seq ?_
        refine wc_region ?_
        refine wl_val (.bool true) rfl (fun _ => rfl) ?_
        simp only [Act.put, Xa, Xz, Xs]
        refine wl_nil ?_
        refine we_then ?_
        refine wc_ret ?_
        refine we_then_ret ?_
        refine we_ret1 (.bool true) rfl rfl rfl (fun w1 hE => ?_)
        exact ⟨rfl, hE.below⟩
end Go.Proofs.Ytcelmgkjkdbliaa.Walks
