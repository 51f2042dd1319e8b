/-
  SenseNarrow: the law's walk. No condition.
-/
import Derived.Test.YtfohomkldpcbdaaSnlw
namespace Go.Proofs.Ytfohomkldpcbdaa.Walks
open Go.ChangeShapes Go.WideShapes Go.ChangeAt Go.RowKit
open Arr Steady Sx Sw Sl Sb Sc Si Sj Sk Sh Vs Gr Tk Tkh Tkl Cf Cfref Sn Snref Snlw
set_option linter.unusedVariables false
set_option linter.unusedSimpArgs false
set_option maxRecDepth 100000

set_option maxHeartbeats 8000000 in
theorem senseNarrow_walk (d : Int) (wd : (Lit.int .i16 d).wf = true) (a : Int) (wa : (Lit.int .i64 a).wf = true) (b : Int) (wb : (Lit.int .i64 b).wf = true) (a2 : Int) (wa2 : (Lit.int .i64 a2).wf = true) (b2 : Int) (wb2 : (Lit.int .i64 b2).wf = true) (p : Int) (wp : (Lit.int .i64 p).wf = true) (w : World) :
    Calls Try.prog 8 #[.int .i16 d, .agg #[.int .i64 a, .int .i64 b], .agg #[.int .i64 a2, .int .i64 b2], .int .i64 p] w fun e w' => e = .returned (.bool true) ∧ Below w.heap.size w w' := by
  have hd := i16_of_wf wd
  have ha := i64_of_wf wa
  have hb := i64_of_wf wb
  have ha2 := i64_of_wf wa2
  have hb2 := i64_of_wf wb2
  have hp := i64_of_wf wp
  refine calls_sx Try.func8 rfl ?_
  simp only [Try.ntmps8, List.size_toArray, List.length_cons, List.length_nil, Nat.reduceAdd, Nat.reduceSub, Array.replicate_succ, Array.replicate_zero, List.push_toArray, List.append_toArray, List.nil_append, List.cons_append]
  refine wc_seq ?_
  refine wc_region ?_
  refine wl_new 23 (#[.int .i64 a, .int .i64 b]) rfl (fun _ => by go_simp) ?_
  intro g1
  simp only [Act.put, Xa, Xz, Xs]
  refine wl_new 23 (#[.int .i64 a2, .int .i64 b2]) rfl (fun _ => by go_simp) ?_
  intro g2
  simp only [Act.put, Xa, Xz, Xs]
  refine wl_val (.bool false) rfl (fun _ => rfl) ?_
  simp only [Act.put, Xa, Xz, Xs]
  refine wl_nil ?_
  refine we_then ?_
  refine wc_seq ?_
  refine wc_seq ?_
  refine wc_region ?_
  refine wl_call 9 #[] (.bool true) rfl (fun _ => by go_simp) (fun W => Snlw.anchor_any W) ?_
  simp only [Act.put, Xa, Xz, Xs]
  refine wl_val (.bool false) rfl (fun _ => by go_simp) ?_
  simp only [Act.put, Xa, Xz, Xs]
  refine wl_nil ?_
  refine we_then ?_
  refine wc_false rfl ?_
  refine wc_skip ?_
  refine we_then ?_
  refine wc_seq ?_
  refine wc_seq ?_
  refine wc_region ?_
  refine wl_load 23 (.tmp 5) (own_row 1 rfl) rfl rfl rfl Try.underlying23 rfl (by kernel_rfl) ?_
  simp only [Act.put, Xa, Xz, Xs]
  refine wl_val (.int .i64 p) rfl (fun _ => rfl) ?_
  simp only [Act.put, Xa, Xz, Xs]
  refine wl_call 11 #[.agg #[.int .i64 a, .int .i64 b], .int .i64 p] (.bool (wheelB a b p)) rfl (fun _ => by go_simp) (fun W => wheel_any a b p W) ?_
  simp only [Act.put, Xa, Xz, Xs]
  refine wl_val (.bool (!(wheelB a b p))) rfl (fun _ => by go_simp) ?_
  simp only [Act.put, Xa, Xz, Xs]
  refine wl_val (.bool (!(wheelB a b p))) rfl (fun _ => rfl) ?_
  simp only [Act.put, Xa, Xz, Xs]
  cases h3 : (wheelB a b p)
  · skip
    have qwh3 := wheel_not h3
    refine wl_skip rfl ?_
    simp only [Act.put, Xa, Xz, Xs]
    refine wl_skip rfl ?_
    simp only [Act.put, Xa, Xz, Xs]
    refine wl_skip rfl ?_
    simp only [Act.put, Xa, Xz, Xs]
    refine wl_skip rfl ?_
    simp only [Act.put, Xa, Xz, Xs]
    refine wl_val (.bool true) rfl (fun _ => rfl) ?_
    simp only [Act.put, Xa, Xz, Xs]
    refine wl_val (.bool true) rfl (fun _ => rfl) ?_
    simp only [Act.put, Xa, Xz, Xs]
    refine wl_skip rfl ?_
    simp only [Act.put, Xa, Xz, Xs]
    refine wl_skip rfl ?_
    simp only [Act.put, Xa, Xz, Xs]
    refine wl_skip rfl ?_
    simp only [Act.put, Xa, Xz, Xs]
    refine wl_skip rfl ?_
    simp only [Act.put, Xa, Xz, Xs]
    refine wl_skip rfl ?_
    simp only [Act.put, Xa, Xz, Xs]
    refine wl_val (.bool true) rfl (fun _ => rfl) ?_
    simp only [Act.put, Xa, Xz, Xs]
    refine wl_val (.bool true) rfl (fun _ => rfl) ?_
    simp only [Act.put, Xa, Xz, Xs]
    refine wl_skip rfl ?_
    simp only [Act.put, Xa, Xz, Xs]
    refine wl_skip rfl ?_
    simp only [Act.put, Xa, Xz, Xs]
    refine wl_skip rfl ?_
    simp only [Act.put, Xa, Xz, Xs]
    refine wl_skip rfl ?_
    simp only [Act.put, Xa, Xz, Xs]
    refine wl_skip rfl ?_
    simp only [Act.put, Xa, Xz, Xs]
    refine wl_val (.bool true) rfl (fun _ => rfl) ?_
    simp only [Act.put, Xa, Xz, Xs]
    refine wl_nil ?_
    refine we_then ?_
    refine wc_true rfl ?_
    refine wc_seq ?_
    refine wc_region ?_
    refine wl_val (.bool true) rfl (fun _ => rfl) ?_
    simp only [Act.put, Xa, Xz, Xs]
    refine wl_nil ?_
    refine we_then ?_
    refine wc_ret ?_
    refine we_then_ret ?_
    refine we_ret1 (.bool true) rfl rfl rfl (fun w1 hE => ?_)
    exact ⟨rfl, hE.below⟩
  · skip
    have qwh3 := wheel_of h3
    refine wl_load 23 (.tmp 6) (own_row 0 rfl) rfl rfl rfl Try.underlying23 rfl (by kernel_rfl) ?_
    simp only [Act.put, Xa, Xz, Xs]
    refine wl_val (.int .i64 p) rfl (fun _ => rfl) ?_
    simp only [Act.put, Xa, Xz, Xs]
    refine wl_call 11 #[.agg #[.int .i64 a2, .int .i64 b2], .int .i64 p] (.bool (wheelB a2 b2 p)) rfl (fun _ => by go_simp) (fun W => wheel_any a2 b2 p W) ?_
    simp only [Act.put, Xa, Xz, Xs]
    refine wl_val (.bool (!(wheelB a2 b2 p))) rfl (fun _ => by go_simp) ?_
    simp only [Act.put, Xa, Xz, Xs]
    refine wl_val (.bool (!(wheelB a2 b2 p))) rfl (fun _ => rfl) ?_
    simp only [Act.put, Xa, Xz, Xs]
    refine wl_val (.bool (!(wheelB a2 b2 p))) rfl (fun _ => rfl) ?_
    simp only [Act.put, Xa, Xz, Xs]
    cases h4 : (wheelB a2 b2 p)
    · skip
      have qwh4 := wheel_not h4
      refine wl_skip rfl ?_
      simp only [Act.put, Xa, Xz, Xs]
      refine wl_skip rfl ?_
      simp only [Act.put, Xa, Xz, Xs]
      refine wl_skip rfl ?_
      simp only [Act.put, Xa, Xz, Xs]
      refine wl_skip rfl ?_
      simp only [Act.put, Xa, Xz, Xs]
      refine wl_skip rfl ?_
      simp only [Act.put, Xa, Xz, Xs]
      refine wl_val (.bool true) rfl (fun _ => rfl) ?_
      simp only [Act.put, Xa, Xz, Xs]
      refine wl_val (.bool true) rfl (fun _ => rfl) ?_
      simp only [Act.put, Xa, Xz, Xs]
      refine wl_skip rfl ?_
      simp only [Act.put, Xa, Xz, Xs]
      refine wl_skip rfl ?_
      simp only [Act.put, Xa, Xz, Xs]
      refine wl_skip rfl ?_
      simp only [Act.put, Xa, Xz, Xs]
      refine wl_skip rfl ?_
      simp only [Act.put, Xa, Xz, Xs]
      refine wl_skip rfl ?_
      simp only [Act.put, Xa, Xz, Xs]
      refine wl_val (.bool true) rfl (fun _ => rfl) ?_
      simp only [Act.put, Xa, Xz, Xs]
      refine wl_nil ?_
      refine we_then ?_
      refine wc_true rfl ?_
      refine wc_seq ?_
      refine wc_region ?_
      refine wl_val (.bool true) rfl (fun _ => rfl) ?_
      simp only [Act.put, Xa, Xz, Xs]
      refine wl_nil ?_
      refine we_then ?_
      refine wc_ret ?_
      refine we_then_ret ?_
      refine we_ret1 (.bool true) rfl rfl rfl (fun w1 hE => ?_)
      exact ⟨rfl, hE.below⟩
    · skip
      have qwh4 := wheel_of h4
      refine wl_val (.pointer (some ⟨g2, 0, none⟩)) rfl (fun _ => by go_simp) ?_
      simp only [Act.put, Xa, Xz, Xs]
      refine wl_cell 2 (.tmp 28) (.int .i64 a2) (own_row 0 rfl) rfl rfl rfl rfl Try.isAgg2 ?_
      simp only [Act.put, Xa, Xz, Xs]
      refine wl_val (.pointer (some ⟨g1, 0, none⟩)) rfl (fun _ => by go_simp) ?_
      simp only [Act.put, Xa, Xz, Xs]
      refine wl_cell 2 (.tmp 30) (.int .i64 a) (own_row 1 rfl) rfl rfl rfl rfl Try.isAgg2 ?_
      simp only [Act.put, Xa, Xz, Xs]
      refine wl_val (.bool (decide (a2 < a))) rfl (fun w => run_cmp rfl rfl rfl Try.underlying2 rfl w) ?_
      simp only [Act.put, Xa, Xz, Xs]
      refine wl_val (.bool (decide (a2 < a))) rfl (fun _ => rfl) ?_
      simp only [Act.put, Xa, Xz, Xs]
      refine wl_val (.bool (decide (a2 < a))) rfl (fun _ => rfl) ?_
      simp only [Act.put, Xa, Xz, Xs]
      cases h5 : (decide (a2 < a))
      · skip
        have p5 : ¬ (a2 < a) := of_decide_eq_false h5
        refine wl_val (.pointer (some ⟨g2, 1, none⟩)) rfl (fun _ => by go_simp) ?_
        simp only [Act.put, Xa, Xz, Xs]
        refine wl_cell 2 (.tmp 35) (.int .i64 b2) (own_row 0 rfl) rfl rfl rfl rfl Try.isAgg2 ?_
        simp only [Act.put, Xa, Xz, Xs]
        refine wl_val (.pointer (some ⟨g1, 1, none⟩)) rfl (fun _ => by go_simp) ?_
        simp only [Act.put, Xa, Xz, Xs]
        refine wl_cell 2 (.tmp 37) (.int .i64 b) (own_row 1 rfl) rfl rfl rfl rfl Try.isAgg2 ?_
        simp only [Act.put, Xa, Xz, Xs]
        refine wl_val (.bool (decide (b < b2))) rfl (fun w => run_cmp rfl rfl rfl Try.underlying2 rfl w) ?_
        simp only [Act.put, Xa, Xz, Xs]
        refine wl_val (.bool (decide (b < b2))) rfl (fun _ => rfl) ?_
        simp only [Act.put, Xa, Xz, Xs]
        refine wl_nil ?_
        refine we_then ?_
        cases h6 : (decide (b < b2))
        · skip
          have p6 : ¬ (b < b2) := of_decide_eq_false h6
          refine wc_false rfl ?_
          refine wc_skip ?_
          refine we_then ?_
          refine wc_seq ?_
          refine wc_region ?_
          refine wl_val (.int .i16 d) rfl (fun _ => rfl) ?_
          simp only [Act.put, Xa, Xz, Xs]
          refine wl_val (.int .i64 d) rfl (fun w => Sw.run_conv rfl rfl Try.underlying32 Try.underlying2 (i64_in (by omega) (by omega)) w) ?_
          simp only [Act.put, Xa, Xz, Xs]
          refine wl_load 23 (.tmp 5) (own_row 1 rfl) rfl rfl rfl Try.underlying23 rfl (by kernel_rfl) ?_
          simp only [Act.put, Xa, Xz, Xs]
          refine wl_val (.int .i64 p) rfl (fun _ => rfl) ?_
          simp only [Act.put, Xa, Xz, Xs]
          refine wl_call 10 #[.int .i64 d, .agg #[.int .i64 a, .int .i64 b], .int .i64 p] (.tuple #[.agg #[.int .i64 (tlo d a b p), .int .i64 (thi d a b p)], .int .i64 0]) rfl (fun _ => by go_simp) (fun W => Sns.tacho_yes d a b p W (by omega) (by omega) (by omega) (by omega) (by omega) (by omega) (by omega)) ?_
          simp only [Act.put, Xa, Xz, Xs]
          refine wl_val (.tuple #[.agg #[.int .i64 (tlo d a b p), .int .i64 (thi d a b p)], .int .i64 0]) rfl (fun _ => rfl) ?_
          simp only [Act.put, Xa, Xz, Xs]
          refine wl_val (.agg #[.int .i64 (tlo d a b p), .int .i64 (thi d a b p)]) rfl (fun _ => by go_simp) ?_
          simp only [Act.put, Xa, Xz, Xs]
          refine wl_val (.int .i64 0) rfl (fun _ => by go_simp) ?_
          simp only [Act.put, Xa, Xz, Xs]
          refine wl_new 23 (#[.int .i64 0, .int .i64 0]) rfl (fun _ => by go_simp) ?_
          intro g7
          simp only [Act.put, Xa, Xz, Xs]
          refine wl_store 0 23 (.tmp 9) (.tmp 47) (#[.int .i64 (tlo d a b p), .int .i64 (thi d a b p)]) rfl rfl rfl rfl rfl (by kernel_rfl) rfl (by simp [Value.oneCell']) ?_
          simp only [Act.put, List.set_cons_zero]
          refine wl_val (.int .i64 0) rfl (fun _ => rfl) ?_
          simp only [Act.put, Xa, Xz, Xs]
          refine wl_nil ?_
          refine we_then ?_
          refine wc_seq ?_
          refine wc_region ?_
          refine wl_val (.int .i16 d) rfl (fun _ => rfl) ?_
          simp only [Act.put, Xa, Xz, Xs]
          refine wl_val (.int .i64 d) rfl (fun w => Sw.run_conv rfl rfl Try.underlying32 Try.underlying2 (i64_in (by omega) (by omega)) w) ?_
          simp only [Act.put, Xa, Xz, Xs]
          refine wl_load 23 (.tmp 6) (own_row 1 rfl) rfl rfl rfl Try.underlying23 rfl (by kernel_rfl) ?_
          simp only [Act.put, Xa, Xz, Xs]
          refine wl_val (.int .i64 p) rfl (fun _ => rfl) ?_
          simp only [Act.put, Xa, Xz, Xs]
          refine wl_call 10 #[.int .i64 d, .agg #[.int .i64 a2, .int .i64 b2], .int .i64 p] (.tuple #[.agg #[.int .i64 (tlo d a2 b2 p), .int .i64 (thi d a2 b2 p)], .int .i64 0]) rfl (fun _ => by go_simp) (fun W => Sns.tacho_yes d a2 b2 p W (by omega) (by omega) (by omega) (by omega) (by omega) (by omega) (by omega)) ?_
          simp only [Act.put, Xa, Xz, Xs]
          refine wl_val (.tuple #[.agg #[.int .i64 (tlo d a2 b2 p), .int .i64 (thi d a2 b2 p)], .int .i64 0]) rfl (fun _ => rfl) ?_
          simp only [Act.put, Xa, Xz, Xs]
          refine wl_val (.agg #[.int .i64 (tlo d a2 b2 p), .int .i64 (thi d a2 b2 p)]) rfl (fun _ => by go_simp) ?_
          simp only [Act.put, Xa, Xz, Xs]
          refine wl_val (.int .i64 0) rfl (fun _ => by go_simp) ?_
          simp only [Act.put, Xa, Xz, Xs]
          refine wl_new 23 (#[.int .i64 0, .int .i64 0]) rfl (fun _ => by go_simp) ?_
          intro g8
          simp only [Act.put, Xa, Xz, Xs]
          refine wl_store 0 23 (.tmp 11) (.tmp 55) (#[.int .i64 (tlo d a2 b2 p), .int .i64 (thi d a2 b2 p)]) rfl rfl rfl rfl rfl (by kernel_rfl) rfl (by simp [Value.oneCell']) ?_
          simp only [Act.put, List.set_cons_zero]
          refine wl_val (.int .i64 0) rfl (fun _ => rfl) ?_
          simp only [Act.put, Xa, Xz, Xs]
          refine wl_nil ?_
          refine we_then ?_
          refine wc_seq ?_
          refine wc_seq ?_
          refine wc_region ?_
          refine wl_val (.int .i64 0) rfl (fun _ => rfl) ?_
          simp only [Act.put, Xa, Xz, Xs]
          refine wl_val (.bool false) rfl (fun w => run_cmp rfl rfl rfl Try.underlying25 rfl w) ?_
          simp only [Act.put, Xa, Xz, Xs]
          refine wl_val (.bool false) rfl (fun _ => rfl) ?_
          simp only [Act.put, Xa, Xz, Xs]
          refine wl_val (.int .i64 0) rfl (fun _ => rfl) ?_
          simp only [Act.put, Xa, Xz, Xs]
          refine wl_val (.bool false) rfl (fun w => run_cmp rfl rfl rfl Try.underlying25 rfl w) ?_
          simp only [Act.put, Xa, Xz, Xs]
          refine wl_val (.bool false) rfl (fun _ => rfl) ?_
          simp only [Act.put, Xa, Xz, Xs]
          refine wl_val (.bool false) rfl (fun _ => rfl) ?_
          simp only [Act.put, Xa, Xz, Xs]
          refine wl_val (.pointer (some ⟨g8, 0, none⟩)) rfl (fun _ => by go_simp) ?_
          simp only [Act.put, Xa, Xz, Xs]
          refine wl_cell 2 (.tmp 64) (.int .i64 (tlo d a2 b2 p)) (own_row 0 rfl) rfl rfl rfl rfl Try.isAgg2 ?_
          simp only [Act.put, Xa, Xz, Xs]
          refine wl_val (.pointer (some ⟨g7, 0, none⟩)) rfl (fun _ => by go_simp) ?_
          simp only [Act.put, Xa, Xz, Xs]
          refine wl_cell 2 (.tmp 66) (.int .i64 (tlo d a b p)) (own_row 1 rfl) rfl rfl rfl rfl Try.isAgg2 ?_
          simp only [Act.put, Xa, Xz, Xs]
          refine wl_val (.bool (decide ((tlo d a2 b2 p) < (tlo d a b p)))) rfl (fun w => run_cmp rfl rfl rfl Try.underlying2 rfl w) ?_
          simp only [Act.put, Xa, Xz, Xs]
          refine wl_val (.bool (decide ((tlo d a2 b2 p) < (tlo d a b p)))) rfl (fun _ => rfl) ?_
          simp only [Act.put, Xa, Xz, Xs]
          refine wl_val (.bool (decide ((tlo d a2 b2 p) < (tlo d a b p)))) rfl (fun _ => rfl) ?_
          simp only [Act.put, Xa, Xz, Xs]
          cases h9 : (decide ((tlo d a2 b2 p) < (tlo d a b p)))
          · skip
            have p9 : ¬ ((tlo d a2 b2 p) < (tlo d a b p)) := of_decide_eq_false h9
            refine wl_val (.pointer (some ⟨g8, 1, none⟩)) rfl (fun _ => by go_simp) ?_
            simp only [Act.put, Xa, Xz, Xs]
            refine wl_cell 2 (.tmp 71) (.int .i64 (thi d a2 b2 p)) (own_row 0 rfl) rfl rfl rfl rfl Try.isAgg2 ?_
            simp only [Act.put, Xa, Xz, Xs]
            refine wl_val (.pointer (some ⟨g7, 1, none⟩)) rfl (fun _ => by go_simp) ?_
            simp only [Act.put, Xa, Xz, Xs]
            refine wl_cell 2 (.tmp 73) (.int .i64 (thi d a b p)) (own_row 1 rfl) rfl rfl rfl rfl Try.isAgg2 ?_
            simp only [Act.put, Xa, Xz, Xs]
            refine wl_val (.bool (decide ((thi d a b p) < (thi d a2 b2 p)))) rfl (fun w => run_cmp rfl rfl rfl Try.underlying2 rfl w) ?_
            simp only [Act.put, Xa, Xz, Xs]
            refine wl_val (.bool (decide ((thi d a b p) < (thi d a2 b2 p)))) rfl (fun _ => rfl) ?_
            simp only [Act.put, Xa, Xz, Xs]
            refine wl_nil ?_
            refine we_then ?_
            cases h10 : (decide ((thi d a b p) < (thi d a2 b2 p)))
            · skip
              have p10 : ¬ ((thi d a b p) < (thi d a2 b2 p)) := of_decide_eq_false h10
              refine wc_false rfl ?_
              refine wc_skip ?_
              refine we_then ?_
              refine wc_seq ?_
              refine wc_seq ?_
              refine wc_region ?_
              refine wl_val (.int .i16 d) rfl (fun _ => rfl) ?_
              simp only [Act.put, Xa, Xz, Xs]
              refine wl_val (.bool (d == 32767)) rfl (fun w => run_cmp rfl rfl rfl Try.underlying32 rfl w) ?_
              simp only [Act.put, Xa, Xz, Xs]
              refine wl_nil ?_
              refine we_then ?_
              cases h11 : (d == 32767)
              · skip
                have p11 : ¬ (d = 32767) := by first | (simp; done) | (simp at h11; done) | simpa using h11
                refine wc_false rfl ?_
                refine wc_skip ?_
                refine we_then ?_
                refine wc_seq ?_
                refine wc_region ?_
                refine wl_val (.int .i16 d) rfl (fun _ => rfl) ?_
                simp only [Act.put, Xa, Xz, Xs]
                refine wl_val (.int .i64 d) rfl (fun w => Sw.run_conv rfl rfl Try.underlying32 Try.underlying2 (i64_in (by omega) (by omega)) w) ?_
                simp only [Act.put, Xa, Xz, Xs]
                refine wl_val (.int .i64 (d + 1)) rfl (fun w => run_arith (op := .add) rfl rfl rfl Try.underlying2 (congrArg some (i64_in (by omega) (by omega))) w) ?_
                simp only [Act.put, Xa, Xz, Xs]
                refine wl_load 23 (.tmp 5) (own_row 3 rfl) rfl rfl rfl Try.underlying23 rfl (by kernel_rfl) ?_
                simp only [Act.put, Xa, Xz, Xs]
                refine wl_val (.int .i64 p) rfl (fun _ => rfl) ?_
                simp only [Act.put, Xa, Xz, Xs]
                refine wl_call 10 #[.int .i64 (d + 1), .agg #[.int .i64 a, .int .i64 b], .int .i64 p] (.tuple #[.agg #[.int .i64 (tlo (d + 1) a b p), .int .i64 (thi (d + 1) a b p)], .int .i64 0]) rfl (fun _ => by go_simp) (fun W => Sns.tacho_yes (d + 1) a b p W (by omega) (by omega) (by omega) (by omega) (by omega) (by omega) (by omega)) ?_
                simp only [Act.put, Xa, Xz, Xs]
                refine wl_val (.tuple #[.agg #[.int .i64 (tlo (d + 1) a b p), .int .i64 (thi (d + 1) a b p)], .int .i64 0]) rfl (fun _ => rfl) ?_
                simp only [Act.put, Xa, Xz, Xs]
                refine wl_val (.agg #[.int .i64 (tlo (d + 1) a b p), .int .i64 (thi (d + 1) a b p)]) rfl (fun _ => by go_simp) ?_
                simp only [Act.put, Xa, Xz, Xs]
                refine wl_val (.int .i64 0) rfl (fun _ => by go_simp) ?_
                simp only [Act.put, Xa, Xz, Xs]
                refine wl_new 23 (#[.int .i64 0, .int .i64 0]) rfl (fun _ => by go_simp) ?_
                intro g12
                simp only [Act.put, Xa, Xz, Xs]
                refine wl_store 0 23 (.tmp 13) (.tmp 86) (#[.int .i64 (tlo (d + 1) a b p), .int .i64 (thi (d + 1) a b p)]) rfl rfl rfl rfl rfl (by kernel_rfl) rfl (by simp [Value.oneCell']) ?_
                simp only [Act.put, List.set_cons_zero]
                refine wl_val (.int .i64 0) rfl (fun _ => rfl) ?_
                simp only [Act.put, Xa, Xz, Xs]
                refine wl_nil ?_
                refine we_then ?_
                refine wc_seq ?_
                refine wc_region ?_
                refine wl_val (.int .i64 0) rfl (fun _ => rfl) ?_
                simp only [Act.put, Xa, Xz, Xs]
                refine wl_val (.bool true) rfl (fun w => run_cmp rfl rfl rfl Try.underlying25 rfl w) ?_
                simp only [Act.put, Xa, Xz, Xs]
                refine wl_val (.bool true) rfl (fun _ => rfl) ?_
                simp only [Act.put, Xa, Xz, Xs]
                refine wl_val (.pointer (some ⟨g12, 0, none⟩)) rfl (fun _ => by go_simp) ?_
                simp only [Act.put, Xa, Xz, Xs]
                refine wl_cell 2 (.tmp 91) (.int .i64 (tlo (d + 1) a b p)) (own_row 0 rfl) rfl rfl rfl rfl Try.isAgg2 ?_
                simp only [Act.put, Xa, Xz, Xs]
                refine wl_val (.pointer (some ⟨g7, 0, none⟩)) rfl (fun _ => by go_simp) ?_
                simp only [Act.put, Xa, Xz, Xs]
                refine wl_cell 2 (.tmp 93) (.int .i64 (tlo d a b p)) (own_row 2 rfl) rfl rfl rfl rfl Try.isAgg2 ?_
                simp only [Act.put, Xa, Xz, Xs]
                refine wl_val (.bool (decide ((tlo d a b p) ≤ (tlo (d + 1) a b p)))) rfl (fun w => run_cmp rfl rfl rfl Try.underlying2 rfl w) ?_
                simp only [Act.put, Xa, Xz, Xs]
                refine wl_val (.bool (decide ((tlo d a b p) ≤ (tlo (d + 1) a b p)))) rfl (fun _ => rfl) ?_
                simp only [Act.put, Xa, Xz, Xs]
                refine wl_val (.bool (decide ((tlo d a b p) ≤ (tlo (d + 1) a b p)))) rfl (fun _ => rfl) ?_
                simp only [Act.put, Xa, Xz, Xs]
                cases h13 : (decide ((tlo d a b p) ≤ (tlo (d + 1) a b p)))
                · skip
                  have p13 : ¬ ((tlo d a b p) ≤ (tlo (d + 1) a b p)) := of_decide_eq_false h13
                  refine wl_skip rfl ?_
                  simp only [Act.put, Xa, Xz, Xs]
                  refine wl_skip rfl ?_
                  simp only [Act.put, Xa, Xz, Xs]
                  refine wl_skip rfl ?_
                  simp only [Act.put, Xa, Xz, Xs]
                  refine wl_skip rfl ?_
                  simp only [Act.put, Xa, Xz, Xs]
                  refine wl_skip rfl ?_
                  simp only [Act.put, Xa, Xz, Xs]
                  refine wl_val (.bool false) rfl (fun _ => rfl) ?_
                  simp only [Act.put, Xa, Xz, Xs]
                  refine wl_val (.bool false) rfl (fun _ => rfl) ?_
                  simp only [Act.put, Xa, Xz, Xs]
                  refine wl_nil ?_
                  refine we_then ?_
                  refine wc_ret ?_
                  refine we_ret1 (.bool false) rfl rfl rfl (fun w1 hE => ?_)
                  have t1 := tach_in (d := d) (lo := a) (hi := b) (lo' := a2) (hi' := b2) (p := p) (by omega) (by omega) (by omega)
                  have t2 := tach_more (d := d) (lo := a) (hi := b) (p := p) (by omega) (by omega) (by omega)
                  exact (by exfalso; omega)
                · skip
                  have p13 : (tlo d a b p) ≤ (tlo (d + 1) a b p) := of_decide_eq_true h13
                  refine wl_val (.pointer (some ⟨g12, 1, none⟩)) rfl (fun _ => by go_simp) ?_
                  simp only [Act.put, Xa, Xz, Xs]
                  refine wl_cell 2 (.tmp 98) (.int .i64 (thi (d + 1) a b p)) (own_row 0 rfl) rfl rfl rfl rfl Try.isAgg2 ?_
                  simp only [Act.put, Xa, Xz, Xs]
                  refine wl_val (.pointer (some ⟨g7, 1, none⟩)) rfl (fun _ => by go_simp) ?_
                  simp only [Act.put, Xa, Xz, Xs]
                  refine wl_cell 2 (.tmp 100) (.int .i64 (thi d a b p)) (own_row 2 rfl) rfl rfl rfl rfl Try.isAgg2 ?_
                  simp only [Act.put, Xa, Xz, Xs]
                  refine wl_val (.bool (decide ((thi d a b p) ≤ (thi (d + 1) a b p)))) rfl (fun w => run_cmp rfl rfl rfl Try.underlying2 rfl w) ?_
                  simp only [Act.put, Xa, Xz, Xs]
                  refine wl_val (.bool (decide ((thi d a b p) ≤ (thi (d + 1) a b p)))) rfl (fun _ => rfl) ?_
                  simp only [Act.put, Xa, Xz, Xs]
                  refine wl_val (.bool (decide ((thi d a b p) ≤ (thi (d + 1) a b p)))) rfl (fun _ => rfl) ?_
                  simp only [Act.put, Xa, Xz, Xs]
                  refine wl_nil ?_
                  refine we_then ?_
                  refine wc_ret ?_
                  refine we_ret1 (.bool (decide ((thi d a b p) ≤ (thi (d + 1) a b p)))) rfl rfl rfl (fun w1 hE => ?_)
                  have t1 := tach_in (d := d) (lo := a) (hi := b) (lo' := a2) (hi' := b2) (p := p) (by omega) (by omega) (by omega)
                  have t2 := tach_more (d := d) (lo := a) (hi := b) (p := p) (by omega) (by omega) (by omega)
                  exact ⟨by rw [show (decide ((thi d a b p) ≤ (thi (d + 1) a b p))) = true from by simp; omega], hE.below⟩
              · skip
                have p11 : d = 32767 := by first | (simp; done) | (simp at h11; done) | simpa using h11
                refine wc_true rfl ?_
                refine wc_seq ?_
                refine wc_region ?_
                refine wl_val (.bool true) rfl (fun _ => rfl) ?_
                simp only [Act.put, Xa, Xz, Xs]
                refine wl_nil ?_
                refine we_then ?_
                refine wc_ret ?_
                refine we_then_ret ?_
                refine we_ret1 (.bool true) rfl rfl rfl (fun w1 hE => ?_)
                exact ⟨rfl, hE.below⟩
            · skip
              have p10 : (thi d a b p) < (thi d a2 b2 p) := of_decide_eq_true h10
              refine wc_true rfl ?_
              refine wc_seq ?_
              refine wc_region ?_
              refine wl_val (.bool false) rfl (fun _ => rfl) ?_
              simp only [Act.put, Xa, Xz, Xs]
              refine wl_nil ?_
              refine we_then ?_
              refine wc_ret ?_
              refine we_then_ret ?_
              refine we_ret1 (.bool false) rfl rfl rfl (fun w1 hE => ?_)
              have t1 := tach_in (d := d) (lo := a) (hi := b) (lo' := a2) (hi' := b2) (p := p) (by omega) (by omega) (by omega)
              have t2 := tach_more (d := d) (lo := a) (hi := b) (p := p) (by omega) (by omega) (by omega)
              exact (by exfalso; omega)
          · skip
            have p9 : (tlo d a2 b2 p) < (tlo d a b p) := of_decide_eq_true h9
            refine wl_skip rfl ?_
            simp only [Act.put, Xa, Xz, Xs]
            refine wl_skip rfl ?_
            simp only [Act.put, Xa, Xz, Xs]
            refine wl_skip rfl ?_
            simp only [Act.put, Xa, Xz, Xs]
            refine wl_skip rfl ?_
            simp only [Act.put, Xa, Xz, Xs]
            refine wl_skip rfl ?_
            simp only [Act.put, Xa, Xz, Xs]
            refine wl_val (.bool true) rfl (fun _ => rfl) ?_
            simp only [Act.put, Xa, Xz, Xs]
            refine wl_nil ?_
            refine we_then ?_
            refine wc_true rfl ?_
            refine wc_seq ?_
            refine wc_region ?_
            refine wl_val (.bool false) rfl (fun _ => rfl) ?_
            simp only [Act.put, Xa, Xz, Xs]
            refine wl_nil ?_
            refine we_then ?_
            refine wc_ret ?_
            refine we_then_ret ?_
            refine we_ret1 (.bool false) rfl rfl rfl (fun w1 hE => ?_)
            have t1 := tach_in (d := d) (lo := a) (hi := b) (lo' := a2) (hi' := b2) (p := p) (by omega) (by omega) (by omega)
            have t2 := tach_more (d := d) (lo := a) (hi := b) (p := p) (by omega) (by omega) (by omega)
            exact (by exfalso; omega)
        · skip
          have p6 : b < b2 := of_decide_eq_true h6
          refine wc_true rfl ?_
          refine wc_seq ?_
          refine wc_region ?_
          refine wl_val (.bool true) rfl (fun _ => rfl) ?_
          simp only [Act.put, Xa, Xz, Xs]
          refine wl_nil ?_
          refine we_then ?_
          refine wc_ret ?_
          refine we_then_ret ?_
          refine we_ret1 (.bool true) rfl rfl rfl (fun w1 hE => ?_)
          exact ⟨rfl, hE.below⟩
      · skip
        have p5 : a2 < a := of_decide_eq_true h5
        refine wl_skip rfl ?_
        simp only [Act.put, Xa, Xz, Xs]
        refine wl_skip rfl ?_
        simp only [Act.put, Xa, Xz, Xs]
        refine wl_skip rfl ?_
        simp only [Act.put, Xa, Xz, Xs]
        refine wl_skip rfl ?_
        simp only [Act.put, Xa, Xz, Xs]
        refine wl_skip rfl ?_
        simp only [Act.put, Xa, Xz, Xs]
        refine wl_val (.bool true) rfl (fun _ => rfl) ?_
        simp only [Act.put, Xa, Xz, Xs]
        refine wl_nil ?_
        refine we_then ?_
        refine wc_true rfl ?_
        refine wc_seq ?_
        refine wc_region ?_
        refine wl_val (.bool true) rfl (fun _ => rfl) ?_
        simp only [Act.put, Xa, Xz, Xs]
        refine wl_nil ?_
        refine we_then ?_
        refine wc_ret ?_
        refine we_then_ret ?_
        refine we_ret1 (.bool true) rfl rfl rfl (fun w1 hE => ?_)
        exact ⟨rfl, hE.below⟩
end Go.Proofs.Ytfohomkldpcbdaa.Walks
