/-
  The laws of layer 19: their helper, and their example. No condition.
-/
import Derived.Test.YtjpkcpoamkameaaRll
import Derived.Test.YtjpkcpoamkameaaCfref
import Derived.Test.YtjpkcpoamkameaaSpn
import Derived.Test.YtjpkcpoamkameaaSpo
import Derived.Test.YtjpkcpoamkameaaSmu
namespace Go.Proofs.Ytjpkcpoamkameaa.Rllw
open Go.ChangeShapes Go.WideShapes Go.ChangeAt Go.RowKit
open Arr Steady Sx Sw Sl Sb Sc Si Sj Sk Sh Sfn Smu Vs Gr Tk Tkh Tkl Cf Cfref Rlm
set_option linter.unusedVariables false
set_option linter.unusedSimpArgs false
set_option maxRecDepth 100000

theorem usual_ok : wrong (⟨1024, 131072, 131072, 0, 0, 0, 1000, 100, 0, 1, 128, 10, 5, 1⟩ : Cf) = 0 := by decide
set_option maxHeartbeats 2000000 in
theorem anchor_any  (w : World) :
    Calls Try.prog 6 #[] w fun e w' => e = .returned (.bool true) ∧ Below w.heap.size w w' := by
  refine calls_sx Try.func6 rfl ?_
  simp only [Try.ntmps6, List.size_toArray, List.length_nil, Nat.reduceSub, Array.replicate_succ, Array.replicate_zero, List.push_toArray, List.append_toArray, List.nil_append, List.cons_append]
  refine wc_seq ?_
  refine wc_region ?_
  refine wl_val (.bool false) rfl (fun _ => rfl) ?_
  simp only [Act.put, Xa, Xz]
  refine wl_nil ?_
  refine we_then ?_
  refine wc_seq ?_
  refine wc_region ?_
  refine wl_val (.agg #[.int .i64 1024, .int .i64 131072, .int .i64 131072, .int .i64 0, .int .i64 0, .int .i64 0, .int .i64 1000, .int .i64 100, .int .i64 0, .int .i64 1, .int .i64 128, .int .i64 10, .int .i64 5, .int .i64 1]) rfl (fun _ => by go_simp) ?_
  simp only [Act.put, Xa, Xz, Xs]
  refine wl_new 23 (#[.int .i64 0, .int .i64 0, .int .i64 0, .int .i64 0, .int .i64 0, .int .i64 0, .int .i64 0, .int .i64 0, .int .i64 0, .int .i64 0, .int .i64 0, .int .i64 0, .int .i64 0, .int .i64 0]) rfl (fun _ => by go_simp) ?_
  intro g1
  simp only [Act.put, Xa, Xz, Xs]
  refine wl_store 0 23 (.tmp 1) (.tmp 5) (#[.int .i64 1024, .int .i64 131072, .int .i64 131072, .int .i64 0, .int .i64 0, .int .i64 0, .int .i64 1000, .int .i64 100, .int .i64 0, .int .i64 1, .int .i64 128, .int .i64 10, .int .i64 5, .int .i64 1]) rfl rfl rfl rfl rfl (by kernel_rfl) rfl (by simp [Value.oneCell']) ?_
  simp only [Act.put, List.set_cons_zero]
  refine wl_nil ?_
  refine we_then ?_
  refine wc_seq ?_
  refine wc_region ?_
  refine wl_new 31 (#[.bool false, .bool false, .int .i64 0, .int .i64 0]) rfl (fun _ => by go_simp) ?_
  intro g2
  simp only [Act.put, Xa, Xz, Xs]
  refine wl_nil ?_
  refine we_then ?_
  refine wc_seq ?_
  refine wc_region ?_
  refine wl_val (.agg #[.int .i64 4, .int .i64 6]) rfl (fun _ => by go_simp) ?_
  simp only [Act.put, Xa, Xz, Xs]
  refine wl_new 29 (#[.int .i64 0, .int .i64 0]) rfl (fun _ => by go_simp) ?_
  intro g3
  simp only [Act.put, Xa, Xz, Xs]
  refine wl_store 0 29 (.tmp 3) (.tmp 6) (#[.int .i64 4, .int .i64 6]) rfl rfl rfl rfl rfl (by kernel_rfl) rfl (by simp [Value.oneCell']) ?_
  simp only [Act.put, List.set_cons_zero]
  refine wl_nil ?_
  refine we_then ?_
  refine wc_seq ?_
  refine wc_draw [.plain, .plain, .plain, .plain, .plain, .plain, .plain, .plain, .plain, .plain, .over] (some ⟨10, g2, 31, #[.bool false, .bool false, .int .i64 0, .int .i64 0], #[.bool true, .bool false, .int .i64 8, .int .i64 12]⟩) [] 35 (by kernel_rfl) rfl (by kernel_rfl) (by kernel_rfl) ?_
  refine ws_load 31 (.tmp 2) (own_row 1 rfl) rfl rfl rfl rfl Try.underlying31 rfl (by kernel_rfl) ?_
  simp only [Nat.reduceAdd, Act.put, Xa, Xz, Xs]
  refine ws_load 23 (.tmp 1) (own_row 2 rfl) rfl rfl rfl rfl Try.underlying23 rfl (by kernel_rfl) ?_
  simp only [Nat.reduceAdd, Act.put, Xa, Xz, Xs]
  refine ws_load 29 (.tmp 3) (own_row 0 rfl) rfl rfl rfl rfl Try.underlying29 rfl (by kernel_rfl) ?_
  simp only [Nat.reduceAdd, Act.put, Xa, Xz, Xs]
  refine ws_call 9 #[.agg #[.bool false, .bool false, .int .i64 0, .int .i64 0], .agg #[.int .i64 1024, .int .i64 131072, .int .i64 131072, .int .i64 0, .int .i64 0, .int .i64 0, .int .i64 1000, .int .i64 100, .int .i64 0, .int .i64 1, .int .i64 128, .int .i64 10, .int .i64 5, .int .i64 1], .bool true, .bool false, .agg #[.int .i64 4, .int .i64 6]] (.agg #[.bool true, .bool false, .int .i64 0, .int .i64 0]) rfl rfl (fun _ => by go_simp) (fun W => by have h := Rll.next_any (⟨1024, 131072, 131072, 0, 0, 0, 1000, 100, 0, 1, 128, 10, 5, 1⟩ : Cf) ⟨false, false, 0, 0⟩ true false 4 6 W (ok_of usual_ok) ⟨by decide, by decide, by decide, by decide, by decide, by decide⟩; rwa [show nx (⟨1024, 131072, 131072, 0, 0, 0, 1000, 100, 0, 1, 128, 10, 5, 1⟩ : Cf) ⟨false, false, 0, 0⟩ true false 4 6 = ⟨true, false, 0, 0⟩ from rfl] at h) ?_
  simp only [Nat.reduceAdd, Act.put, Xa, Xz, Xs]
  refine ws_load 23 (.tmp 1) (own_row 2 rfl) rfl rfl rfl rfl Try.underlying23 rfl (by kernel_rfl) ?_
  simp only [Nat.reduceAdd, Act.put, Xa, Xz, Xs]
  refine ws_load 29 (.tmp 3) (own_row 0 rfl) rfl rfl rfl rfl Try.underlying29 rfl (by kernel_rfl) ?_
  simp only [Nat.reduceAdd, Act.put, Xa, Xz, Xs]
  refine ws_call 9 #[.agg #[.bool true, .bool false, .int .i64 0, .int .i64 0], .agg #[.int .i64 1024, .int .i64 131072, .int .i64 131072, .int .i64 0, .int .i64 0, .int .i64 0, .int .i64 1000, .int .i64 100, .int .i64 0, .int .i64 1, .int .i64 128, .int .i64 10, .int .i64 5, .int .i64 1], .bool false, .bool false, .agg #[.int .i64 4, .int .i64 6]] (.agg #[.bool true, .bool false, .int .i64 4, .int .i64 6]) rfl rfl (fun _ => by go_simp) (fun W => by have h := Rll.next_any (⟨1024, 131072, 131072, 0, 0, 0, 1000, 100, 0, 1, 128, 10, 5, 1⟩ : Cf) ⟨true, false, 0, 0⟩ false false 4 6 W (ok_of usual_ok) ⟨by decide, by decide, by decide, by decide, by decide, by decide⟩; rwa [show nx (⟨1024, 131072, 131072, 0, 0, 0, 1000, 100, 0, 1, 128, 10, 5, 1⟩ : Cf) ⟨true, false, 0, 0⟩ false false 4 6 = ⟨true, false, 4, 6⟩ from rfl] at h) ?_
  simp only [Nat.reduceAdd, Act.put, Xa, Xz, Xs]
  refine ws_load 23 (.tmp 1) (own_row 2 rfl) rfl rfl rfl rfl Try.underlying23 rfl (by kernel_rfl) ?_
  simp only [Nat.reduceAdd, Act.put, Xa, Xz, Xs]
  refine ws_load 29 (.tmp 3) (own_row 0 rfl) rfl rfl rfl rfl Try.underlying29 rfl (by kernel_rfl) ?_
  simp only [Nat.reduceAdd, Act.put, Xa, Xz, Xs]
  refine ws_call 9 #[.agg #[.bool true, .bool false, .int .i64 4, .int .i64 6], .agg #[.int .i64 1024, .int .i64 131072, .int .i64 131072, .int .i64 0, .int .i64 0, .int .i64 0, .int .i64 1000, .int .i64 100, .int .i64 0, .int .i64 1, .int .i64 128, .int .i64 10, .int .i64 5, .int .i64 1], .bool false, .bool false, .agg #[.int .i64 4, .int .i64 6]] (.agg #[.bool true, .bool false, .int .i64 8, .int .i64 12]) rfl rfl (fun _ => by go_simp) (fun W => by have h := Rll.next_any (⟨1024, 131072, 131072, 0, 0, 0, 1000, 100, 0, 1, 128, 10, 5, 1⟩ : Cf) ⟨true, false, 4, 6⟩ false false 4 6 W (ok_of usual_ok) ⟨by decide, by decide, by decide, by decide, by decide, by decide⟩; rwa [show nx (⟨1024, 131072, 131072, 0, 0, 0, 1000, 100, 0, 1, 128, 10, 5, 1⟩ : Cf) ⟨true, false, 4, 6⟩ false false 4 6 = ⟨true, false, 8, 12⟩ from rfl] at h) ?_
  simp only [Nat.reduceAdd, Act.put, Xa, Xz, Xs]
  refine ws_over 1 _ 31 (.tmp 2) (.tmp 16) rfl rfl rfl rfl rfl rfl rfl rfl rfl (by kernel_rfl) rfl (by simp [Value.oneCell']) ?_
  simp only [Nat.reduceAdd]
  refine ws_nil_over 1 rfl (show 10 < 11 by decide) [] trivial (by simp) ?_
  intro ps4
  simp only [fin, List.foldl_nil, List.map, List.nil_append]
  refine we_then ?_
  refine wc_seq ?_
  refine wc_region ?_
  refine wl_val (.pointer (some ⟨g2, 1, none⟩)) rfl (fun _ => by go_simp) ?_
  simp only [Act.put, Xa, Xz, Xs]
  refine wl_cell 4 (.tmp 17) (.bool false) (own_row 1 rfl) rfl rfl rfl rfl Try.isAgg4 ?_
  simp only [Act.put, Xa, Xz, Xs]
  refine wl_val (.bool false) rfl (fun _ => rfl) ?_
  simp only [Act.put, Xa, Xz, Xs]
  refine wl_nil ?_
  refine we_then ?_
  refine wc_seq ?_
  refine wc_region ?_
  refine wl_load 31 (.tmp 2) (own_row 1 rfl) rfl rfl rfl Try.underlying31 rfl (by kernel_rfl) ?_
  simp only [Act.put, Xa, Xz, Xs]
  refine wl_load 23 (.tmp 1) (own_row 2 rfl) rfl rfl rfl Try.underlying23 rfl (by kernel_rfl) ?_
  simp only [Act.put, Xa, Xz, Xs]
  refine wl_load 29 (.tmp 3) (own_row 0 rfl) rfl rfl rfl Try.underlying29 rfl (by kernel_rfl) ?_
  simp only [Act.put, Xa, Xz, Xs]
  refine wl_call 9 #[.agg #[.bool true, .bool false, .int .i64 8, .int .i64 12], .agg #[.int .i64 1024, .int .i64 131072, .int .i64 131072, .int .i64 0, .int .i64 0, .int .i64 0, .int .i64 1000, .int .i64 100, .int .i64 0, .int .i64 1, .int .i64 128, .int .i64 10, .int .i64 5, .int .i64 1], .bool false, .bool false, .agg #[.int .i64 4, .int .i64 6]] (.agg #[.bool true, .bool true, .int .i64 12, .int .i64 18]) rfl (fun _ => by go_simp) (fun W => by have h := Rll.next_any (⟨1024, 131072, 131072, 0, 0, 0, 1000, 100, 0, 1, 128, 10, 5, 1⟩ : Cf) ⟨true, false, 8, 12⟩ false false 4 6 W (ok_of usual_ok) ⟨by decide, by decide, by decide, by decide, by decide, by decide⟩; rwa [show nx (⟨1024, 131072, 131072, 0, 0, 0, 1000, 100, 0, 1, 128, 10, 5, 1⟩ : Cf) ⟨true, false, 8, 12⟩ false false 4 6 = ⟨true, true, 12, 18⟩ from rfl] at h) ?_
  simp only [Act.put, Xa, Xz, Xs]
  refine wl_store 1 31 (.tmp 2) (.tmp 22) (#[.bool true, .bool true, .int .i64 12, .int .i64 18]) rfl rfl rfl rfl rfl (by kernel_rfl) rfl (by simp [Value.oneCell']) ?_
  simp only [Act.put, List.set_cons_zero, List.set_cons_succ]
  refine wl_nil ?_
  refine we_then ?_
  refine wc_seq ?_
  refine wc_region ?_
  refine wl_val (.bool false) rfl (fun _ => rfl) ?_
  simp only [Act.put, Xa, Xz, Xs]
  refine wl_val (.bool true) rfl (fun _ => by go_simp) ?_
  simp only [Act.put, Xa, Xz, Xs]
  refine wl_val (.bool true) rfl (fun _ => rfl) ?_
  simp only [Act.put, Xa, Xz, Xs]
  refine wl_val (.pointer (some ⟨g2, 1, none⟩)) rfl (fun _ => by go_simp) ?_
  simp only [Act.put, Xa, Xz, Xs]
  refine wl_cell 4 (.tmp 26) (.bool true) (own_row 1 rfl) rfl rfl rfl rfl Try.isAgg4 ?_
  simp only [Act.put, Xa, Xz, Xs]
  refine wl_val (.bool true) rfl (fun _ => rfl) ?_
  simp only [Act.put, Xa, Xz, Xs]
  refine wl_val (.bool true) rfl (fun _ => rfl) ?_
  simp only [Act.put, Xa, Xz, Xs]
  refine wl_val (.pointer (some ⟨g2, 2, none⟩)) rfl (fun _ => by go_simp) ?_
  simp only [Act.put, Xa, Xz, Xs]
  refine wl_part 29 (.tmp 30) [.int .i64 12, .int .i64 18] (own_row 1 rfl) rfl rfl rfl rfl Try.underlying29 rfl (by kernel_rfl) ?_
  simp only [Act.put, Xa, Xz, Xs]
  refine wl_val (.agg #[.int .i64 12, .int .i64 18]) rfl (fun _ => by go_simp) ?_
  simp only [Act.put, Xa, Xz, Xs]
  refine wl_val (.bool true) rfl (fun _ => by go_simp) ?_
  simp only [Act.put, Xa, Xz, Xs]
  refine wl_val (.bool true) rfl (fun _ => rfl) ?_
  simp only [Act.put, Xa, Xz, Xs]
  refine wl_val (.bool true) rfl (fun _ => rfl) ?_
  simp only [Act.put, Xa, Xz]
  refine wl_nil ?_
  refine we_then ?_
  refine wc_ret ?_
  refine we_ret1 (.bool true) rfl rfl rfl (fun w1 hE => ?_)
  exact ⟨rfl, hE.below⟩
set_option maxHeartbeats 2000000 in
theorem small_any (a b : Int) (w : World) :
    Calls Try.prog 8 #[.agg #[.int .i64 a, .int .i64 b]] w fun e w' => e = .returned (.bool (smallB a b)) ∧ Below w.heap.size w w' := by
  refine calls_sx Try.func8 rfl ?_
  simp only [Try.ntmps8, List.size_toArray, List.length_cons, List.length_nil, Nat.reduceAdd, Nat.reduceSub, Array.replicate_succ, Array.replicate_zero, List.push_toArray, List.append_toArray, List.nil_append, List.cons_append]
  refine wc_seq ?_
  refine wc_region ?_
  refine wl_new 29 (#[.int .i64 a, .int .i64 b]) rfl (fun _ => by go_simp) ?_
  intro g1
  simp only [Act.put, Xa, Xz, Xs]
  refine wl_val (.bool false) rfl (fun _ => rfl) ?_
  simp only [Act.put, Xa, Xz, Xs]
  refine wl_nil ?_
  refine we_then ?_
  refine wc_seq ?_
  refine wc_region ?_
  refine wl_val (.pointer (some ⟨g1, 0, none⟩)) rfl (fun _ => by go_simp) ?_
  simp only [Act.put, Xa, Xz, Xs]
  refine wl_cell 2 (.tmp 3) (.int .i64 a) (own_row 0 rfl) rfl rfl rfl rfl Try.isAgg2 ?_
  simp only [Act.put, Xa, Xz, Xs]
  refine wl_val (.pointer (some ⟨g1, 1, none⟩)) rfl (fun _ => by go_simp) ?_
  simp only [Act.put, Xa, Xz, Xs]
  refine wl_cell 2 (.tmp 5) (.int .i64 b) (own_row 0 rfl) rfl rfl rfl rfl Try.isAgg2 ?_
  simp only [Act.put, Xa, Xz, Xs]
  refine wl_val (.bool (decide (a ≤ b))) rfl (fun w => run_cmp rfl rfl rfl Try.underlying2 rfl w) ?_
  simp only [Act.put, Xa, Xz, Xs]
  refine wl_val (.bool (decide (a ≤ b))) rfl (fun _ => rfl) ?_
  simp only [Act.put, Xa, Xz, Xs]
  cases h2 : (decide (a ≤ b))
  · skip
    have p2 : ¬ (a ≤ b) := of_decide_eq_false h2
    refine wl_skip rfl ?_
    simp only [Act.put, Xa, Xz, Xs]
    refine wl_skip rfl ?_
    simp only [Act.put, Xa, Xz, Xs]
    refine wl_skip rfl ?_
    simp only [Act.put, Xa, Xz, Xs]
    refine wl_val (.bool false) rfl (fun _ => rfl) ?_
    simp only [Act.put, Xa, Xz, Xs]
    refine wl_val (.bool false) rfl (fun _ => rfl) ?_
    simp only [Act.put, Xa, Xz, Xs]
    refine wl_skip rfl ?_
    simp only [Act.put, Xa, Xz, Xs]
    refine wl_skip rfl ?_
    simp only [Act.put, Xa, Xz, Xs]
    refine wl_skip rfl ?_
    simp only [Act.put, Xa, Xz, Xs]
    refine wl_val (.bool false) rfl (fun _ => rfl) ?_
    simp only [Act.put, Xa, Xz, Xs]
    refine wl_val (.bool false) rfl (fun _ => rfl) ?_
    simp only [Act.put, Xa, Xz, Xs]
    refine wl_nil ?_
    refine we_then ?_
    refine wc_ret ?_
    refine we_ret1 (.bool false) rfl rfl rfl (fun w1 hE => ?_)
    exact ⟨by rw [small_no (by omega)], hE.below⟩
  · skip
    have p2 : a ≤ b := of_decide_eq_true h2
    refine wl_val (.pointer (some ⟨g1, 0, none⟩)) rfl (fun _ => by go_simp) ?_
    simp only [Act.put, Xa, Xz, Xs]
    refine wl_cell 2 (.tmp 9) (.int .i64 a) (own_row 0 rfl) rfl rfl rfl rfl Try.isAgg2 ?_
    simp only [Act.put, Xa, Xz, Xs]
    refine wl_val (.bool (decide (-1099511627776 ≤ a))) rfl (fun w => run_cmp rfl rfl rfl Try.underlying2 rfl w) ?_
    simp only [Act.put, Xa, Xz, Xs]
    refine wl_val (.bool (decide (-1099511627776 ≤ a))) rfl (fun _ => rfl) ?_
    simp only [Act.put, Xa, Xz, Xs]
    refine wl_val (.bool (decide (-1099511627776 ≤ a))) rfl (fun _ => rfl) ?_
    simp only [Act.put, Xa, Xz, Xs]
    cases h3 : (decide (-1099511627776 ≤ a))
    · skip
      have p3 : ¬ (-1099511627776 ≤ a) := of_decide_eq_false h3
      refine wl_skip rfl ?_
      simp only [Act.put, Xa, Xz, Xs]
      refine wl_skip rfl ?_
      simp only [Act.put, Xa, Xz, Xs]
      refine wl_skip rfl ?_
      simp only [Act.put, Xa, Xz, Xs]
      refine wl_val (.bool false) rfl (fun _ => rfl) ?_
      simp only [Act.put, Xa, Xz, Xs]
      refine wl_val (.bool false) rfl (fun _ => rfl) ?_
      simp only [Act.put, Xa, Xz, Xs]
      refine wl_nil ?_
      refine we_then ?_
      refine wc_ret ?_
      refine we_ret1 (.bool false) rfl rfl rfl (fun w1 hE => ?_)
      exact ⟨by rw [small_no (by omega)], hE.below⟩
    · skip
      have p3 : -1099511627776 ≤ a := of_decide_eq_true h3
      refine wl_val (.pointer (some ⟨g1, 1, none⟩)) rfl (fun _ => by go_simp) ?_
      simp only [Act.put, Xa, Xz, Xs]
      refine wl_cell 2 (.tmp 14) (.int .i64 b) (own_row 0 rfl) rfl rfl rfl rfl Try.isAgg2 ?_
      simp only [Act.put, Xa, Xz, Xs]
      refine wl_val (.bool (decide (b ≤ 1099511627776))) rfl (fun w => run_cmp rfl rfl rfl Try.underlying2 rfl w) ?_
      simp only [Act.put, Xa, Xz, Xs]
      refine wl_val (.bool (decide (b ≤ 1099511627776))) rfl (fun _ => rfl) ?_
      simp only [Act.put, Xa, Xz, Xs]
      refine wl_val (.bool (decide (b ≤ 1099511627776))) rfl (fun _ => rfl) ?_
      simp only [Act.put, Xa, Xz, Xs]
      refine wl_nil ?_
      refine we_then ?_
      refine wc_ret ?_
      refine we_ret1 (.bool (decide (b ≤ 1099511627776))) rfl rfl rfl (fun w1 hE => ?_)
      exact ⟨by rw [show smallB a b = (decide (b ≤ 1099511627776)) from by by_cases h9 : b ≤ 1099511627776; (rw [small_yes (by omega)]; exact (decide_eq_true h9).symm); (rw [small_no (by omega)]; exact (decide_eq_false h9).symm)], hE.below⟩
theorem has_b (a b x : Int) (w : World) :
    Calls Try.prog 10 #[.agg #[.int .i64 a, .int .i64 b], .int .i64 x] w fun e w' => e = .returned (.bool (decide (a ≤ x) && decide (x ≤ b))) ∧ Below w.heap.size w w' := Spn.has_any a b x w
end Go.Proofs.Ytjpkcpoamkameaa.Rllw
