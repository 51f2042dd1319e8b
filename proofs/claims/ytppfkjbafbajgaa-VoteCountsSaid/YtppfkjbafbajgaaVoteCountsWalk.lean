/-
  VoteCounts: the law's walk. Condition: the ends fit in 64 bits.
-/
import Derived.Test.YtppfkjbafbajgaaVlaw
namespace Go.Proofs.Ytppfkjbafbajgaa.Walks
open Go.ChangeShapes Go.WideShapes Go.ChangeAt Go.RowKit
open Arr Steady Sx Sw Sl Spn Vs Srt Vlo Vref Vvote Vlaw
set_option linter.unusedVariables false
set_option maxRecDepth 100000

set_option maxHeartbeats 2000000 in
theorem voteCounts_walk (L : Spans) (p : Option Addr) (c : Nat) (w : World) (hL : Reads w p (flat enc2 L)) (hF : FitL L) :
    Calls Try.prog 3 #[.slice p L.length c] w fun e w' => e = .returned (.bool true) ∧ Below w.heap.size w w' := by
  refine calls_sx Try.func3 rfl ?_
  simp only [Try.ntmps3, List.size_toArray, List.length_cons, List.length_nil, Nat.reduceAdd, Nat.reduceSub, Array.replicate_succ, Array.replicate_zero, List.push_toArray, List.append_toArray, List.nil_append, List.cons_append]
  refine wc_seq ?_
  refine wc_region ?_
  refine wl_val (.bool false) rfl (fun _ => rfl) ?_
  simp only [Act.put, List.setIfInBounds_toArray, List.set_cons_zero, List.set_cons_succ]
  refine wl_nil ?_
  refine we_then ?_
  refine wc_seq ?_
  refine wc_seq ?_
  refine wc_region ?_
  refine wl_call 7 #[] (.bool true) rfl (fun _ => by go_simp) (fun W => anchor_any W) ?_
  simp only [Act.put, List.setIfInBounds_toArray, List.set_cons_zero, List.set_cons_succ]
  refine wl_val (.bool false) rfl (fun _ => by go_simp) ?_
  simp only [Act.put, List.setIfInBounds_toArray, List.set_cons_zero, List.set_cons_succ]
  refine wl_nil ?_
  refine we_then ?_
  refine wc_false rfl ?_
  refine wc_skip ?_
  refine we_then ?_
  refine wc_seq ?_
  refine wc_seq ?_
  refine wc_region ?_
  refine wl_val (.slice p L.length c) rfl (fun _ => rfl) ?_
  simp only [Act.put, List.setIfInBounds_toArray, List.set_cons_zero, List.set_cons_succ]
  refine wl_val (.int .i64 (L.length : Int)) rfl (fun w => er_len rfl rfl Try.underlying22 w) ?_
  simp only [Act.put, List.setIfInBounds_toArray, List.set_cons_zero, List.set_cons_succ]
  refine wl_val (.bool (decide (40 < (L.length : Int)))) rfl (fun w => run_cmp rfl rfl rfl Try.underlying3 rfl w) ?_
  simp only [Act.put, List.setIfInBounds_toArray, List.set_cons_zero, List.set_cons_succ]
  refine wl_nil ?_
  refine we_then ?_
  cases h1 : (decide (40 < (L.length : Int)))
  · skip
    have p1 : ¬ (40 < (L.length : Int)) := of_decide_eq_false h1
    refine wc_false rfl ?_
    refine wc_skip ?_
    refine we_then ?_
    refine wc_seq ?_
    refine wc_region ?_
    refine wl_val (.slice p L.length c) rfl (fun _ => rfl) ?_
    simp only [Act.put, List.setIfInBounds_toArray, List.set_cons_zero, List.set_cons_succ]
    refine wl_call_at 8 #[.slice p L.length c] (.tuple #[.agg #[.int .i64 ((byZ L (max (L.length : Int) 1)).1), .int .i64 ((byZ L (max (L.length : Int) 1)).2.1)], .bool ((byZ L (max (L.length : Int) 1)).2.2)]) rfl (fun _ => by go_simp) (fun W hE => common_any L p c W (sl_old (R := []) hL W (hE.sub (List.nil_sublist _))) (by omega) hF) ?_
    simp only [Act.put, List.setIfInBounds_toArray, List.set_cons_zero, List.set_cons_succ]
    refine wl_val (.tuple #[.agg #[.int .i64 ((byZ L (max (L.length : Int) 1)).1), .int .i64 ((byZ L (max (L.length : Int) 1)).2.1)], .bool ((byZ L (max (L.length : Int) 1)).2.2)]) rfl (fun _ => rfl) ?_
    simp only [Act.put, List.setIfInBounds_toArray, List.set_cons_zero, List.set_cons_succ]
    refine wl_val (.agg #[.int .i64 ((byZ L (max (L.length : Int) 1)).1), .int .i64 ((byZ L (max (L.length : Int) 1)).2.1)]) rfl (fun _ => by go_simp) ?_
    simp only [Act.put, List.setIfInBounds_toArray, List.set_cons_zero, List.set_cons_succ]
    refine wl_val (.bool ((byZ L (max (L.length : Int) 1)).2.2)) rfl (fun _ => by go_simp) ?_
    simp only [Act.put, List.setIfInBounds_toArray, List.set_cons_zero, List.set_cons_succ]
    refine wl_new 25 (#[.int .i64 0, .int .i64 0]) rfl (fun _ => by go_simp) ?_
    intro g2
    simp only [Act.put, List.setIfInBounds_toArray, List.set_cons_zero, List.set_cons_succ]
    refine wl_store 0 25 (.tmp 3) (.tmp 19) (#[.int .i64 ((byZ L (max (L.length : Int) 1)).1), .int .i64 ((byZ L (max (L.length : Int) 1)).2.1)]) rfl rfl rfl rfl rfl (by kernel_rfl) rfl (by simp [Value.oneCell']) ?_
    simp only [Act.put, List.set_cons_zero]
    refine wl_val (.bool ((byZ L (max (L.length : Int) 1)).2.2)) rfl (fun _ => rfl) ?_
    simp only [Act.put, List.setIfInBounds_toArray, List.set_cons_zero, List.set_cons_succ]
    refine wl_nil ?_
    refine we_then ?_
    refine wc_seq ?_
    refine wc_region ?_
    refine wl_val (.slice p L.length c) rfl (fun _ => rfl) ?_
    simp only [Act.put, List.setIfInBounds_toArray, List.set_cons_zero, List.set_cons_succ]
    refine wl_call_at 9 #[.slice p L.length c] (.tuple #[.agg #[.int .i64 ((byZ L 2).1), .int .i64 ((byZ L 2).2.1)], .bool ((byZ L 2).2.2)]) rfl (fun _ => by go_simp) (fun W hE => two_any L p c W (sl_old (R := []) hL W (hE.sub (List.nil_sublist _))) (by omega)) ?_
    simp only [Act.put, List.setIfInBounds_toArray, List.set_cons_zero, List.set_cons_succ]
    refine wl_val (.tuple #[.agg #[.int .i64 ((byZ L 2).1), .int .i64 ((byZ L 2).2.1)], .bool ((byZ L 2).2.2)]) rfl (fun _ => rfl) ?_
    simp only [Act.put, List.setIfInBounds_toArray, List.set_cons_zero, List.set_cons_succ]
    refine wl_val (.agg #[.int .i64 ((byZ L 2).1), .int .i64 ((byZ L 2).2.1)]) rfl (fun _ => by go_simp) ?_
    simp only [Act.put, List.setIfInBounds_toArray, List.set_cons_zero, List.set_cons_succ]
    refine wl_val (.bool ((byZ L 2).2.2)) rfl (fun _ => by go_simp) ?_
    simp only [Act.put, List.setIfInBounds_toArray, List.set_cons_zero, List.set_cons_succ]
    refine wl_new 25 (#[.int .i64 0, .int .i64 0]) rfl (fun _ => by go_simp) ?_
    intro g3
    simp only [Act.put, List.setIfInBounds_toArray, List.set_cons_zero, List.set_cons_succ]
    refine wl_store 0 25 (.tmp 5) (.tmp 24) (#[.int .i64 ((byZ L 2).1), .int .i64 ((byZ L 2).2.1)]) rfl rfl rfl rfl rfl (by kernel_rfl) rfl (by simp [Value.oneCell']) ?_
    simp only [Act.put, List.set_cons_zero]
    refine wl_val (.bool ((byZ L 2).2.2)) rfl (fun _ => rfl) ?_
    simp only [Act.put, List.setIfInBounds_toArray, List.set_cons_zero, List.set_cons_succ]
    refine wl_nil ?_
    refine we_then ?_
    refine wc_seq ?_
    refine wc_region ?_
    refine wl_val (.slice p L.length c) rfl (fun _ => rfl) ?_
    simp only [Act.put, List.setIfInBounds_toArray, List.set_cons_zero, List.set_cons_succ]
    refine wl_call_own (ι := Own) (e := 28) [⟨g3, #[.int .i64 ((byZ L 2).1), .int .i64 ((byZ L 2).2.1)], 25⟩, ⟨g2, #[.int .i64 ((byZ L (max (L.length : Int) 1)).1), .int .i64 ((byZ L (max (L.length : Int) 1)).2.1)], 25⟩] [] 11 #[.slice p L.length c] (fun s => .slice s.ptr L.length s.cap) (fun s => s) (fun s => s.Has 2 L.length (flat enc2 L)) rfl rfl (fun _ => by go_simp) (fun W hE => refs_any L p c W (sl_old (R := []) hL W (hE.sub (List.nil_sublist _))) (by omega)) ?_
    rintro o4 ho4
    simp only [List.cons_append, List.nil_append, Act.put, List.setIfInBounds_toArray, List.set_cons_zero, List.set_cons_succ]
    refine wl_val (.slice p L.length c) rfl (fun _ => rfl) ?_
    simp only [Act.put, List.setIfInBounds_toArray, List.set_cons_zero, List.set_cons_succ]
    refine wl_val (.int .i64 (L.length : Int)) rfl (fun w => er_len rfl rfl Try.underlying22 w) ?_
    simp only [Act.put, List.setIfInBounds_toArray, List.set_cons_zero, List.set_cons_succ]
    refine wl_val (.int .i64 (max (L.length : Int) 1)) rfl (fun _ => by go_simp) ?_
    simp only [Act.put, List.setIfInBounds_toArray, List.set_cons_zero, List.set_cons_succ]
    refine wl_call_at 10 #[.slice o4.ptr L.length o4.cap, .int .i64 (max (L.length : Int) 1)] (.tuple #[.agg #[.int .i64 ((byF L (max (L.length : Int) 1)).1), .int .i64 ((byF L (max (L.length : Int) 1)).2.1)], .bool ((byF L (max (L.length : Int) 1)).2.2)]) rfl (fun _ => by go_simp) (fun W hE => by_any L _ _ (max (L.length : Int) 1) W ((sl_own [⟨g3, #[.int .i64 ((byZ L 2).1), .int .i64 ((byZ L 2).2.1)], 25⟩, ⟨g2, #[.int .i64 ((byZ L (max (L.length : Int) 1)).1), .int .i64 ((byZ L (max (L.length : Int) 1)).2.1)], 25⟩] [] ho4 rfl) W hE) (by omega)) ?_
    simp only [Act.put, List.setIfInBounds_toArray, List.set_cons_zero, List.set_cons_succ]
    refine wl_val (.tuple #[.agg #[.int .i64 ((byF L (max (L.length : Int) 1)).1), .int .i64 ((byF L (max (L.length : Int) 1)).2.1)], .bool ((byF L (max (L.length : Int) 1)).2.2)]) rfl (fun _ => rfl) ?_
    simp only [Act.put, List.setIfInBounds_toArray, List.set_cons_zero, List.set_cons_succ]
    refine wl_val (.agg #[.int .i64 ((byF L (max (L.length : Int) 1)).1), .int .i64 ((byF L (max (L.length : Int) 1)).2.1)]) rfl (fun _ => by go_simp) ?_
    simp only [Act.put, List.setIfInBounds_toArray, List.set_cons_zero, List.set_cons_succ]
    refine wl_val (.bool ((byF L (max (L.length : Int) 1)).2.2)) rfl (fun _ => by go_simp) ?_
    simp only [Act.put, List.setIfInBounds_toArray, List.set_cons_zero, List.set_cons_succ]
    refine wl_new 28 (#[.int .i64 0, .int .i64 0]) rfl (fun _ => by go_simp) ?_
    intro g5
    simp only [Act.put, List.setIfInBounds_toArray, List.set_cons_zero, List.set_cons_succ]
    refine wl_store 0 28 (.tmp 7) (.tmp 33) (#[.int .i64 ((byF L (max (L.length : Int) 1)).1), .int .i64 ((byF L (max (L.length : Int) 1)).2.1)]) rfl rfl rfl rfl rfl (by kernel_rfl) rfl (by simp [Value.oneCell']) ?_
    simp only [Act.put, List.set_cons_zero]
    refine wl_val (.bool ((byF L (max (L.length : Int) 1)).2.2)) rfl (fun _ => rfl) ?_
    simp only [Act.put, List.setIfInBounds_toArray, List.set_cons_zero, List.set_cons_succ]
    refine wl_nil ?_
    refine we_then ?_
    refine wc_seq ?_
    refine wc_region ?_
    refine wl_val (.slice p L.length c) rfl (fun _ => rfl) ?_
    simp only [Act.put, List.setIfInBounds_toArray, List.set_cons_zero, List.set_cons_succ]
    refine wl_call_own (ι := Own) (e := 28) [⟨g5, #[.int .i64 ((byF L (max (L.length : Int) 1)).1), .int .i64 ((byF L (max (L.length : Int) 1)).2.1)], 28⟩, ⟨g3, #[.int .i64 ((byZ L 2).1), .int .i64 ((byZ L 2).2.1)], 25⟩, ⟨g2, #[.int .i64 ((byZ L (max (L.length : Int) 1)).1), .int .i64 ((byZ L (max (L.length : Int) 1)).2.1)], 25⟩] (o4.rows 28 ++ []) 11 #[.slice p L.length c] (fun s => .slice s.ptr L.length s.cap) (fun s => s) (fun s => s.Has 2 L.length (flat enc2 L)) rfl rfl (fun _ => by go_simp) (fun W hE => refs_any L p c W (sl_old (R := []) hL W (hE.sub (List.nil_sublist _))) (by omega)) ?_
    rintro o6 ho6
    simp only [List.cons_append, List.nil_append, Act.put, List.setIfInBounds_toArray, List.set_cons_zero, List.set_cons_succ]
    refine wl_call_at 10 #[.slice o6.ptr L.length o6.cap, .int .i64 2] (.tuple #[.agg #[.int .i64 ((byF L 2).1), .int .i64 ((byF L 2).2.1)], .bool ((byF L 2).2.2)]) rfl (fun _ => by go_simp) (fun W hE => by_any L _ _ 2 W ((sl_own [⟨g5, #[.int .i64 ((byF L (max (L.length : Int) 1)).1), .int .i64 ((byF L (max (L.length : Int) 1)).2.1)], 28⟩, ⟨g3, #[.int .i64 ((byZ L 2).1), .int .i64 ((byZ L 2).2.1)], 25⟩, ⟨g2, #[.int .i64 ((byZ L (max (L.length : Int) 1)).1), .int .i64 ((byZ L (max (L.length : Int) 1)).2.1)], 25⟩] (o4.rows 28 ++ []) ho6 rfl) W hE) (by omega)) ?_
    simp only [Act.put, List.setIfInBounds_toArray, List.set_cons_zero, List.set_cons_succ]
    refine wl_val (.tuple #[.agg #[.int .i64 ((byF L 2).1), .int .i64 ((byF L 2).2.1)], .bool ((byF L 2).2.2)]) rfl (fun _ => rfl) ?_
    simp only [Act.put, List.setIfInBounds_toArray, List.set_cons_zero, List.set_cons_succ]
    refine wl_val (.agg #[.int .i64 ((byF L 2).1), .int .i64 ((byF L 2).2.1)]) rfl (fun _ => by go_simp) ?_
    simp only [Act.put, List.setIfInBounds_toArray, List.set_cons_zero, List.set_cons_succ]
    refine wl_val (.bool ((byF L 2).2.2)) rfl (fun _ => by go_simp) ?_
    simp only [Act.put, List.setIfInBounds_toArray, List.set_cons_zero, List.set_cons_succ]
    refine wl_new 28 (#[.int .i64 0, .int .i64 0]) rfl (fun _ => by go_simp) ?_
    intro g7
    simp only [Act.put, List.setIfInBounds_toArray, List.set_cons_zero, List.set_cons_succ]
    refine wl_store 0 28 (.tmp 9) (.tmp 39) (#[.int .i64 ((byF L 2).1), .int .i64 ((byF L 2).2.1)]) rfl rfl rfl rfl rfl (by kernel_rfl) rfl (by simp [Value.oneCell']) ?_
    simp only [Act.put, List.set_cons_zero]
    refine wl_val (.bool ((byF L 2).2.2)) rfl (fun _ => rfl) ?_
    simp only [Act.put, List.setIfInBounds_toArray, List.set_cons_zero, List.set_cons_succ]
    refine wl_nil ?_
    refine we_then ?_
    refine wc_seq ?_
    refine wc_region ?_
    refine wl_load 25 (.tmp 3) (own_row 3 rfl) rfl rfl rfl Try.underlying25 rfl (by kernel_rfl) ?_
    simp only [Act.put, List.setIfInBounds_toArray, List.set_cons_zero, List.set_cons_succ]
    refine wl_val (.bool ((byZ L (max (L.length : Int) 1)).2.2)) rfl (fun _ => rfl) ?_
    simp only [Act.put, List.setIfInBounds_toArray, List.set_cons_zero, List.set_cons_succ]
    refine wl_load 28 (.tmp 7) (own_row 1 rfl) rfl rfl rfl Try.underlying28 rfl (by kernel_rfl) ?_
    simp only [Act.put, List.setIfInBounds_toArray, List.set_cons_zero, List.set_cons_succ]
    refine wl_val (.bool ((byF L (max (L.length : Int) 1)).2.2)) rfl (fun _ => rfl) ?_
    simp only [Act.put, List.setIfInBounds_toArray, List.set_cons_zero, List.set_cons_succ]
    refine wl_val (.bool ((byF L (max (L.length : Int) 1)).2.2)) rfl (fun _ => rfl) ?_
    simp only [Act.put, List.setIfInBounds_toArray, List.set_cons_zero, List.set_cons_succ]
    cases h8 : ((byF L (max (L.length : Int) 1)).2.2)
    · skip
      refine wl_skip rfl ?_
      simp only [Act.put, List.setIfInBounds_toArray, List.set_cons_zero, List.set_cons_succ]
      refine wl_skip rfl ?_
      simp only [Act.put, List.setIfInBounds_toArray, List.set_cons_zero, List.set_cons_succ]
      refine wl_skip rfl ?_
      simp only [Act.put, List.setIfInBounds_toArray, List.set_cons_zero, List.set_cons_succ]
      refine wl_val (.bool false) rfl (fun _ => rfl) ?_
      simp only [Act.put, List.setIfInBounds_toArray, List.set_cons_zero, List.set_cons_succ]
      refine wl_call 12 #[.agg #[.int .i64 ((byZ L (max (L.length : Int) 1)).1), .int .i64 ((byZ L (max (L.length : Int) 1)).2.1)], .bool ((byZ L (max (L.length : Int) 1)).2.2), .agg #[.int .i64 ((byF L (max (L.length : Int) 1)).1), .int .i64 ((byF L (max (L.length : Int) 1)).2.1)], .bool false] (.bool true) rfl (fun _ => by go_simp) (fun W => is_true _ _ _ _ _ _ (is_by L (max (L.length : Int) 1) _ h8.symm) W) ?_
      simp only [Act.put, List.setIfInBounds_toArray, List.set_cons_zero, List.set_cons_succ]
      refine wl_val (.bool true) rfl (fun _ => rfl) ?_
      simp only [Act.put, List.setIfInBounds_toArray, List.set_cons_zero, List.set_cons_succ]
      refine wl_load 25 (.tmp 5) (own_row 2 rfl) rfl rfl rfl Try.underlying25 rfl (by kernel_rfl) ?_
      simp only [Act.put, List.setIfInBounds_toArray, List.set_cons_zero, List.set_cons_succ]
      refine wl_val (.bool ((byZ L 2).2.2)) rfl (fun _ => rfl) ?_
      simp only [Act.put, List.setIfInBounds_toArray, List.set_cons_zero, List.set_cons_succ]
      refine wl_load 28 (.tmp 9) (own_row 0 rfl) rfl rfl rfl Try.underlying28 rfl (by kernel_rfl) ?_
      simp only [Act.put, List.setIfInBounds_toArray, List.set_cons_zero, List.set_cons_succ]
      refine wl_val (.bool ((byF L 2).2.2)) rfl (fun _ => rfl) ?_
      simp only [Act.put, List.setIfInBounds_toArray, List.set_cons_zero, List.set_cons_succ]
      refine wl_call 12 #[.agg #[.int .i64 ((byZ L 2).1), .int .i64 ((byZ L 2).2.1)], .bool ((byZ L 2).2.2), .agg #[.int .i64 ((byF L 2).1), .int .i64 ((byF L 2).2.1)], .bool ((byF L 2).2.2)] (.bool true) rfl (fun _ => by go_simp) (fun W => is_true _ _ _ _ _ _ (is_by L 2 _ rfl) W) ?_
      simp only [Act.put, List.setIfInBounds_toArray, List.set_cons_zero, List.set_cons_succ]
      refine wl_val (.bool true) rfl (fun _ => rfl) ?_
      simp only [Act.put, List.setIfInBounds_toArray, List.set_cons_zero, List.set_cons_succ]
      refine wl_val (.bool true) rfl (fun _ => rfl) ?_
      simp only [Act.put, List.setIfInBounds_toArray, List.set_cons_zero, List.set_cons_succ]
      refine wl_nil ?_
      refine we_then ?_
      refine wc_ret ?_
      refine we_ret1 (.bool true) rfl rfl rfl (fun w1 hE => ?_)
      exact ⟨rfl, hE.below⟩
    · skip
      refine wl_val (.slice p L.length c) rfl (fun _ => rfl) ?_
      simp only [Act.put, List.setIfInBounds_toArray, List.set_cons_zero, List.set_cons_succ]
      refine wl_val (.int .i64 (L.length : Int)) rfl (fun w => er_len rfl rfl Try.underlying22 w) ?_
      simp only [Act.put, List.setIfInBounds_toArray, List.set_cons_zero, List.set_cons_succ]
      refine wl_val (.bool (decide (0 < (L.length : Int)))) rfl (fun w => run_cmp rfl rfl rfl Try.underlying3 rfl w) ?_
      simp only [Act.put, List.setIfInBounds_toArray, List.set_cons_zero, List.set_cons_succ]
      refine wl_val (.bool (decide (0 < (L.length : Int)))) rfl (fun _ => rfl) ?_
      simp only [Act.put, List.setIfInBounds_toArray, List.set_cons_zero, List.set_cons_succ]
      refine wl_call 12 #[.agg #[.int .i64 ((byZ L (max (L.length : Int) 1)).1), .int .i64 ((byZ L (max (L.length : Int) 1)).2.1)], .bool ((byZ L (max (L.length : Int) 1)).2.2), .agg #[.int .i64 ((byF L (max (L.length : Int) 1)).1), .int .i64 ((byF L (max (L.length : Int) 1)).2.1)], .bool (decide (0 < (L.length : Int)))] (.bool true) rfl (fun _ => by go_simp) (fun W => is_true _ _ _ _ _ _ (is_by L (max (L.length : Int) 1) _ (by rw [h8]; exact decide_eq_true (by have := by_pos (by omega) h8; omega))) W) ?_
      simp only [Act.put, List.setIfInBounds_toArray, List.set_cons_zero, List.set_cons_succ]
      refine wl_val (.bool true) rfl (fun _ => rfl) ?_
      simp only [Act.put, List.setIfInBounds_toArray, List.set_cons_zero, List.set_cons_succ]
      refine wl_load 25 (.tmp 5) (own_row 2 rfl) rfl rfl rfl Try.underlying25 rfl (by kernel_rfl) ?_
      simp only [Act.put, List.setIfInBounds_toArray, List.set_cons_zero, List.set_cons_succ]
      refine wl_val (.bool ((byZ L 2).2.2)) rfl (fun _ => rfl) ?_
      simp only [Act.put, List.setIfInBounds_toArray, List.set_cons_zero, List.set_cons_succ]
      refine wl_load 28 (.tmp 9) (own_row 0 rfl) rfl rfl rfl Try.underlying28 rfl (by kernel_rfl) ?_
      simp only [Act.put, List.setIfInBounds_toArray, List.set_cons_zero, List.set_cons_succ]
      refine wl_val (.bool ((byF L 2).2.2)) rfl (fun _ => rfl) ?_
      simp only [Act.put, List.setIfInBounds_toArray, List.set_cons_zero, List.set_cons_succ]
      refine wl_call 12 #[.agg #[.int .i64 ((byZ L 2).1), .int .i64 ((byZ L 2).2.1)], .bool ((byZ L 2).2.2), .agg #[.int .i64 ((byF L 2).1), .int .i64 ((byF L 2).2.1)], .bool ((byF L 2).2.2)] (.bool true) rfl (fun _ => by go_simp) (fun W => is_true _ _ _ _ _ _ (is_by L 2 _ rfl) W) ?_
      simp only [Act.put, List.setIfInBounds_toArray, List.set_cons_zero, List.set_cons_succ]
      refine wl_val (.bool true) rfl (fun _ => rfl) ?_
      simp only [Act.put, List.setIfInBounds_toArray, List.set_cons_zero, List.set_cons_succ]
      refine wl_val (.bool true) rfl (fun _ => rfl) ?_
      simp only [Act.put, List.setIfInBounds_toArray, List.set_cons_zero, List.set_cons_succ]
      refine wl_nil ?_
      refine we_then ?_
      refine wc_ret ?_
      refine we_ret1 (.bool true) rfl rfl rfl (fun w1 hE => ?_)
      exact ⟨rfl, hE.below⟩
  · skip
    have p1 : 40 < (L.length : Int) := of_decide_eq_true h1
    refine wc_true rfl ?_
    refine wc_seq ?_
    refine wc_region ?_
    refine wl_val (.bool true) rfl (fun _ => rfl) ?_
    simp only [Act.put, List.setIfInBounds_toArray, List.set_cons_zero, List.set_cons_succ]
    refine wl_nil ?_
    refine we_then ?_
    refine wc_ret ?_
    refine we_then_ret ?_
    refine we_ret1 (.bool true) rfl rfl rfl (fun w1 hE => ?_)
    exact ⟨rfl, hE.below⟩
end Go.Proofs.Ytppfkjbafbajgaa.Walks
