/-
  The laws of layer 18: their example. No condition.
-/
import Derived.Test.YtbacblnbmdomaaaStl
import Derived.Test.YtbacblnbmdomaaaCfref
import Derived.Test.YtbacblnbmdomaaaSpn
import Derived.Test.YtbacblnbmdomaaaSmu
namespace Go.Proofs.Ytbacblnbmdomaaa.Stlw
open Go.ChangeShapes Go.WideShapes Go.ChangeAt Go.RowKit
open Arr Steady Sx Sw Sl Sb Sc Si Sj Sk Sh Sfn Smu Vs Gr Tk Tkh Tkl Cf Cfref Stm
set_option linter.unusedVariables false
set_option linter.unusedSimpArgs false
set_option maxRecDepth 100000

set_option maxHeartbeats 2000000 in
theorem usual_any (n : Int) (w : World) :
    Calls Try.prog 11 #[.int .i64 n] w fun e w' => e = .returned (.agg #[.int .i64 1024, .int .i64 131072, .int .i64 131072, .int .i64 0, .int .i64 0, .int .i64 0, .int .i64 1000, .int .i64 100, .int .i64 0, .int .i64 n, .int .i64 128, .int .i64 0, .int .i64 5, .int .i64 1]) ∧ Below w.heap.size w w' := by
  refine calls_sx Try.func11 rfl ?_
  simp only [Try.ntmps11, List.size_toArray, List.length_cons, List.length_nil, Nat.reduceAdd, Nat.reduceSub, Array.replicate_succ, Array.replicate_zero, List.push_toArray, List.append_toArray, List.nil_append, List.cons_append]
  refine wc_seq ?_
  refine wc_region ?_
  refine wl_new 23 (#[.int .i64 0, .int .i64 0, .int .i64 0, .int .i64 0, .int .i64 0, .int .i64 0, .int .i64 0, .int .i64 0, .int .i64 0, .int .i64 0, .int .i64 0, .int .i64 0, .int .i64 0, .int .i64 0]) rfl (fun _ => by go_simp) ?_
  intro g1
  simp only [Act.put, Xa, Xz, Xs]
  refine wl_nil ?_
  refine we_then ?_
  refine wc_seq ?_
  refine wc_region ?_
  refine wl_val (.int .i64 n) rfl (fun _ => rfl) ?_
  simp only [Act.put, Xa, Xz, Xs]
  refine wl_val (.agg #[.int .i64 1024, .int .i64 131072, .int .i64 131072, .int .i64 0, .int .i64 0, .int .i64 0, .int .i64 1000, .int .i64 100, .int .i64 0, .int .i64 n, .int .i64 128, .int .i64 0, .int .i64 5, .int .i64 1]) rfl (fun _ => by go_simp) ?_
  simp only [Act.put, Xa, Xz, Xs]
  refine wl_store 0 23 (.tmp 2) (.tmp 4) (#[.int .i64 1024, .int .i64 131072, .int .i64 131072, .int .i64 0, .int .i64 0, .int .i64 0, .int .i64 1000, .int .i64 100, .int .i64 0, .int .i64 n, .int .i64 128, .int .i64 0, .int .i64 5, .int .i64 1]) rfl rfl rfl rfl rfl (by kernel_rfl) rfl (by simp [Value.oneCell']) ?_
  simp only [Act.put, List.set_cons_zero]
  refine wl_nil ?_
  refine we_then ?_
  refine wc_ret ?_
  refine we_ret_cell (own_row 0 rfl) rfl rfl rfl Try.underlying23 rfl (by kernel_rfl) (fun w1 hE => ?_)
  exact ⟨rfl, hE.below⟩
theorem usual_ok : wrong (⟨1024, 131072, 131072, 0, 0, 0, 1000, 100, 0, 2, 128, 0, 5, 1⟩ : Cf) = 0 := by decide
set_option maxHeartbeats 2000000 in
theorem anchor_any  (w : World) :
    Calls Try.prog 6 #[] w fun e w' => e = .returned (.bool true) ∧ Below w.heap.size w w' := by
  refine calls_sx Try.func6 rfl ?_
  simp only [Try.ntmps6, List.size_toArray, List.length_nil, Nat.reduceSub, Array.replicate_succ, Array.replicate_zero, List.push_toArray, List.append_toArray, List.nil_append, List.cons_append]
  refine wc_seq ?_
  refine wc_region ?_
  refine wl_val (.bool false) rfl (fun _ => rfl) ?_
  simp only [Act.put, Xa, Xz]
  refine wl_nil ?_
  refine we_then ?_
  refine wc_seq ?_
  refine wc_region ?_
  refine wl_new 29 (#[.int .i64 0, .bool false]) rfl (fun _ => by go_simp) ?_
  intro g1
  simp only [Act.put, Xa, Xz, Xs]
  refine wl_nil ?_
  refine we_then ?_
  refine wc_seq ?_
  refine wc_region ?_
  refine wl_call 11 #[.int .i64 2] (.agg #[.int .i64 1024, .int .i64 131072, .int .i64 131072, .int .i64 0, .int .i64 0, .int .i64 0, .int .i64 1000, .int .i64 100, .int .i64 0, .int .i64 2, .int .i64 128, .int .i64 0, .int .i64 5, .int .i64 1]) rfl (fun _ => by go_simp) (fun W => usual_any 2 W) ?_
  simp only [Act.put, Xa, Xz, Xs]
  refine wl_new 23 (#[.int .i64 0, .int .i64 0, .int .i64 0, .int .i64 0, .int .i64 0, .int .i64 0, .int .i64 0, .int .i64 0, .int .i64 0, .int .i64 0, .int .i64 0, .int .i64 0, .int .i64 0, .int .i64 0]) rfl (fun _ => by go_simp) ?_
  intro g2
  simp only [Act.put, Xa, Xz, Xs]
  refine wl_store 0 23 (.tmp 2) (.tmp 3) (#[.int .i64 1024, .int .i64 131072, .int .i64 131072, .int .i64 0, .int .i64 0, .int .i64 0, .int .i64 1000, .int .i64 100, .int .i64 0, .int .i64 2, .int .i64 128, .int .i64 0, .int .i64 5, .int .i64 1]) rfl rfl rfl rfl rfl (by kernel_rfl) rfl (by simp [Value.oneCell']) ?_
  simp only [Act.put, List.set_cons_zero]
  refine wl_nil ?_
  refine we_then ?_
  refine wc_seq ?_
  refine wc_draw [.plain, .plain, .late, .plain, .plain, .late, .plain, .over] (some ⟨7, g1, 29, #[.int .i64 0, .bool false], #[.int .i64 2, .bool true]⟩) [] 26 (by kernel_rfl) rfl (by kernel_rfl) (by kernel_rfl) ?_
  refine ws_load 29 (.tmp 1) (own_row 1 rfl) rfl rfl rfl rfl Try.underlying29 rfl (by kernel_rfl) ?_
  simp only [Nat.reduceAdd, Act.put, Xa, Xz, Xs]
  refine ws_load 23 (.tmp 2) (own_row 0 rfl) rfl rfl rfl rfl Try.underlying23 rfl (by kernel_rfl) ?_
  simp only [Nat.reduceAdd, Act.put, Xa, Xz, Xs]
  refine ws_late (.agg #[.int .i64 (-1), .int .i64 3]) rfl rfl (fun _ => by go_simp) ?_
  simp only [Nat.reduceAdd, Act.put, Xa, Xz, Xs]
  refine ws_call 9 #[.agg #[.int .i64 0, .bool false], .agg #[.int .i64 1024, .int .i64 131072, .int .i64 131072, .int .i64 0, .int .i64 0, .int .i64 0, .int .i64 1000, .int .i64 100, .int .i64 0, .int .i64 2, .int .i64 128, .int .i64 0, .int .i64 5, .int .i64 1], .agg #[.int .i64 (-1), .int .i64 3], .int .i64 1] (.agg #[.int .i64 1, .bool false]) rfl rfl (fun _ => by go_simp) (fun W => by have h := Stl.next_any (⟨1024, 131072, 131072, 0, 0, 0, 1000, 100, 0, 2, 128, 0, 5, 1⟩ : Cf) 0 false (-1) 3 1 W (ok_of usual_ok) (by decide) (by decide) (by decide); rwa [show nxN (⟨1024, 131072, 131072, 0, 0, 0, 1000, 100, 0, 2, 128, 0, 5, 1⟩ : Cf) 0 (-1) 3 1 = 1 from by decide, show nxO (⟨1024, 131072, 131072, 0, 0, 0, 1000, 100, 0, 2, 128, 0, 5, 1⟩ : Cf) 0 (-1) 3 1 = false from by decide] at h) ?_
  simp only [Nat.reduceAdd, Act.put, Xa, Xz, Xs]
  refine ws_load 23 (.tmp 2) (own_row 0 rfl) rfl rfl rfl rfl Try.underlying23 rfl (by kernel_rfl) ?_
  simp only [Nat.reduceAdd, Act.put, Xa, Xz, Xs]
  refine ws_late (.agg #[.int .i64 0, .int .i64 128]) rfl rfl (fun _ => by go_simp) ?_
  simp only [Nat.reduceAdd, Act.put, Xa, Xz, Xs]
  refine ws_call 9 #[.agg #[.int .i64 1, .bool false], .agg #[.int .i64 1024, .int .i64 131072, .int .i64 131072, .int .i64 0, .int .i64 0, .int .i64 0, .int .i64 1000, .int .i64 100, .int .i64 0, .int .i64 2, .int .i64 128, .int .i64 0, .int .i64 5, .int .i64 1], .agg #[.int .i64 0, .int .i64 128], .int .i64 1] (.agg #[.int .i64 2, .bool true]) rfl rfl (fun _ => by go_simp) (fun W => by have h := Stl.next_any (⟨1024, 131072, 131072, 0, 0, 0, 1000, 100, 0, 2, 128, 0, 5, 1⟩ : Cf) 1 false 0 128 1 W (ok_of usual_ok) (by decide) (by decide) (by decide); rwa [show nxN (⟨1024, 131072, 131072, 0, 0, 0, 1000, 100, 0, 2, 128, 0, 5, 1⟩ : Cf) 1 0 128 1 = 2 from by decide, show nxO (⟨1024, 131072, 131072, 0, 0, 0, 1000, 100, 0, 2, 128, 0, 5, 1⟩ : Cf) 1 0 128 1 = true from by decide] at h) ?_
  simp only [Nat.reduceAdd, Act.put, Xa, Xz, Xs]
  refine ws_over 1 _ 29 (.tmp 1) (.tmp 10) rfl rfl rfl rfl rfl rfl rfl rfl rfl (by kernel_rfl) rfl (by simp [Value.oneCell']) ?_
  simp only [Nat.reduceAdd]
  refine ws_nil_over 1 rfl (show 7 < 8 by decide) [] trivial (by simp) ?_
  intro ps3
  simp only [fin, List.foldl_nil, List.map, List.nil_append]
  refine we_then ?_
  refine wc_seq ?_
  refine wc_region ?_
  refine wl_val (.pointer (some ⟨g1, 1, none⟩)) rfl (fun _ => by go_simp) ?_
  simp only [Act.put, Xa, Xz, Xs]
  refine wl_cell 4 (.tmp 11) (.bool true) (own_row 1 rfl) rfl rfl rfl rfl Try.isAgg4 ?_
  simp only [Act.put, Xa, Xz, Xs]
  refine wl_val (.bool true) rfl (fun _ => rfl) ?_
  simp only [Act.put, Xa, Xz, Xs]
  refine wl_val (.pointer (some ⟨g1, 0, none⟩)) rfl (fun _ => by go_simp) ?_
  simp only [Act.put, Xa, Xz, Xs]
  refine wl_cell 3 (.tmp 14) (.int .i64 2) (own_row 1 rfl) rfl rfl rfl rfl Try.isAgg3 ?_
  simp only [Act.put, Xa, Xz, Xs]
  refine wl_val (.bool true) rfl (fun w => run_cmp rfl rfl rfl Try.underlying3 rfl w) ?_
  simp only [Act.put, Xa, Xz, Xs]
  refine wl_val (.bool true) rfl (fun _ => rfl) ?_
  simp only [Act.put, Xa, Xz, Xs]
  refine wl_val (.bool true) rfl (fun _ => rfl) ?_
  simp only [Act.put, Xa, Xz, Xs]
  refine wl_load 29 (.tmp 1) (own_row 1 rfl) rfl rfl rfl Try.underlying29 rfl (by kernel_rfl) ?_
  simp only [Act.put, Xa, Xz, Xs]
  refine wl_load 23 (.tmp 2) (own_row 0 rfl) rfl rfl rfl Try.underlying23 rfl (by kernel_rfl) ?_
  simp only [Act.put, Xa, Xz, Xs]
  refine wl_val (.agg #[.int .i64 0, .int .i64 129]) rfl (fun _ => by go_simp) ?_
  simp only [Act.put, Xa, Xz, Xs]
  refine wl_call 9 #[.agg #[.int .i64 2, .bool true], .agg #[.int .i64 1024, .int .i64 131072, .int .i64 131072, .int .i64 0, .int .i64 0, .int .i64 0, .int .i64 1000, .int .i64 100, .int .i64 0, .int .i64 2, .int .i64 128, .int .i64 0, .int .i64 5, .int .i64 1], .agg #[.int .i64 0, .int .i64 129], .int .i64 3] (.agg #[.int .i64 0, .bool false]) rfl (fun _ => by go_simp) (fun W => by have h := Stl.next_any (⟨1024, 131072, 131072, 0, 0, 0, 1000, 100, 0, 2, 128, 0, 5, 1⟩ : Cf) 2 true 0 129 3 W (ok_of usual_ok) (by decide) (by decide) (by decide); rwa [show nxN (⟨1024, 131072, 131072, 0, 0, 0, 1000, 100, 0, 2, 128, 0, 5, 1⟩ : Cf) 2 0 129 3 = 0 from by decide, show nxO (⟨1024, 131072, 131072, 0, 0, 0, 1000, 100, 0, 2, 128, 0, 5, 1⟩ : Cf) 2 0 129 3 = false from by decide] at h) ?_
  simp only [Act.put, Xa, Xz, Xs]
  refine wl_val (.bool false) rfl (fun _ => by kernel_rfl) ?_
  simp only [Act.put, Xa, Xz, Xs]
  refine wl_val (.bool true) rfl (fun _ => by go_simp) ?_
  simp only [Act.put, Xa, Xz, Xs]
  refine wl_val (.bool true) rfl (fun _ => rfl) ?_
  simp only [Act.put, Xa, Xz, Xs]
  refine wl_val (.bool true) rfl (fun _ => rfl) ?_
  simp only [Act.put, Xa, Xz]
  refine wl_nil ?_
  refine we_then ?_
  refine wc_ret ?_
  refine we_ret1 (.bool true) rfl rfl rfl (fun w1 hE => ?_)
  exact ⟨rfl, hE.below⟩
theorem has_b (a b x : Int) (w : World) :
    Calls Try.prog 10 #[.agg #[.int .i64 a, .int .i64 b], .int .i64 x] w fun e w' => e = .returned (.bool (decide (a ≤ x) && decide (x ≤ b))) ∧ Below w.heap.size w w' := Spn.has_any a b x w
end Go.Proofs.Ytbacblnbmdomaaa.Stlw
