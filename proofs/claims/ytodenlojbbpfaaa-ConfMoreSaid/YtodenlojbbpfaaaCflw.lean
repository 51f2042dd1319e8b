/-
  The laws of layer 13: their example. No condition.
-/
import Derived.Test.YtodenlojbbpfaaaCnf
import Derived.Test.YtodenlojbbpfaaaCfref
import Derived.Test.YtodenlojbbpfaaaSh
namespace Go.Proofs.Ytodenlojbbpfaaa.Cflw
open Go.ChangeShapes Go.WideShapes Go.ChangeAt Go.RowKit
open Arr Steady Sx Sw Sl Sb Sc Si Sj Sk Sh Vs Gr Tk Tkh Tkl Cf Cfref
set_option linter.unusedVariables false
set_option linter.unusedSimpArgs false
set_option maxRecDepth 100000

set_option maxHeartbeats 2000000 in
theorem usual_any  (w : World) :
    Calls Try.prog 17 #[] w fun e w' => e = .returned (.agg #[.int .i64 100, .int .i64 3000000, .int .i64 3100000, .int .i64 10, .int .i64 65536, .int .i64 5, .int .i64 5000000, .int .i64 100000, .int .i64 100, .int .i64 3, .int .i64 40000, .int .i64 1000, .int .i64 5, .int .i64 50]) ∧ Below w.heap.size w w' := by
  refine calls_sx Try.func17 rfl ?_
  simp only [Try.ntmps17, List.size_toArray, List.length_nil, Nat.reduceSub, Array.replicate_succ, Array.replicate_zero, List.push_toArray, List.append_toArray, List.nil_append, List.cons_append]
  refine wc_seq ?_
  refine wc_region ?_
  refine wl_new 23 (#[.int .i64 0, .int .i64 0, .int .i64 0, .int .i64 0, .int .i64 0, .int .i64 0, .int .i64 0, .int .i64 0, .int .i64 0, .int .i64 0, .int .i64 0, .int .i64 0, .int .i64 0, .int .i64 0]) rfl (fun _ => by go_simp) ?_
  intro g1
  simp only [Act.put, Xa, Xz]
  refine wl_nil ?_
  refine we_then ?_
  refine wc_seq ?_
  refine wc_region ?_
  refine wl_val (.agg #[.int .i64 100, .int .i64 3000000, .int .i64 3100000, .int .i64 10, .int .i64 65536, .int .i64 5, .int .i64 5000000, .int .i64 100000, .int .i64 100, .int .i64 3, .int .i64 40000, .int .i64 1000, .int .i64 5, .int .i64 50]) rfl (fun _ => by go_simp) ?_
  simp only [Act.put, Xa, Xz, Xs]
  refine wl_store 0 23 (.tmp 0) (.tmp 1) (#[.int .i64 100, .int .i64 3000000, .int .i64 3100000, .int .i64 10, .int .i64 65536, .int .i64 5, .int .i64 5000000, .int .i64 100000, .int .i64 100, .int .i64 3, .int .i64 40000, .int .i64 1000, .int .i64 5, .int .i64 50]) rfl rfl rfl rfl rfl (by kernel_rfl) rfl (by simp [Value.oneCell']) ?_
  simp only [Act.put, List.set_cons_zero]
  refine wl_nil ?_
  refine we_then ?_
  refine wc_ret ?_
  refine we_ret_cell (own_row 0 rfl) rfl rfl rfl Try.underlying23 rfl (by kernel_rfl) (fun w1 hE => ?_)
  exact ⟨rfl, hE.below⟩
theorem usual_ok : wrong (⟨100, 3000000, 3100000, 10, 65536, 5, 5000000, 100000, 100, 3, 40000, 1000, 5, 50⟩ : Cf) = 0 := by decide
theorem usual_err : err (⟨100, 3000000, 3100000, 10, 65536, 5, 5000000, 100000, 100, 3, 40000, 1000, 5, 50⟩ : Cf) (-160) = 20 := by decide
set_option maxHeartbeats 2000000 in
theorem anchor_any  (w : World) :
    Calls Try.prog 7 #[] w fun e w' => e = .returned (.bool true) ∧ Below w.heap.size w w' := by
  refine calls_sx Try.func7 rfl ?_
  simp only [Try.ntmps7, List.size_toArray, List.length_nil, Nat.reduceSub, Array.replicate_succ, Array.replicate_zero, List.push_toArray, List.append_toArray, List.nil_append, List.cons_append]
  refine wc_seq ?_
  refine wc_region ?_
  refine wl_val (.bool false) rfl (fun _ => rfl) ?_
  simp only [Act.put, Xa, Xz]
  refine wl_nil ?_
  refine we_then ?_
  refine wc_seq ?_
  refine wc_region ?_
  refine wl_call 17 #[] (.agg #[.int .i64 100, .int .i64 3000000, .int .i64 3100000, .int .i64 10, .int .i64 65536, .int .i64 5, .int .i64 5000000, .int .i64 100000, .int .i64 100, .int .i64 3, .int .i64 40000, .int .i64 1000, .int .i64 5, .int .i64 50]) rfl (fun _ => by go_simp) (fun W => usual_any W) ?_
  simp only [Act.put, Xa, Xz, Xs]
  refine wl_call 8 #[.agg #[.int .i64 100, .int .i64 3000000, .int .i64 3100000, .int .i64 10, .int .i64 65536, .int .i64 5, .int .i64 5000000, .int .i64 100000, .int .i64 100, .int .i64 3, .int .i64 40000, .int .i64 1000, .int .i64 5, .int .i64 50]] (.tuple #[.int .i64 0, .int .i64 0]) rfl (fun _ => by go_simp) (fun W => Cnf.check_yes (⟨100, 3000000, 3100000, 10, 65536, 5, 5000000, 100000, 100, 3, 40000, 1000, 5, 50⟩ : Cf) W usual_ok) ?_
  simp only [Act.put, Xa, Xz, Xs]
  refine wl_val (.tuple #[.int .i64 0, .int .i64 0]) rfl (fun _ => rfl) ?_
  simp only [Act.put, Xa, Xz, Xs]
  refine wl_val (.int .i64 0) rfl (fun _ => by go_simp) ?_
  simp only [Act.put, Xa, Xz, Xs]
  refine wl_val (.int .i64 0) rfl (fun _ => by go_simp) ?_
  simp only [Act.put, Xa, Xz, Xs]
  refine wl_val (.int .i64 0) rfl (fun _ => rfl) ?_
  simp only [Act.put, Xa, Xz, Xs]
  refine wl_val (.int .i64 0) rfl (fun _ => rfl) ?_
  simp only [Act.put, Xa, Xz, Xs]
  refine wl_nil ?_
  refine we_then ?_
  refine wc_seq ?_
  refine wc_region ?_
  refine wl_call 17 #[] (.agg #[.int .i64 100, .int .i64 3000000, .int .i64 3100000, .int .i64 10, .int .i64 65536, .int .i64 5, .int .i64 5000000, .int .i64 100000, .int .i64 100, .int .i64 3, .int .i64 40000, .int .i64 1000, .int .i64 5, .int .i64 50]) rfl (fun _ => by go_simp) (fun W => usual_any W) ?_
  simp only [Act.put, Xa, Xz, Xs]
  refine wl_call 16 #[.agg #[.int .i64 100, .int .i64 3000000, .int .i64 3100000, .int .i64 10, .int .i64 65536, .int .i64 5, .int .i64 5000000, .int .i64 100000, .int .i64 100, .int .i64 3, .int .i64 40000, .int .i64 1000, .int .i64 5, .int .i64 50], .int .i64 (-160)] (.int .i64 20) rfl (fun _ => by go_simp) (fun W => by have h := Cnf.error_any (⟨100, 3000000, 3100000, 10, 65536, 5, 5000000, 100000, 100, 3, 40000, 1000, 5, 50⟩ : Cf) (-160) W (ok_of usual_ok) (by decide) (by decide); rwa [usual_err] at h) ?_
  simp only [Act.put, Xa, Xz, Xs]
  refine wl_val (.bool true) rfl (fun w => run_cmp rfl rfl rfl Try.underlying2 rfl w) ?_
  simp only [Act.put, Xa, Xz, Xs]
  refine wl_val (.bool true) rfl (fun _ => rfl) ?_
  simp only [Act.put, Xa, Xz, Xs]
  refine wl_val (.int .i64 0) rfl (fun _ => rfl) ?_
  simp only [Act.put, Xa, Xz, Xs]
  refine wl_val (.bool true) rfl (fun w => run_cmp rfl rfl rfl Try.underlying25 rfl w) ?_
  simp only [Act.put, Xa, Xz, Xs]
  refine wl_val (.bool true) rfl (fun _ => rfl) ?_
  simp only [Act.put, Xa, Xz, Xs]
  refine wl_val (.bool true) rfl (fun _ => rfl) ?_
  simp only [Act.put, Xa, Xz, Xs]
  refine wl_val (.int .i64 0) rfl (fun _ => rfl) ?_
  simp only [Act.put, Xa, Xz, Xs]
  refine wl_val (.bool true) rfl (fun w => run_cmp rfl rfl rfl Try.underlying3 rfl w) ?_
  simp only [Act.put, Xa, Xz, Xs]
  refine wl_val (.bool true) rfl (fun _ => rfl) ?_
  simp only [Act.put, Xa, Xz, Xs]
  refine wl_val (.bool true) rfl (fun _ => rfl) ?_
  simp only [Act.put, Xa, Xz]
  refine wl_nil ?_
  refine we_then ?_
  refine wc_ret ?_
  refine we_ret1 (.bool true) rfl rfl rfl (fun w1 hE => ?_)
  exact ⟨rfl, hE.below⟩
end Go.Proofs.Ytodenlojbbpfaaa.Cflw
