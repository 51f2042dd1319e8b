/-
 The laws of layer 17: their helpers, and their example. No condition.
-/
import Derived.Test.YtlfienfjdjfcoaaFzlv
import Derived.Test.YtlfienfjdjfcoaaSmu
import Derived.Test.YtlfienfjdjfcoaaSpo
namespace Go.Proofs.Ytlfienfjdjfcoaa.Fzlw
open Go.ChangeShapes Go.WideShapes Go.ChangeAt Go.RowKit
open Arr Steady Sx Sw Sl Sb Sc Si Sj Sk Sh Sfn Smu Vs Fzm
set_option linter.unusedVariables false
set_option linter.unusedSimpArgs false
set_option maxRecDepth 100000

theorem given_any (x y z t : Sr) (w : World) :
  Calls Try.prog 10 #[.agg #[.bool x.f, .int .i64 x.lo, .int .i64 x.hi, .bool y.f, .int .i64 y.lo, .int .i64 y.hi, .bool z.f, .int .i64 z.lo, .int .i64 z.hi], .agg #[.bool t.f, .int .i64 t.lo, .int .i64 t.hi]] w fun e w' => e = .returned (givV x y z t) ∧ Below w.heap.size w w' := by
 cases hx : x.f
 ·
  have h := given_0 x y z t w hx; rw [hx] at h; exact h
 ·
  have h := given_1 x y z t w hx; rw [hx] at h; exact h
set_option maxHeartbeats 2000000 in
theorem anchor_any  (w : World) :
  Calls Try.prog 9 #[] w fun e w' => e = .returned (.bool true) ∧ Below w.heap.size w w' := by
 refine calls_sx Try.func9 rfl ?_
 simp only [Try.ntmps9, List.size_toArray, List.length_nil, Nat.reduceSub, Array.replicate_succ, Array.replicate_zero, List.push_toArray, List.append_toArray, List.nil_append, List.cons_append]
 refine wc_seq ?_
 refine wc_region ?_
 refine wl_val (.bool false) rfl (fun _ => rfl) ?_
 simp only [Act.put, Xa, Xz]
 refine wl_nil ?_
 refine we_then ?_
 refine wc_seq ?_
 refine wc_region ?_
 refine wl_val (.agg #[.int .i64 10, .int .i64 20]) rfl (fun _ => by go_simp) ?_
 simp only [Act.put, Xa, Xz, Xs]
 refine wl_val (.agg #[.bool true, .int .i64 10, .int .i64 20]) rfl (fun _ => by go_simp) ?_
 simp only [Act.put, Xa, Xz, Xs]
 refine wl_val (.agg #[.int .i64 12, .int .i64 30]) rfl (fun _ => by go_simp) ?_
 simp only [Act.put, Xa, Xz, Xs]
 refine wl_val (.agg #[.bool true, .int .i64 12, .int .i64 30]) rfl (fun _ => by go_simp) ?_
 simp only [Act.put, Xa, Xz, Xs]
 refine wl_val (.agg #[.int .i64 40, .int .i64 50]) rfl (fun _ => by go_simp) ?_
 simp only [Act.put, Xa, Xz, Xs]
 refine wl_val (.agg #[.bool true, .int .i64 40, .int .i64 50]) rfl (fun _ => by go_simp) ?_
 simp only [Act.put, Xa, Xz, Xs]
 refine wl_val (.agg #[.bool true, .int .i64 10, .int .i64 20, .bool true, .int .i64 12, .int .i64 30, .bool true, .int .i64 40, .int .i64 50]) rfl (fun _ => by go_simp) ?_
 simp only [Act.put, Xa, Xz, Xs]
 refine wl_new 26 (#[.bool false, .int .i64 0, .int .i64 0, .bool false, .int .i64 0, .int .i64 0, .bool false, .int .i64 0, .int .i64 0]) rfl (fun _ => by go_simp) ?_
 intro g1
 simp only [Act.put, Xa, Xz, Xs]
 refine wl_store 0 26 (.tmp 1) (.tmp 10) (#[.bool true, .int .i64 10, .int .i64 20, .bool true, .int .i64 12, .int .i64 30, .bool true, .int .i64 40, .int .i64 50]) rfl rfl rfl rfl rfl (by kernel_rfl) rfl (by simp [Value.oneCell']) ?_
 simp only [Act.put, List.set_cons_zero]
 refine wl_nil ?_
 refine we_then ?_
 refine wc_seq ?_
 refine wc_region ?_
 refine wl_val (.agg #[.int .i64 0, .int .i64 100]) rfl (fun _ => by go_simp) ?_
 simp only [Act.put, Xa, Xz, Xs]
 refine wl_load 26 (.tmp 1) (own_row 0 rfl) rfl rfl rfl Try.underlying26 rfl (by kernel_rfl) ?_
 simp only [Act.put, Xa, Xz, Xs]
 refine wl_val (.agg #[.bool false, .int .i64 0, .int .i64 0]) rfl (fun _ => by go_simp) ?_
 simp only [Act.put, Xa, Xz, Xs]
 refine wl_call 12 #[.agg #[.int .i64 0, .int .i64 100], .agg #[.bool true, .int .i64 10, .int .i64 20, .bool true, .int .i64 12, .int .i64 30, .bool true, .int .i64 40, .int .i64 50], .agg #[.bool false, .int .i64 0, .int .i64 0]] (.agg #[.int .i64 12, .int .i64 20, .int .i64 3, .bool false, .bool false, .int .i64 0, .int .i64 0]) rfl (fun _ => by go_simp) (fun W => by have h9 := Fzz.fuse_any 0 100 (⟨true, 10, 20⟩ : Sr) (⟨true, 12, 30⟩ : Sr) (⟨true, 40, 50⟩ : Sr) (⟨false, 0, 0⟩ : Sr) W (by decide) (by unfold GoodS; decide) (by unfold GoodS; decide) (by unfold GoodS; decide) (by unfold GoodS; decide); rwa [show spd 0 100 (⟨true, 10, 20⟩ : Sr) (⟨true, 12, 30⟩ : Sr) (⟨true, 40, 50⟩ : Sr) (⟨false, 0, 0⟩ : Sr) = (12, 20, false) from by decide, show nF (⟨true, 10, 20⟩ : Sr) (⟨true, 12, 30⟩ : Sr) (⟨true, 40, 50⟩ : Sr) = 3 from by decide, show clean (⟨true, 10, 20⟩ : Sr) (⟨true, 12, 30⟩ : Sr) (⟨true, 40, 50⟩ : Sr) = false from by decide, show slips (⟨true, 10, 20⟩ : Sr) (⟨true, 12, 30⟩ : Sr) (⟨true, 40, 50⟩ : Sr) (⟨true, 10, 20⟩ : Sr) = 0 from by decide, show slips (⟨true, 10, 20⟩ : Sr) (⟨true, 12, 30⟩ : Sr) (⟨true, 40, 50⟩ : Sr) (⟨true, 12, 30⟩ : Sr) = 0 from by decide] at h9) ?_
 simp only [Act.put, Xa, Xz, Xs]
 refine wl_new 36 (#[.int .i64 0, .int .i64 0, .int .i64 0, .bool false, .bool false, .int .i64 0, .int .i64 0]) rfl (fun _ => by go_simp) ?_
 intro g2
 simp only [Act.put, Xa, Xz, Xs]
 refine wl_store 0 36 (.tmp 2) (.tmp 14) (#[.int .i64 12, .int .i64 20, .int .i64 3, .bool false, .bool false, .int .i64 0, .int .i64 0]) rfl rfl rfl rfl rfl (by kernel_rfl) rfl (by simp [Value.oneCell']) ?_
 simp only [Act.put, List.set_cons_zero]
 refine wl_nil ?_
 refine we_then ?_
 refine wc_seq ?_
 refine wc_region ?_
 refine wl_val (.agg #[.int .i64 15, .int .i64 18]) rfl (fun _ => by go_simp) ?_
 simp only [Act.put, Xa, Xz, Xs]
 refine wl_val (.pointer (some ⟨g1, 6, none⟩)) rfl (fun _ => by go_simp) ?_
 simp only [Act.put, Xa, Xz, Xs]
 refine wl_val (.pointer (some ⟨g1, 7, none⟩)) rfl (fun _ => by go_simp) ?_
 simp only [Act.put, Xa, Xz, Xs]
 refine wl_store_part 1 23 (.tmp 17) (.tmp 15) [.int .i64 15, .int .i64 18] rfl rfl rfl rfl rfl (by kernel_rfl) (Nat.le_of_ble_eq_true rfl) (by simp [Value.oneCell']) ?_
 simp only [putAt, Nat.reduceAdd, Act.put, List.set_cons_zero, List.set_cons_succ]
 refine wl_nil ?_
 refine we_then ?_
 refine wc_seq ?_
 refine wc_region ?_
 refine wl_val (.agg #[.int .i64 0, .int .i64 100]) rfl (fun _ => by go_simp) ?_
 simp only [Act.put, Xa, Xz, Xs]
 refine wl_load 26 (.tmp 1) (own_row 1 rfl) rfl rfl rfl Try.underlying26 rfl (by kernel_rfl) ?_
 simp only [Act.put, Xa, Xz, Xs]
 refine wl_val (.agg #[.bool false, .int .i64 0, .int .i64 0]) rfl (fun _ => by go_simp) ?_
 simp only [Act.put, Xa, Xz, Xs]
 refine wl_call 12 #[.agg #[.int .i64 0, .int .i64 100], .agg #[.bool true, .int .i64 10, .int .i64 20, .bool true, .int .i64 12, .int .i64 30, .bool true, .int .i64 15, .int .i64 18], .agg #[.bool false, .int .i64 0, .int .i64 0]] (.agg #[.int .i64 15, .int .i64 18, .int .i64 3, .bool true, .bool false, .int .i64 0, .int .i64 0]) rfl (fun _ => by go_simp) (fun W => by have h9 := Fzz.fuse_any 0 100 (⟨true, 10, 20⟩ : Sr) (⟨true, 12, 30⟩ : Sr) (⟨true, 15, 18⟩ : Sr) (⟨false, 0, 0⟩ : Sr) W (by decide) (by unfold GoodS; decide) (by unfold GoodS; decide) (by unfold GoodS; decide) (by unfold GoodS; decide); rwa [show spd 0 100 (⟨true, 10, 20⟩ : Sr) (⟨true, 12, 30⟩ : Sr) (⟨true, 15, 18⟩ : Sr) (⟨false, 0, 0⟩ : Sr) = (15, 18, false) from by decide, show nF (⟨true, 10, 20⟩ : Sr) (⟨true, 12, 30⟩ : Sr) (⟨true, 15, 18⟩ : Sr) = 3 from by decide, show clean (⟨true, 10, 20⟩ : Sr) (⟨true, 12, 30⟩ : Sr) (⟨true, 15, 18⟩ : Sr) = true from by decide, show slips (⟨true, 10, 20⟩ : Sr) (⟨true, 12, 30⟩ : Sr) (⟨true, 15, 18⟩ : Sr) (⟨true, 10, 20⟩ : Sr) = 0 from by decide, show slips (⟨true, 10, 20⟩ : Sr) (⟨true, 12, 30⟩ : Sr) (⟨true, 15, 18⟩ : Sr) (⟨true, 12, 30⟩ : Sr) = 0 from by decide] at h9) ?_
 simp only [Act.put, Xa, Xz, Xs]
 refine wl_new 36 (#[.int .i64 0, .int .i64 0, .int .i64 0, .bool false, .bool false, .int .i64 0, .int .i64 0]) rfl (fun _ => by go_simp) ?_
 intro g3
 simp only [Act.put, Xa, Xz, Xs]
 refine wl_store 0 36 (.tmp 3) (.tmp 21) (#[.int .i64 15, .int .i64 18, .int .i64 3, .bool true, .bool false, .int .i64 0, .int .i64 0]) rfl rfl rfl rfl rfl (by kernel_rfl) rfl (by simp [Value.oneCell']) ?_
 simp only [Act.put, List.set_cons_zero]
 refine wl_nil ?_
 refine we_then ?_
 refine wc_seq ?_
 refine wc_region ?_
 refine wl_val (.pointer (some ⟨g2, 0, none⟩)) rfl (fun _ => by go_simp) ?_
 simp only [Act.put, Xa, Xz, Xs]
 refine wl_part 23 (.tmp 22) [.int .i64 12, .int .i64 20] (own_row 1 rfl) rfl rfl rfl rfl Try.underlying23 rfl (by kernel_rfl) ?_
 simp only [Act.put, Xa, Xz, Xs]
 refine wl_val (.agg #[.int .i64 12, .int .i64 20]) rfl (fun _ => by go_simp) ?_
 simp only [Act.put, Xa, Xz, Xs]
 refine wl_val (.bool true) rfl (fun _ => by go_simp) ?_
 simp only [Act.put, Xa, Xz, Xs]
 refine wl_val (.bool true) rfl (fun _ => rfl) ?_
 simp only [Act.put, Xa, Xz, Xs]
 refine wl_val (.pointer (some ⟨g2, 3, none⟩)) rfl (fun _ => by go_simp) ?_
 simp only [Act.put, Xa, Xz, Xs]
 refine wl_cell 4 (.tmp 27) (.bool false) (own_row 1 rfl) rfl rfl rfl rfl Try.isAgg4 ?_
 simp only [Act.put, Xa, Xz, Xs]
 refine wl_val (.bool true) rfl (fun _ => by go_simp) ?_
 simp only [Act.put, Xa, Xz, Xs]
 refine wl_val (.bool true) rfl (fun _ => rfl) ?_
 simp only [Act.put, Xa, Xz, Xs]
 refine wl_val (.bool true) rfl (fun _ => rfl) ?_
 simp only [Act.put, Xa, Xz, Xs]
 refine wl_val (.pointer (some ⟨g2, 4, none⟩)) rfl (fun _ => by go_simp) ?_
 simp only [Act.put, Xa, Xz, Xs]
 refine wl_cell 4 (.tmp 32) (.bool false) (own_row 1 rfl) rfl rfl rfl rfl Try.isAgg4 ?_
 simp only [Act.put, Xa, Xz, Xs]
 refine wl_val (.bool true) rfl (fun _ => by go_simp) ?_
 simp only [Act.put, Xa, Xz, Xs]
 refine wl_val (.bool true) rfl (fun _ => rfl) ?_
 simp only [Act.put, Xa, Xz, Xs]
 refine wl_val (.bool true) rfl (fun _ => rfl) ?_
 simp only [Act.put, Xa, Xz, Xs]
 refine wl_val (.pointer (some ⟨g3, 0, none⟩)) rfl (fun _ => by go_simp) ?_
 simp only [Act.put, Xa, Xz, Xs]
 refine wl_part 23 (.tmp 37) [.int .i64 15, .int .i64 18] (own_row 0 rfl) rfl rfl rfl rfl Try.underlying23 rfl (by kernel_rfl) ?_
 simp only [Act.put, Xa, Xz, Xs]
 refine wl_val (.agg #[.int .i64 15, .int .i64 18]) rfl (fun _ => by go_simp) ?_
 simp only [Act.put, Xa, Xz, Xs]
 refine wl_val (.bool true) rfl (fun _ => by go_simp) ?_
 simp only [Act.put, Xa, Xz, Xs]
 refine wl_val (.bool true) rfl (fun _ => rfl) ?_
 simp only [Act.put, Xa, Xz, Xs]
 refine wl_val (.bool true) rfl (fun _ => rfl) ?_
 simp only [Act.put, Xa, Xz, Xs]
 refine wl_val (.pointer (some ⟨g3, 3, none⟩)) rfl (fun _ => by go_simp) ?_
 simp only [Act.put, Xa, Xz, Xs]
 refine wl_cell 4 (.tmp 43) (.bool true) (own_row 0 rfl) rfl rfl rfl rfl Try.isAgg4 ?_
 simp only [Act.put, Xa, Xz, Xs]
 refine wl_val (.bool true) rfl (fun _ => rfl) ?_
 simp only [Act.put, Xa, Xz, Xs]
 refine wl_val (.bool true) rfl (fun _ => rfl) ?_
 simp only [Act.put, Xa, Xz]
 refine wl_nil ?_
 refine we_then ?_
 refine wc_ret ?_
 refine we_ret1 (.bool true) rfl rfl rfl (fun w1 hE => ?_)
 exact ⟨rfl, hE.below⟩
theorem has_b (a b x : Int) (w : World) :
  Calls Try.prog 14 #[.agg #[.int .i64 a, .int .i64 b], .int .i64 x] w fun e w' => e = .returned (.bool (decide (a ≤ x) && decide (x ≤ b))) ∧ Below w.heap.size w w' := Spn.has_any a b x w
end Go.Proofs.Ytlfienfjdjfcoaa.Fzlw
