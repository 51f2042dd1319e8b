/-
  FuseLess: the law's walk. No condition.
-/
import Derived.Test.YtlfienfjdjfcoaaFzlw
namespace Go.Proofs.Ytlfienfjdjfcoaa.Walks
open Go.ChangeShapes Go.WideShapes Go.ChangeAt Go.RowKit
open Arr Steady Sx Sw Sl Sb Sc Si Sj Sk Sh Sfn Smu Vs Fzm Fzlw
set_option linter.unusedVariables false
set_option linter.unusedSimpArgs false
set_option maxRecDepth 100000

set_option maxHeartbeats 8000000 in
theorem fuseLess_walk (p : Int) (wp : (Lit.int .i64 p).wf = true) (q : Int) (wq : (Lit.int .i64 q).wf = true) (x y z t : Sr) (w : World) :
  Calls Try.prog 8 #[.agg #[.int .i64 p, .int .i64 q], .agg #[.bool x.f, .int .i64 x.lo, .int .i64 x.hi, .bool y.f, .int .i64 y.lo, .int .i64 y.hi, .bool z.f, .int .i64 z.lo, .int .i64 z.hi], .agg #[.bool t.f, .int .i64 t.lo, .int .i64 t.hi]] w fun e w' => e = .returned (.bool true) ∧ Below w.heap.size w w' := by
 refine calls_sx Try.func8 rfl ?_
 simp only [Try.ntmps8, List.size_toArray, List.length_cons, List.length_nil, Nat.reduceAdd, Nat.reduceSub, Array.replicate_succ, Array.replicate_zero, List.push_toArray, List.append_toArray, List.nil_append, List.cons_append]
 refine wc_seq ?_
 refine wc_region ?_
 refine wl_new 23 (#[.int .i64 p, .int .i64 q]) rfl (fun _ => by go_simp) ?_
 intro g1
 simp only [Act.put, Xa, Xz, Xs]
 refine wl_new 26 (#[.bool x.f, .int .i64 x.lo, .int .i64 x.hi, .bool y.f, .int .i64 y.lo, .int .i64 y.hi, .bool z.f, .int .i64 z.lo, .int .i64 z.hi]) rfl (fun _ => by go_simp) ?_
 intro g2
 simp only [Act.put, Xa, Xz, Xs]
 refine wl_new 25 (#[.bool t.f, .int .i64 t.lo, .int .i64 t.hi]) rfl (fun _ => by go_simp) ?_
 intro g3
 simp only [Act.put, Xa, Xz, Xs]
 refine wl_val (.bool false) rfl (fun _ => rfl) ?_
 simp only [Act.put, Xa, Xz, Xs]
 refine wl_nil ?_
 refine we_then ?_
 refine wc_seq ?_
 refine wc_seq ?_
 refine wc_region ?_
 refine wl_call 9 #[] (.bool true) rfl (fun _ => by go_simp) (fun W => Fzlw.anchor_any W) ?_
 simp only [Act.put, Xa, Xz, Xs]
 refine wl_val (.bool false) rfl (fun _ => by go_simp) ?_
 simp only [Act.put, Xa, Xz, Xs]
 refine wl_nil ?_
 refine we_then ?_
 refine wc_false rfl ?_
 refine wc_skip ?_
 refine we_then ?_
 refine wc_seq ?_
 refine wc_region ?_
 refine wl_load 26 (.tmp 4) (own_row 1 rfl) rfl rfl rfl Try.underlying26 rfl (by kernel_rfl) ?_
 simp only [Act.put, Xa, Xz, Xs]
 refine wl_load 25 (.tmp 5) (own_row 0 rfl) rfl rfl rfl Try.underlying25 rfl (by kernel_rfl) ?_
 simp only [Act.put, Xa, Xz, Xs]
 cases h4 : (badB x)
 ·
  skip
  cases h5 : (badB y)
  ·
   skip
   cases h6 : (badB z)
   ·
    skip
    cases h7 : (badB t)
    ·
     skip
     refine wl_call 10 #[.agg #[.bool x.f, .int .i64 x.lo, .int .i64 x.hi, .bool y.f, .int .i64 y.lo, .int .i64 y.hi, .bool z.f, .int .i64 z.lo, .int .i64 z.hi], .agg #[.bool t.f, .int .i64 t.lo, .int .i64 t.hi]] (.tuple #[.agg #[.int .i64 x.lo, .int .i64 x.hi, .int .i64 y.lo, .int .i64 y.hi, .int .i64 z.lo, .int .i64 z.hi, .int .i64 t.lo, .int .i64 t.hi], .agg #[.int .i64 (bI x.f), .int .i64 (bI y.f), .int .i64 (bI z.f), .int .i64 (bI t.f)], .bool true]) rfl (fun _ => by go_simp) (fun W => by have h9 := given_any x y z t W; unfold givV at h9; rwa [if_neg (by rw [h4]; decide), if_neg (by rw [h5]; decide), if_neg (by rw [h6]; decide), if_neg (by rw [h7]; decide)] at h9) ?_
     simp only [Act.put, Xa, Xz, Xs]
     refine wl_val (.tuple #[.agg #[.int .i64 x.lo, .int .i64 x.hi, .int .i64 y.lo, .int .i64 y.hi, .int .i64 z.lo, .int .i64 z.hi, .int .i64 t.lo, .int .i64 t.hi], .agg #[.int .i64 (bI x.f), .int .i64 (bI y.f), .int .i64 (bI z.f), .int .i64 (bI t.f)], .bool true]) rfl (fun _ => rfl) ?_
     simp only [Act.put, Xa, Xz, Xs]
     refine wl_val (.agg #[.int .i64 x.lo, .int .i64 x.hi, .int .i64 y.lo, .int .i64 y.hi, .int .i64 z.lo, .int .i64 z.hi, .int .i64 t.lo, .int .i64 t.hi]) rfl (fun _ => by go_simp) ?_
     simp only [Act.put, Xa, Xz, Xs]
     refine wl_val (.agg #[.int .i64 (bI x.f), .int .i64 (bI y.f), .int .i64 (bI z.f), .int .i64 (bI t.f)]) rfl (fun _ => by go_simp) ?_
     simp only [Act.put, Xa, Xz, Xs]
     refine wl_val (.bool true) rfl (fun _ => by go_simp) ?_
     simp only [Act.put, Xa, Xz, Xs]
     refine wl_new 29 (#[.int .i64 0, .int .i64 0, .int .i64 0, .int .i64 0, .int .i64 0, .int .i64 0, .int .i64 0, .int .i64 0]) rfl (fun _ => by go_simp) ?_
     intro g8
     simp only [Act.put, Xa, Xz, Xs]
     refine wl_new 30 (#[.int .i64 0, .int .i64 0, .int .i64 0, .int .i64 0]) rfl (fun _ => by go_simp) ?_
     intro g9
     simp only [Act.put, Xa, Xz, Xs]
     refine wl_store 1 29 (.tmp 7) (.tmp 19) (#[.int .i64 x.lo, .int .i64 x.hi, .int .i64 y.lo, .int .i64 y.hi, .int .i64 z.lo, .int .i64 z.hi, .int .i64 t.lo, .int .i64 t.hi]) rfl rfl rfl rfl rfl (by kernel_rfl) rfl (by simp [Value.oneCell']) ?_
     simp only [Act.put, List.set_cons_zero, List.set_cons_succ]
     refine wl_store 0 30 (.tmp 8) (.tmp 20) (#[.int .i64 (bI x.f), .int .i64 (bI y.f), .int .i64 (bI z.f), .int .i64 (bI t.f)]) rfl rfl rfl rfl rfl (by kernel_rfl) rfl (by simp [Value.oneCell']) ?_
     simp only [Act.put, List.set_cons_zero]
     refine wl_val (.bool true) rfl (fun _ => rfl) ?_
     simp only [Act.put, Xa, Xz, Xs]
     refine wl_nil ?_
     refine we_then ?_
     refine wc_seq ?_
     refine wc_seq ?_
     refine wc_region ?_
     refine wl_val (.bool true) rfl (fun _ => rfl) ?_
     simp only [Act.put, Xa, Xz, Xs]
     refine wl_val (.bool false) rfl (fun _ => by go_simp) ?_
     simp only [Act.put, Xa, Xz, Xs]
     refine wl_val (.bool false) rfl (fun _ => rfl) ?_
     simp only [Act.put, Xa, Xz, Xs]
     refine wl_load 23 (.tmp 3) (own_row 4 rfl) rfl rfl rfl Try.underlying23 rfl (by kernel_rfl) ?_
     simp only [Act.put, Xa, Xz, Xs]
     refine wl_call 11 #[.agg #[.int .i64 p, .int .i64 q]] (.bool (mayF p q)) rfl (fun _ => by go_simp) (fun W => may_any p q W) ?_
     simp only [Act.put, Xa, Xz, Xs]
     refine wl_val (.bool (!(mayF p q))) rfl (fun _ => by go_simp) ?_
     simp only [Act.put, Xa, Xz, Xs]
     refine wl_val (.bool (!(mayF p q))) rfl (fun _ => rfl) ?_
     simp only [Act.put, Xa, Xz, Xs]
     refine wl_nil ?_
     refine we_then ?_
     cases h10 : (mayF p q)
     ·
      skip
      refine wc_true rfl ?_
      refine wc_seq ?_
      refine wc_region ?_
      refine wl_val (.bool true) rfl (fun _ => rfl) ?_
      simp only [Act.put, Xa, Xz, Xs]
      refine wl_nil ?_
      refine we_then ?_
      refine wc_ret ?_
      refine we_then_ret ?_
      refine we_ret1 (.bool true) rfl rfl rfl (fun w1 hE => ?_)
      exact ⟨rfl, hE.below⟩
     ·
      skip
      refine wc_false rfl ?_
      refine wc_skip ?_
      refine we_then ?_
      refine wc_seq ?_
      have g_x := good_of h4
      have g_y := good_of h5
      have g_z := good_of h6
      have g_t := good_of h7
      have hp := may_of h10
      refine wc_region ?_
      refine wl_load 23 (.tmp 3) (own_row 4 rfl) rfl rfl rfl Try.underlying23 rfl (by kernel_rfl) ?_
      simp only [Act.put, Xa, Xz, Xs]
      refine wl_load 26 (.tmp 4) (own_row 3 rfl) rfl rfl rfl Try.underlying26 rfl (by kernel_rfl) ?_
      simp only [Act.put, Xa, Xz, Xs]
      refine wl_load 25 (.tmp 5) (own_row 2 rfl) rfl rfl rfl Try.underlying25 rfl (by kernel_rfl) ?_
      simp only [Act.put, Xa, Xz, Xs]
      refine wl_call 12 #[.agg #[.int .i64 p, .int .i64 q], .agg #[.bool x.f, .int .i64 x.lo, .int .i64 x.hi, .bool y.f, .int .i64 y.lo, .int .i64 y.hi, .bool z.f, .int .i64 z.lo, .int .i64 z.hi], .agg #[.bool t.f, .int .i64 t.lo, .int .i64 t.hi]] (.agg #[.int .i64 ((spd p q x y z t).1), .int .i64 ((spd p q x y z t).2.1), .int .i64 (nF x y z : Int), .bool (clean x y z), .bool ((spd p q x y z t).2.2), .int .i64 (slips x y z x), .int .i64 (slips x y z y)]) rfl (fun _ => by go_simp) (fun W => Fzz.fuse_any p q x y z t W hp g_x g_y g_z g_t) ?_
      simp only [Act.put, Xa, Xz, Xs]
      refine wl_new 36 (#[.int .i64 0, .int .i64 0, .int .i64 0, .bool false, .bool false, .int .i64 0, .int .i64 0]) rfl (fun _ => by go_simp) ?_
      intro g11
      simp only [Act.put, Xa, Xz, Xs]
      refine wl_store 0 36 (.tmp 10) (.tmp 32) (#[.int .i64 ((spd p q x y z t).1), .int .i64 ((spd p q x y z t).2.1), .int .i64 (nF x y z : Int), .bool (clean x y z), .bool ((spd p q x y z t).2.2), .int .i64 (slips x y z x), .int .i64 (slips x y z y)]) rfl rfl rfl rfl rfl (by kernel_rfl) rfl (by simp [Value.oneCell']) ?_
      simp only [Act.put, List.set_cons_zero]
      refine wl_nil ?_
      refine we_then ?_
      refine wc_seq ?_
      refine wc_region ?_
      refine wl_load 23 (.tmp 3) (own_row 5 rfl) rfl rfl rfl Try.underlying23 rfl (by kernel_rfl) ?_
      simp only [Act.put, Xa, Xz, Xs]
      refine wl_load 26 (.tmp 4) (own_row 4 rfl) rfl rfl rfl Try.underlying26 rfl (by kernel_rfl) ?_
      simp only [Act.put, Xa, Xz, Xs]
      refine wl_val (.agg #[.bool false, .int .i64 0, .int .i64 0]) rfl (fun _ => by go_simp) ?_
      simp only [Act.put, Xa, Xz, Xs]
      refine wl_call 12 #[.agg #[.int .i64 p, .int .i64 q], .agg #[.bool x.f, .int .i64 x.lo, .int .i64 x.hi, .bool y.f, .int .i64 y.lo, .int .i64 y.hi, .bool z.f, .int .i64 z.lo, .int .i64 z.hi], .agg #[.bool false, .int .i64 0, .int .i64 0]] (.agg #[.int .i64 ((spd p q x y z (⟨false, 0, 0⟩ : Sr)).1), .int .i64 ((spd p q x y z (⟨false, 0, 0⟩ : Sr)).2.1), .int .i64 (nF x y z : Int), .bool (clean x y z), .bool ((spd p q x y z (⟨false, 0, 0⟩ : Sr)).2.2), .int .i64 (slips x y z x), .int .i64 (slips x y z y)]) rfl (fun _ => by go_simp) (fun W => Fzz.fuse_any p q x y z (⟨false, 0, 0⟩ : Sr) W hp g_x g_y g_z (by intro e; cases e)) ?_
      simp only [Act.put, Xa, Xz, Xs]
      refine wl_new 36 (#[.int .i64 0, .int .i64 0, .int .i64 0, .bool false, .bool false, .int .i64 0, .int .i64 0]) rfl (fun _ => by go_simp) ?_
      intro g12
      simp only [Act.put, Xa, Xz, Xs]
      refine wl_store 0 36 (.tmp 11) (.tmp 36) (#[.int .i64 ((spd p q x y z (⟨false, 0, 0⟩ : Sr)).1), .int .i64 ((spd p q x y z (⟨false, 0, 0⟩ : Sr)).2.1), .int .i64 (nF x y z : Int), .bool (clean x y z), .bool ((spd p q x y z (⟨false, 0, 0⟩ : Sr)).2.2), .int .i64 (slips x y z x), .int .i64 (slips x y z y)]) rfl rfl rfl rfl rfl (by kernel_rfl) rfl (by simp [Value.oneCell']) ?_
      simp only [Act.put, List.set_cons_zero]
      refine wl_nil ?_
      refine we_then ?_
      refine wc_seq ?_
      refine wc_region ?_
      refine wl_load 23 (.tmp 3) (own_row 6 rfl) rfl rfl rfl Try.underlying23 rfl (by kernel_rfl) ?_
      simp only [Act.put, Xa, Xz, Xs]
      refine wl_val (.agg #[.bool false, .int .i64 0, .int .i64 0, .bool false, .int .i64 0, .int .i64 0, .bool false, .int .i64 0, .int .i64 0]) rfl (fun _ => by go_simp) ?_
      simp only [Act.put, Xa, Xz, Xs]
      refine wl_val (.agg #[.bool false, .int .i64 0, .int .i64 0]) rfl (fun _ => by go_simp) ?_
      simp only [Act.put, Xa, Xz, Xs]
      refine wl_call 12 #[.agg #[.int .i64 p, .int .i64 q], .agg #[.bool false, .int .i64 0, .int .i64 0, .bool false, .int .i64 0, .int .i64 0, .bool false, .int .i64 0, .int .i64 0], .agg #[.bool false, .int .i64 0, .int .i64 0]] (.agg #[.int .i64 p, .int .i64 q, .int .i64 0, .bool false, .bool false, .int .i64 0, .int .i64 0]) rfl (fun _ => by go_simp) (fun W => by have h9 := Fzz.fuse_any p q (⟨false, 0, 0⟩ : Sr) (⟨false, 0, 0⟩ : Sr) (⟨false, 0, 0⟩ : Sr) (⟨false, 0, 0⟩ : Sr) W hp (by intro e; cases e) (by intro e; cases e) (by intro e; cases e) (by intro e; cases e); have h8 := fz_zero p q; simp only [fz, Fz.mk.injEq] at h8; obtain ⟨k1, k2, k3, k4, k5, k6, k7⟩ := h8; rwa [k1, k2, k3, k4, k5, k6] at h9) ?_
      simp only [Act.put, Xa, Xz, Xs]
      refine wl_new 36 (#[.int .i64 0, .int .i64 0, .int .i64 0, .bool false, .bool false, .int .i64 0, .int .i64 0]) rfl (fun _ => by go_simp) ?_
      intro g13
      simp only [Act.put, Xa, Xz, Xs]
      refine wl_store 0 36 (.tmp 12) (.tmp 40) (#[.int .i64 p, .int .i64 q, .int .i64 0, .bool false, .bool false, .int .i64 0, .int .i64 0]) rfl rfl rfl rfl rfl (by kernel_rfl) rfl (by simp [Value.oneCell']) ?_
      simp only [Act.put, List.set_cons_zero]
      refine wl_nil ?_
      refine we_then ?_
      refine wc_seq ?_
      have e0 := spd_in hp.1 x y z t
      have e1 : (spd p q x y z (⟨false, 0, 0⟩ : Sr)).1 ≤ (spd p q x y z t).1 ∧ (spd p q x y z t).2.1 ≤ (spd p q x y z (⟨false, 0, 0⟩ : Sr)).2.1 := spd_less
      refine wc_region ?_
      refine wl_val (.pointer (some ⟨g11, 0, none⟩)) rfl (fun _ => by go_simp) ?_
      simp only [Act.put, Xa, Xz, Xs]
      refine wl_part 23 (.tmp 41) [.int .i64 ((spd p q x y z t).1), .int .i64 ((spd p q x y z t).2.1)] (own_row 2 rfl) rfl rfl rfl rfl Try.underlying23 rfl (by kernel_rfl) ?_
      simp only [Act.put, Xa, Xz, Xs]
      refine wl_val (.pointer (some ⟨g12, 0, none⟩)) rfl (fun _ => by go_simp) ?_
      simp only [Act.put, Xa, Xz, Xs]
      refine wl_part 23 (.tmp 43) [.int .i64 ((spd p q x y z (⟨false, 0, 0⟩ : Sr)).1), .int .i64 ((spd p q x y z (⟨false, 0, 0⟩ : Sr)).2.1)] (own_row 1 rfl) rfl rfl rfl rfl Try.underlying23 rfl (by kernel_rfl) ?_
      simp only [Act.put, Xa, Xz, Xs]
      refine wl_call 17 #[.agg #[.int .i64 ((spd p q x y z t).1), .int .i64 ((spd p q x y z t).2.1)], .agg #[.int .i64 ((spd p q x y z (⟨false, 0, 0⟩ : Sr)).1), .int .i64 ((spd p q x y z (⟨false, 0, 0⟩ : Sr)).2.1)]] (.bool true) rfl (fun _ => by go_simp) (fun W => by have h9 := Spn.in_any (spd p q x y z t).1 (spd p q x y z t).2.1 (spd p q x y z (⟨false, 0, 0⟩ : Sr)).1 (spd p q x y z (⟨false, 0, 0⟩ : Sr)).2.1 W; rwa [decide_eq_true e0.2.1, decide_eq_true e1.1, decide_eq_true e1.2] at h9) ?_
      simp only [Act.put, Xa, Xz, Xs]
      refine wl_val (.bool true) rfl (fun _ => rfl) ?_
      simp only [Act.put, Xa, Xz, Xs]
      refine wl_val (.pointer (some ⟨g13, 0, none⟩)) rfl (fun _ => by go_simp) ?_
      simp only [Act.put, Xa, Xz, Xs]
      refine wl_part 23 (.tmp 47) [.int .i64 p, .int .i64 q] (own_row 0 rfl) rfl rfl rfl rfl Try.underlying23 rfl (by kernel_rfl) ?_
      simp only [Act.put, Xa, Xz, Xs]
      refine wl_load 23 (.tmp 3) (own_row 7 rfl) rfl rfl rfl Try.underlying23 rfl (by kernel_rfl) ?_
      simp only [Act.put, Xa, Xz, Xs]
      refine wl_val (.bool true) rfl (fun _ => by go_simp) ?_
      simp only [Act.put, Xa, Xz, Xs]
      refine wl_val (.bool true) rfl (fun _ => rfl) ?_
      simp only [Act.put, Xa, Xz, Xs]
      refine wl_val (.bool true) rfl (fun _ => rfl) ?_
      simp only [Act.put, Xa, Xz, Xs]
      refine wl_val (.pointer (some ⟨g13, 2, none⟩)) rfl (fun _ => by go_simp) ?_
      simp only [Act.put, Xa, Xz, Xs]
      refine wl_cell 3 (.tmp 53) (.int .i64 0) (own_row 0 rfl) rfl rfl rfl rfl Try.isAgg3 ?_
      simp only [Act.put, Xa, Xz, Xs]
      refine wl_val (.bool true) rfl (fun w => run_cmp rfl rfl rfl Try.underlying3 rfl w) ?_
      simp only [Act.put, Xa, Xz, Xs]
      refine wl_val (.bool true) rfl (fun _ => rfl) ?_
      simp only [Act.put, Xa, Xz, Xs]
      refine wl_val (.bool true) rfl (fun _ => rfl) ?_
      simp only [Act.put, Xa, Xz, Xs]
      refine wl_val (.pointer (some ⟨g13, 4, none⟩)) rfl (fun _ => by go_simp) ?_
      simp only [Act.put, Xa, Xz, Xs]
      refine wl_cell 4 (.tmp 58) (.bool false) (own_row 0 rfl) rfl rfl rfl rfl Try.isAgg4 ?_
      simp only [Act.put, Xa, Xz, Xs]
      refine wl_val (.bool true) rfl (fun _ => by go_simp) ?_
      simp only [Act.put, Xa, Xz, Xs]
      refine wl_val (.bool true) rfl (fun _ => rfl) ?_
      simp only [Act.put, Xa, Xz, Xs]
      refine wl_val (.bool true) rfl (fun _ => rfl) ?_
      simp only [Act.put, Xa, Xz, Xs]
      refine wl_val (.pointer (some ⟨g13, 3, none⟩)) rfl (fun _ => by go_simp) ?_
      simp only [Act.put, Xa, Xz, Xs]
      refine wl_cell 4 (.tmp 63) (.bool false) (own_row 0 rfl) rfl rfl rfl rfl Try.isAgg4 ?_
      simp only [Act.put, Xa, Xz, Xs]
      refine wl_val (.bool true) rfl (fun _ => by go_simp) ?_
      simp only [Act.put, Xa, Xz, Xs]
      refine wl_val (.bool true) rfl (fun _ => rfl) ?_
      simp only [Act.put, Xa, Xz, Xs]
      refine wl_val (.bool true) rfl (fun _ => rfl) ?_
      simp only [Act.put, Xa, Xz, Xs]
      refine wl_val (.pointer (some ⟨g11, 2, none⟩)) rfl (fun _ => by go_simp) ?_
      simp only [Act.put, Xa, Xz, Xs]
      refine wl_cell 3 (.tmp 68) (.int .i64 (nF x y z : Int)) (own_row 2 rfl) rfl rfl rfl rfl Try.isAgg3 ?_
      simp only [Act.put, Xa, Xz, Xs]
      refine wl_val (.pointer (some ⟨g12, 2, none⟩)) rfl (fun _ => by go_simp) ?_
      simp only [Act.put, Xa, Xz, Xs]
      refine wl_cell 3 (.tmp 70) (.int .i64 (nF x y z : Int)) (own_row 1 rfl) rfl rfl rfl rfl Try.isAgg3 ?_
      simp only [Act.put, Xa, Xz, Xs]
      refine wl_val (.bool true) rfl (fun w => run_cmp (b := true) rfl rfl rfl Try.underlying3 (by simp [cmpOf]) w) ?_
      simp only [Act.put, Xa, Xz, Xs]
      refine wl_val (.bool true) rfl (fun _ => rfl) ?_
      simp only [Act.put, Xa, Xz, Xs]
      refine wl_val (.bool true) rfl (fun _ => rfl) ?_
      simp only [Act.put, Xa, Xz, Xs]
      refine wl_val (.pointer (some ⟨g11, 3, none⟩)) rfl (fun _ => by go_simp) ?_
      simp only [Act.put, Xa, Xz, Xs]
      refine wl_cell 4 (.tmp 75) (.bool (clean x y z)) (own_row 2 rfl) rfl rfl rfl rfl Try.isAgg4 ?_
      simp only [Act.put, Xa, Xz, Xs]
      refine wl_val (.pointer (some ⟨g12, 3, none⟩)) rfl (fun _ => by go_simp) ?_
      simp only [Act.put, Xa, Xz, Xs]
      refine wl_cell 4 (.tmp 77) (.bool (clean x y z)) (own_row 1 rfl) rfl rfl rfl rfl Try.isAgg4 ?_
      simp only [Act.put, Xa, Xz, Xs]
      refine wl_val (.bool true) rfl (fun w => run_beq rfl rfl rfl Try.underlying4 (by cases (clean x y z) <;> rfl) w) ?_
      simp only [Act.put, Xa, Xz, Xs]
      refine wl_val (.bool true) rfl (fun _ => rfl) ?_
      simp only [Act.put, Xa, Xz, Xs]
      refine wl_val (.bool true) rfl (fun _ => rfl) ?_
      simp only [Act.put, Xa, Xz, Xs]
      refine wl_val (.pointer (some ⟨g11, 5, none⟩)) rfl (fun _ => by go_simp) ?_
      simp only [Act.put, Xa, Xz, Xs]
      refine wl_part 34 (.tmp 82) [.int .i64 (slips x y z x), .int .i64 (slips x y z y)] (own_row 2 rfl) rfl rfl rfl rfl Try.underlying34 rfl (by kernel_rfl) ?_
      simp only [Act.put, Xa, Xz, Xs]
      refine wl_val (.pointer (some ⟨g12, 5, none⟩)) rfl (fun _ => by go_simp) ?_
      simp only [Act.put, Xa, Xz, Xs]
      refine wl_part 34 (.tmp 84) [.int .i64 (slips x y z x), .int .i64 (slips x y z y)] (own_row 1 rfl) rfl rfl rfl rfl Try.underlying34 rfl (by kernel_rfl) ?_
      simp only [Act.put, Xa, Xz, Xs]
      refine wl_val (.bool true) rfl (fun w => (eq_two rfl rfl rfl w).trans (by simp)) ?_
      simp only [Act.put, Xa, Xz, Xs]
      refine wl_val (.bool true) rfl (fun _ => rfl) ?_
      simp only [Act.put, Xa, Xz, Xs]
      refine wl_val (.bool true) rfl (fun _ => rfl) ?_
      simp only [Act.put, Xa, Xz, Xs]
      refine wl_nil ?_
      refine we_then ?_
      refine wc_ret ?_
      refine we_ret1 (.bool true) rfl rfl rfl (fun w1 hE => ?_)
      exact ⟨rfl, hE.below⟩
    ·
     skip
     refine wl_call 10 #[.agg #[.bool x.f, .int .i64 x.lo, .int .i64 x.hi, .bool y.f, .int .i64 y.lo, .int .i64 y.hi, .bool z.f, .int .i64 z.lo, .int .i64 z.hi], .agg #[.bool t.f, .int .i64 t.lo, .int .i64 t.hi]] (.tuple #[.agg #[.int .i64 x.lo, .int .i64 x.hi, .int .i64 y.lo, .int .i64 y.hi, .int .i64 z.lo, .int .i64 z.hi, .int .i64 t.lo, .int .i64 t.hi], .agg #[.int .i64 (bI x.f), .int .i64 (bI y.f), .int .i64 (bI z.f), .int .i64 (bI t.f)], .bool false]) rfl (fun _ => by go_simp) (fun W => by have h9 := given_any x y z t W; unfold givV at h9; rwa [if_neg (by rw [h4]; decide), if_neg (by rw [h5]; decide), if_neg (by rw [h6]; decide), if_pos h7] at h9) ?_
     simp only [Act.put, Xa, Xz, Xs]
     refine wl_val (.tuple #[.agg #[.int .i64 x.lo, .int .i64 x.hi, .int .i64 y.lo, .int .i64 y.hi, .int .i64 z.lo, .int .i64 z.hi, .int .i64 t.lo, .int .i64 t.hi], .agg #[.int .i64 (bI x.f), .int .i64 (bI y.f), .int .i64 (bI z.f), .int .i64 (bI t.f)], .bool false]) rfl (fun _ => rfl) ?_
     simp only [Act.put, Xa, Xz, Xs]
     refine wl_val (.agg #[.int .i64 x.lo, .int .i64 x.hi, .int .i64 y.lo, .int .i64 y.hi, .int .i64 z.lo, .int .i64 z.hi, .int .i64 t.lo, .int .i64 t.hi]) rfl (fun _ => by go_simp) ?_
     simp only [Act.put, Xa, Xz, Xs]
     refine wl_val (.agg #[.int .i64 (bI x.f), .int .i64 (bI y.f), .int .i64 (bI z.f), .int .i64 (bI t.f)]) rfl (fun _ => by go_simp) ?_
     simp only [Act.put, Xa, Xz, Xs]
     refine wl_val (.bool false) rfl (fun _ => by go_simp) ?_
     simp only [Act.put, Xa, Xz, Xs]
     refine wl_new 29 (#[.int .i64 0, .int .i64 0, .int .i64 0, .int .i64 0, .int .i64 0, .int .i64 0, .int .i64 0, .int .i64 0]) rfl (fun _ => by go_simp) ?_
     intro g14
     simp only [Act.put, Xa, Xz, Xs]
     refine wl_new 30 (#[.int .i64 0, .int .i64 0, .int .i64 0, .int .i64 0]) rfl (fun _ => by go_simp) ?_
     intro g15
     simp only [Act.put, Xa, Xz, Xs]
     refine wl_store 1 29 (.tmp 7) (.tmp 19) (#[.int .i64 x.lo, .int .i64 x.hi, .int .i64 y.lo, .int .i64 y.hi, .int .i64 z.lo, .int .i64 z.hi, .int .i64 t.lo, .int .i64 t.hi]) rfl rfl rfl rfl rfl (by kernel_rfl) rfl (by simp [Value.oneCell']) ?_
     simp only [Act.put, List.set_cons_zero, List.set_cons_succ]
     refine wl_store 0 30 (.tmp 8) (.tmp 20) (#[.int .i64 (bI x.f), .int .i64 (bI y.f), .int .i64 (bI z.f), .int .i64 (bI t.f)]) rfl rfl rfl rfl rfl (by kernel_rfl) rfl (by simp [Value.oneCell']) ?_
     simp only [Act.put, List.set_cons_zero]
     refine wl_val (.bool false) rfl (fun _ => rfl) ?_
     simp only [Act.put, Xa, Xz, Xs]
     refine wl_nil ?_
     refine we_then ?_
     refine wc_seq ?_
     refine wc_seq ?_
     refine wc_region ?_
     refine wl_val (.bool false) rfl (fun _ => rfl) ?_
     simp only [Act.put, Xa, Xz, Xs]
     refine wl_val (.bool true) rfl (fun _ => by go_simp) ?_
     simp only [Act.put, Xa, Xz, Xs]
     refine wl_val (.bool true) rfl (fun _ => rfl) ?_
     simp only [Act.put, Xa, Xz, Xs]
     refine wl_skip rfl ?_
     simp only [Act.put, Xa, Xz, Xs]
     refine wl_skip rfl ?_
     simp only [Act.put, Xa, Xz, Xs]
     refine wl_skip rfl ?_
     simp only [Act.put, Xa, Xz, Xs]
     refine wl_val (.bool true) rfl (fun _ => rfl) ?_
     simp only [Act.put, Xa, Xz, Xs]
     refine wl_nil ?_
     refine we_then ?_
     refine wc_true rfl ?_
     refine wc_seq ?_
     refine wc_region ?_
     refine wl_val (.bool true) rfl (fun _ => rfl) ?_
     simp only [Act.put, Xa, Xz, Xs]
     refine wl_nil ?_
     refine we_then ?_
     refine wc_ret ?_
     refine we_then_ret ?_
     refine we_ret1 (.bool true) rfl rfl rfl (fun w1 hE => ?_)
     exact ⟨rfl, hE.below⟩
   ·
    skip
    refine wl_call 10 #[.agg #[.bool x.f, .int .i64 x.lo, .int .i64 x.hi, .bool y.f, .int .i64 y.lo, .int .i64 y.hi, .bool z.f, .int .i64 z.lo, .int .i64 z.hi], .agg #[.bool t.f, .int .i64 t.lo, .int .i64 t.hi]] (.tuple #[.agg #[.int .i64 x.lo, .int .i64 x.hi, .int .i64 y.lo, .int .i64 y.hi, .int .i64 z.lo, .int .i64 z.hi, .int .i64 0, .int .i64 0], .agg #[.int .i64 (bI x.f), .int .i64 (bI y.f), .int .i64 (bI z.f), .int .i64 0], .bool false]) rfl (fun _ => by go_simp) (fun W => by have h9 := given_any x y z t W; unfold givV at h9; rwa [if_neg (by rw [h4]; decide), if_neg (by rw [h5]; decide), if_pos h6] at h9) ?_
    simp only [Act.put, Xa, Xz, Xs]
    refine wl_val (.tuple #[.agg #[.int .i64 x.lo, .int .i64 x.hi, .int .i64 y.lo, .int .i64 y.hi, .int .i64 z.lo, .int .i64 z.hi, .int .i64 0, .int .i64 0], .agg #[.int .i64 (bI x.f), .int .i64 (bI y.f), .int .i64 (bI z.f), .int .i64 0], .bool false]) rfl (fun _ => rfl) ?_
    simp only [Act.put, Xa, Xz, Xs]
    refine wl_val (.agg #[.int .i64 x.lo, .int .i64 x.hi, .int .i64 y.lo, .int .i64 y.hi, .int .i64 z.lo, .int .i64 z.hi, .int .i64 0, .int .i64 0]) rfl (fun _ => by go_simp) ?_
    simp only [Act.put, Xa, Xz, Xs]
    refine wl_val (.agg #[.int .i64 (bI x.f), .int .i64 (bI y.f), .int .i64 (bI z.f), .int .i64 0]) rfl (fun _ => by go_simp) ?_
    simp only [Act.put, Xa, Xz, Xs]
    refine wl_val (.bool false) rfl (fun _ => by go_simp) ?_
    simp only [Act.put, Xa, Xz, Xs]
    refine wl_new 29 (#[.int .i64 0, .int .i64 0, .int .i64 0, .int .i64 0, .int .i64 0, .int .i64 0, .int .i64 0, .int .i64 0]) rfl (fun _ => by go_simp) ?_
    intro g16
    simp only [Act.put, Xa, Xz, Xs]
    refine wl_new 30 (#[.int .i64 0, .int .i64 0, .int .i64 0, .int .i64 0]) rfl (fun _ => by go_simp) ?_
    intro g17
    simp only [Act.put, Xa, Xz, Xs]
    refine wl_store 1 29 (.tmp 7) (.tmp 19) (#[.int .i64 x.lo, .int .i64 x.hi, .int .i64 y.lo, .int .i64 y.hi, .int .i64 z.lo, .int .i64 z.hi, .int .i64 0, .int .i64 0]) rfl rfl rfl rfl rfl (by kernel_rfl) rfl (by simp [Value.oneCell']) ?_
    simp only [Act.put, List.set_cons_zero, List.set_cons_succ]
    refine wl_store 0 30 (.tmp 8) (.tmp 20) (#[.int .i64 (bI x.f), .int .i64 (bI y.f), .int .i64 (bI z.f), .int .i64 0]) rfl rfl rfl rfl rfl (by kernel_rfl) rfl (by simp [Value.oneCell']) ?_
    simp only [Act.put, List.set_cons_zero]
    refine wl_val (.bool false) rfl (fun _ => rfl) ?_
    simp only [Act.put, Xa, Xz, Xs]
    refine wl_nil ?_
    refine we_then ?_
    refine wc_seq ?_
    refine wc_seq ?_
    refine wc_region ?_
    refine wl_val (.bool false) rfl (fun _ => rfl) ?_
    simp only [Act.put, Xa, Xz, Xs]
    refine wl_val (.bool true) rfl (fun _ => by go_simp) ?_
    simp only [Act.put, Xa, Xz, Xs]
    refine wl_val (.bool true) rfl (fun _ => rfl) ?_
    simp only [Act.put, Xa, Xz, Xs]
    refine wl_skip rfl ?_
    simp only [Act.put, Xa, Xz, Xs]
    refine wl_skip rfl ?_
    simp only [Act.put, Xa, Xz, Xs]
    refine wl_skip rfl ?_
    simp only [Act.put, Xa, Xz, Xs]
    refine wl_val (.bool true) rfl (fun _ => rfl) ?_
    simp only [Act.put, Xa, Xz, Xs]
    refine wl_nil ?_
    refine we_then ?_
    refine wc_true rfl ?_
    refine wc_seq ?_
    refine wc_region ?_
    refine wl_val (.bool true) rfl (fun _ => rfl) ?_
    simp only [Act.put, Xa, Xz, Xs]
    refine wl_nil ?_
    refine we_then ?_
    refine wc_ret ?_
    refine we_then_ret ?_
    refine we_ret1 (.bool true) rfl rfl rfl (fun w1 hE => ?_)
    exact ⟨rfl, hE.below⟩
  ·
   skip
   refine wl_call 10 #[.agg #[.bool x.f, .int .i64 x.lo, .int .i64 x.hi, .bool y.f, .int .i64 y.lo, .int .i64 y.hi, .bool z.f, .int .i64 z.lo, .int .i64 z.hi], .agg #[.bool t.f, .int .i64 t.lo, .int .i64 t.hi]] (.tuple #[.agg #[.int .i64 x.lo, .int .i64 x.hi, .int .i64 y.lo, .int .i64 y.hi, .int .i64 0, .int .i64 0, .int .i64 0, .int .i64 0], .agg #[.int .i64 (bI x.f), .int .i64 (bI y.f), .int .i64 0, .int .i64 0], .bool false]) rfl (fun _ => by go_simp) (fun W => by have h9 := given_any x y z t W; unfold givV at h9; rwa [if_neg (by rw [h4]; decide), if_pos h5] at h9) ?_
   simp only [Act.put, Xa, Xz, Xs]
   refine wl_val (.tuple #[.agg #[.int .i64 x.lo, .int .i64 x.hi, .int .i64 y.lo, .int .i64 y.hi, .int .i64 0, .int .i64 0, .int .i64 0, .int .i64 0], .agg #[.int .i64 (bI x.f), .int .i64 (bI y.f), .int .i64 0, .int .i64 0], .bool false]) rfl (fun _ => rfl) ?_
   simp only [Act.put, Xa, Xz, Xs]
   refine wl_val (.agg #[.int .i64 x.lo, .int .i64 x.hi, .int .i64 y.lo, .int .i64 y.hi, .int .i64 0, .int .i64 0, .int .i64 0, .int .i64 0]) rfl (fun _ => by go_simp) ?_
   simp only [Act.put, Xa, Xz, Xs]
   refine wl_val (.agg #[.int .i64 (bI x.f), .int .i64 (bI y.f), .int .i64 0, .int .i64 0]) rfl (fun _ => by go_simp) ?_
   simp only [Act.put, Xa, Xz, Xs]
   refine wl_val (.bool false) rfl (fun _ => by go_simp) ?_
   simp only [Act.put, Xa, Xz, Xs]
   refine wl_new 29 (#[.int .i64 0, .int .i64 0, .int .i64 0, .int .i64 0, .int .i64 0, .int .i64 0, .int .i64 0, .int .i64 0]) rfl (fun _ => by go_simp) ?_
   intro g18
   simp only [Act.put, Xa, Xz, Xs]
   refine wl_new 30 (#[.int .i64 0, .int .i64 0, .int .i64 0, .int .i64 0]) rfl (fun _ => by go_simp) ?_
   intro g19
   simp only [Act.put, Xa, Xz, Xs]
   refine wl_store 1 29 (.tmp 7) (.tmp 19) (#[.int .i64 x.lo, .int .i64 x.hi, .int .i64 y.lo, .int .i64 y.hi, .int .i64 0, .int .i64 0, .int .i64 0, .int .i64 0]) rfl rfl rfl rfl rfl (by kernel_rfl) rfl (by simp [Value.oneCell']) ?_
   simp only [Act.put, List.set_cons_zero, List.set_cons_succ]
   refine wl_store 0 30 (.tmp 8) (.tmp 20) (#[.int .i64 (bI x.f), .int .i64 (bI y.f), .int .i64 0, .int .i64 0]) rfl rfl rfl rfl rfl (by kernel_rfl) rfl (by simp [Value.oneCell']) ?_
   simp only [Act.put, List.set_cons_zero]
   refine wl_val (.bool false) rfl (fun _ => rfl) ?_
   simp only [Act.put, Xa, Xz, Xs]
   refine wl_nil ?_
   refine we_then ?_
   refine wc_seq ?_
   refine wc_seq ?_
   refine wc_region ?_
   refine wl_val (.bool false) rfl (fun _ => rfl) ?_
   simp only [Act.put, Xa, Xz, Xs]
   refine wl_val (.bool true) rfl (fun _ => by go_simp) ?_
   simp only [Act.put, Xa, Xz, Xs]
   refine wl_val (.bool true) rfl (fun _ => rfl) ?_
   simp only [Act.put, Xa, Xz, Xs]
   refine wl_skip rfl ?_
   simp only [Act.put, Xa, Xz, Xs]
   refine wl_skip rfl ?_
   simp only [Act.put, Xa, Xz, Xs]
   refine wl_skip rfl ?_
   simp only [Act.put, Xa, Xz, Xs]
   refine wl_val (.bool true) rfl (fun _ => rfl) ?_
   simp only [Act.put, Xa, Xz, Xs]
   refine wl_nil ?_
   refine we_then ?_
   refine wc_true rfl ?_
   refine wc_seq ?_
   refine wc_region ?_
   refine wl_val (.bool true) rfl (fun _ => rfl) ?_
   simp only [Act.put, Xa, Xz, Xs]
   refine wl_nil ?_
   refine we_then ?_
   refine wc_ret ?_
   refine we_then_ret ?_
   refine we_ret1 (.bool true) rfl rfl rfl (fun w1 hE => ?_)
   exact ⟨rfl, hE.below⟩
 ·
  skip
  refine wl_call 10 #[.agg #[.bool x.f, .int .i64 x.lo, .int .i64 x.hi, .bool y.f, .int .i64 y.lo, .int .i64 y.hi, .bool z.f, .int .i64 z.lo, .int .i64 z.hi], .agg #[.bool t.f, .int .i64 t.lo, .int .i64 t.hi]] (.tuple #[.agg #[.int .i64 x.lo, .int .i64 x.hi, .int .i64 0, .int .i64 0, .int .i64 0, .int .i64 0, .int .i64 0, .int .i64 0], .agg #[.int .i64 (bI x.f), .int .i64 0, .int .i64 0, .int .i64 0], .bool false]) rfl (fun _ => by go_simp) (fun W => by have h9 := given_any x y z t W; unfold givV at h9; rwa [if_pos h4] at h9) ?_
  simp only [Act.put, Xa, Xz, Xs]
  refine wl_val (.tuple #[.agg #[.int .i64 x.lo, .int .i64 x.hi, .int .i64 0, .int .i64 0, .int .i64 0, .int .i64 0, .int .i64 0, .int .i64 0], .agg #[.int .i64 (bI x.f), .int .i64 0, .int .i64 0, .int .i64 0], .bool false]) rfl (fun _ => rfl) ?_
  simp only [Act.put, Xa, Xz, Xs]
  refine wl_val (.agg #[.int .i64 x.lo, .int .i64 x.hi, .int .i64 0, .int .i64 0, .int .i64 0, .int .i64 0, .int .i64 0, .int .i64 0]) rfl (fun _ => by go_simp) ?_
  simp only [Act.put, Xa, Xz, Xs]
  refine wl_val (.agg #[.int .i64 (bI x.f), .int .i64 0, .int .i64 0, .int .i64 0]) rfl (fun _ => by go_simp) ?_
  simp only [Act.put, Xa, Xz, Xs]
  refine wl_val (.bool false) rfl (fun _ => by go_simp) ?_
  simp only [Act.put, Xa, Xz, Xs]
  refine wl_new 29 (#[.int .i64 0, .int .i64 0, .int .i64 0, .int .i64 0, .int .i64 0, .int .i64 0, .int .i64 0, .int .i64 0]) rfl (fun _ => by go_simp) ?_
  intro g20
  simp only [Act.put, Xa, Xz, Xs]
  refine wl_new 30 (#[.int .i64 0, .int .i64 0, .int .i64 0, .int .i64 0]) rfl (fun _ => by go_simp) ?_
  intro g21
  simp only [Act.put, Xa, Xz, Xs]
  refine wl_store 1 29 (.tmp 7) (.tmp 19) (#[.int .i64 x.lo, .int .i64 x.hi, .int .i64 0, .int .i64 0, .int .i64 0, .int .i64 0, .int .i64 0, .int .i64 0]) rfl rfl rfl rfl rfl (by kernel_rfl) rfl (by simp [Value.oneCell']) ?_
  simp only [Act.put, List.set_cons_zero, List.set_cons_succ]
  refine wl_store 0 30 (.tmp 8) (.tmp 20) (#[.int .i64 (bI x.f), .int .i64 0, .int .i64 0, .int .i64 0]) rfl rfl rfl rfl rfl (by kernel_rfl) rfl (by simp [Value.oneCell']) ?_
  simp only [Act.put, List.set_cons_zero]
  refine wl_val (.bool false) rfl (fun _ => rfl) ?_
  simp only [Act.put, Xa, Xz, Xs]
  refine wl_nil ?_
  refine we_then ?_
  refine wc_seq ?_
  refine wc_seq ?_
  refine wc_region ?_
  refine wl_val (.bool false) rfl (fun _ => rfl) ?_
  simp only [Act.put, Xa, Xz, Xs]
  refine wl_val (.bool true) rfl (fun _ => by go_simp) ?_
  simp only [Act.put, Xa, Xz, Xs]
  refine wl_val (.bool true) rfl (fun _ => rfl) ?_
  simp only [Act.put, Xa, Xz, Xs]
  refine wl_skip rfl ?_
  simp only [Act.put, Xa, Xz, Xs]
  refine wl_skip rfl ?_
  simp only [Act.put, Xa, Xz, Xs]
  refine wl_skip rfl ?_
  simp only [Act.put, Xa, Xz, Xs]
  refine wl_val (.bool true) rfl (fun _ => rfl) ?_
  simp only [Act.put, Xa, Xz, Xs]
  refine wl_nil ?_
  refine we_then ?_
  refine wc_true rfl ?_
  refine wc_seq ?_
  refine wc_region ?_
  refine wl_val (.bool true) rfl (fun _ => rfl) ?_
  simp only [Act.put, Xa, Xz, Xs]
  refine wl_nil ?_
  refine we_then ?_
  refine wc_ret ?_
  refine we_then_ret ?_
  refine we_ret1 (.bool true) rfl rfl rfl (fun w1 hE => ?_)
  exact ⟨rfl, hE.below⟩
end Go.Proofs.Ytlfienfjdjfcoaa.Walks
