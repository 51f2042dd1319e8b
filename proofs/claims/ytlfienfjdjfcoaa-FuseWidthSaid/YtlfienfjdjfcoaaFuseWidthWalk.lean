/-
  FuseWidth: the law's walk. No condition.
-/
import Derived.Test.YtlfienfjdjfcoaaFzlw
namespace Go.Proofs.Ytlfienfjdjfcoaa.Walks
open Go.ChangeShapes Go.WideShapes Go.ChangeAt Go.RowKit
open Arr Steady Sx Sw Sl Sb Sc Si Sj Sk Sh Sfn Smu Vs Fzm Fzlw
set_option linter.unusedVariables false
set_option linter.unusedSimpArgs false
set_option maxRecDepth 100000

set_option maxHeartbeats 8000000 in
theorem fuseWidth_walk (p : Int) (wp : (Lit.int .i64 p).wf = true) (q : Int) (wq : (Lit.int .i64 q).wf = true) (x y z t : Sr) (v : Int) (wv : (Lit.int .i64 v).wf = true) (w : World) :
  Calls Try.prog 5 #[.agg #[.int .i64 p, .int .i64 q], .agg #[.bool x.f, .int .i64 x.lo, .int .i64 x.hi, .bool y.f, .int .i64 y.lo, .int .i64 y.hi, .bool z.f, .int .i64 z.lo, .int .i64 z.hi], .agg #[.bool t.f, .int .i64 t.lo, .int .i64 t.hi], .int .i64 v] w fun e w' => e = .returned (.bool true) ∧ Below w.heap.size w w' := by
 refine calls_sx Try.func5 rfl ?_
 simp only [Try.ntmps5, List.size_toArray, List.length_cons, List.length_nil, Nat.reduceAdd, Nat.reduceSub, Array.replicate_succ, Array.replicate_zero, List.push_toArray, List.append_toArray, List.nil_append, List.cons_append]
 refine wc_seq ?_
 refine wc_region ?_
 refine wl_new 23 (#[.int .i64 p, .int .i64 q]) rfl (fun _ => by go_simp) ?_
 intro g1
 simp only [Act.put, Xa, Xz, Xs]
 refine wl_new 26 (#[.bool x.f, .int .i64 x.lo, .int .i64 x.hi, .bool y.f, .int .i64 y.lo, .int .i64 y.hi, .bool z.f, .int .i64 z.lo, .int .i64 z.hi]) rfl (fun _ => by go_simp) ?_
 intro g2
 simp only [Act.put, Xa, Xz, Xs]
 refine wl_new 25 (#[.bool t.f, .int .i64 t.lo, .int .i64 t.hi]) rfl (fun _ => by go_simp) ?_
 intro g3
 simp only [Act.put, Xa, Xz, Xs]
 refine wl_val (.bool false) rfl (fun _ => rfl) ?_
 simp only [Act.put, Xa, Xz, Xs]
 refine wl_nil ?_
 refine we_then ?_
 refine wc_seq ?_
 refine wc_seq ?_
 refine wc_region ?_
 refine wl_call 9 #[] (.bool true) rfl (fun _ => by go_simp) (fun W => Fzlw.anchor_any W) ?_
 simp only [Act.put, Xa, Xz, Xs]
 refine wl_val (.bool false) rfl (fun _ => by go_simp) ?_
 simp only [Act.put, Xa, Xz, Xs]
 refine wl_nil ?_
 refine we_then ?_
 refine wc_false rfl ?_
 refine wc_skip ?_
 refine we_then ?_
 refine wc_seq ?_
 refine wc_region ?_
 refine wl_load 26 (.tmp 5) (own_row 1 rfl) rfl rfl rfl Try.underlying26 rfl (by kernel_rfl) ?_
 simp only [Act.put, Xa, Xz, Xs]
 refine wl_load 25 (.tmp 6) (own_row 0 rfl) rfl rfl rfl Try.underlying25 rfl (by kernel_rfl) ?_
 simp only [Act.put, Xa, Xz, Xs]
 cases h4 : (badB x)
 ·
  skip
  cases h5 : (badB y)
  ·
   skip
   cases h6 : (badB z)
   ·
    skip
    cases h7 : (badB t)
    ·
     skip
     refine wl_call 10 #[.agg #[.bool x.f, .int .i64 x.lo, .int .i64 x.hi, .bool y.f, .int .i64 y.lo, .int .i64 y.hi, .bool z.f, .int .i64 z.lo, .int .i64 z.hi], .agg #[.bool t.f, .int .i64 t.lo, .int .i64 t.hi]] (.tuple #[.agg #[.int .i64 x.lo, .int .i64 x.hi, .int .i64 y.lo, .int .i64 y.hi, .int .i64 z.lo, .int .i64 z.hi, .int .i64 t.lo, .int .i64 t.hi], .agg #[.int .i64 (bI x.f), .int .i64 (bI y.f), .int .i64 (bI z.f), .int .i64 (bI t.f)], .bool true]) rfl (fun _ => by go_simp) (fun W => by have h9 := given_any x y z t W; unfold givV at h9; rwa [if_neg (by rw [h4]; decide), if_neg (by rw [h5]; decide), if_neg (by rw [h6]; decide), if_neg (by rw [h7]; decide)] at h9) ?_
     simp only [Act.put, Xa, Xz, Xs]
     refine wl_val (.tuple #[.agg #[.int .i64 x.lo, .int .i64 x.hi, .int .i64 y.lo, .int .i64 y.hi, .int .i64 z.lo, .int .i64 z.hi, .int .i64 t.lo, .int .i64 t.hi], .agg #[.int .i64 (bI x.f), .int .i64 (bI y.f), .int .i64 (bI z.f), .int .i64 (bI t.f)], .bool true]) rfl (fun _ => rfl) ?_
     simp only [Act.put, Xa, Xz, Xs]
     refine wl_val (.agg #[.int .i64 x.lo, .int .i64 x.hi, .int .i64 y.lo, .int .i64 y.hi, .int .i64 z.lo, .int .i64 z.hi, .int .i64 t.lo, .int .i64 t.hi]) rfl (fun _ => by go_simp) ?_
     simp only [Act.put, Xa, Xz, Xs]
     refine wl_val (.agg #[.int .i64 (bI x.f), .int .i64 (bI y.f), .int .i64 (bI z.f), .int .i64 (bI t.f)]) rfl (fun _ => by go_simp) ?_
     simp only [Act.put, Xa, Xz, Xs]
     refine wl_val (.bool true) rfl (fun _ => by go_simp) ?_
     simp only [Act.put, Xa, Xz, Xs]
     refine wl_new 29 (#[.int .i64 0, .int .i64 0, .int .i64 0, .int .i64 0, .int .i64 0, .int .i64 0, .int .i64 0, .int .i64 0]) rfl (fun _ => by go_simp) ?_
     intro g8
     simp only [Act.put, Xa, Xz, Xs]
     refine wl_new 30 (#[.int .i64 0, .int .i64 0, .int .i64 0, .int .i64 0]) rfl (fun _ => by go_simp) ?_
     intro g9
     simp only [Act.put, Xa, Xz, Xs]
     refine wl_store 1 29 (.tmp 9) (.tmp 25) (#[.int .i64 x.lo, .int .i64 x.hi, .int .i64 y.lo, .int .i64 y.hi, .int .i64 z.lo, .int .i64 z.hi, .int .i64 t.lo, .int .i64 t.hi]) rfl rfl rfl rfl rfl (by kernel_rfl) rfl (by simp [Value.oneCell']) ?_
     simp only [Act.put, List.set_cons_zero, List.set_cons_succ]
     refine wl_store 0 30 (.tmp 10) (.tmp 26) (#[.int .i64 (bI x.f), .int .i64 (bI y.f), .int .i64 (bI z.f), .int .i64 (bI t.f)]) rfl rfl rfl rfl rfl (by kernel_rfl) rfl (by simp [Value.oneCell']) ?_
     simp only [Act.put, List.set_cons_zero]
     refine wl_val (.bool true) rfl (fun _ => rfl) ?_
     simp only [Act.put, Xa, Xz, Xs]
     refine wl_nil ?_
     refine we_then ?_
     refine wc_seq ?_
     refine wc_seq ?_
     refine wc_region ?_
     refine wl_val (.bool true) rfl (fun _ => rfl) ?_
     simp only [Act.put, Xa, Xz, Xs]
     refine wl_val (.bool false) rfl (fun _ => by go_simp) ?_
     simp only [Act.put, Xa, Xz, Xs]
     refine wl_val (.bool false) rfl (fun _ => rfl) ?_
     simp only [Act.put, Xa, Xz, Xs]
     refine wl_load 23 (.tmp 4) (own_row 4 rfl) rfl rfl rfl Try.underlying23 rfl (by kernel_rfl) ?_
     simp only [Act.put, Xa, Xz, Xs]
     refine wl_call 11 #[.agg #[.int .i64 p, .int .i64 q]] (.bool (mayF p q)) rfl (fun _ => by go_simp) (fun W => may_any p q W) ?_
     simp only [Act.put, Xa, Xz, Xs]
     refine wl_val (.bool (!(mayF p q))) rfl (fun _ => by go_simp) ?_
     simp only [Act.put, Xa, Xz, Xs]
     refine wl_val (.bool (!(mayF p q))) rfl (fun _ => rfl) ?_
     simp only [Act.put, Xa, Xz, Xs]
     refine wl_val (.bool (!(mayF p q))) rfl (fun _ => rfl) ?_
     simp only [Act.put, Xa, Xz, Xs]
     cases h10 : (mayF p q)
     ·
      skip
      refine wl_skip rfl ?_
      simp only [Act.put, Xa, Xz, Xs]
      refine wl_skip rfl ?_
      simp only [Act.put, Xa, Xz, Xs]
      refine wl_skip rfl ?_
      simp only [Act.put, Xa, Xz, Xs]
      refine wl_skip rfl ?_
      simp only [Act.put, Xa, Xz, Xs]
      refine wl_val (.bool true) rfl (fun _ => rfl) ?_
      simp only [Act.put, Xa, Xz, Xs]
      refine wl_val (.bool true) rfl (fun _ => rfl) ?_
      simp only [Act.put, Xa, Xz, Xs]
      refine wl_skip rfl ?_
      simp only [Act.put, Xa, Xz, Xs]
      refine wl_skip rfl ?_
      simp only [Act.put, Xa, Xz, Xs]
      refine wl_skip rfl ?_
      simp only [Act.put, Xa, Xz, Xs]
      refine wl_skip rfl ?_
      simp only [Act.put, Xa, Xz, Xs]
      refine wl_val (.bool true) rfl (fun _ => rfl) ?_
      simp only [Act.put, Xa, Xz, Xs]
      refine wl_val (.bool true) rfl (fun _ => rfl) ?_
      simp only [Act.put, Xa, Xz, Xs]
      refine wl_skip rfl ?_
      simp only [Act.put, Xa, Xz, Xs]
      refine wl_skip rfl ?_
      simp only [Act.put, Xa, Xz, Xs]
      refine wl_skip rfl ?_
      simp only [Act.put, Xa, Xz, Xs]
      refine wl_skip rfl ?_
      simp only [Act.put, Xa, Xz, Xs]
      refine wl_val (.bool true) rfl (fun _ => rfl) ?_
      simp only [Act.put, Xa, Xz, Xs]
      refine wl_val (.bool true) rfl (fun _ => rfl) ?_
      simp only [Act.put, Xa, Xz, Xs]
      refine wl_skip rfl ?_
      simp only [Act.put, Xa, Xz, Xs]
      refine wl_skip rfl ?_
      simp only [Act.put, Xa, Xz, Xs]
      refine wl_skip rfl ?_
      simp only [Act.put, Xa, Xz, Xs]
      refine wl_skip rfl ?_
      simp only [Act.put, Xa, Xz, Xs]
      refine wl_val (.bool true) rfl (fun _ => rfl) ?_
      simp only [Act.put, Xa, Xz, Xs]
      refine wl_nil ?_
      refine we_then ?_
      refine wc_true rfl ?_
      refine wc_seq ?_
      refine wc_region ?_
      refine wl_val (.bool true) rfl (fun _ => rfl) ?_
      simp only [Act.put, Xa, Xz, Xs]
      refine wl_nil ?_
      refine we_then ?_
      refine wc_ret ?_
      refine we_then_ret ?_
      refine we_ret1 (.bool true) rfl rfl rfl (fun w1 hE => ?_)
      exact ⟨rfl, hE.below⟩
     ·
      skip
      refine wl_load 23 (.tmp 4) (own_row 4 rfl) rfl rfl rfl Try.underlying23 rfl (by kernel_rfl) ?_
      simp only [Act.put, Xa, Xz, Xs]
      refine wl_val (.int .i64 v) rfl (fun _ => rfl) ?_
      simp only [Act.put, Xa, Xz, Xs]
      refine wl_call 14 #[.agg #[.int .i64 p, .int .i64 q], .int .i64 v] (.bool (decide (p ≤ v) && decide (v ≤ q))) rfl (fun _ => by go_simp) (fun W => has_b p q v W) ?_
      simp only [Act.put, Xa, Xz, Xs]
      refine wl_val (.bool (!(decide (p ≤ v) && decide (v ≤ q)))) rfl (fun _ => by go_simp) ?_
      simp only [Act.put, Xa, Xz, Xs]
      refine wl_val (.bool (!(decide (p ≤ v) && decide (v ≤ q)))) rfl (fun _ => rfl) ?_
      simp only [Act.put, Xa, Xz, Xs]
      refine wl_val (.bool (!(decide (p ≤ v) && decide (v ≤ q)))) rfl (fun _ => rfl) ?_
      simp only [Act.put, Xa, Xz, Xs]
      cases h11 : (decide (p ≤ v) && decide (v ≤ q))
      ·
       skip
       have p11 : ¬ ((p ≤ v) ∧ (v ≤ q)) := by first | (simp; done) | (simp at h11; done) | simpa using h11
       refine wl_skip rfl ?_
       simp only [Act.put, Xa, Xz, Xs]
       refine wl_skip rfl ?_
       simp only [Act.put, Xa, Xz, Xs]
       refine wl_skip rfl ?_
       simp only [Act.put, Xa, Xz, Xs]
       refine wl_skip rfl ?_
       simp only [Act.put, Xa, Xz, Xs]
       refine wl_val (.bool true) rfl (fun _ => rfl) ?_
       simp only [Act.put, Xa, Xz, Xs]
       refine wl_val (.bool true) rfl (fun _ => rfl) ?_
       simp only [Act.put, Xa, Xz, Xs]
       refine wl_skip rfl ?_
       simp only [Act.put, Xa, Xz, Xs]
       refine wl_skip rfl ?_
       simp only [Act.put, Xa, Xz, Xs]
       refine wl_skip rfl ?_
       simp only [Act.put, Xa, Xz, Xs]
       refine wl_skip rfl ?_
       simp only [Act.put, Xa, Xz, Xs]
       refine wl_val (.bool true) rfl (fun _ => rfl) ?_
       simp only [Act.put, Xa, Xz, Xs]
       refine wl_val (.bool true) rfl (fun _ => rfl) ?_
       simp only [Act.put, Xa, Xz, Xs]
       refine wl_skip rfl ?_
       simp only [Act.put, Xa, Xz, Xs]
       refine wl_skip rfl ?_
       simp only [Act.put, Xa, Xz, Xs]
       refine wl_skip rfl ?_
       simp only [Act.put, Xa, Xz, Xs]
       refine wl_skip rfl ?_
       simp only [Act.put, Xa, Xz, Xs]
       refine wl_val (.bool true) rfl (fun _ => rfl) ?_
       simp only [Act.put, Xa, Xz, Xs]
       refine wl_nil ?_
       refine we_then ?_
       refine wc_true rfl ?_
       refine wc_seq ?_
       refine wc_region ?_
       refine wl_val (.bool true) rfl (fun _ => rfl) ?_
       simp only [Act.put, Xa, Xz, Xs]
       refine wl_nil ?_
       refine we_then ?_
       refine wc_ret ?_
       refine we_then_ret ?_
       refine we_ret1 (.bool true) rfl rfl rfl (fun w1 hE => ?_)
       exact ⟨rfl, hE.below⟩
      ·
       skip
       have p11 : (p ≤ v) ∧ (v ≤ q) := by first | (simp; done) | (simp at h11; done) | simpa using h11
       refine wl_val (.pointer (some ⟨g2, 0, none⟩)) rfl (fun _ => by go_simp) ?_
       simp only [Act.put, Xa, Xz, Xs]
       refine wl_val (.pointer (some ⟨g2, 0, none⟩)) rfl (fun _ => by go_simp) ?_
       simp only [Act.put, Xa, Xz, Xs]
       refine wl_cell 4 (.tmp 43) (.bool x.f) (own_row 3 rfl) rfl rfl rfl rfl Try.isAgg4 ?_
       simp only [Act.put, Xa, Xz, Xs]
       refine wl_val (.bool (!x.f)) rfl (fun _ => by go_simp) ?_
       simp only [Act.put, Xa, Xz, Xs]
       refine wl_val (.bool (!x.f)) rfl (fun _ => rfl) ?_
       simp only [Act.put, Xa, Xz, Xs]
       refine wl_val (.bool (!x.f)) rfl (fun _ => rfl) ?_
       simp only [Act.put, Xa, Xz, Xs]
       cases h12 : (x.f)
       ·
        skip
        refine wl_skip rfl ?_
        simp only [Act.put, Xa, Xz, Xs]
        refine wl_skip rfl ?_
        simp only [Act.put, Xa, Xz, Xs]
        refine wl_skip rfl ?_
        simp only [Act.put, Xa, Xz, Xs]
        refine wl_skip rfl ?_
        simp only [Act.put, Xa, Xz, Xs]
        refine wl_val (.bool true) rfl (fun _ => rfl) ?_
        simp only [Act.put, Xa, Xz, Xs]
        refine wl_val (.bool true) rfl (fun _ => rfl) ?_
        simp only [Act.put, Xa, Xz, Xs]
        refine wl_skip rfl ?_
        simp only [Act.put, Xa, Xz, Xs]
        refine wl_skip rfl ?_
        simp only [Act.put, Xa, Xz, Xs]
        refine wl_skip rfl ?_
        simp only [Act.put, Xa, Xz, Xs]
        refine wl_skip rfl ?_
        simp only [Act.put, Xa, Xz, Xs]
        refine wl_val (.bool true) rfl (fun _ => rfl) ?_
        simp only [Act.put, Xa, Xz, Xs]
        refine wl_nil ?_
        refine we_then ?_
        refine wc_true rfl ?_
        refine wc_seq ?_
        refine wc_region ?_
        refine wl_val (.bool true) rfl (fun _ => rfl) ?_
        simp only [Act.put, Xa, Xz, Xs]
        refine wl_nil ?_
        refine we_then ?_
        refine wc_ret ?_
        refine we_then_ret ?_
        refine we_ret1 (.bool true) rfl rfl rfl (fun w1 hE => ?_)
        exact ⟨rfl, hE.below⟩
       ·
        skip
        refine wl_val (.pointer (some ⟨g2, 3, none⟩)) rfl (fun _ => by go_simp) ?_
        simp only [Act.put, Xa, Xz, Xs]
        refine wl_val (.pointer (some ⟨g2, 3, none⟩)) rfl (fun _ => by go_simp) ?_
        simp only [Act.put, Xa, Xz, Xs]
        refine wl_cell 4 (.tmp 49) (.bool y.f) (own_row 3 rfl) rfl rfl rfl rfl Try.isAgg4 ?_
        simp only [Act.put, Xa, Xz, Xs]
        refine wl_val (.bool (!y.f)) rfl (fun _ => by go_simp) ?_
        simp only [Act.put, Xa, Xz, Xs]
        refine wl_val (.bool (!y.f)) rfl (fun _ => rfl) ?_
        simp only [Act.put, Xa, Xz, Xs]
        refine wl_val (.bool (!y.f)) rfl (fun _ => rfl) ?_
        simp only [Act.put, Xa, Xz, Xs]
        cases h13 : (y.f)
        ·
         skip
         refine wl_skip rfl ?_
         simp only [Act.put, Xa, Xz, Xs]
         refine wl_skip rfl ?_
         simp only [Act.put, Xa, Xz, Xs]
         refine wl_skip rfl ?_
         simp only [Act.put, Xa, Xz, Xs]
         refine wl_skip rfl ?_
         simp only [Act.put, Xa, Xz, Xs]
         refine wl_val (.bool true) rfl (fun _ => rfl) ?_
         simp only [Act.put, Xa, Xz, Xs]
         refine wl_nil ?_
         refine we_then ?_
         refine wc_true rfl ?_
         refine wc_seq ?_
         refine wc_region ?_
         refine wl_val (.bool true) rfl (fun _ => rfl) ?_
         simp only [Act.put, Xa, Xz, Xs]
         refine wl_nil ?_
         refine we_then ?_
         refine wc_ret ?_
         refine we_then_ret ?_
         refine we_ret1 (.bool true) rfl rfl rfl (fun w1 hE => ?_)
         exact ⟨rfl, hE.below⟩
        ·
         skip
         refine wl_val (.pointer (some ⟨g2, 6, none⟩)) rfl (fun _ => by go_simp) ?_
         simp only [Act.put, Xa, Xz, Xs]
         refine wl_val (.pointer (some ⟨g2, 6, none⟩)) rfl (fun _ => by go_simp) ?_
         simp only [Act.put, Xa, Xz, Xs]
         refine wl_cell 4 (.tmp 55) (.bool z.f) (own_row 3 rfl) rfl rfl rfl rfl Try.isAgg4 ?_
         simp only [Act.put, Xa, Xz, Xs]
         refine wl_val (.bool (!z.f)) rfl (fun _ => by go_simp) ?_
         simp only [Act.put, Xa, Xz, Xs]
         refine wl_val (.bool (!z.f)) rfl (fun _ => rfl) ?_
         simp only [Act.put, Xa, Xz, Xs]
         refine wl_nil ?_
         refine we_then ?_
         cases h14 : (z.f)
         ·
          skip
          refine wc_true rfl ?_
          refine wc_seq ?_
          refine wc_region ?_
          refine wl_val (.bool true) rfl (fun _ => rfl) ?_
          simp only [Act.put, Xa, Xz, Xs]
          refine wl_nil ?_
          refine we_then ?_
          refine wc_ret ?_
          refine we_then_ret ?_
          refine we_ret1 (.bool true) rfl rfl rfl (fun w1 hE => ?_)
          exact ⟨rfl, hE.below⟩
         ·
          skip
          refine wc_false rfl ?_
          refine wc_skip ?_
          refine we_then ?_
          refine wc_seq ?_
          have g_x := good_of h4
          have g_y := good_of h5
          have g_z := good_of h6
          have g_t := good_of h7
          have hp := may_of h10
          have k_x := g_x h12
          have k_y := g_y h13
          have k_z := g_z h14
          refine wc_region ?_
          refine wl_val (.int .u64 0) rfl (fun _ => rfl) ?_
          simp only [Act.put, Xa, Xz, Xs]
          refine wl_val (.int .u64 0) rfl (fun _ => rfl) ?_
          simp only [Act.put, Xa, Xz, Xs]
          refine wl_nil ?_
          refine we_then ?_
          refine wc_seq ?_
          refine wc_region ?_
          refine wl_val (.int .i64 0) rfl (fun _ => rfl) ?_
          simp only [Act.put, Xa, Xz, Xs]
          refine wl_nil ?_
          refine we_then ?_
          refine wc_seq ?_
          refine wc_seq ?_
          refine wc_region ?_
          refine wl_load 26 (.tmp 5) (own_row 3 rfl) rfl rfl rfl Try.underlying26 rfl (by kernel_rfl) ?_
          simp only [Act.put, Xa, Xz, Xs]
          refine wl_val (.int .i64 0) rfl (fun _ => rfl) ?_
          simp only [Act.put, Xa, Xz, Xs]
          refine wl_nil ?_
          refine we_then ?_
          refine wc_block ?_
          refine wr_start 4 ?_
          refine wr_round ?_
          refine wc_seq ?_
          refine wc_region ?_
          refine wl_val (.bool true) rfl (fun w => run_cmp rfl rfl rfl Try.underlying3 rfl w) ?_
          simp only [Act.put, Xa, Xz, Xs]
          refine wl_nil ?_
          refine we_then ?_
          refine wc_seq ?_
          refine wc_true rfl ?_
          refine wc_skip ?_
          refine we_then ?_
          refine wc_cut (fun (zz : Int × Int × Int × Value × Value × Value × Value × Value × Value × Value × Value × Value × Value × Value × Value × Value × Value × Value × Value × Value × Value × Value × Value × Value × Value × Value × Value × Value) => match zz with | ⟨n0, U0, T0, u16, u17, u62, u63, u64, u65, u66, u67, u68, u69, u70, u71, u72, u73, u74, u75, u76, u77, u78, u79, u80, u81, u82, u83, u84⟩ => ({ tmps := #[.agg #[.int .i64 p, .int .i64 q], .agg #[.bool true, .int .i64 x.lo, .int .i64 x.hi, .bool true, .int .i64 y.lo, .int .i64 y.hi, .bool true, .int .i64 z.lo, .int .i64 z.hi], .agg #[.bool t.f, .int .i64 t.lo, .int .i64 t.hi], .int .i64 v, .pointer (some ⟨g1, 0, none⟩), .pointer (some ⟨g2, 0, none⟩), .pointer (some ⟨g3, 0, none⟩), undef, .bool false, .pointer (some ⟨g8, 0, none⟩), .pointer (some ⟨g9, 0, none⟩), .bool true, .int .u64 U0, .int .u64 T0, .int .i64 n0, undef, u16, u17, undef, .bool true, .bool false, .tuple #[.agg #[.int .i64 x.lo, .int .i64 x.hi, .int .i64 y.lo, .int .i64 y.hi, .int .i64 z.lo, .int .i64 z.hi, .int .i64 t.lo, .int .i64 t.hi], .agg #[.int .i64 (bI true), .int .i64 (bI true), .int .i64 (bI true), .int .i64 (bI t.f)], .bool true], .agg #[.bool true, .int .i64 x.lo, .int .i64 x.hi, .bool true, .int .i64 y.lo, .int .i64 y.hi, .bool true, .int .i64 z.lo, .int .i64 z.hi], .agg #[.bool t.f, .int .i64 t.lo, .int .i64 t.hi], .tuple #[.agg #[.int .i64 x.lo, .int .i64 x.hi, .int .i64 y.lo, .int .i64 y.hi, .int .i64 z.lo, .int .i64 z.hi, .int .i64 t.lo, .int .i64 t.hi], .agg #[.int .i64 (bI true), .int .i64 (bI true), .int .i64 (bI true), .int .i64 (bI t.f)], .bool true], .agg #[.int .i64 x.lo, .int .i64 x.hi, .int .i64 y.lo, .int .i64 y.hi, .int .i64 z.lo, .int .i64 z.hi, .int .i64 t.lo, .int .i64 t.hi], .agg #[.int .i64 (bI true), .int .i64 (bI true), .int .i64 (bI true), .int .i64 (bI t.f)], .bool true, .bool true, .bool false, .bool false, .agg #[.int .i64 p, .int .i64 q], .bool true, .bool false, .bool false, .bool false, .agg #[.int .i64 p, .int .i64 q], .int .i64 v, .bool true, .bool false, .bool false, .bool false, .pointer (some ⟨g2, 0, none⟩), .pointer (some ⟨g2, 0, none⟩), .bool true, .bool false, .bool false, .bool false, .pointer (some ⟨g2, 3, none⟩), .pointer (some ⟨g2, 3, none⟩), .bool true, .bool false, .bool false, .bool false, .pointer (some ⟨g2, 6, none⟩), .pointer (some ⟨g2, 6, none⟩), .bool true, .bool false, .bool false, .agg #[.bool true, .int .i64 x.lo, .int .i64 x.hi, .bool true, .int .i64 y.lo, .int .i64 y.hi, .bool true, .int .i64 z.lo, .int .i64 z.hi], .int .i64 0, .bool true, u62, u63, u64, u65, u66, u67, u68, u69, u70, u71, u72, u73, u74, u75, u76, u77, u78, u79, u80, u81, u82, u83, u84, undef, undef, undef, undef, undef, undef, undef, undef, undef, undef, undef, undef, undef, undef, undef, undef, undef, undef, undef, undef, undef, undef, undef, undef, undef, undef, undef, undef, undef, undef, undef], defers := [] } : Act)) (fun (zz : Int × Int × Int × Value × Value × Value × Value × Value × Value × Value × Value × Value × Value × Value × Value × Value × Value × Value × Value × Value × Value × Value × Value × Value × Value × Value × Value × Value) => match zz with | ⟨n0, U0, T0, u16, u17, u62, u63, u64, u65, u66, u67, u68, u69, u70, u71, u72, u73, u74, u75, u76, u77, u78, u79, u80, u81, u82, u83, u84⟩ => [⟨g9, #[.int .i64 (bI true), .int .i64 (bI true), .int .i64 (bI true), .int .i64 (bI t.f)], 30⟩, ⟨g8, #[.int .i64 x.lo, .int .i64 x.hi, .int .i64 y.lo, .int .i64 y.hi, .int .i64 z.lo, .int .i64 z.hi, .int .i64 t.lo, .int .i64 t.hi], 29⟩, ⟨g3, #[.bool t.f, .int .i64 t.lo, .int .i64 t.hi], 25⟩, ⟨g2, #[.bool true, .int .i64 x.lo, .int .i64 x.hi, .bool true, .int .i64 y.lo, .int .i64 y.hi, .bool true, .int .i64 z.lo, .int .i64 z.hi], 26⟩, ⟨g1, #[.int .i64 p, .int .i64 q], 23⟩]) (fun (zz : Int × Int × Int × Value × Value × Value × Value × Value × Value × Value × Value × Value × Value × Value × Value × Value × Value × Value × Value × Value × Value × Value × Value × Value × Value × Value × Value × Value) => match zz with | ⟨n0, U0, T0, u16, u17, u62, u63, u64, u65, u66, u67, u68, u69, u70, u71, u72, u73, u74, u75, u76, u77, u78, u79, u80, u81, u82, u83, u84⟩ => CntW 0 n0 0 U0 0 T0 x.lo x.hi v ∧ 0 ≤ U0 ∧ U0 ≤ 2305843009213693952 ∧ 0 ≤ T0 ∧ T0 ≤ 2305843009213693952 ∧ 0 ≤ n0 ∧ n0 ≤ 1) ?_ ?_
          ·
           skip
           refine wc_block ?_
           refine wc_seq ?_
           refine wc_region ?_
           refine wl_val (.agg #[.bool true, .int .i64 x.lo, .int .i64 x.hi]) rfl (fun w => run_index_row (k := 0) (z := 3) (ps := #[.bool true, .int .i64 x.lo, .int .i64 x.hi]) rfl rfl rfl rfl (by decide) Try.underlying26 Try.underlying25 rfl (by kernel_rfl) (by simp) w) ?_
           simp only [Act.put, Xa, Xz, Xs]
           refine wl_new 25 (#[.bool false, .int .i64 0, .int .i64 0]) rfl (fun _ => by go_simp) ?_
           intro g15
           simp only [Act.put, Xa, Xz, Xs]
           refine wl_store 0 25 (.tmp 16) (.tmp 62) (#[.bool true, .int .i64 x.lo, .int .i64 x.hi]) rfl rfl rfl rfl rfl (by kernel_rfl) rfl (by simp [Value.oneCell']) ?_
           simp only [Act.put, List.set_cons_zero]
           refine wl_nil ?_
           refine we_then ?_
           refine wc_seq ?_
           refine wc_seq ?_
           refine wc_region ?_
           refine wl_val (.pointer (some ⟨g15, 1, none⟩)) rfl (fun _ => by go_simp) ?_
           simp only [Act.put, Xa, Xz, Xs]
           refine wl_part 23 (.tmp 63) [.int .i64 x.lo, .int .i64 x.hi] (own_row 0 rfl) rfl rfl rfl rfl Try.underlying23 rfl (by kernel_rfl) ?_
           simp only [Act.put, Xa, Xz, Xs]
           refine wl_val (.int .i64 v) rfl (fun _ => rfl) ?_
           simp only [Act.put, Xa, Xz, Xs]
           refine wl_call 14 #[.agg #[.int .i64 x.lo, .int .i64 x.hi], .int .i64 v] (.bool (decide (x.lo ≤ v) && decide (v ≤ x.hi))) rfl (fun _ => by go_simp) (fun W => has_b x.lo x.hi v W) ?_
           simp only [Act.put, Xa, Xz, Xs]
           refine wl_val (.bool (!(decide (x.lo ≤ v) && decide (v ≤ x.hi)))) rfl (fun _ => by go_simp) ?_
           simp only [Act.put, Xa, Xz, Xs]
           refine wl_nil ?_
           refine we_then ?_
           cases h16 : (decide (x.lo ≤ v) && decide (v ≤ x.hi))
           ·
            skip
            have p16 : ¬ ((x.lo ≤ v) ∧ (v ≤ x.hi)) := by first | (simp; done) | (simp at h16; done) | simpa using h16
            refine wc_true rfl ?_
            refine wc_exit ?_
            refine we_then_exit ?_
            refine we_in_here ?_
            exact we_meet ⟨(0), (0), (0), _, _, _, _, _, _, _, _, _, _, _, _, _, _, _, _, _, _, _, _, _, _, _, _, _⟩ ⟨.inr ⟨rfl, rfl, rfl, by omega⟩, by (try dsimp only); omega, by (try dsimp only); omega, by (try dsimp only); omega, by (try dsimp only); omega, by (try dsimp only); omega, by (try dsimp only); omega⟩ rfl (List.Sublist.cons _ (List.Sublist.cons_cons _ (List.Sublist.cons_cons _ (List.Sublist.cons_cons _ (List.Sublist.cons_cons _ (List.Sublist.cons_cons _ List.Sublist.slnil))))))
           ·
            skip
            have p16 : (x.lo ≤ v) ∧ (v ≤ x.hi) := by first | (simp; done) | (simp at h16; done) | simpa using h16
            refine wc_false rfl ?_
            refine wc_skip ?_
            refine we_then ?_
            refine wc_seq ?_
            refine wc_region ?_
            refine wl_val (.int .i64 0) rfl (fun _ => rfl) ?_
            simp only [Act.put, Xa, Xz, Xs]
            refine wl_val (.int .i64 1) rfl (fun w => run_nat (X := 0) (Y := 1) (Z := 1) rfl rfl rfl rfl (by omega) w) ?_
            simp only [Act.put, Xa, Xz, Xs]
            refine wl_val (.int .i64 1) rfl (fun _ => rfl) ?_
            simp only [Act.put, Xa, Xz, Xs]
            refine wl_nil ?_
            refine we_then ?_
            refine wc_seq ?_
            refine wc_region ?_
            refine wl_val (.pointer (some ⟨g15, 1, none⟩)) rfl (fun _ => by go_simp) ?_
            simp only [Act.put, Xa, Xz, Xs]
            refine wl_val (.pointer (some ⟨g15, 2, none⟩)) rfl (fun _ => by go_simp) ?_
            simp only [Act.put, Xa, Xz, Xs]
            refine wl_cell 2 (.tmp 71) (.int .i64 x.hi) (own_row 0 rfl) rfl rfl rfl rfl Try.isAgg2 ?_
            simp only [Act.put, Xa, Xz, Xs]
            refine wl_val (.int .u64 (IntKind.u64.wrap x.hi)) rfl (fun w => Sw.run_conv rfl rfl Try.underlying2 Try.underlying45 rfl w) ?_
            simp only [Act.put, Xa, Xz, Xs]
            refine wl_val (.pointer (some ⟨g15, 1, none⟩)) rfl (fun _ => by go_simp) ?_
            simp only [Act.put, Xa, Xz, Xs]
            refine wl_val (.pointer (some ⟨g15, 1, none⟩)) rfl (fun _ => by go_simp) ?_
            simp only [Act.put, Xa, Xz, Xs]
            refine wl_cell 2 (.tmp 75) (.int .i64 x.lo) (own_row 0 rfl) rfl rfl rfl rfl Try.isAgg2 ?_
            simp only [Act.put, Xa, Xz, Xs]
            refine wl_val (.int .u64 (IntKind.u64.wrap x.lo)) rfl (fun w => Sw.run_conv rfl rfl Try.underlying2 Try.underlying45 rfl w) ?_
            simp only [Act.put, Xa, Xz, Xs]
            refine wl_val (.int .u64 (x.hi - x.lo)) rfl (fun w => run_arith (op := .sub) rfl rfl rfl Try.underlying45 (congrArg some (Spo.width_wrap ⟨by omega, by omega⟩ ⟨by omega, by omega⟩ k_x.1)) w) ?_
            simp only [Act.put, Xa, Xz, Xs]
            refine wl_val (.int .u64 (x.hi - x.lo)) rfl (fun _ => rfl) ?_
            simp only [Act.put, Xa, Xz, Xs]
            refine wl_nil ?_
            refine we_then ?_
            refine wc_seq ?_
            refine wc_region ?_
            refine wl_val (.int .u64 0) rfl (fun _ => rfl) ?_
            simp only [Act.put, Xa, Xz, Xs]
            refine wl_val (.int .u64 (x.hi - x.lo)) rfl (fun _ => rfl) ?_
            simp only [Act.put, Xa, Xz, Xs]
            refine wl_val (.int .u64 (0 + (x.hi - x.lo))) rfl (fun w => run_arith (op := .add) rfl rfl rfl Try.underlying45 (congrArg some (u64_in (by omega) (by omega))) w) ?_
            simp only [Act.put, Xa, Xz, Xs]
            refine wl_val (.int .u64 (0 + (x.hi - x.lo))) rfl (fun _ => rfl) ?_
            simp only [Act.put, Xa, Xz, Xs]
            refine wl_nil ?_
            refine we_then ?_
            refine wc_region ?_
            refine wl_val (.int .u64 0) rfl (fun _ => rfl) ?_
            simp only [Act.put, Xa, Xz, Xs]
            refine wl_val (.int .u64 (x.hi - x.lo)) rfl (fun _ => rfl) ?_
            simp only [Act.put, Xa, Xz, Xs]
            refine wl_val (.int .u64 (max 0 (x.hi - x.lo))) rfl (fun w => by first | exact run_max2 rfl rfl rfl rfl w | go_simp) ?_
            simp only [Act.put, Xa, Xz, Xs]
            refine wl_val (.int .u64 (max 0 (x.hi - x.lo))) rfl (fun _ => rfl) ?_
            simp only [Act.put, Xa, Xz, Xs]
            refine wl_nil ?_
            refine we_in ?_
            exact we_meet ⟨(1), (0 + (x.hi - x.lo)), (max 0 (x.hi - x.lo)), _, _, _, _, _, _, _, _, _, _, _, _, _, _, _, _, _, _, _, _, _, _, _, _, _⟩ ⟨.inl ⟨rfl, rfl, rfl, by omega, by omega⟩, by (try dsimp only); omega, by (try dsimp only); omega, by (try dsimp only); omega, by (try dsimp only); omega, by (try dsimp only); omega, by (try dsimp only); omega⟩ rfl (List.Sublist.cons _ (List.Sublist.cons_cons _ (List.Sublist.cons_cons _ (List.Sublist.cons_cons _ (List.Sublist.cons_cons _ (List.Sublist.cons_cons _ List.Sublist.slnil))))))
          ·
           rintro ⟨n0, U0, T0, u16, u17, u62, u63, u64, u65, u66, u67, u68, u69, u70, u71, u72, u73, u74, u75, u76, u77, u78, u79, u80, u81, u82, u83, u84⟩ hφ
           (try dsimp only at hφ ⊢)
           obtain ⟨c_0, u1_0, u2_0, t1_0, t2_0, v1_0, v2_0⟩ := hφ
           refine wc_region ?_
           refine wl_val (.int .i64 1) rfl (fun w => run_nat (X := 0) (Y := 1) (Z := 1) rfl rfl rfl rfl (by omega) w) ?_
           simp only [Act.put, Xa, Xz, Xs]
           refine wl_val (.int .i64 1) rfl (fun _ => rfl) ?_
           simp only [Act.put, Xa, Xz, Xs]
           refine wl_nil ?_
           refine we_round ?_
           refine wr_round ?_
           refine wc_seq ?_
           refine wc_region ?_
           refine wl_val (.bool true) rfl (fun w => run_cmp rfl rfl rfl Try.underlying3 rfl w) ?_
           simp only [Act.put, Xa, Xz, Xs]
           refine wl_nil ?_
           refine we_then ?_
           refine wc_seq ?_
           refine wc_true rfl ?_
           refine wc_skip ?_
           refine we_then ?_
           refine wc_cut (fun (zz : Int × Int × Int × Value × Value × Value × Value × Value × Value × Value × Value × Value × Value × Value × Value × Value × Value × Value × Value × Value × Value × Value × Value × Value × Value × Value × Value × Value) => match zz with | ⟨n1, U1, T1, u16, u17, u62, u63, u64, u65, u66, u67, u68, u69, u70, u71, u72, u73, u74, u75, u76, u77, u78, u79, u80, u81, u82, u83, u84⟩ => ({ tmps := #[.agg #[.int .i64 p, .int .i64 q], .agg #[.bool true, .int .i64 x.lo, .int .i64 x.hi, .bool true, .int .i64 y.lo, .int .i64 y.hi, .bool true, .int .i64 z.lo, .int .i64 z.hi], .agg #[.bool t.f, .int .i64 t.lo, .int .i64 t.hi], .int .i64 v, .pointer (some ⟨g1, 0, none⟩), .pointer (some ⟨g2, 0, none⟩), .pointer (some ⟨g3, 0, none⟩), undef, .bool false, .pointer (some ⟨g8, 0, none⟩), .pointer (some ⟨g9, 0, none⟩), .bool true, .int .u64 U1, .int .u64 T1, .int .i64 n1, undef, u16, u17, undef, .bool true, .bool false, .tuple #[.agg #[.int .i64 x.lo, .int .i64 x.hi, .int .i64 y.lo, .int .i64 y.hi, .int .i64 z.lo, .int .i64 z.hi, .int .i64 t.lo, .int .i64 t.hi], .agg #[.int .i64 (bI true), .int .i64 (bI true), .int .i64 (bI true), .int .i64 (bI t.f)], .bool true], .agg #[.bool true, .int .i64 x.lo, .int .i64 x.hi, .bool true, .int .i64 y.lo, .int .i64 y.hi, .bool true, .int .i64 z.lo, .int .i64 z.hi], .agg #[.bool t.f, .int .i64 t.lo, .int .i64 t.hi], .tuple #[.agg #[.int .i64 x.lo, .int .i64 x.hi, .int .i64 y.lo, .int .i64 y.hi, .int .i64 z.lo, .int .i64 z.hi, .int .i64 t.lo, .int .i64 t.hi], .agg #[.int .i64 (bI true), .int .i64 (bI true), .int .i64 (bI true), .int .i64 (bI t.f)], .bool true], .agg #[.int .i64 x.lo, .int .i64 x.hi, .int .i64 y.lo, .int .i64 y.hi, .int .i64 z.lo, .int .i64 z.hi, .int .i64 t.lo, .int .i64 t.hi], .agg #[.int .i64 (bI true), .int .i64 (bI true), .int .i64 (bI true), .int .i64 (bI t.f)], .bool true, .bool true, .bool false, .bool false, .agg #[.int .i64 p, .int .i64 q], .bool true, .bool false, .bool false, .bool false, .agg #[.int .i64 p, .int .i64 q], .int .i64 v, .bool true, .bool false, .bool false, .bool false, .pointer (some ⟨g2, 0, none⟩), .pointer (some ⟨g2, 0, none⟩), .bool true, .bool false, .bool false, .bool false, .pointer (some ⟨g2, 3, none⟩), .pointer (some ⟨g2, 3, none⟩), .bool true, .bool false, .bool false, .bool false, .pointer (some ⟨g2, 6, none⟩), .pointer (some ⟨g2, 6, none⟩), .bool true, .bool false, .bool false, .agg #[.bool true, .int .i64 x.lo, .int .i64 x.hi, .bool true, .int .i64 y.lo, .int .i64 y.hi, .bool true, .int .i64 z.lo, .int .i64 z.hi], .int .i64 1, .bool true, u62, u63, u64, u65, u66, u67, u68, u69, u70, u71, u72, u73, u74, u75, u76, u77, u78, u79, u80, u81, u82, u83, u84, .int .i64 1, undef, undef, undef, undef, undef, undef, undef, undef, undef, undef, undef, undef, undef, undef, undef, undef, undef, undef, undef, undef, undef, undef, undef, undef, undef, undef, undef, undef, undef, undef], defers := [] } : Act)) (fun (zz : Int × Int × Int × Value × Value × Value × Value × Value × Value × Value × Value × Value × Value × Value × Value × Value × Value × Value × Value × Value × Value × Value × Value × Value × Value × Value × Value × Value) => match zz with | ⟨n1, U1, T1, u16, u17, u62, u63, u64, u65, u66, u67, u68, u69, u70, u71, u72, u73, u74, u75, u76, u77, u78, u79, u80, u81, u82, u83, u84⟩ => [⟨g9, #[.int .i64 (bI true), .int .i64 (bI true), .int .i64 (bI true), .int .i64 (bI t.f)], 30⟩, ⟨g8, #[.int .i64 x.lo, .int .i64 x.hi, .int .i64 y.lo, .int .i64 y.hi, .int .i64 z.lo, .int .i64 z.hi, .int .i64 t.lo, .int .i64 t.hi], 29⟩, ⟨g3, #[.bool t.f, .int .i64 t.lo, .int .i64 t.hi], 25⟩, ⟨g2, #[.bool true, .int .i64 x.lo, .int .i64 x.hi, .bool true, .int .i64 y.lo, .int .i64 y.hi, .bool true, .int .i64 z.lo, .int .i64 z.hi], 26⟩, ⟨g1, #[.int .i64 p, .int .i64 q], 23⟩]) (fun (zz : Int × Int × Int × Value × Value × Value × Value × Value × Value × Value × Value × Value × Value × Value × Value × Value × Value × Value × Value × Value × Value × Value × Value × Value × Value × Value × Value × Value) => match zz with | ⟨n1, U1, T1, u16, u17, u62, u63, u64, u65, u66, u67, u68, u69, u70, u71, u72, u73, u74, u75, u76, u77, u78, u79, u80, u81, u82, u83, u84⟩ => CntW n0 n1 U0 U1 T0 T1 y.lo y.hi v ∧ 0 ≤ U1 ∧ U1 ≤ 4611686018427387904 ∧ 0 ≤ T1 ∧ T1 ≤ 2305843009213693952 ∧ 0 ≤ n1 ∧ n1 ≤ 2) ?_ ?_
           ·
            skip
            refine wc_block ?_
            refine wc_seq ?_
            refine wc_region ?_
            refine wl_val (.agg #[.bool true, .int .i64 y.lo, .int .i64 y.hi]) rfl (fun w => run_index_row (k := 1) (z := 3) (ps := #[.bool true, .int .i64 y.lo, .int .i64 y.hi]) rfl rfl rfl rfl (by decide) Try.underlying26 Try.underlying25 rfl (by kernel_rfl) (by simp) w) ?_
            simp only [Act.put, Xa, Xz, Xs]
            refine wl_new 25 (#[.bool false, .int .i64 0, .int .i64 0]) rfl (fun _ => by go_simp) ?_
            intro g17
            simp only [Act.put, Xa, Xz, Xs]
            refine wl_store 0 25 (.tmp 16) (.tmp 62) (#[.bool true, .int .i64 y.lo, .int .i64 y.hi]) rfl rfl rfl rfl rfl (by kernel_rfl) rfl (by simp [Value.oneCell']) ?_
            simp only [Act.put, List.set_cons_zero]
            refine wl_nil ?_
            refine we_then ?_
            refine wc_seq ?_
            refine wc_seq ?_
            refine wc_region ?_
            refine wl_val (.pointer (some ⟨g17, 1, none⟩)) rfl (fun _ => by go_simp) ?_
            simp only [Act.put, Xa, Xz, Xs]
            refine wl_part 23 (.tmp 63) [.int .i64 y.lo, .int .i64 y.hi] (own_row 0 rfl) rfl rfl rfl rfl Try.underlying23 rfl (by kernel_rfl) ?_
            simp only [Act.put, Xa, Xz, Xs]
            refine wl_val (.int .i64 v) rfl (fun _ => rfl) ?_
            simp only [Act.put, Xa, Xz, Xs]
            refine wl_call 14 #[.agg #[.int .i64 y.lo, .int .i64 y.hi], .int .i64 v] (.bool (decide (y.lo ≤ v) && decide (v ≤ y.hi))) rfl (fun _ => by go_simp) (fun W => has_b y.lo y.hi v W) ?_
            simp only [Act.put, Xa, Xz, Xs]
            refine wl_val (.bool (!(decide (y.lo ≤ v) && decide (v ≤ y.hi)))) rfl (fun _ => by go_simp) ?_
            simp only [Act.put, Xa, Xz, Xs]
            refine wl_nil ?_
            refine we_then ?_
            cases h18 : (decide (y.lo ≤ v) && decide (v ≤ y.hi))
            ·
             skip
             have p18 : ¬ ((y.lo ≤ v) ∧ (v ≤ y.hi)) := by first | (simp; done) | (simp at h18; done) | simpa using h18
             refine wc_true rfl ?_
             refine wc_exit ?_
             refine we_then_exit ?_
             refine we_in_here ?_
             exact we_meet ⟨(n0), (U0), (T0), _, _, _, _, _, _, _, _, _, _, _, _, _, _, _, _, _, _, _, _, _, _, _, _, _⟩ ⟨.inr ⟨rfl, rfl, rfl, by omega⟩, by (try dsimp only); omega, by (try dsimp only); omega, by (try dsimp only); omega, by (try dsimp only); omega, by (try dsimp only); omega, by (try dsimp only); omega⟩ rfl (List.Sublist.cons _ (List.Sublist.cons_cons _ (List.Sublist.cons_cons _ (List.Sublist.cons_cons _ (List.Sublist.cons_cons _ (List.Sublist.cons_cons _ List.Sublist.slnil))))))
            ·
             skip
             have p18 : (y.lo ≤ v) ∧ (v ≤ y.hi) := by first | (simp; done) | (simp at h18; done) | simpa using h18
             refine wc_false rfl ?_
             refine wc_skip ?_
             refine we_then ?_
             refine wc_seq ?_
             refine wc_region ?_
             refine wl_val (.int .i64 n0) rfl (fun _ => rfl) ?_
             simp only [Act.put, Xa, Xz, Xs]
             refine wl_val (.int .i64 (n0 + 1)) rfl (fun w => run_arith (op := .add) rfl rfl rfl Try.underlying3 (congrArg some (i64_in (by omega) (by omega))) w) ?_
             simp only [Act.put, Xa, Xz, Xs]
             refine wl_val (.int .i64 (n0 + 1)) rfl (fun _ => rfl) ?_
             simp only [Act.put, Xa, Xz, Xs]
             refine wl_nil ?_
             refine we_then ?_
             refine wc_seq ?_
             refine wc_region ?_
             refine wl_val (.pointer (some ⟨g17, 1, none⟩)) rfl (fun _ => by go_simp) ?_
             simp only [Act.put, Xa, Xz, Xs]
             refine wl_val (.pointer (some ⟨g17, 2, none⟩)) rfl (fun _ => by go_simp) ?_
             simp only [Act.put, Xa, Xz, Xs]
             refine wl_cell 2 (.tmp 71) (.int .i64 y.hi) (own_row 0 rfl) rfl rfl rfl rfl Try.isAgg2 ?_
             simp only [Act.put, Xa, Xz, Xs]
             refine wl_val (.int .u64 (IntKind.u64.wrap y.hi)) rfl (fun w => Sw.run_conv rfl rfl Try.underlying2 Try.underlying45 rfl w) ?_
             simp only [Act.put, Xa, Xz, Xs]
             refine wl_val (.pointer (some ⟨g17, 1, none⟩)) rfl (fun _ => by go_simp) ?_
             simp only [Act.put, Xa, Xz, Xs]
             refine wl_val (.pointer (some ⟨g17, 1, none⟩)) rfl (fun _ => by go_simp) ?_
             simp only [Act.put, Xa, Xz, Xs]
             refine wl_cell 2 (.tmp 75) (.int .i64 y.lo) (own_row 0 rfl) rfl rfl rfl rfl Try.isAgg2 ?_
             simp only [Act.put, Xa, Xz, Xs]
             refine wl_val (.int .u64 (IntKind.u64.wrap y.lo)) rfl (fun w => Sw.run_conv rfl rfl Try.underlying2 Try.underlying45 rfl w) ?_
             simp only [Act.put, Xa, Xz, Xs]
             refine wl_val (.int .u64 (y.hi - y.lo)) rfl (fun w => run_arith (op := .sub) rfl rfl rfl Try.underlying45 (congrArg some (Spo.width_wrap ⟨by omega, by omega⟩ ⟨by omega, by omega⟩ k_y.1)) w) ?_
             simp only [Act.put, Xa, Xz, Xs]
             refine wl_val (.int .u64 (y.hi - y.lo)) rfl (fun _ => rfl) ?_
             simp only [Act.put, Xa, Xz, Xs]
             refine wl_nil ?_
             refine we_then ?_
             refine wc_seq ?_
             refine wc_region ?_
             refine wl_val (.int .u64 U0) rfl (fun _ => rfl) ?_
             simp only [Act.put, Xa, Xz, Xs]
             refine wl_val (.int .u64 (y.hi - y.lo)) rfl (fun _ => rfl) ?_
             simp only [Act.put, Xa, Xz, Xs]
             refine wl_val (.int .u64 (U0 + (y.hi - y.lo))) rfl (fun w => run_arith (op := .add) rfl rfl rfl Try.underlying45 (congrArg some (u64_in (by omega) (by omega))) w) ?_
             simp only [Act.put, Xa, Xz, Xs]
             refine wl_val (.int .u64 (U0 + (y.hi - y.lo))) rfl (fun _ => rfl) ?_
             simp only [Act.put, Xa, Xz, Xs]
             refine wl_nil ?_
             refine we_then ?_
             refine wc_region ?_
             refine wl_val (.int .u64 T0) rfl (fun _ => rfl) ?_
             simp only [Act.put, Xa, Xz, Xs]
             refine wl_val (.int .u64 (y.hi - y.lo)) rfl (fun _ => rfl) ?_
             simp only [Act.put, Xa, Xz, Xs]
             refine wl_val (.int .u64 (max T0 (y.hi - y.lo))) rfl (fun w => by first | exact run_max2 rfl rfl rfl rfl w | go_simp) ?_
             simp only [Act.put, Xa, Xz, Xs]
             refine wl_val (.int .u64 (max T0 (y.hi - y.lo))) rfl (fun _ => rfl) ?_
             simp only [Act.put, Xa, Xz, Xs]
             refine wl_nil ?_
             refine we_in ?_
             exact we_meet ⟨(n0 + 1), (U0 + (y.hi - y.lo)), (max T0 (y.hi - y.lo)), _, _, _, _, _, _, _, _, _, _, _, _, _, _, _, _, _, _, _, _, _, _, _, _, _⟩ ⟨.inl ⟨rfl, rfl, rfl, by omega, by omega⟩, by (try dsimp only); omega, by (try dsimp only); omega, by (try dsimp only); omega, by (try dsimp only); omega, by (try dsimp only); omega, by (try dsimp only); omega⟩ rfl (List.Sublist.cons _ (List.Sublist.cons_cons _ (List.Sublist.cons_cons _ (List.Sublist.cons_cons _ (List.Sublist.cons_cons _ (List.Sublist.cons_cons _ List.Sublist.slnil))))))
           ·
            rintro ⟨n1, U1, T1, u16, u17, u62, u63, u64, u65, u66, u67, u68, u69, u70, u71, u72, u73, u74, u75, u76, u77, u78, u79, u80, u81, u82, u83, u84⟩ hφ
            (try dsimp only at hφ ⊢)
            obtain ⟨c_1, u1_1, u2_1, t1_1, t2_1, v1_1, v2_1⟩ := hφ
            refine wc_region ?_
            refine wl_val (.int .i64 2) rfl (fun w => run_nat (X := 1) (Y := 1) (Z := 2) rfl rfl rfl rfl (by omega) w) ?_
            simp only [Act.put, Xa, Xz, Xs]
            refine wl_val (.int .i64 2) rfl (fun _ => rfl) ?_
            simp only [Act.put, Xa, Xz, Xs]
            refine wl_nil ?_
            refine we_round ?_
            refine wr_round ?_
            refine wc_seq ?_
            refine wc_region ?_
            refine wl_val (.bool true) rfl (fun w => run_cmp rfl rfl rfl Try.underlying3 rfl w) ?_
            simp only [Act.put, Xa, Xz, Xs]
            refine wl_nil ?_
            refine we_then ?_
            refine wc_seq ?_
            refine wc_true rfl ?_
            refine wc_skip ?_
            refine we_then ?_
            refine wc_cut (fun (zz : Int × Int × Int × Value × Value × Value × Value × Value × Value × Value × Value × Value × Value × Value × Value × Value × Value × Value × Value × Value × Value × Value × Value × Value × Value × Value × Value × Value) => match zz with | ⟨n2, U2, T2, u16, u17, u62, u63, u64, u65, u66, u67, u68, u69, u70, u71, u72, u73, u74, u75, u76, u77, u78, u79, u80, u81, u82, u83, u84⟩ => ({ tmps := #[.agg #[.int .i64 p, .int .i64 q], .agg #[.bool true, .int .i64 x.lo, .int .i64 x.hi, .bool true, .int .i64 y.lo, .int .i64 y.hi, .bool true, .int .i64 z.lo, .int .i64 z.hi], .agg #[.bool t.f, .int .i64 t.lo, .int .i64 t.hi], .int .i64 v, .pointer (some ⟨g1, 0, none⟩), .pointer (some ⟨g2, 0, none⟩), .pointer (some ⟨g3, 0, none⟩), undef, .bool false, .pointer (some ⟨g8, 0, none⟩), .pointer (some ⟨g9, 0, none⟩), .bool true, .int .u64 U2, .int .u64 T2, .int .i64 n2, undef, u16, u17, undef, .bool true, .bool false, .tuple #[.agg #[.int .i64 x.lo, .int .i64 x.hi, .int .i64 y.lo, .int .i64 y.hi, .int .i64 z.lo, .int .i64 z.hi, .int .i64 t.lo, .int .i64 t.hi], .agg #[.int .i64 (bI true), .int .i64 (bI true), .int .i64 (bI true), .int .i64 (bI t.f)], .bool true], .agg #[.bool true, .int .i64 x.lo, .int .i64 x.hi, .bool true, .int .i64 y.lo, .int .i64 y.hi, .bool true, .int .i64 z.lo, .int .i64 z.hi], .agg #[.bool t.f, .int .i64 t.lo, .int .i64 t.hi], .tuple #[.agg #[.int .i64 x.lo, .int .i64 x.hi, .int .i64 y.lo, .int .i64 y.hi, .int .i64 z.lo, .int .i64 z.hi, .int .i64 t.lo, .int .i64 t.hi], .agg #[.int .i64 (bI true), .int .i64 (bI true), .int .i64 (bI true), .int .i64 (bI t.f)], .bool true], .agg #[.int .i64 x.lo, .int .i64 x.hi, .int .i64 y.lo, .int .i64 y.hi, .int .i64 z.lo, .int .i64 z.hi, .int .i64 t.lo, .int .i64 t.hi], .agg #[.int .i64 (bI true), .int .i64 (bI true), .int .i64 (bI true), .int .i64 (bI t.f)], .bool true, .bool true, .bool false, .bool false, .agg #[.int .i64 p, .int .i64 q], .bool true, .bool false, .bool false, .bool false, .agg #[.int .i64 p, .int .i64 q], .int .i64 v, .bool true, .bool false, .bool false, .bool false, .pointer (some ⟨g2, 0, none⟩), .pointer (some ⟨g2, 0, none⟩), .bool true, .bool false, .bool false, .bool false, .pointer (some ⟨g2, 3, none⟩), .pointer (some ⟨g2, 3, none⟩), .bool true, .bool false, .bool false, .bool false, .pointer (some ⟨g2, 6, none⟩), .pointer (some ⟨g2, 6, none⟩), .bool true, .bool false, .bool false, .agg #[.bool true, .int .i64 x.lo, .int .i64 x.hi, .bool true, .int .i64 y.lo, .int .i64 y.hi, .bool true, .int .i64 z.lo, .int .i64 z.hi], .int .i64 2, .bool true, u62, u63, u64, u65, u66, u67, u68, u69, u70, u71, u72, u73, u74, u75, u76, u77, u78, u79, u80, u81, u82, u83, u84, .int .i64 2, undef, undef, undef, undef, undef, undef, undef, undef, undef, undef, undef, undef, undef, undef, undef, undef, undef, undef, undef, undef, undef, undef, undef, undef, undef, undef, undef, undef, undef, undef], defers := [] } : Act)) (fun (zz : Int × Int × Int × Value × Value × Value × Value × Value × Value × Value × Value × Value × Value × Value × Value × Value × Value × Value × Value × Value × Value × Value × Value × Value × Value × Value × Value × Value) => match zz with | ⟨n2, U2, T2, u16, u17, u62, u63, u64, u65, u66, u67, u68, u69, u70, u71, u72, u73, u74, u75, u76, u77, u78, u79, u80, u81, u82, u83, u84⟩ => [⟨g9, #[.int .i64 (bI true), .int .i64 (bI true), .int .i64 (bI true), .int .i64 (bI t.f)], 30⟩, ⟨g8, #[.int .i64 x.lo, .int .i64 x.hi, .int .i64 y.lo, .int .i64 y.hi, .int .i64 z.lo, .int .i64 z.hi, .int .i64 t.lo, .int .i64 t.hi], 29⟩, ⟨g3, #[.bool t.f, .int .i64 t.lo, .int .i64 t.hi], 25⟩, ⟨g2, #[.bool true, .int .i64 x.lo, .int .i64 x.hi, .bool true, .int .i64 y.lo, .int .i64 y.hi, .bool true, .int .i64 z.lo, .int .i64 z.hi], 26⟩, ⟨g1, #[.int .i64 p, .int .i64 q], 23⟩]) (fun (zz : Int × Int × Int × Value × Value × Value × Value × Value × Value × Value × Value × Value × Value × Value × Value × Value × Value × Value × Value × Value × Value × Value × Value × Value × Value × Value × Value × Value) => match zz with | ⟨n2, U2, T2, u16, u17, u62, u63, u64, u65, u66, u67, u68, u69, u70, u71, u72, u73, u74, u75, u76, u77, u78, u79, u80, u81, u82, u83, u84⟩ => CntW n1 n2 U1 U2 T1 T2 z.lo z.hi v ∧ 0 ≤ U2 ∧ U2 ≤ 6917529027641081856 ∧ 0 ≤ T2 ∧ T2 ≤ 2305843009213693952 ∧ 0 ≤ n2 ∧ n2 ≤ 3) ?_ ?_
            ·
             skip
             refine wc_block ?_
             refine wc_seq ?_
             refine wc_region ?_
             refine wl_val (.agg #[.bool true, .int .i64 z.lo, .int .i64 z.hi]) rfl (fun w => run_index_row (k := 2) (z := 3) (ps := #[.bool true, .int .i64 z.lo, .int .i64 z.hi]) rfl rfl rfl rfl (by decide) Try.underlying26 Try.underlying25 rfl (by kernel_rfl) (by simp) w) ?_
             simp only [Act.put, Xa, Xz, Xs]
             refine wl_new 25 (#[.bool false, .int .i64 0, .int .i64 0]) rfl (fun _ => by go_simp) ?_
             intro g19
             simp only [Act.put, Xa, Xz, Xs]
             refine wl_store 0 25 (.tmp 16) (.tmp 62) (#[.bool true, .int .i64 z.lo, .int .i64 z.hi]) rfl rfl rfl rfl rfl (by kernel_rfl) rfl (by simp [Value.oneCell']) ?_
             simp only [Act.put, List.set_cons_zero]
             refine wl_nil ?_
             refine we_then ?_
             refine wc_seq ?_
             refine wc_seq ?_
             refine wc_region ?_
             refine wl_val (.pointer (some ⟨g19, 1, none⟩)) rfl (fun _ => by go_simp) ?_
             simp only [Act.put, Xa, Xz, Xs]
             refine wl_part 23 (.tmp 63) [.int .i64 z.lo, .int .i64 z.hi] (own_row 0 rfl) rfl rfl rfl rfl Try.underlying23 rfl (by kernel_rfl) ?_
             simp only [Act.put, Xa, Xz, Xs]
             refine wl_val (.int .i64 v) rfl (fun _ => rfl) ?_
             simp only [Act.put, Xa, Xz, Xs]
             refine wl_call 14 #[.agg #[.int .i64 z.lo, .int .i64 z.hi], .int .i64 v] (.bool (decide (z.lo ≤ v) && decide (v ≤ z.hi))) rfl (fun _ => by go_simp) (fun W => has_b z.lo z.hi v W) ?_
             simp only [Act.put, Xa, Xz, Xs]
             refine wl_val (.bool (!(decide (z.lo ≤ v) && decide (v ≤ z.hi)))) rfl (fun _ => by go_simp) ?_
             simp only [Act.put, Xa, Xz, Xs]
             refine wl_nil ?_
             refine we_then ?_
             cases h20 : (decide (z.lo ≤ v) && decide (v ≤ z.hi))
             ·
              skip
              have p20 : ¬ ((z.lo ≤ v) ∧ (v ≤ z.hi)) := by first | (simp; done) | (simp at h20; done) | simpa using h20
              refine wc_true rfl ?_
              refine wc_exit ?_
              refine we_then_exit ?_
              refine we_in_here ?_
              exact we_meet ⟨(n1), (U1), (T1), _, _, _, _, _, _, _, _, _, _, _, _, _, _, _, _, _, _, _, _, _, _, _, _, _⟩ ⟨.inr ⟨rfl, rfl, rfl, by omega⟩, by (try dsimp only); omega, by (try dsimp only); omega, by (try dsimp only); omega, by (try dsimp only); omega, by (try dsimp only); omega, by (try dsimp only); omega⟩ rfl (List.Sublist.cons _ (List.Sublist.cons_cons _ (List.Sublist.cons_cons _ (List.Sublist.cons_cons _ (List.Sublist.cons_cons _ (List.Sublist.cons_cons _ List.Sublist.slnil))))))
             ·
              skip
              have p20 : (z.lo ≤ v) ∧ (v ≤ z.hi) := by first | (simp; done) | (simp at h20; done) | simpa using h20
              refine wc_false rfl ?_
              refine wc_skip ?_
              refine we_then ?_
              refine wc_seq ?_
              refine wc_region ?_
              refine wl_val (.int .i64 n1) rfl (fun _ => rfl) ?_
              simp only [Act.put, Xa, Xz, Xs]
              refine wl_val (.int .i64 (n1 + 1)) rfl (fun w => run_arith (op := .add) rfl rfl rfl Try.underlying3 (congrArg some (i64_in (by omega) (by omega))) w) ?_
              simp only [Act.put, Xa, Xz, Xs]
              refine wl_val (.int .i64 (n1 + 1)) rfl (fun _ => rfl) ?_
              simp only [Act.put, Xa, Xz, Xs]
              refine wl_nil ?_
              refine we_then ?_
              refine wc_seq ?_
              refine wc_region ?_
              refine wl_val (.pointer (some ⟨g19, 1, none⟩)) rfl (fun _ => by go_simp) ?_
              simp only [Act.put, Xa, Xz, Xs]
              refine wl_val (.pointer (some ⟨g19, 2, none⟩)) rfl (fun _ => by go_simp) ?_
              simp only [Act.put, Xa, Xz, Xs]
              refine wl_cell 2 (.tmp 71) (.int .i64 z.hi) (own_row 0 rfl) rfl rfl rfl rfl Try.isAgg2 ?_
              simp only [Act.put, Xa, Xz, Xs]
              refine wl_val (.int .u64 (IntKind.u64.wrap z.hi)) rfl (fun w => Sw.run_conv rfl rfl Try.underlying2 Try.underlying45 rfl w) ?_
              simp only [Act.put, Xa, Xz, Xs]
              refine wl_val (.pointer (some ⟨g19, 1, none⟩)) rfl (fun _ => by go_simp) ?_
              simp only [Act.put, Xa, Xz, Xs]
              refine wl_val (.pointer (some ⟨g19, 1, none⟩)) rfl (fun _ => by go_simp) ?_
              simp only [Act.put, Xa, Xz, Xs]
              refine wl_cell 2 (.tmp 75) (.int .i64 z.lo) (own_row 0 rfl) rfl rfl rfl rfl Try.isAgg2 ?_
              simp only [Act.put, Xa, Xz, Xs]
              refine wl_val (.int .u64 (IntKind.u64.wrap z.lo)) rfl (fun w => Sw.run_conv rfl rfl Try.underlying2 Try.underlying45 rfl w) ?_
              simp only [Act.put, Xa, Xz, Xs]
              refine wl_val (.int .u64 (z.hi - z.lo)) rfl (fun w => run_arith (op := .sub) rfl rfl rfl Try.underlying45 (congrArg some (Spo.width_wrap ⟨by omega, by omega⟩ ⟨by omega, by omega⟩ k_z.1)) w) ?_
              simp only [Act.put, Xa, Xz, Xs]
              refine wl_val (.int .u64 (z.hi - z.lo)) rfl (fun _ => rfl) ?_
              simp only [Act.put, Xa, Xz, Xs]
              refine wl_nil ?_
              refine we_then ?_
              refine wc_seq ?_
              refine wc_region ?_
              refine wl_val (.int .u64 U1) rfl (fun _ => rfl) ?_
              simp only [Act.put, Xa, Xz, Xs]
              refine wl_val (.int .u64 (z.hi - z.lo)) rfl (fun _ => rfl) ?_
              simp only [Act.put, Xa, Xz, Xs]
              refine wl_val (.int .u64 (U1 + (z.hi - z.lo))) rfl (fun w => run_arith (op := .add) rfl rfl rfl Try.underlying45 (congrArg some (u64_in (by omega) (by omega))) w) ?_
              simp only [Act.put, Xa, Xz, Xs]
              refine wl_val (.int .u64 (U1 + (z.hi - z.lo))) rfl (fun _ => rfl) ?_
              simp only [Act.put, Xa, Xz, Xs]
              refine wl_nil ?_
              refine we_then ?_
              refine wc_region ?_
              refine wl_val (.int .u64 T1) rfl (fun _ => rfl) ?_
              simp only [Act.put, Xa, Xz, Xs]
              refine wl_val (.int .u64 (z.hi - z.lo)) rfl (fun _ => rfl) ?_
              simp only [Act.put, Xa, Xz, Xs]
              refine wl_val (.int .u64 (max T1 (z.hi - z.lo))) rfl (fun w => by first | exact run_max2 rfl rfl rfl rfl w | go_simp) ?_
              simp only [Act.put, Xa, Xz, Xs]
              refine wl_val (.int .u64 (max T1 (z.hi - z.lo))) rfl (fun _ => rfl) ?_
              simp only [Act.put, Xa, Xz, Xs]
              refine wl_nil ?_
              refine we_in ?_
              exact we_meet ⟨(n1 + 1), (U1 + (z.hi - z.lo)), (max T1 (z.hi - z.lo)), _, _, _, _, _, _, _, _, _, _, _, _, _, _, _, _, _, _, _, _, _, _, _, _, _⟩ ⟨.inl ⟨rfl, rfl, rfl, by omega, by omega⟩, by (try dsimp only); omega, by (try dsimp only); omega, by (try dsimp only); omega, by (try dsimp only); omega, by (try dsimp only); omega, by (try dsimp only); omega⟩ rfl (List.Sublist.cons _ (List.Sublist.cons_cons _ (List.Sublist.cons_cons _ (List.Sublist.cons_cons _ (List.Sublist.cons_cons _ (List.Sublist.cons_cons _ List.Sublist.slnil))))))
            ·
             rintro ⟨n2, U2, T2, u16, u17, u62, u63, u64, u65, u66, u67, u68, u69, u70, u71, u72, u73, u74, u75, u76, u77, u78, u79, u80, u81, u82, u83, u84⟩ hφ
             (try dsimp only at hφ ⊢)
             obtain ⟨c_2, u1_2, u2_2, t1_2, t2_2, v1_2, v2_2⟩ := hφ
             refine wc_region ?_
             refine wl_val (.int .i64 3) rfl (fun w => run_nat (X := 2) (Y := 1) (Z := 3) rfl rfl rfl rfl (by omega) w) ?_
             simp only [Act.put, Xa, Xz, Xs]
             refine wl_val (.int .i64 3) rfl (fun _ => rfl) ?_
             simp only [Act.put, Xa, Xz, Xs]
             refine wl_nil ?_
             refine we_round ?_
             refine wr_round ?_
             refine wc_seq ?_
             refine wc_region ?_
             refine wl_val (.bool false) rfl (fun w => run_cmp rfl rfl rfl Try.underlying3 rfl w) ?_
             simp only [Act.put, Xa, Xz, Xs]
             refine wl_nil ?_
             refine we_then ?_
             refine wc_seq ?_
             refine wc_false rfl ?_
             refine wc_exit ?_
             refine we_then_exit ?_
             refine we_then_exit ?_
             refine we_in_here ?_
             refine we_then ?_
             refine wc_seq ?_
             refine wc_seq ?_
             refine wc_region ?_
             refine wl_val (.int .i64 n2) rfl (fun _ => rfl) ?_
             simp only [Act.put, Xa, Xz, Xs]
             refine wl_val (.bool (decide (n2 < 2))) rfl (fun w => run_cmp rfl rfl rfl Try.underlying3 rfl w) ?_
             simp only [Act.put, Xa, Xz, Xs]
             refine wl_val (.bool (decide (n2 < 2))) rfl (fun _ => rfl) ?_
             simp only [Act.put, Xa, Xz, Xs]
             cases h21 : (decide (n2 < 2))
             ·
              skip
              have p21 : ¬ (n2 < 2) := of_decide_eq_false h21
              refine wl_val (.int .i64 n2) rfl (fun _ => rfl) ?_
              simp only [Act.put, Xa, Xz, Xs]
              refine wl_val (.bool (n2 == 2)) rfl (fun w => run_cmp rfl rfl rfl Try.underlying3 rfl w) ?_
              simp only [Act.put, Xa, Xz, Xs]
              refine wl_val (.bool (n2 == 2)) rfl (fun _ => rfl) ?_
              simp only [Act.put, Xa, Xz, Xs]
              cases h22 : (n2 == 2)
              ·
               skip
               have p22 : ¬ (n2 = 2) := by first | (simp; done) | (simp at h22; done) | simpa using h22
               refine wl_skip rfl ?_
               simp only [Act.put, Xa, Xz, Xs]
               refine wl_skip rfl ?_
               simp only [Act.put, Xa, Xz, Xs]
               refine wl_val (.bool false) rfl (fun _ => rfl) ?_
               simp only [Act.put, Xa, Xz, Xs]
               refine wl_val (.bool false) rfl (fun _ => rfl) ?_
               simp only [Act.put, Xa, Xz, Xs]
               refine wl_nil ?_
               refine we_then ?_
               refine wc_false rfl ?_
               refine wc_skip ?_
               refine we_then ?_
               refine wc_seq ?_
               have hc0 := c_0
               have hc1 := c_1
               have hc2 := c_2
               unfold CntW at hc0 hc1 hc2
               have e0 := width_fin (a := t) (p := p) (q := q) ⟨by omega, by omega⟩ h12 h13 h14 c_0 c_1 c_2 (.inl (by omega))
               clear hc0 hc1 hc2
               have e1 := spd_in hp.1 x y z t
               refine wc_region ?_
               refine wl_load 23 (.tmp 4) (own_row 4 rfl) rfl rfl rfl Try.underlying23 rfl (by kernel_rfl) ?_
               simp only [Act.put, Xa, Xz, Xs]
               refine wl_load 26 (.tmp 5) (own_row 3 rfl) rfl rfl rfl Try.underlying26 rfl (by kernel_rfl) ?_
               simp only [Act.put, Xa, Xz, Xs]
               refine wl_load 25 (.tmp 6) (own_row 2 rfl) rfl rfl rfl Try.underlying25 rfl (by kernel_rfl) ?_
               simp only [Act.put, Xa, Xz, Xs]
               refine wl_call 12 #[.agg #[.int .i64 p, .int .i64 q], .agg #[.bool true, .int .i64 x.lo, .int .i64 x.hi, .bool true, .int .i64 y.lo, .int .i64 y.hi, .bool true, .int .i64 z.lo, .int .i64 z.hi], .agg #[.bool t.f, .int .i64 t.lo, .int .i64 t.hi]] (.agg #[.int .i64 ((spd p q x y z t).1), .int .i64 ((spd p q x y z t).2.1), .int .i64 (nF x y z : Int), .bool (clean x y z), .bool ((spd p q x y z t).2.2), .int .i64 (slips x y z x), .int .i64 (slips x y z y)]) rfl (fun _ => by go_simp) (fun W => by have h9 := Fzz.fuse_any p q x y z t W hp g_x g_y g_z g_t; rwa [h12, h13, h14] at h9) ?_
               simp only [Act.put, Xa, Xz, Xs]
               refine wl_new 36 (#[.int .i64 0, .int .i64 0, .int .i64 0, .bool false, .bool false, .int .i64 0, .int .i64 0]) rfl (fun _ => by go_simp) ?_
               intro g23
               simp only [Act.put, Xa, Xz, Xs]
               refine wl_store 0 36 (.tmp 18) (.tmp 99) (#[.int .i64 ((spd p q x y z t).1), .int .i64 ((spd p q x y z t).2.1), .int .i64 (nF x y z : Int), .bool (clean x y z), .bool ((spd p q x y z t).2.2), .int .i64 (slips x y z x), .int .i64 (slips x y z y)]) rfl rfl rfl rfl rfl (by kernel_rfl) rfl (by simp [Value.oneCell']) ?_
               simp only [Act.put, List.set_cons_zero]
               refine wl_nil ?_
               refine we_then ?_
               refine wc_seq ?_
               refine wc_seq ?_
               refine wc_region ?_
               refine wl_val (.int .i64 n2) rfl (fun _ => rfl) ?_
               simp only [Act.put, Xa, Xz, Xs]
               refine wl_val (.bool (n2 == 3)) rfl (fun w => run_cmp rfl rfl rfl Try.underlying3 rfl w) ?_
               simp only [Act.put, Xa, Xz, Xs]
               refine wl_nil ?_
               refine we_then ?_
               cases h24 : (n2 == 3)
               ·
                skip
                have p24 : ¬ (n2 = 3) := by first | (simp; done) | (simp at h24; done) | simpa using h24
                refine wc_false rfl ?_
                refine wc_skip ?_
                refine we_then ?_
                refine wc_seq ?_
                have e2 := e0.2 (by omega)
                refine wc_region ?_
                refine wl_val (.pointer (some ⟨g23, 0, none⟩)) rfl (fun _ => by go_simp) ?_
                simp only [Act.put, Xa, Xz, Xs]
                refine wl_part 23 (.tmp 111) [.int .i64 ((spd p q x y z t).1), .int .i64 ((spd p q x y z t).2.1)] (own_row 0 rfl) rfl rfl rfl rfl Try.underlying23 rfl (by kernel_rfl) ?_
                simp only [Act.put, Xa, Xz, Xs]
                refine wl_call 16 #[.agg #[.int .i64 ((spd p q x y z t).1), .int .i64 ((spd p q x y z t).2.1)]] (.int .u64 (((spd p q x y z t).2.1) - ((spd p q x y z t).1))) rfl (fun _ => by go_simp) (fun W => Spo.width_any ((spd p q x y z t).1) ((spd p q x y z t).2.1) W ⟨by omega, by omega⟩ ⟨by omega, by omega⟩ e1.2.1) ?_
                simp only [Act.put, Xa, Xz, Xs]
                refine wl_val (.int .u64 U2) rfl (fun _ => rfl) ?_
                simp only [Act.put, Xa, Xz, Xs]
                refine wl_val (.bool (decide (((spd p q x y z t).2.1) - ((spd p q x y z t).1) ≤ U2))) rfl (fun w => run_cmp rfl rfl rfl Try.underlying45 rfl w) ?_
                simp only [Act.put, Xa, Xz, Xs]
                refine wl_val (.bool (decide (((spd p q x y z t).2.1) - ((spd p q x y z t).1) ≤ U2))) rfl (fun _ => rfl) ?_
                simp only [Act.put, Xa, Xz, Xs]
                refine wl_nil ?_
                refine we_then ?_
                refine wc_ret ?_
                refine we_ret1 (.bool (decide (((spd p q x y z t).2.1) - ((spd p q x y z t).1) ≤ U2))) rfl rfl rfl (fun w1 hE => ?_)
                exact ⟨by rw [show (decide (((spd p q x y z t).2.1) - ((spd p q x y z t).1) ≤ U2)) = true from decide_eq_true (by omega)], hE.below⟩
               ·
                skip
                have p24 : n2 = 3 := by first | (simp; done) | (simp at h24; done) | simpa using h24
                refine wc_true rfl ?_
                refine wc_seq ?_
                have e2 := e0.1 (by omega)
                refine wc_region ?_
                refine wl_val (.pointer (some ⟨g23, 3, none⟩)) rfl (fun _ => by go_simp) ?_
                simp only [Act.put, Xa, Xz, Xs]
                refine wl_cell 4 (.tmp 102) (.bool (clean x y z)) (own_row 0 rfl) rfl rfl rfl rfl Try.isAgg4 ?_
                simp only [Act.put, Xa, Xz, Xs]
                refine wl_val (.bool (clean x y z)) rfl (fun _ => rfl) ?_
                simp only [Act.put, Xa, Xz, Xs]
                cases h25 : (clean x y z)
                ·
                 skip
                 refine wl_skip rfl ?_
                 simp only [Act.put, Xa, Xz, Xs]
                 refine wl_skip rfl ?_
                 simp only [Act.put, Xa, Xz, Xs]
                 refine wl_skip rfl ?_
                 simp only [Act.put, Xa, Xz, Xs]
                 refine wl_skip rfl ?_
                 simp only [Act.put, Xa, Xz, Xs]
                 refine wl_skip rfl ?_
                 simp only [Act.put, Xa, Xz, Xs]
                 refine wl_val (.bool false) rfl (fun _ => rfl) ?_
                 simp only [Act.put, Xa, Xz, Xs]
                 refine wl_val (.bool false) rfl (fun _ => rfl) ?_
                 simp only [Act.put, Xa, Xz, Xs]
                 refine wl_nil ?_
                 refine we_then ?_
                 refine wc_ret ?_
                 refine we_then_ret ?_
                 refine we_ret1 (.bool false) rfl rfl rfl (fun w1 hE => ?_)
                 exact (by exfalso; first | omega | (have e3 := e2.1; simp_all))
                ·
                 skip
                 refine wl_val (.pointer (some ⟨g23, 0, none⟩)) rfl (fun _ => by go_simp) ?_
                 simp only [Act.put, Xa, Xz, Xs]
                 refine wl_part 23 (.tmp 105) [.int .i64 ((spd p q x y z t).1), .int .i64 ((spd p q x y z t).2.1)] (own_row 0 rfl) rfl rfl rfl rfl Try.underlying23 rfl (by kernel_rfl) ?_
                 simp only [Act.put, Xa, Xz, Xs]
                 refine wl_call 16 #[.agg #[.int .i64 ((spd p q x y z t).1), .int .i64 ((spd p q x y z t).2.1)]] (.int .u64 (((spd p q x y z t).2.1) - ((spd p q x y z t).1))) rfl (fun _ => by go_simp) (fun W => Spo.width_any ((spd p q x y z t).1) ((spd p q x y z t).2.1) W ⟨by omega, by omega⟩ ⟨by omega, by omega⟩ e1.2.1) ?_
                 simp only [Act.put, Xa, Xz, Xs]
                 refine wl_val (.int .u64 T2) rfl (fun _ => rfl) ?_
                 simp only [Act.put, Xa, Xz, Xs]
                 refine wl_val (.bool (decide (((spd p q x y z t).2.1) - ((spd p q x y z t).1) ≤ T2))) rfl (fun w => run_cmp rfl rfl rfl Try.underlying45 rfl w) ?_
                 simp only [Act.put, Xa, Xz, Xs]
                 refine wl_val (.bool (decide (((spd p q x y z t).2.1) - ((spd p q x y z t).1) ≤ T2))) rfl (fun _ => rfl) ?_
                 simp only [Act.put, Xa, Xz, Xs]
                 refine wl_val (.bool (decide (((spd p q x y z t).2.1) - ((spd p q x y z t).1) ≤ T2))) rfl (fun _ => rfl) ?_
                 simp only [Act.put, Xa, Xz, Xs]
                 refine wl_nil ?_
                 refine we_then ?_
                 refine wc_ret ?_
                 refine we_then_ret ?_
                 refine we_ret1 (.bool (decide (((spd p q x y z t).2.1) - ((spd p q x y z t).1) ≤ T2))) rfl rfl rfl (fun w1 hE => ?_)
                 exact ⟨by rw [show (decide (((spd p q x y z t).2.1) - ((spd p q x y z t).1) ≤ T2)) = true from decide_eq_true (by omega)], hE.below⟩
              ·
               skip
               have p22 : n2 = 2 := by first | (simp; done) | (simp at h22; done) | simpa using h22
               refine wl_load 26 (.tmp 5) (own_row 3 rfl) rfl rfl rfl Try.underlying26 rfl (by kernel_rfl) ?_
               simp only [Act.put, Xa, Xz, Xs]
               refine wl_call 15 #[.agg #[.bool true, .int .i64 x.lo, .int .i64 x.hi, .bool true, .int .i64 y.lo, .int .i64 y.hi, .bool true, .int .i64 z.lo, .int .i64 z.hi]] (.bool (agree3 x y z)) rfl (fun _ => by go_simp) (fun W => by have h9 := agree_any x y z W; rwa [h12, h13, h14] at h9) ?_
               simp only [Act.put, Xa, Xz, Xs]
               refine wl_val (.bool (agree3 x y z)) rfl (fun _ => rfl) ?_
               simp only [Act.put, Xa, Xz, Xs]
               refine wl_val (.bool (agree3 x y z)) rfl (fun _ => rfl) ?_
               simp only [Act.put, Xa, Xz, Xs]
               refine wl_nil ?_
               refine we_then ?_
               cases h26 : (agree3 x y z)
               ·
                skip
                refine wc_false rfl ?_
                refine wc_skip ?_
                refine we_then ?_
                refine wc_seq ?_
                have hc0 := c_0
                have hc1 := c_1
                have hc2 := c_2
                unfold CntW at hc0 hc1 hc2
                have e0 := width_fin (a := t) (p := p) (q := q) ⟨by omega, by omega⟩ h12 h13 h14 c_0 c_1 c_2 (.inr ⟨by omega, h26⟩)
                clear hc0 hc1 hc2
                have e1 := spd_in hp.1 x y z t
                refine wc_region ?_
                refine wl_load 23 (.tmp 4) (own_row 4 rfl) rfl rfl rfl Try.underlying23 rfl (by kernel_rfl) ?_
                simp only [Act.put, Xa, Xz, Xs]
                refine wl_load 26 (.tmp 5) (own_row 3 rfl) rfl rfl rfl Try.underlying26 rfl (by kernel_rfl) ?_
                simp only [Act.put, Xa, Xz, Xs]
                refine wl_load 25 (.tmp 6) (own_row 2 rfl) rfl rfl rfl Try.underlying25 rfl (by kernel_rfl) ?_
                simp only [Act.put, Xa, Xz, Xs]
                refine wl_call 12 #[.agg #[.int .i64 p, .int .i64 q], .agg #[.bool true, .int .i64 x.lo, .int .i64 x.hi, .bool true, .int .i64 y.lo, .int .i64 y.hi, .bool true, .int .i64 z.lo, .int .i64 z.hi], .agg #[.bool t.f, .int .i64 t.lo, .int .i64 t.hi]] (.agg #[.int .i64 ((spd p q x y z t).1), .int .i64 ((spd p q x y z t).2.1), .int .i64 (nF x y z : Int), .bool (clean x y z), .bool ((spd p q x y z t).2.2), .int .i64 (slips x y z x), .int .i64 (slips x y z y)]) rfl (fun _ => by go_simp) (fun W => by have h9 := Fzz.fuse_any p q x y z t W hp g_x g_y g_z g_t; rwa [h12, h13, h14] at h9) ?_
                simp only [Act.put, Xa, Xz, Xs]
                refine wl_new 36 (#[.int .i64 0, .int .i64 0, .int .i64 0, .bool false, .bool false, .int .i64 0, .int .i64 0]) rfl (fun _ => by go_simp) ?_
                intro g27
                simp only [Act.put, Xa, Xz, Xs]
                refine wl_store 0 36 (.tmp 18) (.tmp 99) (#[.int .i64 ((spd p q x y z t).1), .int .i64 ((spd p q x y z t).2.1), .int .i64 (nF x y z : Int), .bool (clean x y z), .bool ((spd p q x y z t).2.2), .int .i64 (slips x y z x), .int .i64 (slips x y z y)]) rfl rfl rfl rfl rfl (by kernel_rfl) rfl (by simp [Value.oneCell']) ?_
                simp only [Act.put, List.set_cons_zero]
                refine wl_nil ?_
                refine we_then ?_
                refine wc_seq ?_
                refine wc_seq ?_
                refine wc_region ?_
                refine wl_val (.int .i64 n2) rfl (fun _ => rfl) ?_
                simp only [Act.put, Xa, Xz, Xs]
                refine wl_val (.bool (n2 == 3)) rfl (fun w => run_cmp rfl rfl rfl Try.underlying3 rfl w) ?_
                simp only [Act.put, Xa, Xz, Xs]
                refine wl_nil ?_
                refine we_then ?_
                cases h28 : (n2 == 3)
                ·
                 skip
                 have p28 : ¬ (n2 = 3) := by first | (simp; done) | (simp at h28; done) | simpa using h28
                 refine wc_false rfl ?_
                 refine wc_skip ?_
                 refine we_then ?_
                 refine wc_seq ?_
                 have e2 := e0.2 (by omega)
                 refine wc_region ?_
                 refine wl_val (.pointer (some ⟨g27, 0, none⟩)) rfl (fun _ => by go_simp) ?_
                 simp only [Act.put, Xa, Xz, Xs]
                 refine wl_part 23 (.tmp 111) [.int .i64 ((spd p q x y z t).1), .int .i64 ((spd p q x y z t).2.1)] (own_row 0 rfl) rfl rfl rfl rfl Try.underlying23 rfl (by kernel_rfl) ?_
                 simp only [Act.put, Xa, Xz, Xs]
                 refine wl_call 16 #[.agg #[.int .i64 ((spd p q x y z t).1), .int .i64 ((spd p q x y z t).2.1)]] (.int .u64 (((spd p q x y z t).2.1) - ((spd p q x y z t).1))) rfl (fun _ => by go_simp) (fun W => Spo.width_any ((spd p q x y z t).1) ((spd p q x y z t).2.1) W ⟨by omega, by omega⟩ ⟨by omega, by omega⟩ e1.2.1) ?_
                 simp only [Act.put, Xa, Xz, Xs]
                 refine wl_val (.int .u64 U2) rfl (fun _ => rfl) ?_
                 simp only [Act.put, Xa, Xz, Xs]
                 refine wl_val (.bool (decide (((spd p q x y z t).2.1) - ((spd p q x y z t).1) ≤ U2))) rfl (fun w => run_cmp rfl rfl rfl Try.underlying45 rfl w) ?_
                 simp only [Act.put, Xa, Xz, Xs]
                 refine wl_val (.bool (decide (((spd p q x y z t).2.1) - ((spd p q x y z t).1) ≤ U2))) rfl (fun _ => rfl) ?_
                 simp only [Act.put, Xa, Xz, Xs]
                 refine wl_nil ?_
                 refine we_then ?_
                 refine wc_ret ?_
                 refine we_ret1 (.bool (decide (((spd p q x y z t).2.1) - ((spd p q x y z t).1) ≤ U2))) rfl rfl rfl (fun w1 hE => ?_)
                 exact ⟨by rw [show (decide (((spd p q x y z t).2.1) - ((spd p q x y z t).1) ≤ U2)) = true from decide_eq_true (by omega)], hE.below⟩
                ·
                 skip
                 have p28 : n2 = 3 := by first | (simp; done) | (simp at h28; done) | simpa using h28
                 refine wc_true rfl ?_
                 refine wc_seq ?_
                 have e2 := e0.1 (by omega)
                 refine wc_region ?_
                 refine wl_val (.pointer (some ⟨g27, 3, none⟩)) rfl (fun _ => by go_simp) ?_
                 simp only [Act.put, Xa, Xz, Xs]
                 refine wl_cell 4 (.tmp 102) (.bool (clean x y z)) (own_row 0 rfl) rfl rfl rfl rfl Try.isAgg4 ?_
                 simp only [Act.put, Xa, Xz, Xs]
                 refine wl_val (.bool (clean x y z)) rfl (fun _ => rfl) ?_
                 simp only [Act.put, Xa, Xz, Xs]
                 cases h29 : (clean x y z)
                 ·
                  skip
                  refine wl_skip rfl ?_
                  simp only [Act.put, Xa, Xz, Xs]
                  refine wl_skip rfl ?_
                  simp only [Act.put, Xa, Xz, Xs]
                  refine wl_skip rfl ?_
                  simp only [Act.put, Xa, Xz, Xs]
                  refine wl_skip rfl ?_
                  simp only [Act.put, Xa, Xz, Xs]
                  refine wl_skip rfl ?_
                  simp only [Act.put, Xa, Xz, Xs]
                  refine wl_val (.bool false) rfl (fun _ => rfl) ?_
                  simp only [Act.put, Xa, Xz, Xs]
                  refine wl_val (.bool false) rfl (fun _ => rfl) ?_
                  simp only [Act.put, Xa, Xz, Xs]
                  refine wl_nil ?_
                  refine we_then ?_
                  refine wc_ret ?_
                  refine we_then_ret ?_
                  refine we_ret1 (.bool false) rfl rfl rfl (fun w1 hE => ?_)
                  exact (by exfalso; first | omega | (have e3 := e2.1; simp_all))
                 ·
                  skip
                  refine wl_val (.pointer (some ⟨g27, 0, none⟩)) rfl (fun _ => by go_simp) ?_
                  simp only [Act.put, Xa, Xz, Xs]
                  refine wl_part 23 (.tmp 105) [.int .i64 ((spd p q x y z t).1), .int .i64 ((spd p q x y z t).2.1)] (own_row 0 rfl) rfl rfl rfl rfl Try.underlying23 rfl (by kernel_rfl) ?_
                  simp only [Act.put, Xa, Xz, Xs]
                  refine wl_call 16 #[.agg #[.int .i64 ((spd p q x y z t).1), .int .i64 ((spd p q x y z t).2.1)]] (.int .u64 (((spd p q x y z t).2.1) - ((spd p q x y z t).1))) rfl (fun _ => by go_simp) (fun W => Spo.width_any ((spd p q x y z t).1) ((spd p q x y z t).2.1) W ⟨by omega, by omega⟩ ⟨by omega, by omega⟩ e1.2.1) ?_
                  simp only [Act.put, Xa, Xz, Xs]
                  refine wl_val (.int .u64 T2) rfl (fun _ => rfl) ?_
                  simp only [Act.put, Xa, Xz, Xs]
                  refine wl_val (.bool (decide (((spd p q x y z t).2.1) - ((spd p q x y z t).1) ≤ T2))) rfl (fun w => run_cmp rfl rfl rfl Try.underlying45 rfl w) ?_
                  simp only [Act.put, Xa, Xz, Xs]
                  refine wl_val (.bool (decide (((spd p q x y z t).2.1) - ((spd p q x y z t).1) ≤ T2))) rfl (fun _ => rfl) ?_
                  simp only [Act.put, Xa, Xz, Xs]
                  refine wl_val (.bool (decide (((spd p q x y z t).2.1) - ((spd p q x y z t).1) ≤ T2))) rfl (fun _ => rfl) ?_
                  simp only [Act.put, Xa, Xz, Xs]
                  refine wl_nil ?_
                  refine we_then ?_
                  refine wc_ret ?_
                  refine we_then_ret ?_
                  refine we_ret1 (.bool (decide (((spd p q x y z t).2.1) - ((spd p q x y z t).1) ≤ T2))) rfl rfl rfl (fun w1 hE => ?_)
                  exact ⟨by rw [show (decide (((spd p q x y z t).2.1) - ((spd p q x y z t).1) ≤ T2)) = true from decide_eq_true (by omega)], hE.below⟩
               ·
                skip
                refine wc_true rfl ?_
                refine wc_seq ?_
                refine wc_region ?_
                refine wl_val (.bool true) rfl (fun _ => rfl) ?_
                simp only [Act.put, Xa, Xz, Xs]
                refine wl_nil ?_
                refine we_then ?_
                refine wc_ret ?_
                refine we_then_ret ?_
                refine we_ret1 (.bool true) rfl rfl rfl (fun w1 hE => ?_)
                exact ⟨rfl, hE.below⟩
             ·
              skip
              have p21 : n2 < 2 := of_decide_eq_true h21
              refine wl_skip rfl ?_
              simp only [Act.put, Xa, Xz, Xs]
              refine wl_skip rfl ?_
              simp only [Act.put, Xa, Xz, Xs]
              refine wl_skip rfl ?_
              simp only [Act.put, Xa, Xz, Xs]
              refine wl_skip rfl ?_
              simp only [Act.put, Xa, Xz, Xs]
              refine wl_skip rfl ?_
              simp only [Act.put, Xa, Xz, Xs]
              refine wl_skip rfl ?_
              simp only [Act.put, Xa, Xz, Xs]
              refine wl_val (.bool true) rfl (fun _ => rfl) ?_
              simp only [Act.put, Xa, Xz, Xs]
              refine wl_nil ?_
              refine we_then ?_
              refine wc_true rfl ?_
              refine wc_seq ?_
              refine wc_region ?_
              refine wl_val (.bool true) rfl (fun _ => rfl) ?_
              simp only [Act.put, Xa, Xz, Xs]
              refine wl_nil ?_
              refine we_then ?_
              refine wc_ret ?_
              refine we_then_ret ?_
              refine we_ret1 (.bool true) rfl rfl rfl (fun w1 hE => ?_)
              exact ⟨rfl, hE.below⟩
    ·
     skip
     refine wl_call 10 #[.agg #[.bool x.f, .int .i64 x.lo, .int .i64 x.hi, .bool y.f, .int .i64 y.lo, .int .i64 y.hi, .bool z.f, .int .i64 z.lo, .int .i64 z.hi], .agg #[.bool t.f, .int .i64 t.lo, .int .i64 t.hi]] (.tuple #[.agg #[.int .i64 x.lo, .int .i64 x.hi, .int .i64 y.lo, .int .i64 y.hi, .int .i64 z.lo, .int .i64 z.hi, .int .i64 t.lo, .int .i64 t.hi], .agg #[.int .i64 (bI x.f), .int .i64 (bI y.f), .int .i64 (bI z.f), .int .i64 (bI t.f)], .bool false]) rfl (fun _ => by go_simp) (fun W => by have h9 := given_any x y z t W; unfold givV at h9; rwa [if_neg (by rw [h4]; decide), if_neg (by rw [h5]; decide), if_neg (by rw [h6]; decide), if_pos h7] at h9) ?_
     simp only [Act.put, Xa, Xz, Xs]
     refine wl_val (.tuple #[.agg #[.int .i64 x.lo, .int .i64 x.hi, .int .i64 y.lo, .int .i64 y.hi, .int .i64 z.lo, .int .i64 z.hi, .int .i64 t.lo, .int .i64 t.hi], .agg #[.int .i64 (bI x.f), .int .i64 (bI y.f), .int .i64 (bI z.f), .int .i64 (bI t.f)], .bool false]) rfl (fun _ => rfl) ?_
     simp only [Act.put, Xa, Xz, Xs]
     refine wl_val (.agg #[.int .i64 x.lo, .int .i64 x.hi, .int .i64 y.lo, .int .i64 y.hi, .int .i64 z.lo, .int .i64 z.hi, .int .i64 t.lo, .int .i64 t.hi]) rfl (fun _ => by go_simp) ?_
     simp only [Act.put, Xa, Xz, Xs]
     refine wl_val (.agg #[.int .i64 (bI x.f), .int .i64 (bI y.f), .int .i64 (bI z.f), .int .i64 (bI t.f)]) rfl (fun _ => by go_simp) ?_
     simp only [Act.put, Xa, Xz, Xs]
     refine wl_val (.bool false) rfl (fun _ => by go_simp) ?_
     simp only [Act.put, Xa, Xz, Xs]
     refine wl_new 29 (#[.int .i64 0, .int .i64 0, .int .i64 0, .int .i64 0, .int .i64 0, .int .i64 0, .int .i64 0, .int .i64 0]) rfl (fun _ => by go_simp) ?_
     intro g30
     simp only [Act.put, Xa, Xz, Xs]
     refine wl_new 30 (#[.int .i64 0, .int .i64 0, .int .i64 0, .int .i64 0]) rfl (fun _ => by go_simp) ?_
     intro g31
     simp only [Act.put, Xa, Xz, Xs]
     refine wl_store 1 29 (.tmp 9) (.tmp 25) (#[.int .i64 x.lo, .int .i64 x.hi, .int .i64 y.lo, .int .i64 y.hi, .int .i64 z.lo, .int .i64 z.hi, .int .i64 t.lo, .int .i64 t.hi]) rfl rfl rfl rfl rfl (by kernel_rfl) rfl (by simp [Value.oneCell']) ?_
     simp only [Act.put, List.set_cons_zero, List.set_cons_succ]
     refine wl_store 0 30 (.tmp 10) (.tmp 26) (#[.int .i64 (bI x.f), .int .i64 (bI y.f), .int .i64 (bI z.f), .int .i64 (bI t.f)]) rfl rfl rfl rfl rfl (by kernel_rfl) rfl (by simp [Value.oneCell']) ?_
     simp only [Act.put, List.set_cons_zero]
     refine wl_val (.bool false) rfl (fun _ => rfl) ?_
     simp only [Act.put, Xa, Xz, Xs]
     refine wl_nil ?_
     refine we_then ?_
     refine wc_seq ?_
     refine wc_seq ?_
     refine wc_region ?_
     refine wl_val (.bool false) rfl (fun _ => rfl) ?_
     simp only [Act.put, Xa, Xz, Xs]
     refine wl_val (.bool true) rfl (fun _ => by go_simp) ?_
     simp only [Act.put, Xa, Xz, Xs]
     refine wl_val (.bool true) rfl (fun _ => rfl) ?_
     simp only [Act.put, Xa, Xz, Xs]
     refine wl_skip rfl ?_
     simp only [Act.put, Xa, Xz, Xs]
     refine wl_skip rfl ?_
     simp only [Act.put, Xa, Xz, Xs]
     refine wl_skip rfl ?_
     simp only [Act.put, Xa, Xz, Xs]
     refine wl_val (.bool true) rfl (fun _ => rfl) ?_
     simp only [Act.put, Xa, Xz, Xs]
     refine wl_val (.bool true) rfl (fun _ => rfl) ?_
     simp only [Act.put, Xa, Xz, Xs]
     refine wl_skip rfl ?_
     simp only [Act.put, Xa, Xz, Xs]
     refine wl_skip rfl ?_
     simp only [Act.put, Xa, Xz, Xs]
     refine wl_skip rfl ?_
     simp only [Act.put, Xa, Xz, Xs]
     refine wl_skip rfl ?_
     simp only [Act.put, Xa, Xz, Xs]
     refine wl_val (.bool true) rfl (fun _ => rfl) ?_
     simp only [Act.put, Xa, Xz, Xs]
     refine wl_val (.bool true) rfl (fun _ => rfl) ?_
     simp only [Act.put, Xa, Xz, Xs]
     refine wl_skip rfl ?_
     simp only [Act.put, Xa, Xz, Xs]
     refine wl_skip rfl ?_
     simp only [Act.put, Xa, Xz, Xs]
     refine wl_skip rfl ?_
     simp only [Act.put, Xa, Xz, Xs]
     refine wl_skip rfl ?_
     simp only [Act.put, Xa, Xz, Xs]
     refine wl_val (.bool true) rfl (fun _ => rfl) ?_
     simp only [Act.put, Xa, Xz, Xs]
     refine wl_val (.bool true) rfl (fun _ => rfl) ?_
     simp only [Act.put, Xa, Xz, Xs]
     refine wl_skip rfl ?_
     simp only [Act.put, Xa, Xz, Xs]
     refine wl_skip rfl ?_
     simp only [Act.put, Xa, Xz, Xs]
     refine wl_skip rfl ?_
     simp only [Act.put, Xa, Xz, Xs]
     refine wl_skip rfl ?_
     simp only [Act.put, Xa, Xz, Xs]
     refine wl_val (.bool true) rfl (fun _ => rfl) ?_
     simp only [Act.put, Xa, Xz, Xs]
     refine wl_val (.bool true) rfl (fun _ => rfl) ?_
     simp only [Act.put, Xa, Xz, Xs]
     refine wl_skip rfl ?_
     simp only [Act.put, Xa, Xz, Xs]
     refine wl_skip rfl ?_
     simp only [Act.put, Xa, Xz, Xs]
     refine wl_skip rfl ?_
     simp only [Act.put, Xa, Xz, Xs]
     refine wl_skip rfl ?_
     simp only [Act.put, Xa, Xz, Xs]
     refine wl_val (.bool true) rfl (fun _ => rfl) ?_
     simp only [Act.put, Xa, Xz, Xs]
     refine wl_nil ?_
     refine we_then ?_
     refine wc_true rfl ?_
     refine wc_seq ?_
     refine wc_region ?_
     refine wl_val (.bool true) rfl (fun _ => rfl) ?_
     simp only [Act.put, Xa, Xz, Xs]
     refine wl_nil ?_
     refine we_then ?_
     refine wc_ret ?_
     refine we_then_ret ?_
     refine we_ret1 (.bool true) rfl rfl rfl (fun w1 hE => ?_)
     exact ⟨rfl, hE.below⟩
   ·
    skip
    refine wl_call 10 #[.agg #[.bool x.f, .int .i64 x.lo, .int .i64 x.hi, .bool y.f, .int .i64 y.lo, .int .i64 y.hi, .bool z.f, .int .i64 z.lo, .int .i64 z.hi], .agg #[.bool t.f, .int .i64 t.lo, .int .i64 t.hi]] (.tuple #[.agg #[.int .i64 x.lo, .int .i64 x.hi, .int .i64 y.lo, .int .i64 y.hi, .int .i64 z.lo, .int .i64 z.hi, .int .i64 0, .int .i64 0], .agg #[.int .i64 (bI x.f), .int .i64 (bI y.f), .int .i64 (bI z.f), .int .i64 0], .bool false]) rfl (fun _ => by go_simp) (fun W => by have h9 := given_any x y z t W; unfold givV at h9; rwa [if_neg (by rw [h4]; decide), if_neg (by rw [h5]; decide), if_pos h6] at h9) ?_
    simp only [Act.put, Xa, Xz, Xs]
    refine wl_val (.tuple #[.agg #[.int .i64 x.lo, .int .i64 x.hi, .int .i64 y.lo, .int .i64 y.hi, .int .i64 z.lo, .int .i64 z.hi, .int .i64 0, .int .i64 0], .agg #[.int .i64 (bI x.f), .int .i64 (bI y.f), .int .i64 (bI z.f), .int .i64 0], .bool false]) rfl (fun _ => rfl) ?_
    simp only [Act.put, Xa, Xz, Xs]
    refine wl_val (.agg #[.int .i64 x.lo, .int .i64 x.hi, .int .i64 y.lo, .int .i64 y.hi, .int .i64 z.lo, .int .i64 z.hi, .int .i64 0, .int .i64 0]) rfl (fun _ => by go_simp) ?_
    simp only [Act.put, Xa, Xz, Xs]
    refine wl_val (.agg #[.int .i64 (bI x.f), .int .i64 (bI y.f), .int .i64 (bI z.f), .int .i64 0]) rfl (fun _ => by go_simp) ?_
    simp only [Act.put, Xa, Xz, Xs]
    refine wl_val (.bool false) rfl (fun _ => by go_simp) ?_
    simp only [Act.put, Xa, Xz, Xs]
    refine wl_new 29 (#[.int .i64 0, .int .i64 0, .int .i64 0, .int .i64 0, .int .i64 0, .int .i64 0, .int .i64 0, .int .i64 0]) rfl (fun _ => by go_simp) ?_
    intro g32
    simp only [Act.put, Xa, Xz, Xs]
    refine wl_new 30 (#[.int .i64 0, .int .i64 0, .int .i64 0, .int .i64 0]) rfl (fun _ => by go_simp) ?_
    intro g33
    simp only [Act.put, Xa, Xz, Xs]
    refine wl_store 1 29 (.tmp 9) (.tmp 25) (#[.int .i64 x.lo, .int .i64 x.hi, .int .i64 y.lo, .int .i64 y.hi, .int .i64 z.lo, .int .i64 z.hi, .int .i64 0, .int .i64 0]) rfl rfl rfl rfl rfl (by kernel_rfl) rfl (by simp [Value.oneCell']) ?_
    simp only [Act.put, List.set_cons_zero, List.set_cons_succ]
    refine wl_store 0 30 (.tmp 10) (.tmp 26) (#[.int .i64 (bI x.f), .int .i64 (bI y.f), .int .i64 (bI z.f), .int .i64 0]) rfl rfl rfl rfl rfl (by kernel_rfl) rfl (by simp [Value.oneCell']) ?_
    simp only [Act.put, List.set_cons_zero]
    refine wl_val (.bool false) rfl (fun _ => rfl) ?_
    simp only [Act.put, Xa, Xz, Xs]
    refine wl_nil ?_
    refine we_then ?_
    refine wc_seq ?_
    refine wc_seq ?_
    refine wc_region ?_
    refine wl_val (.bool false) rfl (fun _ => rfl) ?_
    simp only [Act.put, Xa, Xz, Xs]
    refine wl_val (.bool true) rfl (fun _ => by go_simp) ?_
    simp only [Act.put, Xa, Xz, Xs]
    refine wl_val (.bool true) rfl (fun _ => rfl) ?_
    simp only [Act.put, Xa, Xz, Xs]
    refine wl_skip rfl ?_
    simp only [Act.put, Xa, Xz, Xs]
    refine wl_skip rfl ?_
    simp only [Act.put, Xa, Xz, Xs]
    refine wl_skip rfl ?_
    simp only [Act.put, Xa, Xz, Xs]
    refine wl_val (.bool true) rfl (fun _ => rfl) ?_
    simp only [Act.put, Xa, Xz, Xs]
    refine wl_val (.bool true) rfl (fun _ => rfl) ?_
    simp only [Act.put, Xa, Xz, Xs]
    refine wl_skip rfl ?_
    simp only [Act.put, Xa, Xz, Xs]
    refine wl_skip rfl ?_
    simp only [Act.put, Xa, Xz, Xs]
    refine wl_skip rfl ?_
    simp only [Act.put, Xa, Xz, Xs]
    refine wl_skip rfl ?_
    simp only [Act.put, Xa, Xz, Xs]
    refine wl_val (.bool true) rfl (fun _ => rfl) ?_
    simp only [Act.put, Xa, Xz, Xs]
    refine wl_val (.bool true) rfl (fun _ => rfl) ?_
    simp only [Act.put, Xa, Xz, Xs]
    refine wl_skip rfl ?_
    simp only [Act.put, Xa, Xz, Xs]
    refine wl_skip rfl ?_
    simp only [Act.put, Xa, Xz, Xs]
    refine wl_skip rfl ?_
    simp only [Act.put, Xa, Xz, Xs]
    refine wl_skip rfl ?_
    simp only [Act.put, Xa, Xz, Xs]
    refine wl_val (.bool true) rfl (fun _ => rfl) ?_
    simp only [Act.put, Xa, Xz, Xs]
    refine wl_val (.bool true) rfl (fun _ => rfl) ?_
    simp only [Act.put, Xa, Xz, Xs]
    refine wl_skip rfl ?_
    simp only [Act.put, Xa, Xz, Xs]
    refine wl_skip rfl ?_
    simp only [Act.put, Xa, Xz, Xs]
    refine wl_skip rfl ?_
    simp only [Act.put, Xa, Xz, Xs]
    refine wl_skip rfl ?_
    simp only [Act.put, Xa, Xz, Xs]
    refine wl_val (.bool true) rfl (fun _ => rfl) ?_
    simp only [Act.put, Xa, Xz, Xs]
    refine wl_val (.bool true) rfl (fun _ => rfl) ?_
    simp only [Act.put, Xa, Xz, Xs]
    refine wl_skip rfl ?_
    simp only [Act.put, Xa, Xz, Xs]
    refine wl_skip rfl ?_
    simp only [Act.put, Xa, Xz, Xs]
    refine wl_skip rfl ?_
    simp only [Act.put, Xa, Xz, Xs]
    refine wl_skip rfl ?_
    simp only [Act.put, Xa, Xz, Xs]
    refine wl_val (.bool true) rfl (fun _ => rfl) ?_
    simp only [Act.put, Xa, Xz, Xs]
    refine wl_nil ?_
    refine we_then ?_
    refine wc_true rfl ?_
    refine wc_seq ?_
    refine wc_region ?_
    refine wl_val (.bool true) rfl (fun _ => rfl) ?_
    simp only [Act.put, Xa, Xz, Xs]
    refine wl_nil ?_
    refine we_then ?_
    refine wc_ret ?_
    refine we_then_ret ?_
    refine we_ret1 (.bool true) rfl rfl rfl (fun w1 hE => ?_)
    exact ⟨rfl, hE.below⟩
  ·
   skip
   refine wl_call 10 #[.agg #[.bool x.f, .int .i64 x.lo, .int .i64 x.hi, .bool y.f, .int .i64 y.lo, .int .i64 y.hi, .bool z.f, .int .i64 z.lo, .int .i64 z.hi], .agg #[.bool t.f, .int .i64 t.lo, .int .i64 t.hi]] (.tuple #[.agg #[.int .i64 x.lo, .int .i64 x.hi, .int .i64 y.lo, .int .i64 y.hi, .int .i64 0, .int .i64 0, .int .i64 0, .int .i64 0], .agg #[.int .i64 (bI x.f), .int .i64 (bI y.f), .int .i64 0, .int .i64 0], .bool false]) rfl (fun _ => by go_simp) (fun W => by have h9 := given_any x y z t W; unfold givV at h9; rwa [if_neg (by rw [h4]; decide), if_pos h5] at h9) ?_
   simp only [Act.put, Xa, Xz, Xs]
   refine wl_val (.tuple #[.agg #[.int .i64 x.lo, .int .i64 x.hi, .int .i64 y.lo, .int .i64 y.hi, .int .i64 0, .int .i64 0, .int .i64 0, .int .i64 0], .agg #[.int .i64 (bI x.f), .int .i64 (bI y.f), .int .i64 0, .int .i64 0], .bool false]) rfl (fun _ => rfl) ?_
   simp only [Act.put, Xa, Xz, Xs]
   refine wl_val (.agg #[.int .i64 x.lo, .int .i64 x.hi, .int .i64 y.lo, .int .i64 y.hi, .int .i64 0, .int .i64 0, .int .i64 0, .int .i64 0]) rfl (fun _ => by go_simp) ?_
   simp only [Act.put, Xa, Xz, Xs]
   refine wl_val (.agg #[.int .i64 (bI x.f), .int .i64 (bI y.f), .int .i64 0, .int .i64 0]) rfl (fun _ => by go_simp) ?_
   simp only [Act.put, Xa, Xz, Xs]
   refine wl_val (.bool false) rfl (fun _ => by go_simp) ?_
   simp only [Act.put, Xa, Xz, Xs]
   refine wl_new 29 (#[.int .i64 0, .int .i64 0, .int .i64 0, .int .i64 0, .int .i64 0, .int .i64 0, .int .i64 0, .int .i64 0]) rfl (fun _ => by go_simp) ?_
   intro g34
   simp only [Act.put, Xa, Xz, Xs]
   refine wl_new 30 (#[.int .i64 0, .int .i64 0, .int .i64 0, .int .i64 0]) rfl (fun _ => by go_simp) ?_
   intro g35
   simp only [Act.put, Xa, Xz, Xs]
   refine wl_store 1 29 (.tmp 9) (.tmp 25) (#[.int .i64 x.lo, .int .i64 x.hi, .int .i64 y.lo, .int .i64 y.hi, .int .i64 0, .int .i64 0, .int .i64 0, .int .i64 0]) rfl rfl rfl rfl rfl (by kernel_rfl) rfl (by simp [Value.oneCell']) ?_
   simp only [Act.put, List.set_cons_zero, List.set_cons_succ]
   refine wl_store 0 30 (.tmp 10) (.tmp 26) (#[.int .i64 (bI x.f), .int .i64 (bI y.f), .int .i64 0, .int .i64 0]) rfl rfl rfl rfl rfl (by kernel_rfl) rfl (by simp [Value.oneCell']) ?_
   simp only [Act.put, List.set_cons_zero]
   refine wl_val (.bool false) rfl (fun _ => rfl) ?_
   simp only [Act.put, Xa, Xz, Xs]
   refine wl_nil ?_
   refine we_then ?_
   refine wc_seq ?_
   refine wc_seq ?_
   refine wc_region ?_
   refine wl_val (.bool false) rfl (fun _ => rfl) ?_
   simp only [Act.put, Xa, Xz, Xs]
   refine wl_val (.bool true) rfl (fun _ => by go_simp) ?_
   simp only [Act.put, Xa, Xz, Xs]
   refine wl_val (.bool true) rfl (fun _ => rfl) ?_
   simp only [Act.put, Xa, Xz, Xs]
   refine wl_skip rfl ?_
   simp only [Act.put, Xa, Xz, Xs]
   refine wl_skip rfl ?_
   simp only [Act.put, Xa, Xz, Xs]
   refine wl_skip rfl ?_
   simp only [Act.put, Xa, Xz, Xs]
   refine wl_val (.bool true) rfl (fun _ => rfl) ?_
   simp only [Act.put, Xa, Xz, Xs]
   refine wl_val (.bool true) rfl (fun _ => rfl) ?_
   simp only [Act.put, Xa, Xz, Xs]
   refine wl_skip rfl ?_
   simp only [Act.put, Xa, Xz, Xs]
   refine wl_skip rfl ?_
   simp only [Act.put, Xa, Xz, Xs]
   refine wl_skip rfl ?_
   simp only [Act.put, Xa, Xz, Xs]
   refine wl_skip rfl ?_
   simp only [Act.put, Xa, Xz, Xs]
   refine wl_val (.bool true) rfl (fun _ => rfl) ?_
   simp only [Act.put, Xa, Xz, Xs]
   refine wl_val (.bool true) rfl (fun _ => rfl) ?_
   simp only [Act.put, Xa, Xz, Xs]
   refine wl_skip rfl ?_
   simp only [Act.put, Xa, Xz, Xs]
   refine wl_skip rfl ?_
   simp only [Act.put, Xa, Xz, Xs]
   refine wl_skip rfl ?_
   simp only [Act.put, Xa, Xz, Xs]
   refine wl_skip rfl ?_
   simp only [Act.put, Xa, Xz, Xs]
   refine wl_val (.bool true) rfl (fun _ => rfl) ?_
   simp only [Act.put, Xa, Xz, Xs]
   refine wl_val (.bool true) rfl (fun _ => rfl) ?_
   simp only [Act.put, Xa, Xz, Xs]
   refine wl_skip rfl ?_
   simp only [Act.put, Xa, Xz, Xs]
   refine wl_skip rfl ?_
   simp only [Act.put, Xa, Xz, Xs]
   refine wl_skip rfl ?_
   simp only [Act.put, Xa, Xz, Xs]
   refine wl_skip rfl ?_
   simp only [Act.put, Xa, Xz, Xs]
   refine wl_val (.bool true) rfl (fun _ => rfl) ?_
   simp only [Act.put, Xa, Xz, Xs]
   refine wl_val (.bool true) rfl (fun _ => rfl) ?_
   simp only [Act.put, Xa, Xz, Xs]
   refine wl_skip rfl ?_
   simp only [Act.put, Xa, Xz, Xs]
   refine wl_skip rfl ?_
   simp only [Act.put, Xa, Xz, Xs]
   refine wl_skip rfl ?_
   simp only [Act.put, Xa, Xz, Xs]
   refine wl_skip rfl ?_
   simp only [Act.put, Xa, Xz, Xs]
   refine wl_val (.bool true) rfl (fun _ => rfl) ?_
   simp only [Act.put, Xa, Xz, Xs]
   refine wl_nil ?_
   refine we_then ?_
   refine wc_true rfl ?_
   refine wc_seq ?_
   refine wc_region ?_
   refine wl_val (.bool true) rfl (fun _ => rfl) ?_
   simp only [Act.put, Xa, Xz, Xs]
   refine wl_nil ?_
   refine we_then ?_
   refine wc_ret ?_
   refine we_then_ret ?_
   refine we_ret1 (.bool true) rfl rfl rfl (fun w1 hE => ?_)
   exact ⟨rfl, hE.below⟩
 ·
  skip
  refine wl_call 10 #[.agg #[.bool x.f, .int .i64 x.lo, .int .i64 x.hi, .bool y.f, .int .i64 y.lo, .int .i64 y.hi, .bool z.f, .int .i64 z.lo, .int .i64 z.hi], .agg #[.bool t.f, .int .i64 t.lo, .int .i64 t.hi]] (.tuple #[.agg #[.int .i64 x.lo, .int .i64 x.hi, .int .i64 0, .int .i64 0, .int .i64 0, .int .i64 0, .int .i64 0, .int .i64 0], .agg #[.int .i64 (bI x.f), .int .i64 0, .int .i64 0, .int .i64 0], .bool false]) rfl (fun _ => by go_simp) (fun W => by have h9 := given_any x y z t W; unfold givV at h9; rwa [if_pos h4] at h9) ?_
  simp only [Act.put, Xa, Xz, Xs]
  refine wl_val (.tuple #[.agg #[.int .i64 x.lo, .int .i64 x.hi, .int .i64 0, .int .i64 0, .int .i64 0, .int .i64 0, .int .i64 0, .int .i64 0], .agg #[.int .i64 (bI x.f), .int .i64 0, .int .i64 0, .int .i64 0], .bool false]) rfl (fun _ => rfl) ?_
  simp only [Act.put, Xa, Xz, Xs]
  refine wl_val (.agg #[.int .i64 x.lo, .int .i64 x.hi, .int .i64 0, .int .i64 0, .int .i64 0, .int .i64 0, .int .i64 0, .int .i64 0]) rfl (fun _ => by go_simp) ?_
  simp only [Act.put, Xa, Xz, Xs]
  refine wl_val (.agg #[.int .i64 (bI x.f), .int .i64 0, .int .i64 0, .int .i64 0]) rfl (fun _ => by go_simp) ?_
  simp only [Act.put, Xa, Xz, Xs]
  refine wl_val (.bool false) rfl (fun _ => by go_simp) ?_
  simp only [Act.put, Xa, Xz, Xs]
  refine wl_new 29 (#[.int .i64 0, .int .i64 0, .int .i64 0, .int .i64 0, .int .i64 0, .int .i64 0, .int .i64 0, .int .i64 0]) rfl (fun _ => by go_simp) ?_
  intro g36
  simp only [Act.put, Xa, Xz, Xs]
  refine wl_new 30 (#[.int .i64 0, .int .i64 0, .int .i64 0, .int .i64 0]) rfl (fun _ => by go_simp) ?_
  intro g37
  simp only [Act.put, Xa, Xz, Xs]
  refine wl_store 1 29 (.tmp 9) (.tmp 25) (#[.int .i64 x.lo, .int .i64 x.hi, .int .i64 0, .int .i64 0, .int .i64 0, .int .i64 0, .int .i64 0, .int .i64 0]) rfl rfl rfl rfl rfl (by kernel_rfl) rfl (by simp [Value.oneCell']) ?_
  simp only [Act.put, List.set_cons_zero, List.set_cons_succ]
  refine wl_store 0 30 (.tmp 10) (.tmp 26) (#[.int .i64 (bI x.f), .int .i64 0, .int .i64 0, .int .i64 0]) rfl rfl rfl rfl rfl (by kernel_rfl) rfl (by simp [Value.oneCell']) ?_
  simp only [Act.put, List.set_cons_zero]
  refine wl_val (.bool false) rfl (fun _ => rfl) ?_
  simp only [Act.put, Xa, Xz, Xs]
  refine wl_nil ?_
  refine we_then ?_
  refine wc_seq ?_
  refine wc_seq ?_
  refine wc_region ?_
  refine wl_val (.bool false) rfl (fun _ => rfl) ?_
  simp only [Act.put, Xa, Xz, Xs]
  refine wl_val (.bool true) rfl (fun _ => by go_simp) ?_
  simp only [Act.put, Xa, Xz, Xs]
  refine wl_val (.bool true) rfl (fun _ => rfl) ?_
  simp only [Act.put, Xa, Xz, Xs]
  refine wl_skip rfl ?_
  simp only [Act.put, Xa, Xz, Xs]
  refine wl_skip rfl ?_
  simp only [Act.put, Xa, Xz, Xs]
  refine wl_skip rfl ?_
  simp only [Act.put, Xa, Xz, Xs]
  refine wl_val (.bool true) rfl (fun _ => rfl) ?_
  simp only [Act.put, Xa, Xz, Xs]
  refine wl_val (.bool true) rfl (fun _ => rfl) ?_
  simp only [Act.put, Xa, Xz, Xs]
  refine wl_skip rfl ?_
  simp only [Act.put, Xa, Xz, Xs]
  refine wl_skip rfl ?_
  simp only [Act.put, Xa, Xz, Xs]
  refine wl_skip rfl ?_
  simp only [Act.put, Xa, Xz, Xs]
  refine wl_skip rfl ?_
  simp only [Act.put, Xa, Xz, Xs]
  refine wl_val (.bool true) rfl (fun _ => rfl) ?_
  simp only [Act.put, Xa, Xz, Xs]
  refine wl_val (.bool true) rfl (fun _ => rfl) ?_
  simp only [Act.put, Xa, Xz, Xs]
  refine wl_skip rfl ?_
  simp only [Act.put, Xa, Xz, Xs]
  refine wl_skip rfl ?_
  simp only [Act.put, Xa, Xz, Xs]
  refine wl_skip rfl ?_
  simp only [Act.put, Xa, Xz, Xs]
  refine wl_skip rfl ?_
  simp only [Act.put, Xa, Xz, Xs]
  refine wl_val (.bool true) rfl (fun _ => rfl) ?_
  simp only [Act.put, Xa, Xz, Xs]
  refine wl_val (.bool true) rfl (fun _ => rfl) ?_
  simp only [Act.put, Xa, Xz, Xs]
  refine wl_skip rfl ?_
  simp only [Act.put, Xa, Xz, Xs]
  refine wl_skip rfl ?_
  simp only [Act.put, Xa, Xz, Xs]
  refine wl_skip rfl ?_
  simp only [Act.put, Xa, Xz, Xs]
  refine wl_skip rfl ?_
  simp only [Act.put, Xa, Xz, Xs]
  refine wl_val (.bool true) rfl (fun _ => rfl) ?_
  simp only [Act.put, Xa, Xz, Xs]
  refine wl_val (.bool true) rfl (fun _ => rfl) ?_
  simp only [Act.put, Xa, Xz, Xs]
  refine wl_skip rfl ?_
  simp only [Act.put, Xa, Xz, Xs]
  refine wl_skip rfl ?_
  simp only [Act.put, Xa, Xz, Xs]
  refine wl_skip rfl ?_
  simp only [Act.put, Xa, Xz, Xs]
  refine wl_skip rfl ?_
  simp only [Act.put, Xa, Xz, Xs]
  refine wl_val (.bool true) rfl (fun _ => rfl) ?_
  simp only [Act.put, Xa, Xz, Xs]
  refine wl_nil ?_
  refine we_then ?_
  refine wc_true rfl ?_
  refine wc_seq ?_
  refine wc_region ?_
  refine wl_val (.bool true) rfl (fun _ => rfl) ?_
  simp only [Act.put, Xa, Xz, Xs]
  refine wl_nil ?_
  refine we_then ?_
  refine wc_ret ?_
  refine we_then_ret ?_
  refine we_ret1 (.bool true) rfl rfl rfl (fun w1 hE => ?_)
  exact ⟨rfl, hE.below⟩
end Go.Proofs.Ytlfienfjdjfcoaa.Walks
