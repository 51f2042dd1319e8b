/-
  FuseTrue: the law's walk. No condition.
-/
import Derived.Test.YtlfienfjdjfcoaaFzlw
namespace Go.Proofs.Ytlfienfjdjfcoaa.Walks
open Go.ChangeShapes Go.WideShapes Go.ChangeAt Go.RowKit
open Arr Steady Sx Sw Sl Sb Sc Si Sj Sk Sh Sfn Smu Vs Fzm Fzlw
set_option linter.unusedVariables false
set_option linter.unusedSimpArgs false
set_option maxRecDepth 100000

set_option maxHeartbeats 8000000 in
theorem fuseTrue_walk (p : Int) (wp : (Lit.int .i64 p).wf = true) (q : Int) (wq : (Lit.int .i64 q).wf = true) (x y z t : Sr) (v : Int) (wv : (Lit.int .i64 v).wf = true) (w : World) :
  Calls Try.prog 4 #[.agg #[.int .i64 p, .int .i64 q], .agg #[.bool x.f, .int .i64 x.lo, .int .i64 x.hi, .bool y.f, .int .i64 y.lo, .int .i64 y.hi, .bool z.f, .int .i64 z.lo, .int .i64 z.hi], .agg #[.bool t.f, .int .i64 t.lo, .int .i64 t.hi], .int .i64 v] w fun e w' => e = .returned (.bool true) ∧ Below w.heap.size w w' := by
 refine calls_sx Try.func4 rfl ?_
 simp only [Try.ntmps4, List.size_toArray, List.length_cons, List.length_nil, Nat.reduceAdd, Nat.reduceSub, Array.replicate_succ, Array.replicate_zero, List.push_toArray, List.append_toArray, List.nil_append, List.cons_append]
 refine wc_seq ?_
 refine wc_region ?_
 refine wl_new 23 (#[.int .i64 p, .int .i64 q]) rfl (fun _ => by go_simp) ?_
 intro g1
 simp only [Act.put, Xa, Xz, Xs]
 refine wl_new 26 (#[.bool x.f, .int .i64 x.lo, .int .i64 x.hi, .bool y.f, .int .i64 y.lo, .int .i64 y.hi, .bool z.f, .int .i64 z.lo, .int .i64 z.hi]) rfl (fun _ => by go_simp) ?_
 intro g2
 simp only [Act.put, Xa, Xz, Xs]
 refine wl_new 25 (#[.bool t.f, .int .i64 t.lo, .int .i64 t.hi]) rfl (fun _ => by go_simp) ?_
 intro g3
 simp only [Act.put, Xa, Xz, Xs]
 refine wl_val (.bool false) rfl (fun _ => rfl) ?_
 simp only [Act.put, Xa, Xz, Xs]
 refine wl_nil ?_
 refine we_then ?_
 refine wc_seq ?_
 refine wc_seq ?_
 refine wc_region ?_
 refine wl_call 9 #[] (.bool true) rfl (fun _ => by go_simp) (fun W => Fzlw.anchor_any W) ?_
 simp only [Act.put, Xa, Xz, Xs]
 refine wl_val (.bool false) rfl (fun _ => by go_simp) ?_
 simp only [Act.put, Xa, Xz, Xs]
 refine wl_nil ?_
 refine we_then ?_
 refine wc_false rfl ?_
 refine wc_skip ?_
 refine we_then ?_
 refine wc_seq ?_
 refine wc_region ?_
 refine wl_load 26 (.tmp 5) (own_row 1 rfl) rfl rfl rfl Try.underlying26 rfl (by kernel_rfl) ?_
 simp only [Act.put, Xa, Xz, Xs]
 refine wl_load 25 (.tmp 6) (own_row 0 rfl) rfl rfl rfl Try.underlying25 rfl (by kernel_rfl) ?_
 simp only [Act.put, Xa, Xz, Xs]
 cases h4 : (badB x)
 ·
  skip
  cases h5 : (badB y)
  ·
   skip
   cases h6 : (badB z)
   ·
    skip
    cases h7 : (badB t)
    ·
     skip
     refine wl_call 10 #[.agg #[.bool x.f, .int .i64 x.lo, .int .i64 x.hi, .bool y.f, .int .i64 y.lo, .int .i64 y.hi, .bool z.f, .int .i64 z.lo, .int .i64 z.hi], .agg #[.bool t.f, .int .i64 t.lo, .int .i64 t.hi]] (.tuple #[.agg #[.int .i64 x.lo, .int .i64 x.hi, .int .i64 y.lo, .int .i64 y.hi, .int .i64 z.lo, .int .i64 z.hi, .int .i64 t.lo, .int .i64 t.hi], .agg #[.int .i64 (bI x.f), .int .i64 (bI y.f), .int .i64 (bI z.f), .int .i64 (bI t.f)], .bool true]) rfl (fun _ => by go_simp) (fun W => by have h9 := given_any x y z t W; unfold givV at h9; rwa [if_neg (by rw [h4]; decide), if_neg (by rw [h5]; decide), if_neg (by rw [h6]; decide), if_neg (by rw [h7]; decide)] at h9) ?_
     simp only [Act.put, Xa, Xz, Xs]
     refine wl_val (.tuple #[.agg #[.int .i64 x.lo, .int .i64 x.hi, .int .i64 y.lo, .int .i64 y.hi, .int .i64 z.lo, .int .i64 z.hi, .int .i64 t.lo, .int .i64 t.hi], .agg #[.int .i64 (bI x.f), .int .i64 (bI y.f), .int .i64 (bI z.f), .int .i64 (bI t.f)], .bool true]) rfl (fun _ => rfl) ?_
     simp only [Act.put, Xa, Xz, Xs]
     refine wl_val (.agg #[.int .i64 x.lo, .int .i64 x.hi, .int .i64 y.lo, .int .i64 y.hi, .int .i64 z.lo, .int .i64 z.hi, .int .i64 t.lo, .int .i64 t.hi]) rfl (fun _ => by go_simp) ?_
     simp only [Act.put, Xa, Xz, Xs]
     refine wl_val (.agg #[.int .i64 (bI x.f), .int .i64 (bI y.f), .int .i64 (bI z.f), .int .i64 (bI t.f)]) rfl (fun _ => by go_simp) ?_
     simp only [Act.put, Xa, Xz, Xs]
     refine wl_val (.bool true) rfl (fun _ => by go_simp) ?_
     simp only [Act.put, Xa, Xz, Xs]
     refine wl_new 29 (#[.int .i64 0, .int .i64 0, .int .i64 0, .int .i64 0, .int .i64 0, .int .i64 0, .int .i64 0, .int .i64 0]) rfl (fun _ => by go_simp) ?_
     intro g8
     simp only [Act.put, Xa, Xz, Xs]
     refine wl_new 30 (#[.int .i64 0, .int .i64 0, .int .i64 0, .int .i64 0]) rfl (fun _ => by go_simp) ?_
     intro g9
     simp only [Act.put, Xa, Xz, Xs]
     refine wl_store 1 29 (.tmp 9) (.tmp 23) (#[.int .i64 x.lo, .int .i64 x.hi, .int .i64 y.lo, .int .i64 y.hi, .int .i64 z.lo, .int .i64 z.hi, .int .i64 t.lo, .int .i64 t.hi]) rfl rfl rfl rfl rfl (by kernel_rfl) rfl (by simp [Value.oneCell']) ?_
     simp only [Act.put, List.set_cons_zero, List.set_cons_succ]
     refine wl_store 0 30 (.tmp 10) (.tmp 24) (#[.int .i64 (bI x.f), .int .i64 (bI y.f), .int .i64 (bI z.f), .int .i64 (bI t.f)]) rfl rfl rfl rfl rfl (by kernel_rfl) rfl (by simp [Value.oneCell']) ?_
     simp only [Act.put, List.set_cons_zero]
     refine wl_val (.bool true) rfl (fun _ => rfl) ?_
     simp only [Act.put, Xa, Xz, Xs]
     refine wl_nil ?_
     refine we_then ?_
     refine wc_seq ?_
     refine wc_seq ?_
     refine wc_region ?_
     refine wl_val (.bool true) rfl (fun _ => rfl) ?_
     simp only [Act.put, Xa, Xz, Xs]
     refine wl_val (.bool false) rfl (fun _ => by go_simp) ?_
     simp only [Act.put, Xa, Xz, Xs]
     refine wl_val (.bool false) rfl (fun _ => rfl) ?_
     simp only [Act.put, Xa, Xz, Xs]
     refine wl_load 23 (.tmp 4) (own_row 4 rfl) rfl rfl rfl Try.underlying23 rfl (by kernel_rfl) ?_
     simp only [Act.put, Xa, Xz, Xs]
     refine wl_call 11 #[.agg #[.int .i64 p, .int .i64 q]] (.bool (mayF p q)) rfl (fun _ => by go_simp) (fun W => may_any p q W) ?_
     simp only [Act.put, Xa, Xz, Xs]
     refine wl_val (.bool (!(mayF p q))) rfl (fun _ => by go_simp) ?_
     simp only [Act.put, Xa, Xz, Xs]
     refine wl_val (.bool (!(mayF p q))) rfl (fun _ => rfl) ?_
     simp only [Act.put, Xa, Xz, Xs]
     refine wl_val (.bool (!(mayF p q))) rfl (fun _ => rfl) ?_
     simp only [Act.put, Xa, Xz, Xs]
     cases h10 : (mayF p q)
     ·
      skip
      refine wl_skip rfl ?_
      simp only [Act.put, Xa, Xz, Xs]
      refine wl_skip rfl ?_
      simp only [Act.put, Xa, Xz, Xs]
      refine wl_skip rfl ?_
      simp only [Act.put, Xa, Xz, Xs]
      refine wl_skip rfl ?_
      simp only [Act.put, Xa, Xz, Xs]
      refine wl_val (.bool true) rfl (fun _ => rfl) ?_
      simp only [Act.put, Xa, Xz, Xs]
      refine wl_val (.bool true) rfl (fun _ => rfl) ?_
      simp only [Act.put, Xa, Xz, Xs]
      refine wl_skip rfl ?_
      simp only [Act.put, Xa, Xz, Xs]
      refine wl_skip rfl ?_
      simp only [Act.put, Xa, Xz, Xs]
      refine wl_skip rfl ?_
      simp only [Act.put, Xa, Xz, Xs]
      refine wl_skip rfl ?_
      simp only [Act.put, Xa, Xz, Xs]
      refine wl_skip rfl ?_
      simp only [Act.put, Xa, Xz, Xs]
      refine wl_skip rfl ?_
      simp only [Act.put, Xa, Xz, Xs]
      refine wl_skip rfl ?_
      simp only [Act.put, Xa, Xz, Xs]
      refine wl_skip rfl ?_
      simp only [Act.put, Xa, Xz, Xs]
      refine wl_skip rfl ?_
      simp only [Act.put, Xa, Xz, Xs]
      refine wl_val (.bool true) rfl (fun _ => rfl) ?_
      simp only [Act.put, Xa, Xz, Xs]
      refine wl_nil ?_
      refine we_then ?_
      refine wc_true rfl ?_
      refine wc_seq ?_
      refine wc_region ?_
      refine wl_val (.bool true) rfl (fun _ => rfl) ?_
      simp only [Act.put, Xa, Xz, Xs]
      refine wl_nil ?_
      refine we_then ?_
      refine wc_ret ?_
      refine we_then_ret ?_
      refine we_ret1 (.bool true) rfl rfl rfl (fun w1 hE => ?_)
      exact ⟨rfl, hE.below⟩
     ·
      skip
      refine wl_load 23 (.tmp 4) (own_row 4 rfl) rfl rfl rfl Try.underlying23 rfl (by kernel_rfl) ?_
      simp only [Act.put, Xa, Xz, Xs]
      refine wl_val (.int .i64 v) rfl (fun _ => rfl) ?_
      simp only [Act.put, Xa, Xz, Xs]
      refine wl_call 14 #[.agg #[.int .i64 p, .int .i64 q], .int .i64 v] (.bool (decide (p ≤ v) && decide (v ≤ q))) rfl (fun _ => by go_simp) (fun W => has_b p q v W) ?_
      simp only [Act.put, Xa, Xz, Xs]
      refine wl_val (.bool (!(decide (p ≤ v) && decide (v ≤ q)))) rfl (fun _ => by go_simp) ?_
      simp only [Act.put, Xa, Xz, Xs]
      refine wl_val (.bool (!(decide (p ≤ v) && decide (v ≤ q)))) rfl (fun _ => rfl) ?_
      simp only [Act.put, Xa, Xz, Xs]
      refine wl_val (.bool (!(decide (p ≤ v) && decide (v ≤ q)))) rfl (fun _ => rfl) ?_
      simp only [Act.put, Xa, Xz, Xs]
      cases h11 : (decide (p ≤ v) && decide (v ≤ q))
      ·
       skip
       have p11 : ¬ ((p ≤ v) ∧ (v ≤ q)) := by first | (simp; done) | (simp at h11; done) | simpa using h11
       refine wl_skip rfl ?_
       simp only [Act.put, Xa, Xz, Xs]
       refine wl_skip rfl ?_
       simp only [Act.put, Xa, Xz, Xs]
       refine wl_skip rfl ?_
       simp only [Act.put, Xa, Xz, Xs]
       refine wl_skip rfl ?_
       simp only [Act.put, Xa, Xz, Xs]
       refine wl_skip rfl ?_
       simp only [Act.put, Xa, Xz, Xs]
       refine wl_skip rfl ?_
       simp only [Act.put, Xa, Xz, Xs]
       refine wl_skip rfl ?_
       simp only [Act.put, Xa, Xz, Xs]
       refine wl_skip rfl ?_
       simp only [Act.put, Xa, Xz, Xs]
       refine wl_skip rfl ?_
       simp only [Act.put, Xa, Xz, Xs]
       refine wl_val (.bool true) rfl (fun _ => rfl) ?_
       simp only [Act.put, Xa, Xz, Xs]
       refine wl_nil ?_
       refine we_then ?_
       refine wc_true rfl ?_
       refine wc_seq ?_
       refine wc_region ?_
       refine wl_val (.bool true) rfl (fun _ => rfl) ?_
       simp only [Act.put, Xa, Xz, Xs]
       refine wl_nil ?_
       refine we_then ?_
       refine wc_ret ?_
       refine we_then_ret ?_
       refine we_ret1 (.bool true) rfl rfl rfl (fun w1 hE => ?_)
       exact ⟨rfl, hE.below⟩
      ·
       skip
       have p11 : (p ≤ v) ∧ (v ≤ q) := by first | (simp; done) | (simp at h11; done) | simpa using h11
       refine wl_val (.pointer (some ⟨g3, 0, none⟩)) rfl (fun _ => by go_simp) ?_
       simp only [Act.put, Xa, Xz, Xs]
       refine wl_cell 4 (.tmp 40) (.bool t.f) (own_row 2 rfl) rfl rfl rfl rfl Try.isAgg4 ?_
       simp only [Act.put, Xa, Xz, Xs]
       refine wl_val (.bool t.f) rfl (fun _ => rfl) ?_
       simp only [Act.put, Xa, Xz, Xs]
       cases h12 : (t.f)
       ·
        skip
        refine wl_skip rfl ?_
        simp only [Act.put, Xa, Xz, Xs]
        refine wl_skip rfl ?_
        simp only [Act.put, Xa, Xz, Xs]
        refine wl_skip rfl ?_
        simp only [Act.put, Xa, Xz, Xs]
        refine wl_skip rfl ?_
        simp only [Act.put, Xa, Xz, Xs]
        refine wl_skip rfl ?_
        simp only [Act.put, Xa, Xz, Xs]
        refine wl_val (.bool false) rfl (fun _ => rfl) ?_
        simp only [Act.put, Xa, Xz, Xs]
        refine wl_val (.bool false) rfl (fun _ => rfl) ?_
        simp only [Act.put, Xa, Xz, Xs]
        refine wl_nil ?_
        refine we_then ?_
        refine wc_false rfl ?_
        refine wc_skip ?_
        refine we_then ?_
        refine wc_seq ?_
        refine wc_region ?_
        refine wl_val (.int .i64 0) rfl (fun _ => rfl) ?_
        simp only [Act.put, Xa, Xz, Xs]
        refine wl_val (.int .i64 0) rfl (fun _ => rfl) ?_
        simp only [Act.put, Xa, Xz, Xs]
        refine wl_nil ?_
        refine we_then ?_
        refine wc_seq ?_
        refine wc_seq ?_
        refine wc_region ?_
        refine wl_load 26 (.tmp 5) (own_row 3 rfl) rfl rfl rfl Try.underlying26 rfl (by kernel_rfl) ?_
        simp only [Act.put, Xa, Xz, Xs]
        refine wl_val (.int .i64 0) rfl (fun _ => rfl) ?_
        simp only [Act.put, Xa, Xz, Xs]
        refine wl_nil ?_
        refine we_then ?_
        refine wc_block ?_
        refine wr_start 4 ?_
        refine wr_round ?_
        refine wc_seq ?_
        refine wc_region ?_
        refine wl_val (.bool true) rfl (fun w => run_cmp rfl rfl rfl Try.underlying3 rfl w) ?_
        simp only [Act.put, Xa, Xz, Xs]
        refine wl_nil ?_
        refine we_then ?_
        refine wc_seq ?_
        refine wc_true rfl ?_
        refine wc_skip ?_
        refine we_then ?_
        refine wc_cut (fun (zz : Int × Int × Value × Value × Value × Value × Value × Value × Value × Value × Value × Value × Value × Value × Value) => match zz with | ⟨f0, w0, u15, u53, u54, u55, u56, u57, u58, u59, u60, u61, u62, u63, u64⟩ => ({ tmps := #[.agg #[.int .i64 p, .int .i64 q], .agg #[.bool x.f, .int .i64 x.lo, .int .i64 x.hi, .bool y.f, .int .i64 y.lo, .int .i64 y.hi, .bool z.f, .int .i64 z.lo, .int .i64 z.hi], .agg #[.bool false, .int .i64 t.lo, .int .i64 t.hi], .int .i64 v, .pointer (some ⟨g1, 0, none⟩), .pointer (some ⟨g2, 0, none⟩), .pointer (some ⟨g3, 0, none⟩), undef, .bool false, .pointer (some ⟨g8, 0, none⟩), .pointer (some ⟨g9, 0, none⟩), .bool true, .int .i64 f0, .int .i64 w0, undef, u15, undef, .bool true, .bool false, .tuple #[.agg #[.int .i64 x.lo, .int .i64 x.hi, .int .i64 y.lo, .int .i64 y.hi, .int .i64 z.lo, .int .i64 z.hi, .int .i64 t.lo, .int .i64 t.hi], .agg #[.int .i64 (bI x.f), .int .i64 (bI y.f), .int .i64 (bI z.f), .int .i64 (bI false)], .bool true], .agg #[.bool x.f, .int .i64 x.lo, .int .i64 x.hi, .bool y.f, .int .i64 y.lo, .int .i64 y.hi, .bool z.f, .int .i64 z.lo, .int .i64 z.hi], .agg #[.bool false, .int .i64 t.lo, .int .i64 t.hi], .tuple #[.agg #[.int .i64 x.lo, .int .i64 x.hi, .int .i64 y.lo, .int .i64 y.hi, .int .i64 z.lo, .int .i64 z.hi, .int .i64 t.lo, .int .i64 t.hi], .agg #[.int .i64 (bI x.f), .int .i64 (bI y.f), .int .i64 (bI z.f), .int .i64 (bI false)], .bool true], .agg #[.int .i64 x.lo, .int .i64 x.hi, .int .i64 y.lo, .int .i64 y.hi, .int .i64 z.lo, .int .i64 z.hi, .int .i64 t.lo, .int .i64 t.hi], .agg #[.int .i64 (bI x.f), .int .i64 (bI y.f), .int .i64 (bI z.f), .int .i64 (bI false)], .bool true, .bool true, .bool false, .bool false, .agg #[.int .i64 p, .int .i64 q], .bool true, .bool false, .bool false, .bool false, .agg #[.int .i64 p, .int .i64 q], .int .i64 v, .bool true, .bool false, .bool false, .bool false, .pointer (some ⟨g3, 0, none⟩), .bool false, .bool false, undef, undef, undef, undef, undef, .bool false, .bool false, .agg #[.bool x.f, .int .i64 x.lo, .int .i64 x.hi, .bool y.f, .int .i64 y.lo, .int .i64 y.hi, .bool z.f, .int .i64 z.lo, .int .i64 z.hi], .int .i64 0, .bool true, u53, u54, u55, u56, u57, u58, u59, u60, u61, u62, u63, u64, undef, undef, undef, undef, undef, undef, undef, undef, undef, undef, undef, undef, undef, undef, undef, undef, undef, undef, undef, undef, undef, undef, undef, undef, undef, undef, undef, undef, undef, undef, undef, undef, undef, undef], defers := [] } : Act)) (fun (zz : Int × Int × Value × Value × Value × Value × Value × Value × Value × Value × Value × Value × Value × Value × Value) => match zz with | ⟨f0, w0, u15, u53, u54, u55, u56, u57, u58, u59, u60, u61, u62, u63, u64⟩ => [⟨g9, #[.int .i64 (bI x.f), .int .i64 (bI y.f), .int .i64 (bI z.f), .int .i64 (bI false)], 30⟩, ⟨g8, #[.int .i64 x.lo, .int .i64 x.hi, .int .i64 y.lo, .int .i64 y.hi, .int .i64 z.lo, .int .i64 z.hi, .int .i64 t.lo, .int .i64 t.hi], 29⟩, ⟨g3, #[.bool false, .int .i64 t.lo, .int .i64 t.hi], 25⟩, ⟨g2, #[.bool x.f, .int .i64 x.lo, .int .i64 x.hi, .bool y.f, .int .i64 y.lo, .int .i64 y.hi, .bool z.f, .int .i64 z.lo, .int .i64 z.hi], 26⟩, ⟨g1, #[.int .i64 p, .int .i64 q], 23⟩]) (fun (zz : Int × Int × Value × Value × Value × Value × Value × Value × Value × Value × Value × Value × Value × Value × Value) => match zz with | ⟨f0, w0, u15, u53, u54, u55, u56, u57, u58, u59, u60, u61, u62, u63, u64⟩ => f0 = 0 + bI x.f ∧ w0 = 0 + wrong1 x v ∧ 0 ≤ f0 ∧ f0 ≤ 1 ∧ 0 ≤ w0 ∧ w0 ≤ 1) ?_ ?_
        ·
         skip
         refine wc_block ?_
         refine wc_seq ?_
         refine wc_region ?_
         refine wl_val (.agg #[.bool x.f, .int .i64 x.lo, .int .i64 x.hi]) rfl (fun w => run_index_row (k := 0) (z := 3) (ps := #[.bool x.f, .int .i64 x.lo, .int .i64 x.hi]) rfl rfl rfl rfl (by decide) Try.underlying26 Try.underlying25 rfl (by kernel_rfl) (by simp) w) ?_
         simp only [Act.put, Xa, Xz, Xs]
         refine wl_new 25 (#[.bool false, .int .i64 0, .int .i64 0]) rfl (fun _ => by go_simp) ?_
         intro g13
         simp only [Act.put, Xa, Xz, Xs]
         refine wl_store 0 25 (.tmp 15) (.tmp 53) (#[.bool x.f, .int .i64 x.lo, .int .i64 x.hi]) rfl rfl rfl rfl rfl (by kernel_rfl) rfl (by simp [Value.oneCell']) ?_
         simp only [Act.put, List.set_cons_zero]
         refine wl_nil ?_
         refine we_then ?_
         refine wc_seq ?_
         refine wc_region ?_
         refine wl_val (.pointer (some ⟨g13, 0, none⟩)) rfl (fun _ => by go_simp) ?_
         simp only [Act.put, Xa, Xz, Xs]
         refine wl_cell 4 (.tmp 54) (.bool x.f) (own_row 0 rfl) rfl rfl rfl rfl Try.isAgg4 ?_
         simp only [Act.put, Xa, Xz, Xs]
         refine wl_nil ?_
         refine we_then ?_
         cases h14 : (x.f)
         ·
          skip
          refine wc_false rfl ?_
          refine wc_skip ?_
          refine we_in ?_
          exact we_meet ⟨(0), (0), _, _, _, _, _, _, _, _, _, _, _, _, _⟩ (by (try dsimp only); have z9 := wr_off v h14; have z8 : bI false = 0 := rfl; have z7 : bI true = 1 := rfl; omega) rfl (List.Sublist.cons _ (List.Sublist.cons_cons _ (List.Sublist.cons_cons _ (List.Sublist.cons_cons _ (List.Sublist.cons_cons _ (List.Sublist.cons_cons _ List.Sublist.slnil))))))
         ·
          skip
          refine wc_true rfl ?_
          refine wc_seq ?_
          refine wc_region ?_
          refine wl_val (.int .i64 0) rfl (fun _ => rfl) ?_
          simp only [Act.put, Xa, Xz, Xs]
          refine wl_val (.int .i64 1) rfl (fun w => run_nat (X := 0) (Y := 1) (Z := 1) rfl rfl rfl rfl (by omega) w) ?_
          simp only [Act.put, Xa, Xz, Xs]
          refine wl_val (.int .i64 1) rfl (fun _ => rfl) ?_
          simp only [Act.put, Xa, Xz, Xs]
          refine wl_nil ?_
          refine we_then ?_
          refine wc_seq ?_
          refine wc_region ?_
          refine wl_val (.pointer (some ⟨g13, 1, none⟩)) rfl (fun _ => by go_simp) ?_
          simp only [Act.put, Xa, Xz, Xs]
          refine wl_part 23 (.tmp 58) [.int .i64 x.lo, .int .i64 x.hi] (own_row 0 rfl) rfl rfl rfl rfl Try.underlying23 rfl (by kernel_rfl) ?_
          simp only [Act.put, Xa, Xz, Xs]
          refine wl_val (.int .i64 v) rfl (fun _ => rfl) ?_
          simp only [Act.put, Xa, Xz, Xs]
          refine wl_call 14 #[.agg #[.int .i64 x.lo, .int .i64 x.hi], .int .i64 v] (.bool (decide (x.lo ≤ v) && decide (v ≤ x.hi))) rfl (fun _ => by go_simp) (fun W => has_b x.lo x.hi v W) ?_
          simp only [Act.put, Xa, Xz, Xs]
          refine wl_val (.bool (!(decide (x.lo ≤ v) && decide (v ≤ x.hi)))) rfl (fun _ => by go_simp) ?_
          simp only [Act.put, Xa, Xz, Xs]
          refine wl_nil ?_
          refine we_then ?_
          cases h15 : (decide (x.lo ≤ v) && decide (v ≤ x.hi))
          ·
           skip
           have p15 : ¬ ((x.lo ≤ v) ∧ (v ≤ x.hi)) := by first | (simp; done) | (simp at h15; done) | simpa using h15
           refine wc_true rfl ?_
           refine wc_region ?_
           refine wl_val (.int .i64 0) rfl (fun _ => rfl) ?_
           simp only [Act.put, Xa, Xz, Xs]
           refine wl_val (.int .i64 1) rfl (fun w => run_nat (X := 0) (Y := 1) (Z := 1) rfl rfl rfl rfl (by omega) w) ?_
           simp only [Act.put, Xa, Xz, Xs]
           refine wl_val (.int .i64 1) rfl (fun _ => rfl) ?_
           simp only [Act.put, Xa, Xz, Xs]
           refine wl_nil ?_
           refine we_in ?_
           exact we_meet ⟨(1), (1), _, _, _, _, _, _, _, _, _, _, _, _, _⟩ (by (try dsimp only); have z9 := wr_out h14 (by omega); have z8 : bI false = 0 := rfl; have z7 : bI true = 1 := rfl; omega) rfl (List.Sublist.cons _ (List.Sublist.cons_cons _ (List.Sublist.cons_cons _ (List.Sublist.cons_cons _ (List.Sublist.cons_cons _ (List.Sublist.cons_cons _ List.Sublist.slnil))))))
          ·
           skip
           have p15 : (x.lo ≤ v) ∧ (v ≤ x.hi) := by first | (simp; done) | (simp at h15; done) | simpa using h15
           refine wc_false rfl ?_
           refine wc_skip ?_
           refine we_in ?_
           exact we_meet ⟨(1), (0), _, _, _, _, _, _, _, _, _, _, _, _, _⟩ (by (try dsimp only); have z9 := wr_in h14 (by omega); have z8 : bI false = 0 := rfl; have z7 : bI true = 1 := rfl; omega) rfl (List.Sublist.cons _ (List.Sublist.cons_cons _ (List.Sublist.cons_cons _ (List.Sublist.cons_cons _ (List.Sublist.cons_cons _ (List.Sublist.cons_cons _ List.Sublist.slnil))))))
        ·
         rintro ⟨f0, w0, u15, u53, u54, u55, u56, u57, u58, u59, u60, u61, u62, u63, u64⟩ hφ
         (try dsimp only at hφ ⊢)
         obtain ⟨e1_0, e2_0, e3_0, e4_0, e5_0, e6_0⟩ := hφ
         refine wc_region ?_
         refine wl_val (.int .i64 1) rfl (fun w => run_nat (X := 0) (Y := 1) (Z := 1) rfl rfl rfl rfl (by omega) w) ?_
         simp only [Act.put, Xa, Xz, Xs]
         refine wl_val (.int .i64 1) rfl (fun _ => rfl) ?_
         simp only [Act.put, Xa, Xz, Xs]
         refine wl_nil ?_
         refine we_round ?_
         refine wr_round ?_
         refine wc_seq ?_
         refine wc_region ?_
         refine wl_val (.bool true) rfl (fun w => run_cmp rfl rfl rfl Try.underlying3 rfl w) ?_
         simp only [Act.put, Xa, Xz, Xs]
         refine wl_nil ?_
         refine we_then ?_
         refine wc_seq ?_
         refine wc_true rfl ?_
         refine wc_skip ?_
         refine we_then ?_
         refine wc_cut (fun (zz : Int × Int × Value × Value × Value × Value × Value × Value × Value × Value × Value × Value × Value × Value × Value) => match zz with | ⟨f1, w1, u15, u53, u54, u55, u56, u57, u58, u59, u60, u61, u62, u63, u64⟩ => ({ tmps := #[.agg #[.int .i64 p, .int .i64 q], .agg #[.bool x.f, .int .i64 x.lo, .int .i64 x.hi, .bool y.f, .int .i64 y.lo, .int .i64 y.hi, .bool z.f, .int .i64 z.lo, .int .i64 z.hi], .agg #[.bool false, .int .i64 t.lo, .int .i64 t.hi], .int .i64 v, .pointer (some ⟨g1, 0, none⟩), .pointer (some ⟨g2, 0, none⟩), .pointer (some ⟨g3, 0, none⟩), undef, .bool false, .pointer (some ⟨g8, 0, none⟩), .pointer (some ⟨g9, 0, none⟩), .bool true, .int .i64 f1, .int .i64 w1, undef, u15, undef, .bool true, .bool false, .tuple #[.agg #[.int .i64 x.lo, .int .i64 x.hi, .int .i64 y.lo, .int .i64 y.hi, .int .i64 z.lo, .int .i64 z.hi, .int .i64 t.lo, .int .i64 t.hi], .agg #[.int .i64 (bI x.f), .int .i64 (bI y.f), .int .i64 (bI z.f), .int .i64 (bI false)], .bool true], .agg #[.bool x.f, .int .i64 x.lo, .int .i64 x.hi, .bool y.f, .int .i64 y.lo, .int .i64 y.hi, .bool z.f, .int .i64 z.lo, .int .i64 z.hi], .agg #[.bool false, .int .i64 t.lo, .int .i64 t.hi], .tuple #[.agg #[.int .i64 x.lo, .int .i64 x.hi, .int .i64 y.lo, .int .i64 y.hi, .int .i64 z.lo, .int .i64 z.hi, .int .i64 t.lo, .int .i64 t.hi], .agg #[.int .i64 (bI x.f), .int .i64 (bI y.f), .int .i64 (bI z.f), .int .i64 (bI false)], .bool true], .agg #[.int .i64 x.lo, .int .i64 x.hi, .int .i64 y.lo, .int .i64 y.hi, .int .i64 z.lo, .int .i64 z.hi, .int .i64 t.lo, .int .i64 t.hi], .agg #[.int .i64 (bI x.f), .int .i64 (bI y.f), .int .i64 (bI z.f), .int .i64 (bI false)], .bool true, .bool true, .bool false, .bool false, .agg #[.int .i64 p, .int .i64 q], .bool true, .bool false, .bool false, .bool false, .agg #[.int .i64 p, .int .i64 q], .int .i64 v, .bool true, .bool false, .bool false, .bool false, .pointer (some ⟨g3, 0, none⟩), .bool false, .bool false, undef, undef, undef, undef, undef, .bool false, .bool false, .agg #[.bool x.f, .int .i64 x.lo, .int .i64 x.hi, .bool y.f, .int .i64 y.lo, .int .i64 y.hi, .bool z.f, .int .i64 z.lo, .int .i64 z.hi], .int .i64 1, .bool true, u53, u54, u55, u56, u57, u58, u59, u60, u61, u62, u63, u64, .int .i64 1, undef, undef, undef, undef, undef, undef, undef, undef, undef, undef, undef, undef, undef, undef, undef, undef, undef, undef, undef, undef, undef, undef, undef, undef, undef, undef, undef, undef, undef, undef, undef, undef, undef], defers := [] } : Act)) (fun (zz : Int × Int × Value × Value × Value × Value × Value × Value × Value × Value × Value × Value × Value × Value × Value) => match zz with | ⟨f1, w1, u15, u53, u54, u55, u56, u57, u58, u59, u60, u61, u62, u63, u64⟩ => [⟨g9, #[.int .i64 (bI x.f), .int .i64 (bI y.f), .int .i64 (bI z.f), .int .i64 (bI false)], 30⟩, ⟨g8, #[.int .i64 x.lo, .int .i64 x.hi, .int .i64 y.lo, .int .i64 y.hi, .int .i64 z.lo, .int .i64 z.hi, .int .i64 t.lo, .int .i64 t.hi], 29⟩, ⟨g3, #[.bool false, .int .i64 t.lo, .int .i64 t.hi], 25⟩, ⟨g2, #[.bool x.f, .int .i64 x.lo, .int .i64 x.hi, .bool y.f, .int .i64 y.lo, .int .i64 y.hi, .bool z.f, .int .i64 z.lo, .int .i64 z.hi], 26⟩, ⟨g1, #[.int .i64 p, .int .i64 q], 23⟩]) (fun (zz : Int × Int × Value × Value × Value × Value × Value × Value × Value × Value × Value × Value × Value × Value × Value) => match zz with | ⟨f1, w1, u15, u53, u54, u55, u56, u57, u58, u59, u60, u61, u62, u63, u64⟩ => f1 = f0 + bI y.f ∧ w1 = w0 + wrong1 y v ∧ 0 ≤ f1 ∧ f1 ≤ 2 ∧ 0 ≤ w1 ∧ w1 ≤ 2) ?_ ?_
         ·
          skip
          refine wc_block ?_
          refine wc_seq ?_
          refine wc_region ?_
          refine wl_val (.agg #[.bool y.f, .int .i64 y.lo, .int .i64 y.hi]) rfl (fun w => run_index_row (k := 1) (z := 3) (ps := #[.bool y.f, .int .i64 y.lo, .int .i64 y.hi]) rfl rfl rfl rfl (by decide) Try.underlying26 Try.underlying25 rfl (by kernel_rfl) (by simp) w) ?_
          simp only [Act.put, Xa, Xz, Xs]
          refine wl_new 25 (#[.bool false, .int .i64 0, .int .i64 0]) rfl (fun _ => by go_simp) ?_
          intro g16
          simp only [Act.put, Xa, Xz, Xs]
          refine wl_store 0 25 (.tmp 15) (.tmp 53) (#[.bool y.f, .int .i64 y.lo, .int .i64 y.hi]) rfl rfl rfl rfl rfl (by kernel_rfl) rfl (by simp [Value.oneCell']) ?_
          simp only [Act.put, List.set_cons_zero]
          refine wl_nil ?_
          refine we_then ?_
          refine wc_seq ?_
          refine wc_region ?_
          refine wl_val (.pointer (some ⟨g16, 0, none⟩)) rfl (fun _ => by go_simp) ?_
          simp only [Act.put, Xa, Xz, Xs]
          refine wl_cell 4 (.tmp 54) (.bool y.f) (own_row 0 rfl) rfl rfl rfl rfl Try.isAgg4 ?_
          simp only [Act.put, Xa, Xz, Xs]
          refine wl_nil ?_
          refine we_then ?_
          cases h17 : (y.f)
          ·
           skip
           refine wc_false rfl ?_
           refine wc_skip ?_
           refine we_in ?_
           exact we_meet ⟨(f0), (w0), _, _, _, _, _, _, _, _, _, _, _, _, _⟩ (by (try dsimp only); have z9 := wr_off v h17; have z8 : bI false = 0 := rfl; have z7 : bI true = 1 := rfl; omega) rfl (List.Sublist.cons _ (List.Sublist.cons_cons _ (List.Sublist.cons_cons _ (List.Sublist.cons_cons _ (List.Sublist.cons_cons _ (List.Sublist.cons_cons _ List.Sublist.slnil))))))
          ·
           skip
           refine wc_true rfl ?_
           refine wc_seq ?_
           refine wc_region ?_
           refine wl_val (.int .i64 f0) rfl (fun _ => rfl) ?_
           simp only [Act.put, Xa, Xz, Xs]
           refine wl_val (.int .i64 (f0 + 1)) rfl (fun w => run_arith (op := .add) rfl rfl rfl Try.underlying3 (congrArg some (i64_in (by omega) (by omega))) w) ?_
           simp only [Act.put, Xa, Xz, Xs]
           refine wl_val (.int .i64 (f0 + 1)) rfl (fun _ => rfl) ?_
           simp only [Act.put, Xa, Xz, Xs]
           refine wl_nil ?_
           refine we_then ?_
           refine wc_seq ?_
           refine wc_region ?_
           refine wl_val (.pointer (some ⟨g16, 1, none⟩)) rfl (fun _ => by go_simp) ?_
           simp only [Act.put, Xa, Xz, Xs]
           refine wl_part 23 (.tmp 58) [.int .i64 y.lo, .int .i64 y.hi] (own_row 0 rfl) rfl rfl rfl rfl Try.underlying23 rfl (by kernel_rfl) ?_
           simp only [Act.put, Xa, Xz, Xs]
           refine wl_val (.int .i64 v) rfl (fun _ => rfl) ?_
           simp only [Act.put, Xa, Xz, Xs]
           refine wl_call 14 #[.agg #[.int .i64 y.lo, .int .i64 y.hi], .int .i64 v] (.bool (decide (y.lo ≤ v) && decide (v ≤ y.hi))) rfl (fun _ => by go_simp) (fun W => has_b y.lo y.hi v W) ?_
           simp only [Act.put, Xa, Xz, Xs]
           refine wl_val (.bool (!(decide (y.lo ≤ v) && decide (v ≤ y.hi)))) rfl (fun _ => by go_simp) ?_
           simp only [Act.put, Xa, Xz, Xs]
           refine wl_nil ?_
           refine we_then ?_
           cases h18 : (decide (y.lo ≤ v) && decide (v ≤ y.hi))
           ·
            skip
            have p18 : ¬ ((y.lo ≤ v) ∧ (v ≤ y.hi)) := by first | (simp; done) | (simp at h18; done) | simpa using h18
            refine wc_true rfl ?_
            refine wc_region ?_
            refine wl_val (.int .i64 w0) rfl (fun _ => rfl) ?_
            simp only [Act.put, Xa, Xz, Xs]
            refine wl_val (.int .i64 (w0 + 1)) rfl (fun w => run_arith (op := .add) rfl rfl rfl Try.underlying3 (congrArg some (i64_in (by omega) (by omega))) w) ?_
            simp only [Act.put, Xa, Xz, Xs]
            refine wl_val (.int .i64 (w0 + 1)) rfl (fun _ => rfl) ?_
            simp only [Act.put, Xa, Xz, Xs]
            refine wl_nil ?_
            refine we_in ?_
            exact we_meet ⟨(f0 + 1), (w0 + 1), _, _, _, _, _, _, _, _, _, _, _, _, _⟩ (by (try dsimp only); have z9 := wr_out h17 (by omega); have z8 : bI false = 0 := rfl; have z7 : bI true = 1 := rfl; omega) rfl (List.Sublist.cons _ (List.Sublist.cons_cons _ (List.Sublist.cons_cons _ (List.Sublist.cons_cons _ (List.Sublist.cons_cons _ (List.Sublist.cons_cons _ List.Sublist.slnil))))))
           ·
            skip
            have p18 : (y.lo ≤ v) ∧ (v ≤ y.hi) := by first | (simp; done) | (simp at h18; done) | simpa using h18
            refine wc_false rfl ?_
            refine wc_skip ?_
            refine we_in ?_
            exact we_meet ⟨(f0 + 1), (w0), _, _, _, _, _, _, _, _, _, _, _, _, _⟩ (by (try dsimp only); have z9 := wr_in h17 (by omega); have z8 : bI false = 0 := rfl; have z7 : bI true = 1 := rfl; omega) rfl (List.Sublist.cons _ (List.Sublist.cons_cons _ (List.Sublist.cons_cons _ (List.Sublist.cons_cons _ (List.Sublist.cons_cons _ (List.Sublist.cons_cons _ List.Sublist.slnil))))))
         ·
          rintro ⟨f1, w1, u15, u53, u54, u55, u56, u57, u58, u59, u60, u61, u62, u63, u64⟩ hφ
          (try dsimp only at hφ ⊢)
          obtain ⟨e1_1, e2_1, e3_1, e4_1, e5_1, e6_1⟩ := hφ
          refine wc_region ?_
          refine wl_val (.int .i64 2) rfl (fun w => run_nat (X := 1) (Y := 1) (Z := 2) rfl rfl rfl rfl (by omega) w) ?_
          simp only [Act.put, Xa, Xz, Xs]
          refine wl_val (.int .i64 2) rfl (fun _ => rfl) ?_
          simp only [Act.put, Xa, Xz, Xs]
          refine wl_nil ?_
          refine we_round ?_
          refine wr_round ?_
          refine wc_seq ?_
          refine wc_region ?_
          refine wl_val (.bool true) rfl (fun w => run_cmp rfl rfl rfl Try.underlying3 rfl w) ?_
          simp only [Act.put, Xa, Xz, Xs]
          refine wl_nil ?_
          refine we_then ?_
          refine wc_seq ?_
          refine wc_true rfl ?_
          refine wc_skip ?_
          refine we_then ?_
          refine wc_cut (fun (zz : Int × Int × Value × Value × Value × Value × Value × Value × Value × Value × Value × Value × Value × Value × Value) => match zz with | ⟨f2, w2, u15, u53, u54, u55, u56, u57, u58, u59, u60, u61, u62, u63, u64⟩ => ({ tmps := #[.agg #[.int .i64 p, .int .i64 q], .agg #[.bool x.f, .int .i64 x.lo, .int .i64 x.hi, .bool y.f, .int .i64 y.lo, .int .i64 y.hi, .bool z.f, .int .i64 z.lo, .int .i64 z.hi], .agg #[.bool false, .int .i64 t.lo, .int .i64 t.hi], .int .i64 v, .pointer (some ⟨g1, 0, none⟩), .pointer (some ⟨g2, 0, none⟩), .pointer (some ⟨g3, 0, none⟩), undef, .bool false, .pointer (some ⟨g8, 0, none⟩), .pointer (some ⟨g9, 0, none⟩), .bool true, .int .i64 f2, .int .i64 w2, undef, u15, undef, .bool true, .bool false, .tuple #[.agg #[.int .i64 x.lo, .int .i64 x.hi, .int .i64 y.lo, .int .i64 y.hi, .int .i64 z.lo, .int .i64 z.hi, .int .i64 t.lo, .int .i64 t.hi], .agg #[.int .i64 (bI x.f), .int .i64 (bI y.f), .int .i64 (bI z.f), .int .i64 (bI false)], .bool true], .agg #[.bool x.f, .int .i64 x.lo, .int .i64 x.hi, .bool y.f, .int .i64 y.lo, .int .i64 y.hi, .bool z.f, .int .i64 z.lo, .int .i64 z.hi], .agg #[.bool false, .int .i64 t.lo, .int .i64 t.hi], .tuple #[.agg #[.int .i64 x.lo, .int .i64 x.hi, .int .i64 y.lo, .int .i64 y.hi, .int .i64 z.lo, .int .i64 z.hi, .int .i64 t.lo, .int .i64 t.hi], .agg #[.int .i64 (bI x.f), .int .i64 (bI y.f), .int .i64 (bI z.f), .int .i64 (bI false)], .bool true], .agg #[.int .i64 x.lo, .int .i64 x.hi, .int .i64 y.lo, .int .i64 y.hi, .int .i64 z.lo, .int .i64 z.hi, .int .i64 t.lo, .int .i64 t.hi], .agg #[.int .i64 (bI x.f), .int .i64 (bI y.f), .int .i64 (bI z.f), .int .i64 (bI false)], .bool true, .bool true, .bool false, .bool false, .agg #[.int .i64 p, .int .i64 q], .bool true, .bool false, .bool false, .bool false, .agg #[.int .i64 p, .int .i64 q], .int .i64 v, .bool true, .bool false, .bool false, .bool false, .pointer (some ⟨g3, 0, none⟩), .bool false, .bool false, undef, undef, undef, undef, undef, .bool false, .bool false, .agg #[.bool x.f, .int .i64 x.lo, .int .i64 x.hi, .bool y.f, .int .i64 y.lo, .int .i64 y.hi, .bool z.f, .int .i64 z.lo, .int .i64 z.hi], .int .i64 2, .bool true, u53, u54, u55, u56, u57, u58, u59, u60, u61, u62, u63, u64, .int .i64 2, undef, undef, undef, undef, undef, undef, undef, undef, undef, undef, undef, undef, undef, undef, undef, undef, undef, undef, undef, undef, undef, undef, undef, undef, undef, undef, undef, undef, undef, undef, undef, undef, undef], defers := [] } : Act)) (fun (zz : Int × Int × Value × Value × Value × Value × Value × Value × Value × Value × Value × Value × Value × Value × Value) => match zz with | ⟨f2, w2, u15, u53, u54, u55, u56, u57, u58, u59, u60, u61, u62, u63, u64⟩ => [⟨g9, #[.int .i64 (bI x.f), .int .i64 (bI y.f), .int .i64 (bI z.f), .int .i64 (bI false)], 30⟩, ⟨g8, #[.int .i64 x.lo, .int .i64 x.hi, .int .i64 y.lo, .int .i64 y.hi, .int .i64 z.lo, .int .i64 z.hi, .int .i64 t.lo, .int .i64 t.hi], 29⟩, ⟨g3, #[.bool false, .int .i64 t.lo, .int .i64 t.hi], 25⟩, ⟨g2, #[.bool x.f, .int .i64 x.lo, .int .i64 x.hi, .bool y.f, .int .i64 y.lo, .int .i64 y.hi, .bool z.f, .int .i64 z.lo, .int .i64 z.hi], 26⟩, ⟨g1, #[.int .i64 p, .int .i64 q], 23⟩]) (fun (zz : Int × Int × Value × Value × Value × Value × Value × Value × Value × Value × Value × Value × Value × Value × Value) => match zz with | ⟨f2, w2, u15, u53, u54, u55, u56, u57, u58, u59, u60, u61, u62, u63, u64⟩ => f2 = f1 + bI z.f ∧ w2 = w1 + wrong1 z v ∧ 0 ≤ f2 ∧ f2 ≤ 3 ∧ 0 ≤ w2 ∧ w2 ≤ 3) ?_ ?_
          ·
           skip
           refine wc_block ?_
           refine wc_seq ?_
           refine wc_region ?_
           refine wl_val (.agg #[.bool z.f, .int .i64 z.lo, .int .i64 z.hi]) rfl (fun w => run_index_row (k := 2) (z := 3) (ps := #[.bool z.f, .int .i64 z.lo, .int .i64 z.hi]) rfl rfl rfl rfl (by decide) Try.underlying26 Try.underlying25 rfl (by kernel_rfl) (by simp) w) ?_
           simp only [Act.put, Xa, Xz, Xs]
           refine wl_new 25 (#[.bool false, .int .i64 0, .int .i64 0]) rfl (fun _ => by go_simp) ?_
           intro g19
           simp only [Act.put, Xa, Xz, Xs]
           refine wl_store 0 25 (.tmp 15) (.tmp 53) (#[.bool z.f, .int .i64 z.lo, .int .i64 z.hi]) rfl rfl rfl rfl rfl (by kernel_rfl) rfl (by simp [Value.oneCell']) ?_
           simp only [Act.put, List.set_cons_zero]
           refine wl_nil ?_
           refine we_then ?_
           refine wc_seq ?_
           refine wc_region ?_
           refine wl_val (.pointer (some ⟨g19, 0, none⟩)) rfl (fun _ => by go_simp) ?_
           simp only [Act.put, Xa, Xz, Xs]
           refine wl_cell 4 (.tmp 54) (.bool z.f) (own_row 0 rfl) rfl rfl rfl rfl Try.isAgg4 ?_
           simp only [Act.put, Xa, Xz, Xs]
           refine wl_nil ?_
           refine we_then ?_
           cases h20 : (z.f)
           ·
            skip
            refine wc_false rfl ?_
            refine wc_skip ?_
            refine we_in ?_
            exact we_meet ⟨(f1), (w1), _, _, _, _, _, _, _, _, _, _, _, _, _⟩ (by (try dsimp only); have z9 := wr_off v h20; have z8 : bI false = 0 := rfl; have z7 : bI true = 1 := rfl; omega) rfl (List.Sublist.cons _ (List.Sublist.cons_cons _ (List.Sublist.cons_cons _ (List.Sublist.cons_cons _ (List.Sublist.cons_cons _ (List.Sublist.cons_cons _ List.Sublist.slnil))))))
           ·
            skip
            refine wc_true rfl ?_
            refine wc_seq ?_
            refine wc_region ?_
            refine wl_val (.int .i64 f1) rfl (fun _ => rfl) ?_
            simp only [Act.put, Xa, Xz, Xs]
            refine wl_val (.int .i64 (f1 + 1)) rfl (fun w => run_arith (op := .add) rfl rfl rfl Try.underlying3 (congrArg some (i64_in (by omega) (by omega))) w) ?_
            simp only [Act.put, Xa, Xz, Xs]
            refine wl_val (.int .i64 (f1 + 1)) rfl (fun _ => rfl) ?_
            simp only [Act.put, Xa, Xz, Xs]
            refine wl_nil ?_
            refine we_then ?_
            refine wc_seq ?_
            refine wc_region ?_
            refine wl_val (.pointer (some ⟨g19, 1, none⟩)) rfl (fun _ => by go_simp) ?_
            simp only [Act.put, Xa, Xz, Xs]
            refine wl_part 23 (.tmp 58) [.int .i64 z.lo, .int .i64 z.hi] (own_row 0 rfl) rfl rfl rfl rfl Try.underlying23 rfl (by kernel_rfl) ?_
            simp only [Act.put, Xa, Xz, Xs]
            refine wl_val (.int .i64 v) rfl (fun _ => rfl) ?_
            simp only [Act.put, Xa, Xz, Xs]
            refine wl_call 14 #[.agg #[.int .i64 z.lo, .int .i64 z.hi], .int .i64 v] (.bool (decide (z.lo ≤ v) && decide (v ≤ z.hi))) rfl (fun _ => by go_simp) (fun W => has_b z.lo z.hi v W) ?_
            simp only [Act.put, Xa, Xz, Xs]
            refine wl_val (.bool (!(decide (z.lo ≤ v) && decide (v ≤ z.hi)))) rfl (fun _ => by go_simp) ?_
            simp only [Act.put, Xa, Xz, Xs]
            refine wl_nil ?_
            refine we_then ?_
            cases h21 : (decide (z.lo ≤ v) && decide (v ≤ z.hi))
            ·
             skip
             have p21 : ¬ ((z.lo ≤ v) ∧ (v ≤ z.hi)) := by first | (simp; done) | (simp at h21; done) | simpa using h21
             refine wc_true rfl ?_
             refine wc_region ?_
             refine wl_val (.int .i64 w1) rfl (fun _ => rfl) ?_
             simp only [Act.put, Xa, Xz, Xs]
             refine wl_val (.int .i64 (w1 + 1)) rfl (fun w => run_arith (op := .add) rfl rfl rfl Try.underlying3 (congrArg some (i64_in (by omega) (by omega))) w) ?_
             simp only [Act.put, Xa, Xz, Xs]
             refine wl_val (.int .i64 (w1 + 1)) rfl (fun _ => rfl) ?_
             simp only [Act.put, Xa, Xz, Xs]
             refine wl_nil ?_
             refine we_in ?_
             exact we_meet ⟨(f1 + 1), (w1 + 1), _, _, _, _, _, _, _, _, _, _, _, _, _⟩ (by (try dsimp only); have z9 := wr_out h20 (by omega); have z8 : bI false = 0 := rfl; have z7 : bI true = 1 := rfl; omega) rfl (List.Sublist.cons _ (List.Sublist.cons_cons _ (List.Sublist.cons_cons _ (List.Sublist.cons_cons _ (List.Sublist.cons_cons _ (List.Sublist.cons_cons _ List.Sublist.slnil))))))
            ·
             skip
             have p21 : (z.lo ≤ v) ∧ (v ≤ z.hi) := by first | (simp; done) | (simp at h21; done) | simpa using h21
             refine wc_false rfl ?_
             refine wc_skip ?_
             refine we_in ?_
             exact we_meet ⟨(f1 + 1), (w1), _, _, _, _, _, _, _, _, _, _, _, _, _⟩ (by (try dsimp only); have z9 := wr_in h20 (by omega); have z8 : bI false = 0 := rfl; have z7 : bI true = 1 := rfl; omega) rfl (List.Sublist.cons _ (List.Sublist.cons_cons _ (List.Sublist.cons_cons _ (List.Sublist.cons_cons _ (List.Sublist.cons_cons _ (List.Sublist.cons_cons _ List.Sublist.slnil))))))
          ·
           rintro ⟨f2, w2, u15, u53, u54, u55, u56, u57, u58, u59, u60, u61, u62, u63, u64⟩ hφ
           (try dsimp only at hφ ⊢)
           obtain ⟨e1_2, e2_2, e3_2, e4_2, e5_2, e6_2⟩ := hφ
           have hn3 := nF_is x y z
           have hb : ∀ b : Bool, 0 ≤ bI b ∧ bI b ≤ 1 := fun b => by cases b <;> decide
           have hb0 := hb x.f
           have hb1 := hb y.f
           have hb2 := hb z.f
           refine wc_region ?_
           refine wl_val (.int .i64 3) rfl (fun w => run_nat (X := 2) (Y := 1) (Z := 3) rfl rfl rfl rfl (by omega) w) ?_
           simp only [Act.put, Xa, Xz, Xs]
           refine wl_val (.int .i64 3) rfl (fun _ => rfl) ?_
           simp only [Act.put, Xa, Xz, Xs]
           refine wl_nil ?_
           refine we_round ?_
           refine wr_round ?_
           refine wc_seq ?_
           refine wc_region ?_
           refine wl_val (.bool false) rfl (fun w => run_cmp rfl rfl rfl Try.underlying3 rfl w) ?_
           simp only [Act.put, Xa, Xz, Xs]
           refine wl_nil ?_
           refine we_then ?_
           refine wc_seq ?_
           refine wc_false rfl ?_
           refine wc_exit ?_
           refine we_then_exit ?_
           refine we_then_exit ?_
           refine we_in_here ?_
           refine we_then ?_
           refine wc_seq ?_
           refine wc_seq ?_
           refine wc_region ?_
           refine wl_val (.int .i64 w2) rfl (fun _ => rfl) ?_
           simp only [Act.put, Xa, Xz, Xs]
           refine wl_val (.bool (decide (1 < w2))) rfl (fun w => run_cmp rfl rfl rfl Try.underlying3 rfl w) ?_
           simp only [Act.put, Xa, Xz, Xs]
           refine wl_val (.bool (decide (1 < w2))) rfl (fun _ => rfl) ?_
           simp only [Act.put, Xa, Xz, Xs]
           cases h22 : (decide (1 < w2))
           ·
            skip
            have p22 : ¬ (1 < w2) := of_decide_eq_false h22
            refine wl_val (.int .i64 w2) rfl (fun _ => rfl) ?_
            simp only [Act.put, Xa, Xz, Xs]
            refine wl_val (.bool (w2 == 1)) rfl (fun w => run_cmp rfl rfl rfl Try.underlying3 rfl w) ?_
            simp only [Act.put, Xa, Xz, Xs]
            refine wl_val (.bool (w2 == 1)) rfl (fun _ => rfl) ?_
            simp only [Act.put, Xa, Xz, Xs]
            cases h23 : (w2 == 1)
            ·
             skip
             have p23 : ¬ (w2 = 1) := by first | (simp; done) | (simp at h23; done) | simpa using h23
             refine wl_skip rfl ?_
             simp only [Act.put, Xa, Xz, Xs]
             refine wl_skip rfl ?_
             simp only [Act.put, Xa, Xz, Xs]
             refine wl_skip rfl ?_
             simp only [Act.put, Xa, Xz, Xs]
             refine wl_skip rfl ?_
             simp only [Act.put, Xa, Xz, Xs]
             refine wl_skip rfl ?_
             simp only [Act.put, Xa, Xz, Xs]
             refine wl_skip rfl ?_
             simp only [Act.put, Xa, Xz, Xs]
             refine wl_val (.bool false) rfl (fun _ => rfl) ?_
             simp only [Act.put, Xa, Xz, Xs]
             refine wl_val (.bool false) rfl (fun _ => rfl) ?_
             simp only [Act.put, Xa, Xz, Xs]
             refine wl_nil ?_
             refine we_then ?_
             refine wc_false rfl ?_
             refine wc_skip ?_
             refine we_then ?_
             refine wc_seq ?_
             have g_x := good_of h4
             have g_y := good_of h5
             have g_z := good_of h6
             have g_t := good_of h7
             have hp := may_of h10
             have hs := said_has (x := x) (y := y) (z := z) (v := v) (by omega) (fun e => by exfalso; omega)
             have e0 := spd_has (p := p) (q := q) (v := v) (x := x) (y := y) (z := z) (a := t) ⟨by omega, by omega⟩ (fun e => by rw [h12] at e; cases e) hs.1 hs.2
             have e1 : (nF x y z : Int) = f2 := by omega
             refine wc_region ?_
             refine wl_load 23 (.tmp 4) (own_row 4 rfl) rfl rfl rfl Try.underlying23 rfl (by kernel_rfl) ?_
             simp only [Act.put, Xa, Xz, Xs]
             refine wl_load 26 (.tmp 5) (own_row 3 rfl) rfl rfl rfl Try.underlying26 rfl (by kernel_rfl) ?_
             simp only [Act.put, Xa, Xz, Xs]
             refine wl_load 25 (.tmp 6) (own_row 2 rfl) rfl rfl rfl Try.underlying25 rfl (by kernel_rfl) ?_
             simp only [Act.put, Xa, Xz, Xs]
             refine wl_call 12 #[.agg #[.int .i64 p, .int .i64 q], .agg #[.bool x.f, .int .i64 x.lo, .int .i64 x.hi, .bool y.f, .int .i64 y.lo, .int .i64 y.hi, .bool z.f, .int .i64 z.lo, .int .i64 z.hi], .agg #[.bool false, .int .i64 t.lo, .int .i64 t.hi]] (.agg #[.int .i64 ((spd p q x y z t).1), .int .i64 ((spd p q x y z t).2.1), .int .i64 f2, .bool (clean x y z), .bool false, .int .i64 (slips x y z x), .int .i64 (slips x y z y)]) rfl (fun _ => by go_simp) (fun W => by have h9 := Fzz.fuse_any p q x y z t W hp g_x g_y g_z g_t; rwa [h12, e0.2.2, e1] at h9) ?_
             simp only [Act.put, Xa, Xz, Xs]
             refine wl_new 36 (#[.int .i64 0, .int .i64 0, .int .i64 0, .bool false, .bool false, .int .i64 0, .int .i64 0]) rfl (fun _ => by go_simp) ?_
             intro g24
             simp only [Act.put, Xa, Xz, Xs]
             refine wl_store 0 36 (.tmp 16) (.tmp 83) (#[.int .i64 ((spd p q x y z t).1), .int .i64 ((spd p q x y z t).2.1), .int .i64 f2, .bool (clean x y z), .bool false, .int .i64 (slips x y z x), .int .i64 (slips x y z y)]) rfl rfl rfl rfl rfl (by kernel_rfl) rfl (by simp [Value.oneCell']) ?_
             simp only [Act.put, List.set_cons_zero]
             refine wl_nil ?_
             refine we_then ?_
             refine wc_seq ?_
             refine wc_region ?_
             refine wl_val (.pointer (some ⟨g24, 0, none⟩)) rfl (fun _ => by go_simp) ?_
             simp only [Act.put, Xa, Xz, Xs]
             refine wl_part 23 (.tmp 84) [.int .i64 ((spd p q x y z t).1), .int .i64 ((spd p q x y z t).2.1)] (own_row 0 rfl) rfl rfl rfl rfl Try.underlying23 rfl (by kernel_rfl) ?_
             simp only [Act.put, Xa, Xz, Xs]
             refine wl_val (.int .i64 v) rfl (fun _ => rfl) ?_
             simp only [Act.put, Xa, Xz, Xs]
             refine wl_call 14 #[.agg #[.int .i64 ((spd p q x y z t).1), .int .i64 ((spd p q x y z t).2.1)], .int .i64 v] (.bool true) rfl (fun _ => by go_simp) (fun W => by have h9 := has_b (spd p q x y z t).1 (spd p q x y z t).2.1 v W; rwa [decide_eq_true e0.1, decide_eq_true e0.2.1] at h9) ?_
             simp only [Act.put, Xa, Xz, Xs]
             refine wl_val (.bool true) rfl (fun _ => rfl) ?_
             simp only [Act.put, Xa, Xz, Xs]
             refine wl_val (.pointer (some ⟨g24, 4, none⟩)) rfl (fun _ => by go_simp) ?_
             simp only [Act.put, Xa, Xz, Xs]
             refine wl_cell 4 (.tmp 89) (.bool false) (own_row 0 rfl) rfl rfl rfl rfl Try.isAgg4 ?_
             simp only [Act.put, Xa, Xz, Xs]
             refine wl_val (.bool true) rfl (fun _ => by go_simp) ?_
             simp only [Act.put, Xa, Xz, Xs]
             refine wl_val (.bool true) rfl (fun _ => rfl) ?_
             simp only [Act.put, Xa, Xz, Xs]
             refine wl_val (.bool true) rfl (fun _ => rfl) ?_
             simp only [Act.put, Xa, Xz, Xs]
             refine wl_val (.pointer (some ⟨g24, 2, none⟩)) rfl (fun _ => by go_simp) ?_
             simp only [Act.put, Xa, Xz, Xs]
             refine wl_cell 3 (.tmp 94) (.int .i64 f2) (own_row 0 rfl) rfl rfl rfl rfl Try.isAgg3 ?_
             simp only [Act.put, Xa, Xz, Xs]
             refine wl_val (.int .i64 f2) rfl (fun _ => rfl) ?_
             simp only [Act.put, Xa, Xz, Xs]
             refine wl_val (.bool true) rfl (fun w => run_cmp (b := true) rfl rfl rfl Try.underlying3 (by simp [cmpOf]) w) ?_
             simp only [Act.put, Xa, Xz, Xs]
             refine wl_val (.bool true) rfl (fun _ => rfl) ?_
             simp only [Act.put, Xa, Xz, Xs]
             refine wl_val (.bool true) rfl (fun _ => rfl) ?_
             simp only [Act.put, Xa, Xz, Xs]
             refine wl_nil ?_
             refine we_then ?_
             refine wc_ret ?_
             refine we_ret1 (.bool true) rfl rfl rfl (fun w1 hE => ?_)
             exact ⟨rfl, hE.below⟩
            ·
             skip
             have p23 : w2 = 1 := by first | (simp; done) | (simp at h23; done) | simpa using h23
             refine wl_val (.int .i64 f2) rfl (fun _ => rfl) ?_
             simp only [Act.put, Xa, Xz, Xs]
             refine wl_val (.bool (decide (f2 < 3))) rfl (fun w => run_cmp rfl rfl rfl Try.underlying3 rfl w) ?_
             simp only [Act.put, Xa, Xz, Xs]
             refine wl_val (.bool (decide (f2 < 3))) rfl (fun _ => rfl) ?_
             simp only [Act.put, Xa, Xz, Xs]
             cases h25 : (decide (f2 < 3))
             ·
              skip
              have p25 : ¬ (f2 < 3) := of_decide_eq_false h25
              refine wl_load 26 (.tmp 5) (own_row 3 rfl) rfl rfl rfl Try.underlying26 rfl (by kernel_rfl) ?_
              simp only [Act.put, Xa, Xz, Xs]
              refine wl_call 15 #[.agg #[.bool x.f, .int .i64 x.lo, .int .i64 x.hi, .bool y.f, .int .i64 y.lo, .int .i64 y.hi, .bool z.f, .int .i64 z.lo, .int .i64 z.hi]] (.bool (agree3 x y z)) rfl (fun _ => by go_simp) (fun W => agree_any x y z W) ?_
              simp only [Act.put, Xa, Xz, Xs]
              refine wl_val (.bool (agree3 x y z)) rfl (fun _ => rfl) ?_
              simp only [Act.put, Xa, Xz, Xs]
              refine wl_val (.bool (agree3 x y z)) rfl (fun _ => rfl) ?_
              simp only [Act.put, Xa, Xz, Xs]
              refine wl_val (.bool (agree3 x y z)) rfl (fun _ => rfl) ?_
              simp only [Act.put, Xa, Xz, Xs]
              refine wl_nil ?_
              refine we_then ?_
              cases h26 : (agree3 x y z)
              ·
               skip
               refine wc_false rfl ?_
               refine wc_skip ?_
               refine we_then ?_
               refine wc_seq ?_
               have g_x := good_of h4
               have g_y := good_of h5
               have g_z := good_of h6
               have g_t := good_of h7
               have hp := may_of h10
               have hs := said_has (x := x) (y := y) (z := z) (v := v) (by omega) (fun e => ⟨by omega, h26⟩)
               have e0 := spd_has (p := p) (q := q) (v := v) (x := x) (y := y) (z := z) (a := t) ⟨by omega, by omega⟩ (fun e => by rw [h12] at e; cases e) hs.1 hs.2
               have e1 : (nF x y z : Int) = f2 := by omega
               refine wc_region ?_
               refine wl_load 23 (.tmp 4) (own_row 4 rfl) rfl rfl rfl Try.underlying23 rfl (by kernel_rfl) ?_
               simp only [Act.put, Xa, Xz, Xs]
               refine wl_load 26 (.tmp 5) (own_row 3 rfl) rfl rfl rfl Try.underlying26 rfl (by kernel_rfl) ?_
               simp only [Act.put, Xa, Xz, Xs]
               refine wl_load 25 (.tmp 6) (own_row 2 rfl) rfl rfl rfl Try.underlying25 rfl (by kernel_rfl) ?_
               simp only [Act.put, Xa, Xz, Xs]
               refine wl_call 12 #[.agg #[.int .i64 p, .int .i64 q], .agg #[.bool x.f, .int .i64 x.lo, .int .i64 x.hi, .bool y.f, .int .i64 y.lo, .int .i64 y.hi, .bool z.f, .int .i64 z.lo, .int .i64 z.hi], .agg #[.bool false, .int .i64 t.lo, .int .i64 t.hi]] (.agg #[.int .i64 ((spd p q x y z t).1), .int .i64 ((spd p q x y z t).2.1), .int .i64 f2, .bool (clean x y z), .bool false, .int .i64 (slips x y z x), .int .i64 (slips x y z y)]) rfl (fun _ => by go_simp) (fun W => by have h9 := Fzz.fuse_any p q x y z t W hp g_x g_y g_z g_t; rwa [h12, e0.2.2, e1] at h9) ?_
               simp only [Act.put, Xa, Xz, Xs]
               refine wl_new 36 (#[.int .i64 0, .int .i64 0, .int .i64 0, .bool false, .bool false, .int .i64 0, .int .i64 0]) rfl (fun _ => by go_simp) ?_
               intro g27
               simp only [Act.put, Xa, Xz, Xs]
               refine wl_store 0 36 (.tmp 16) (.tmp 83) (#[.int .i64 ((spd p q x y z t).1), .int .i64 ((spd p q x y z t).2.1), .int .i64 f2, .bool (clean x y z), .bool false, .int .i64 (slips x y z x), .int .i64 (slips x y z y)]) rfl rfl rfl rfl rfl (by kernel_rfl) rfl (by simp [Value.oneCell']) ?_
               simp only [Act.put, List.set_cons_zero]
               refine wl_nil ?_
               refine we_then ?_
               refine wc_seq ?_
               refine wc_region ?_
               refine wl_val (.pointer (some ⟨g27, 0, none⟩)) rfl (fun _ => by go_simp) ?_
               simp only [Act.put, Xa, Xz, Xs]
               refine wl_part 23 (.tmp 84) [.int .i64 ((spd p q x y z t).1), .int .i64 ((spd p q x y z t).2.1)] (own_row 0 rfl) rfl rfl rfl rfl Try.underlying23 rfl (by kernel_rfl) ?_
               simp only [Act.put, Xa, Xz, Xs]
               refine wl_val (.int .i64 v) rfl (fun _ => rfl) ?_
               simp only [Act.put, Xa, Xz, Xs]
               refine wl_call 14 #[.agg #[.int .i64 ((spd p q x y z t).1), .int .i64 ((spd p q x y z t).2.1)], .int .i64 v] (.bool true) rfl (fun _ => by go_simp) (fun W => by have h9 := has_b (spd p q x y z t).1 (spd p q x y z t).2.1 v W; rwa [decide_eq_true e0.1, decide_eq_true e0.2.1] at h9) ?_
               simp only [Act.put, Xa, Xz, Xs]
               refine wl_val (.bool true) rfl (fun _ => rfl) ?_
               simp only [Act.put, Xa, Xz, Xs]
               refine wl_val (.pointer (some ⟨g27, 4, none⟩)) rfl (fun _ => by go_simp) ?_
               simp only [Act.put, Xa, Xz, Xs]
               refine wl_cell 4 (.tmp 89) (.bool false) (own_row 0 rfl) rfl rfl rfl rfl Try.isAgg4 ?_
               simp only [Act.put, Xa, Xz, Xs]
               refine wl_val (.bool true) rfl (fun _ => by go_simp) ?_
               simp only [Act.put, Xa, Xz, Xs]
               refine wl_val (.bool true) rfl (fun _ => rfl) ?_
               simp only [Act.put, Xa, Xz, Xs]
               refine wl_val (.bool true) rfl (fun _ => rfl) ?_
               simp only [Act.put, Xa, Xz, Xs]
               refine wl_val (.pointer (some ⟨g27, 2, none⟩)) rfl (fun _ => by go_simp) ?_
               simp only [Act.put, Xa, Xz, Xs]
               refine wl_cell 3 (.tmp 94) (.int .i64 f2) (own_row 0 rfl) rfl rfl rfl rfl Try.isAgg3 ?_
               simp only [Act.put, Xa, Xz, Xs]
               refine wl_val (.int .i64 f2) rfl (fun _ => rfl) ?_
               simp only [Act.put, Xa, Xz, Xs]
               refine wl_val (.bool true) rfl (fun w => run_cmp (b := true) rfl rfl rfl Try.underlying3 (by simp [cmpOf]) w) ?_
               simp only [Act.put, Xa, Xz, Xs]
               refine wl_val (.bool true) rfl (fun _ => rfl) ?_
               simp only [Act.put, Xa, Xz, Xs]
               refine wl_val (.bool true) rfl (fun _ => rfl) ?_
               simp only [Act.put, Xa, Xz, Xs]
               refine wl_nil ?_
               refine we_then ?_
               refine wc_ret ?_
               refine we_ret1 (.bool true) rfl rfl rfl (fun w1 hE => ?_)
               exact ⟨rfl, hE.below⟩
              ·
               skip
               refine wc_true rfl ?_
               refine wc_seq ?_
               refine wc_region ?_
               refine wl_val (.bool true) rfl (fun _ => rfl) ?_
               simp only [Act.put, Xa, Xz, Xs]
               refine wl_nil ?_
               refine we_then ?_
               refine wc_ret ?_
               refine we_then_ret ?_
               refine we_ret1 (.bool true) rfl rfl rfl (fun w1 hE => ?_)
               exact ⟨rfl, hE.below⟩
             ·
              skip
              have p25 : f2 < 3 := of_decide_eq_true h25
              refine wl_skip rfl ?_
              simp only [Act.put, Xa, Xz, Xs]
              refine wl_skip rfl ?_
              simp only [Act.put, Xa, Xz, Xs]
              refine wl_val (.bool true) rfl (fun _ => rfl) ?_
              simp only [Act.put, Xa, Xz, Xs]
              refine wl_val (.bool true) rfl (fun _ => rfl) ?_
              simp only [Act.put, Xa, Xz, Xs]
              refine wl_val (.bool true) rfl (fun _ => rfl) ?_
              simp only [Act.put, Xa, Xz, Xs]
              refine wl_nil ?_
              refine we_then ?_
              refine wc_true rfl ?_
              refine wc_seq ?_
              refine wc_region ?_
              refine wl_val (.bool true) rfl (fun _ => rfl) ?_
              simp only [Act.put, Xa, Xz, Xs]
              refine wl_nil ?_
              refine we_then ?_
              refine wc_ret ?_
              refine we_then_ret ?_
              refine we_ret1 (.bool true) rfl rfl rfl (fun w1 hE => ?_)
              exact ⟨rfl, hE.below⟩
           ·
            skip
            have p22 : 1 < w2 := of_decide_eq_true h22
            refine wl_skip rfl ?_
            simp only [Act.put, Xa, Xz, Xs]
            refine wl_skip rfl ?_
            simp only [Act.put, Xa, Xz, Xs]
            refine wl_skip rfl ?_
            simp only [Act.put, Xa, Xz, Xs]
            refine wl_skip rfl ?_
            simp only [Act.put, Xa, Xz, Xs]
            refine wl_skip rfl ?_
            simp only [Act.put, Xa, Xz, Xs]
            refine wl_skip rfl ?_
            simp only [Act.put, Xa, Xz, Xs]
            refine wl_skip rfl ?_
            simp only [Act.put, Xa, Xz, Xs]
            refine wl_skip rfl ?_
            simp only [Act.put, Xa, Xz, Xs]
            refine wl_skip rfl ?_
            simp only [Act.put, Xa, Xz, Xs]
            refine wl_skip rfl ?_
            simp only [Act.put, Xa, Xz, Xs]
            refine wl_val (.bool true) rfl (fun _ => rfl) ?_
            simp only [Act.put, Xa, Xz, Xs]
            refine wl_nil ?_
            refine we_then ?_
            refine wc_true rfl ?_
            refine wc_seq ?_
            refine wc_region ?_
            refine wl_val (.bool true) rfl (fun _ => rfl) ?_
            simp only [Act.put, Xa, Xz, Xs]
            refine wl_nil ?_
            refine we_then ?_
            refine wc_ret ?_
            refine we_then_ret ?_
            refine we_ret1 (.bool true) rfl rfl rfl (fun w1 hE => ?_)
            exact ⟨rfl, hE.below⟩
       ·
        skip
        refine wl_val (.pointer (some ⟨g3, 1, none⟩)) rfl (fun _ => by go_simp) ?_
        simp only [Act.put, Xa, Xz, Xs]
        refine wl_part 23 (.tmp 43) [.int .i64 t.lo, .int .i64 t.hi] (own_row 2 rfl) rfl rfl rfl rfl Try.underlying23 rfl (by kernel_rfl) ?_
        simp only [Act.put, Xa, Xz, Xs]
        refine wl_val (.int .i64 v) rfl (fun _ => rfl) ?_
        simp only [Act.put, Xa, Xz, Xs]
        refine wl_call 14 #[.agg #[.int .i64 t.lo, .int .i64 t.hi], .int .i64 v] (.bool (decide (t.lo ≤ v) && decide (v ≤ t.hi))) rfl (fun _ => by go_simp) (fun W => has_b t.lo t.hi v W) ?_
        simp only [Act.put, Xa, Xz, Xs]
        refine wl_val (.bool (!(decide (t.lo ≤ v) && decide (v ≤ t.hi)))) rfl (fun _ => by go_simp) ?_
        simp only [Act.put, Xa, Xz, Xs]
        refine wl_val (.bool (!(decide (t.lo ≤ v) && decide (v ≤ t.hi)))) rfl (fun _ => rfl) ?_
        simp only [Act.put, Xa, Xz, Xs]
        refine wl_val (.bool (!(decide (t.lo ≤ v) && decide (v ≤ t.hi)))) rfl (fun _ => rfl) ?_
        simp only [Act.put, Xa, Xz, Xs]
        refine wl_nil ?_
        refine we_then ?_
        cases h28 : (decide (t.lo ≤ v) && decide (v ≤ t.hi))
        ·
         skip
         have p28 : ¬ ((t.lo ≤ v) ∧ (v ≤ t.hi)) := by first | (simp; done) | (simp at h28; done) | simpa using h28
         refine wc_true rfl ?_
         refine wc_seq ?_
         refine wc_region ?_
         refine wl_val (.bool true) rfl (fun _ => rfl) ?_
         simp only [Act.put, Xa, Xz, Xs]
         refine wl_nil ?_
         refine we_then ?_
         refine wc_ret ?_
         refine we_then_ret ?_
         refine we_ret1 (.bool true) rfl rfl rfl (fun w1 hE => ?_)
         exact ⟨rfl, hE.below⟩
        ·
         skip
         have p28 : (t.lo ≤ v) ∧ (v ≤ t.hi) := by first | (simp; done) | (simp at h28; done) | simpa using h28
         refine wc_false rfl ?_
         refine wc_skip ?_
         refine we_then ?_
         refine wc_seq ?_
         refine wc_region ?_
         refine wl_val (.int .i64 0) rfl (fun _ => rfl) ?_
         simp only [Act.put, Xa, Xz, Xs]
         refine wl_val (.int .i64 0) rfl (fun _ => rfl) ?_
         simp only [Act.put, Xa, Xz, Xs]
         refine wl_nil ?_
         refine we_then ?_
         refine wc_seq ?_
         refine wc_seq ?_
         refine wc_region ?_
         refine wl_load 26 (.tmp 5) (own_row 3 rfl) rfl rfl rfl Try.underlying26 rfl (by kernel_rfl) ?_
         simp only [Act.put, Xa, Xz, Xs]
         refine wl_val (.int .i64 0) rfl (fun _ => rfl) ?_
         simp only [Act.put, Xa, Xz, Xs]
         refine wl_nil ?_
         refine we_then ?_
         refine wc_block ?_
         refine wr_start 4 ?_
         refine wr_round ?_
         refine wc_seq ?_
         refine wc_region ?_
         refine wl_val (.bool true) rfl (fun w => run_cmp rfl rfl rfl Try.underlying3 rfl w) ?_
         simp only [Act.put, Xa, Xz, Xs]
         refine wl_nil ?_
         refine we_then ?_
         refine wc_seq ?_
         refine wc_true rfl ?_
         refine wc_skip ?_
         refine we_then ?_
         refine wc_cut (fun (zz : Int × Int × Value × Value × Value × Value × Value × Value × Value × Value × Value × Value × Value × Value × Value) => match zz with | ⟨f0, w0, u15, u53, u54, u55, u56, u57, u58, u59, u60, u61, u62, u63, u64⟩ => ({ tmps := #[.agg #[.int .i64 p, .int .i64 q], .agg #[.bool x.f, .int .i64 x.lo, .int .i64 x.hi, .bool y.f, .int .i64 y.lo, .int .i64 y.hi, .bool z.f, .int .i64 z.lo, .int .i64 z.hi], .agg #[.bool true, .int .i64 t.lo, .int .i64 t.hi], .int .i64 v, .pointer (some ⟨g1, 0, none⟩), .pointer (some ⟨g2, 0, none⟩), .pointer (some ⟨g3, 0, none⟩), undef, .bool false, .pointer (some ⟨g8, 0, none⟩), .pointer (some ⟨g9, 0, none⟩), .bool true, .int .i64 f0, .int .i64 w0, undef, u15, undef, .bool true, .bool false, .tuple #[.agg #[.int .i64 x.lo, .int .i64 x.hi, .int .i64 y.lo, .int .i64 y.hi, .int .i64 z.lo, .int .i64 z.hi, .int .i64 t.lo, .int .i64 t.hi], .agg #[.int .i64 (bI x.f), .int .i64 (bI y.f), .int .i64 (bI z.f), .int .i64 (bI true)], .bool true], .agg #[.bool x.f, .int .i64 x.lo, .int .i64 x.hi, .bool y.f, .int .i64 y.lo, .int .i64 y.hi, .bool z.f, .int .i64 z.lo, .int .i64 z.hi], .agg #[.bool true, .int .i64 t.lo, .int .i64 t.hi], .tuple #[.agg #[.int .i64 x.lo, .int .i64 x.hi, .int .i64 y.lo, .int .i64 y.hi, .int .i64 z.lo, .int .i64 z.hi, .int .i64 t.lo, .int .i64 t.hi], .agg #[.int .i64 (bI x.f), .int .i64 (bI y.f), .int .i64 (bI z.f), .int .i64 (bI true)], .bool true], .agg #[.int .i64 x.lo, .int .i64 x.hi, .int .i64 y.lo, .int .i64 y.hi, .int .i64 z.lo, .int .i64 z.hi, .int .i64 t.lo, .int .i64 t.hi], .agg #[.int .i64 (bI x.f), .int .i64 (bI y.f), .int .i64 (bI z.f), .int .i64 (bI true)], .bool true, .bool true, .bool false, .bool false, .agg #[.int .i64 p, .int .i64 q], .bool true, .bool false, .bool false, .bool false, .agg #[.int .i64 p, .int .i64 q], .int .i64 v, .bool true, .bool false, .bool false, .bool false, .pointer (some ⟨g3, 0, none⟩), .bool true, .bool true, .pointer (some ⟨g3, 1, none⟩), .agg #[.int .i64 t.lo, .int .i64 t.hi], .int .i64 v, .bool true, .bool false, .bool false, .bool false, .agg #[.bool x.f, .int .i64 x.lo, .int .i64 x.hi, .bool y.f, .int .i64 y.lo, .int .i64 y.hi, .bool z.f, .int .i64 z.lo, .int .i64 z.hi], .int .i64 0, .bool true, u53, u54, u55, u56, u57, u58, u59, u60, u61, u62, u63, u64, undef, undef, undef, undef, undef, undef, undef, undef, undef, undef, undef, undef, undef, undef, undef, undef, undef, undef, undef, undef, undef, undef, undef, undef, undef, undef, undef, undef, undef, undef, undef, undef, undef, undef], defers := [] } : Act)) (fun (zz : Int × Int × Value × Value × Value × Value × Value × Value × Value × Value × Value × Value × Value × Value × Value) => match zz with | ⟨f0, w0, u15, u53, u54, u55, u56, u57, u58, u59, u60, u61, u62, u63, u64⟩ => [⟨g9, #[.int .i64 (bI x.f), .int .i64 (bI y.f), .int .i64 (bI z.f), .int .i64 (bI true)], 30⟩, ⟨g8, #[.int .i64 x.lo, .int .i64 x.hi, .int .i64 y.lo, .int .i64 y.hi, .int .i64 z.lo, .int .i64 z.hi, .int .i64 t.lo, .int .i64 t.hi], 29⟩, ⟨g3, #[.bool true, .int .i64 t.lo, .int .i64 t.hi], 25⟩, ⟨g2, #[.bool x.f, .int .i64 x.lo, .int .i64 x.hi, .bool y.f, .int .i64 y.lo, .int .i64 y.hi, .bool z.f, .int .i64 z.lo, .int .i64 z.hi], 26⟩, ⟨g1, #[.int .i64 p, .int .i64 q], 23⟩]) (fun (zz : Int × Int × Value × Value × Value × Value × Value × Value × Value × Value × Value × Value × Value × Value × Value) => match zz with | ⟨f0, w0, u15, u53, u54, u55, u56, u57, u58, u59, u60, u61, u62, u63, u64⟩ => f0 = 0 + bI x.f ∧ w0 = 0 + wrong1 x v ∧ 0 ≤ f0 ∧ f0 ≤ 1 ∧ 0 ≤ w0 ∧ w0 ≤ 1) ?_ ?_
         ·
          skip
          refine wc_block ?_
          refine wc_seq ?_
          refine wc_region ?_
          refine wl_val (.agg #[.bool x.f, .int .i64 x.lo, .int .i64 x.hi]) rfl (fun w => run_index_row (k := 0) (z := 3) (ps := #[.bool x.f, .int .i64 x.lo, .int .i64 x.hi]) rfl rfl rfl rfl (by decide) Try.underlying26 Try.underlying25 rfl (by kernel_rfl) (by simp) w) ?_
          simp only [Act.put, Xa, Xz, Xs]
          refine wl_new 25 (#[.bool false, .int .i64 0, .int .i64 0]) rfl (fun _ => by go_simp) ?_
          intro g29
          simp only [Act.put, Xa, Xz, Xs]
          refine wl_store 0 25 (.tmp 15) (.tmp 53) (#[.bool x.f, .int .i64 x.lo, .int .i64 x.hi]) rfl rfl rfl rfl rfl (by kernel_rfl) rfl (by simp [Value.oneCell']) ?_
          simp only [Act.put, List.set_cons_zero]
          refine wl_nil ?_
          refine we_then ?_
          refine wc_seq ?_
          refine wc_region ?_
          refine wl_val (.pointer (some ⟨g29, 0, none⟩)) rfl (fun _ => by go_simp) ?_
          simp only [Act.put, Xa, Xz, Xs]
          refine wl_cell 4 (.tmp 54) (.bool x.f) (own_row 0 rfl) rfl rfl rfl rfl Try.isAgg4 ?_
          simp only [Act.put, Xa, Xz, Xs]
          refine wl_nil ?_
          refine we_then ?_
          cases h30 : (x.f)
          ·
           skip
           refine wc_false rfl ?_
           refine wc_skip ?_
           refine we_in ?_
           exact we_meet ⟨(0), (0), _, _, _, _, _, _, _, _, _, _, _, _, _⟩ (by (try dsimp only); have z9 := wr_off v h30; have z8 : bI false = 0 := rfl; have z7 : bI true = 1 := rfl; omega) rfl (List.Sublist.cons _ (List.Sublist.cons_cons _ (List.Sublist.cons_cons _ (List.Sublist.cons_cons _ (List.Sublist.cons_cons _ (List.Sublist.cons_cons _ List.Sublist.slnil))))))
          ·
           skip
           refine wc_true rfl ?_
           refine wc_seq ?_
           refine wc_region ?_
           refine wl_val (.int .i64 0) rfl (fun _ => rfl) ?_
           simp only [Act.put, Xa, Xz, Xs]
           refine wl_val (.int .i64 1) rfl (fun w => run_nat (X := 0) (Y := 1) (Z := 1) rfl rfl rfl rfl (by omega) w) ?_
           simp only [Act.put, Xa, Xz, Xs]
           refine wl_val (.int .i64 1) rfl (fun _ => rfl) ?_
           simp only [Act.put, Xa, Xz, Xs]
           refine wl_nil ?_
           refine we_then ?_
           refine wc_seq ?_
           refine wc_region ?_
           refine wl_val (.pointer (some ⟨g29, 1, none⟩)) rfl (fun _ => by go_simp) ?_
           simp only [Act.put, Xa, Xz, Xs]
           refine wl_part 23 (.tmp 58) [.int .i64 x.lo, .int .i64 x.hi] (own_row 0 rfl) rfl rfl rfl rfl Try.underlying23 rfl (by kernel_rfl) ?_
           simp only [Act.put, Xa, Xz, Xs]
           refine wl_val (.int .i64 v) rfl (fun _ => rfl) ?_
           simp only [Act.put, Xa, Xz, Xs]
           refine wl_call 14 #[.agg #[.int .i64 x.lo, .int .i64 x.hi], .int .i64 v] (.bool (decide (x.lo ≤ v) && decide (v ≤ x.hi))) rfl (fun _ => by go_simp) (fun W => has_b x.lo x.hi v W) ?_
           simp only [Act.put, Xa, Xz, Xs]
           refine wl_val (.bool (!(decide (x.lo ≤ v) && decide (v ≤ x.hi)))) rfl (fun _ => by go_simp) ?_
           simp only [Act.put, Xa, Xz, Xs]
           refine wl_nil ?_
           refine we_then ?_
           cases h31 : (decide (x.lo ≤ v) && decide (v ≤ x.hi))
           ·
            skip
            have p31 : ¬ ((x.lo ≤ v) ∧ (v ≤ x.hi)) := by first | (simp; done) | (simp at h31; done) | simpa using h31
            refine wc_true rfl ?_
            refine wc_region ?_
            refine wl_val (.int .i64 0) rfl (fun _ => rfl) ?_
            simp only [Act.put, Xa, Xz, Xs]
            refine wl_val (.int .i64 1) rfl (fun w => run_nat (X := 0) (Y := 1) (Z := 1) rfl rfl rfl rfl (by omega) w) ?_
            simp only [Act.put, Xa, Xz, Xs]
            refine wl_val (.int .i64 1) rfl (fun _ => rfl) ?_
            simp only [Act.put, Xa, Xz, Xs]
            refine wl_nil ?_
            refine we_in ?_
            exact we_meet ⟨(1), (1), _, _, _, _, _, _, _, _, _, _, _, _, _⟩ (by (try dsimp only); have z9 := wr_out h30 (by omega); have z8 : bI false = 0 := rfl; have z7 : bI true = 1 := rfl; omega) rfl (List.Sublist.cons _ (List.Sublist.cons_cons _ (List.Sublist.cons_cons _ (List.Sublist.cons_cons _ (List.Sublist.cons_cons _ (List.Sublist.cons_cons _ List.Sublist.slnil))))))
           ·
            skip
            have p31 : (x.lo ≤ v) ∧ (v ≤ x.hi) := by first | (simp; done) | (simp at h31; done) | simpa using h31
            refine wc_false rfl ?_
            refine wc_skip ?_
            refine we_in ?_
            exact we_meet ⟨(1), (0), _, _, _, _, _, _, _, _, _, _, _, _, _⟩ (by (try dsimp only); have z9 := wr_in h30 (by omega); have z8 : bI false = 0 := rfl; have z7 : bI true = 1 := rfl; omega) rfl (List.Sublist.cons _ (List.Sublist.cons_cons _ (List.Sublist.cons_cons _ (List.Sublist.cons_cons _ (List.Sublist.cons_cons _ (List.Sublist.cons_cons _ List.Sublist.slnil))))))
         ·
          rintro ⟨f0, w0, u15, u53, u54, u55, u56, u57, u58, u59, u60, u61, u62, u63, u64⟩ hφ
          (try dsimp only at hφ ⊢)
          obtain ⟨e1_0, e2_0, e3_0, e4_0, e5_0, e6_0⟩ := hφ
          refine wc_region ?_
          refine wl_val (.int .i64 1) rfl (fun w => run_nat (X := 0) (Y := 1) (Z := 1) rfl rfl rfl rfl (by omega) w) ?_
          simp only [Act.put, Xa, Xz, Xs]
          refine wl_val (.int .i64 1) rfl (fun _ => rfl) ?_
          simp only [Act.put, Xa, Xz, Xs]
          refine wl_nil ?_
          refine we_round ?_
          refine wr_round ?_
          refine wc_seq ?_
          refine wc_region ?_
          refine wl_val (.bool true) rfl (fun w => run_cmp rfl rfl rfl Try.underlying3 rfl w) ?_
          simp only [Act.put, Xa, Xz, Xs]
          refine wl_nil ?_
          refine we_then ?_
          refine wc_seq ?_
          refine wc_true rfl ?_
          refine wc_skip ?_
          refine we_then ?_
          refine wc_cut (fun (zz : Int × Int × Value × Value × Value × Value × Value × Value × Value × Value × Value × Value × Value × Value × Value) => match zz with | ⟨f1, w1, u15, u53, u54, u55, u56, u57, u58, u59, u60, u61, u62, u63, u64⟩ => ({ tmps := #[.agg #[.int .i64 p, .int .i64 q], .agg #[.bool x.f, .int .i64 x.lo, .int .i64 x.hi, .bool y.f, .int .i64 y.lo, .int .i64 y.hi, .bool z.f, .int .i64 z.lo, .int .i64 z.hi], .agg #[.bool true, .int .i64 t.lo, .int .i64 t.hi], .int .i64 v, .pointer (some ⟨g1, 0, none⟩), .pointer (some ⟨g2, 0, none⟩), .pointer (some ⟨g3, 0, none⟩), undef, .bool false, .pointer (some ⟨g8, 0, none⟩), .pointer (some ⟨g9, 0, none⟩), .bool true, .int .i64 f1, .int .i64 w1, undef, u15, undef, .bool true, .bool false, .tuple #[.agg #[.int .i64 x.lo, .int .i64 x.hi, .int .i64 y.lo, .int .i64 y.hi, .int .i64 z.lo, .int .i64 z.hi, .int .i64 t.lo, .int .i64 t.hi], .agg #[.int .i64 (bI x.f), .int .i64 (bI y.f), .int .i64 (bI z.f), .int .i64 (bI true)], .bool true], .agg #[.bool x.f, .int .i64 x.lo, .int .i64 x.hi, .bool y.f, .int .i64 y.lo, .int .i64 y.hi, .bool z.f, .int .i64 z.lo, .int .i64 z.hi], .agg #[.bool true, .int .i64 t.lo, .int .i64 t.hi], .tuple #[.agg #[.int .i64 x.lo, .int .i64 x.hi, .int .i64 y.lo, .int .i64 y.hi, .int .i64 z.lo, .int .i64 z.hi, .int .i64 t.lo, .int .i64 t.hi], .agg #[.int .i64 (bI x.f), .int .i64 (bI y.f), .int .i64 (bI z.f), .int .i64 (bI true)], .bool true], .agg #[.int .i64 x.lo, .int .i64 x.hi, .int .i64 y.lo, .int .i64 y.hi, .int .i64 z.lo, .int .i64 z.hi, .int .i64 t.lo, .int .i64 t.hi], .agg #[.int .i64 (bI x.f), .int .i64 (bI y.f), .int .i64 (bI z.f), .int .i64 (bI true)], .bool true, .bool true, .bool false, .bool false, .agg #[.int .i64 p, .int .i64 q], .bool true, .bool false, .bool false, .bool false, .agg #[.int .i64 p, .int .i64 q], .int .i64 v, .bool true, .bool false, .bool false, .bool false, .pointer (some ⟨g3, 0, none⟩), .bool true, .bool true, .pointer (some ⟨g3, 1, none⟩), .agg #[.int .i64 t.lo, .int .i64 t.hi], .int .i64 v, .bool true, .bool false, .bool false, .bool false, .agg #[.bool x.f, .int .i64 x.lo, .int .i64 x.hi, .bool y.f, .int .i64 y.lo, .int .i64 y.hi, .bool z.f, .int .i64 z.lo, .int .i64 z.hi], .int .i64 1, .bool true, u53, u54, u55, u56, u57, u58, u59, u60, u61, u62, u63, u64, .int .i64 1, undef, undef, undef, undef, undef, undef, undef, undef, undef, undef, undef, undef, undef, undef, undef, undef, undef, undef, undef, undef, undef, undef, undef, undef, undef, undef, undef, undef, undef, undef, undef, undef, undef], defers := [] } : Act)) (fun (zz : Int × Int × Value × Value × Value × Value × Value × Value × Value × Value × Value × Value × Value × Value × Value) => match zz with | ⟨f1, w1, u15, u53, u54, u55, u56, u57, u58, u59, u60, u61, u62, u63, u64⟩ => [⟨g9, #[.int .i64 (bI x.f), .int .i64 (bI y.f), .int .i64 (bI z.f), .int .i64 (bI true)], 30⟩, ⟨g8, #[.int .i64 x.lo, .int .i64 x.hi, .int .i64 y.lo, .int .i64 y.hi, .int .i64 z.lo, .int .i64 z.hi, .int .i64 t.lo, .int .i64 t.hi], 29⟩, ⟨g3, #[.bool true, .int .i64 t.lo, .int .i64 t.hi], 25⟩, ⟨g2, #[.bool x.f, .int .i64 x.lo, .int .i64 x.hi, .bool y.f, .int .i64 y.lo, .int .i64 y.hi, .bool z.f, .int .i64 z.lo, .int .i64 z.hi], 26⟩, ⟨g1, #[.int .i64 p, .int .i64 q], 23⟩]) (fun (zz : Int × Int × Value × Value × Value × Value × Value × Value × Value × Value × Value × Value × Value × Value × Value) => match zz with | ⟨f1, w1, u15, u53, u54, u55, u56, u57, u58, u59, u60, u61, u62, u63, u64⟩ => f1 = f0 + bI y.f ∧ w1 = w0 + wrong1 y v ∧ 0 ≤ f1 ∧ f1 ≤ 2 ∧ 0 ≤ w1 ∧ w1 ≤ 2) ?_ ?_
          ·
           skip
           refine wc_block ?_
           refine wc_seq ?_
           refine wc_region ?_
           refine wl_val (.agg #[.bool y.f, .int .i64 y.lo, .int .i64 y.hi]) rfl (fun w => run_index_row (k := 1) (z := 3) (ps := #[.bool y.f, .int .i64 y.lo, .int .i64 y.hi]) rfl rfl rfl rfl (by decide) Try.underlying26 Try.underlying25 rfl (by kernel_rfl) (by simp) w) ?_
           simp only [Act.put, Xa, Xz, Xs]
           refine wl_new 25 (#[.bool false, .int .i64 0, .int .i64 0]) rfl (fun _ => by go_simp) ?_
           intro g32
           simp only [Act.put, Xa, Xz, Xs]
           refine wl_store 0 25 (.tmp 15) (.tmp 53) (#[.bool y.f, .int .i64 y.lo, .int .i64 y.hi]) rfl rfl rfl rfl rfl (by kernel_rfl) rfl (by simp [Value.oneCell']) ?_
           simp only [Act.put, List.set_cons_zero]
           refine wl_nil ?_
           refine we_then ?_
           refine wc_seq ?_
           refine wc_region ?_
           refine wl_val (.pointer (some ⟨g32, 0, none⟩)) rfl (fun _ => by go_simp) ?_
           simp only [Act.put, Xa, Xz, Xs]
           refine wl_cell 4 (.tmp 54) (.bool y.f) (own_row 0 rfl) rfl rfl rfl rfl Try.isAgg4 ?_
           simp only [Act.put, Xa, Xz, Xs]
           refine wl_nil ?_
           refine we_then ?_
           cases h33 : (y.f)
           ·
            skip
            refine wc_false rfl ?_
            refine wc_skip ?_
            refine we_in ?_
            exact we_meet ⟨(f0), (w0), _, _, _, _, _, _, _, _, _, _, _, _, _⟩ (by (try dsimp only); have z9 := wr_off v h33; have z8 : bI false = 0 := rfl; have z7 : bI true = 1 := rfl; omega) rfl (List.Sublist.cons _ (List.Sublist.cons_cons _ (List.Sublist.cons_cons _ (List.Sublist.cons_cons _ (List.Sublist.cons_cons _ (List.Sublist.cons_cons _ List.Sublist.slnil))))))
           ·
            skip
            refine wc_true rfl ?_
            refine wc_seq ?_
            refine wc_region ?_
            refine wl_val (.int .i64 f0) rfl (fun _ => rfl) ?_
            simp only [Act.put, Xa, Xz, Xs]
            refine wl_val (.int .i64 (f0 + 1)) rfl (fun w => run_arith (op := .add) rfl rfl rfl Try.underlying3 (congrArg some (i64_in (by omega) (by omega))) w) ?_
            simp only [Act.put, Xa, Xz, Xs]
            refine wl_val (.int .i64 (f0 + 1)) rfl (fun _ => rfl) ?_
            simp only [Act.put, Xa, Xz, Xs]
            refine wl_nil ?_
            refine we_then ?_
            refine wc_seq ?_
            refine wc_region ?_
            refine wl_val (.pointer (some ⟨g32, 1, none⟩)) rfl (fun _ => by go_simp) ?_
            simp only [Act.put, Xa, Xz, Xs]
            refine wl_part 23 (.tmp 58) [.int .i64 y.lo, .int .i64 y.hi] (own_row 0 rfl) rfl rfl rfl rfl Try.underlying23 rfl (by kernel_rfl) ?_
            simp only [Act.put, Xa, Xz, Xs]
            refine wl_val (.int .i64 v) rfl (fun _ => rfl) ?_
            simp only [Act.put, Xa, Xz, Xs]
            refine wl_call 14 #[.agg #[.int .i64 y.lo, .int .i64 y.hi], .int .i64 v] (.bool (decide (y.lo ≤ v) && decide (v ≤ y.hi))) rfl (fun _ => by go_simp) (fun W => has_b y.lo y.hi v W) ?_
            simp only [Act.put, Xa, Xz, Xs]
            refine wl_val (.bool (!(decide (y.lo ≤ v) && decide (v ≤ y.hi)))) rfl (fun _ => by go_simp) ?_
            simp only [Act.put, Xa, Xz, Xs]
            refine wl_nil ?_
            refine we_then ?_
            cases h34 : (decide (y.lo ≤ v) && decide (v ≤ y.hi))
            ·
             skip
             have p34 : ¬ ((y.lo ≤ v) ∧ (v ≤ y.hi)) := by first | (simp; done) | (simp at h34; done) | simpa using h34
             refine wc_true rfl ?_
             refine wc_region ?_
             refine wl_val (.int .i64 w0) rfl (fun _ => rfl) ?_
             simp only [Act.put, Xa, Xz, Xs]
             refine wl_val (.int .i64 (w0 + 1)) rfl (fun w => run_arith (op := .add) rfl rfl rfl Try.underlying3 (congrArg some (i64_in (by omega) (by omega))) w) ?_
             simp only [Act.put, Xa, Xz, Xs]
             refine wl_val (.int .i64 (w0 + 1)) rfl (fun _ => rfl) ?_
             simp only [Act.put, Xa, Xz, Xs]
             refine wl_nil ?_
             refine we_in ?_
             exact we_meet ⟨(f0 + 1), (w0 + 1), _, _, _, _, _, _, _, _, _, _, _, _, _⟩ (by (try dsimp only); have z9 := wr_out h33 (by omega); have z8 : bI false = 0 := rfl; have z7 : bI true = 1 := rfl; omega) rfl (List.Sublist.cons _ (List.Sublist.cons_cons _ (List.Sublist.cons_cons _ (List.Sublist.cons_cons _ (List.Sublist.cons_cons _ (List.Sublist.cons_cons _ List.Sublist.slnil))))))
            ·
             skip
             have p34 : (y.lo ≤ v) ∧ (v ≤ y.hi) := by first | (simp; done) | (simp at h34; done) | simpa using h34
             refine wc_false rfl ?_
             refine wc_skip ?_
             refine we_in ?_
             exact we_meet ⟨(f0 + 1), (w0), _, _, _, _, _, _, _, _, _, _, _, _, _⟩ (by (try dsimp only); have z9 := wr_in h33 (by omega); have z8 : bI false = 0 := rfl; have z7 : bI true = 1 := rfl; omega) rfl (List.Sublist.cons _ (List.Sublist.cons_cons _ (List.Sublist.cons_cons _ (List.Sublist.cons_cons _ (List.Sublist.cons_cons _ (List.Sublist.cons_cons _ List.Sublist.slnil))))))
          ·
           rintro ⟨f1, w1, u15, u53, u54, u55, u56, u57, u58, u59, u60, u61, u62, u63, u64⟩ hφ
           (try dsimp only at hφ ⊢)
           obtain ⟨e1_1, e2_1, e3_1, e4_1, e5_1, e6_1⟩ := hφ
           refine wc_region ?_
           refine wl_val (.int .i64 2) rfl (fun w => run_nat (X := 1) (Y := 1) (Z := 2) rfl rfl rfl rfl (by omega) w) ?_
           simp only [Act.put, Xa, Xz, Xs]
           refine wl_val (.int .i64 2) rfl (fun _ => rfl) ?_
           simp only [Act.put, Xa, Xz, Xs]
           refine wl_nil ?_
           refine we_round ?_
           refine wr_round ?_
           refine wc_seq ?_
           refine wc_region ?_
           refine wl_val (.bool true) rfl (fun w => run_cmp rfl rfl rfl Try.underlying3 rfl w) ?_
           simp only [Act.put, Xa, Xz, Xs]
           refine wl_nil ?_
           refine we_then ?_
           refine wc_seq ?_
           refine wc_true rfl ?_
           refine wc_skip ?_
           refine we_then ?_
           refine wc_cut (fun (zz : Int × Int × Value × Value × Value × Value × Value × Value × Value × Value × Value × Value × Value × Value × Value) => match zz with | ⟨f2, w2, u15, u53, u54, u55, u56, u57, u58, u59, u60, u61, u62, u63, u64⟩ => ({ tmps := #[.agg #[.int .i64 p, .int .i64 q], .agg #[.bool x.f, .int .i64 x.lo, .int .i64 x.hi, .bool y.f, .int .i64 y.lo, .int .i64 y.hi, .bool z.f, .int .i64 z.lo, .int .i64 z.hi], .agg #[.bool true, .int .i64 t.lo, .int .i64 t.hi], .int .i64 v, .pointer (some ⟨g1, 0, none⟩), .pointer (some ⟨g2, 0, none⟩), .pointer (some ⟨g3, 0, none⟩), undef, .bool false, .pointer (some ⟨g8, 0, none⟩), .pointer (some ⟨g9, 0, none⟩), .bool true, .int .i64 f2, .int .i64 w2, undef, u15, undef, .bool true, .bool false, .tuple #[.agg #[.int .i64 x.lo, .int .i64 x.hi, .int .i64 y.lo, .int .i64 y.hi, .int .i64 z.lo, .int .i64 z.hi, .int .i64 t.lo, .int .i64 t.hi], .agg #[.int .i64 (bI x.f), .int .i64 (bI y.f), .int .i64 (bI z.f), .int .i64 (bI true)], .bool true], .agg #[.bool x.f, .int .i64 x.lo, .int .i64 x.hi, .bool y.f, .int .i64 y.lo, .int .i64 y.hi, .bool z.f, .int .i64 z.lo, .int .i64 z.hi], .agg #[.bool true, .int .i64 t.lo, .int .i64 t.hi], .tuple #[.agg #[.int .i64 x.lo, .int .i64 x.hi, .int .i64 y.lo, .int .i64 y.hi, .int .i64 z.lo, .int .i64 z.hi, .int .i64 t.lo, .int .i64 t.hi], .agg #[.int .i64 (bI x.f), .int .i64 (bI y.f), .int .i64 (bI z.f), .int .i64 (bI true)], .bool true], .agg #[.int .i64 x.lo, .int .i64 x.hi, .int .i64 y.lo, .int .i64 y.hi, .int .i64 z.lo, .int .i64 z.hi, .int .i64 t.lo, .int .i64 t.hi], .agg #[.int .i64 (bI x.f), .int .i64 (bI y.f), .int .i64 (bI z.f), .int .i64 (bI true)], .bool true, .bool true, .bool false, .bool false, .agg #[.int .i64 p, .int .i64 q], .bool true, .bool false, .bool false, .bool false, .agg #[.int .i64 p, .int .i64 q], .int .i64 v, .bool true, .bool false, .bool false, .bool false, .pointer (some ⟨g3, 0, none⟩), .bool true, .bool true, .pointer (some ⟨g3, 1, none⟩), .agg #[.int .i64 t.lo, .int .i64 t.hi], .int .i64 v, .bool true, .bool false, .bool false, .bool false, .agg #[.bool x.f, .int .i64 x.lo, .int .i64 x.hi, .bool y.f, .int .i64 y.lo, .int .i64 y.hi, .bool z.f, .int .i64 z.lo, .int .i64 z.hi], .int .i64 2, .bool true, u53, u54, u55, u56, u57, u58, u59, u60, u61, u62, u63, u64, .int .i64 2, undef, undef, undef, undef, undef, undef, undef, undef, undef, undef, undef, undef, undef, undef, undef, undef, undef, undef, undef, undef, undef, undef, undef, undef, undef, undef, undef, undef, undef, undef, undef, undef, undef], defers := [] } : Act)) (fun (zz : Int × Int × Value × Value × Value × Value × Value × Value × Value × Value × Value × Value × Value × Value × Value) => match zz with | ⟨f2, w2, u15, u53, u54, u55, u56, u57, u58, u59, u60, u61, u62, u63, u64⟩ => [⟨g9, #[.int .i64 (bI x.f), .int .i64 (bI y.f), .int .i64 (bI z.f), .int .i64 (bI true)], 30⟩, ⟨g8, #[.int .i64 x.lo, .int .i64 x.hi, .int .i64 y.lo, .int .i64 y.hi, .int .i64 z.lo, .int .i64 z.hi, .int .i64 t.lo, .int .i64 t.hi], 29⟩, ⟨g3, #[.bool true, .int .i64 t.lo, .int .i64 t.hi], 25⟩, ⟨g2, #[.bool x.f, .int .i64 x.lo, .int .i64 x.hi, .bool y.f, .int .i64 y.lo, .int .i64 y.hi, .bool z.f, .int .i64 z.lo, .int .i64 z.hi], 26⟩, ⟨g1, #[.int .i64 p, .int .i64 q], 23⟩]) (fun (zz : Int × Int × Value × Value × Value × Value × Value × Value × Value × Value × Value × Value × Value × Value × Value) => match zz with | ⟨f2, w2, u15, u53, u54, u55, u56, u57, u58, u59, u60, u61, u62, u63, u64⟩ => f2 = f1 + bI z.f ∧ w2 = w1 + wrong1 z v ∧ 0 ≤ f2 ∧ f2 ≤ 3 ∧ 0 ≤ w2 ∧ w2 ≤ 3) ?_ ?_
           ·
            skip
            refine wc_block ?_
            refine wc_seq ?_
            refine wc_region ?_
            refine wl_val (.agg #[.bool z.f, .int .i64 z.lo, .int .i64 z.hi]) rfl (fun w => run_index_row (k := 2) (z := 3) (ps := #[.bool z.f, .int .i64 z.lo, .int .i64 z.hi]) rfl rfl rfl rfl (by decide) Try.underlying26 Try.underlying25 rfl (by kernel_rfl) (by simp) w) ?_
            simp only [Act.put, Xa, Xz, Xs]
            refine wl_new 25 (#[.bool false, .int .i64 0, .int .i64 0]) rfl (fun _ => by go_simp) ?_
            intro g35
            simp only [Act.put, Xa, Xz, Xs]
            refine wl_store 0 25 (.tmp 15) (.tmp 53) (#[.bool z.f, .int .i64 z.lo, .int .i64 z.hi]) rfl rfl rfl rfl rfl (by kernel_rfl) rfl (by simp [Value.oneCell']) ?_
            simp only [Act.put, List.set_cons_zero]
            refine wl_nil ?_
            refine we_then ?_
            refine wc_seq ?_
            refine wc_region ?_
            refine wl_val (.pointer (some ⟨g35, 0, none⟩)) rfl (fun _ => by go_simp) ?_
            simp only [Act.put, Xa, Xz, Xs]
            refine wl_cell 4 (.tmp 54) (.bool z.f) (own_row 0 rfl) rfl rfl rfl rfl Try.isAgg4 ?_
            simp only [Act.put, Xa, Xz, Xs]
            refine wl_nil ?_
            refine we_then ?_
            cases h36 : (z.f)
            ·
             skip
             refine wc_false rfl ?_
             refine wc_skip ?_
             refine we_in ?_
             exact we_meet ⟨(f1), (w1), _, _, _, _, _, _, _, _, _, _, _, _, _⟩ (by (try dsimp only); have z9 := wr_off v h36; have z8 : bI false = 0 := rfl; have z7 : bI true = 1 := rfl; omega) rfl (List.Sublist.cons _ (List.Sublist.cons_cons _ (List.Sublist.cons_cons _ (List.Sublist.cons_cons _ (List.Sublist.cons_cons _ (List.Sublist.cons_cons _ List.Sublist.slnil))))))
            ·
             skip
             refine wc_true rfl ?_
             refine wc_seq ?_
             refine wc_region ?_
             refine wl_val (.int .i64 f1) rfl (fun _ => rfl) ?_
             simp only [Act.put, Xa, Xz, Xs]
             refine wl_val (.int .i64 (f1 + 1)) rfl (fun w => run_arith (op := .add) rfl rfl rfl Try.underlying3 (congrArg some (i64_in (by omega) (by omega))) w) ?_
             simp only [Act.put, Xa, Xz, Xs]
             refine wl_val (.int .i64 (f1 + 1)) rfl (fun _ => rfl) ?_
             simp only [Act.put, Xa, Xz, Xs]
             refine wl_nil ?_
             refine we_then ?_
             refine wc_seq ?_
             refine wc_region ?_
             refine wl_val (.pointer (some ⟨g35, 1, none⟩)) rfl (fun _ => by go_simp) ?_
             simp only [Act.put, Xa, Xz, Xs]
             refine wl_part 23 (.tmp 58) [.int .i64 z.lo, .int .i64 z.hi] (own_row 0 rfl) rfl rfl rfl rfl Try.underlying23 rfl (by kernel_rfl) ?_
             simp only [Act.put, Xa, Xz, Xs]
             refine wl_val (.int .i64 v) rfl (fun _ => rfl) ?_
             simp only [Act.put, Xa, Xz, Xs]
             refine wl_call 14 #[.agg #[.int .i64 z.lo, .int .i64 z.hi], .int .i64 v] (.bool (decide (z.lo ≤ v) && decide (v ≤ z.hi))) rfl (fun _ => by go_simp) (fun W => has_b z.lo z.hi v W) ?_
             simp only [Act.put, Xa, Xz, Xs]
             refine wl_val (.bool (!(decide (z.lo ≤ v) && decide (v ≤ z.hi)))) rfl (fun _ => by go_simp) ?_
             simp only [Act.put, Xa, Xz, Xs]
             refine wl_nil ?_
             refine we_then ?_
             cases h37 : (decide (z.lo ≤ v) && decide (v ≤ z.hi))
             ·
              skip
              have p37 : ¬ ((z.lo ≤ v) ∧ (v ≤ z.hi)) := by first | (simp; done) | (simp at h37; done) | simpa using h37
              refine wc_true rfl ?_
              refine wc_region ?_
              refine wl_val (.int .i64 w1) rfl (fun _ => rfl) ?_
              simp only [Act.put, Xa, Xz, Xs]
              refine wl_val (.int .i64 (w1 + 1)) rfl (fun w => run_arith (op := .add) rfl rfl rfl Try.underlying3 (congrArg some (i64_in (by omega) (by omega))) w) ?_
              simp only [Act.put, Xa, Xz, Xs]
              refine wl_val (.int .i64 (w1 + 1)) rfl (fun _ => rfl) ?_
              simp only [Act.put, Xa, Xz, Xs]
              refine wl_nil ?_
              refine we_in ?_
              exact we_meet ⟨(f1 + 1), (w1 + 1), _, _, _, _, _, _, _, _, _, _, _, _, _⟩ (by (try dsimp only); have z9 := wr_out h36 (by omega); have z8 : bI false = 0 := rfl; have z7 : bI true = 1 := rfl; omega) rfl (List.Sublist.cons _ (List.Sublist.cons_cons _ (List.Sublist.cons_cons _ (List.Sublist.cons_cons _ (List.Sublist.cons_cons _ (List.Sublist.cons_cons _ List.Sublist.slnil))))))
             ·
              skip
              have p37 : (z.lo ≤ v) ∧ (v ≤ z.hi) := by first | (simp; done) | (simp at h37; done) | simpa using h37
              refine wc_false rfl ?_
              refine wc_skip ?_
              refine we_in ?_
              exact we_meet ⟨(f1 + 1), (w1), _, _, _, _, _, _, _, _, _, _, _, _, _⟩ (by (try dsimp only); have z9 := wr_in h36 (by omega); have z8 : bI false = 0 := rfl; have z7 : bI true = 1 := rfl; omega) rfl (List.Sublist.cons _ (List.Sublist.cons_cons _ (List.Sublist.cons_cons _ (List.Sublist.cons_cons _ (List.Sublist.cons_cons _ (List.Sublist.cons_cons _ List.Sublist.slnil))))))
           ·
            rintro ⟨f2, w2, u15, u53, u54, u55, u56, u57, u58, u59, u60, u61, u62, u63, u64⟩ hφ
            (try dsimp only at hφ ⊢)
            obtain ⟨e1_2, e2_2, e3_2, e4_2, e5_2, e6_2⟩ := hφ
            have hn3 := nF_is x y z
            have hb : ∀ b : Bool, 0 ≤ bI b ∧ bI b ≤ 1 := fun b => by cases b <;> decide
            have hb0 := hb x.f
            have hb1 := hb y.f
            have hb2 := hb z.f
            refine wc_region ?_
            refine wl_val (.int .i64 3) rfl (fun w => run_nat (X := 2) (Y := 1) (Z := 3) rfl rfl rfl rfl (by omega) w) ?_
            simp only [Act.put, Xa, Xz, Xs]
            refine wl_val (.int .i64 3) rfl (fun _ => rfl) ?_
            simp only [Act.put, Xa, Xz, Xs]
            refine wl_nil ?_
            refine we_round ?_
            refine wr_round ?_
            refine wc_seq ?_
            refine wc_region ?_
            refine wl_val (.bool false) rfl (fun w => run_cmp rfl rfl rfl Try.underlying3 rfl w) ?_
            simp only [Act.put, Xa, Xz, Xs]
            refine wl_nil ?_
            refine we_then ?_
            refine wc_seq ?_
            refine wc_false rfl ?_
            refine wc_exit ?_
            refine we_then_exit ?_
            refine we_then_exit ?_
            refine we_in_here ?_
            refine we_then ?_
            refine wc_seq ?_
            refine wc_seq ?_
            refine wc_region ?_
            refine wl_val (.int .i64 w2) rfl (fun _ => rfl) ?_
            simp only [Act.put, Xa, Xz, Xs]
            refine wl_val (.bool (decide (1 < w2))) rfl (fun w => run_cmp rfl rfl rfl Try.underlying3 rfl w) ?_
            simp only [Act.put, Xa, Xz, Xs]
            refine wl_val (.bool (decide (1 < w2))) rfl (fun _ => rfl) ?_
            simp only [Act.put, Xa, Xz, Xs]
            cases h38 : (decide (1 < w2))
            ·
             skip
             have p38 : ¬ (1 < w2) := of_decide_eq_false h38
             refine wl_val (.int .i64 w2) rfl (fun _ => rfl) ?_
             simp only [Act.put, Xa, Xz, Xs]
             refine wl_val (.bool (w2 == 1)) rfl (fun w => run_cmp rfl rfl rfl Try.underlying3 rfl w) ?_
             simp only [Act.put, Xa, Xz, Xs]
             refine wl_val (.bool (w2 == 1)) rfl (fun _ => rfl) ?_
             simp only [Act.put, Xa, Xz, Xs]
             cases h39 : (w2 == 1)
             ·
              skip
              have p39 : ¬ (w2 = 1) := by first | (simp; done) | (simp at h39; done) | simpa using h39
              refine wl_skip rfl ?_
              simp only [Act.put, Xa, Xz, Xs]
              refine wl_skip rfl ?_
              simp only [Act.put, Xa, Xz, Xs]
              refine wl_skip rfl ?_
              simp only [Act.put, Xa, Xz, Xs]
              refine wl_skip rfl ?_
              simp only [Act.put, Xa, Xz, Xs]
              refine wl_skip rfl ?_
              simp only [Act.put, Xa, Xz, Xs]
              refine wl_skip rfl ?_
              simp only [Act.put, Xa, Xz, Xs]
              refine wl_val (.bool false) rfl (fun _ => rfl) ?_
              simp only [Act.put, Xa, Xz, Xs]
              refine wl_val (.bool false) rfl (fun _ => rfl) ?_
              simp only [Act.put, Xa, Xz, Xs]
              refine wl_nil ?_
              refine we_then ?_
              refine wc_false rfl ?_
              refine wc_skip ?_
              refine we_then ?_
              refine wc_seq ?_
              have g_x := good_of h4
              have g_y := good_of h5
              have g_z := good_of h6
              have g_t := good_of h7
              have hp := may_of h10
              have hs := said_has (x := x) (y := y) (z := z) (v := v) (by omega) (fun e => by exfalso; omega)
              have e0 := spd_has (p := p) (q := q) (v := v) (x := x) (y := y) (z := z) (a := t) ⟨by omega, by omega⟩ (fun e => ⟨by omega, by omega⟩) hs.1 hs.2
              have e1 : (nF x y z : Int) = f2 := by omega
              refine wc_region ?_
              refine wl_load 23 (.tmp 4) (own_row 4 rfl) rfl rfl rfl Try.underlying23 rfl (by kernel_rfl) ?_
              simp only [Act.put, Xa, Xz, Xs]
              refine wl_load 26 (.tmp 5) (own_row 3 rfl) rfl rfl rfl Try.underlying26 rfl (by kernel_rfl) ?_
              simp only [Act.put, Xa, Xz, Xs]
              refine wl_load 25 (.tmp 6) (own_row 2 rfl) rfl rfl rfl Try.underlying25 rfl (by kernel_rfl) ?_
              simp only [Act.put, Xa, Xz, Xs]
              refine wl_call 12 #[.agg #[.int .i64 p, .int .i64 q], .agg #[.bool x.f, .int .i64 x.lo, .int .i64 x.hi, .bool y.f, .int .i64 y.lo, .int .i64 y.hi, .bool z.f, .int .i64 z.lo, .int .i64 z.hi], .agg #[.bool true, .int .i64 t.lo, .int .i64 t.hi]] (.agg #[.int .i64 ((spd p q x y z t).1), .int .i64 ((spd p q x y z t).2.1), .int .i64 f2, .bool (clean x y z), .bool false, .int .i64 (slips x y z x), .int .i64 (slips x y z y)]) rfl (fun _ => by go_simp) (fun W => by have h9 := Fzz.fuse_any p q x y z t W hp g_x g_y g_z g_t; rwa [h12, e0.2.2, e1] at h9) ?_
              simp only [Act.put, Xa, Xz, Xs]
              refine wl_new 36 (#[.int .i64 0, .int .i64 0, .int .i64 0, .bool false, .bool false, .int .i64 0, .int .i64 0]) rfl (fun _ => by go_simp) ?_
              intro g40
              simp only [Act.put, Xa, Xz, Xs]
              refine wl_store 0 36 (.tmp 16) (.tmp 83) (#[.int .i64 ((spd p q x y z t).1), .int .i64 ((spd p q x y z t).2.1), .int .i64 f2, .bool (clean x y z), .bool false, .int .i64 (slips x y z x), .int .i64 (slips x y z y)]) rfl rfl rfl rfl rfl (by kernel_rfl) rfl (by simp [Value.oneCell']) ?_
              simp only [Act.put, List.set_cons_zero]
              refine wl_nil ?_
              refine we_then ?_
              refine wc_seq ?_
              refine wc_region ?_
              refine wl_val (.pointer (some ⟨g40, 0, none⟩)) rfl (fun _ => by go_simp) ?_
              simp only [Act.put, Xa, Xz, Xs]
              refine wl_part 23 (.tmp 84) [.int .i64 ((spd p q x y z t).1), .int .i64 ((spd p q x y z t).2.1)] (own_row 0 rfl) rfl rfl rfl rfl Try.underlying23 rfl (by kernel_rfl) ?_
              simp only [Act.put, Xa, Xz, Xs]
              refine wl_val (.int .i64 v) rfl (fun _ => rfl) ?_
              simp only [Act.put, Xa, Xz, Xs]
              refine wl_call 14 #[.agg #[.int .i64 ((spd p q x y z t).1), .int .i64 ((spd p q x y z t).2.1)], .int .i64 v] (.bool true) rfl (fun _ => by go_simp) (fun W => by have h9 := has_b (spd p q x y z t).1 (spd p q x y z t).2.1 v W; rwa [decide_eq_true e0.1, decide_eq_true e0.2.1] at h9) ?_
              simp only [Act.put, Xa, Xz, Xs]
              refine wl_val (.bool true) rfl (fun _ => rfl) ?_
              simp only [Act.put, Xa, Xz, Xs]
              refine wl_val (.pointer (some ⟨g40, 4, none⟩)) rfl (fun _ => by go_simp) ?_
              simp only [Act.put, Xa, Xz, Xs]
              refine wl_cell 4 (.tmp 89) (.bool false) (own_row 0 rfl) rfl rfl rfl rfl Try.isAgg4 ?_
              simp only [Act.put, Xa, Xz, Xs]
              refine wl_val (.bool true) rfl (fun _ => by go_simp) ?_
              simp only [Act.put, Xa, Xz, Xs]
              refine wl_val (.bool true) rfl (fun _ => rfl) ?_
              simp only [Act.put, Xa, Xz, Xs]
              refine wl_val (.bool true) rfl (fun _ => rfl) ?_
              simp only [Act.put, Xa, Xz, Xs]
              refine wl_val (.pointer (some ⟨g40, 2, none⟩)) rfl (fun _ => by go_simp) ?_
              simp only [Act.put, Xa, Xz, Xs]
              refine wl_cell 3 (.tmp 94) (.int .i64 f2) (own_row 0 rfl) rfl rfl rfl rfl Try.isAgg3 ?_
              simp only [Act.put, Xa, Xz, Xs]
              refine wl_val (.int .i64 f2) rfl (fun _ => rfl) ?_
              simp only [Act.put, Xa, Xz, Xs]
              refine wl_val (.bool true) rfl (fun w => run_cmp (b := true) rfl rfl rfl Try.underlying3 (by simp [cmpOf]) w) ?_
              simp only [Act.put, Xa, Xz, Xs]
              refine wl_val (.bool true) rfl (fun _ => rfl) ?_
              simp only [Act.put, Xa, Xz, Xs]
              refine wl_val (.bool true) rfl (fun _ => rfl) ?_
              simp only [Act.put, Xa, Xz, Xs]
              refine wl_nil ?_
              refine we_then ?_
              refine wc_ret ?_
              refine we_ret1 (.bool true) rfl rfl rfl (fun w1 hE => ?_)
              exact ⟨rfl, hE.below⟩
             ·
              skip
              have p39 : w2 = 1 := by first | (simp; done) | (simp at h39; done) | simpa using h39
              refine wl_val (.int .i64 f2) rfl (fun _ => rfl) ?_
              simp only [Act.put, Xa, Xz, Xs]
              refine wl_val (.bool (decide (f2 < 3))) rfl (fun w => run_cmp rfl rfl rfl Try.underlying3 rfl w) ?_
              simp only [Act.put, Xa, Xz, Xs]
              refine wl_val (.bool (decide (f2 < 3))) rfl (fun _ => rfl) ?_
              simp only [Act.put, Xa, Xz, Xs]
              cases h41 : (decide (f2 < 3))
              ·
               skip
               have p41 : ¬ (f2 < 3) := of_decide_eq_false h41
               refine wl_load 26 (.tmp 5) (own_row 3 rfl) rfl rfl rfl Try.underlying26 rfl (by kernel_rfl) ?_
               simp only [Act.put, Xa, Xz, Xs]
               refine wl_call 15 #[.agg #[.bool x.f, .int .i64 x.lo, .int .i64 x.hi, .bool y.f, .int .i64 y.lo, .int .i64 y.hi, .bool z.f, .int .i64 z.lo, .int .i64 z.hi]] (.bool (agree3 x y z)) rfl (fun _ => by go_simp) (fun W => agree_any x y z W) ?_
               simp only [Act.put, Xa, Xz, Xs]
               refine wl_val (.bool (agree3 x y z)) rfl (fun _ => rfl) ?_
               simp only [Act.put, Xa, Xz, Xs]
               refine wl_val (.bool (agree3 x y z)) rfl (fun _ => rfl) ?_
               simp only [Act.put, Xa, Xz, Xs]
               refine wl_val (.bool (agree3 x y z)) rfl (fun _ => rfl) ?_
               simp only [Act.put, Xa, Xz, Xs]
               refine wl_nil ?_
               refine we_then ?_
               cases h42 : (agree3 x y z)
               ·
                skip
                refine wc_false rfl ?_
                refine wc_skip ?_
                refine we_then ?_
                refine wc_seq ?_
                have g_x := good_of h4
                have g_y := good_of h5
                have g_z := good_of h6
                have g_t := good_of h7
                have hp := may_of h10
                have hs := said_has (x := x) (y := y) (z := z) (v := v) (by omega) (fun e => ⟨by omega, h42⟩)
                have e0 := spd_has (p := p) (q := q) (v := v) (x := x) (y := y) (z := z) (a := t) ⟨by omega, by omega⟩ (fun e => ⟨by omega, by omega⟩) hs.1 hs.2
                have e1 : (nF x y z : Int) = f2 := by omega
                refine wc_region ?_
                refine wl_load 23 (.tmp 4) (own_row 4 rfl) rfl rfl rfl Try.underlying23 rfl (by kernel_rfl) ?_
                simp only [Act.put, Xa, Xz, Xs]
                refine wl_load 26 (.tmp 5) (own_row 3 rfl) rfl rfl rfl Try.underlying26 rfl (by kernel_rfl) ?_
                simp only [Act.put, Xa, Xz, Xs]
                refine wl_load 25 (.tmp 6) (own_row 2 rfl) rfl rfl rfl Try.underlying25 rfl (by kernel_rfl) ?_
                simp only [Act.put, Xa, Xz, Xs]
                refine wl_call 12 #[.agg #[.int .i64 p, .int .i64 q], .agg #[.bool x.f, .int .i64 x.lo, .int .i64 x.hi, .bool y.f, .int .i64 y.lo, .int .i64 y.hi, .bool z.f, .int .i64 z.lo, .int .i64 z.hi], .agg #[.bool true, .int .i64 t.lo, .int .i64 t.hi]] (.agg #[.int .i64 ((spd p q x y z t).1), .int .i64 ((spd p q x y z t).2.1), .int .i64 f2, .bool (clean x y z), .bool false, .int .i64 (slips x y z x), .int .i64 (slips x y z y)]) rfl (fun _ => by go_simp) (fun W => by have h9 := Fzz.fuse_any p q x y z t W hp g_x g_y g_z g_t; rwa [h12, e0.2.2, e1] at h9) ?_
                simp only [Act.put, Xa, Xz, Xs]
                refine wl_new 36 (#[.int .i64 0, .int .i64 0, .int .i64 0, .bool false, .bool false, .int .i64 0, .int .i64 0]) rfl (fun _ => by go_simp) ?_
                intro g43
                simp only [Act.put, Xa, Xz, Xs]
                refine wl_store 0 36 (.tmp 16) (.tmp 83) (#[.int .i64 ((spd p q x y z t).1), .int .i64 ((spd p q x y z t).2.1), .int .i64 f2, .bool (clean x y z), .bool false, .int .i64 (slips x y z x), .int .i64 (slips x y z y)]) rfl rfl rfl rfl rfl (by kernel_rfl) rfl (by simp [Value.oneCell']) ?_
                simp only [Act.put, List.set_cons_zero]
                refine wl_nil ?_
                refine we_then ?_
                refine wc_seq ?_
                refine wc_region ?_
                refine wl_val (.pointer (some ⟨g43, 0, none⟩)) rfl (fun _ => by go_simp) ?_
                simp only [Act.put, Xa, Xz, Xs]
                refine wl_part 23 (.tmp 84) [.int .i64 ((spd p q x y z t).1), .int .i64 ((spd p q x y z t).2.1)] (own_row 0 rfl) rfl rfl rfl rfl Try.underlying23 rfl (by kernel_rfl) ?_
                simp only [Act.put, Xa, Xz, Xs]
                refine wl_val (.int .i64 v) rfl (fun _ => rfl) ?_
                simp only [Act.put, Xa, Xz, Xs]
                refine wl_call 14 #[.agg #[.int .i64 ((spd p q x y z t).1), .int .i64 ((spd p q x y z t).2.1)], .int .i64 v] (.bool true) rfl (fun _ => by go_simp) (fun W => by have h9 := has_b (spd p q x y z t).1 (spd p q x y z t).2.1 v W; rwa [decide_eq_true e0.1, decide_eq_true e0.2.1] at h9) ?_
                simp only [Act.put, Xa, Xz, Xs]
                refine wl_val (.bool true) rfl (fun _ => rfl) ?_
                simp only [Act.put, Xa, Xz, Xs]
                refine wl_val (.pointer (some ⟨g43, 4, none⟩)) rfl (fun _ => by go_simp) ?_
                simp only [Act.put, Xa, Xz, Xs]
                refine wl_cell 4 (.tmp 89) (.bool false) (own_row 0 rfl) rfl rfl rfl rfl Try.isAgg4 ?_
                simp only [Act.put, Xa, Xz, Xs]
                refine wl_val (.bool true) rfl (fun _ => by go_simp) ?_
                simp only [Act.put, Xa, Xz, Xs]
                refine wl_val (.bool true) rfl (fun _ => rfl) ?_
                simp only [Act.put, Xa, Xz, Xs]
                refine wl_val (.bool true) rfl (fun _ => rfl) ?_
                simp only [Act.put, Xa, Xz, Xs]
                refine wl_val (.pointer (some ⟨g43, 2, none⟩)) rfl (fun _ => by go_simp) ?_
                simp only [Act.put, Xa, Xz, Xs]
                refine wl_cell 3 (.tmp 94) (.int .i64 f2) (own_row 0 rfl) rfl rfl rfl rfl Try.isAgg3 ?_
                simp only [Act.put, Xa, Xz, Xs]
                refine wl_val (.int .i64 f2) rfl (fun _ => rfl) ?_
                simp only [Act.put, Xa, Xz, Xs]
                refine wl_val (.bool true) rfl (fun w => run_cmp (b := true) rfl rfl rfl Try.underlying3 (by simp [cmpOf]) w) ?_
                simp only [Act.put, Xa, Xz, Xs]
                refine wl_val (.bool true) rfl (fun _ => rfl) ?_
                simp only [Act.put, Xa, Xz, Xs]
                refine wl_val (.bool true) rfl (fun _ => rfl) ?_
                simp only [Act.put, Xa, Xz, Xs]
                refine wl_nil ?_
                refine we_then ?_
                refine wc_ret ?_
                refine we_ret1 (.bool true) rfl rfl rfl (fun w1 hE => ?_)
                exact ⟨rfl, hE.below⟩
               ·
                skip
                refine wc_true rfl ?_
                refine wc_seq ?_
                refine wc_region ?_
                refine wl_val (.bool true) rfl (fun _ => rfl) ?_
                simp only [Act.put, Xa, Xz, Xs]
                refine wl_nil ?_
                refine we_then ?_
                refine wc_ret ?_
                refine we_then_ret ?_
                refine we_ret1 (.bool true) rfl rfl rfl (fun w1 hE => ?_)
                exact ⟨rfl, hE.below⟩
              ·
               skip
               have p41 : f2 < 3 := of_decide_eq_true h41
               refine wl_skip rfl ?_
               simp only [Act.put, Xa, Xz, Xs]
               refine wl_skip rfl ?_
               simp only [Act.put, Xa, Xz, Xs]
               refine wl_val (.bool true) rfl (fun _ => rfl) ?_
               simp only [Act.put, Xa, Xz, Xs]
               refine wl_val (.bool true) rfl (fun _ => rfl) ?_
               simp only [Act.put, Xa, Xz, Xs]
               refine wl_val (.bool true) rfl (fun _ => rfl) ?_
               simp only [Act.put, Xa, Xz, Xs]
               refine wl_nil ?_
               refine we_then ?_
               refine wc_true rfl ?_
               refine wc_seq ?_
               refine wc_region ?_
               refine wl_val (.bool true) rfl (fun _ => rfl) ?_
               simp only [Act.put, Xa, Xz, Xs]
               refine wl_nil ?_
               refine we_then ?_
               refine wc_ret ?_
               refine we_then_ret ?_
               refine we_ret1 (.bool true) rfl rfl rfl (fun w1 hE => ?_)
               exact ⟨rfl, hE.below⟩
            ·
             skip
             have p38 : 1 < w2 := of_decide_eq_true h38
             refine wl_skip rfl ?_
             simp only [Act.put, Xa, Xz, Xs]
             refine wl_skip rfl ?_
             simp only [Act.put, Xa, Xz, Xs]
             refine wl_skip rfl ?_
             simp only [Act.put, Xa, Xz, Xs]
             refine wl_skip rfl ?_
             simp only [Act.put, Xa, Xz, Xs]
             refine wl_skip rfl ?_
             simp only [Act.put, Xa, Xz, Xs]
             refine wl_skip rfl ?_
             simp only [Act.put, Xa, Xz, Xs]
             refine wl_skip rfl ?_
             simp only [Act.put, Xa, Xz, Xs]
             refine wl_skip rfl ?_
             simp only [Act.put, Xa, Xz, Xs]
             refine wl_skip rfl ?_
             simp only [Act.put, Xa, Xz, Xs]
             refine wl_skip rfl ?_
             simp only [Act.put, Xa, Xz, Xs]
             refine wl_val (.bool true) rfl (fun _ => rfl) ?_
             simp only [Act.put, Xa, Xz, Xs]
             refine wl_nil ?_
             refine we_then ?_
             refine wc_true rfl ?_
             refine wc_seq ?_
             refine wc_region ?_
             refine wl_val (.bool true) rfl (fun _ => rfl) ?_
             simp only [Act.put, Xa, Xz, Xs]
             refine wl_nil ?_
             refine we_then ?_
             refine wc_ret ?_
             refine we_then_ret ?_
             refine we_ret1 (.bool true) rfl rfl rfl (fun w1 hE => ?_)
             exact ⟨rfl, hE.below⟩
    ·
     skip
     refine wl_call 10 #[.agg #[.bool x.f, .int .i64 x.lo, .int .i64 x.hi, .bool y.f, .int .i64 y.lo, .int .i64 y.hi, .bool z.f, .int .i64 z.lo, .int .i64 z.hi], .agg #[.bool t.f, .int .i64 t.lo, .int .i64 t.hi]] (.tuple #[.agg #[.int .i64 x.lo, .int .i64 x.hi, .int .i64 y.lo, .int .i64 y.hi, .int .i64 z.lo, .int .i64 z.hi, .int .i64 t.lo, .int .i64 t.hi], .agg #[.int .i64 (bI x.f), .int .i64 (bI y.f), .int .i64 (bI z.f), .int .i64 (bI t.f)], .bool false]) rfl (fun _ => by go_simp) (fun W => by have h9 := given_any x y z t W; unfold givV at h9; rwa [if_neg (by rw [h4]; decide), if_neg (by rw [h5]; decide), if_neg (by rw [h6]; decide), if_pos h7] at h9) ?_
     simp only [Act.put, Xa, Xz, Xs]
     refine wl_val (.tuple #[.agg #[.int .i64 x.lo, .int .i64 x.hi, .int .i64 y.lo, .int .i64 y.hi, .int .i64 z.lo, .int .i64 z.hi, .int .i64 t.lo, .int .i64 t.hi], .agg #[.int .i64 (bI x.f), .int .i64 (bI y.f), .int .i64 (bI z.f), .int .i64 (bI t.f)], .bool false]) rfl (fun _ => rfl) ?_
     simp only [Act.put, Xa, Xz, Xs]
     refine wl_val (.agg #[.int .i64 x.lo, .int .i64 x.hi, .int .i64 y.lo, .int .i64 y.hi, .int .i64 z.lo, .int .i64 z.hi, .int .i64 t.lo, .int .i64 t.hi]) rfl (fun _ => by go_simp) ?_
     simp only [Act.put, Xa, Xz, Xs]
     refine wl_val (.agg #[.int .i64 (bI x.f), .int .i64 (bI y.f), .int .i64 (bI z.f), .int .i64 (bI t.f)]) rfl (fun _ => by go_simp) ?_
     simp only [Act.put, Xa, Xz, Xs]
     refine wl_val (.bool false) rfl (fun _ => by go_simp) ?_
     simp only [Act.put, Xa, Xz, Xs]
     refine wl_new 29 (#[.int .i64 0, .int .i64 0, .int .i64 0, .int .i64 0, .int .i64 0, .int .i64 0, .int .i64 0, .int .i64 0]) rfl (fun _ => by go_simp) ?_
     intro g44
     simp only [Act.put, Xa, Xz, Xs]
     refine wl_new 30 (#[.int .i64 0, .int .i64 0, .int .i64 0, .int .i64 0]) rfl (fun _ => by go_simp) ?_
     intro g45
     simp only [Act.put, Xa, Xz, Xs]
     refine wl_store 1 29 (.tmp 9) (.tmp 23) (#[.int .i64 x.lo, .int .i64 x.hi, .int .i64 y.lo, .int .i64 y.hi, .int .i64 z.lo, .int .i64 z.hi, .int .i64 t.lo, .int .i64 t.hi]) rfl rfl rfl rfl rfl (by kernel_rfl) rfl (by simp [Value.oneCell']) ?_
     simp only [Act.put, List.set_cons_zero, List.set_cons_succ]
     refine wl_store 0 30 (.tmp 10) (.tmp 24) (#[.int .i64 (bI x.f), .int .i64 (bI y.f), .int .i64 (bI z.f), .int .i64 (bI t.f)]) rfl rfl rfl rfl rfl (by kernel_rfl) rfl (by simp [Value.oneCell']) ?_
     simp only [Act.put, List.set_cons_zero]
     refine wl_val (.bool false) rfl (fun _ => rfl) ?_
     simp only [Act.put, Xa, Xz, Xs]
     refine wl_nil ?_
     refine we_then ?_
     refine wc_seq ?_
     refine wc_seq ?_
     refine wc_region ?_
     refine wl_val (.bool false) rfl (fun _ => rfl) ?_
     simp only [Act.put, Xa, Xz, Xs]
     refine wl_val (.bool true) rfl (fun _ => by go_simp) ?_
     simp only [Act.put, Xa, Xz, Xs]
     refine wl_val (.bool true) rfl (fun _ => rfl) ?_
     simp only [Act.put, Xa, Xz, Xs]
     refine wl_skip rfl ?_
     simp only [Act.put, Xa, Xz, Xs]
     refine wl_skip rfl ?_
     simp only [Act.put, Xa, Xz, Xs]
     refine wl_skip rfl ?_
     simp only [Act.put, Xa, Xz, Xs]
     refine wl_val (.bool true) rfl (fun _ => rfl) ?_
     simp only [Act.put, Xa, Xz, Xs]
     refine wl_val (.bool true) rfl (fun _ => rfl) ?_
     simp only [Act.put, Xa, Xz, Xs]
     refine wl_skip rfl ?_
     simp only [Act.put, Xa, Xz, Xs]
     refine wl_skip rfl ?_
     simp only [Act.put, Xa, Xz, Xs]
     refine wl_skip rfl ?_
     simp only [Act.put, Xa, Xz, Xs]
     refine wl_skip rfl ?_
     simp only [Act.put, Xa, Xz, Xs]
     refine wl_val (.bool true) rfl (fun _ => rfl) ?_
     simp only [Act.put, Xa, Xz, Xs]
     refine wl_val (.bool true) rfl (fun _ => rfl) ?_
     simp only [Act.put, Xa, Xz, Xs]
     refine wl_skip rfl ?_
     simp only [Act.put, Xa, Xz, Xs]
     refine wl_skip rfl ?_
     simp only [Act.put, Xa, Xz, Xs]
     refine wl_skip rfl ?_
     simp only [Act.put, Xa, Xz, Xs]
     refine wl_skip rfl ?_
     simp only [Act.put, Xa, Xz, Xs]
     refine wl_skip rfl ?_
     simp only [Act.put, Xa, Xz, Xs]
     refine wl_skip rfl ?_
     simp only [Act.put, Xa, Xz, Xs]
     refine wl_skip rfl ?_
     simp only [Act.put, Xa, Xz, Xs]
     refine wl_skip rfl ?_
     simp only [Act.put, Xa, Xz, Xs]
     refine wl_skip rfl ?_
     simp only [Act.put, Xa, Xz, Xs]
     refine wl_val (.bool true) rfl (fun _ => rfl) ?_
     simp only [Act.put, Xa, Xz, Xs]
     refine wl_nil ?_
     refine we_then ?_
     refine wc_true rfl ?_
     refine wc_seq ?_
     refine wc_region ?_
     refine wl_val (.bool true) rfl (fun _ => rfl) ?_
     simp only [Act.put, Xa, Xz, Xs]
     refine wl_nil ?_
     refine we_then ?_
     refine wc_ret ?_
     refine we_then_ret ?_
     refine we_ret1 (.bool true) rfl rfl rfl (fun w1 hE => ?_)
     exact ⟨rfl, hE.below⟩
   ·
    skip
    refine wl_call 10 #[.agg #[.bool x.f, .int .i64 x.lo, .int .i64 x.hi, .bool y.f, .int .i64 y.lo, .int .i64 y.hi, .bool z.f, .int .i64 z.lo, .int .i64 z.hi], .agg #[.bool t.f, .int .i64 t.lo, .int .i64 t.hi]] (.tuple #[.agg #[.int .i64 x.lo, .int .i64 x.hi, .int .i64 y.lo, .int .i64 y.hi, .int .i64 z.lo, .int .i64 z.hi, .int .i64 0, .int .i64 0], .agg #[.int .i64 (bI x.f), .int .i64 (bI y.f), .int .i64 (bI z.f), .int .i64 0], .bool false]) rfl (fun _ => by go_simp) (fun W => by have h9 := given_any x y z t W; unfold givV at h9; rwa [if_neg (by rw [h4]; decide), if_neg (by rw [h5]; decide), if_pos h6] at h9) ?_
    simp only [Act.put, Xa, Xz, Xs]
    refine wl_val (.tuple #[.agg #[.int .i64 x.lo, .int .i64 x.hi, .int .i64 y.lo, .int .i64 y.hi, .int .i64 z.lo, .int .i64 z.hi, .int .i64 0, .int .i64 0], .agg #[.int .i64 (bI x.f), .int .i64 (bI y.f), .int .i64 (bI z.f), .int .i64 0], .bool false]) rfl (fun _ => rfl) ?_
    simp only [Act.put, Xa, Xz, Xs]
    refine wl_val (.agg #[.int .i64 x.lo, .int .i64 x.hi, .int .i64 y.lo, .int .i64 y.hi, .int .i64 z.lo, .int .i64 z.hi, .int .i64 0, .int .i64 0]) rfl (fun _ => by go_simp) ?_
    simp only [Act.put, Xa, Xz, Xs]
    refine wl_val (.agg #[.int .i64 (bI x.f), .int .i64 (bI y.f), .int .i64 (bI z.f), .int .i64 0]) rfl (fun _ => by go_simp) ?_
    simp only [Act.put, Xa, Xz, Xs]
    refine wl_val (.bool false) rfl (fun _ => by go_simp) ?_
    simp only [Act.put, Xa, Xz, Xs]
    refine wl_new 29 (#[.int .i64 0, .int .i64 0, .int .i64 0, .int .i64 0, .int .i64 0, .int .i64 0, .int .i64 0, .int .i64 0]) rfl (fun _ => by go_simp) ?_
    intro g46
    simp only [Act.put, Xa, Xz, Xs]
    refine wl_new 30 (#[.int .i64 0, .int .i64 0, .int .i64 0, .int .i64 0]) rfl (fun _ => by go_simp) ?_
    intro g47
    simp only [Act.put, Xa, Xz, Xs]
    refine wl_store 1 29 (.tmp 9) (.tmp 23) (#[.int .i64 x.lo, .int .i64 x.hi, .int .i64 y.lo, .int .i64 y.hi, .int .i64 z.lo, .int .i64 z.hi, .int .i64 0, .int .i64 0]) rfl rfl rfl rfl rfl (by kernel_rfl) rfl (by simp [Value.oneCell']) ?_
    simp only [Act.put, List.set_cons_zero, List.set_cons_succ]
    refine wl_store 0 30 (.tmp 10) (.tmp 24) (#[.int .i64 (bI x.f), .int .i64 (bI y.f), .int .i64 (bI z.f), .int .i64 0]) rfl rfl rfl rfl rfl (by kernel_rfl) rfl (by simp [Value.oneCell']) ?_
    simp only [Act.put, List.set_cons_zero]
    refine wl_val (.bool false) rfl (fun _ => rfl) ?_
    simp only [Act.put, Xa, Xz, Xs]
    refine wl_nil ?_
    refine we_then ?_
    refine wc_seq ?_
    refine wc_seq ?_
    refine wc_region ?_
    refine wl_val (.bool false) rfl (fun _ => rfl) ?_
    simp only [Act.put, Xa, Xz, Xs]
    refine wl_val (.bool true) rfl (fun _ => by go_simp) ?_
    simp only [Act.put, Xa, Xz, Xs]
    refine wl_val (.bool true) rfl (fun _ => rfl) ?_
    simp only [Act.put, Xa, Xz, Xs]
    refine wl_skip rfl ?_
    simp only [Act.put, Xa, Xz, Xs]
    refine wl_skip rfl ?_
    simp only [Act.put, Xa, Xz, Xs]
    refine wl_skip rfl ?_
    simp only [Act.put, Xa, Xz, Xs]
    refine wl_val (.bool true) rfl (fun _ => rfl) ?_
    simp only [Act.put, Xa, Xz, Xs]
    refine wl_val (.bool true) rfl (fun _ => rfl) ?_
    simp only [Act.put, Xa, Xz, Xs]
    refine wl_skip rfl ?_
    simp only [Act.put, Xa, Xz, Xs]
    refine wl_skip rfl ?_
    simp only [Act.put, Xa, Xz, Xs]
    refine wl_skip rfl ?_
    simp only [Act.put, Xa, Xz, Xs]
    refine wl_skip rfl ?_
    simp only [Act.put, Xa, Xz, Xs]
    refine wl_val (.bool true) rfl (fun _ => rfl) ?_
    simp only [Act.put, Xa, Xz, Xs]
    refine wl_val (.bool true) rfl (fun _ => rfl) ?_
    simp only [Act.put, Xa, Xz, Xs]
    refine wl_skip rfl ?_
    simp only [Act.put, Xa, Xz, Xs]
    refine wl_skip rfl ?_
    simp only [Act.put, Xa, Xz, Xs]
    refine wl_skip rfl ?_
    simp only [Act.put, Xa, Xz, Xs]
    refine wl_skip rfl ?_
    simp only [Act.put, Xa, Xz, Xs]
    refine wl_skip rfl ?_
    simp only [Act.put, Xa, Xz, Xs]
    refine wl_skip rfl ?_
    simp only [Act.put, Xa, Xz, Xs]
    refine wl_skip rfl ?_
    simp only [Act.put, Xa, Xz, Xs]
    refine wl_skip rfl ?_
    simp only [Act.put, Xa, Xz, Xs]
    refine wl_skip rfl ?_
    simp only [Act.put, Xa, Xz, Xs]
    refine wl_val (.bool true) rfl (fun _ => rfl) ?_
    simp only [Act.put, Xa, Xz, Xs]
    refine wl_nil ?_
    refine we_then ?_
    refine wc_true rfl ?_
    refine wc_seq ?_
    refine wc_region ?_
    refine wl_val (.bool true) rfl (fun _ => rfl) ?_
    simp only [Act.put, Xa, Xz, Xs]
    refine wl_nil ?_
    refine we_then ?_
    refine wc_ret ?_
    refine we_then_ret ?_
    refine we_ret1 (.bool true) rfl rfl rfl (fun w1 hE => ?_)
    exact ⟨rfl, hE.below⟩
  ·
   skip
   refine wl_call 10 #[.agg #[.bool x.f, .int .i64 x.lo, .int .i64 x.hi, .bool y.f, .int .i64 y.lo, .int .i64 y.hi, .bool z.f, .int .i64 z.lo, .int .i64 z.hi], .agg #[.bool t.f, .int .i64 t.lo, .int .i64 t.hi]] (.tuple #[.agg #[.int .i64 x.lo, .int .i64 x.hi, .int .i64 y.lo, .int .i64 y.hi, .int .i64 0, .int .i64 0, .int .i64 0, .int .i64 0], .agg #[.int .i64 (bI x.f), .int .i64 (bI y.f), .int .i64 0, .int .i64 0], .bool false]) rfl (fun _ => by go_simp) (fun W => by have h9 := given_any x y z t W; unfold givV at h9; rwa [if_neg (by rw [h4]; decide), if_pos h5] at h9) ?_
   simp only [Act.put, Xa, Xz, Xs]
   refine wl_val (.tuple #[.agg #[.int .i64 x.lo, .int .i64 x.hi, .int .i64 y.lo, .int .i64 y.hi, .int .i64 0, .int .i64 0, .int .i64 0, .int .i64 0], .agg #[.int .i64 (bI x.f), .int .i64 (bI y.f), .int .i64 0, .int .i64 0], .bool false]) rfl (fun _ => rfl) ?_
   simp only [Act.put, Xa, Xz, Xs]
   refine wl_val (.agg #[.int .i64 x.lo, .int .i64 x.hi, .int .i64 y.lo, .int .i64 y.hi, .int .i64 0, .int .i64 0, .int .i64 0, .int .i64 0]) rfl (fun _ => by go_simp) ?_
   simp only [Act.put, Xa, Xz, Xs]
   refine wl_val (.agg #[.int .i64 (bI x.f), .int .i64 (bI y.f), .int .i64 0, .int .i64 0]) rfl (fun _ => by go_simp) ?_
   simp only [Act.put, Xa, Xz, Xs]
   refine wl_val (.bool false) rfl (fun _ => by go_simp) ?_
   simp only [Act.put, Xa, Xz, Xs]
   refine wl_new 29 (#[.int .i64 0, .int .i64 0, .int .i64 0, .int .i64 0, .int .i64 0, .int .i64 0, .int .i64 0, .int .i64 0]) rfl (fun _ => by go_simp) ?_
   intro g48
   simp only [Act.put, Xa, Xz, Xs]
   refine wl_new 30 (#[.int .i64 0, .int .i64 0, .int .i64 0, .int .i64 0]) rfl (fun _ => by go_simp) ?_
   intro g49
   simp only [Act.put, Xa, Xz, Xs]
   refine wl_store 1 29 (.tmp 9) (.tmp 23) (#[.int .i64 x.lo, .int .i64 x.hi, .int .i64 y.lo, .int .i64 y.hi, .int .i64 0, .int .i64 0, .int .i64 0, .int .i64 0]) rfl rfl rfl rfl rfl (by kernel_rfl) rfl (by simp [Value.oneCell']) ?_
   simp only [Act.put, List.set_cons_zero, List.set_cons_succ]
   refine wl_store 0 30 (.tmp 10) (.tmp 24) (#[.int .i64 (bI x.f), .int .i64 (bI y.f), .int .i64 0, .int .i64 0]) rfl rfl rfl rfl rfl (by kernel_rfl) rfl (by simp [Value.oneCell']) ?_
   simp only [Act.put, List.set_cons_zero]
   refine wl_val (.bool false) rfl (fun _ => rfl) ?_
   simp only [Act.put, Xa, Xz, Xs]
   refine wl_nil ?_
   refine we_then ?_
   refine wc_seq ?_
   refine wc_seq ?_
   refine wc_region ?_
   refine wl_val (.bool false) rfl (fun _ => rfl) ?_
   simp only [Act.put, Xa, Xz, Xs]
   refine wl_val (.bool true) rfl (fun _ => by go_simp) ?_
   simp only [Act.put, Xa, Xz, Xs]
   refine wl_val (.bool true) rfl (fun _ => rfl) ?_
   simp only [Act.put, Xa, Xz, Xs]
   refine wl_skip rfl ?_
   simp only [Act.put, Xa, Xz, Xs]
   refine wl_skip rfl ?_
   simp only [Act.put, Xa, Xz, Xs]
   refine wl_skip rfl ?_
   simp only [Act.put, Xa, Xz, Xs]
   refine wl_val (.bool true) rfl (fun _ => rfl) ?_
   simp only [Act.put, Xa, Xz, Xs]
   refine wl_val (.bool true) rfl (fun _ => rfl) ?_
   simp only [Act.put, Xa, Xz, Xs]
   refine wl_skip rfl ?_
   simp only [Act.put, Xa, Xz, Xs]
   refine wl_skip rfl ?_
   simp only [Act.put, Xa, Xz, Xs]
   refine wl_skip rfl ?_
   simp only [Act.put, Xa, Xz, Xs]
   refine wl_skip rfl ?_
   simp only [Act.put, Xa, Xz, Xs]
   refine wl_val (.bool true) rfl (fun _ => rfl) ?_
   simp only [Act.put, Xa, Xz, Xs]
   refine wl_val (.bool true) rfl (fun _ => rfl) ?_
   simp only [Act.put, Xa, Xz, Xs]
   refine wl_skip rfl ?_
   simp only [Act.put, Xa, Xz, Xs]
   refine wl_skip rfl ?_
   simp only [Act.put, Xa, Xz, Xs]
   refine wl_skip rfl ?_
   simp only [Act.put, Xa, Xz, Xs]
   refine wl_skip rfl ?_
   simp only [Act.put, Xa, Xz, Xs]
   refine wl_skip rfl ?_
   simp only [Act.put, Xa, Xz, Xs]
   refine wl_skip rfl ?_
   simp only [Act.put, Xa, Xz, Xs]
   refine wl_skip rfl ?_
   simp only [Act.put, Xa, Xz, Xs]
   refine wl_skip rfl ?_
   simp only [Act.put, Xa, Xz, Xs]
   refine wl_skip rfl ?_
   simp only [Act.put, Xa, Xz, Xs]
   refine wl_val (.bool true) rfl (fun _ => rfl) ?_
   simp only [Act.put, Xa, Xz, Xs]
   refine wl_nil ?_
   refine we_then ?_
   refine wc_true rfl ?_
   refine wc_seq ?_
   refine wc_region ?_
   refine wl_val (.bool true) rfl (fun _ => rfl) ?_
   simp only [Act.put, Xa, Xz, Xs]
   refine wl_nil ?_
   refine we_then ?_
   refine wc_ret ?_
   refine we_then_ret ?_
   refine we_ret1 (.bool true) rfl rfl rfl (fun w1 hE => ?_)
   exact ⟨rfl, hE.below⟩
 ·
  skip
  refine wl_call 10 #[.agg #[.bool x.f, .int .i64 x.lo, .int .i64 x.hi, .bool y.f, .int .i64 y.lo, .int .i64 y.hi, .bool z.f, .int .i64 z.lo, .int .i64 z.hi], .agg #[.bool t.f, .int .i64 t.lo, .int .i64 t.hi]] (.tuple #[.agg #[.int .i64 x.lo, .int .i64 x.hi, .int .i64 0, .int .i64 0, .int .i64 0, .int .i64 0, .int .i64 0, .int .i64 0], .agg #[.int .i64 (bI x.f), .int .i64 0, .int .i64 0, .int .i64 0], .bool false]) rfl (fun _ => by go_simp) (fun W => by have h9 := given_any x y z t W; unfold givV at h9; rwa [if_pos h4] at h9) ?_
  simp only [Act.put, Xa, Xz, Xs]
  refine wl_val (.tuple #[.agg #[.int .i64 x.lo, .int .i64 x.hi, .int .i64 0, .int .i64 0, .int .i64 0, .int .i64 0, .int .i64 0, .int .i64 0], .agg #[.int .i64 (bI x.f), .int .i64 0, .int .i64 0, .int .i64 0], .bool false]) rfl (fun _ => rfl) ?_
  simp only [Act.put, Xa, Xz, Xs]
  refine wl_val (.agg #[.int .i64 x.lo, .int .i64 x.hi, .int .i64 0, .int .i64 0, .int .i64 0, .int .i64 0, .int .i64 0, .int .i64 0]) rfl (fun _ => by go_simp) ?_
  simp only [Act.put, Xa, Xz, Xs]
  refine wl_val (.agg #[.int .i64 (bI x.f), .int .i64 0, .int .i64 0, .int .i64 0]) rfl (fun _ => by go_simp) ?_
  simp only [Act.put, Xa, Xz, Xs]
  refine wl_val (.bool false) rfl (fun _ => by go_simp) ?_
  simp only [Act.put, Xa, Xz, Xs]
  refine wl_new 29 (#[.int .i64 0, .int .i64 0, .int .i64 0, .int .i64 0, .int .i64 0, .int .i64 0, .int .i64 0, .int .i64 0]) rfl (fun _ => by go_simp) ?_
  intro g50
  simp only [Act.put, Xa, Xz, Xs]
  refine wl_new 30 (#[.int .i64 0, .int .i64 0, .int .i64 0, .int .i64 0]) rfl (fun _ => by go_simp) ?_
  intro g51
  simp only [Act.put, Xa, Xz, Xs]
  refine wl_store 1 29 (.tmp 9) (.tmp 23) (#[.int .i64 x.lo, .int .i64 x.hi, .int .i64 0, .int .i64 0, .int .i64 0, .int .i64 0, .int .i64 0, .int .i64 0]) rfl rfl rfl rfl rfl (by kernel_rfl) rfl (by simp [Value.oneCell']) ?_
  simp only [Act.put, List.set_cons_zero, List.set_cons_succ]
  refine wl_store 0 30 (.tmp 10) (.tmp 24) (#[.int .i64 (bI x.f), .int .i64 0, .int .i64 0, .int .i64 0]) rfl rfl rfl rfl rfl (by kernel_rfl) rfl (by simp [Value.oneCell']) ?_
  simp only [Act.put, List.set_cons_zero]
  refine wl_val (.bool false) rfl (fun _ => rfl) ?_
  simp only [Act.put, Xa, Xz, Xs]
  refine wl_nil ?_
  refine we_then ?_
  refine wc_seq ?_
  refine wc_seq ?_
  refine wc_region ?_
  refine wl_val (.bool false) rfl (fun _ => rfl) ?_
  simp only [Act.put, Xa, Xz, Xs]
  refine wl_val (.bool true) rfl (fun _ => by go_simp) ?_
  simp only [Act.put, Xa, Xz, Xs]
  refine wl_val (.bool true) rfl (fun _ => rfl) ?_
  simp only [Act.put, Xa, Xz, Xs]
  refine wl_skip rfl ?_
  simp only [Act.put, Xa, Xz, Xs]
  refine wl_skip rfl ?_
  simp only [Act.put, Xa, Xz, Xs]
  refine wl_skip rfl ?_
  simp only [Act.put, Xa, Xz, Xs]
  refine wl_val (.bool true) rfl (fun _ => rfl) ?_
  simp only [Act.put, Xa, Xz, Xs]
  refine wl_val (.bool true) rfl (fun _ => rfl) ?_
  simp only [Act.put, Xa, Xz, Xs]
  refine wl_skip rfl ?_
  simp only [Act.put, Xa, Xz, Xs]
  refine wl_skip rfl ?_
  simp only [Act.put, Xa, Xz, Xs]
  refine wl_skip rfl ?_
  simp only [Act.put, Xa, Xz, Xs]
  refine wl_skip rfl ?_
  simp only [Act.put, Xa, Xz, Xs]
  refine wl_val (.bool true) rfl (fun _ => rfl) ?_
  simp only [Act.put, Xa, Xz, Xs]
  refine wl_val (.bool true) rfl (fun _ => rfl) ?_
  simp only [Act.put, Xa, Xz, Xs]
  refine wl_skip rfl ?_
  simp only [Act.put, Xa, Xz, Xs]
  refine wl_skip rfl ?_
  simp only [Act.put, Xa, Xz, Xs]
  refine wl_skip rfl ?_
  simp only [Act.put, Xa, Xz, Xs]
  refine wl_skip rfl ?_
  simp only [Act.put, Xa, Xz, Xs]
  refine wl_skip rfl ?_
  simp only [Act.put, Xa, Xz, Xs]
  refine wl_skip rfl ?_
  simp only [Act.put, Xa, Xz, Xs]
  refine wl_skip rfl ?_
  simp only [Act.put, Xa, Xz, Xs]
  refine wl_skip rfl ?_
  simp only [Act.put, Xa, Xz, Xs]
  refine wl_skip rfl ?_
  simp only [Act.put, Xa, Xz, Xs]
  refine wl_val (.bool true) rfl (fun _ => rfl) ?_
  simp only [Act.put, Xa, Xz, Xs]
  refine wl_nil ?_
  refine we_then ?_
  refine wc_true rfl ?_
  refine wc_seq ?_
  refine wc_region ?_
  refine wl_val (.bool true) rfl (fun _ => rfl) ?_
  simp only [Act.put, Xa, Xz, Xs]
  refine wl_nil ?_
  refine we_then ?_
  refine wc_ret ?_
  refine we_then_ret ?_
  refine we_ret1 (.bool true) rfl rfl rfl (fun w1 hE => ?_)
  exact ⟨rfl, hE.below⟩
end Go.Proofs.Ytlfienfjdjfcoaa.Walks
