/-
 The reference of layer 17: what all sensors say together. Conditions: spans within 2^60, where one is fit.
-/
import Derived.Test.YtlfienfjdjfcoaaFzref
namespace Go.Proofs.Ytlfienfjdjfcoaa.Fzrf
open Go.ChangeShapes Go.WideShapes Go.ChangeAt Go.RowKit
open Arr Steady Sx Sw Sl Sb Sc Si Sj Sk Sh Sfn Smu Vs Vref Fzm Fzref
set_option linter.unusedVariables false
set_option linter.unusedSimpArgs false
set_option maxRecDepth 100000

set_option maxHeartbeats 8000000 in
theorem fuse_any (p q a0 b0 a1 b1 a2 b2 a3 b3 k0 k1 k2 k3 : Int) (x y z t : Sr) (w : World) (hx : x = ⟨decide (k0 = 1), a0, b0⟩) (hy : y = ⟨decide (k1 = 1), a1, b1⟩) (hz : z = ⟨decide (k2 = 1), a2, b2⟩) (ht : t = ⟨decide (k3 = 1), a3, b3⟩) (gx : GoodS x) (gy : GoodS y) (gz : GoodS z) :
  Calls Try.prog 13 #[.agg #[.int .i64 p, .int .i64 q], .agg #[.int .i64 a0, .int .i64 b0, .int .i64 a1, .int .i64 b1, .int .i64 a2, .int .i64 b2, .int .i64 a3, .int .i64 b3], .agg #[.int .i64 k0, .int .i64 k1, .int .i64 k2, .int .i64 k3]] w fun e w' => e = .returned (.agg #[.int .i64 (spd p q x y z t).1, .int .i64 (spd p q x y z t).2.1, .int .i64 (nF x y z : Int), .int .i64 (bI (clean x y z)), .int .i64 (bI (spd p q x y z t).2.2), .int .i64 (slips x y z x), .int .i64 (slips x y z y)]) ∧ Below w.heap.size w w' := by
 refine calls_sx Try.func13 rfl ?_
 simp only [Try.ntmps13, List.size_toArray, List.length_cons, List.length_nil, Nat.reduceAdd, Nat.reduceSub, Array.replicate_succ, Array.replicate_zero, List.push_toArray, List.append_toArray, List.nil_append, List.cons_append]
 refine wc_seq ?_
 refine wc_region ?_
 refine wl_new 28 (#[.int .i64 p, .int .i64 q]) rfl (fun _ => by go_simp) ?_
 intro g1
 simp only [Act.put, Xa, Xz, Xs]
 refine wl_new 29 (#[.int .i64 a0, .int .i64 b0, .int .i64 a1, .int .i64 b1, .int .i64 a2, .int .i64 b2, .int .i64 a3, .int .i64 b3]) rfl (fun _ => by go_simp) ?_
 intro g2
 simp only [Act.put, Xa, Xz, Xs]
 refine wl_new 30 (#[.int .i64 k0, .int .i64 k1, .int .i64 k2, .int .i64 k3]) rfl (fun _ => by go_simp) ?_
 intro g3
 simp only [Act.put, Xa, Xz, Xs]
 refine wl_new 39 (#[.int .i64 0, .int .i64 0, .int .i64 0, .int .i64 0, .int .i64 0, .int .i64 0, .int .i64 0]) rfl (fun _ => by go_simp) ?_
 intro g4
 simp only [Act.put, Xa, Xz, Xs]
 refine wl_nil ?_
 refine we_then ?_
 refine wc_seq ?_
 refine wc_region ?_
 refine wl_val (.pointer (some ⟨g1, 0, none⟩)) rfl (fun _ => by go_simp) ?_
 simp only [Act.put, Xa, Xz, Xs]
 refine wl_cell 2 (.tmp 17) (.int .i64 p) (own_row 3 rfl) rfl rfl rfl rfl Try.isAgg2 ?_
 simp only [Act.put, Xa, Xz, Xs]
 refine wl_val (.pointer (some ⟨g1, 1, none⟩)) rfl (fun _ => by go_simp) ?_
 simp only [Act.put, Xa, Xz, Xs]
 refine wl_cell 2 (.tmp 19) (.int .i64 q) (own_row 3 rfl) rfl rfl rfl rfl Try.isAgg2 ?_
 simp only [Act.put, Xa, Xz, Xs]
 refine wl_val (.agg #[.int .i64 p, .int .i64 q, .int .i64 0, .int .i64 0, .int .i64 0, .int .i64 0, .int .i64 0]) rfl (fun _ => by go_simp) ?_
 simp only [Act.put, Xa, Xz, Xs]
 refine wl_new 39 (#[.int .i64 0, .int .i64 0, .int .i64 0, .int .i64 0, .int .i64 0, .int .i64 0, .int .i64 0]) rfl (fun _ => by go_simp) ?_
 intro g5
 simp only [Act.put, Xa, Xz, Xs]
 refine wl_store 0 39 (.tmp 7) (.tmp 21) (#[.int .i64 p, .int .i64 q, .int .i64 0, .int .i64 0, .int .i64 0, .int .i64 0, .int .i64 0]) rfl rfl rfl rfl rfl (by kernel_rfl) rfl (by simp [Value.oneCell']) ?_
 simp only [Act.put, List.set_cons_zero]
 refine wl_nil ?_
 refine we_then ?_
 refine wc_cut (fun (s : Own) => ({ tmps := #[.agg #[.int .i64 p, .int .i64 q], .agg #[.int .i64 a0, .int .i64 b0, .int .i64 a1, .int .i64 b1, .int .i64 a2, .int .i64 b2, .int .i64 a3, .int .i64 b3], .agg #[.int .i64 k0, .int .i64 k1, .int .i64 k2, .int .i64 k3], .pointer (some ⟨g1, 0, none⟩), .pointer (some ⟨g2, 0, none⟩), .pointer (some ⟨g3, 0, none⟩), .pointer (some ⟨g4, 0, none⟩), .pointer (some ⟨g5, 0, none⟩), .slice s.ptr 0 s.cap, undef, undef, undef, undef, undef, undef, undef, undef, .pointer (some ⟨g1, 0, none⟩), .int .i64 p, .pointer (some ⟨g1, 1, none⟩), .int .i64 q, .agg #[.int .i64 p, .int .i64 q, .int .i64 0, .int .i64 0, .int .i64 0, .int .i64 0, .int .i64 0], undef, undef, undef, undef, undef, undef, undef, undef, undef, undef, undef, undef, undef, undef, undef, undef, undef, undef, undef, undef, undef, undef, undef, undef, undef, undef, undef, undef, undef, undef, undef, undef, undef, undef, undef, undef, undef, undef, undef, undef, undef, undef, undef, undef, undef, undef, undef, undef, undef, undef, undef, undef, undef, undef, undef, undef, undef, undef, undef, undef, undef, undef, undef, undef, undef, undef, undef, undef, undef, undef, undef, undef, undef, undef, undef, undef, undef, undef, undef, undef, undef, undef, undef, undef, undef, undef, undef, undef, undef, undef, undef, undef, undef, undef, undef, undef, undef, undef, undef, undef, undef, undef, undef, undef, undef, undef, undef, undef, undef, undef, undef, undef, undef, undef, undef, undef, undef, undef, undef], defers := [] } : Act)) (fun (s : Own) => ⟨g5, #[.int .i64 p, .int .i64 q, .int .i64 0, .int .i64 0, .int .i64 0, .int .i64 0, .int .i64 0], 39⟩ :: ⟨g4, #[.int .i64 0, .int .i64 0, .int .i64 0, .int .i64 0, .int .i64 0, .int .i64 0, .int .i64 0], 39⟩ :: ⟨g3, #[.int .i64 k0, .int .i64 k1, .int .i64 k2, .int .i64 k3], 30⟩ :: ⟨g2, #[.int .i64 a0, .int .i64 b0, .int .i64 a1, .int .i64 b1, .int .i64 a2, .int .i64 b2, .int .i64 a3, .int .i64 b3], 29⟩ :: ⟨g1, #[.int .i64 p, .int .i64 q], 28⟩ :: (s.rows 28 ++ [])) (fun (s : Own) => s.Has 2 0 (flat enc2 [])) ?_ ?_
 ·
  skip
  refine wc_region ?_
  refine wl_val (.slice none 0 0) rfl (fun _ => rfl) ?_
  simp only [Act.put, Xa, Xz, Xs]
  refine wl_nil ?_
  exact we_meet Own.none (Own.has_none 2) rfl (List.Sublist.cons_cons _ (List.Sublist.cons_cons _ (List.Sublist.cons_cons _ (List.Sublist.cons_cons _ (List.Sublist.cons_cons _ List.Sublist.slnil)))))
 ·
  rintro s hφ
  (try dsimp only at hφ ⊢)
  have hs := hφ
  refine wc_seq ?_
  refine wc_seq ?_
  refine wc_region ?_
  refine wl_val (.int .i64 0) rfl (fun _ => rfl) ?_
  simp only [Act.put, Xa, Xz, Xs]
  refine wl_nil ?_
  refine we_then ?_
  refine wc_block ?_
  refine wr_start 4 ?_
  refine wr_round ?_
  refine wc_seq ?_
  refine wc_seq ?_
  refine wc_region ?_
  refine wl_val (.int .i64 0) rfl (fun _ => rfl) ?_
  simp only [Act.put, Xa, Xz, Xs]
  refine wl_val (.bool true) rfl (fun w => run_cmp rfl rfl rfl Try.underlying3 rfl w) ?_
  simp only [Act.put, Xa, Xz, Xs]
  refine wl_nil ?_
  refine we_then ?_
  refine wc_true rfl ?_
  refine wc_skip ?_
  refine we_then ?_
  refine wc_cut (fun (zz : Nat × Own × Spans × Value × Value × Value × Value × Value × Value × Value × Value × Value × Value × Value × Value × Value × Value) => match zz with | ⟨m0, s0, O0, u26, u27, u28, u29, u30, u31, u32, u33, u34, u35, u36, u37, u38, u39⟩ => ({ tmps := #[.agg #[.int .i64 p, .int .i64 q], .agg #[.int .i64 a0, .int .i64 b0, .int .i64 a1, .int .i64 b1, .int .i64 a2, .int .i64 b2, .int .i64 a3, .int .i64 b3], .agg #[.int .i64 k0, .int .i64 k1, .int .i64 k2, .int .i64 k3], .pointer (some ⟨g1, 0, none⟩), .pointer (some ⟨g2, 0, none⟩), .pointer (some ⟨g3, 0, none⟩), .pointer (some ⟨g4, 0, none⟩), .pointer (some ⟨g5, 0, none⟩), .slice s0.ptr m0 s0.cap, .int .i64 0, undef, undef, undef, undef, undef, undef, undef, .pointer (some ⟨g1, 0, none⟩), .int .i64 p, .pointer (some ⟨g1, 1, none⟩), .int .i64 q, .agg #[.int .i64 p, .int .i64 q, .int .i64 0, .int .i64 0, .int .i64 0, .int .i64 0, .int .i64 0], .int .i64 0, .bool true, undef, undef, u26, u27, u28, u29, u30, u31, u32, u33, u34, u35, u36, u37, u38, u39, undef, undef, undef, undef, undef, undef, undef, undef, undef, undef, undef, undef, undef, undef, undef, undef, undef, undef, undef, undef, undef, undef, undef, undef, undef, undef, undef, undef, undef, undef, undef, undef, undef, undef, undef, undef, undef, undef, undef, undef, undef, undef, undef, undef, undef, undef, undef, undef, undef, undef, undef, undef, undef, undef, undef, undef, undef, undef, undef, undef, undef, undef, undef, undef, undef, undef, undef, undef, undef, undef, undef, undef, undef, undef, undef, undef, undef, undef, undef, undef, undef, undef, undef, undef, undef, undef, undef, undef, undef, undef, undef, undef, undef, undef, undef, undef, undef, undef, undef, undef, undef], defers := [] } : Act)) (fun (zz : Nat × Own × Spans × Value × Value × Value × Value × Value × Value × Value × Value × Value × Value × Value × Value × Value × Value) => match zz with | ⟨m0, s0, O0, u26, u27, u28, u29, u30, u31, u32, u33, u34, u35, u36, u37, u38, u39⟩ => ⟨g5, #[.int .i64 p, .int .i64 q, .int .i64 (m0 : Int), .int .i64 0, .int .i64 0, .int .i64 0, .int .i64 0], 39⟩ :: ⟨g4, #[.int .i64 0, .int .i64 0, .int .i64 0, .int .i64 0, .int .i64 0, .int .i64 0, .int .i64 0], 39⟩ :: ⟨g3, #[.int .i64 k0, .int .i64 k1, .int .i64 k2, .int .i64 k3], 30⟩ :: ⟨g2, #[.int .i64 a0, .int .i64 b0, .int .i64 a1, .int .i64 b1, .int .i64 a2, .int .i64 b2, .int .i64 a3, .int .i64 b3], 29⟩ :: ⟨g1, #[.int .i64 p, .int .i64 q], 28⟩ :: (s0.rows 28 ++ [])) (fun (zz : Nat × Own × Spans × Value × Value × Value × Value × Value × Value × Value × Value × Value × Value × Value × Value × Value × Value) => match zz with | ⟨m0, s0, O0, u26, u27, u28, u29, u30, u31, u32, u33, u34, u35, u36, u37, u38, u39⟩ => O0.length = m0 ∧ O0 = one1 x ∧ m0 ≤ 1 ∧ s0.Has 2 m0 (flat enc2 O0)) ?_ ?_
  ·
   skip
   refine wc_block ?_
   refine wc_seq ?_
   refine wc_region ?_
   refine wl_val (.int .i64 0) rfl (fun _ => rfl) ?_
   simp only [Act.put, Xa, Xz, Xs]
   refine wl_val (.pointer (some ⟨g3, 0, none⟩)) rfl (fun _ => by go_simp) ?_
   simp only [Act.put, Xa, Xz, Xs]
   refine wl_cell 3 (.tmp 27) (.int .i64 k0) (own_row 2 rfl) rfl rfl rfl rfl Try.isAgg3 ?_
   simp only [Act.put, Xa, Xz, Xs]
   refine wl_val (.bool (k0 == 1)) rfl (fun w => run_cmp rfl rfl rfl Try.underlying3 rfl w) ?_
   simp only [Act.put, Xa, Xz, Xs]
   refine wl_nil ?_
   refine we_then ?_
   cases h6 : (k0 == 1)
   ·
    skip
    have p6 : ¬ (k0 = 1) := by first | (simp; done) | (simp at h6; done) | simpa using h6
    refine wc_false rfl ?_
    refine wc_skip ?_
    refine we_in ?_
    exact we_meet ⟨0, s, [], _, _, _, _, _, _, _, _, _, _, _, _, _, _⟩ ⟨by simp, by rw [hx]; simp [fitL, one1, p6], by (try dsimp only); omega, hs⟩ rfl (List.Sublist.cons_cons _ (List.Sublist.cons_cons _ (List.Sublist.cons_cons _ (List.Sublist.cons_cons _ (List.Sublist.cons_cons _ (List.Sublist.append_left List.Sublist.slnil _))))))
   ·
    skip
    have p6 : k0 = 1 := by first | (simp; done) | (simp at h6; done) | simpa using h6
    refine wc_true rfl ?_
    refine wc_seq ?_
    refine wc_region ?_
    refine wl_val (.slice s.ptr 0 s.cap) rfl (fun _ => rfl) ?_
    simp only [Act.put, Xa, Xz, Xs]
    refine wl_val (.int .i64 0) rfl (fun _ => rfl) ?_
    simp only [Act.put, Xa, Xz, Xs]
    refine wl_val (.pointer (some ⟨g2, 0, none⟩)) rfl (fun _ => by go_simp) ?_
    simp only [Act.put, Xa, Xz, Xs]
    refine wl_part 28 (.tmp 32) [.int .i64 a0, .int .i64 b0] (own_row 3 rfl) rfl rfl rfl rfl Try.underlying28 rfl (by kernel_rfl) ?_
    simp only [Act.put, Xa, Xz, Xs]
    refine wl_lit (e := 28) #[.int .i64 a0, .int .i64 b0] 1 rfl (fun _ => by go_simp) ?_
    intro g7
    simp only [Act.put, Xa, Xz, Xs]
    refine wl_append (e := 28) (size := 2) (bytes := 16) (m := 1) [⟨g7, #[.int .i64 a0, .int .i64 b0], 28⟩, ⟨g5, #[.int .i64 p, .int .i64 q, .int .i64 0, .int .i64 0, .int .i64 0, .int .i64 0, .int .i64 0], 39⟩, ⟨g4, #[.int .i64 0, .int .i64 0, .int .i64 0, .int .i64 0, .int .i64 0, .int .i64 0, .int .i64 0], 39⟩, ⟨g3, #[.int .i64 k0, .int .i64 k1, .int .i64 k2, .int .i64 k3], 30⟩, ⟨g2, #[.int .i64 a0, .int .i64 b0, .int .i64 a1, .int .i64 b1, .int .i64 a2, .int .i64 b2, .int .i64 a3, .int .i64 b3], 29⟩, ⟨g1, #[.int .i64 p, .int .i64 q], 28⟩] [] s (ys := [.int .i64 a0, .int .i64 b0]) rfl hs (sl_row 0 rfl) rfl (by simp [Value.oneCell']) rfl rfl rfl rfl Try.underlying54 (by unfold Elem; kernel_rfl) (by decide) (by unfold maxLen; omega) (by omega) ?_
    intro s8 hs8
    simp only [List.cons_append, List.nil_append, Act.put, Xa, Xz, Xs]
    refine wl_val (.slice s8.ptr (0 + 1) s8.cap) rfl (fun _ => rfl) ?_
    simp only [Act.put, Xa, Xz, Xs]
    refine wl_nil ?_
    refine we_then ?_
    refine wc_region ?_
    refine wl_val (.pointer (some ⟨g5, 2, none⟩)) rfl (fun _ => by go_simp) ?_
    simp only [Act.put, Xa, Xz, Xs]
    refine wl_cell 3 (.tmp 36) (.int .i64 0) (own_row 1 rfl) rfl rfl rfl rfl Try.isAgg3 ?_
    simp only [Act.put, Xa, Xz, Xs]
    refine wl_val (.int .i64 1) rfl (fun w => run_nat (X := 0) (Y := 1) (Z := 1) rfl rfl rfl rfl (by omega) w) ?_
    simp only [Act.put, Xa, Xz, Xs]
    refine wl_val (.pointer (some ⟨g5, 2, none⟩)) rfl (fun _ => by go_simp) ?_
    simp only [Act.put, Xa, Xz, Xs]
    refine wl_store_cell 1 3 (.tmp 39) (.tmp 38) (.int .i64 0) (.int .i64 1) rfl rfl rfl rfl rfl rfl (by kernel_rfl) rfl ?_
    simp only [Act.put, List.set_cons_zero, List.set_cons_succ]
    refine wl_nil ?_
    refine we_in ?_
    exact we_meet ⟨1, s8, ([] ++ [(a0, b0)]), _, _, _, _, _, _, _, _, _, _, _, _, _, _⟩ ⟨by simp, by rw [hx]; simp [fitL, one1, p6], by (try dsimp only); omega, has_snoc (x := (a0, b0)) (L := []) hs8⟩ rfl (List.Sublist.cons _ (List.Sublist.cons_cons _ (List.Sublist.cons_cons _ (List.Sublist.cons_cons _ (List.Sublist.cons_cons _ (List.Sublist.cons_cons _ (List.Sublist.append_left List.Sublist.slnil _)))))))
  ·
   rintro ⟨m0, s0, O0, u26, u27, u28, u29, u30, u31, u32, u33, u34, u35, u36, u37, u38, u39⟩ hφ
   (try dsimp only at hφ ⊢)
   obtain ⟨hl0, hO0, hq0, hs0⟩ := hφ
   refine wc_region ?_
   refine wl_val (.int .i64 0) rfl (fun _ => rfl) ?_
   simp only [Act.put, Xa, Xz, Xs]
   refine wl_val (.int .i64 1) rfl (fun w => run_nat (X := 0) (Y := 1) (Z := 1) rfl rfl rfl rfl (by omega) w) ?_
   simp only [Act.put, Xa, Xz, Xs]
   refine wl_val (.int .i64 1) rfl (fun _ => rfl) ?_
   simp only [Act.put, Xa, Xz, Xs]
   refine wl_nil ?_
   refine we_round ?_
   refine wr_round ?_
   refine wc_seq ?_
   refine wc_seq ?_
   refine wc_region ?_
   refine wl_val (.int .i64 1) rfl (fun _ => rfl) ?_
   simp only [Act.put, Xa, Xz, Xs]
   refine wl_val (.bool true) rfl (fun w => run_cmp rfl rfl rfl Try.underlying3 rfl w) ?_
   simp only [Act.put, Xa, Xz, Xs]
   refine wl_nil ?_
   refine we_then ?_
   refine wc_true rfl ?_
   refine wc_skip ?_
   refine we_then ?_
   refine wc_cut (fun (zz : Nat × Own × Spans × Value × Value × Value × Value × Value × Value × Value × Value × Value × Value × Value × Value × Value × Value) => match zz with | ⟨m1, s1, O1, u26, u27, u28, u29, u30, u31, u32, u33, u34, u35, u36, u37, u38, u39⟩ => ({ tmps := #[.agg #[.int .i64 p, .int .i64 q], .agg #[.int .i64 a0, .int .i64 b0, .int .i64 a1, .int .i64 b1, .int .i64 a2, .int .i64 b2, .int .i64 a3, .int .i64 b3], .agg #[.int .i64 k0, .int .i64 k1, .int .i64 k2, .int .i64 k3], .pointer (some ⟨g1, 0, none⟩), .pointer (some ⟨g2, 0, none⟩), .pointer (some ⟨g3, 0, none⟩), .pointer (some ⟨g4, 0, none⟩), .pointer (some ⟨g5, 0, none⟩), .slice s1.ptr m1 s1.cap, .int .i64 1, undef, undef, undef, undef, undef, undef, undef, .pointer (some ⟨g1, 0, none⟩), .int .i64 p, .pointer (some ⟨g1, 1, none⟩), .int .i64 q, .agg #[.int .i64 p, .int .i64 q, .int .i64 0, .int .i64 0, .int .i64 0, .int .i64 0, .int .i64 0], .int .i64 1, .bool true, .int .i64 0, .int .i64 1, u26, u27, u28, u29, u30, u31, u32, u33, u34, u35, u36, u37, u38, u39, undef, undef, undef, undef, undef, undef, undef, undef, undef, undef, undef, undef, undef, undef, undef, undef, undef, undef, undef, undef, undef, undef, undef, undef, undef, undef, undef, undef, undef, undef, undef, undef, undef, undef, undef, undef, undef, undef, undef, undef, undef, undef, undef, undef, undef, undef, undef, undef, undef, undef, undef, undef, undef, undef, undef, undef, undef, undef, undef, undef, undef, undef, undef, undef, undef, undef, undef, undef, undef, undef, undef, undef, undef, undef, undef, undef, undef, undef, undef, undef, undef, undef, undef, undef, undef, undef, undef, undef, undef, undef, undef, undef, undef, undef, undef, undef, undef, undef, undef, undef, undef], defers := [] } : Act)) (fun (zz : Nat × Own × Spans × Value × Value × Value × Value × Value × Value × Value × Value × Value × Value × Value × Value × Value × Value) => match zz with | ⟨m1, s1, O1, u26, u27, u28, u29, u30, u31, u32, u33, u34, u35, u36, u37, u38, u39⟩ => ⟨g5, #[.int .i64 p, .int .i64 q, .int .i64 (m1 : Int), .int .i64 0, .int .i64 0, .int .i64 0, .int .i64 0], 39⟩ :: ⟨g4, #[.int .i64 0, .int .i64 0, .int .i64 0, .int .i64 0, .int .i64 0, .int .i64 0, .int .i64 0], 39⟩ :: ⟨g3, #[.int .i64 k0, .int .i64 k1, .int .i64 k2, .int .i64 k3], 30⟩ :: ⟨g2, #[.int .i64 a0, .int .i64 b0, .int .i64 a1, .int .i64 b1, .int .i64 a2, .int .i64 b2, .int .i64 a3, .int .i64 b3], 29⟩ :: ⟨g1, #[.int .i64 p, .int .i64 q], 28⟩ :: (s1.rows 28 ++ [])) (fun (zz : Nat × Own × Spans × Value × Value × Value × Value × Value × Value × Value × Value × Value × Value × Value × Value × Value × Value) => match zz with | ⟨m1, s1, O1, u26, u27, u28, u29, u30, u31, u32, u33, u34, u35, u36, u37, u38, u39⟩ => O1.length = m1 ∧ O1 = one1 x ++ one1 y ∧ m1 ≤ 2 ∧ s1.Has 2 m1 (flat enc2 O1)) ?_ ?_
   ·
    skip
    refine wc_block ?_
    refine wc_seq ?_
    refine wc_region ?_
    refine wl_val (.int .i64 1) rfl (fun _ => rfl) ?_
    simp only [Act.put, Xa, Xz, Xs]
    refine wl_val (.pointer (some ⟨g3, 1, none⟩)) rfl (fun _ => by go_simp) ?_
    simp only [Act.put, Xa, Xz, Xs]
    refine wl_cell 3 (.tmp 27) (.int .i64 k1) (own_row 2 rfl) rfl rfl rfl rfl Try.isAgg3 ?_
    simp only [Act.put, Xa, Xz, Xs]
    refine wl_val (.bool (k1 == 1)) rfl (fun w => run_cmp rfl rfl rfl Try.underlying3 rfl w) ?_
    simp only [Act.put, Xa, Xz, Xs]
    refine wl_nil ?_
    refine we_then ?_
    cases h9 : (k1 == 1)
    ·
     skip
     have p9 : ¬ (k1 = 1) := by first | (simp; done) | (simp at h9; done) | simpa using h9
     refine wc_false rfl ?_
     refine wc_skip ?_
     refine we_in ?_
     exact we_meet ⟨m0, s0, O0, _, _, _, _, _, _, _, _, _, _, _, _, _, _⟩ ⟨by simp [hl0], by rw [hO0, hy]; simp [fitL, one1, p9], by (try dsimp only); omega, hs0⟩ rfl (List.Sublist.cons_cons _ (List.Sublist.cons_cons _ (List.Sublist.cons_cons _ (List.Sublist.cons_cons _ (List.Sublist.cons_cons _ (List.Sublist.append_left List.Sublist.slnil _))))))
    ·
     skip
     have p9 : k1 = 1 := by first | (simp; done) | (simp at h9; done) | simpa using h9
     refine wc_true rfl ?_
     refine wc_seq ?_
     refine wc_region ?_
     refine wl_val (.slice s0.ptr m0 s0.cap) rfl (fun _ => rfl) ?_
     simp only [Act.put, Xa, Xz, Xs]
     refine wl_val (.int .i64 1) rfl (fun _ => rfl) ?_
     simp only [Act.put, Xa, Xz, Xs]
     refine wl_val (.pointer (some ⟨g2, 2, none⟩)) rfl (fun _ => by go_simp) ?_
     simp only [Act.put, Xa, Xz, Xs]
     refine wl_part 28 (.tmp 32) [.int .i64 a1, .int .i64 b1] (own_row 3 rfl) rfl rfl rfl rfl Try.underlying28 rfl (by kernel_rfl) ?_
     simp only [Act.put, Xa, Xz, Xs]
     refine wl_lit (e := 28) #[.int .i64 a1, .int .i64 b1] 1 rfl (fun _ => by go_simp) ?_
     intro g10
     simp only [Act.put, Xa, Xz, Xs]
     refine wl_append (e := 28) (size := 2) (bytes := 16) (m := 1) [⟨g10, #[.int .i64 a1, .int .i64 b1], 28⟩, ⟨g5, #[.int .i64 p, .int .i64 q, .int .i64 (m0 : Int), .int .i64 0, .int .i64 0, .int .i64 0, .int .i64 0], 39⟩, ⟨g4, #[.int .i64 0, .int .i64 0, .int .i64 0, .int .i64 0, .int .i64 0, .int .i64 0, .int .i64 0], 39⟩, ⟨g3, #[.int .i64 k0, .int .i64 k1, .int .i64 k2, .int .i64 k3], 30⟩, ⟨g2, #[.int .i64 a0, .int .i64 b0, .int .i64 a1, .int .i64 b1, .int .i64 a2, .int .i64 b2, .int .i64 a3, .int .i64 b3], 29⟩, ⟨g1, #[.int .i64 p, .int .i64 q], 28⟩] [] s0 (ys := [.int .i64 a1, .int .i64 b1]) rfl hs0 (sl_row 0 rfl) rfl (by simp [Value.oneCell']) rfl rfl rfl rfl Try.underlying54 (by unfold Elem; kernel_rfl) (by decide) (by unfold maxLen; omega) (by omega) ?_
     intro s11 hs11
     simp only [List.cons_append, List.nil_append, Act.put, Xa, Xz, Xs]
     refine wl_val (.slice s11.ptr (m0 + 1) s11.cap) rfl (fun _ => rfl) ?_
     simp only [Act.put, Xa, Xz, Xs]
     refine wl_nil ?_
     refine we_then ?_
     refine wc_region ?_
     refine wl_val (.pointer (some ⟨g5, 2, none⟩)) rfl (fun _ => by go_simp) ?_
     simp only [Act.put, Xa, Xz, Xs]
     refine wl_cell 3 (.tmp 36) (.int .i64 (m0 : Int)) (own_row 1 rfl) rfl rfl rfl rfl Try.isAgg3 ?_
     simp only [Act.put, Xa, Xz, Xs]
     refine wl_val (.int .i64 ((m0 + 1 : Nat) : Int)) rfl (fun w => run_nat (X := m0) (Y := 1) (Z := m0 + 1) rfl rfl rfl rfl (by omega) w) ?_
     simp only [Act.put, Xa, Xz, Xs]
     refine wl_val (.pointer (some ⟨g5, 2, none⟩)) rfl (fun _ => by go_simp) ?_
     simp only [Act.put, Xa, Xz, Xs]
     refine wl_store_cell 1 3 (.tmp 39) (.tmp 38) (.int .i64 (m0 : Int)) (.int .i64 ((m0 + 1 : Nat) : Int)) rfl rfl rfl rfl rfl rfl (by kernel_rfl) rfl ?_
     simp only [Act.put, List.set_cons_zero, List.set_cons_succ]
     refine wl_nil ?_
     refine we_in ?_
     exact we_meet ⟨(m0 + 1), s11, (O0 ++ [(a1, b1)]), _, _, _, _, _, _, _, _, _, _, _, _, _, _⟩ ⟨by simp [hl0], by rw [hO0, hy]; simp [fitL, one1, p9], by (try dsimp only); omega, has_snoc (x := (a1, b1)) (L := O0) hs11⟩ rfl (List.Sublist.cons _ (List.Sublist.cons_cons _ (List.Sublist.cons_cons _ (List.Sublist.cons_cons _ (List.Sublist.cons_cons _ (List.Sublist.cons_cons _ (List.Sublist.append_left List.Sublist.slnil _)))))))
   ·
    rintro ⟨m1, s1, O1, u26, u27, u28, u29, u30, u31, u32, u33, u34, u35, u36, u37, u38, u39⟩ hφ
    (try dsimp only at hφ ⊢)
    obtain ⟨hl1, hO1, hq1, hs1⟩ := hφ
    refine wc_region ?_
    refine wl_val (.int .i64 1) rfl (fun _ => rfl) ?_
    simp only [Act.put, Xa, Xz, Xs]
    refine wl_val (.int .i64 2) rfl (fun w => run_nat (X := 1) (Y := 1) (Z := 2) rfl rfl rfl rfl (by omega) w) ?_
    simp only [Act.put, Xa, Xz, Xs]
    refine wl_val (.int .i64 2) rfl (fun _ => rfl) ?_
    simp only [Act.put, Xa, Xz, Xs]
    refine wl_nil ?_
    refine we_round ?_
    refine wr_round ?_
    refine wc_seq ?_
    refine wc_seq ?_
    refine wc_region ?_
    refine wl_val (.int .i64 2) rfl (fun _ => rfl) ?_
    simp only [Act.put, Xa, Xz, Xs]
    refine wl_val (.bool true) rfl (fun w => run_cmp rfl rfl rfl Try.underlying3 rfl w) ?_
    simp only [Act.put, Xa, Xz, Xs]
    refine wl_nil ?_
    refine we_then ?_
    refine wc_true rfl ?_
    refine wc_skip ?_
    refine we_then ?_
    refine wc_cut (fun (zz : Nat × Own × Spans × Value × Value × Value × Value × Value × Value × Value × Value × Value × Value × Value × Value × Value × Value) => match zz with | ⟨m2, s2, O2, u26, u27, u28, u29, u30, u31, u32, u33, u34, u35, u36, u37, u38, u39⟩ => ({ tmps := #[.agg #[.int .i64 p, .int .i64 q], .agg #[.int .i64 a0, .int .i64 b0, .int .i64 a1, .int .i64 b1, .int .i64 a2, .int .i64 b2, .int .i64 a3, .int .i64 b3], .agg #[.int .i64 k0, .int .i64 k1, .int .i64 k2, .int .i64 k3], .pointer (some ⟨g1, 0, none⟩), .pointer (some ⟨g2, 0, none⟩), .pointer (some ⟨g3, 0, none⟩), .pointer (some ⟨g4, 0, none⟩), .pointer (some ⟨g5, 0, none⟩), .slice s2.ptr m2 s2.cap, .int .i64 2, undef, undef, undef, undef, undef, undef, undef, .pointer (some ⟨g1, 0, none⟩), .int .i64 p, .pointer (some ⟨g1, 1, none⟩), .int .i64 q, .agg #[.int .i64 p, .int .i64 q, .int .i64 0, .int .i64 0, .int .i64 0, .int .i64 0, .int .i64 0], .int .i64 2, .bool true, .int .i64 1, .int .i64 2, u26, u27, u28, u29, u30, u31, u32, u33, u34, u35, u36, u37, u38, u39, undef, undef, undef, undef, undef, undef, undef, undef, undef, undef, undef, undef, undef, undef, undef, undef, undef, undef, undef, undef, undef, undef, undef, undef, undef, undef, undef, undef, undef, undef, undef, undef, undef, undef, undef, undef, undef, undef, undef, undef, undef, undef, undef, undef, undef, undef, undef, undef, undef, undef, undef, undef, undef, undef, undef, undef, undef, undef, undef, undef, undef, undef, undef, undef, undef, undef, undef, undef, undef, undef, undef, undef, undef, undef, undef, undef, undef, undef, undef, undef, undef, undef, undef, undef, undef, undef, undef, undef, undef, undef, undef, undef, undef, undef, undef, undef, undef, undef, undef, undef, undef], defers := [] } : Act)) (fun (zz : Nat × Own × Spans × Value × Value × Value × Value × Value × Value × Value × Value × Value × Value × Value × Value × Value × Value) => match zz with | ⟨m2, s2, O2, u26, u27, u28, u29, u30, u31, u32, u33, u34, u35, u36, u37, u38, u39⟩ => ⟨g5, #[.int .i64 p, .int .i64 q, .int .i64 (m2 : Int), .int .i64 0, .int .i64 0, .int .i64 0, .int .i64 0], 39⟩ :: ⟨g4, #[.int .i64 0, .int .i64 0, .int .i64 0, .int .i64 0, .int .i64 0, .int .i64 0, .int .i64 0], 39⟩ :: ⟨g3, #[.int .i64 k0, .int .i64 k1, .int .i64 k2, .int .i64 k3], 30⟩ :: ⟨g2, #[.int .i64 a0, .int .i64 b0, .int .i64 a1, .int .i64 b1, .int .i64 a2, .int .i64 b2, .int .i64 a3, .int .i64 b3], 29⟩ :: ⟨g1, #[.int .i64 p, .int .i64 q], 28⟩ :: (s2.rows 28 ++ [])) (fun (zz : Nat × Own × Spans × Value × Value × Value × Value × Value × Value × Value × Value × Value × Value × Value × Value × Value × Value) => match zz with | ⟨m2, s2, O2, u26, u27, u28, u29, u30, u31, u32, u33, u34, u35, u36, u37, u38, u39⟩ => O2.length = m2 ∧ O2 = fitL x y z ∧ m2 ≤ 3 ∧ s2.Has 2 m2 (flat enc2 O2)) ?_ ?_
    ·
     skip
     refine wc_block ?_
     refine wc_seq ?_
     refine wc_region ?_
     refine wl_val (.int .i64 2) rfl (fun _ => rfl) ?_
     simp only [Act.put, Xa, Xz, Xs]
     refine wl_val (.pointer (some ⟨g3, 2, none⟩)) rfl (fun _ => by go_simp) ?_
     simp only [Act.put, Xa, Xz, Xs]
     refine wl_cell 3 (.tmp 27) (.int .i64 k2) (own_row 2 rfl) rfl rfl rfl rfl Try.isAgg3 ?_
     simp only [Act.put, Xa, Xz, Xs]
     refine wl_val (.bool (k2 == 1)) rfl (fun w => run_cmp rfl rfl rfl Try.underlying3 rfl w) ?_
     simp only [Act.put, Xa, Xz, Xs]
     refine wl_nil ?_
     refine we_then ?_
     cases h12 : (k2 == 1)
     ·
      skip
      have p12 : ¬ (k2 = 1) := by first | (simp; done) | (simp at h12; done) | simpa using h12
      refine wc_false rfl ?_
      refine wc_skip ?_
      refine we_in ?_
      exact we_meet ⟨m1, s1, O1, _, _, _, _, _, _, _, _, _, _, _, _, _, _⟩ ⟨by simp [hl1], by rw [hO1, hz]; simp [fitL, one1, p12], by (try dsimp only); omega, hs1⟩ rfl (List.Sublist.cons_cons _ (List.Sublist.cons_cons _ (List.Sublist.cons_cons _ (List.Sublist.cons_cons _ (List.Sublist.cons_cons _ (List.Sublist.append_left List.Sublist.slnil _))))))
     ·
      skip
      have p12 : k2 = 1 := by first | (simp; done) | (simp at h12; done) | simpa using h12
      refine wc_true rfl ?_
      refine wc_seq ?_
      refine wc_region ?_
      refine wl_val (.slice s1.ptr m1 s1.cap) rfl (fun _ => rfl) ?_
      simp only [Act.put, Xa, Xz, Xs]
      refine wl_val (.int .i64 2) rfl (fun _ => rfl) ?_
      simp only [Act.put, Xa, Xz, Xs]
      refine wl_val (.pointer (some ⟨g2, 4, none⟩)) rfl (fun _ => by go_simp) ?_
      simp only [Act.put, Xa, Xz, Xs]
      refine wl_part 28 (.tmp 32) [.int .i64 a2, .int .i64 b2] (own_row 3 rfl) rfl rfl rfl rfl Try.underlying28 rfl (by kernel_rfl) ?_
      simp only [Act.put, Xa, Xz, Xs]
      refine wl_lit (e := 28) #[.int .i64 a2, .int .i64 b2] 1 rfl (fun _ => by go_simp) ?_
      intro g13
      simp only [Act.put, Xa, Xz, Xs]
      refine wl_append (e := 28) (size := 2) (bytes := 16) (m := 1) [⟨g13, #[.int .i64 a2, .int .i64 b2], 28⟩, ⟨g5, #[.int .i64 p, .int .i64 q, .int .i64 (m1 : Int), .int .i64 0, .int .i64 0, .int .i64 0, .int .i64 0], 39⟩, ⟨g4, #[.int .i64 0, .int .i64 0, .int .i64 0, .int .i64 0, .int .i64 0, .int .i64 0, .int .i64 0], 39⟩, ⟨g3, #[.int .i64 k0, .int .i64 k1, .int .i64 k2, .int .i64 k3], 30⟩, ⟨g2, #[.int .i64 a0, .int .i64 b0, .int .i64 a1, .int .i64 b1, .int .i64 a2, .int .i64 b2, .int .i64 a3, .int .i64 b3], 29⟩, ⟨g1, #[.int .i64 p, .int .i64 q], 28⟩] [] s1 (ys := [.int .i64 a2, .int .i64 b2]) rfl hs1 (sl_row 0 rfl) rfl (by simp [Value.oneCell']) rfl rfl rfl rfl Try.underlying54 (by unfold Elem; kernel_rfl) (by decide) (by unfold maxLen; omega) (by omega) ?_
      intro s14 hs14
      simp only [List.cons_append, List.nil_append, Act.put, Xa, Xz, Xs]
      refine wl_val (.slice s14.ptr (m1 + 1) s14.cap) rfl (fun _ => rfl) ?_
      simp only [Act.put, Xa, Xz, Xs]
      refine wl_nil ?_
      refine we_then ?_
      refine wc_region ?_
      refine wl_val (.pointer (some ⟨g5, 2, none⟩)) rfl (fun _ => by go_simp) ?_
      simp only [Act.put, Xa, Xz, Xs]
      refine wl_cell 3 (.tmp 36) (.int .i64 (m1 : Int)) (own_row 1 rfl) rfl rfl rfl rfl Try.isAgg3 ?_
      simp only [Act.put, Xa, Xz, Xs]
      refine wl_val (.int .i64 ((m1 + 1 : Nat) : Int)) rfl (fun w => run_nat (X := m1) (Y := 1) (Z := m1 + 1) rfl rfl rfl rfl (by omega) w) ?_
      simp only [Act.put, Xa, Xz, Xs]
      refine wl_val (.pointer (some ⟨g5, 2, none⟩)) rfl (fun _ => by go_simp) ?_
      simp only [Act.put, Xa, Xz, Xs]
      refine wl_store_cell 1 3 (.tmp 39) (.tmp 38) (.int .i64 (m1 : Int)) (.int .i64 ((m1 + 1 : Nat) : Int)) rfl rfl rfl rfl rfl rfl (by kernel_rfl) rfl ?_
      simp only [Act.put, List.set_cons_zero, List.set_cons_succ]
      refine wl_nil ?_
      refine we_in ?_
      exact we_meet ⟨(m1 + 1), s14, (O1 ++ [(a2, b2)]), _, _, _, _, _, _, _, _, _, _, _, _, _, _⟩ ⟨by simp [hl1], by rw [hO1, hz]; simp [fitL, one1, p12], by (try dsimp only); omega, has_snoc (x := (a2, b2)) (L := O1) hs14⟩ rfl (List.Sublist.cons _ (List.Sublist.cons_cons _ (List.Sublist.cons_cons _ (List.Sublist.cons_cons _ (List.Sublist.cons_cons _ (List.Sublist.cons_cons _ (List.Sublist.append_left List.Sublist.slnil _)))))))
    ·
     rintro ⟨m2, s2, O2, u26, u27, u28, u29, u30, u31, u32, u33, u34, u35, u36, u37, u38, u39⟩ hφ
     (try dsimp only at hφ ⊢)
     obtain ⟨hl2, hO2, hq2, hs2⟩ := hφ
     have hm2 : m2 = nF x y z := by rw [← hl2, hO2]; rfl
     have hlen : O2.length = m2 := hl2
     have hn3 := nF_is x y z
     have hb : ∀ b : Bool, 0 ≤ bI b ∧ bI b ≤ 1 := fun b => by cases b <;> decide
     have hb0 := hb x.f
     have hb1 := hb y.f
     have hb2 := hb z.f
     refine wc_region ?_
     refine wl_val (.int .i64 2) rfl (fun _ => rfl) ?_
     simp only [Act.put, Xa, Xz, Xs]
     refine wl_val (.int .i64 3) rfl (fun w => run_nat (X := 2) (Y := 1) (Z := 3) rfl rfl rfl rfl (by omega) w) ?_
     simp only [Act.put, Xa, Xz, Xs]
     refine wl_val (.int .i64 3) rfl (fun _ => rfl) ?_
     simp only [Act.put, Xa, Xz, Xs]
     refine wl_nil ?_
     refine we_round ?_
     refine wr_round ?_
     refine wc_seq ?_
     refine wc_seq ?_
     refine wc_region ?_
     refine wl_val (.int .i64 3) rfl (fun _ => rfl) ?_
     simp only [Act.put, Xa, Xz, Xs]
     refine wl_val (.bool false) rfl (fun w => run_cmp rfl rfl rfl Try.underlying3 rfl w) ?_
     simp only [Act.put, Xa, Xz, Xs]
     refine wl_nil ?_
     refine we_then ?_
     refine wc_false rfl ?_
     refine wc_exit ?_
     refine we_then_exit ?_
     refine we_then_exit ?_
     refine we_in_here ?_
     refine we_then ?_
     refine wc_seq ?_
     refine wc_region ?_
     refine wl_val (.bool false) rfl (fun _ => rfl) ?_
     simp only [Act.put, Xa, Xz, Xs]
     refine wl_nil ?_
     refine we_then ?_
     refine wc_seq ?_
     refine wc_region ?_
     refine wl_val (.bool false) rfl (fun _ => rfl) ?_
     simp only [Act.put, Xa, Xz, Xs]
     refine wl_nil ?_
     refine we_then ?_
     refine wc_seq ?_
     refine wc_region ?_
     refine wl_new 28 (#[.int .i64 0, .int .i64 0]) rfl (fun _ => by go_simp) ?_
     intro g15
     simp only [Act.put, Xa, Xz, Xs]
     refine wl_nil ?_
     refine we_then ?_
     refine wc_cut (fun (zz : Bool × Int × Int × Value × Value × Value × Value × Value × Value × Value × Value × Value × Value × Value) => match zz with | ⟨gr, a, b, u40, u41, u42, u43, u44, u45, u46, u47, u48, u49, u50⟩ => ({ tmps := #[.agg #[.int .i64 p, .int .i64 q], .agg #[.int .i64 a0, .int .i64 b0, .int .i64 a1, .int .i64 b1, .int .i64 a2, .int .i64 b2, .int .i64 a3, .int .i64 b3], .agg #[.int .i64 k0, .int .i64 k1, .int .i64 k2, .int .i64 k3], .pointer (some ⟨g1, 0, none⟩), .pointer (some ⟨g2, 0, none⟩), .pointer (some ⟨g3, 0, none⟩), .pointer (some ⟨g4, 0, none⟩), .pointer (some ⟨g5, 0, none⟩), .slice s2.ptr m2 s2.cap, .int .i64 3, .bool gr, .bool gr, .pointer (some ⟨g15, 0, none⟩), undef, undef, undef, undef, .pointer (some ⟨g1, 0, none⟩), .int .i64 p, .pointer (some ⟨g1, 1, none⟩), .int .i64 q, .agg #[.int .i64 p, .int .i64 q, .int .i64 0, .int .i64 0, .int .i64 0, .int .i64 0, .int .i64 0], .int .i64 3, .bool false, .int .i64 2, .int .i64 3, u26, u27, u28, u29, u30, u31, u32, u33, u34, u35, u36, u37, u38, u39, u40, u41, u42, u43, u44, u45, u46, u47, u48, u49, u50, undef, undef, undef, undef, undef, undef, undef, undef, undef, undef, undef, undef, undef, undef, undef, undef, undef, undef, undef, undef, undef, undef, undef, undef, undef, undef, undef, undef, undef, undef, undef, undef, undef, undef, undef, undef, undef, undef, undef, undef, undef, undef, undef, undef, undef, undef, undef, undef, undef, undef, undef, undef, undef, undef, undef, undef, undef, undef, undef, undef, undef, undef, undef, undef, undef, undef, undef, undef, undef, undef, undef, undef, undef, undef, undef, undef, undef, undef, undef, undef, undef, undef, undef, undef, undef, undef, undef, undef, undef, undef], defers := [] } : Act)) (fun (zz : Bool × Int × Int × Value × Value × Value × Value × Value × Value × Value × Value × Value × Value × Value) => match zz with | ⟨gr, a, b, u40, u41, u42, u43, u44, u45, u46, u47, u48, u49, u50⟩ => ⟨g15, #[.int .i64 a, .int .i64 b], 28⟩ :: ⟨g5, #[.int .i64 p, .int .i64 q, .int .i64 (m2 : Int), .int .i64 0, .int .i64 0, .int .i64 0, .int .i64 0], 39⟩ :: ⟨g4, #[.int .i64 0, .int .i64 0, .int .i64 0, .int .i64 0, .int .i64 0, .int .i64 0, .int .i64 0], 39⟩ :: ⟨g3, #[.int .i64 k0, .int .i64 k1, .int .i64 k2, .int .i64 k3], 30⟩ :: ⟨g2, #[.int .i64 a0, .int .i64 b0, .int .i64 a1, .int .i64 b1, .int .i64 a2, .int .i64 b2, .int .i64 a3, .int .i64 b3], 29⟩ :: ⟨g1, #[.int .i64 p, .int .i64 q], 28⟩ :: (s2.rows 28 ++ [])) (fun (zz : Bool × Int × Int × Value × Value × Value × Value × Value × Value × Value × Value × Value × Value × Value) => match zz with | ⟨gr, a, b, u40, u41, u42, u43, u44, u45, u46, u47, u48, u49, u50⟩ => gr = (agr x y z).2.2 ∧ (gr = true → a = (agr x y z).1 ∧ b = (agr x y z).2.1)) ?_ ?_
     ·
      skip
      refine wc_seq ?_
      refine wc_region ?_
      refine wl_val (.pointer (some ⟨g5, 2, none⟩)) rfl (fun _ => by go_simp) ?_
      simp only [Act.put, Xa, Xz, Xs]
      refine wl_cell 3 (.tmp 40) (.int .i64 (m2 : Int)) (own_row 1 rfl) rfl rfl rfl rfl Try.isAgg3 ?_
      simp only [Act.put, Xa, Xz, Xs]
      refine wl_val (.bool (decide (0 < (m2 : Int)))) rfl (fun w => run_cmp rfl rfl rfl Try.underlying3 rfl w) ?_
      simp only [Act.put, Xa, Xz, Xs]
      refine wl_nil ?_
      refine we_then ?_
      cases h16 : (decide (0 < (m2 : Int)))
      ·
       skip
       have p16 : ¬ (0 < (m2 : Int)) := of_decide_eq_false h16
       refine wc_false rfl ?_
       refine wc_skip ?_
       exact we_meet ⟨false, 0, 0, _, _, _, _, _, _, _, _, _, _, _⟩ (by (try dsimp only); exact by_none (by omega)) rfl (List.Sublist.cons_cons _ (List.Sublist.cons_cons _ (List.Sublist.cons_cons _ (List.Sublist.cons_cons _ (List.Sublist.cons_cons _ (List.Sublist.cons_cons _ (List.Sublist.append_left List.Sublist.slnil _)))))))
      ·
       skip
       have p16 : 0 < (m2 : Int) := of_decide_eq_true h16
       refine wc_true rfl ?_
       refine wc_seq ?_
       refine wc_region ?_
       refine wl_val (.slice s2.ptr m2 s2.cap) rfl (fun _ => rfl) ?_
       simp only [Act.put, Xa, Xz, Xs]
       refine wl_val (.pointer (some ⟨g5, 2, none⟩)) rfl (fun _ => by go_simp) ?_
       simp only [Act.put, Xa, Xz, Xs]
       refine wl_cell 3 (.tmp 45) (.int .i64 (m2 : Int)) (own_row 1 rfl) rfl rfl rfl rfl Try.isAgg3 ?_
       simp only [Act.put, Xa, Xz, Xs]
       refine wl_call_at 23 #[.slice s2.ptr m2 s2.cap, .int .i64 (m2 : Int)] (.tuple #[.agg #[.int .i64 ((byF O2 (m2 : Int)).1), .int .i64 ((byF O2 (m2 : Int)).2.1)], .bool ((byF O2 (m2 : Int)).2.2)]) rfl (fun _ => by go_simp) (fun W hE => by have h9 := by_any O2 s2.ptr s2.cap (m2 : Int) W ((sl_own [⟨g15, #[.int .i64 0, .int .i64 0], 28⟩, ⟨g5, #[.int .i64 p, .int .i64 q, .int .i64 (m2 : Int), .int .i64 0, .int .i64 0, .int .i64 0, .int .i64 0], 39⟩, ⟨g4, #[.int .i64 0, .int .i64 0, .int .i64 0, .int .i64 0, .int .i64 0, .int .i64 0, .int .i64 0], 39⟩, ⟨g3, #[.int .i64 k0, .int .i64 k1, .int .i64 k2, .int .i64 k3], 30⟩, ⟨g2, #[.int .i64 a0, .int .i64 b0, .int .i64 a1, .int .i64 b1, .int .i64 a2, .int .i64 b2, .int .i64 a3, .int .i64 b3], 29⟩, ⟨g1, #[.int .i64 p, .int .i64 q], 28⟩] [] hs2 rfl) W hE) (by omega); rw [hl2] at h9; exact h9) ?_
       simp only [Act.put, Xa, Xz, Xs]
       refine wl_val (.tuple #[.agg #[.int .i64 ((byF O2 (m2 : Int)).1), .int .i64 ((byF O2 (m2 : Int)).2.1)], .bool ((byF O2 (m2 : Int)).2.2)]) rfl (fun _ => rfl) ?_
       simp only [Act.put, Xa, Xz, Xs]
       refine wl_val (.agg #[.int .i64 ((byF O2 (m2 : Int)).1), .int .i64 ((byF O2 (m2 : Int)).2.1)]) rfl (fun _ => by go_simp) ?_
       simp only [Act.put, Xa, Xz, Xs]
       refine wl_val (.bool ((byF O2 (m2 : Int)).2.2)) rfl (fun _ => by go_simp) ?_
       simp only [Act.put, Xa, Xz, Xs]
       refine wl_store 0 28 (.tmp 12) (.tmp 48) (#[.int .i64 ((byF O2 (m2 : Int)).1), .int .i64 ((byF O2 (m2 : Int)).2.1)]) rfl rfl rfl rfl rfl (by kernel_rfl) rfl (by simp [Value.oneCell']) ?_
       simp only [Act.put, List.set_cons_zero]
       refine wl_val (.bool ((byF O2 (m2 : Int)).2.2)) rfl (fun _ => rfl) ?_
       simp only [Act.put, Xa, Xz, Xs]
       refine wl_nil ?_
       refine we_then ?_
       refine wc_region ?_
       refine wl_val (.bool ((byF O2 (m2 : Int)).2.2)) rfl (fun _ => rfl) ?_
       simp only [Act.put, Xa, Xz, Xs]
       refine wl_val (.bool ((byF O2 (m2 : Int)).2.2)) rfl (fun _ => rfl) ?_
       simp only [Act.put, Xa, Xz, Xs]
       refine wl_nil ?_
       exact we_meet ⟨((byF O2 (m2 : Int)).2.2), ((byF O2 (m2 : Int)).1), ((byF O2 (m2 : Int)).2.1), _, _, _, _, _, _, _, _, _, _, _⟩ (by (try dsimp only); exact by_agr (by omega) hm2 hO2) rfl (List.Sublist.cons_cons _ (List.Sublist.cons_cons _ (List.Sublist.cons_cons _ (List.Sublist.cons_cons _ (List.Sublist.cons_cons _ (List.Sublist.cons_cons _ (List.Sublist.append_left List.Sublist.slnil _)))))))
     ·
      rintro ⟨gr, a, b, u40, u41, u42, u43, u44, u45, u46, u47, u48, u49, u50⟩ hφ
      (try dsimp only at hφ ⊢)
      obtain ⟨hg1, hg2⟩ := hφ
      refine wc_cut (fun (zz : Int × Value × Value × Value × Value × Value × Value × Value) => match zz with | ⟨cl, u51, u52, u53, u54, u55, u56, u57⟩ => ({ tmps := #[.agg #[.int .i64 p, .int .i64 q], .agg #[.int .i64 a0, .int .i64 b0, .int .i64 a1, .int .i64 b1, .int .i64 a2, .int .i64 b2, .int .i64 a3, .int .i64 b3], .agg #[.int .i64 k0, .int .i64 k1, .int .i64 k2, .int .i64 k3], .pointer (some ⟨g1, 0, none⟩), .pointer (some ⟨g2, 0, none⟩), .pointer (some ⟨g3, 0, none⟩), .pointer (some ⟨g4, 0, none⟩), .pointer (some ⟨g5, 0, none⟩), .slice s2.ptr m2 s2.cap, .int .i64 3, .bool gr, .bool gr, .pointer (some ⟨g15, 0, none⟩), undef, undef, undef, undef, .pointer (some ⟨g1, 0, none⟩), .int .i64 p, .pointer (some ⟨g1, 1, none⟩), .int .i64 q, .agg #[.int .i64 p, .int .i64 q, .int .i64 0, .int .i64 0, .int .i64 0, .int .i64 0, .int .i64 0], .int .i64 3, .bool false, .int .i64 2, .int .i64 3, u26, u27, u28, u29, u30, u31, u32, u33, u34, u35, u36, u37, u38, u39, u40, u41, u42, u43, u44, u45, u46, u47, u48, u49, u50, u51, u52, u53, u54, u55, u56, u57, undef, undef, undef, undef, undef, undef, undef, undef, undef, undef, undef, undef, undef, undef, undef, undef, undef, undef, undef, undef, undef, undef, undef, undef, undef, undef, undef, undef, undef, undef, undef, undef, undef, undef, undef, undef, undef, undef, undef, undef, undef, undef, undef, undef, undef, undef, undef, undef, undef, undef, undef, undef, undef, undef, undef, undef, undef, undef, undef, undef, undef, undef, undef, undef, undef, undef, undef, undef, undef, undef, undef, undef, undef, undef, undef, undef, undef, undef, undef, undef, undef, undef, undef], defers := [] } : Act)) (fun (zz : Int × Value × Value × Value × Value × Value × Value × Value) => match zz with | ⟨cl, u51, u52, u53, u54, u55, u56, u57⟩ => ⟨g15, #[.int .i64 a, .int .i64 b], 28⟩ :: ⟨g5, #[.int .i64 p, .int .i64 q, .int .i64 (m2 : Int), .int .i64 cl, .int .i64 0, .int .i64 0, .int .i64 0], 39⟩ :: ⟨g4, #[.int .i64 0, .int .i64 0, .int .i64 0, .int .i64 0, .int .i64 0, .int .i64 0, .int .i64 0], 39⟩ :: ⟨g3, #[.int .i64 k0, .int .i64 k1, .int .i64 k2, .int .i64 k3], 30⟩ :: ⟨g2, #[.int .i64 a0, .int .i64 b0, .int .i64 a1, .int .i64 b1, .int .i64 a2, .int .i64 b2, .int .i64 a3, .int .i64 b3], 29⟩ :: ⟨g1, #[.int .i64 p, .int .i64 q], 28⟩ :: (s2.rows 28 ++ [])) (fun (zz : Int × Value × Value × Value × Value × Value × Value × Value) => match zz with | ⟨cl, u51, u52, u53, u54, u55, u56, u57⟩ => cl = bI (clean x y z)) ?_ ?_
      ·
       skip
       refine wc_seq ?_
       refine wc_region ?_
       refine wl_val (.pointer (some ⟨g5, 2, none⟩)) rfl (fun _ => by go_simp) ?_
       simp only [Act.put, Xa, Xz, Xs]
       refine wl_cell 3 (.tmp 51) (.int .i64 (m2 : Int)) (own_row 1 rfl) rfl rfl rfl rfl Try.isAgg3 ?_
       simp only [Act.put, Xa, Xz, Xs]
       refine wl_val (.bool ((m2 : Int) == 3)) rfl (fun w => run_cmp rfl rfl rfl Try.underlying3 rfl w) ?_
       simp only [Act.put, Xa, Xz, Xs]
       refine wl_val (.bool ((m2 : Int) == 3)) rfl (fun _ => rfl) ?_
       simp only [Act.put, Xa, Xz, Xs]
       cases h17 : ((m2 : Int) == 3)
       ·
        skip
        have p17 : ¬ ((m2 : Int) = 3) := by first | (simp; done) | (simp at h17; done) | simpa using h17
        refine wl_skip rfl ?_
        simp only [Act.put, Xa, Xz, Xs]
        refine wl_val (.bool false) rfl (fun _ => rfl) ?_
        simp only [Act.put, Xa, Xz, Xs]
        refine wl_nil ?_
        refine we_then ?_
        refine wc_false rfl ?_
        refine wc_skip ?_
        exact we_meet ⟨0, _, _, _, _, _, _, _⟩ (by (try dsimp only); exact clean_no1 (by omega)) rfl (List.Sublist.cons_cons _ (List.Sublist.cons_cons _ (List.Sublist.cons_cons _ (List.Sublist.cons_cons _ (List.Sublist.cons_cons _ (List.Sublist.cons_cons _ (List.Sublist.append_left List.Sublist.slnil _)))))))
       ·
        skip
        have p17 : (m2 : Int) = 3 := by first | (simp; done) | (simp at h17; done) | simpa using h17
        refine wl_val (.bool gr) rfl (fun _ => rfl) ?_
        simp only [Act.put, Xa, Xz, Xs]
        refine wl_val (.bool gr) rfl (fun _ => rfl) ?_
        simp only [Act.put, Xa, Xz, Xs]
        refine wl_nil ?_
        refine we_then ?_
        cases h18 : (gr)
        ·
         skip
         refine wc_false rfl ?_
         refine wc_skip ?_
         exact we_meet ⟨0, _, _, _, _, _, _, _⟩ (by (try dsimp only); exact clean_no2 (hg1.symm.trans h18)) rfl (List.Sublist.cons_cons _ (List.Sublist.cons_cons _ (List.Sublist.cons_cons _ (List.Sublist.cons_cons _ (List.Sublist.cons_cons _ (List.Sublist.cons_cons _ (List.Sublist.append_left List.Sublist.slnil _)))))))
        ·
         skip
         refine wc_true rfl ?_
         refine wc_region ?_
         refine wl_val (.pointer (some ⟨g5, 3, none⟩)) rfl (fun _ => by go_simp) ?_
         simp only [Act.put, Xa, Xz, Xs]
         refine wl_store_cell 1 3 (.tmp 57) (.const (.int .i64 1)) (.int .i64 0) (.int .i64 1) rfl rfl rfl rfl rfl rfl (by kernel_rfl) rfl ?_
         simp only [Act.put, List.set_cons_zero, List.set_cons_succ]
         refine wl_nil ?_
         exact we_meet ⟨1, _, _, _, _, _, _, _⟩ (by (try dsimp only); exact clean_yes (by omega) (hg1.symm.trans h18)) rfl (List.Sublist.cons_cons _ (List.Sublist.cons_cons _ (List.Sublist.cons_cons _ (List.Sublist.cons_cons _ (List.Sublist.cons_cons _ (List.Sublist.cons_cons _ (List.Sublist.append_left List.Sublist.slnil _)))))))
      ·
       rintro ⟨cl, u51, u52, u53, u54, u55, u56, u57⟩ hφ
       (try dsimp only at hφ ⊢)
       have hcl := hφ
       refine wc_cut (fun (zz : Bool × Int × Int × Value × Value × Value × Value × Value × Value × Value × Value × Value × Value × Value × Value) => match zz with | ⟨sd, a, b, u58, u59, u60, u61, u62, u63, u64, u65, u66, u67, u68, u69⟩ => ({ tmps := #[.agg #[.int .i64 p, .int .i64 q], .agg #[.int .i64 a0, .int .i64 b0, .int .i64 a1, .int .i64 b1, .int .i64 a2, .int .i64 b2, .int .i64 a3, .int .i64 b3], .agg #[.int .i64 k0, .int .i64 k1, .int .i64 k2, .int .i64 k3], .pointer (some ⟨g1, 0, none⟩), .pointer (some ⟨g2, 0, none⟩), .pointer (some ⟨g3, 0, none⟩), .pointer (some ⟨g4, 0, none⟩), .pointer (some ⟨g5, 0, none⟩), .slice s2.ptr m2 s2.cap, .int .i64 3, .bool sd, .bool gr, .pointer (some ⟨g15, 0, none⟩), undef, undef, undef, undef, .pointer (some ⟨g1, 0, none⟩), .int .i64 p, .pointer (some ⟨g1, 1, none⟩), .int .i64 q, .agg #[.int .i64 p, .int .i64 q, .int .i64 0, .int .i64 0, .int .i64 0, .int .i64 0, .int .i64 0], .int .i64 3, .bool false, .int .i64 2, .int .i64 3, u26, u27, u28, u29, u30, u31, u32, u33, u34, u35, u36, u37, u38, u39, u40, u41, u42, u43, u44, u45, u46, u47, u48, u49, u50, u51, u52, u53, u54, u55, u56, u57, u58, u59, u60, u61, u62, u63, u64, u65, u66, u67, u68, u69, undef, undef, undef, undef, undef, undef, undef, undef, undef, undef, undef, undef, undef, undef, undef, undef, undef, undef, undef, undef, undef, undef, undef, undef, undef, undef, undef, undef, undef, undef, undef, undef, undef, undef, undef, undef, undef, undef, undef, undef, undef, undef, undef, undef, undef, undef, undef, undef, undef, undef, undef, undef, undef, undef, undef, undef, undef, undef, undef, undef, undef, undef, undef, undef, undef, undef, undef, undef, undef, undef, undef], defers := [] } : Act)) (fun (zz : Bool × Int × Int × Value × Value × Value × Value × Value × Value × Value × Value × Value × Value × Value × Value) => match zz with | ⟨sd, a, b, u58, u59, u60, u61, u62, u63, u64, u65, u66, u67, u68, u69⟩ => ⟨g15, #[.int .i64 a, .int .i64 b], 28⟩ :: ⟨g5, #[.int .i64 p, .int .i64 q, .int .i64 (m2 : Int), .int .i64 cl, .int .i64 0, .int .i64 0, .int .i64 0], 39⟩ :: ⟨g4, #[.int .i64 0, .int .i64 0, .int .i64 0, .int .i64 0, .int .i64 0, .int .i64 0, .int .i64 0], 39⟩ :: ⟨g3, #[.int .i64 k0, .int .i64 k1, .int .i64 k2, .int .i64 k3], 30⟩ :: ⟨g2, #[.int .i64 a0, .int .i64 b0, .int .i64 a1, .int .i64 b1, .int .i64 a2, .int .i64 b2, .int .i64 a3, .int .i64 b3], 29⟩ :: ⟨g1, #[.int .i64 p, .int .i64 q], 28⟩ :: (s2.rows 28 ++ [])) (fun (zz : Bool × Int × Int × Value × Value × Value × Value × Value × Value × Value × Value × Value × Value × Value × Value) => match zz with | ⟨sd, a, b, u58, u59, u60, u61, u62, u63, u64, u65, u66, u67, u68, u69⟩ => sd = (say x y z).2.2 ∧ (sd = true → a = (say x y z).1 ∧ b = (say x y z).2.1)) ?_ ?_
       ·
        skip
        refine wc_seq ?_
        refine wc_region ?_
        refine wl_val (.pointer (some ⟨g5, 2, none⟩)) rfl (fun _ => by go_simp) ?_
        simp only [Act.put, Xa, Xz, Xs]
        refine wl_cell 3 (.tmp 58) (.int .i64 (m2 : Int)) (own_row 1 rfl) rfl rfl rfl rfl Try.isAgg3 ?_
        simp only [Act.put, Xa, Xz, Xs]
        refine wl_val (.bool ((m2 : Int) == 3)) rfl (fun w => run_cmp rfl rfl rfl Try.underlying3 rfl w) ?_
        simp only [Act.put, Xa, Xz, Xs]
        refine wl_val (.bool ((m2 : Int) == 3)) rfl (fun _ => rfl) ?_
        simp only [Act.put, Xa, Xz, Xs]
        cases h19 : ((m2 : Int) == 3)
        ·
         skip
         have p19 : ¬ ((m2 : Int) = 3) := by first | (simp; done) | (simp at h19; done) | simpa using h19
         refine wl_skip rfl ?_
         simp only [Act.put, Xa, Xz, Xs]
         refine wl_skip rfl ?_
         simp only [Act.put, Xa, Xz, Xs]
         refine wl_val (.bool false) rfl (fun _ => rfl) ?_
         simp only [Act.put, Xa, Xz, Xs]
         refine wl_nil ?_
         refine we_then ?_
         refine wc_false rfl ?_
         refine wc_skip ?_
         exact we_meet ⟨gr, a, b, _, _, _, _, _, _, _, _, _, _, _, _⟩ (by (try dsimp only); exact say_a hg1 hg2 (.inl (by omega))) rfl (List.Sublist.cons_cons _ (List.Sublist.cons_cons _ (List.Sublist.cons_cons _ (List.Sublist.cons_cons _ (List.Sublist.cons_cons _ (List.Sublist.cons_cons _ (List.Sublist.append_left List.Sublist.slnil _)))))))
        ·
         skip
         have p19 : (m2 : Int) = 3 := by first | (simp; done) | (simp at h19; done) | simpa using h19
         refine wl_val (.bool gr) rfl (fun _ => rfl) ?_
         simp only [Act.put, Xa, Xz, Xs]
         refine wl_val (.bool (!gr)) rfl (fun _ => by go_simp) ?_
         simp only [Act.put, Xa, Xz, Xs]
         refine wl_val (.bool (!gr)) rfl (fun _ => rfl) ?_
         simp only [Act.put, Xa, Xz, Xs]
         refine wl_nil ?_
         refine we_then ?_
         cases h20 : (gr)
         ·
          skip
          refine wc_true rfl ?_
          refine wc_region ?_
          refine wl_val (.slice s2.ptr m2 s2.cap) rfl (fun _ => rfl) ?_
          simp only [Act.put, Xa, Xz, Xs]
          refine wl_call_at 23 #[.slice s2.ptr m2 s2.cap, .int .i64 2] (.tuple #[.agg #[.int .i64 ((byF O2 2).1), .int .i64 ((byF O2 2).2.1)], .bool ((byF O2 2).2.2)]) rfl (fun _ => by go_simp) (fun W hE => by have h9 := by_any O2 s2.ptr s2.cap 2 W ((sl_own [⟨g15, #[.int .i64 a, .int .i64 b], 28⟩, ⟨g5, #[.int .i64 p, .int .i64 q, .int .i64 (m2 : Int), .int .i64 cl, .int .i64 0, .int .i64 0, .int .i64 0], 39⟩, ⟨g4, #[.int .i64 0, .int .i64 0, .int .i64 0, .int .i64 0, .int .i64 0, .int .i64 0, .int .i64 0], 39⟩, ⟨g3, #[.int .i64 k0, .int .i64 k1, .int .i64 k2, .int .i64 k3], 30⟩, ⟨g2, #[.int .i64 a0, .int .i64 b0, .int .i64 a1, .int .i64 b1, .int .i64 a2, .int .i64 b2, .int .i64 a3, .int .i64 b3], 29⟩, ⟨g1, #[.int .i64 p, .int .i64 q], 28⟩] [] hs2 rfl) W hE) (by omega); rw [hl2] at h9; exact h9) ?_
          simp only [Act.put, Xa, Xz, Xs]
          refine wl_val (.tuple #[.agg #[.int .i64 ((byF O2 2).1), .int .i64 ((byF O2 2).2.1)], .bool ((byF O2 2).2.2)]) rfl (fun _ => rfl) ?_
          simp only [Act.put, Xa, Xz, Xs]
          refine wl_val (.agg #[.int .i64 ((byF O2 2).1), .int .i64 ((byF O2 2).2.1)]) rfl (fun _ => by go_simp) ?_
          simp only [Act.put, Xa, Xz, Xs]
          refine wl_val (.bool ((byF O2 2).2.2)) rfl (fun _ => by go_simp) ?_
          simp only [Act.put, Xa, Xz, Xs]
          refine wl_store 0 28 (.tmp 12) (.tmp 68) (#[.int .i64 ((byF O2 2).1), .int .i64 ((byF O2 2).2.1)]) rfl rfl rfl rfl rfl (by kernel_rfl) rfl (by simp [Value.oneCell']) ?_
          simp only [Act.put, List.set_cons_zero]
          refine wl_val (.bool ((byF O2 2).2.2)) rfl (fun _ => rfl) ?_
          simp only [Act.put, Xa, Xz, Xs]
          refine wl_nil ?_
          exact we_meet ⟨((byF O2 2).2.2), ((byF O2 2).1), ((byF O2 2).2.1), _, _, _, _, _, _, _, _, _, _, _, _⟩ (by (try dsimp only); exact say_c hO2 (hg1.symm.trans h20) (by omega)) rfl (List.Sublist.cons_cons _ (List.Sublist.cons_cons _ (List.Sublist.cons_cons _ (List.Sublist.cons_cons _ (List.Sublist.cons_cons _ (List.Sublist.cons_cons _ (List.Sublist.append_left List.Sublist.slnil _)))))))
         ·
          skip
          refine wc_false rfl ?_
          refine wc_skip ?_
          exact we_meet ⟨true, a, b, _, _, _, _, _, _, _, _, _, _, _, _⟩ (by (try dsimp only); exact (by have z9 := say_a hg1 hg2 (.inr h20); rw [h20] at z9; exact z9)) rfl (List.Sublist.cons_cons _ (List.Sublist.cons_cons _ (List.Sublist.cons_cons _ (List.Sublist.cons_cons _ (List.Sublist.cons_cons _ (List.Sublist.cons_cons _ (List.Sublist.append_left List.Sublist.slnil _)))))))
       ·
        rintro ⟨sd, a, b, u58, u59, u60, u61, u62, u63, u64, u65, u66, u67, u68, u69⟩ hφ
        (try dsimp only at hφ ⊢)
        obtain ⟨hs1, hs2⟩ := hφ
        have hs3 := fun (e : sd = true) => say_in gx gy gz (hs1.symm.trans e)
        refine wc_cut (fun (zz : Int × Int × Int × Value × Value × Value × Value × Value × Value × Value × Value) => match zz with | ⟨u, v, c, u70, u71, u72, u73, u74, u75, u76, u77⟩ => ({ tmps := #[.agg #[.int .i64 p, .int .i64 q], .agg #[.int .i64 a0, .int .i64 b0, .int .i64 a1, .int .i64 b1, .int .i64 a2, .int .i64 b2, .int .i64 a3, .int .i64 b3], .agg #[.int .i64 k0, .int .i64 k1, .int .i64 k2, .int .i64 k3], .pointer (some ⟨g1, 0, none⟩), .pointer (some ⟨g2, 0, none⟩), .pointer (some ⟨g3, 0, none⟩), .pointer (some ⟨g4, 0, none⟩), .pointer (some ⟨g5, 0, none⟩), .slice s2.ptr m2 s2.cap, .int .i64 3, .bool sd, .bool gr, .pointer (some ⟨g15, 0, none⟩), undef, undef, undef, undef, .pointer (some ⟨g1, 0, none⟩), .int .i64 p, .pointer (some ⟨g1, 1, none⟩), .int .i64 q, .agg #[.int .i64 p, .int .i64 q, .int .i64 0, .int .i64 0, .int .i64 0, .int .i64 0, .int .i64 0], .int .i64 3, .bool false, .int .i64 2, .int .i64 3, u26, u27, u28, u29, u30, u31, u32, u33, u34, u35, u36, u37, u38, u39, u40, u41, u42, u43, u44, u45, u46, u47, u48, u49, u50, u51, u52, u53, u54, u55, u56, u57, u58, u59, u60, u61, u62, u63, u64, u65, u66, u67, u68, u69, u70, u71, u72, u73, u74, u75, u76, u77, undef, undef, undef, undef, undef, undef, undef, undef, undef, undef, undef, undef, undef, undef, undef, undef, undef, undef, undef, undef, undef, undef, undef, undef, undef, undef, undef, undef, undef, undef, undef, undef, undef, undef, undef, undef, undef, undef, undef, undef, undef, undef, undef, undef, undef, undef, undef, undef, undef, undef, undef, undef, undef, undef, undef, undef, undef, undef, undef, undef, undef, undef, undef], defers := [] } : Act)) (fun (zz : Int × Int × Int × Value × Value × Value × Value × Value × Value × Value × Value) => match zz with | ⟨u, v, c, u70, u71, u72, u73, u74, u75, u76, u77⟩ => ⟨g15, #[.int .i64 a, .int .i64 b], 28⟩ :: ⟨g5, #[.int .i64 u, .int .i64 v, .int .i64 (m2 : Int), .int .i64 cl, .int .i64 c, .int .i64 0, .int .i64 0], 39⟩ :: ⟨g4, #[.int .i64 0, .int .i64 0, .int .i64 0, .int .i64 0, .int .i64 0, .int .i64 0, .int .i64 0], 39⟩ :: ⟨g3, #[.int .i64 k0, .int .i64 k1, .int .i64 k2, .int .i64 k3], 30⟩ :: ⟨g2, #[.int .i64 a0, .int .i64 b0, .int .i64 a1, .int .i64 b1, .int .i64 a2, .int .i64 b2, .int .i64 a3, .int .i64 b3], 29⟩ :: ⟨g1, #[.int .i64 p, .int .i64 q], 28⟩ :: (s2.rows 28 ++ [])) (fun (zz : Int × Int × Int × Value × Value × Value × Value × Value × Value × Value × Value) => match zz with | ⟨u, v, c, u70, u71, u72, u73, u74, u75, u76, u77⟩ => TellsF (first p q x y z) u v c) ?_ ?_
        ·
         skip
         refine wc_seq ?_
         refine wc_region ?_
         refine wl_val (.bool sd) rfl (fun _ => rfl) ?_
         simp only [Act.put, Xa, Xz, Xs]
         refine wl_nil ?_
         refine we_then ?_
         cases h21 : (sd)
         ·
          skip
          refine wc_false rfl ?_
          refine wc_seq ?_
          refine wc_region ?_
          refine wl_val (.pointer (some ⟨g5, 2, none⟩)) rfl (fun _ => by go_simp) ?_
          simp only [Act.put, Xa, Xz, Xs]
          refine wl_cell 3 (.tmp 74) (.int .i64 (m2 : Int)) (own_row 1 rfl) rfl rfl rfl rfl Try.isAgg3 ?_
          simp only [Act.put, Xa, Xz, Xs]
          refine wl_val (.bool (decide (0 < (m2 : Int)))) rfl (fun w => run_cmp rfl rfl rfl Try.underlying3 rfl w) ?_
          simp only [Act.put, Xa, Xz, Xs]
          refine wl_nil ?_
          refine we_then ?_
          cases h22 : (decide (0 < (m2 : Int)))
          ·
           skip
           have p22 : ¬ (0 < (m2 : Int)) := of_decide_eq_false h22
           refine wc_false rfl ?_
           refine wc_skip ?_
           exact we_meet ⟨p, q, 0, _, _, _, _, _, _, _, _⟩ (by (try dsimp only); exact first_zero (hs1.symm.trans h21) (by omega)) rfl (List.Sublist.cons_cons _ (List.Sublist.cons_cons _ (List.Sublist.cons_cons _ (List.Sublist.cons_cons _ (List.Sublist.cons_cons _ (List.Sublist.cons_cons _ (List.Sublist.append_left List.Sublist.slnil _)))))))
          ·
           skip
           have p22 : 0 < (m2 : Int) := of_decide_eq_true h22
           refine wc_true rfl ?_
           refine wc_region ?_
           refine wl_val (.pointer (some ⟨g5, 4, none⟩)) rfl (fun _ => by go_simp) ?_
           simp only [Act.put, Xa, Xz, Xs]
           refine wl_store_cell 1 3 (.tmp 77) (.const (.int .i64 1)) (.int .i64 0) (.int .i64 1) rfl rfl rfl rfl rfl rfl (by kernel_rfl) rfl ?_
           simp only [Act.put, List.set_cons_zero, List.set_cons_succ]
           refine wl_nil ?_
           exact we_meet ⟨p, q, 1, _, _, _, _, _, _, _, _⟩ (by (try dsimp only); exact first_some (hs1.symm.trans h21) (by omega)) rfl (List.Sublist.cons_cons _ (List.Sublist.cons_cons _ (List.Sublist.cons_cons _ (List.Sublist.cons_cons _ (List.Sublist.cons_cons _ (List.Sublist.cons_cons _ (List.Sublist.append_left List.Sublist.slnil _)))))))
         ·
          skip
          refine wc_true rfl ?_
          refine wc_region ?_
          refine wl_load 39 (.tmp 7) (own_row 1 rfl) rfl rfl rfl Try.underlying39 rfl (by kernel_rfl) ?_
          simp only [Act.put, Xa, Xz, Xs]
          refine wl_load 28 (.tmp 12) (own_row 0 rfl) rfl rfl rfl Try.underlying28 rfl (by kernel_rfl) ?_
          simp only [Act.put, Xa, Xz, Xs]
          cases h23 : (decide (max p a ≤ min q b))
          ·
           skip
           have p23 : ¬ (max p a ≤ min q b) := of_decide_eq_false h23
           refine wl_call 24 #[.agg #[.int .i64 p, .int .i64 q, .int .i64 (m2 : Int), .int .i64 cl, .int .i64 0, .int .i64 0, .int .i64 0], .agg #[.int .i64 a, .int .i64 b]] (.agg #[.int .i64 p, .int .i64 q, .int .i64 (m2 : Int), .int .i64 cl, .int .i64 1, .int .i64 0, .int .i64 0]) rfl (fun _ => by go_simp) (fun W => by have h9 := narrow_any p q (m2 : Int) cl 0 0 0 a b W; rwa [if_neg p23] at h9) ?_
           simp only [Act.put, Xa, Xz, Xs]
           refine wl_store 1 39 (.tmp 7) (.tmp 73) (#[.int .i64 p, .int .i64 q, .int .i64 (m2 : Int), .int .i64 cl, .int .i64 1, .int .i64 0, .int .i64 0]) rfl rfl rfl rfl rfl (by kernel_rfl) rfl (by simp [Value.oneCell']) ?_
           simp only [Act.put, List.set_cons_zero, List.set_cons_succ]
           refine wl_nil ?_
           exact we_meet ⟨p, q, 1, _, _, _, _, _, _, _, _⟩ (by (try dsimp only); exact first_no (hs1.symm.trans h21) (hs2 h21) p23) rfl (List.Sublist.cons_cons _ (List.Sublist.cons_cons _ (List.Sublist.cons_cons _ (List.Sublist.cons_cons _ (List.Sublist.cons_cons _ (List.Sublist.cons_cons _ (List.Sublist.append_left List.Sublist.slnil _)))))))
          ·
           skip
           have p23 : max p a ≤ min q b := of_decide_eq_true h23
           refine wl_call 24 #[.agg #[.int .i64 p, .int .i64 q, .int .i64 (m2 : Int), .int .i64 cl, .int .i64 0, .int .i64 0, .int .i64 0], .agg #[.int .i64 a, .int .i64 b]] (.agg #[.int .i64 (max p a), .int .i64 (min q b), .int .i64 (m2 : Int), .int .i64 cl, .int .i64 0, .int .i64 0, .int .i64 0]) rfl (fun _ => by go_simp) (fun W => by have h9 := narrow_any p q (m2 : Int) cl 0 0 0 a b W; rwa [if_pos p23] at h9) ?_
           simp only [Act.put, Xa, Xz, Xs]
           refine wl_store 1 39 (.tmp 7) (.tmp 73) (#[.int .i64 (max p a), .int .i64 (min q b), .int .i64 (m2 : Int), .int .i64 cl, .int .i64 0, .int .i64 0, .int .i64 0]) rfl rfl rfl rfl rfl (by kernel_rfl) rfl (by simp [Value.oneCell']) ?_
           simp only [Act.put, List.set_cons_zero, List.set_cons_succ]
           refine wl_nil ?_
           exact we_meet ⟨(max p a), (min q b), 0, _, _, _, _, _, _, _, _⟩ (by (try dsimp only); exact first_yes (hs1.symm.trans h21) (hs2 h21) p23) rfl (List.Sublist.cons_cons _ (List.Sublist.cons_cons _ (List.Sublist.cons_cons _ (List.Sublist.cons_cons _ (List.Sublist.cons_cons _ (List.Sublist.cons_cons _ (List.Sublist.append_left List.Sublist.slnil _)))))))
        ·
         rintro ⟨u, v, c, u70, u71, u72, u73, u74, u75, u76, u77⟩ hφ
         (try dsimp only at hφ ⊢)
         have hf := hφ
         refine wc_cut (fun (zz : Int × Int × Int × Value × Value × Value × Value × Value × Value × Value) => match zz with | ⟨u2, v2, c2, u78, u79, u80, u81, u82, u83, u84⟩ => ({ tmps := #[.agg #[.int .i64 p, .int .i64 q], .agg #[.int .i64 a0, .int .i64 b0, .int .i64 a1, .int .i64 b1, .int .i64 a2, .int .i64 b2, .int .i64 a3, .int .i64 b3], .agg #[.int .i64 k0, .int .i64 k1, .int .i64 k2, .int .i64 k3], .pointer (some ⟨g1, 0, none⟩), .pointer (some ⟨g2, 0, none⟩), .pointer (some ⟨g3, 0, none⟩), .pointer (some ⟨g4, 0, none⟩), .pointer (some ⟨g5, 0, none⟩), .slice s2.ptr m2 s2.cap, .int .i64 3, .bool sd, .bool gr, .pointer (some ⟨g15, 0, none⟩), undef, undef, undef, undef, .pointer (some ⟨g1, 0, none⟩), .int .i64 p, .pointer (some ⟨g1, 1, none⟩), .int .i64 q, .agg #[.int .i64 p, .int .i64 q, .int .i64 0, .int .i64 0, .int .i64 0, .int .i64 0, .int .i64 0], .int .i64 3, .bool false, .int .i64 2, .int .i64 3, u26, u27, u28, u29, u30, u31, u32, u33, u34, u35, u36, u37, u38, u39, u40, u41, u42, u43, u44, u45, u46, u47, u48, u49, u50, u51, u52, u53, u54, u55, u56, u57, u58, u59, u60, u61, u62, u63, u64, u65, u66, u67, u68, u69, u70, u71, u72, u73, u74, u75, u76, u77, u78, u79, u80, u81, u82, u83, u84, undef, undef, undef, undef, undef, undef, undef, undef, undef, undef, undef, undef, undef, undef, undef, undef, undef, undef, undef, undef, undef, undef, undef, undef, undef, undef, undef, undef, undef, undef, undef, undef, undef, undef, undef, undef, undef, undef, undef, undef, undef, undef, undef, undef, undef, undef, undef, undef, undef, undef, undef, undef, undef, undef, undef, undef], defers := [] } : Act)) (fun (zz : Int × Int × Int × Value × Value × Value × Value × Value × Value × Value) => match zz with | ⟨u2, v2, c2, u78, u79, u80, u81, u82, u83, u84⟩ => ⟨g15, #[.int .i64 a, .int .i64 b], 28⟩ :: ⟨g5, #[.int .i64 u2, .int .i64 v2, .int .i64 (m2 : Int), .int .i64 cl, .int .i64 c2, .int .i64 0, .int .i64 0], 39⟩ :: ⟨g4, #[.int .i64 0, .int .i64 0, .int .i64 0, .int .i64 0, .int .i64 0, .int .i64 0, .int .i64 0], 39⟩ :: ⟨g3, #[.int .i64 k0, .int .i64 k1, .int .i64 k2, .int .i64 k3], 30⟩ :: ⟨g2, #[.int .i64 a0, .int .i64 b0, .int .i64 a1, .int .i64 b1, .int .i64 a2, .int .i64 b2, .int .i64 a3, .int .i64 b3], 29⟩ :: ⟨g1, #[.int .i64 p, .int .i64 q], 28⟩ :: (s2.rows 28 ++ [])) (fun (zz : Int × Int × Int × Value × Value × Value × Value × Value × Value × Value) => match zz with | ⟨u2, v2, c2, u78, u79, u80, u81, u82, u83, u84⟩ => TellsF (spd p q x y z t) u2 v2 c2) ?_ ?_
         ·
          skip
          refine wc_seq ?_
          refine wc_region ?_
          refine wl_val (.pointer (some ⟨g3, 3, none⟩)) rfl (fun _ => by go_simp) ?_
          simp only [Act.put, Xa, Xz, Xs]
          refine wl_cell 3 (.tmp 78) (.int .i64 k3) (own_row 3 rfl) rfl rfl rfl rfl Try.isAgg3 ?_
          simp only [Act.put, Xa, Xz, Xs]
          refine wl_val (.bool (k3 == 1)) rfl (fun w => run_cmp rfl rfl rfl Try.underlying3 rfl w) ?_
          simp only [Act.put, Xa, Xz, Xs]
          refine wl_nil ?_
          refine we_then ?_
          cases h24 : (k3 == 1)
          ·
           skip
           have p24 : ¬ (k3 = 1) := by first | (simp; done) | (simp at h24; done) | simpa using h24
           refine wc_false rfl ?_
           refine wc_skip ?_
           exact we_meet ⟨u, v, c, _, _, _, _, _, _, _⟩ (by (try dsimp only); exact spd_off hf (by rw [ht, show decide (k3 = 1) = false from decide_eq_false p24])) rfl (List.Sublist.cons_cons _ (List.Sublist.cons_cons _ (List.Sublist.cons_cons _ (List.Sublist.cons_cons _ (List.Sublist.cons_cons _ (List.Sublist.cons_cons _ (List.Sublist.append_left List.Sublist.slnil _)))))))
          ·
           skip
           have p24 : k3 = 1 := by first | (simp; done) | (simp at h24; done) | simpa using h24
           refine wc_true rfl ?_
           refine wc_region ?_
           refine wl_load 39 (.tmp 7) (own_row 1 rfl) rfl rfl rfl Try.underlying39 rfl (by kernel_rfl) ?_
           simp only [Act.put, Xa, Xz, Xs]
           refine wl_val (.pointer (some ⟨g2, 6, none⟩)) rfl (fun _ => by go_simp) ?_
           simp only [Act.put, Xa, Xz, Xs]
           refine wl_part 28 (.tmp 82) [.int .i64 a3, .int .i64 b3] (own_row 4 rfl) rfl rfl rfl rfl Try.underlying28 rfl (by kernel_rfl) ?_
           simp only [Act.put, Xa, Xz, Xs]
           cases h25 : (decide (max u a3 ≤ min v b3))
           ·
            skip
            have p25 : ¬ (max u a3 ≤ min v b3) := of_decide_eq_false h25
            refine wl_call 24 #[.agg #[.int .i64 u, .int .i64 v, .int .i64 (m2 : Int), .int .i64 cl, .int .i64 c, .int .i64 0, .int .i64 0], .agg #[.int .i64 a3, .int .i64 b3]] (.agg #[.int .i64 u, .int .i64 v, .int .i64 (m2 : Int), .int .i64 cl, .int .i64 1, .int .i64 0, .int .i64 0]) rfl (fun _ => by go_simp) (fun W => by have h9 := narrow_any u v (m2 : Int) cl c 0 0 a3 b3 W; rwa [if_neg p25] at h9) ?_
            simp only [Act.put, Xa, Xz, Xs]
            refine wl_store 1 39 (.tmp 7) (.tmp 84) (#[.int .i64 u, .int .i64 v, .int .i64 (m2 : Int), .int .i64 cl, .int .i64 1, .int .i64 0, .int .i64 0]) rfl rfl rfl rfl rfl (by kernel_rfl) rfl (by simp [Value.oneCell']) ?_
            simp only [Act.put, List.set_cons_zero, List.set_cons_succ]
            refine wl_nil ?_
            exact we_meet ⟨u, v, 1, _, _, _, _, _, _, _⟩ (by (try dsimp only); exact (by have z9 := spd_no (t := t) hf (by rw [ht, show decide (k3 = 1) = true from decide_eq_true p24]) (by rw [ht]; exact p25); rw [ht] at z9; rw [ht]; exact z9)) rfl (List.Sublist.cons_cons _ (List.Sublist.cons_cons _ (List.Sublist.cons_cons _ (List.Sublist.cons_cons _ (List.Sublist.cons_cons _ (List.Sublist.cons_cons _ (List.Sublist.append_left List.Sublist.slnil _)))))))
           ·
            skip
            have p25 : max u a3 ≤ min v b3 := of_decide_eq_true h25
            refine wl_call 24 #[.agg #[.int .i64 u, .int .i64 v, .int .i64 (m2 : Int), .int .i64 cl, .int .i64 c, .int .i64 0, .int .i64 0], .agg #[.int .i64 a3, .int .i64 b3]] (.agg #[.int .i64 (max u a3), .int .i64 (min v b3), .int .i64 (m2 : Int), .int .i64 cl, .int .i64 c, .int .i64 0, .int .i64 0]) rfl (fun _ => by go_simp) (fun W => by have h9 := narrow_any u v (m2 : Int) cl c 0 0 a3 b3 W; rwa [if_pos p25] at h9) ?_
            simp only [Act.put, Xa, Xz, Xs]
            refine wl_store 1 39 (.tmp 7) (.tmp 84) (#[.int .i64 (max u a3), .int .i64 (min v b3), .int .i64 (m2 : Int), .int .i64 cl, .int .i64 c, .int .i64 0, .int .i64 0]) rfl rfl rfl rfl rfl (by kernel_rfl) rfl (by simp [Value.oneCell']) ?_
            simp only [Act.put, List.set_cons_zero, List.set_cons_succ]
            refine wl_nil ?_
            exact we_meet ⟨(max u a3), (min v b3), c, _, _, _, _, _, _, _⟩ (by (try dsimp only); exact (by have z9 := spd_yes (t := t) hf (by rw [ht, show decide (k3 = 1) = true from decide_eq_true p24]) (by rw [ht]; exact p25); rw [ht] at z9; rw [ht]; exact z9)) rfl (List.Sublist.cons_cons _ (List.Sublist.cons_cons _ (List.Sublist.cons_cons _ (List.Sublist.cons_cons _ (List.Sublist.cons_cons _ (List.Sublist.cons_cons _ (List.Sublist.append_left List.Sublist.slnil _)))))))
         ·
          rintro ⟨u2, v2, c2, u78, u79, u80, u81, u82, u83, u84⟩ hφ
          (try dsimp only at hφ ⊢)
          obtain ⟨e1, e2, e3⟩ := hφ
          refine wc_seq ?_
          refine wc_seq ?_
          refine wc_region ?_
          refine wl_val (.int .i64 0) rfl (fun _ => rfl) ?_
          simp only [Act.put, Xa, Xz, Xs]
          refine wl_nil ?_
          refine we_then ?_
          refine wc_block ?_
          refine wr_start 3 ?_
          refine wr_round ?_
          refine wc_seq ?_
          refine wc_seq ?_
          refine wc_region ?_
          refine wl_val (.int .i64 0) rfl (fun _ => rfl) ?_
          simp only [Act.put, Xa, Xz, Xs]
          refine wl_val (.bool true) rfl (fun w => run_cmp rfl rfl rfl Try.underlying3 rfl w) ?_
          simp only [Act.put, Xa, Xz, Xs]
          refine wl_val (.bool true) rfl (fun _ => rfl) ?_
          simp only [Act.put, Xa, Xz, Xs]
          refine wl_val (.bool sd) rfl (fun _ => rfl) ?_
          simp only [Act.put, Xa, Xz, Xs]
          refine wl_val (.bool sd) rfl (fun _ => rfl) ?_
          simp only [Act.put, Xa, Xz, Xs]
          refine wl_val (.bool sd) rfl (fun _ => rfl) ?_
          simp only [Act.put, Xa, Xz, Xs]
          cases h26 : (sd)
          ·
           skip
           refine wl_skip rfl ?_
           simp only [Act.put, Xa, Xz, Xs]
           refine wl_skip rfl ?_
           simp only [Act.put, Xa, Xz, Xs]
           refine wl_val (.bool false) rfl (fun _ => rfl) ?_
           simp only [Act.put, Xa, Xz, Xs]
           refine wl_nil ?_
           refine we_then ?_
           refine wc_false rfl ?_
           refine wc_exit ?_
           refine we_then_exit ?_
           refine we_then_exit ?_
           refine we_in_here ?_
           refine we_then ?_
           refine wc_seq ?_
           refine wc_region ?_
           refine wl_load 39 (.tmp 7) (own_row 1 rfl) rfl rfl rfl Try.underlying39 rfl (by kernel_rfl) ?_
           simp only [Act.put, Xa, Xz, Xs]
           refine wl_store 2 39 (.tmp 6) (.tmp 140) (#[.int .i64 u2, .int .i64 v2, .int .i64 (m2 : Int), .int .i64 cl, .int .i64 c2, .int .i64 0, .int .i64 0]) rfl rfl rfl rfl rfl (by kernel_rfl) rfl (by simp [Value.oneCell']) ?_
           simp only [Act.put, List.set_cons_zero, List.set_cons_succ]
           refine wl_nil ?_
           refine we_then ?_
           refine wc_ret ?_
           refine we_ret_cell (own_row 2 rfl) rfl rfl rfl Try.underlying39 rfl (by kernel_rfl) (fun w1 hE => ?_)
           have e4 : slips x y z x = 0 := slips_no (.inl (hs1.symm.trans h26))
           have e5 : slips x y z y = 0 := slips_no (.inl (hs1.symm.trans h26))
           exact ⟨by rw [← e1, ← e2, ← e3, e4, e5, ← hcl, ← hm2], hE.below⟩
          ·
           skip
           refine wl_val (.bool gr) rfl (fun _ => rfl) ?_
           simp only [Act.put, Xa, Xz, Xs]
           refine wl_val (.bool (!gr)) rfl (fun _ => by go_simp) ?_
           simp only [Act.put, Xa, Xz, Xs]
           refine wl_val (.bool (!gr)) rfl (fun _ => rfl) ?_
           simp only [Act.put, Xa, Xz, Xs]
           refine wl_nil ?_
           refine we_then ?_
           cases h27 : (gr)
           ·
            skip
            refine wc_true rfl ?_
            refine wc_skip ?_
            refine we_then ?_
            refine wc_seq ?_
            refine wc_block ?_
            refine wc_seq ?_
            refine wc_draw [.late, .plain, .plain, .plain, .plain, .late, .late, .late, .make 28 (#[.int .i64 0, .int .i64 0]) 9 (#[.int .i64 (max a0 a), .int .i64 (min b0 b)]), .put 8, .late] none [(8, 14)] 141 (by kernel_rfl) rfl (by kernel_rfl) (by kernel_rfl) ?_
            refine ws_late (.int .i64 0) rfl rfl (fun _ => rfl) ?_
            simp only [Nat.reduceAdd, Act.put, Xa, Xz, Xs]
            refine ws_val (.pointer (some ⟨g2, 0, none⟩)) rfl rfl (fun _ => by go_simp) ?_
            simp only [Nat.reduceAdd, Act.put, Xa, Xz, Xs]
            refine ws_part 28 (.tmp 98) [.int .i64 a0, .int .i64 b0] (own_row 4 rfl) rfl rfl rfl rfl rfl Try.underlying28 rfl (by kernel_rfl) ?_
            simp only [Nat.reduceAdd, Act.put, Xa, Xz, Xs]
            refine ws_load 28 (.tmp 12) (own_row 0 rfl) rfl rfl rfl rfl Try.underlying28 rfl (by kernel_rfl) ?_
            simp only [Nat.reduceAdd, Act.put, Xa, Xz, Xs]
            refine ws_call 25 #[.agg #[.int .i64 a0, .int .i64 b0], .agg #[.int .i64 a, .int .i64 b]] (.tuple #[.agg #[.int .i64 (max a0 a), .int .i64 (min b0 b)], .bool (decide (max a0 a ≤ min b0 b))]) rfl rfl (fun _ => by go_simp) (fun W => common_any a0 b0 a b W) ?_
            simp only [Nat.reduceAdd, Act.put, Xa, Xz, Xs]
            refine ws_late (.tuple #[.agg #[.int .i64 (max a0 a), .int .i64 (min b0 b)], .bool (decide (max a0 a ≤ min b0 b))]) rfl rfl (fun _ => rfl) ?_
            simp only [Nat.reduceAdd, Act.put, Xa, Xz, Xs]
            refine ws_late (.agg #[.int .i64 (max a0 a), .int .i64 (min b0 b)]) rfl rfl (fun _ => by go_simp) ?_
            simp only [Nat.reduceAdd, Act.put, Xa, Xz, Xs]
            refine ws_late (.bool (decide (max a0 a ≤ min b0 b))) rfl rfl (fun _ => by go_simp) ?_
            simp only [Nat.reduceAdd, Act.put, Xa, Xz, Xs]
            refine ws_make 28 (#[.int .i64 0, .int .i64 0]) 9 (#[.int .i64 (max a0 a), .int .i64 (min b0 b)]) rfl rfl rfl (zero_of_info (n := 2) (by kernel_rfl)).1 ?_
            simp only [Nat.reduceAdd, Act.put, Xa, Xz, Xs]
            refine ws_put 8 28 14 (.tmp 102) _ _ _ rfl rfl rfl rfl (by simp) rfl rfl rfl (by kernel_rfl) rfl (by simp [Value.oneCell']) ?_
            simp only [Nat.reduceAdd]
            refine ws_late (.bool (decide (max a0 a ≤ min b0 b))) rfl rfl (fun _ => rfl) ?_
            simp only [Nat.reduceAdd, Act.put, Xa, Xz, Xs]
            refine ws_nil [(8, #[.int .i64 (max a0 a), .int .i64 (min b0 b)], 28)] ⟨⟨by decide, _, _, _, rfl, .inl ⟨by decide, rfl⟩⟩, trivial⟩ (by simp) ?_
            intro ps28
            simp only [fin, List.foldl_cons, List.foldl_nil, List.map, rowOf, List.cons_append, List.nil_append, Act.put, Xa, Xz, Xs]
            refine we_then ?_
            refine wc_seq ?_
            refine wc_seq ?_
            refine wc_region ?_
            refine wl_val (.bool (decide (max a0 a ≤ min b0 b))) rfl (fun _ => rfl) ?_
            simp only [Act.put, Xa, Xz, Xs]
            refine wl_nil ?_
            refine we_then ?_
            cases h29 : (decide (max a0 a ≤ min b0 b))
            ·
             skip
             have p29 : ¬ (max a0 a ≤ min b0 b) := of_decide_eq_false h29
             refine wc_false rfl ?_
             refine wc_skip ?_
             refine we_then ?_
             refine wc_seq ?_
             refine wc_region ?_
             refine wl_val (.int .i64 0) rfl (fun _ => rfl) ?_
             simp only [Act.put, Xa, Xz, Xs]
             refine wl_val (.pointer (some ⟨g5, 5, none⟩)) rfl (fun _ => by go_simp) ?_
             simp only [Act.put, Xa, Xz, Xs]
             refine wl_val (.pointer (some ⟨g5, 5, none⟩)) rfl (fun _ => by go_simp) ?_
             simp only [Act.put, Xa, Xz, Xs]
             refine wl_store_cell 2 3 (.tmp 107) (.const (.int .i64 (-1))) (.int .i64 0) (.int .i64 (-1)) rfl rfl rfl rfl rfl rfl (by kernel_rfl) rfl ?_
             simp only [Act.put, List.set_cons_zero, List.set_cons_succ]
             refine wl_nil ?_
             refine we_then ?_
             refine wc_seq ?_
             have hs4 := hs3 h26
             have hs5 := hs2 h26
             refine wc_region ?_
             refine wl_val (.pointer (some ⟨g15, 0, none⟩)) rfl (fun _ => by go_simp) ?_
             simp only [Act.put, Xa, Xz, Xs]
             refine wl_cell 2 (.tmp 108) (.int .i64 a) (own_row 1 rfl) rfl rfl rfl rfl Try.isAgg2 ?_
             simp only [Act.put, Xa, Xz, Xs]
             refine wl_val (.pointer (some ⟨g15, 1, none⟩)) rfl (fun _ => by go_simp) ?_
             simp only [Act.put, Xa, Xz, Xs]
             refine wl_cell 2 (.tmp 110) (.int .i64 b) (own_row 1 rfl) rfl rfl rfl rfl Try.isAgg2 ?_
             simp only [Act.put, Xa, Xz, Xs]
             refine wl_call 26 #[.int .i64 a, .int .i64 b] (.int .i64 ((a + b) / 2)) rfl (fun _ => by go_simp) (fun W => mid_any a b W (by omega) (by omega) (by omega) (by omega)) ?_
             simp only [Act.put, Xa, Xz, Xs]
             refine wl_val (.bool (decide (((a + b) / 2) < 0))) rfl (fun w => run_cmp rfl rfl rfl Try.underlying2 rfl w) ?_
             simp only [Act.put, Xa, Xz, Xs]
             refine wl_val (.bool (decide (((a + b) / 2) < 0))) rfl (fun _ => rfl) ?_
             simp only [Act.put, Xa, Xz, Xs]
             refine wl_nil ?_
             refine we_then ?_
             refine wc_seq ?_
             refine wc_draw [.late, .late, .late, .late, .plain, .plain, .plain, .late, .plain, .late, .late, .late, .late, .late, .late, .plain, .plain, .plain, .late, .plain, .late, .late, .late] none [] 141 (by kernel_rfl) rfl (by kernel_rfl) (by kernel_rfl) ?_
             refine ws_late (.bool (decide (((a + b) / 2) < 0))) rfl rfl (fun _ => rfl) ?_
             simp only [Nat.reduceAdd, Act.put, Xa, Xz, Xs]
             refine ws_late (.bool (!(decide (((a + b) / 2) < 0)))) rfl rfl (fun _ => by go_simp) ?_
             simp only [Nat.reduceAdd, Act.put, Xa, Xz, Xs]
             refine ws_late (.bool (!(decide (((a + b) / 2) < 0)))) rfl rfl (fun _ => rfl) ?_
             simp only [Nat.reduceAdd, Act.put, Xa, Xz, Xs]
             cases h30 : (decide (((a + b) / 2) < 0))
             ·
              skip
              have p30 : ¬ (((a + b) / 2) < 0) := of_decide_eq_false h30
              refine ws_late (.int .i64 0) rfl rfl (fun _ => rfl) ?_
              simp only [Nat.reduceAdd, Act.put, Xa, Xz, Xs]
              refine ws_val (.pointer (some ⟨g2, 0, none⟩)) rfl rfl (fun _ => by go_simp) ?_
              simp only [Nat.reduceAdd, Act.put, Xa, Xz, Xs]
              refine ws_val (.pointer (some ⟨g2, 0, none⟩)) rfl rfl (fun _ => by go_simp) ?_
              simp only [Nat.reduceAdd, Act.put, Xa, Xz, Xs]
              refine ws_cell 2 (.tmp 119) (.int .i64 a0) (own_row 5 rfl) rfl rfl rfl rfl rfl Try.isAgg2 ?_
              simp only [Nat.reduceAdd, Act.put, Xa, Xz, Xs]
              refine ws_late (.pointer (some ⟨g15, 1, none⟩)) rfl rfl (fun _ => by go_simp) ?_
              simp only [Nat.reduceAdd, Act.put, Xa, Xz, Xs]
              refine ws_cell 2 (.tmp 121) (.int .i64 b) (own_row 1 rfl) rfl rfl rfl rfl rfl Try.isAgg2 ?_
              simp only [Nat.reduceAdd, Act.put, Xa, Xz, Xs]
              refine ws_late (.bool (decide (b < a0))) rfl rfl (fun w => run_cmp rfl rfl rfl Try.underlying2 rfl w) ?_
              simp only [Nat.reduceAdd, Act.put, Xa, Xz, Xs]
              refine ws_late (.bool (decide (b < a0))) rfl rfl (fun _ => rfl) ?_
              simp only [Nat.reduceAdd, Act.put, Xa, Xz, Xs]
              refine ws_late (.bool (decide (b < a0))) rfl rfl (fun _ => rfl) ?_
              simp only [Nat.reduceAdd, Act.put, Xa, Xz, Xs]
              cases h31 : (decide (b < a0))
              ·
               skip
               have p31 : ¬ (b < a0) := of_decide_eq_false h31
               refine ws_late (.bool false) rfl rfl (fun _ => rfl) ?_
               simp only [Nat.reduceAdd, Act.put, Xa, Xz, Xs]
               refine ws_late (.bool false) rfl rfl (fun _ => rfl) ?_
               simp only [Nat.reduceAdd, Act.put, Xa, Xz, Xs]
               refine ws_skip_late rfl rfl ?_
               simp only [Nat.reduceAdd, Act.put, Xa, Xz, Xs]
               refine ws_skip rfl rfl ?_
               simp only [Nat.reduceAdd, Act.put, Xa, Xz, Xs]
               refine ws_skip rfl rfl ?_
               simp only [Nat.reduceAdd, Act.put, Xa, Xz, Xs]
               refine ws_skip rfl rfl ?_
               simp only [Nat.reduceAdd, Act.put, Xa, Xz, Xs]
               refine ws_skip_late rfl rfl ?_
               simp only [Nat.reduceAdd, Act.put, Xa, Xz, Xs]
               refine ws_skip rfl rfl ?_
               simp only [Nat.reduceAdd, Act.put, Xa, Xz, Xs]
               refine ws_skip_late rfl rfl ?_
               simp only [Nat.reduceAdd, Act.put, Xa, Xz, Xs]
               refine ws_late (.bool false) rfl rfl (fun _ => rfl) ?_
               simp only [Nat.reduceAdd, Act.put, Xa, Xz, Xs]
               refine ws_late (.bool false) rfl rfl (fun _ => rfl) ?_
               simp only [Nat.reduceAdd, Act.put, Xa, Xz, Xs]
               refine ws_nil [] trivial (by simp) ?_
               intro ps32
               simp only [fin, List.foldl_nil, List.map, List.nil_append]
               refine we_then ?_
               refine wc_false rfl ?_
               refine wc_skip ?_
               refine we_in ?_
               refine we_then ?_
               refine wc_region ?_
               refine wl_val (.int .i64 0) rfl (fun _ => rfl) ?_
               simp only [Act.put, Xa, Xz, Xs]
               refine wl_val (.int .i64 1) rfl (fun w => run_nat (X := 0) (Y := 1) (Z := 1) rfl rfl rfl rfl (by omega) w) ?_
               simp only [Act.put, Xa, Xz, Xs]
               refine wl_val (.int .i64 1) rfl (fun _ => rfl) ?_
               simp only [Act.put, Xa, Xz, Xs]
               refine wl_nil ?_
               refine we_round ?_
               refine wr_round ?_
               refine wc_seq ?_
               refine wc_seq ?_
               refine wc_region ?_
               refine wl_val (.int .i64 1) rfl (fun _ => rfl) ?_
               simp only [Act.put, Xa, Xz, Xs]
               refine wl_val (.bool true) rfl (fun w => run_cmp rfl rfl rfl Try.underlying3 rfl w) ?_
               simp only [Act.put, Xa, Xz, Xs]
               refine wl_val (.bool true) rfl (fun _ => rfl) ?_
               simp only [Act.put, Xa, Xz, Xs]
               refine wl_val (.bool true) rfl (fun _ => rfl) ?_
               simp only [Act.put, Xa, Xz, Xs]
               refine wl_val (.bool true) rfl (fun _ => rfl) ?_
               simp only [Act.put, Xa, Xz, Xs]
               refine wl_val (.bool true) rfl (fun _ => rfl) ?_
               simp only [Act.put, Xa, Xz, Xs]
               refine wl_val (.bool false) rfl (fun _ => rfl) ?_
               simp only [Act.put, Xa, Xz, Xs]
               refine wl_val (.bool true) rfl (fun _ => by go_simp) ?_
               simp only [Act.put, Xa, Xz, Xs]
               refine wl_val (.bool true) rfl (fun _ => rfl) ?_
               simp only [Act.put, Xa, Xz, Xs]
               refine wl_nil ?_
               refine we_then ?_
               refine wc_true rfl ?_
               refine wc_skip ?_
               refine we_then ?_
               refine wc_seq ?_
               refine wc_block ?_
               refine wc_seq ?_
               refine wc_draw [.late, .plain, .plain, .plain, .plain, .late, .late, .late, .make 28 (#[.int .i64 0, .int .i64 0]) 9 (#[.int .i64 (max a1 a), .int .i64 (min b1 b)]), .put 8, .late] none [(8, 14)] 141 (by kernel_rfl) rfl (by kernel_rfl) (by kernel_rfl) ?_
               refine ws_late (.int .i64 1) rfl rfl (fun _ => rfl) ?_
               simp only [Nat.reduceAdd, Act.put, Xa, Xz, Xs]
               refine ws_val (.pointer (some ⟨g2, 2, none⟩)) rfl rfl (fun _ => by go_simp) ?_
               simp only [Nat.reduceAdd, Act.put, Xa, Xz, Xs]
               refine ws_part 28 (.tmp 98) [.int .i64 a1, .int .i64 b1] (own_row 5 rfl) rfl rfl rfl rfl rfl Try.underlying28 rfl (by kernel_rfl) ?_
               simp only [Nat.reduceAdd, Act.put, Xa, Xz, Xs]
               refine ws_load 28 (.tmp 12) (own_row 1 rfl) rfl rfl rfl rfl Try.underlying28 rfl (by kernel_rfl) ?_
               simp only [Nat.reduceAdd, Act.put, Xa, Xz, Xs]
               refine ws_call 25 #[.agg #[.int .i64 a1, .int .i64 b1], .agg #[.int .i64 a, .int .i64 b]] (.tuple #[.agg #[.int .i64 (max a1 a), .int .i64 (min b1 b)], .bool (decide (max a1 a ≤ min b1 b))]) rfl rfl (fun _ => by go_simp) (fun W => common_any a1 b1 a b W) ?_
               simp only [Nat.reduceAdd, Act.put, Xa, Xz, Xs]
               refine ws_late (.tuple #[.agg #[.int .i64 (max a1 a), .int .i64 (min b1 b)], .bool (decide (max a1 a ≤ min b1 b))]) rfl rfl (fun _ => rfl) ?_
               simp only [Nat.reduceAdd, Act.put, Xa, Xz, Xs]
               refine ws_late (.agg #[.int .i64 (max a1 a), .int .i64 (min b1 b)]) rfl rfl (fun _ => by go_simp) ?_
               simp only [Nat.reduceAdd, Act.put, Xa, Xz, Xs]
               refine ws_late (.bool (decide (max a1 a ≤ min b1 b))) rfl rfl (fun _ => by go_simp) ?_
               simp only [Nat.reduceAdd, Act.put, Xa, Xz, Xs]
               refine ws_make 28 (#[.int .i64 0, .int .i64 0]) 9 (#[.int .i64 (max a1 a), .int .i64 (min b1 b)]) rfl rfl rfl (zero_of_info (n := 2) (by kernel_rfl)).1 ?_
               simp only [Nat.reduceAdd, Act.put, Xa, Xz, Xs]
               refine ws_put 8 28 14 (.tmp 102) _ _ _ rfl rfl rfl rfl (by simp) rfl rfl rfl (by kernel_rfl) rfl (by simp [Value.oneCell']) ?_
               simp only [Nat.reduceAdd]
               refine ws_late (.bool (decide (max a1 a ≤ min b1 b))) rfl rfl (fun _ => rfl) ?_
               simp only [Nat.reduceAdd, Act.put, Xa, Xz, Xs]
               refine ws_nil [(8, #[.int .i64 (max a1 a), .int .i64 (min b1 b)], 28)] ⟨⟨by decide, _, _, _, rfl, .inl ⟨by decide, rfl⟩⟩, trivial⟩ (by simp) ?_
               intro ps33
               simp only [fin, List.foldl_cons, List.foldl_nil, List.map, rowOf, List.cons_append, List.nil_append, Act.put, Xa, Xz, Xs]
               refine we_then ?_
               refine wc_seq ?_
               refine wc_seq ?_
               refine wc_region ?_
               refine wl_val (.bool (decide (max a1 a ≤ min b1 b))) rfl (fun _ => rfl) ?_
               simp only [Act.put, Xa, Xz, Xs]
               refine wl_nil ?_
               refine we_then ?_
               cases h34 : (decide (max a1 a ≤ min b1 b))
               ·
                skip
                have p34 : ¬ (max a1 a ≤ min b1 b) := of_decide_eq_false h34
                refine wc_false rfl ?_
                refine wc_skip ?_
                refine we_then ?_
                refine wc_seq ?_
                refine wc_region ?_
                refine wl_val (.int .i64 1) rfl (fun _ => rfl) ?_
                simp only [Act.put, Xa, Xz, Xs]
                refine wl_val (.pointer (some ⟨g5, 5, none⟩)) rfl (fun _ => by go_simp) ?_
                simp only [Act.put, Xa, Xz, Xs]
                refine wl_val (.pointer (some ⟨g5, 6, none⟩)) rfl (fun _ => by go_simp) ?_
                simp only [Act.put, Xa, Xz, Xs]
                refine wl_store_cell 3 3 (.tmp 107) (.const (.int .i64 (-1))) (.int .i64 0) (.int .i64 (-1)) rfl rfl rfl rfl rfl rfl (by kernel_rfl) rfl ?_
                simp only [Act.put, List.set_cons_zero, List.set_cons_succ]
                refine wl_nil ?_
                refine we_then ?_
                refine wc_seq ?_
                have hs4 := hs3 h26
                have hs5 := hs2 h26
                refine wc_region ?_
                refine wl_val (.pointer (some ⟨g15, 0, none⟩)) rfl (fun _ => by go_simp) ?_
                simp only [Act.put, Xa, Xz, Xs]
                refine wl_cell 2 (.tmp 108) (.int .i64 a) (own_row 2 rfl) rfl rfl rfl rfl Try.isAgg2 ?_
                simp only [Act.put, Xa, Xz, Xs]
                refine wl_val (.pointer (some ⟨g15, 1, none⟩)) rfl (fun _ => by go_simp) ?_
                simp only [Act.put, Xa, Xz, Xs]
                refine wl_cell 2 (.tmp 110) (.int .i64 b) (own_row 2 rfl) rfl rfl rfl rfl Try.isAgg2 ?_
                simp only [Act.put, Xa, Xz, Xs]
                refine wl_call 26 #[.int .i64 a, .int .i64 b] (.int .i64 ((a + b) / 2)) rfl (fun _ => by go_simp) (fun W => mid_any a b W (by omega) (by omega) (by omega) (by omega)) ?_
                simp only [Act.put, Xa, Xz, Xs]
                refine wl_val (.bool false) rfl (fun w => run_cmp (b := false) rfl rfl rfl Try.underlying2 (by exact congrArg some h30) w) ?_
                simp only [Act.put, Xa, Xz, Xs]
                refine wl_val (.bool false) rfl (fun _ => rfl) ?_
                simp only [Act.put, Xa, Xz, Xs]
                refine wl_nil ?_
                refine we_then ?_
                refine wc_seq ?_
                refine wc_draw [.late, .late, .late, .late, .plain, .plain, .plain, .late, .plain, .late, .late, .late, .late, .late, .late, .plain, .plain, .plain, .late, .plain, .late, .late, .late] none [] 141 (by kernel_rfl) rfl (by kernel_rfl) (by kernel_rfl) ?_
                refine ws_late (.bool false) rfl rfl (fun _ => rfl) ?_
                simp only [Nat.reduceAdd, Act.put, Xa, Xz, Xs]
                refine ws_late (.bool true) rfl rfl (fun _ => by go_simp) ?_
                simp only [Nat.reduceAdd, Act.put, Xa, Xz, Xs]
                refine ws_late (.bool true) rfl rfl (fun _ => rfl) ?_
                simp only [Nat.reduceAdd, Act.put, Xa, Xz, Xs]
                refine ws_late (.int .i64 1) rfl rfl (fun _ => rfl) ?_
                simp only [Nat.reduceAdd, Act.put, Xa, Xz, Xs]
                refine ws_val (.pointer (some ⟨g2, 2, none⟩)) rfl rfl (fun _ => by go_simp) ?_
                simp only [Nat.reduceAdd, Act.put, Xa, Xz, Xs]
                refine ws_val (.pointer (some ⟨g2, 2, none⟩)) rfl rfl (fun _ => by go_simp) ?_
                simp only [Nat.reduceAdd, Act.put, Xa, Xz, Xs]
                refine ws_cell 2 (.tmp 119) (.int .i64 a1) (own_row 6 rfl) rfl rfl rfl rfl rfl Try.isAgg2 ?_
                simp only [Nat.reduceAdd, Act.put, Xa, Xz, Xs]
                refine ws_late (.pointer (some ⟨g15, 1, none⟩)) rfl rfl (fun _ => by go_simp) ?_
                simp only [Nat.reduceAdd, Act.put, Xa, Xz, Xs]
                refine ws_cell 2 (.tmp 121) (.int .i64 b) (own_row 2 rfl) rfl rfl rfl rfl rfl Try.isAgg2 ?_
                simp only [Nat.reduceAdd, Act.put, Xa, Xz, Xs]
                refine ws_late (.bool (decide (b < a1))) rfl rfl (fun w => run_cmp rfl rfl rfl Try.underlying2 rfl w) ?_
                simp only [Nat.reduceAdd, Act.put, Xa, Xz, Xs]
                refine ws_late (.bool (decide (b < a1))) rfl rfl (fun _ => rfl) ?_
                simp only [Nat.reduceAdd, Act.put, Xa, Xz, Xs]
                refine ws_late (.bool (decide (b < a1))) rfl rfl (fun _ => rfl) ?_
                simp only [Nat.reduceAdd, Act.put, Xa, Xz, Xs]
                cases h35 : (decide (b < a1))
                ·
                 skip
                 have p35 : ¬ (b < a1) := of_decide_eq_false h35
                 refine ws_late (.bool false) rfl rfl (fun _ => rfl) ?_
                 simp only [Nat.reduceAdd, Act.put, Xa, Xz, Xs]
                 refine ws_late (.bool false) rfl rfl (fun _ => rfl) ?_
                 simp only [Nat.reduceAdd, Act.put, Xa, Xz, Xs]
                 refine ws_skip_late rfl rfl ?_
                 simp only [Nat.reduceAdd, Act.put, Xa, Xz, Xs]
                 refine ws_skip rfl rfl ?_
                 simp only [Nat.reduceAdd, Act.put, Xa, Xz, Xs]
                 refine ws_skip rfl rfl ?_
                 simp only [Nat.reduceAdd, Act.put, Xa, Xz, Xs]
                 refine ws_skip rfl rfl ?_
                 simp only [Nat.reduceAdd, Act.put, Xa, Xz, Xs]
                 refine ws_skip_late rfl rfl ?_
                 simp only [Nat.reduceAdd, Act.put, Xa, Xz, Xs]
                 refine ws_skip rfl rfl ?_
                 simp only [Nat.reduceAdd, Act.put, Xa, Xz, Xs]
                 refine ws_skip_late rfl rfl ?_
                 simp only [Nat.reduceAdd, Act.put, Xa, Xz, Xs]
                 refine ws_late (.bool false) rfl rfl (fun _ => rfl) ?_
                 simp only [Nat.reduceAdd, Act.put, Xa, Xz, Xs]
                 refine ws_late (.bool false) rfl rfl (fun _ => rfl) ?_
                 simp only [Nat.reduceAdd, Act.put, Xa, Xz, Xs]
                 refine ws_nil [] trivial (by simp) ?_
                 intro ps36
                 simp only [fin, List.foldl_nil, List.map, List.nil_append]
                 refine we_then ?_
                 refine wc_false rfl ?_
                 refine wc_skip ?_
                 refine we_in ?_
                 refine we_then ?_
                 refine wc_region ?_
                 refine wl_val (.int .i64 1) rfl (fun _ => rfl) ?_
                 simp only [Act.put, Xa, Xz, Xs]
                 refine wl_val (.int .i64 2) rfl (fun w => run_nat (X := 1) (Y := 1) (Z := 2) rfl rfl rfl rfl (by omega) w) ?_
                 simp only [Act.put, Xa, Xz, Xs]
                 refine wl_val (.int .i64 2) rfl (fun _ => rfl) ?_
                 simp only [Act.put, Xa, Xz, Xs]
                 refine wl_nil ?_
                 refine we_round ?_
                 refine wr_round ?_
                 refine wc_seq ?_
                 refine wc_seq ?_
                 refine wc_region ?_
                 refine wl_val (.int .i64 2) rfl (fun _ => rfl) ?_
                 simp only [Act.put, Xa, Xz, Xs]
                 refine wl_val (.bool false) rfl (fun w => run_cmp rfl rfl rfl Try.underlying3 rfl w) ?_
                 simp only [Act.put, Xa, Xz, Xs]
                 refine wl_val (.bool false) rfl (fun _ => rfl) ?_
                 simp only [Act.put, Xa, Xz, Xs]
                 refine wl_skip rfl ?_
                 simp only [Act.put, Xa, Xz, Xs]
                 refine wl_val (.bool false) rfl (fun _ => rfl) ?_
                 simp only [Act.put, Xa, Xz, Xs]
                 refine wl_val (.bool false) rfl (fun _ => rfl) ?_
                 simp only [Act.put, Xa, Xz, Xs]
                 refine wl_skip rfl ?_
                 simp only [Act.put, Xa, Xz, Xs]
                 refine wl_skip rfl ?_
                 simp only [Act.put, Xa, Xz, Xs]
                 refine wl_val (.bool false) rfl (fun _ => rfl) ?_
                 simp only [Act.put, Xa, Xz, Xs]
                 refine wl_nil ?_
                 refine we_then ?_
                 refine wc_false rfl ?_
                 refine wc_exit ?_
                 refine we_then_exit ?_
                 refine we_then_exit ?_
                 refine we_in_here ?_
                 refine we_then ?_
                 refine wc_seq ?_
                 refine wc_region ?_
                 refine wl_load 39 (.tmp 7) (own_row 3 rfl) rfl rfl rfl Try.underlying39 rfl (by kernel_rfl) ?_
                 simp only [Act.put, Xa, Xz, Xs]
                 refine wl_store 4 39 (.tmp 6) (.tmp 140) (#[.int .i64 u2, .int .i64 v2, .int .i64 (m2 : Int), .int .i64 cl, .int .i64 c2, .int .i64 (-1), .int .i64 (-1)]) rfl rfl rfl rfl rfl (by kernel_rfl) rfl (by simp [Value.oneCell']) ?_
                 simp only [Act.put, List.set_cons_zero, List.set_cons_succ]
                 refine wl_nil ?_
                 refine we_then ?_
                 refine wc_ret ?_
                 refine we_ret_cell (own_row 4 rfl) rfl rfl rfl Try.underlying39 rfl (by kernel_rfl) (fun w1 hE => ?_)
                 have e4 : slips x y z x = -1 := by rw [slips_of (hs1.symm.trans h26) (hg1.symm.trans h27) (hs2 h26), hx]; (try dsimp only); split <;> (try split) <;> omega
                 have e5 : slips x y z y = -1 := by rw [slips_of (hs1.symm.trans h26) (hg1.symm.trans h27) (hs2 h26), hy]; (try dsimp only); split <;> (try split) <;> omega
                 exact ⟨by rw [← e1, ← e2, ← e3, e4, e5, ← hcl, ← hm2], hE.below⟩
                ·
                 skip
                 have p35 : b < a1 := of_decide_eq_true h35
                 refine ws_skip_late rfl rfl ?_
                 simp only [Nat.reduceAdd, Act.put, Xa, Xz, Xs]
                 refine ws_skip_late rfl rfl ?_
                 simp only [Nat.reduceAdd, Act.put, Xa, Xz, Xs]
                 refine ws_skip_late rfl rfl ?_
                 simp only [Nat.reduceAdd, Act.put, Xa, Xz, Xs]
                 refine ws_skip rfl rfl ?_
                 simp only [Nat.reduceAdd, Act.put, Xa, Xz, Xs]
                 refine ws_skip rfl rfl ?_
                 simp only [Nat.reduceAdd, Act.put, Xa, Xz, Xs]
                 refine ws_skip rfl rfl ?_
                 simp only [Nat.reduceAdd, Act.put, Xa, Xz, Xs]
                 refine ws_skip_late rfl rfl ?_
                 simp only [Nat.reduceAdd, Act.put, Xa, Xz, Xs]
                 refine ws_skip rfl rfl ?_
                 simp only [Nat.reduceAdd, Act.put, Xa, Xz, Xs]
                 refine ws_skip_late rfl rfl ?_
                 simp only [Nat.reduceAdd, Act.put, Xa, Xz, Xs]
                 refine ws_skip_late rfl rfl ?_
                 simp only [Nat.reduceAdd, Act.put, Xa, Xz, Xs]
                 refine ws_late (.bool true) rfl rfl (fun _ => rfl) ?_
                 simp only [Nat.reduceAdd, Act.put, Xa, Xz, Xs]
                 refine ws_nil [] trivial (by simp) ?_
                 intro ps37
                 simp only [fin, List.foldl_nil, List.map, List.nil_append]
                 refine we_then ?_
                 refine wc_true rfl ?_
                 refine wc_region ?_
                 refine wl_val (.int .i64 1) rfl (fun _ => rfl) ?_
                 simp only [Act.put, Xa, Xz, Xs]
                 refine wl_val (.pointer (some ⟨g5, 5, none⟩)) rfl (fun _ => by go_simp) ?_
                 simp only [Act.put, Xa, Xz, Xs]
                 refine wl_val (.pointer (some ⟨g5, 6, none⟩)) rfl (fun _ => by go_simp) ?_
                 simp only [Act.put, Xa, Xz, Xs]
                 refine wl_store_cell 3 3 (.tmp 139) (.const (.int .i64 1)) (.int .i64 (-1)) (.int .i64 1) rfl rfl rfl rfl rfl rfl (by kernel_rfl) rfl ?_
                 simp only [Act.put, List.set_cons_zero, List.set_cons_succ]
                 refine wl_nil ?_
                 refine we_in ?_
                 refine we_then ?_
                 refine wc_region ?_
                 refine wl_val (.int .i64 1) rfl (fun _ => rfl) ?_
                 simp only [Act.put, Xa, Xz, Xs]
                 refine wl_val (.int .i64 2) rfl (fun w => run_nat (X := 1) (Y := 1) (Z := 2) rfl rfl rfl rfl (by omega) w) ?_
                 simp only [Act.put, Xa, Xz, Xs]
                 refine wl_val (.int .i64 2) rfl (fun _ => rfl) ?_
                 simp only [Act.put, Xa, Xz, Xs]
                 refine wl_nil ?_
                 refine we_round ?_
                 refine wr_round ?_
                 refine wc_seq ?_
                 refine wc_seq ?_
                 refine wc_region ?_
                 refine wl_val (.int .i64 2) rfl (fun _ => rfl) ?_
                 simp only [Act.put, Xa, Xz, Xs]
                 refine wl_val (.bool false) rfl (fun w => run_cmp rfl rfl rfl Try.underlying3 rfl w) ?_
                 simp only [Act.put, Xa, Xz, Xs]
                 refine wl_val (.bool false) rfl (fun _ => rfl) ?_
                 simp only [Act.put, Xa, Xz, Xs]
                 refine wl_skip rfl ?_
                 simp only [Act.put, Xa, Xz, Xs]
                 refine wl_val (.bool false) rfl (fun _ => rfl) ?_
                 simp only [Act.put, Xa, Xz, Xs]
                 refine wl_val (.bool false) rfl (fun _ => rfl) ?_
                 simp only [Act.put, Xa, Xz, Xs]
                 refine wl_skip rfl ?_
                 simp only [Act.put, Xa, Xz, Xs]
                 refine wl_skip rfl ?_
                 simp only [Act.put, Xa, Xz, Xs]
                 refine wl_val (.bool false) rfl (fun _ => rfl) ?_
                 simp only [Act.put, Xa, Xz, Xs]
                 refine wl_nil ?_
                 refine we_then ?_
                 refine wc_false rfl ?_
                 refine wc_exit ?_
                 refine we_then_exit ?_
                 refine we_then_exit ?_
                 refine we_in_here ?_
                 refine we_then ?_
                 refine wc_seq ?_
                 refine wc_region ?_
                 refine wl_load 39 (.tmp 7) (own_row 3 rfl) rfl rfl rfl Try.underlying39 rfl (by kernel_rfl) ?_
                 simp only [Act.put, Xa, Xz, Xs]
                 refine wl_store 4 39 (.tmp 6) (.tmp 140) (#[.int .i64 u2, .int .i64 v2, .int .i64 (m2 : Int), .int .i64 cl, .int .i64 c2, .int .i64 (-1), .int .i64 1]) rfl rfl rfl rfl rfl (by kernel_rfl) rfl (by simp [Value.oneCell']) ?_
                 simp only [Act.put, List.set_cons_zero, List.set_cons_succ]
                 refine wl_nil ?_
                 refine we_then ?_
                 refine wc_ret ?_
                 refine we_ret_cell (own_row 4 rfl) rfl rfl rfl Try.underlying39 rfl (by kernel_rfl) (fun w1 hE => ?_)
                 have e4 : slips x y z x = -1 := by rw [slips_of (hs1.symm.trans h26) (hg1.symm.trans h27) (hs2 h26), hx]; (try dsimp only); split <;> (try split) <;> omega
                 have e5 : slips x y z y = 1 := by rw [slips_of (hs1.symm.trans h26) (hg1.symm.trans h27) (hs2 h26), hy]; (try dsimp only); split <;> (try split) <;> omega
                 exact ⟨by rw [← e1, ← e2, ← e3, e4, e5, ← hcl, ← hm2], hE.below⟩
               ·
                skip
                have p34 : max a1 a ≤ min b1 b := of_decide_eq_true h34
                refine wc_true rfl ?_
                refine wc_exit ?_
                refine we_then_exit ?_
                refine we_in_here ?_
                refine we_then ?_
                refine wc_region ?_
                refine wl_val (.int .i64 1) rfl (fun _ => rfl) ?_
                simp only [Act.put, Xa, Xz, Xs]
                refine wl_val (.int .i64 2) rfl (fun w => run_nat (X := 1) (Y := 1) (Z := 2) rfl rfl rfl rfl (by omega) w) ?_
                simp only [Act.put, Xa, Xz, Xs]
                refine wl_val (.int .i64 2) rfl (fun _ => rfl) ?_
                simp only [Act.put, Xa, Xz, Xs]
                refine wl_nil ?_
                refine we_round ?_
                refine wr_round ?_
                refine wc_seq ?_
                refine wc_seq ?_
                refine wc_region ?_
                refine wl_val (.int .i64 2) rfl (fun _ => rfl) ?_
                simp only [Act.put, Xa, Xz, Xs]
                refine wl_val (.bool false) rfl (fun w => run_cmp rfl rfl rfl Try.underlying3 rfl w) ?_
                simp only [Act.put, Xa, Xz, Xs]
                refine wl_val (.bool false) rfl (fun _ => rfl) ?_
                simp only [Act.put, Xa, Xz, Xs]
                refine wl_skip rfl ?_
                simp only [Act.put, Xa, Xz, Xs]
                refine wl_val (.bool false) rfl (fun _ => rfl) ?_
                simp only [Act.put, Xa, Xz, Xs]
                refine wl_val (.bool false) rfl (fun _ => rfl) ?_
                simp only [Act.put, Xa, Xz, Xs]
                refine wl_skip rfl ?_
                simp only [Act.put, Xa, Xz, Xs]
                refine wl_skip rfl ?_
                simp only [Act.put, Xa, Xz, Xs]
                refine wl_val (.bool false) rfl (fun _ => rfl) ?_
                simp only [Act.put, Xa, Xz, Xs]
                refine wl_nil ?_
                refine we_then ?_
                refine wc_false rfl ?_
                refine wc_exit ?_
                refine we_then_exit ?_
                refine we_then_exit ?_
                refine we_in_here ?_
                refine we_then ?_
                refine wc_seq ?_
                refine wc_region ?_
                refine wl_load 39 (.tmp 7) (own_row 3 rfl) rfl rfl rfl Try.underlying39 rfl (by kernel_rfl) ?_
                simp only [Act.put, Xa, Xz, Xs]
                refine wl_store 4 39 (.tmp 6) (.tmp 140) (#[.int .i64 u2, .int .i64 v2, .int .i64 (m2 : Int), .int .i64 cl, .int .i64 c2, .int .i64 (-1), .int .i64 0]) rfl rfl rfl rfl rfl (by kernel_rfl) rfl (by simp [Value.oneCell']) ?_
                simp only [Act.put, List.set_cons_zero, List.set_cons_succ]
                refine wl_nil ?_
                refine we_then ?_
                refine wc_ret ?_
                refine we_ret_cell (own_row 4 rfl) rfl rfl rfl Try.underlying39 rfl (by kernel_rfl) (fun w1 hE => ?_)
                have e4 : slips x y z x = -1 := by rw [slips_of (hs1.symm.trans h26) (hg1.symm.trans h27) (hs2 h26), hx]; (try dsimp only); split <;> (try split) <;> omega
                have e5 : slips x y z y = 0 := by rw [slips_of (hs1.symm.trans h26) (hg1.symm.trans h27) (hs2 h26), hy]; (try dsimp only); split <;> (try split) <;> omega
                exact ⟨by rw [← e1, ← e2, ← e3, e4, e5, ← hcl, ← hm2], hE.below⟩
              ·
               skip
               have p31 : b < a0 := of_decide_eq_true h31
               refine ws_skip_late rfl rfl ?_
               simp only [Nat.reduceAdd, Act.put, Xa, Xz, Xs]
               refine ws_skip_late rfl rfl ?_
               simp only [Nat.reduceAdd, Act.put, Xa, Xz, Xs]
               refine ws_skip_late rfl rfl ?_
               simp only [Nat.reduceAdd, Act.put, Xa, Xz, Xs]
               refine ws_skip rfl rfl ?_
               simp only [Nat.reduceAdd, Act.put, Xa, Xz, Xs]
               refine ws_skip rfl rfl ?_
               simp only [Nat.reduceAdd, Act.put, Xa, Xz, Xs]
               refine ws_skip rfl rfl ?_
               simp only [Nat.reduceAdd, Act.put, Xa, Xz, Xs]
               refine ws_skip_late rfl rfl ?_
               simp only [Nat.reduceAdd, Act.put, Xa, Xz, Xs]
               refine ws_skip rfl rfl ?_
               simp only [Nat.reduceAdd, Act.put, Xa, Xz, Xs]
               refine ws_skip_late rfl rfl ?_
               simp only [Nat.reduceAdd, Act.put, Xa, Xz, Xs]
               refine ws_skip_late rfl rfl ?_
               simp only [Nat.reduceAdd, Act.put, Xa, Xz, Xs]
               refine ws_late (.bool true) rfl rfl (fun _ => rfl) ?_
               simp only [Nat.reduceAdd, Act.put, Xa, Xz, Xs]
               refine ws_nil [] trivial (by simp) ?_
               intro ps38
               simp only [fin, List.foldl_nil, List.map, List.nil_append]
               refine we_then ?_
               refine wc_true rfl ?_
               refine wc_region ?_
               refine wl_val (.int .i64 0) rfl (fun _ => rfl) ?_
               simp only [Act.put, Xa, Xz, Xs]
               refine wl_val (.pointer (some ⟨g5, 5, none⟩)) rfl (fun _ => by go_simp) ?_
               simp only [Act.put, Xa, Xz, Xs]
               refine wl_val (.pointer (some ⟨g5, 5, none⟩)) rfl (fun _ => by go_simp) ?_
               simp only [Act.put, Xa, Xz, Xs]
               refine wl_store_cell 2 3 (.tmp 139) (.const (.int .i64 1)) (.int .i64 (-1)) (.int .i64 1) rfl rfl rfl rfl rfl rfl (by kernel_rfl) rfl ?_
               simp only [Act.put, List.set_cons_zero, List.set_cons_succ]
               refine wl_nil ?_
               refine we_in ?_
               refine we_then ?_
               refine wc_region ?_
               refine wl_val (.int .i64 0) rfl (fun _ => rfl) ?_
               simp only [Act.put, Xa, Xz, Xs]
               refine wl_val (.int .i64 1) rfl (fun w => run_nat (X := 0) (Y := 1) (Z := 1) rfl rfl rfl rfl (by omega) w) ?_
               simp only [Act.put, Xa, Xz, Xs]
               refine wl_val (.int .i64 1) rfl (fun _ => rfl) ?_
               simp only [Act.put, Xa, Xz, Xs]
               refine wl_nil ?_
               refine we_round ?_
               refine wr_round ?_
               refine wc_seq ?_
               refine wc_seq ?_
               refine wc_region ?_
               refine wl_val (.int .i64 1) rfl (fun _ => rfl) ?_
               simp only [Act.put, Xa, Xz, Xs]
               refine wl_val (.bool true) rfl (fun w => run_cmp rfl rfl rfl Try.underlying3 rfl w) ?_
               simp only [Act.put, Xa, Xz, Xs]
               refine wl_val (.bool true) rfl (fun _ => rfl) ?_
               simp only [Act.put, Xa, Xz, Xs]
               refine wl_val (.bool true) rfl (fun _ => rfl) ?_
               simp only [Act.put, Xa, Xz, Xs]
               refine wl_val (.bool true) rfl (fun _ => rfl) ?_
               simp only [Act.put, Xa, Xz, Xs]
               refine wl_val (.bool true) rfl (fun _ => rfl) ?_
               simp only [Act.put, Xa, Xz, Xs]
               refine wl_val (.bool false) rfl (fun _ => rfl) ?_
               simp only [Act.put, Xa, Xz, Xs]
               refine wl_val (.bool true) rfl (fun _ => by go_simp) ?_
               simp only [Act.put, Xa, Xz, Xs]
               refine wl_val (.bool true) rfl (fun _ => rfl) ?_
               simp only [Act.put, Xa, Xz, Xs]
               refine wl_nil ?_
               refine we_then ?_
               refine wc_true rfl ?_
               refine wc_skip ?_
               refine we_then ?_
               refine wc_seq ?_
               refine wc_block ?_
               refine wc_seq ?_
               refine wc_draw [.late, .plain, .plain, .plain, .plain, .late, .late, .late, .make 28 (#[.int .i64 0, .int .i64 0]) 9 (#[.int .i64 (max a1 a), .int .i64 (min b1 b)]), .put 8, .late] none [(8, 14)] 141 (by kernel_rfl) rfl (by kernel_rfl) (by kernel_rfl) ?_
               refine ws_late (.int .i64 1) rfl rfl (fun _ => rfl) ?_
               simp only [Nat.reduceAdd, Act.put, Xa, Xz, Xs]
               refine ws_val (.pointer (some ⟨g2, 2, none⟩)) rfl rfl (fun _ => by go_simp) ?_
               simp only [Nat.reduceAdd, Act.put, Xa, Xz, Xs]
               refine ws_part 28 (.tmp 98) [.int .i64 a1, .int .i64 b1] (own_row 5 rfl) rfl rfl rfl rfl rfl Try.underlying28 rfl (by kernel_rfl) ?_
               simp only [Nat.reduceAdd, Act.put, Xa, Xz, Xs]
               refine ws_load 28 (.tmp 12) (own_row 1 rfl) rfl rfl rfl rfl Try.underlying28 rfl (by kernel_rfl) ?_
               simp only [Nat.reduceAdd, Act.put, Xa, Xz, Xs]
               refine ws_call 25 #[.agg #[.int .i64 a1, .int .i64 b1], .agg #[.int .i64 a, .int .i64 b]] (.tuple #[.agg #[.int .i64 (max a1 a), .int .i64 (min b1 b)], .bool (decide (max a1 a ≤ min b1 b))]) rfl rfl (fun _ => by go_simp) (fun W => common_any a1 b1 a b W) ?_
               simp only [Nat.reduceAdd, Act.put, Xa, Xz, Xs]
               refine ws_late (.tuple #[.agg #[.int .i64 (max a1 a), .int .i64 (min b1 b)], .bool (decide (max a1 a ≤ min b1 b))]) rfl rfl (fun _ => rfl) ?_
               simp only [Nat.reduceAdd, Act.put, Xa, Xz, Xs]
               refine ws_late (.agg #[.int .i64 (max a1 a), .int .i64 (min b1 b)]) rfl rfl (fun _ => by go_simp) ?_
               simp only [Nat.reduceAdd, Act.put, Xa, Xz, Xs]
               refine ws_late (.bool (decide (max a1 a ≤ min b1 b))) rfl rfl (fun _ => by go_simp) ?_
               simp only [Nat.reduceAdd, Act.put, Xa, Xz, Xs]
               refine ws_make 28 (#[.int .i64 0, .int .i64 0]) 9 (#[.int .i64 (max a1 a), .int .i64 (min b1 b)]) rfl rfl rfl (zero_of_info (n := 2) (by kernel_rfl)).1 ?_
               simp only [Nat.reduceAdd, Act.put, Xa, Xz, Xs]
               refine ws_put 8 28 14 (.tmp 102) _ _ _ rfl rfl rfl rfl (by simp) rfl rfl rfl (by kernel_rfl) rfl (by simp [Value.oneCell']) ?_
               simp only [Nat.reduceAdd]
               refine ws_late (.bool (decide (max a1 a ≤ min b1 b))) rfl rfl (fun _ => rfl) ?_
               simp only [Nat.reduceAdd, Act.put, Xa, Xz, Xs]
               refine ws_nil [(8, #[.int .i64 (max a1 a), .int .i64 (min b1 b)], 28)] ⟨⟨by decide, _, _, _, rfl, .inl ⟨by decide, rfl⟩⟩, trivial⟩ (by simp) ?_
               intro ps39
               simp only [fin, List.foldl_cons, List.foldl_nil, List.map, rowOf, List.cons_append, List.nil_append, Act.put, Xa, Xz, Xs]
               refine we_then ?_
               refine wc_seq ?_
               refine wc_seq ?_
               refine wc_region ?_
               refine wl_val (.bool (decide (max a1 a ≤ min b1 b))) rfl (fun _ => rfl) ?_
               simp only [Act.put, Xa, Xz, Xs]
               refine wl_nil ?_
               refine we_then ?_
               cases h40 : (decide (max a1 a ≤ min b1 b))
               ·
                skip
                have p40 : ¬ (max a1 a ≤ min b1 b) := of_decide_eq_false h40
                refine wc_false rfl ?_
                refine wc_skip ?_
                refine we_then ?_
                refine wc_seq ?_
                refine wc_region ?_
                refine wl_val (.int .i64 1) rfl (fun _ => rfl) ?_
                simp only [Act.put, Xa, Xz, Xs]
                refine wl_val (.pointer (some ⟨g5, 5, none⟩)) rfl (fun _ => by go_simp) ?_
                simp only [Act.put, Xa, Xz, Xs]
                refine wl_val (.pointer (some ⟨g5, 6, none⟩)) rfl (fun _ => by go_simp) ?_
                simp only [Act.put, Xa, Xz, Xs]
                refine wl_store_cell 3 3 (.tmp 107) (.const (.int .i64 (-1))) (.int .i64 0) (.int .i64 (-1)) rfl rfl rfl rfl rfl rfl (by kernel_rfl) rfl ?_
                simp only [Act.put, List.set_cons_zero, List.set_cons_succ]
                refine wl_nil ?_
                refine we_then ?_
                refine wc_seq ?_
                have hs4 := hs3 h26
                have hs5 := hs2 h26
                refine wc_region ?_
                refine wl_val (.pointer (some ⟨g15, 0, none⟩)) rfl (fun _ => by go_simp) ?_
                simp only [Act.put, Xa, Xz, Xs]
                refine wl_cell 2 (.tmp 108) (.int .i64 a) (own_row 2 rfl) rfl rfl rfl rfl Try.isAgg2 ?_
                simp only [Act.put, Xa, Xz, Xs]
                refine wl_val (.pointer (some ⟨g15, 1, none⟩)) rfl (fun _ => by go_simp) ?_
                simp only [Act.put, Xa, Xz, Xs]
                refine wl_cell 2 (.tmp 110) (.int .i64 b) (own_row 2 rfl) rfl rfl rfl rfl Try.isAgg2 ?_
                simp only [Act.put, Xa, Xz, Xs]
                refine wl_call 26 #[.int .i64 a, .int .i64 b] (.int .i64 ((a + b) / 2)) rfl (fun _ => by go_simp) (fun W => mid_any a b W (by omega) (by omega) (by omega) (by omega)) ?_
                simp only [Act.put, Xa, Xz, Xs]
                refine wl_val (.bool false) rfl (fun w => run_cmp (b := false) rfl rfl rfl Try.underlying2 (by exact congrArg some h30) w) ?_
                simp only [Act.put, Xa, Xz, Xs]
                refine wl_val (.bool false) rfl (fun _ => rfl) ?_
                simp only [Act.put, Xa, Xz, Xs]
                refine wl_nil ?_
                refine we_then ?_
                refine wc_seq ?_
                refine wc_draw [.late, .late, .late, .late, .plain, .plain, .plain, .late, .plain, .late, .late, .late, .late, .late, .late, .plain, .plain, .plain, .late, .plain, .late, .late, .late] none [] 141 (by kernel_rfl) rfl (by kernel_rfl) (by kernel_rfl) ?_
                refine ws_late (.bool false) rfl rfl (fun _ => rfl) ?_
                simp only [Nat.reduceAdd, Act.put, Xa, Xz, Xs]
                refine ws_late (.bool true) rfl rfl (fun _ => by go_simp) ?_
                simp only [Nat.reduceAdd, Act.put, Xa, Xz, Xs]
                refine ws_late (.bool true) rfl rfl (fun _ => rfl) ?_
                simp only [Nat.reduceAdd, Act.put, Xa, Xz, Xs]
                refine ws_late (.int .i64 1) rfl rfl (fun _ => rfl) ?_
                simp only [Nat.reduceAdd, Act.put, Xa, Xz, Xs]
                refine ws_val (.pointer (some ⟨g2, 2, none⟩)) rfl rfl (fun _ => by go_simp) ?_
                simp only [Nat.reduceAdd, Act.put, Xa, Xz, Xs]
                refine ws_val (.pointer (some ⟨g2, 2, none⟩)) rfl rfl (fun _ => by go_simp) ?_
                simp only [Nat.reduceAdd, Act.put, Xa, Xz, Xs]
                refine ws_cell 2 (.tmp 119) (.int .i64 a1) (own_row 6 rfl) rfl rfl rfl rfl rfl Try.isAgg2 ?_
                simp only [Nat.reduceAdd, Act.put, Xa, Xz, Xs]
                refine ws_late (.pointer (some ⟨g15, 1, none⟩)) rfl rfl (fun _ => by go_simp) ?_
                simp only [Nat.reduceAdd, Act.put, Xa, Xz, Xs]
                refine ws_cell 2 (.tmp 121) (.int .i64 b) (own_row 2 rfl) rfl rfl rfl rfl rfl Try.isAgg2 ?_
                simp only [Nat.reduceAdd, Act.put, Xa, Xz, Xs]
                refine ws_late (.bool (decide (b < a1))) rfl rfl (fun w => run_cmp rfl rfl rfl Try.underlying2 rfl w) ?_
                simp only [Nat.reduceAdd, Act.put, Xa, Xz, Xs]
                refine ws_late (.bool (decide (b < a1))) rfl rfl (fun _ => rfl) ?_
                simp only [Nat.reduceAdd, Act.put, Xa, Xz, Xs]
                refine ws_late (.bool (decide (b < a1))) rfl rfl (fun _ => rfl) ?_
                simp only [Nat.reduceAdd, Act.put, Xa, Xz, Xs]
                cases h41 : (decide (b < a1))
                ·
                 skip
                 have p41 : ¬ (b < a1) := of_decide_eq_false h41
                 refine ws_late (.bool false) rfl rfl (fun _ => rfl) ?_
                 simp only [Nat.reduceAdd, Act.put, Xa, Xz, Xs]
                 refine ws_late (.bool false) rfl rfl (fun _ => rfl) ?_
                 simp only [Nat.reduceAdd, Act.put, Xa, Xz, Xs]
                 refine ws_skip_late rfl rfl ?_
                 simp only [Nat.reduceAdd, Act.put, Xa, Xz, Xs]
                 refine ws_skip rfl rfl ?_
                 simp only [Nat.reduceAdd, Act.put, Xa, Xz, Xs]
                 refine ws_skip rfl rfl ?_
                 simp only [Nat.reduceAdd, Act.put, Xa, Xz, Xs]
                 refine ws_skip rfl rfl ?_
                 simp only [Nat.reduceAdd, Act.put, Xa, Xz, Xs]
                 refine ws_skip_late rfl rfl ?_
                 simp only [Nat.reduceAdd, Act.put, Xa, Xz, Xs]
                 refine ws_skip rfl rfl ?_
                 simp only [Nat.reduceAdd, Act.put, Xa, Xz, Xs]
                 refine ws_skip_late rfl rfl ?_
                 simp only [Nat.reduceAdd, Act.put, Xa, Xz, Xs]
                 refine ws_late (.bool false) rfl rfl (fun _ => rfl) ?_
                 simp only [Nat.reduceAdd, Act.put, Xa, Xz, Xs]
                 refine ws_late (.bool false) rfl rfl (fun _ => rfl) ?_
                 simp only [Nat.reduceAdd, Act.put, Xa, Xz, Xs]
                 refine ws_nil [] trivial (by simp) ?_
                 intro ps42
                 simp only [fin, List.foldl_nil, List.map, List.nil_append]
                 refine we_then ?_
                 refine wc_false rfl ?_
                 refine wc_skip ?_
                 refine we_in ?_
                 refine we_then ?_
                 refine wc_region ?_
                 refine wl_val (.int .i64 1) rfl (fun _ => rfl) ?_
                 simp only [Act.put, Xa, Xz, Xs]
                 refine wl_val (.int .i64 2) rfl (fun w => run_nat (X := 1) (Y := 1) (Z := 2) rfl rfl rfl rfl (by omega) w) ?_
                 simp only [Act.put, Xa, Xz, Xs]
                 refine wl_val (.int .i64 2) rfl (fun _ => rfl) ?_
                 simp only [Act.put, Xa, Xz, Xs]
                 refine wl_nil ?_
                 refine we_round ?_
                 refine wr_round ?_
                 refine wc_seq ?_
                 refine wc_seq ?_
                 refine wc_region ?_
                 refine wl_val (.int .i64 2) rfl (fun _ => rfl) ?_
                 simp only [Act.put, Xa, Xz, Xs]
                 refine wl_val (.bool false) rfl (fun w => run_cmp rfl rfl rfl Try.underlying3 rfl w) ?_
                 simp only [Act.put, Xa, Xz, Xs]
                 refine wl_val (.bool false) rfl (fun _ => rfl) ?_
                 simp only [Act.put, Xa, Xz, Xs]
                 refine wl_skip rfl ?_
                 simp only [Act.put, Xa, Xz, Xs]
                 refine wl_val (.bool false) rfl (fun _ => rfl) ?_
                 simp only [Act.put, Xa, Xz, Xs]
                 refine wl_val (.bool false) rfl (fun _ => rfl) ?_
                 simp only [Act.put, Xa, Xz, Xs]
                 refine wl_skip rfl ?_
                 simp only [Act.put, Xa, Xz, Xs]
                 refine wl_skip rfl ?_
                 simp only [Act.put, Xa, Xz, Xs]
                 refine wl_val (.bool false) rfl (fun _ => rfl) ?_
                 simp only [Act.put, Xa, Xz, Xs]
                 refine wl_nil ?_
                 refine we_then ?_
                 refine wc_false rfl ?_
                 refine wc_exit ?_
                 refine we_then_exit ?_
                 refine we_then_exit ?_
                 refine we_in_here ?_
                 refine we_then ?_
                 refine wc_seq ?_
                 refine wc_region ?_
                 refine wl_load 39 (.tmp 7) (own_row 3 rfl) rfl rfl rfl Try.underlying39 rfl (by kernel_rfl) ?_
                 simp only [Act.put, Xa, Xz, Xs]
                 refine wl_store 4 39 (.tmp 6) (.tmp 140) (#[.int .i64 u2, .int .i64 v2, .int .i64 (m2 : Int), .int .i64 cl, .int .i64 c2, .int .i64 1, .int .i64 (-1)]) rfl rfl rfl rfl rfl (by kernel_rfl) rfl (by simp [Value.oneCell']) ?_
                 simp only [Act.put, List.set_cons_zero, List.set_cons_succ]
                 refine wl_nil ?_
                 refine we_then ?_
                 refine wc_ret ?_
                 refine we_ret_cell (own_row 4 rfl) rfl rfl rfl Try.underlying39 rfl (by kernel_rfl) (fun w1 hE => ?_)
                 have e4 : slips x y z x = 1 := by rw [slips_of (hs1.symm.trans h26) (hg1.symm.trans h27) (hs2 h26), hx]; (try dsimp only); split <;> (try split) <;> omega
                 have e5 : slips x y z y = -1 := by rw [slips_of (hs1.symm.trans h26) (hg1.symm.trans h27) (hs2 h26), hy]; (try dsimp only); split <;> (try split) <;> omega
                 exact ⟨by rw [← e1, ← e2, ← e3, e4, e5, ← hcl, ← hm2], hE.below⟩
                ·
                 skip
                 have p41 : b < a1 := of_decide_eq_true h41
                 refine ws_skip_late rfl rfl ?_
                 simp only [Nat.reduceAdd, Act.put, Xa, Xz, Xs]
                 refine ws_skip_late rfl rfl ?_
                 simp only [Nat.reduceAdd, Act.put, Xa, Xz, Xs]
                 refine ws_skip_late rfl rfl ?_
                 simp only [Nat.reduceAdd, Act.put, Xa, Xz, Xs]
                 refine ws_skip rfl rfl ?_
                 simp only [Nat.reduceAdd, Act.put, Xa, Xz, Xs]
                 refine ws_skip rfl rfl ?_
                 simp only [Nat.reduceAdd, Act.put, Xa, Xz, Xs]
                 refine ws_skip rfl rfl ?_
                 simp only [Nat.reduceAdd, Act.put, Xa, Xz, Xs]
                 refine ws_skip_late rfl rfl ?_
                 simp only [Nat.reduceAdd, Act.put, Xa, Xz, Xs]
                 refine ws_skip rfl rfl ?_
                 simp only [Nat.reduceAdd, Act.put, Xa, Xz, Xs]
                 refine ws_skip_late rfl rfl ?_
                 simp only [Nat.reduceAdd, Act.put, Xa, Xz, Xs]
                 refine ws_skip_late rfl rfl ?_
                 simp only [Nat.reduceAdd, Act.put, Xa, Xz, Xs]
                 refine ws_late (.bool true) rfl rfl (fun _ => rfl) ?_
                 simp only [Nat.reduceAdd, Act.put, Xa, Xz, Xs]
                 refine ws_nil [] trivial (by simp) ?_
                 intro ps43
                 simp only [fin, List.foldl_nil, List.map, List.nil_append]
                 refine we_then ?_
                 refine wc_true rfl ?_
                 refine wc_region ?_
                 refine wl_val (.int .i64 1) rfl (fun _ => rfl) ?_
                 simp only [Act.put, Xa, Xz, Xs]
                 refine wl_val (.pointer (some ⟨g5, 5, none⟩)) rfl (fun _ => by go_simp) ?_
                 simp only [Act.put, Xa, Xz, Xs]
                 refine wl_val (.pointer (some ⟨g5, 6, none⟩)) rfl (fun _ => by go_simp) ?_
                 simp only [Act.put, Xa, Xz, Xs]
                 refine wl_store_cell 3 3 (.tmp 139) (.const (.int .i64 1)) (.int .i64 (-1)) (.int .i64 1) rfl rfl rfl rfl rfl rfl (by kernel_rfl) rfl ?_
                 simp only [Act.put, List.set_cons_zero, List.set_cons_succ]
                 refine wl_nil ?_
                 refine we_in ?_
                 refine we_then ?_
                 refine wc_region ?_
                 refine wl_val (.int .i64 1) rfl (fun _ => rfl) ?_
                 simp only [Act.put, Xa, Xz, Xs]
                 refine wl_val (.int .i64 2) rfl (fun w => run_nat (X := 1) (Y := 1) (Z := 2) rfl rfl rfl rfl (by omega) w) ?_
                 simp only [Act.put, Xa, Xz, Xs]
                 refine wl_val (.int .i64 2) rfl (fun _ => rfl) ?_
                 simp only [Act.put, Xa, Xz, Xs]
                 refine wl_nil ?_
                 refine we_round ?_
                 refine wr_round ?_
                 refine wc_seq ?_
                 refine wc_seq ?_
                 refine wc_region ?_
                 refine wl_val (.int .i64 2) rfl (fun _ => rfl) ?_
                 simp only [Act.put, Xa, Xz, Xs]
                 refine wl_val (.bool false) rfl (fun w => run_cmp rfl rfl rfl Try.underlying3 rfl w) ?_
                 simp only [Act.put, Xa, Xz, Xs]
                 refine wl_val (.bool false) rfl (fun _ => rfl) ?_
                 simp only [Act.put, Xa, Xz, Xs]
                 refine wl_skip rfl ?_
                 simp only [Act.put, Xa, Xz, Xs]
                 refine wl_val (.bool false) rfl (fun _ => rfl) ?_
                 simp only [Act.put, Xa, Xz, Xs]
                 refine wl_val (.bool false) rfl (fun _ => rfl) ?_
                 simp only [Act.put, Xa, Xz, Xs]
                 refine wl_skip rfl ?_
                 simp only [Act.put, Xa, Xz, Xs]
                 refine wl_skip rfl ?_
                 simp only [Act.put, Xa, Xz, Xs]
                 refine wl_val (.bool false) rfl (fun _ => rfl) ?_
                 simp only [Act.put, Xa, Xz, Xs]
                 refine wl_nil ?_
                 refine we_then ?_
                 refine wc_false rfl ?_
                 refine wc_exit ?_
                 refine we_then_exit ?_
                 refine we_then_exit ?_
                 refine we_in_here ?_
                 refine we_then ?_
                 refine wc_seq ?_
                 refine wc_region ?_
                 refine wl_load 39 (.tmp 7) (own_row 3 rfl) rfl rfl rfl Try.underlying39 rfl (by kernel_rfl) ?_
                 simp only [Act.put, Xa, Xz, Xs]
                 refine wl_store 4 39 (.tmp 6) (.tmp 140) (#[.int .i64 u2, .int .i64 v2, .int .i64 (m2 : Int), .int .i64 cl, .int .i64 c2, .int .i64 1, .int .i64 1]) rfl rfl rfl rfl rfl (by kernel_rfl) rfl (by simp [Value.oneCell']) ?_
                 simp only [Act.put, List.set_cons_zero, List.set_cons_succ]
                 refine wl_nil ?_
                 refine we_then ?_
                 refine wc_ret ?_
                 refine we_ret_cell (own_row 4 rfl) rfl rfl rfl Try.underlying39 rfl (by kernel_rfl) (fun w1 hE => ?_)
                 have e4 : slips x y z x = 1 := by rw [slips_of (hs1.symm.trans h26) (hg1.symm.trans h27) (hs2 h26), hx]; (try dsimp only); split <;> (try split) <;> omega
                 have e5 : slips x y z y = 1 := by rw [slips_of (hs1.symm.trans h26) (hg1.symm.trans h27) (hs2 h26), hy]; (try dsimp only); split <;> (try split) <;> omega
                 exact ⟨by rw [← e1, ← e2, ← e3, e4, e5, ← hcl, ← hm2], hE.below⟩
               ·
                skip
                have p40 : max a1 a ≤ min b1 b := of_decide_eq_true h40
                refine wc_true rfl ?_
                refine wc_exit ?_
                refine we_then_exit ?_
                refine we_in_here ?_
                refine we_then ?_
                refine wc_region ?_
                refine wl_val (.int .i64 1) rfl (fun _ => rfl) ?_
                simp only [Act.put, Xa, Xz, Xs]
                refine wl_val (.int .i64 2) rfl (fun w => run_nat (X := 1) (Y := 1) (Z := 2) rfl rfl rfl rfl (by omega) w) ?_
                simp only [Act.put, Xa, Xz, Xs]
                refine wl_val (.int .i64 2) rfl (fun _ => rfl) ?_
                simp only [Act.put, Xa, Xz, Xs]
                refine wl_nil ?_
                refine we_round ?_
                refine wr_round ?_
                refine wc_seq ?_
                refine wc_seq ?_
                refine wc_region ?_
                refine wl_val (.int .i64 2) rfl (fun _ => rfl) ?_
                simp only [Act.put, Xa, Xz, Xs]
                refine wl_val (.bool false) rfl (fun w => run_cmp rfl rfl rfl Try.underlying3 rfl w) ?_
                simp only [Act.put, Xa, Xz, Xs]
                refine wl_val (.bool false) rfl (fun _ => rfl) ?_
                simp only [Act.put, Xa, Xz, Xs]
                refine wl_skip rfl ?_
                simp only [Act.put, Xa, Xz, Xs]
                refine wl_val (.bool false) rfl (fun _ => rfl) ?_
                simp only [Act.put, Xa, Xz, Xs]
                refine wl_val (.bool false) rfl (fun _ => rfl) ?_
                simp only [Act.put, Xa, Xz, Xs]
                refine wl_skip rfl ?_
                simp only [Act.put, Xa, Xz, Xs]
                refine wl_skip rfl ?_
                simp only [Act.put, Xa, Xz, Xs]
                refine wl_val (.bool false) rfl (fun _ => rfl) ?_
                simp only [Act.put, Xa, Xz, Xs]
                refine wl_nil ?_
                refine we_then ?_
                refine wc_false rfl ?_
                refine wc_exit ?_
                refine we_then_exit ?_
                refine we_then_exit ?_
                refine we_in_here ?_
                refine we_then ?_
                refine wc_seq ?_
                refine wc_region ?_
                refine wl_load 39 (.tmp 7) (own_row 3 rfl) rfl rfl rfl Try.underlying39 rfl (by kernel_rfl) ?_
                simp only [Act.put, Xa, Xz, Xs]
                refine wl_store 4 39 (.tmp 6) (.tmp 140) (#[.int .i64 u2, .int .i64 v2, .int .i64 (m2 : Int), .int .i64 cl, .int .i64 c2, .int .i64 1, .int .i64 0]) rfl rfl rfl rfl rfl (by kernel_rfl) rfl (by simp [Value.oneCell']) ?_
                simp only [Act.put, List.set_cons_zero, List.set_cons_succ]
                refine wl_nil ?_
                refine we_then ?_
                refine wc_ret ?_
                refine we_ret_cell (own_row 4 rfl) rfl rfl rfl Try.underlying39 rfl (by kernel_rfl) (fun w1 hE => ?_)
                have e4 : slips x y z x = 1 := by rw [slips_of (hs1.symm.trans h26) (hg1.symm.trans h27) (hs2 h26), hx]; (try dsimp only); split <;> (try split) <;> omega
                have e5 : slips x y z y = 0 := by rw [slips_of (hs1.symm.trans h26) (hg1.symm.trans h27) (hs2 h26), hy]; (try dsimp only); split <;> (try split) <;> omega
                exact ⟨by rw [← e1, ← e2, ← e3, e4, e5, ← hcl, ← hm2], hE.below⟩
             ·
              skip
              have p30 : ((a + b) / 2) < 0 := of_decide_eq_true h30
              refine ws_skip_late rfl rfl ?_
              simp only [Nat.reduceAdd, Act.put, Xa, Xz, Xs]
              refine ws_skip rfl rfl ?_
              simp only [Nat.reduceAdd, Act.put, Xa, Xz, Xs]
              refine ws_skip rfl rfl ?_
              simp only [Nat.reduceAdd, Act.put, Xa, Xz, Xs]
              refine ws_skip rfl rfl ?_
              simp only [Nat.reduceAdd, Act.put, Xa, Xz, Xs]
              refine ws_skip_late rfl rfl ?_
              simp only [Nat.reduceAdd, Act.put, Xa, Xz, Xs]
              refine ws_skip rfl rfl ?_
              simp only [Nat.reduceAdd, Act.put, Xa, Xz, Xs]
              refine ws_skip_late rfl rfl ?_
              simp only [Nat.reduceAdd, Act.put, Xa, Xz, Xs]
              refine ws_late (.bool false) rfl rfl (fun _ => rfl) ?_
              simp only [Nat.reduceAdd, Act.put, Xa, Xz, Xs]
              refine ws_late (.bool false) rfl rfl (fun _ => rfl) ?_
              simp only [Nat.reduceAdd, Act.put, Xa, Xz, Xs]
              refine ws_late (.bool true) rfl rfl (fun _ => rfl) ?_
              simp only [Nat.reduceAdd, Act.put, Xa, Xz, Xs]
              refine ws_late (.bool true) rfl rfl (fun _ => rfl) ?_
              simp only [Nat.reduceAdd, Act.put, Xa, Xz, Xs]
              refine ws_late (.int .i64 0) rfl rfl (fun _ => rfl) ?_
              simp only [Nat.reduceAdd, Act.put, Xa, Xz, Xs]
              refine ws_val (.pointer (some ⟨g2, 0, none⟩)) rfl rfl (fun _ => by go_simp) ?_
              simp only [Nat.reduceAdd, Act.put, Xa, Xz, Xs]
              refine ws_val (.pointer (some ⟨g2, 1, none⟩)) rfl rfl (fun _ => by go_simp) ?_
              simp only [Nat.reduceAdd, Act.put, Xa, Xz, Xs]
              refine ws_cell 2 (.tmp 130) (.int .i64 b0) (own_row 5 rfl) rfl rfl rfl rfl rfl Try.isAgg2 ?_
              simp only [Nat.reduceAdd, Act.put, Xa, Xz, Xs]
              refine ws_late (.pointer (some ⟨g15, 0, none⟩)) rfl rfl (fun _ => by go_simp) ?_
              simp only [Nat.reduceAdd, Act.put, Xa, Xz, Xs]
              refine ws_cell 2 (.tmp 132) (.int .i64 a) (own_row 1 rfl) rfl rfl rfl rfl rfl Try.isAgg2 ?_
              simp only [Nat.reduceAdd, Act.put, Xa, Xz, Xs]
              refine ws_late (.bool (decide (b0 < a))) rfl rfl (fun w => run_cmp rfl rfl rfl Try.underlying2 rfl w) ?_
              simp only [Nat.reduceAdd, Act.put, Xa, Xz, Xs]
              refine ws_late (.bool (decide (b0 < a))) rfl rfl (fun _ => rfl) ?_
              simp only [Nat.reduceAdd, Act.put, Xa, Xz, Xs]
              refine ws_late (.bool (decide (b0 < a))) rfl rfl (fun _ => rfl) ?_
              simp only [Nat.reduceAdd, Act.put, Xa, Xz, Xs]
              refine ws_nil [] trivial (by simp) ?_
              intro ps44
              simp only [fin, List.foldl_nil, List.map, List.nil_append]
              refine we_then ?_
              cases h45 : (decide (b0 < a))
              ·
               skip
               have p45 : ¬ (b0 < a) := of_decide_eq_false h45
               refine wc_false rfl ?_
               refine wc_skip ?_
               refine we_in ?_
               refine we_then ?_
               refine wc_region ?_
               refine wl_val (.int .i64 0) rfl (fun _ => rfl) ?_
               simp only [Act.put, Xa, Xz, Xs]
               refine wl_val (.int .i64 1) rfl (fun w => run_nat (X := 0) (Y := 1) (Z := 1) rfl rfl rfl rfl (by omega) w) ?_
               simp only [Act.put, Xa, Xz, Xs]
               refine wl_val (.int .i64 1) rfl (fun _ => rfl) ?_
               simp only [Act.put, Xa, Xz, Xs]
               refine wl_nil ?_
               refine we_round ?_
               refine wr_round ?_
               refine wc_seq ?_
               refine wc_seq ?_
               refine wc_region ?_
               refine wl_val (.int .i64 1) rfl (fun _ => rfl) ?_
               simp only [Act.put, Xa, Xz, Xs]
               refine wl_val (.bool true) rfl (fun w => run_cmp rfl rfl rfl Try.underlying3 rfl w) ?_
               simp only [Act.put, Xa, Xz, Xs]
               refine wl_val (.bool true) rfl (fun _ => rfl) ?_
               simp only [Act.put, Xa, Xz, Xs]
               refine wl_val (.bool true) rfl (fun _ => rfl) ?_
               simp only [Act.put, Xa, Xz, Xs]
               refine wl_val (.bool true) rfl (fun _ => rfl) ?_
               simp only [Act.put, Xa, Xz, Xs]
               refine wl_val (.bool true) rfl (fun _ => rfl) ?_
               simp only [Act.put, Xa, Xz, Xs]
               refine wl_val (.bool false) rfl (fun _ => rfl) ?_
               simp only [Act.put, Xa, Xz, Xs]
               refine wl_val (.bool true) rfl (fun _ => by go_simp) ?_
               simp only [Act.put, Xa, Xz, Xs]
               refine wl_val (.bool true) rfl (fun _ => rfl) ?_
               simp only [Act.put, Xa, Xz, Xs]
               refine wl_nil ?_
               refine we_then ?_
               refine wc_true rfl ?_
               refine wc_skip ?_
               refine we_then ?_
               refine wc_seq ?_
               refine wc_block ?_
               refine wc_seq ?_
               refine wc_draw [.late, .plain, .plain, .plain, .plain, .late, .late, .late, .make 28 (#[.int .i64 0, .int .i64 0]) 9 (#[.int .i64 (max a1 a), .int .i64 (min b1 b)]), .put 8, .late] none [(8, 14)] 141 (by kernel_rfl) rfl (by kernel_rfl) (by kernel_rfl) ?_
               refine ws_late (.int .i64 1) rfl rfl (fun _ => rfl) ?_
               simp only [Nat.reduceAdd, Act.put, Xa, Xz, Xs]
               refine ws_val (.pointer (some ⟨g2, 2, none⟩)) rfl rfl (fun _ => by go_simp) ?_
               simp only [Nat.reduceAdd, Act.put, Xa, Xz, Xs]
               refine ws_part 28 (.tmp 98) [.int .i64 a1, .int .i64 b1] (own_row 5 rfl) rfl rfl rfl rfl rfl Try.underlying28 rfl (by kernel_rfl) ?_
               simp only [Nat.reduceAdd, Act.put, Xa, Xz, Xs]
               refine ws_load 28 (.tmp 12) (own_row 1 rfl) rfl rfl rfl rfl Try.underlying28 rfl (by kernel_rfl) ?_
               simp only [Nat.reduceAdd, Act.put, Xa, Xz, Xs]
               refine ws_call 25 #[.agg #[.int .i64 a1, .int .i64 b1], .agg #[.int .i64 a, .int .i64 b]] (.tuple #[.agg #[.int .i64 (max a1 a), .int .i64 (min b1 b)], .bool (decide (max a1 a ≤ min b1 b))]) rfl rfl (fun _ => by go_simp) (fun W => common_any a1 b1 a b W) ?_
               simp only [Nat.reduceAdd, Act.put, Xa, Xz, Xs]
               refine ws_late (.tuple #[.agg #[.int .i64 (max a1 a), .int .i64 (min b1 b)], .bool (decide (max a1 a ≤ min b1 b))]) rfl rfl (fun _ => rfl) ?_
               simp only [Nat.reduceAdd, Act.put, Xa, Xz, Xs]
               refine ws_late (.agg #[.int .i64 (max a1 a), .int .i64 (min b1 b)]) rfl rfl (fun _ => by go_simp) ?_
               simp only [Nat.reduceAdd, Act.put, Xa, Xz, Xs]
               refine ws_late (.bool (decide (max a1 a ≤ min b1 b))) rfl rfl (fun _ => by go_simp) ?_
               simp only [Nat.reduceAdd, Act.put, Xa, Xz, Xs]
               refine ws_make 28 (#[.int .i64 0, .int .i64 0]) 9 (#[.int .i64 (max a1 a), .int .i64 (min b1 b)]) rfl rfl rfl (zero_of_info (n := 2) (by kernel_rfl)).1 ?_
               simp only [Nat.reduceAdd, Act.put, Xa, Xz, Xs]
               refine ws_put 8 28 14 (.tmp 102) _ _ _ rfl rfl rfl rfl (by simp) rfl rfl rfl (by kernel_rfl) rfl (by simp [Value.oneCell']) ?_
               simp only [Nat.reduceAdd]
               refine ws_late (.bool (decide (max a1 a ≤ min b1 b))) rfl rfl (fun _ => rfl) ?_
               simp only [Nat.reduceAdd, Act.put, Xa, Xz, Xs]
               refine ws_nil [(8, #[.int .i64 (max a1 a), .int .i64 (min b1 b)], 28)] ⟨⟨by decide, _, _, _, rfl, .inl ⟨by decide, rfl⟩⟩, trivial⟩ (by simp) ?_
               intro ps46
               simp only [fin, List.foldl_cons, List.foldl_nil, List.map, rowOf, List.cons_append, List.nil_append, Act.put, Xa, Xz, Xs]
               refine we_then ?_
               refine wc_seq ?_
               refine wc_seq ?_
               refine wc_region ?_
               refine wl_val (.bool (decide (max a1 a ≤ min b1 b))) rfl (fun _ => rfl) ?_
               simp only [Act.put, Xa, Xz, Xs]
               refine wl_nil ?_
               refine we_then ?_
               cases h47 : (decide (max a1 a ≤ min b1 b))
               ·
                skip
                have p47 : ¬ (max a1 a ≤ min b1 b) := of_decide_eq_false h47
                refine wc_false rfl ?_
                refine wc_skip ?_
                refine we_then ?_
                refine wc_seq ?_
                refine wc_region ?_
                refine wl_val (.int .i64 1) rfl (fun _ => rfl) ?_
                simp only [Act.put, Xa, Xz, Xs]
                refine wl_val (.pointer (some ⟨g5, 5, none⟩)) rfl (fun _ => by go_simp) ?_
                simp only [Act.put, Xa, Xz, Xs]
                refine wl_val (.pointer (some ⟨g5, 6, none⟩)) rfl (fun _ => by go_simp) ?_
                simp only [Act.put, Xa, Xz, Xs]
                refine wl_store_cell 3 3 (.tmp 107) (.const (.int .i64 (-1))) (.int .i64 0) (.int .i64 (-1)) rfl rfl rfl rfl rfl rfl (by kernel_rfl) rfl ?_
                simp only [Act.put, List.set_cons_zero, List.set_cons_succ]
                refine wl_nil ?_
                refine we_then ?_
                refine wc_seq ?_
                have hs4 := hs3 h26
                have hs5 := hs2 h26
                refine wc_region ?_
                refine wl_val (.pointer (some ⟨g15, 0, none⟩)) rfl (fun _ => by go_simp) ?_
                simp only [Act.put, Xa, Xz, Xs]
                refine wl_cell 2 (.tmp 108) (.int .i64 a) (own_row 2 rfl) rfl rfl rfl rfl Try.isAgg2 ?_
                simp only [Act.put, Xa, Xz, Xs]
                refine wl_val (.pointer (some ⟨g15, 1, none⟩)) rfl (fun _ => by go_simp) ?_
                simp only [Act.put, Xa, Xz, Xs]
                refine wl_cell 2 (.tmp 110) (.int .i64 b) (own_row 2 rfl) rfl rfl rfl rfl Try.isAgg2 ?_
                simp only [Act.put, Xa, Xz, Xs]
                refine wl_call 26 #[.int .i64 a, .int .i64 b] (.int .i64 ((a + b) / 2)) rfl (fun _ => by go_simp) (fun W => mid_any a b W (by omega) (by omega) (by omega) (by omega)) ?_
                simp only [Act.put, Xa, Xz, Xs]
                refine wl_val (.bool true) rfl (fun w => run_cmp (b := true) rfl rfl rfl Try.underlying2 (by exact congrArg some h30) w) ?_
                simp only [Act.put, Xa, Xz, Xs]
                refine wl_val (.bool true) rfl (fun _ => rfl) ?_
                simp only [Act.put, Xa, Xz, Xs]
                refine wl_nil ?_
                refine we_then ?_
                refine wc_seq ?_
                refine wc_draw [.late, .late, .late, .late, .plain, .plain, .plain, .late, .plain, .late, .late, .late, .late, .late, .late, .plain, .plain, .plain, .late, .plain, .late, .late, .late] none [] 141 (by kernel_rfl) rfl (by kernel_rfl) (by kernel_rfl) ?_
                refine ws_late (.bool true) rfl rfl (fun _ => rfl) ?_
                simp only [Nat.reduceAdd, Act.put, Xa, Xz, Xs]
                refine ws_late (.bool false) rfl rfl (fun _ => by go_simp) ?_
                simp only [Nat.reduceAdd, Act.put, Xa, Xz, Xs]
                refine ws_late (.bool false) rfl rfl (fun _ => rfl) ?_
                simp only [Nat.reduceAdd, Act.put, Xa, Xz, Xs]
                refine ws_skip_late rfl rfl ?_
                simp only [Nat.reduceAdd, Act.put, Xa, Xz, Xs]
                refine ws_skip rfl rfl ?_
                simp only [Nat.reduceAdd, Act.put, Xa, Xz, Xs]
                refine ws_skip rfl rfl ?_
                simp only [Nat.reduceAdd, Act.put, Xa, Xz, Xs]
                refine ws_skip rfl rfl ?_
                simp only [Nat.reduceAdd, Act.put, Xa, Xz, Xs]
                refine ws_skip_late rfl rfl ?_
                simp only [Nat.reduceAdd, Act.put, Xa, Xz, Xs]
                refine ws_skip rfl rfl ?_
                simp only [Nat.reduceAdd, Act.put, Xa, Xz, Xs]
                refine ws_skip_late rfl rfl ?_
                simp only [Nat.reduceAdd, Act.put, Xa, Xz, Xs]
                refine ws_late (.bool false) rfl rfl (fun _ => rfl) ?_
                simp only [Nat.reduceAdd, Act.put, Xa, Xz, Xs]
                refine ws_late (.bool false) rfl rfl (fun _ => rfl) ?_
                simp only [Nat.reduceAdd, Act.put, Xa, Xz, Xs]
                refine ws_late (.bool true) rfl rfl (fun _ => rfl) ?_
                simp only [Nat.reduceAdd, Act.put, Xa, Xz, Xs]
                refine ws_late (.bool true) rfl rfl (fun _ => rfl) ?_
                simp only [Nat.reduceAdd, Act.put, Xa, Xz, Xs]
                refine ws_late (.int .i64 1) rfl rfl (fun _ => rfl) ?_
                simp only [Nat.reduceAdd, Act.put, Xa, Xz, Xs]
                refine ws_val (.pointer (some ⟨g2, 2, none⟩)) rfl rfl (fun _ => by go_simp) ?_
                simp only [Nat.reduceAdd, Act.put, Xa, Xz, Xs]
                refine ws_val (.pointer (some ⟨g2, 3, none⟩)) rfl rfl (fun _ => by go_simp) ?_
                simp only [Nat.reduceAdd, Act.put, Xa, Xz, Xs]
                refine ws_cell 2 (.tmp 130) (.int .i64 b1) (own_row 6 rfl) rfl rfl rfl rfl rfl Try.isAgg2 ?_
                simp only [Nat.reduceAdd, Act.put, Xa, Xz, Xs]
                refine ws_late (.pointer (some ⟨g15, 0, none⟩)) rfl rfl (fun _ => by go_simp) ?_
                simp only [Nat.reduceAdd, Act.put, Xa, Xz, Xs]
                refine ws_cell 2 (.tmp 132) (.int .i64 a) (own_row 2 rfl) rfl rfl rfl rfl rfl Try.isAgg2 ?_
                simp only [Nat.reduceAdd, Act.put, Xa, Xz, Xs]
                refine ws_late (.bool (decide (b1 < a))) rfl rfl (fun w => run_cmp rfl rfl rfl Try.underlying2 rfl w) ?_
                simp only [Nat.reduceAdd, Act.put, Xa, Xz, Xs]
                refine ws_late (.bool (decide (b1 < a))) rfl rfl (fun _ => rfl) ?_
                simp only [Nat.reduceAdd, Act.put, Xa, Xz, Xs]
                refine ws_late (.bool (decide (b1 < a))) rfl rfl (fun _ => rfl) ?_
                simp only [Nat.reduceAdd, Act.put, Xa, Xz, Xs]
                refine ws_nil [] trivial (by simp) ?_
                intro ps48
                simp only [fin, List.foldl_nil, List.map, List.nil_append]
                refine we_then ?_
                cases h49 : (decide (b1 < a))
                ·
                 skip
                 have p49 : ¬ (b1 < a) := of_decide_eq_false h49
                 refine wc_false rfl ?_
                 refine wc_skip ?_
                 refine we_in ?_
                 refine we_then ?_
                 refine wc_region ?_
                 refine wl_val (.int .i64 1) rfl (fun _ => rfl) ?_
                 simp only [Act.put, Xa, Xz, Xs]
                 refine wl_val (.int .i64 2) rfl (fun w => run_nat (X := 1) (Y := 1) (Z := 2) rfl rfl rfl rfl (by omega) w) ?_
                 simp only [Act.put, Xa, Xz, Xs]
                 refine wl_val (.int .i64 2) rfl (fun _ => rfl) ?_
                 simp only [Act.put, Xa, Xz, Xs]
                 refine wl_nil ?_
                 refine we_round ?_
                 refine wr_round ?_
                 refine wc_seq ?_
                 refine wc_seq ?_
                 refine wc_region ?_
                 refine wl_val (.int .i64 2) rfl (fun _ => rfl) ?_
                 simp only [Act.put, Xa, Xz, Xs]
                 refine wl_val (.bool false) rfl (fun w => run_cmp rfl rfl rfl Try.underlying3 rfl w) ?_
                 simp only [Act.put, Xa, Xz, Xs]
                 refine wl_val (.bool false) rfl (fun _ => rfl) ?_
                 simp only [Act.put, Xa, Xz, Xs]
                 refine wl_skip rfl ?_
                 simp only [Act.put, Xa, Xz, Xs]
                 refine wl_val (.bool false) rfl (fun _ => rfl) ?_
                 simp only [Act.put, Xa, Xz, Xs]
                 refine wl_val (.bool false) rfl (fun _ => rfl) ?_
                 simp only [Act.put, Xa, Xz, Xs]
                 refine wl_skip rfl ?_
                 simp only [Act.put, Xa, Xz, Xs]
                 refine wl_skip rfl ?_
                 simp only [Act.put, Xa, Xz, Xs]
                 refine wl_val (.bool false) rfl (fun _ => rfl) ?_
                 simp only [Act.put, Xa, Xz, Xs]
                 refine wl_nil ?_
                 refine we_then ?_
                 refine wc_false rfl ?_
                 refine wc_exit ?_
                 refine we_then_exit ?_
                 refine we_then_exit ?_
                 refine we_in_here ?_
                 refine we_then ?_
                 refine wc_seq ?_
                 refine wc_region ?_
                 refine wl_load 39 (.tmp 7) (own_row 3 rfl) rfl rfl rfl Try.underlying39 rfl (by kernel_rfl) ?_
                 simp only [Act.put, Xa, Xz, Xs]
                 refine wl_store 4 39 (.tmp 6) (.tmp 140) (#[.int .i64 u2, .int .i64 v2, .int .i64 (m2 : Int), .int .i64 cl, .int .i64 c2, .int .i64 (-1), .int .i64 (-1)]) rfl rfl rfl rfl rfl (by kernel_rfl) rfl (by simp [Value.oneCell']) ?_
                 simp only [Act.put, List.set_cons_zero, List.set_cons_succ]
                 refine wl_nil ?_
                 refine we_then ?_
                 refine wc_ret ?_
                 refine we_ret_cell (own_row 4 rfl) rfl rfl rfl Try.underlying39 rfl (by kernel_rfl) (fun w1 hE => ?_)
                 have e4 : slips x y z x = -1 := by rw [slips_of (hs1.symm.trans h26) (hg1.symm.trans h27) (hs2 h26), hx]; (try dsimp only); split <;> (try split) <;> omega
                 have e5 : slips x y z y = -1 := by rw [slips_of (hs1.symm.trans h26) (hg1.symm.trans h27) (hs2 h26), hy]; (try dsimp only); split <;> (try split) <;> omega
                 exact ⟨by rw [← e1, ← e2, ← e3, e4, e5, ← hcl, ← hm2], hE.below⟩
                ·
                 skip
                 have p49 : b1 < a := of_decide_eq_true h49
                 refine wc_true rfl ?_
                 refine wc_region ?_
                 refine wl_val (.int .i64 1) rfl (fun _ => rfl) ?_
                 simp only [Act.put, Xa, Xz, Xs]
                 refine wl_val (.pointer (some ⟨g5, 5, none⟩)) rfl (fun _ => by go_simp) ?_
                 simp only [Act.put, Xa, Xz, Xs]
                 refine wl_val (.pointer (some ⟨g5, 6, none⟩)) rfl (fun _ => by go_simp) ?_
                 simp only [Act.put, Xa, Xz, Xs]
                 refine wl_store_cell 3 3 (.tmp 139) (.const (.int .i64 1)) (.int .i64 (-1)) (.int .i64 1) rfl rfl rfl rfl rfl rfl (by kernel_rfl) rfl ?_
                 simp only [Act.put, List.set_cons_zero, List.set_cons_succ]
                 refine wl_nil ?_
                 refine we_in ?_
                 refine we_then ?_
                 refine wc_region ?_
                 refine wl_val (.int .i64 1) rfl (fun _ => rfl) ?_
                 simp only [Act.put, Xa, Xz, Xs]
                 refine wl_val (.int .i64 2) rfl (fun w => run_nat (X := 1) (Y := 1) (Z := 2) rfl rfl rfl rfl (by omega) w) ?_
                 simp only [Act.put, Xa, Xz, Xs]
                 refine wl_val (.int .i64 2) rfl (fun _ => rfl) ?_
                 simp only [Act.put, Xa, Xz, Xs]
                 refine wl_nil ?_
                 refine we_round ?_
                 refine wr_round ?_
                 refine wc_seq ?_
                 refine wc_seq ?_
                 refine wc_region ?_
                 refine wl_val (.int .i64 2) rfl (fun _ => rfl) ?_
                 simp only [Act.put, Xa, Xz, Xs]
                 refine wl_val (.bool false) rfl (fun w => run_cmp rfl rfl rfl Try.underlying3 rfl w) ?_
                 simp only [Act.put, Xa, Xz, Xs]
                 refine wl_val (.bool false) rfl (fun _ => rfl) ?_
                 simp only [Act.put, Xa, Xz, Xs]
                 refine wl_skip rfl ?_
                 simp only [Act.put, Xa, Xz, Xs]
                 refine wl_val (.bool false) rfl (fun _ => rfl) ?_
                 simp only [Act.put, Xa, Xz, Xs]
                 refine wl_val (.bool false) rfl (fun _ => rfl) ?_
                 simp only [Act.put, Xa, Xz, Xs]
                 refine wl_skip rfl ?_
                 simp only [Act.put, Xa, Xz, Xs]
                 refine wl_skip rfl ?_
                 simp only [Act.put, Xa, Xz, Xs]
                 refine wl_val (.bool false) rfl (fun _ => rfl) ?_
                 simp only [Act.put, Xa, Xz, Xs]
                 refine wl_nil ?_
                 refine we_then ?_
                 refine wc_false rfl ?_
                 refine wc_exit ?_
                 refine we_then_exit ?_
                 refine we_then_exit ?_
                 refine we_in_here ?_
                 refine we_then ?_
                 refine wc_seq ?_
                 refine wc_region ?_
                 refine wl_load 39 (.tmp 7) (own_row 3 rfl) rfl rfl rfl Try.underlying39 rfl (by kernel_rfl) ?_
                 simp only [Act.put, Xa, Xz, Xs]
                 refine wl_store 4 39 (.tmp 6) (.tmp 140) (#[.int .i64 u2, .int .i64 v2, .int .i64 (m2 : Int), .int .i64 cl, .int .i64 c2, .int .i64 (-1), .int .i64 1]) rfl rfl rfl rfl rfl (by kernel_rfl) rfl (by simp [Value.oneCell']) ?_
                 simp only [Act.put, List.set_cons_zero, List.set_cons_succ]
                 refine wl_nil ?_
                 refine we_then ?_
                 refine wc_ret ?_
                 refine we_ret_cell (own_row 4 rfl) rfl rfl rfl Try.underlying39 rfl (by kernel_rfl) (fun w1 hE => ?_)
                 have e4 : slips x y z x = -1 := by rw [slips_of (hs1.symm.trans h26) (hg1.symm.trans h27) (hs2 h26), hx]; (try dsimp only); split <;> (try split) <;> omega
                 have e5 : slips x y z y = 1 := by rw [slips_of (hs1.symm.trans h26) (hg1.symm.trans h27) (hs2 h26), hy]; (try dsimp only); split <;> (try split) <;> omega
                 exact ⟨by rw [← e1, ← e2, ← e3, e4, e5, ← hcl, ← hm2], hE.below⟩
               ·
                skip
                have p47 : max a1 a ≤ min b1 b := of_decide_eq_true h47
                refine wc_true rfl ?_
                refine wc_exit ?_
                refine we_then_exit ?_
                refine we_in_here ?_
                refine we_then ?_
                refine wc_region ?_
                refine wl_val (.int .i64 1) rfl (fun _ => rfl) ?_
                simp only [Act.put, Xa, Xz, Xs]
                refine wl_val (.int .i64 2) rfl (fun w => run_nat (X := 1) (Y := 1) (Z := 2) rfl rfl rfl rfl (by omega) w) ?_
                simp only [Act.put, Xa, Xz, Xs]
                refine wl_val (.int .i64 2) rfl (fun _ => rfl) ?_
                simp only [Act.put, Xa, Xz, Xs]
                refine wl_nil ?_
                refine we_round ?_
                refine wr_round ?_
                refine wc_seq ?_
                refine wc_seq ?_
                refine wc_region ?_
                refine wl_val (.int .i64 2) rfl (fun _ => rfl) ?_
                simp only [Act.put, Xa, Xz, Xs]
                refine wl_val (.bool false) rfl (fun w => run_cmp rfl rfl rfl Try.underlying3 rfl w) ?_
                simp only [Act.put, Xa, Xz, Xs]
                refine wl_val (.bool false) rfl (fun _ => rfl) ?_
                simp only [Act.put, Xa, Xz, Xs]
                refine wl_skip rfl ?_
                simp only [Act.put, Xa, Xz, Xs]
                refine wl_val (.bool false) rfl (fun _ => rfl) ?_
                simp only [Act.put, Xa, Xz, Xs]
                refine wl_val (.bool false) rfl (fun _ => rfl) ?_
                simp only [Act.put, Xa, Xz, Xs]
                refine wl_skip rfl ?_
                simp only [Act.put, Xa, Xz, Xs]
                refine wl_skip rfl ?_
                simp only [Act.put, Xa, Xz, Xs]
                refine wl_val (.bool false) rfl (fun _ => rfl) ?_
                simp only [Act.put, Xa, Xz, Xs]
                refine wl_nil ?_
                refine we_then ?_
                refine wc_false rfl ?_
                refine wc_exit ?_
                refine we_then_exit ?_
                refine we_then_exit ?_
                refine we_in_here ?_
                refine we_then ?_
                refine wc_seq ?_
                refine wc_region ?_
                refine wl_load 39 (.tmp 7) (own_row 3 rfl) rfl rfl rfl Try.underlying39 rfl (by kernel_rfl) ?_
                simp only [Act.put, Xa, Xz, Xs]
                refine wl_store 4 39 (.tmp 6) (.tmp 140) (#[.int .i64 u2, .int .i64 v2, .int .i64 (m2 : Int), .int .i64 cl, .int .i64 c2, .int .i64 (-1), .int .i64 0]) rfl rfl rfl rfl rfl (by kernel_rfl) rfl (by simp [Value.oneCell']) ?_
                simp only [Act.put, List.set_cons_zero, List.set_cons_succ]
                refine wl_nil ?_
                refine we_then ?_
                refine wc_ret ?_
                refine we_ret_cell (own_row 4 rfl) rfl rfl rfl Try.underlying39 rfl (by kernel_rfl) (fun w1 hE => ?_)
                have e4 : slips x y z x = -1 := by rw [slips_of (hs1.symm.trans h26) (hg1.symm.trans h27) (hs2 h26), hx]; (try dsimp only); split <;> (try split) <;> omega
                have e5 : slips x y z y = 0 := by rw [slips_of (hs1.symm.trans h26) (hg1.symm.trans h27) (hs2 h26), hy]; (try dsimp only); split <;> (try split) <;> omega
                exact ⟨by rw [← e1, ← e2, ← e3, e4, e5, ← hcl, ← hm2], hE.below⟩
              ·
               skip
               have p45 : b0 < a := of_decide_eq_true h45
               refine wc_true rfl ?_
               refine wc_region ?_
               refine wl_val (.int .i64 0) rfl (fun _ => rfl) ?_
               simp only [Act.put, Xa, Xz, Xs]
               refine wl_val (.pointer (some ⟨g5, 5, none⟩)) rfl (fun _ => by go_simp) ?_
               simp only [Act.put, Xa, Xz, Xs]
               refine wl_val (.pointer (some ⟨g5, 5, none⟩)) rfl (fun _ => by go_simp) ?_
               simp only [Act.put, Xa, Xz, Xs]
               refine wl_store_cell 2 3 (.tmp 139) (.const (.int .i64 1)) (.int .i64 (-1)) (.int .i64 1) rfl rfl rfl rfl rfl rfl (by kernel_rfl) rfl ?_
               simp only [Act.put, List.set_cons_zero, List.set_cons_succ]
               refine wl_nil ?_
               refine we_in ?_
               refine we_then ?_
               refine wc_region ?_
               refine wl_val (.int .i64 0) rfl (fun _ => rfl) ?_
               simp only [Act.put, Xa, Xz, Xs]
               refine wl_val (.int .i64 1) rfl (fun w => run_nat (X := 0) (Y := 1) (Z := 1) rfl rfl rfl rfl (by omega) w) ?_
               simp only [Act.put, Xa, Xz, Xs]
               refine wl_val (.int .i64 1) rfl (fun _ => rfl) ?_
               simp only [Act.put, Xa, Xz, Xs]
               refine wl_nil ?_
               refine we_round ?_
               refine wr_round ?_
               refine wc_seq ?_
               refine wc_seq ?_
               refine wc_region ?_
               refine wl_val (.int .i64 1) rfl (fun _ => rfl) ?_
               simp only [Act.put, Xa, Xz, Xs]
               refine wl_val (.bool true) rfl (fun w => run_cmp rfl rfl rfl Try.underlying3 rfl w) ?_
               simp only [Act.put, Xa, Xz, Xs]
               refine wl_val (.bool true) rfl (fun _ => rfl) ?_
               simp only [Act.put, Xa, Xz, Xs]
               refine wl_val (.bool true) rfl (fun _ => rfl) ?_
               simp only [Act.put, Xa, Xz, Xs]
               refine wl_val (.bool true) rfl (fun _ => rfl) ?_
               simp only [Act.put, Xa, Xz, Xs]
               refine wl_val (.bool true) rfl (fun _ => rfl) ?_
               simp only [Act.put, Xa, Xz, Xs]
               refine wl_val (.bool false) rfl (fun _ => rfl) ?_
               simp only [Act.put, Xa, Xz, Xs]
               refine wl_val (.bool true) rfl (fun _ => by go_simp) ?_
               simp only [Act.put, Xa, Xz, Xs]
               refine wl_val (.bool true) rfl (fun _ => rfl) ?_
               simp only [Act.put, Xa, Xz, Xs]
               refine wl_nil ?_
               refine we_then ?_
               refine wc_true rfl ?_
               refine wc_skip ?_
               refine we_then ?_
               refine wc_seq ?_
               refine wc_block ?_
               refine wc_seq ?_
               refine wc_draw [.late, .plain, .plain, .plain, .plain, .late, .late, .late, .make 28 (#[.int .i64 0, .int .i64 0]) 9 (#[.int .i64 (max a1 a), .int .i64 (min b1 b)]), .put 8, .late] none [(8, 14)] 141 (by kernel_rfl) rfl (by kernel_rfl) (by kernel_rfl) ?_
               refine ws_late (.int .i64 1) rfl rfl (fun _ => rfl) ?_
               simp only [Nat.reduceAdd, Act.put, Xa, Xz, Xs]
               refine ws_val (.pointer (some ⟨g2, 2, none⟩)) rfl rfl (fun _ => by go_simp) ?_
               simp only [Nat.reduceAdd, Act.put, Xa, Xz, Xs]
               refine ws_part 28 (.tmp 98) [.int .i64 a1, .int .i64 b1] (own_row 5 rfl) rfl rfl rfl rfl rfl Try.underlying28 rfl (by kernel_rfl) ?_
               simp only [Nat.reduceAdd, Act.put, Xa, Xz, Xs]
               refine ws_load 28 (.tmp 12) (own_row 1 rfl) rfl rfl rfl rfl Try.underlying28 rfl (by kernel_rfl) ?_
               simp only [Nat.reduceAdd, Act.put, Xa, Xz, Xs]
               refine ws_call 25 #[.agg #[.int .i64 a1, .int .i64 b1], .agg #[.int .i64 a, .int .i64 b]] (.tuple #[.agg #[.int .i64 (max a1 a), .int .i64 (min b1 b)], .bool (decide (max a1 a ≤ min b1 b))]) rfl rfl (fun _ => by go_simp) (fun W => common_any a1 b1 a b W) ?_
               simp only [Nat.reduceAdd, Act.put, Xa, Xz, Xs]
               refine ws_late (.tuple #[.agg #[.int .i64 (max a1 a), .int .i64 (min b1 b)], .bool (decide (max a1 a ≤ min b1 b))]) rfl rfl (fun _ => rfl) ?_
               simp only [Nat.reduceAdd, Act.put, Xa, Xz, Xs]
               refine ws_late (.agg #[.int .i64 (max a1 a), .int .i64 (min b1 b)]) rfl rfl (fun _ => by go_simp) ?_
               simp only [Nat.reduceAdd, Act.put, Xa, Xz, Xs]
               refine ws_late (.bool (decide (max a1 a ≤ min b1 b))) rfl rfl (fun _ => by go_simp) ?_
               simp only [Nat.reduceAdd, Act.put, Xa, Xz, Xs]
               refine ws_make 28 (#[.int .i64 0, .int .i64 0]) 9 (#[.int .i64 (max a1 a), .int .i64 (min b1 b)]) rfl rfl rfl (zero_of_info (n := 2) (by kernel_rfl)).1 ?_
               simp only [Nat.reduceAdd, Act.put, Xa, Xz, Xs]
               refine ws_put 8 28 14 (.tmp 102) _ _ _ rfl rfl rfl rfl (by simp) rfl rfl rfl (by kernel_rfl) rfl (by simp [Value.oneCell']) ?_
               simp only [Nat.reduceAdd]
               refine ws_late (.bool (decide (max a1 a ≤ min b1 b))) rfl rfl (fun _ => rfl) ?_
               simp only [Nat.reduceAdd, Act.put, Xa, Xz, Xs]
               refine ws_nil [(8, #[.int .i64 (max a1 a), .int .i64 (min b1 b)], 28)] ⟨⟨by decide, _, _, _, rfl, .inl ⟨by decide, rfl⟩⟩, trivial⟩ (by simp) ?_
               intro ps50
               simp only [fin, List.foldl_cons, List.foldl_nil, List.map, rowOf, List.cons_append, List.nil_append, Act.put, Xa, Xz, Xs]
               refine we_then ?_
               refine wc_seq ?_
               refine wc_seq ?_
               refine wc_region ?_
               refine wl_val (.bool (decide (max a1 a ≤ min b1 b))) rfl (fun _ => rfl) ?_
               simp only [Act.put, Xa, Xz, Xs]
               refine wl_nil ?_
               refine we_then ?_
               cases h51 : (decide (max a1 a ≤ min b1 b))
               ·
                skip
                have p51 : ¬ (max a1 a ≤ min b1 b) := of_decide_eq_false h51
                refine wc_false rfl ?_
                refine wc_skip ?_
                refine we_then ?_
                refine wc_seq ?_
                refine wc_region ?_
                refine wl_val (.int .i64 1) rfl (fun _ => rfl) ?_
                simp only [Act.put, Xa, Xz, Xs]
                refine wl_val (.pointer (some ⟨g5, 5, none⟩)) rfl (fun _ => by go_simp) ?_
                simp only [Act.put, Xa, Xz, Xs]
                refine wl_val (.pointer (some ⟨g5, 6, none⟩)) rfl (fun _ => by go_simp) ?_
                simp only [Act.put, Xa, Xz, Xs]
                refine wl_store_cell 3 3 (.tmp 107) (.const (.int .i64 (-1))) (.int .i64 0) (.int .i64 (-1)) rfl rfl rfl rfl rfl rfl (by kernel_rfl) rfl ?_
                simp only [Act.put, List.set_cons_zero, List.set_cons_succ]
                refine wl_nil ?_
                refine we_then ?_
                refine wc_seq ?_
                have hs4 := hs3 h26
                have hs5 := hs2 h26
                refine wc_region ?_
                refine wl_val (.pointer (some ⟨g15, 0, none⟩)) rfl (fun _ => by go_simp) ?_
                simp only [Act.put, Xa, Xz, Xs]
                refine wl_cell 2 (.tmp 108) (.int .i64 a) (own_row 2 rfl) rfl rfl rfl rfl Try.isAgg2 ?_
                simp only [Act.put, Xa, Xz, Xs]
                refine wl_val (.pointer (some ⟨g15, 1, none⟩)) rfl (fun _ => by go_simp) ?_
                simp only [Act.put, Xa, Xz, Xs]
                refine wl_cell 2 (.tmp 110) (.int .i64 b) (own_row 2 rfl) rfl rfl rfl rfl Try.isAgg2 ?_
                simp only [Act.put, Xa, Xz, Xs]
                refine wl_call 26 #[.int .i64 a, .int .i64 b] (.int .i64 ((a + b) / 2)) rfl (fun _ => by go_simp) (fun W => mid_any a b W (by omega) (by omega) (by omega) (by omega)) ?_
                simp only [Act.put, Xa, Xz, Xs]
                refine wl_val (.bool true) rfl (fun w => run_cmp (b := true) rfl rfl rfl Try.underlying2 (by exact congrArg some h30) w) ?_
                simp only [Act.put, Xa, Xz, Xs]
                refine wl_val (.bool true) rfl (fun _ => rfl) ?_
                simp only [Act.put, Xa, Xz, Xs]
                refine wl_nil ?_
                refine we_then ?_
                refine wc_seq ?_
                refine wc_draw [.late, .late, .late, .late, .plain, .plain, .plain, .late, .plain, .late, .late, .late, .late, .late, .late, .plain, .plain, .plain, .late, .plain, .late, .late, .late] none [] 141 (by kernel_rfl) rfl (by kernel_rfl) (by kernel_rfl) ?_
                refine ws_late (.bool true) rfl rfl (fun _ => rfl) ?_
                simp only [Nat.reduceAdd, Act.put, Xa, Xz, Xs]
                refine ws_late (.bool false) rfl rfl (fun _ => by go_simp) ?_
                simp only [Nat.reduceAdd, Act.put, Xa, Xz, Xs]
                refine ws_late (.bool false) rfl rfl (fun _ => rfl) ?_
                simp only [Nat.reduceAdd, Act.put, Xa, Xz, Xs]
                refine ws_skip_late rfl rfl ?_
                simp only [Nat.reduceAdd, Act.put, Xa, Xz, Xs]
                refine ws_skip rfl rfl ?_
                simp only [Nat.reduceAdd, Act.put, Xa, Xz, Xs]
                refine ws_skip rfl rfl ?_
                simp only [Nat.reduceAdd, Act.put, Xa, Xz, Xs]
                refine ws_skip rfl rfl ?_
                simp only [Nat.reduceAdd, Act.put, Xa, Xz, Xs]
                refine ws_skip_late rfl rfl ?_
                simp only [Nat.reduceAdd, Act.put, Xa, Xz, Xs]
                refine ws_skip rfl rfl ?_
                simp only [Nat.reduceAdd, Act.put, Xa, Xz, Xs]
                refine ws_skip_late rfl rfl ?_
                simp only [Nat.reduceAdd, Act.put, Xa, Xz, Xs]
                refine ws_late (.bool false) rfl rfl (fun _ => rfl) ?_
                simp only [Nat.reduceAdd, Act.put, Xa, Xz, Xs]
                refine ws_late (.bool false) rfl rfl (fun _ => rfl) ?_
                simp only [Nat.reduceAdd, Act.put, Xa, Xz, Xs]
                refine ws_late (.bool true) rfl rfl (fun _ => rfl) ?_
                simp only [Nat.reduceAdd, Act.put, Xa, Xz, Xs]
                refine ws_late (.bool true) rfl rfl (fun _ => rfl) ?_
                simp only [Nat.reduceAdd, Act.put, Xa, Xz, Xs]
                refine ws_late (.int .i64 1) rfl rfl (fun _ => rfl) ?_
                simp only [Nat.reduceAdd, Act.put, Xa, Xz, Xs]
                refine ws_val (.pointer (some ⟨g2, 2, none⟩)) rfl rfl (fun _ => by go_simp) ?_
                simp only [Nat.reduceAdd, Act.put, Xa, Xz, Xs]
                refine ws_val (.pointer (some ⟨g2, 3, none⟩)) rfl rfl (fun _ => by go_simp) ?_
                simp only [Nat.reduceAdd, Act.put, Xa, Xz, Xs]
                refine ws_cell 2 (.tmp 130) (.int .i64 b1) (own_row 6 rfl) rfl rfl rfl rfl rfl Try.isAgg2 ?_
                simp only [Nat.reduceAdd, Act.put, Xa, Xz, Xs]
                refine ws_late (.pointer (some ⟨g15, 0, none⟩)) rfl rfl (fun _ => by go_simp) ?_
                simp only [Nat.reduceAdd, Act.put, Xa, Xz, Xs]
                refine ws_cell 2 (.tmp 132) (.int .i64 a) (own_row 2 rfl) rfl rfl rfl rfl rfl Try.isAgg2 ?_
                simp only [Nat.reduceAdd, Act.put, Xa, Xz, Xs]
                refine ws_late (.bool (decide (b1 < a))) rfl rfl (fun w => run_cmp rfl rfl rfl Try.underlying2 rfl w) ?_
                simp only [Nat.reduceAdd, Act.put, Xa, Xz, Xs]
                refine ws_late (.bool (decide (b1 < a))) rfl rfl (fun _ => rfl) ?_
                simp only [Nat.reduceAdd, Act.put, Xa, Xz, Xs]
                refine ws_late (.bool (decide (b1 < a))) rfl rfl (fun _ => rfl) ?_
                simp only [Nat.reduceAdd, Act.put, Xa, Xz, Xs]
                refine ws_nil [] trivial (by simp) ?_
                intro ps52
                simp only [fin, List.foldl_nil, List.map, List.nil_append]
                refine we_then ?_
                cases h53 : (decide (b1 < a))
                ·
                 skip
                 have p53 : ¬ (b1 < a) := of_decide_eq_false h53
                 refine wc_false rfl ?_
                 refine wc_skip ?_
                 refine we_in ?_
                 refine we_then ?_
                 refine wc_region ?_
                 refine wl_val (.int .i64 1) rfl (fun _ => rfl) ?_
                 simp only [Act.put, Xa, Xz, Xs]
                 refine wl_val (.int .i64 2) rfl (fun w => run_nat (X := 1) (Y := 1) (Z := 2) rfl rfl rfl rfl (by omega) w) ?_
                 simp only [Act.put, Xa, Xz, Xs]
                 refine wl_val (.int .i64 2) rfl (fun _ => rfl) ?_
                 simp only [Act.put, Xa, Xz, Xs]
                 refine wl_nil ?_
                 refine we_round ?_
                 refine wr_round ?_
                 refine wc_seq ?_
                 refine wc_seq ?_
                 refine wc_region ?_
                 refine wl_val (.int .i64 2) rfl (fun _ => rfl) ?_
                 simp only [Act.put, Xa, Xz, Xs]
                 refine wl_val (.bool false) rfl (fun w => run_cmp rfl rfl rfl Try.underlying3 rfl w) ?_
                 simp only [Act.put, Xa, Xz, Xs]
                 refine wl_val (.bool false) rfl (fun _ => rfl) ?_
                 simp only [Act.put, Xa, Xz, Xs]
                 refine wl_skip rfl ?_
                 simp only [Act.put, Xa, Xz, Xs]
                 refine wl_val (.bool false) rfl (fun _ => rfl) ?_
                 simp only [Act.put, Xa, Xz, Xs]
                 refine wl_val (.bool false) rfl (fun _ => rfl) ?_
                 simp only [Act.put, Xa, Xz, Xs]
                 refine wl_skip rfl ?_
                 simp only [Act.put, Xa, Xz, Xs]
                 refine wl_skip rfl ?_
                 simp only [Act.put, Xa, Xz, Xs]
                 refine wl_val (.bool false) rfl (fun _ => rfl) ?_
                 simp only [Act.put, Xa, Xz, Xs]
                 refine wl_nil ?_
                 refine we_then ?_
                 refine wc_false rfl ?_
                 refine wc_exit ?_
                 refine we_then_exit ?_
                 refine we_then_exit ?_
                 refine we_in_here ?_
                 refine we_then ?_
                 refine wc_seq ?_
                 refine wc_region ?_
                 refine wl_load 39 (.tmp 7) (own_row 3 rfl) rfl rfl rfl Try.underlying39 rfl (by kernel_rfl) ?_
                 simp only [Act.put, Xa, Xz, Xs]
                 refine wl_store 4 39 (.tmp 6) (.tmp 140) (#[.int .i64 u2, .int .i64 v2, .int .i64 (m2 : Int), .int .i64 cl, .int .i64 c2, .int .i64 1, .int .i64 (-1)]) rfl rfl rfl rfl rfl (by kernel_rfl) rfl (by simp [Value.oneCell']) ?_
                 simp only [Act.put, List.set_cons_zero, List.set_cons_succ]
                 refine wl_nil ?_
                 refine we_then ?_
                 refine wc_ret ?_
                 refine we_ret_cell (own_row 4 rfl) rfl rfl rfl Try.underlying39 rfl (by kernel_rfl) (fun w1 hE => ?_)
                 have e4 : slips x y z x = 1 := by rw [slips_of (hs1.symm.trans h26) (hg1.symm.trans h27) (hs2 h26), hx]; (try dsimp only); split <;> (try split) <;> omega
                 have e5 : slips x y z y = -1 := by rw [slips_of (hs1.symm.trans h26) (hg1.symm.trans h27) (hs2 h26), hy]; (try dsimp only); split <;> (try split) <;> omega
                 exact ⟨by rw [← e1, ← e2, ← e3, e4, e5, ← hcl, ← hm2], hE.below⟩
                ·
                 skip
                 have p53 : b1 < a := of_decide_eq_true h53
                 refine wc_true rfl ?_
                 refine wc_region ?_
                 refine wl_val (.int .i64 1) rfl (fun _ => rfl) ?_
                 simp only [Act.put, Xa, Xz, Xs]
                 refine wl_val (.pointer (some ⟨g5, 5, none⟩)) rfl (fun _ => by go_simp) ?_
                 simp only [Act.put, Xa, Xz, Xs]
                 refine wl_val (.pointer (some ⟨g5, 6, none⟩)) rfl (fun _ => by go_simp) ?_
                 simp only [Act.put, Xa, Xz, Xs]
                 refine wl_store_cell 3 3 (.tmp 139) (.const (.int .i64 1)) (.int .i64 (-1)) (.int .i64 1) rfl rfl rfl rfl rfl rfl (by kernel_rfl) rfl ?_
                 simp only [Act.put, List.set_cons_zero, List.set_cons_succ]
                 refine wl_nil ?_
                 refine we_in ?_
                 refine we_then ?_
                 refine wc_region ?_
                 refine wl_val (.int .i64 1) rfl (fun _ => rfl) ?_
                 simp only [Act.put, Xa, Xz, Xs]
                 refine wl_val (.int .i64 2) rfl (fun w => run_nat (X := 1) (Y := 1) (Z := 2) rfl rfl rfl rfl (by omega) w) ?_
                 simp only [Act.put, Xa, Xz, Xs]
                 refine wl_val (.int .i64 2) rfl (fun _ => rfl) ?_
                 simp only [Act.put, Xa, Xz, Xs]
                 refine wl_nil ?_
                 refine we_round ?_
                 refine wr_round ?_
                 refine wc_seq ?_
                 refine wc_seq ?_
                 refine wc_region ?_
                 refine wl_val (.int .i64 2) rfl (fun _ => rfl) ?_
                 simp only [Act.put, Xa, Xz, Xs]
                 refine wl_val (.bool false) rfl (fun w => run_cmp rfl rfl rfl Try.underlying3 rfl w) ?_
                 simp only [Act.put, Xa, Xz, Xs]
                 refine wl_val (.bool false) rfl (fun _ => rfl) ?_
                 simp only [Act.put, Xa, Xz, Xs]
                 refine wl_skip rfl ?_
                 simp only [Act.put, Xa, Xz, Xs]
                 refine wl_val (.bool false) rfl (fun _ => rfl) ?_
                 simp only [Act.put, Xa, Xz, Xs]
                 refine wl_val (.bool false) rfl (fun _ => rfl) ?_
                 simp only [Act.put, Xa, Xz, Xs]
                 refine wl_skip rfl ?_
                 simp only [Act.put, Xa, Xz, Xs]
                 refine wl_skip rfl ?_
                 simp only [Act.put, Xa, Xz, Xs]
                 refine wl_val (.bool false) rfl (fun _ => rfl) ?_
                 simp only [Act.put, Xa, Xz, Xs]
                 refine wl_nil ?_
                 refine we_then ?_
                 refine wc_false rfl ?_
                 refine wc_exit ?_
                 refine we_then_exit ?_
                 refine we_then_exit ?_
                 refine we_in_here ?_
                 refine we_then ?_
                 refine wc_seq ?_
                 refine wc_region ?_
                 refine wl_load 39 (.tmp 7) (own_row 3 rfl) rfl rfl rfl Try.underlying39 rfl (by kernel_rfl) ?_
                 simp only [Act.put, Xa, Xz, Xs]
                 refine wl_store 4 39 (.tmp 6) (.tmp 140) (#[.int .i64 u2, .int .i64 v2, .int .i64 (m2 : Int), .int .i64 cl, .int .i64 c2, .int .i64 1, .int .i64 1]) rfl rfl rfl rfl rfl (by kernel_rfl) rfl (by simp [Value.oneCell']) ?_
                 simp only [Act.put, List.set_cons_zero, List.set_cons_succ]
                 refine wl_nil ?_
                 refine we_then ?_
                 refine wc_ret ?_
                 refine we_ret_cell (own_row 4 rfl) rfl rfl rfl Try.underlying39 rfl (by kernel_rfl) (fun w1 hE => ?_)
                 have e4 : slips x y z x = 1 := by rw [slips_of (hs1.symm.trans h26) (hg1.symm.trans h27) (hs2 h26), hx]; (try dsimp only); split <;> (try split) <;> omega
                 have e5 : slips x y z y = 1 := by rw [slips_of (hs1.symm.trans h26) (hg1.symm.trans h27) (hs2 h26), hy]; (try dsimp only); split <;> (try split) <;> omega
                 exact ⟨by rw [← e1, ← e2, ← e3, e4, e5, ← hcl, ← hm2], hE.below⟩
               ·
                skip
                have p51 : max a1 a ≤ min b1 b := of_decide_eq_true h51
                refine wc_true rfl ?_
                refine wc_exit ?_
                refine we_then_exit ?_
                refine we_in_here ?_
                refine we_then ?_
                refine wc_region ?_
                refine wl_val (.int .i64 1) rfl (fun _ => rfl) ?_
                simp only [Act.put, Xa, Xz, Xs]
                refine wl_val (.int .i64 2) rfl (fun w => run_nat (X := 1) (Y := 1) (Z := 2) rfl rfl rfl rfl (by omega) w) ?_
                simp only [Act.put, Xa, Xz, Xs]
                refine wl_val (.int .i64 2) rfl (fun _ => rfl) ?_
                simp only [Act.put, Xa, Xz, Xs]
                refine wl_nil ?_
                refine we_round ?_
                refine wr_round ?_
                refine wc_seq ?_
                refine wc_seq ?_
                refine wc_region ?_
                refine wl_val (.int .i64 2) rfl (fun _ => rfl) ?_
                simp only [Act.put, Xa, Xz, Xs]
                refine wl_val (.bool false) rfl (fun w => run_cmp rfl rfl rfl Try.underlying3 rfl w) ?_
                simp only [Act.put, Xa, Xz, Xs]
                refine wl_val (.bool false) rfl (fun _ => rfl) ?_
                simp only [Act.put, Xa, Xz, Xs]
                refine wl_skip rfl ?_
                simp only [Act.put, Xa, Xz, Xs]
                refine wl_val (.bool false) rfl (fun _ => rfl) ?_
                simp only [Act.put, Xa, Xz, Xs]
                refine wl_val (.bool false) rfl (fun _ => rfl) ?_
                simp only [Act.put, Xa, Xz, Xs]
                refine wl_skip rfl ?_
                simp only [Act.put, Xa, Xz, Xs]
                refine wl_skip rfl ?_
                simp only [Act.put, Xa, Xz, Xs]
                refine wl_val (.bool false) rfl (fun _ => rfl) ?_
                simp only [Act.put, Xa, Xz, Xs]
                refine wl_nil ?_
                refine we_then ?_
                refine wc_false rfl ?_
                refine wc_exit ?_
                refine we_then_exit ?_
                refine we_then_exit ?_
                refine we_in_here ?_
                refine we_then ?_
                refine wc_seq ?_
                refine wc_region ?_
                refine wl_load 39 (.tmp 7) (own_row 3 rfl) rfl rfl rfl Try.underlying39 rfl (by kernel_rfl) ?_
                simp only [Act.put, Xa, Xz, Xs]
                refine wl_store 4 39 (.tmp 6) (.tmp 140) (#[.int .i64 u2, .int .i64 v2, .int .i64 (m2 : Int), .int .i64 cl, .int .i64 c2, .int .i64 1, .int .i64 0]) rfl rfl rfl rfl rfl (by kernel_rfl) rfl (by simp [Value.oneCell']) ?_
                simp only [Act.put, List.set_cons_zero, List.set_cons_succ]
                refine wl_nil ?_
                refine we_then ?_
                refine wc_ret ?_
                refine we_ret_cell (own_row 4 rfl) rfl rfl rfl Try.underlying39 rfl (by kernel_rfl) (fun w1 hE => ?_)
                have e4 : slips x y z x = 1 := by rw [slips_of (hs1.symm.trans h26) (hg1.symm.trans h27) (hs2 h26), hx]; (try dsimp only); split <;> (try split) <;> omega
                have e5 : slips x y z y = 0 := by rw [slips_of (hs1.symm.trans h26) (hg1.symm.trans h27) (hs2 h26), hy]; (try dsimp only); split <;> (try split) <;> omega
                exact ⟨by rw [← e1, ← e2, ← e3, e4, e5, ← hcl, ← hm2], hE.below⟩
            ·
             skip
             have p29 : max a0 a ≤ min b0 b := of_decide_eq_true h29
             refine wc_true rfl ?_
             refine wc_exit ?_
             refine we_then_exit ?_
             refine we_in_here ?_
             refine we_then ?_
             refine wc_region ?_
             refine wl_val (.int .i64 0) rfl (fun _ => rfl) ?_
             simp only [Act.put, Xa, Xz, Xs]
             refine wl_val (.int .i64 1) rfl (fun w => run_nat (X := 0) (Y := 1) (Z := 1) rfl rfl rfl rfl (by omega) w) ?_
             simp only [Act.put, Xa, Xz, Xs]
             refine wl_val (.int .i64 1) rfl (fun _ => rfl) ?_
             simp only [Act.put, Xa, Xz, Xs]
             refine wl_nil ?_
             refine we_round ?_
             refine wr_round ?_
             refine wc_seq ?_
             refine wc_seq ?_
             refine wc_region ?_
             refine wl_val (.int .i64 1) rfl (fun _ => rfl) ?_
             simp only [Act.put, Xa, Xz, Xs]
             refine wl_val (.bool true) rfl (fun w => run_cmp rfl rfl rfl Try.underlying3 rfl w) ?_
             simp only [Act.put, Xa, Xz, Xs]
             refine wl_val (.bool true) rfl (fun _ => rfl) ?_
             simp only [Act.put, Xa, Xz, Xs]
             refine wl_val (.bool true) rfl (fun _ => rfl) ?_
             simp only [Act.put, Xa, Xz, Xs]
             refine wl_val (.bool true) rfl (fun _ => rfl) ?_
             simp only [Act.put, Xa, Xz, Xs]
             refine wl_val (.bool true) rfl (fun _ => rfl) ?_
             simp only [Act.put, Xa, Xz, Xs]
             refine wl_val (.bool false) rfl (fun _ => rfl) ?_
             simp only [Act.put, Xa, Xz, Xs]
             refine wl_val (.bool true) rfl (fun _ => by go_simp) ?_
             simp only [Act.put, Xa, Xz, Xs]
             refine wl_val (.bool true) rfl (fun _ => rfl) ?_
             simp only [Act.put, Xa, Xz, Xs]
             refine wl_nil ?_
             refine we_then ?_
             refine wc_true rfl ?_
             refine wc_skip ?_
             refine we_then ?_
             refine wc_seq ?_
             refine wc_block ?_
             refine wc_seq ?_
             refine wc_draw [.late, .plain, .plain, .plain, .plain, .late, .late, .late, .make 28 (#[.int .i64 0, .int .i64 0]) 9 (#[.int .i64 (max a1 a), .int .i64 (min b1 b)]), .put 8, .late] none [(8, 14)] 141 (by kernel_rfl) rfl (by kernel_rfl) (by kernel_rfl) ?_
             refine ws_late (.int .i64 1) rfl rfl (fun _ => rfl) ?_
             simp only [Nat.reduceAdd, Act.put, Xa, Xz, Xs]
             refine ws_val (.pointer (some ⟨g2, 2, none⟩)) rfl rfl (fun _ => by go_simp) ?_
             simp only [Nat.reduceAdd, Act.put, Xa, Xz, Xs]
             refine ws_part 28 (.tmp 98) [.int .i64 a1, .int .i64 b1] (own_row 5 rfl) rfl rfl rfl rfl rfl Try.underlying28 rfl (by kernel_rfl) ?_
             simp only [Nat.reduceAdd, Act.put, Xa, Xz, Xs]
             refine ws_load 28 (.tmp 12) (own_row 1 rfl) rfl rfl rfl rfl Try.underlying28 rfl (by kernel_rfl) ?_
             simp only [Nat.reduceAdd, Act.put, Xa, Xz, Xs]
             refine ws_call 25 #[.agg #[.int .i64 a1, .int .i64 b1], .agg #[.int .i64 a, .int .i64 b]] (.tuple #[.agg #[.int .i64 (max a1 a), .int .i64 (min b1 b)], .bool (decide (max a1 a ≤ min b1 b))]) rfl rfl (fun _ => by go_simp) (fun W => common_any a1 b1 a b W) ?_
             simp only [Nat.reduceAdd, Act.put, Xa, Xz, Xs]
             refine ws_late (.tuple #[.agg #[.int .i64 (max a1 a), .int .i64 (min b1 b)], .bool (decide (max a1 a ≤ min b1 b))]) rfl rfl (fun _ => rfl) ?_
             simp only [Nat.reduceAdd, Act.put, Xa, Xz, Xs]
             refine ws_late (.agg #[.int .i64 (max a1 a), .int .i64 (min b1 b)]) rfl rfl (fun _ => by go_simp) ?_
             simp only [Nat.reduceAdd, Act.put, Xa, Xz, Xs]
             refine ws_late (.bool (decide (max a1 a ≤ min b1 b))) rfl rfl (fun _ => by go_simp) ?_
             simp only [Nat.reduceAdd, Act.put, Xa, Xz, Xs]
             refine ws_make 28 (#[.int .i64 0, .int .i64 0]) 9 (#[.int .i64 (max a1 a), .int .i64 (min b1 b)]) rfl rfl rfl (zero_of_info (n := 2) (by kernel_rfl)).1 ?_
             simp only [Nat.reduceAdd, Act.put, Xa, Xz, Xs]
             refine ws_put 8 28 14 (.tmp 102) _ _ _ rfl rfl rfl rfl (by simp) rfl rfl rfl (by kernel_rfl) rfl (by simp [Value.oneCell']) ?_
             simp only [Nat.reduceAdd]
             refine ws_late (.bool (decide (max a1 a ≤ min b1 b))) rfl rfl (fun _ => rfl) ?_
             simp only [Nat.reduceAdd, Act.put, Xa, Xz, Xs]
             refine ws_nil [(8, #[.int .i64 (max a1 a), .int .i64 (min b1 b)], 28)] ⟨⟨by decide, _, _, _, rfl, .inl ⟨by decide, rfl⟩⟩, trivial⟩ (by simp) ?_
             intro ps54
             simp only [fin, List.foldl_cons, List.foldl_nil, List.map, rowOf, List.cons_append, List.nil_append, Act.put, Xa, Xz, Xs]
             refine we_then ?_
             refine wc_seq ?_
             refine wc_seq ?_
             refine wc_region ?_
             refine wl_val (.bool (decide (max a1 a ≤ min b1 b))) rfl (fun _ => rfl) ?_
             simp only [Act.put, Xa, Xz, Xs]
             refine wl_nil ?_
             refine we_then ?_
             cases h55 : (decide (max a1 a ≤ min b1 b))
             ·
              skip
              have p55 : ¬ (max a1 a ≤ min b1 b) := of_decide_eq_false h55
              refine wc_false rfl ?_
              refine wc_skip ?_
              refine we_then ?_
              refine wc_seq ?_
              refine wc_region ?_
              refine wl_val (.int .i64 1) rfl (fun _ => rfl) ?_
              simp only [Act.put, Xa, Xz, Xs]
              refine wl_val (.pointer (some ⟨g5, 5, none⟩)) rfl (fun _ => by go_simp) ?_
              simp only [Act.put, Xa, Xz, Xs]
              refine wl_val (.pointer (some ⟨g5, 6, none⟩)) rfl (fun _ => by go_simp) ?_
              simp only [Act.put, Xa, Xz, Xs]
              refine wl_store_cell 3 3 (.tmp 107) (.const (.int .i64 (-1))) (.int .i64 0) (.int .i64 (-1)) rfl rfl rfl rfl rfl rfl (by kernel_rfl) rfl ?_
              simp only [Act.put, List.set_cons_zero, List.set_cons_succ]
              refine wl_nil ?_
              refine we_then ?_
              refine wc_seq ?_
              have hs4 := hs3 h26
              have hs5 := hs2 h26
              refine wc_region ?_
              refine wl_val (.pointer (some ⟨g15, 0, none⟩)) rfl (fun _ => by go_simp) ?_
              simp only [Act.put, Xa, Xz, Xs]
              refine wl_cell 2 (.tmp 108) (.int .i64 a) (own_row 2 rfl) rfl rfl rfl rfl Try.isAgg2 ?_
              simp only [Act.put, Xa, Xz, Xs]
              refine wl_val (.pointer (some ⟨g15, 1, none⟩)) rfl (fun _ => by go_simp) ?_
              simp only [Act.put, Xa, Xz, Xs]
              refine wl_cell 2 (.tmp 110) (.int .i64 b) (own_row 2 rfl) rfl rfl rfl rfl Try.isAgg2 ?_
              simp only [Act.put, Xa, Xz, Xs]
              refine wl_call 26 #[.int .i64 a, .int .i64 b] (.int .i64 ((a + b) / 2)) rfl (fun _ => by go_simp) (fun W => mid_any a b W (by omega) (by omega) (by omega) (by omega)) ?_
              simp only [Act.put, Xa, Xz, Xs]
              refine wl_val (.bool (decide (((a + b) / 2) < 0))) rfl (fun w => run_cmp rfl rfl rfl Try.underlying2 rfl w) ?_
              simp only [Act.put, Xa, Xz, Xs]
              refine wl_val (.bool (decide (((a + b) / 2) < 0))) rfl (fun _ => rfl) ?_
              simp only [Act.put, Xa, Xz, Xs]
              refine wl_nil ?_
              refine we_then ?_
              refine wc_seq ?_
              refine wc_draw [.late, .late, .late, .late, .plain, .plain, .plain, .late, .plain, .late, .late, .late, .late, .late, .late, .plain, .plain, .plain, .late, .plain, .late, .late, .late] none [] 141 (by kernel_rfl) rfl (by kernel_rfl) (by kernel_rfl) ?_
              refine ws_late (.bool (decide (((a + b) / 2) < 0))) rfl rfl (fun _ => rfl) ?_
              simp only [Nat.reduceAdd, Act.put, Xa, Xz, Xs]
              refine ws_late (.bool (!(decide (((a + b) / 2) < 0)))) rfl rfl (fun _ => by go_simp) ?_
              simp only [Nat.reduceAdd, Act.put, Xa, Xz, Xs]
              refine ws_late (.bool (!(decide (((a + b) / 2) < 0)))) rfl rfl (fun _ => rfl) ?_
              simp only [Nat.reduceAdd, Act.put, Xa, Xz, Xs]
              cases h56 : (decide (((a + b) / 2) < 0))
              ·
               skip
               have p56 : ¬ (((a + b) / 2) < 0) := of_decide_eq_false h56
               refine ws_late (.int .i64 1) rfl rfl (fun _ => rfl) ?_
               simp only [Nat.reduceAdd, Act.put, Xa, Xz, Xs]
               refine ws_val (.pointer (some ⟨g2, 2, none⟩)) rfl rfl (fun _ => by go_simp) ?_
               simp only [Nat.reduceAdd, Act.put, Xa, Xz, Xs]
               refine ws_val (.pointer (some ⟨g2, 2, none⟩)) rfl rfl (fun _ => by go_simp) ?_
               simp only [Nat.reduceAdd, Act.put, Xa, Xz, Xs]
               refine ws_cell 2 (.tmp 119) (.int .i64 a1) (own_row 6 rfl) rfl rfl rfl rfl rfl Try.isAgg2 ?_
               simp only [Nat.reduceAdd, Act.put, Xa, Xz, Xs]
               refine ws_late (.pointer (some ⟨g15, 1, none⟩)) rfl rfl (fun _ => by go_simp) ?_
               simp only [Nat.reduceAdd, Act.put, Xa, Xz, Xs]
               refine ws_cell 2 (.tmp 121) (.int .i64 b) (own_row 2 rfl) rfl rfl rfl rfl rfl Try.isAgg2 ?_
               simp only [Nat.reduceAdd, Act.put, Xa, Xz, Xs]
               refine ws_late (.bool (decide (b < a1))) rfl rfl (fun w => run_cmp rfl rfl rfl Try.underlying2 rfl w) ?_
               simp only [Nat.reduceAdd, Act.put, Xa, Xz, Xs]
               refine ws_late (.bool (decide (b < a1))) rfl rfl (fun _ => rfl) ?_
               simp only [Nat.reduceAdd, Act.put, Xa, Xz, Xs]
               refine ws_late (.bool (decide (b < a1))) rfl rfl (fun _ => rfl) ?_
               simp only [Nat.reduceAdd, Act.put, Xa, Xz, Xs]
               cases h57 : (decide (b < a1))
               ·
                skip
                have p57 : ¬ (b < a1) := of_decide_eq_false h57
                refine ws_late (.bool false) rfl rfl (fun _ => rfl) ?_
                simp only [Nat.reduceAdd, Act.put, Xa, Xz, Xs]
                refine ws_late (.bool false) rfl rfl (fun _ => rfl) ?_
                simp only [Nat.reduceAdd, Act.put, Xa, Xz, Xs]
                refine ws_skip_late rfl rfl ?_
                simp only [Nat.reduceAdd, Act.put, Xa, Xz, Xs]
                refine ws_skip rfl rfl ?_
                simp only [Nat.reduceAdd, Act.put, Xa, Xz, Xs]
                refine ws_skip rfl rfl ?_
                simp only [Nat.reduceAdd, Act.put, Xa, Xz, Xs]
                refine ws_skip rfl rfl ?_
                simp only [Nat.reduceAdd, Act.put, Xa, Xz, Xs]
                refine ws_skip_late rfl rfl ?_
                simp only [Nat.reduceAdd, Act.put, Xa, Xz, Xs]
                refine ws_skip rfl rfl ?_
                simp only [Nat.reduceAdd, Act.put, Xa, Xz, Xs]
                refine ws_skip_late rfl rfl ?_
                simp only [Nat.reduceAdd, Act.put, Xa, Xz, Xs]
                refine ws_late (.bool false) rfl rfl (fun _ => rfl) ?_
                simp only [Nat.reduceAdd, Act.put, Xa, Xz, Xs]
                refine ws_late (.bool false) rfl rfl (fun _ => rfl) ?_
                simp only [Nat.reduceAdd, Act.put, Xa, Xz, Xs]
                refine ws_nil [] trivial (by simp) ?_
                intro ps58
                simp only [fin, List.foldl_nil, List.map, List.nil_append]
                refine we_then ?_
                refine wc_false rfl ?_
                refine wc_skip ?_
                refine we_in ?_
                refine we_then ?_
                refine wc_region ?_
                refine wl_val (.int .i64 1) rfl (fun _ => rfl) ?_
                simp only [Act.put, Xa, Xz, Xs]
                refine wl_val (.int .i64 2) rfl (fun w => run_nat (X := 1) (Y := 1) (Z := 2) rfl rfl rfl rfl (by omega) w) ?_
                simp only [Act.put, Xa, Xz, Xs]
                refine wl_val (.int .i64 2) rfl (fun _ => rfl) ?_
                simp only [Act.put, Xa, Xz, Xs]
                refine wl_nil ?_
                refine we_round ?_
                refine wr_round ?_
                refine wc_seq ?_
                refine wc_seq ?_
                refine wc_region ?_
                refine wl_val (.int .i64 2) rfl (fun _ => rfl) ?_
                simp only [Act.put, Xa, Xz, Xs]
                refine wl_val (.bool false) rfl (fun w => run_cmp rfl rfl rfl Try.underlying3 rfl w) ?_
                simp only [Act.put, Xa, Xz, Xs]
                refine wl_val (.bool false) rfl (fun _ => rfl) ?_
                simp only [Act.put, Xa, Xz, Xs]
                refine wl_skip rfl ?_
                simp only [Act.put, Xa, Xz, Xs]
                refine wl_val (.bool false) rfl (fun _ => rfl) ?_
                simp only [Act.put, Xa, Xz, Xs]
                refine wl_val (.bool false) rfl (fun _ => rfl) ?_
                simp only [Act.put, Xa, Xz, Xs]
                refine wl_skip rfl ?_
                simp only [Act.put, Xa, Xz, Xs]
                refine wl_skip rfl ?_
                simp only [Act.put, Xa, Xz, Xs]
                refine wl_val (.bool false) rfl (fun _ => rfl) ?_
                simp only [Act.put, Xa, Xz, Xs]
                refine wl_nil ?_
                refine we_then ?_
                refine wc_false rfl ?_
                refine wc_exit ?_
                refine we_then_exit ?_
                refine we_then_exit ?_
                refine we_in_here ?_
                refine we_then ?_
                refine wc_seq ?_
                refine wc_region ?_
                refine wl_load 39 (.tmp 7) (own_row 3 rfl) rfl rfl rfl Try.underlying39 rfl (by kernel_rfl) ?_
                simp only [Act.put, Xa, Xz, Xs]
                refine wl_store 4 39 (.tmp 6) (.tmp 140) (#[.int .i64 u2, .int .i64 v2, .int .i64 (m2 : Int), .int .i64 cl, .int .i64 c2, .int .i64 0, .int .i64 (-1)]) rfl rfl rfl rfl rfl (by kernel_rfl) rfl (by simp [Value.oneCell']) ?_
                simp only [Act.put, List.set_cons_zero, List.set_cons_succ]
                refine wl_nil ?_
                refine we_then ?_
                refine wc_ret ?_
                refine we_ret_cell (own_row 4 rfl) rfl rfl rfl Try.underlying39 rfl (by kernel_rfl) (fun w1 hE => ?_)
                have e4 : slips x y z x = 0 := by rw [slips_of (hs1.symm.trans h26) (hg1.symm.trans h27) (hs2 h26), hx]; (try dsimp only); split <;> (try split) <;> omega
                have e5 : slips x y z y = -1 := by rw [slips_of (hs1.symm.trans h26) (hg1.symm.trans h27) (hs2 h26), hy]; (try dsimp only); split <;> (try split) <;> omega
                exact ⟨by rw [← e1, ← e2, ← e3, e4, e5, ← hcl, ← hm2], hE.below⟩
               ·
                skip
                have p57 : b < a1 := of_decide_eq_true h57
                refine ws_skip_late rfl rfl ?_
                simp only [Nat.reduceAdd, Act.put, Xa, Xz, Xs]
                refine ws_skip_late rfl rfl ?_
                simp only [Nat.reduceAdd, Act.put, Xa, Xz, Xs]
                refine ws_skip_late rfl rfl ?_
                simp only [Nat.reduceAdd, Act.put, Xa, Xz, Xs]
                refine ws_skip rfl rfl ?_
                simp only [Nat.reduceAdd, Act.put, Xa, Xz, Xs]
                refine ws_skip rfl rfl ?_
                simp only [Nat.reduceAdd, Act.put, Xa, Xz, Xs]
                refine ws_skip rfl rfl ?_
                simp only [Nat.reduceAdd, Act.put, Xa, Xz, Xs]
                refine ws_skip_late rfl rfl ?_
                simp only [Nat.reduceAdd, Act.put, Xa, Xz, Xs]
                refine ws_skip rfl rfl ?_
                simp only [Nat.reduceAdd, Act.put, Xa, Xz, Xs]
                refine ws_skip_late rfl rfl ?_
                simp only [Nat.reduceAdd, Act.put, Xa, Xz, Xs]
                refine ws_skip_late rfl rfl ?_
                simp only [Nat.reduceAdd, Act.put, Xa, Xz, Xs]
                refine ws_late (.bool true) rfl rfl (fun _ => rfl) ?_
                simp only [Nat.reduceAdd, Act.put, Xa, Xz, Xs]
                refine ws_nil [] trivial (by simp) ?_
                intro ps59
                simp only [fin, List.foldl_nil, List.map, List.nil_append]
                refine we_then ?_
                refine wc_true rfl ?_
                refine wc_region ?_
                refine wl_val (.int .i64 1) rfl (fun _ => rfl) ?_
                simp only [Act.put, Xa, Xz, Xs]
                refine wl_val (.pointer (some ⟨g5, 5, none⟩)) rfl (fun _ => by go_simp) ?_
                simp only [Act.put, Xa, Xz, Xs]
                refine wl_val (.pointer (some ⟨g5, 6, none⟩)) rfl (fun _ => by go_simp) ?_
                simp only [Act.put, Xa, Xz, Xs]
                refine wl_store_cell 3 3 (.tmp 139) (.const (.int .i64 1)) (.int .i64 (-1)) (.int .i64 1) rfl rfl rfl rfl rfl rfl (by kernel_rfl) rfl ?_
                simp only [Act.put, List.set_cons_zero, List.set_cons_succ]
                refine wl_nil ?_
                refine we_in ?_
                refine we_then ?_
                refine wc_region ?_
                refine wl_val (.int .i64 1) rfl (fun _ => rfl) ?_
                simp only [Act.put, Xa, Xz, Xs]
                refine wl_val (.int .i64 2) rfl (fun w => run_nat (X := 1) (Y := 1) (Z := 2) rfl rfl rfl rfl (by omega) w) ?_
                simp only [Act.put, Xa, Xz, Xs]
                refine wl_val (.int .i64 2) rfl (fun _ => rfl) ?_
                simp only [Act.put, Xa, Xz, Xs]
                refine wl_nil ?_
                refine we_round ?_
                refine wr_round ?_
                refine wc_seq ?_
                refine wc_seq ?_
                refine wc_region ?_
                refine wl_val (.int .i64 2) rfl (fun _ => rfl) ?_
                simp only [Act.put, Xa, Xz, Xs]
                refine wl_val (.bool false) rfl (fun w => run_cmp rfl rfl rfl Try.underlying3 rfl w) ?_
                simp only [Act.put, Xa, Xz, Xs]
                refine wl_val (.bool false) rfl (fun _ => rfl) ?_
                simp only [Act.put, Xa, Xz, Xs]
                refine wl_skip rfl ?_
                simp only [Act.put, Xa, Xz, Xs]
                refine wl_val (.bool false) rfl (fun _ => rfl) ?_
                simp only [Act.put, Xa, Xz, Xs]
                refine wl_val (.bool false) rfl (fun _ => rfl) ?_
                simp only [Act.put, Xa, Xz, Xs]
                refine wl_skip rfl ?_
                simp only [Act.put, Xa, Xz, Xs]
                refine wl_skip rfl ?_
                simp only [Act.put, Xa, Xz, Xs]
                refine wl_val (.bool false) rfl (fun _ => rfl) ?_
                simp only [Act.put, Xa, Xz, Xs]
                refine wl_nil ?_
                refine we_then ?_
                refine wc_false rfl ?_
                refine wc_exit ?_
                refine we_then_exit ?_
                refine we_then_exit ?_
                refine we_in_here ?_
                refine we_then ?_
                refine wc_seq ?_
                refine wc_region ?_
                refine wl_load 39 (.tmp 7) (own_row 3 rfl) rfl rfl rfl Try.underlying39 rfl (by kernel_rfl) ?_
                simp only [Act.put, Xa, Xz, Xs]
                refine wl_store 4 39 (.tmp 6) (.tmp 140) (#[.int .i64 u2, .int .i64 v2, .int .i64 (m2 : Int), .int .i64 cl, .int .i64 c2, .int .i64 0, .int .i64 1]) rfl rfl rfl rfl rfl (by kernel_rfl) rfl (by simp [Value.oneCell']) ?_
                simp only [Act.put, List.set_cons_zero, List.set_cons_succ]
                refine wl_nil ?_
                refine we_then ?_
                refine wc_ret ?_
                refine we_ret_cell (own_row 4 rfl) rfl rfl rfl Try.underlying39 rfl (by kernel_rfl) (fun w1 hE => ?_)
                have e4 : slips x y z x = 0 := by rw [slips_of (hs1.symm.trans h26) (hg1.symm.trans h27) (hs2 h26), hx]; (try dsimp only); split <;> (try split) <;> omega
                have e5 : slips x y z y = 1 := by rw [slips_of (hs1.symm.trans h26) (hg1.symm.trans h27) (hs2 h26), hy]; (try dsimp only); split <;> (try split) <;> omega
                exact ⟨by rw [← e1, ← e2, ← e3, e4, e5, ← hcl, ← hm2], hE.below⟩
              ·
               skip
               have p56 : ((a + b) / 2) < 0 := of_decide_eq_true h56
               refine ws_skip_late rfl rfl ?_
               simp only [Nat.reduceAdd, Act.put, Xa, Xz, Xs]
               refine ws_skip rfl rfl ?_
               simp only [Nat.reduceAdd, Act.put, Xa, Xz, Xs]
               refine ws_skip rfl rfl ?_
               simp only [Nat.reduceAdd, Act.put, Xa, Xz, Xs]
               refine ws_skip rfl rfl ?_
               simp only [Nat.reduceAdd, Act.put, Xa, Xz, Xs]
               refine ws_skip_late rfl rfl ?_
               simp only [Nat.reduceAdd, Act.put, Xa, Xz, Xs]
               refine ws_skip rfl rfl ?_
               simp only [Nat.reduceAdd, Act.put, Xa, Xz, Xs]
               refine ws_skip_late rfl rfl ?_
               simp only [Nat.reduceAdd, Act.put, Xa, Xz, Xs]
               refine ws_late (.bool false) rfl rfl (fun _ => rfl) ?_
               simp only [Nat.reduceAdd, Act.put, Xa, Xz, Xs]
               refine ws_late (.bool false) rfl rfl (fun _ => rfl) ?_
               simp only [Nat.reduceAdd, Act.put, Xa, Xz, Xs]
               refine ws_late (.bool true) rfl rfl (fun _ => rfl) ?_
               simp only [Nat.reduceAdd, Act.put, Xa, Xz, Xs]
               refine ws_late (.bool true) rfl rfl (fun _ => rfl) ?_
               simp only [Nat.reduceAdd, Act.put, Xa, Xz, Xs]
               refine ws_late (.int .i64 1) rfl rfl (fun _ => rfl) ?_
               simp only [Nat.reduceAdd, Act.put, Xa, Xz, Xs]
               refine ws_val (.pointer (some ⟨g2, 2, none⟩)) rfl rfl (fun _ => by go_simp) ?_
               simp only [Nat.reduceAdd, Act.put, Xa, Xz, Xs]
               refine ws_val (.pointer (some ⟨g2, 3, none⟩)) rfl rfl (fun _ => by go_simp) ?_
               simp only [Nat.reduceAdd, Act.put, Xa, Xz, Xs]
               refine ws_cell 2 (.tmp 130) (.int .i64 b1) (own_row 6 rfl) rfl rfl rfl rfl rfl Try.isAgg2 ?_
               simp only [Nat.reduceAdd, Act.put, Xa, Xz, Xs]
               refine ws_late (.pointer (some ⟨g15, 0, none⟩)) rfl rfl (fun _ => by go_simp) ?_
               simp only [Nat.reduceAdd, Act.put, Xa, Xz, Xs]
               refine ws_cell 2 (.tmp 132) (.int .i64 a) (own_row 2 rfl) rfl rfl rfl rfl rfl Try.isAgg2 ?_
               simp only [Nat.reduceAdd, Act.put, Xa, Xz, Xs]
               refine ws_late (.bool (decide (b1 < a))) rfl rfl (fun w => run_cmp rfl rfl rfl Try.underlying2 rfl w) ?_
               simp only [Nat.reduceAdd, Act.put, Xa, Xz, Xs]
               refine ws_late (.bool (decide (b1 < a))) rfl rfl (fun _ => rfl) ?_
               simp only [Nat.reduceAdd, Act.put, Xa, Xz, Xs]
               refine ws_late (.bool (decide (b1 < a))) rfl rfl (fun _ => rfl) ?_
               simp only [Nat.reduceAdd, Act.put, Xa, Xz, Xs]
               refine ws_nil [] trivial (by simp) ?_
               intro ps60
               simp only [fin, List.foldl_nil, List.map, List.nil_append]
               refine we_then ?_
               cases h61 : (decide (b1 < a))
               ·
                skip
                have p61 : ¬ (b1 < a) := of_decide_eq_false h61
                refine wc_false rfl ?_
                refine wc_skip ?_
                refine we_in ?_
                refine we_then ?_
                refine wc_region ?_
                refine wl_val (.int .i64 1) rfl (fun _ => rfl) ?_
                simp only [Act.put, Xa, Xz, Xs]
                refine wl_val (.int .i64 2) rfl (fun w => run_nat (X := 1) (Y := 1) (Z := 2) rfl rfl rfl rfl (by omega) w) ?_
                simp only [Act.put, Xa, Xz, Xs]
                refine wl_val (.int .i64 2) rfl (fun _ => rfl) ?_
                simp only [Act.put, Xa, Xz, Xs]
                refine wl_nil ?_
                refine we_round ?_
                refine wr_round ?_
                refine wc_seq ?_
                refine wc_seq ?_
                refine wc_region ?_
                refine wl_val (.int .i64 2) rfl (fun _ => rfl) ?_
                simp only [Act.put, Xa, Xz, Xs]
                refine wl_val (.bool false) rfl (fun w => run_cmp rfl rfl rfl Try.underlying3 rfl w) ?_
                simp only [Act.put, Xa, Xz, Xs]
                refine wl_val (.bool false) rfl (fun _ => rfl) ?_
                simp only [Act.put, Xa, Xz, Xs]
                refine wl_skip rfl ?_
                simp only [Act.put, Xa, Xz, Xs]
                refine wl_val (.bool false) rfl (fun _ => rfl) ?_
                simp only [Act.put, Xa, Xz, Xs]
                refine wl_val (.bool false) rfl (fun _ => rfl) ?_
                simp only [Act.put, Xa, Xz, Xs]
                refine wl_skip rfl ?_
                simp only [Act.put, Xa, Xz, Xs]
                refine wl_skip rfl ?_
                simp only [Act.put, Xa, Xz, Xs]
                refine wl_val (.bool false) rfl (fun _ => rfl) ?_
                simp only [Act.put, Xa, Xz, Xs]
                refine wl_nil ?_
                refine we_then ?_
                refine wc_false rfl ?_
                refine wc_exit ?_
                refine we_then_exit ?_
                refine we_then_exit ?_
                refine we_in_here ?_
                refine we_then ?_
                refine wc_seq ?_
                refine wc_region ?_
                refine wl_load 39 (.tmp 7) (own_row 3 rfl) rfl rfl rfl Try.underlying39 rfl (by kernel_rfl) ?_
                simp only [Act.put, Xa, Xz, Xs]
                refine wl_store 4 39 (.tmp 6) (.tmp 140) (#[.int .i64 u2, .int .i64 v2, .int .i64 (m2 : Int), .int .i64 cl, .int .i64 c2, .int .i64 0, .int .i64 (-1)]) rfl rfl rfl rfl rfl (by kernel_rfl) rfl (by simp [Value.oneCell']) ?_
                simp only [Act.put, List.set_cons_zero, List.set_cons_succ]
                refine wl_nil ?_
                refine we_then ?_
                refine wc_ret ?_
                refine we_ret_cell (own_row 4 rfl) rfl rfl rfl Try.underlying39 rfl (by kernel_rfl) (fun w1 hE => ?_)
                have e4 : slips x y z x = 0 := by rw [slips_of (hs1.symm.trans h26) (hg1.symm.trans h27) (hs2 h26), hx]; (try dsimp only); split <;> (try split) <;> omega
                have e5 : slips x y z y = -1 := by rw [slips_of (hs1.symm.trans h26) (hg1.symm.trans h27) (hs2 h26), hy]; (try dsimp only); split <;> (try split) <;> omega
                exact ⟨by rw [← e1, ← e2, ← e3, e4, e5, ← hcl, ← hm2], hE.below⟩
               ·
                skip
                have p61 : b1 < a := of_decide_eq_true h61
                refine wc_true rfl ?_
                refine wc_region ?_
                refine wl_val (.int .i64 1) rfl (fun _ => rfl) ?_
                simp only [Act.put, Xa, Xz, Xs]
                refine wl_val (.pointer (some ⟨g5, 5, none⟩)) rfl (fun _ => by go_simp) ?_
                simp only [Act.put, Xa, Xz, Xs]
                refine wl_val (.pointer (some ⟨g5, 6, none⟩)) rfl (fun _ => by go_simp) ?_
                simp only [Act.put, Xa, Xz, Xs]
                refine wl_store_cell 3 3 (.tmp 139) (.const (.int .i64 1)) (.int .i64 (-1)) (.int .i64 1) rfl rfl rfl rfl rfl rfl (by kernel_rfl) rfl ?_
                simp only [Act.put, List.set_cons_zero, List.set_cons_succ]
                refine wl_nil ?_
                refine we_in ?_
                refine we_then ?_
                refine wc_region ?_
                refine wl_val (.int .i64 1) rfl (fun _ => rfl) ?_
                simp only [Act.put, Xa, Xz, Xs]
                refine wl_val (.int .i64 2) rfl (fun w => run_nat (X := 1) (Y := 1) (Z := 2) rfl rfl rfl rfl (by omega) w) ?_
                simp only [Act.put, Xa, Xz, Xs]
                refine wl_val (.int .i64 2) rfl (fun _ => rfl) ?_
                simp only [Act.put, Xa, Xz, Xs]
                refine wl_nil ?_
                refine we_round ?_
                refine wr_round ?_
                refine wc_seq ?_
                refine wc_seq ?_
                refine wc_region ?_
                refine wl_val (.int .i64 2) rfl (fun _ => rfl) ?_
                simp only [Act.put, Xa, Xz, Xs]
                refine wl_val (.bool false) rfl (fun w => run_cmp rfl rfl rfl Try.underlying3 rfl w) ?_
                simp only [Act.put, Xa, Xz, Xs]
                refine wl_val (.bool false) rfl (fun _ => rfl) ?_
                simp only [Act.put, Xa, Xz, Xs]
                refine wl_skip rfl ?_
                simp only [Act.put, Xa, Xz, Xs]
                refine wl_val (.bool false) rfl (fun _ => rfl) ?_
                simp only [Act.put, Xa, Xz, Xs]
                refine wl_val (.bool false) rfl (fun _ => rfl) ?_
                simp only [Act.put, Xa, Xz, Xs]
                refine wl_skip rfl ?_
                simp only [Act.put, Xa, Xz, Xs]
                refine wl_skip rfl ?_
                simp only [Act.put, Xa, Xz, Xs]
                refine wl_val (.bool false) rfl (fun _ => rfl) ?_
                simp only [Act.put, Xa, Xz, Xs]
                refine wl_nil ?_
                refine we_then ?_
                refine wc_false rfl ?_
                refine wc_exit ?_
                refine we_then_exit ?_
                refine we_then_exit ?_
                refine we_in_here ?_
                refine we_then ?_
                refine wc_seq ?_
                refine wc_region ?_
                refine wl_load 39 (.tmp 7) (own_row 3 rfl) rfl rfl rfl Try.underlying39 rfl (by kernel_rfl) ?_
                simp only [Act.put, Xa, Xz, Xs]
                refine wl_store 4 39 (.tmp 6) (.tmp 140) (#[.int .i64 u2, .int .i64 v2, .int .i64 (m2 : Int), .int .i64 cl, .int .i64 c2, .int .i64 0, .int .i64 1]) rfl rfl rfl rfl rfl (by kernel_rfl) rfl (by simp [Value.oneCell']) ?_
                simp only [Act.put, List.set_cons_zero, List.set_cons_succ]
                refine wl_nil ?_
                refine we_then ?_
                refine wc_ret ?_
                refine we_ret_cell (own_row 4 rfl) rfl rfl rfl Try.underlying39 rfl (by kernel_rfl) (fun w1 hE => ?_)
                have e4 : slips x y z x = 0 := by rw [slips_of (hs1.symm.trans h26) (hg1.symm.trans h27) (hs2 h26), hx]; (try dsimp only); split <;> (try split) <;> omega
                have e5 : slips x y z y = 1 := by rw [slips_of (hs1.symm.trans h26) (hg1.symm.trans h27) (hs2 h26), hy]; (try dsimp only); split <;> (try split) <;> omega
                exact ⟨by rw [← e1, ← e2, ← e3, e4, e5, ← hcl, ← hm2], hE.below⟩
             ·
              skip
              have p55 : max a1 a ≤ min b1 b := of_decide_eq_true h55
              refine wc_true rfl ?_
              refine wc_exit ?_
              refine we_then_exit ?_
              refine we_in_here ?_
              refine we_then ?_
              refine wc_region ?_
              refine wl_val (.int .i64 1) rfl (fun _ => rfl) ?_
              simp only [Act.put, Xa, Xz, Xs]
              refine wl_val (.int .i64 2) rfl (fun w => run_nat (X := 1) (Y := 1) (Z := 2) rfl rfl rfl rfl (by omega) w) ?_
              simp only [Act.put, Xa, Xz, Xs]
              refine wl_val (.int .i64 2) rfl (fun _ => rfl) ?_
              simp only [Act.put, Xa, Xz, Xs]
              refine wl_nil ?_
              refine we_round ?_
              refine wr_round ?_
              refine wc_seq ?_
              refine wc_seq ?_
              refine wc_region ?_
              refine wl_val (.int .i64 2) rfl (fun _ => rfl) ?_
              simp only [Act.put, Xa, Xz, Xs]
              refine wl_val (.bool false) rfl (fun w => run_cmp rfl rfl rfl Try.underlying3 rfl w) ?_
              simp only [Act.put, Xa, Xz, Xs]
              refine wl_val (.bool false) rfl (fun _ => rfl) ?_
              simp only [Act.put, Xa, Xz, Xs]
              refine wl_skip rfl ?_
              simp only [Act.put, Xa, Xz, Xs]
              refine wl_val (.bool false) rfl (fun _ => rfl) ?_
              simp only [Act.put, Xa, Xz, Xs]
              refine wl_val (.bool false) rfl (fun _ => rfl) ?_
              simp only [Act.put, Xa, Xz, Xs]
              refine wl_skip rfl ?_
              simp only [Act.put, Xa, Xz, Xs]
              refine wl_skip rfl ?_
              simp only [Act.put, Xa, Xz, Xs]
              refine wl_val (.bool false) rfl (fun _ => rfl) ?_
              simp only [Act.put, Xa, Xz, Xs]
              refine wl_nil ?_
              refine we_then ?_
              refine wc_false rfl ?_
              refine wc_exit ?_
              refine we_then_exit ?_
              refine we_then_exit ?_
              refine we_in_here ?_
              refine we_then ?_
              refine wc_seq ?_
              refine wc_region ?_
              refine wl_load 39 (.tmp 7) (own_row 3 rfl) rfl rfl rfl Try.underlying39 rfl (by kernel_rfl) ?_
              simp only [Act.put, Xa, Xz, Xs]
              refine wl_store 4 39 (.tmp 6) (.tmp 140) (#[.int .i64 u2, .int .i64 v2, .int .i64 (m2 : Int), .int .i64 cl, .int .i64 c2, .int .i64 0, .int .i64 0]) rfl rfl rfl rfl rfl (by kernel_rfl) rfl (by simp [Value.oneCell']) ?_
              simp only [Act.put, List.set_cons_zero, List.set_cons_succ]
              refine wl_nil ?_
              refine we_then ?_
              refine wc_ret ?_
              refine we_ret_cell (own_row 4 rfl) rfl rfl rfl Try.underlying39 rfl (by kernel_rfl) (fun w1 hE => ?_)
              have e4 : slips x y z x = 0 := by rw [slips_of (hs1.symm.trans h26) (hg1.symm.trans h27) (hs2 h26), hx]; (try dsimp only); split <;> (try split) <;> omega
              have e5 : slips x y z y = 0 := by rw [slips_of (hs1.symm.trans h26) (hg1.symm.trans h27) (hs2 h26), hy]; (try dsimp only); split <;> (try split) <;> omega
              exact ⟨by rw [← e1, ← e2, ← e3, e4, e5, ← hcl, ← hm2], hE.below⟩
           ·
            skip
            refine wc_false rfl ?_
            refine wc_exit ?_
            refine we_then_exit ?_
            refine we_then_exit ?_
            refine we_in_here ?_
            refine we_then ?_
            refine wc_seq ?_
            refine wc_region ?_
            refine wl_load 39 (.tmp 7) (own_row 1 rfl) rfl rfl rfl Try.underlying39 rfl (by kernel_rfl) ?_
            simp only [Act.put, Xa, Xz, Xs]
            refine wl_store 2 39 (.tmp 6) (.tmp 140) (#[.int .i64 u2, .int .i64 v2, .int .i64 (m2 : Int), .int .i64 cl, .int .i64 c2, .int .i64 0, .int .i64 0]) rfl rfl rfl rfl rfl (by kernel_rfl) rfl (by simp [Value.oneCell']) ?_
            simp only [Act.put, List.set_cons_zero, List.set_cons_succ]
            refine wl_nil ?_
            refine we_then ?_
            refine wc_ret ?_
            refine we_ret_cell (own_row 2 rfl) rfl rfl rfl Try.underlying39 rfl (by kernel_rfl) (fun w1 hE => ?_)
            have e4 : slips x y z x = 0 := slips_no (.inr (hg1.symm.trans h27))
            have e5 : slips x y z y = 0 := slips_no (.inr (hg1.symm.trans h27))
            exact ⟨by rw [← e1, ← e2, ← e3, e4, e5, ← hcl, ← hm2], hE.below⟩
end Go.Proofs.Ytlfienfjdjfcoaa.Fzrf
