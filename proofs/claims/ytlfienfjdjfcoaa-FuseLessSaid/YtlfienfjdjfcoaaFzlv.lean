/-
  The laws of layer 17: their helpers. No condition.
-/
import Derived.Test.YtlfienfjdjfcoaaFzlu
import Derived.Test.YtlfienfjdjfcoaaSmu
import Derived.Test.YtlfienfjdjfcoaaSpo
namespace Go.Proofs.Ytlfienfjdjfcoaa.Fzlw
open Go.ChangeShapes Go.WideShapes Go.ChangeAt Go.RowKit
open Arr Steady Sx Sw Sl Sb Sc Si Sj Sk Sh Sfn Smu Vs Fzm
set_option linter.unusedVariables false
set_option linter.unusedSimpArgs false
set_option maxRecDepth 100000

set_option maxHeartbeats 8000000 in
theorem given_1 (x y z t : Sr) (w : World) (hx : x.f = true) :
  Calls Try.prog 10 #[.agg #[.bool x.f, .int .i64 x.lo, .int .i64 x.hi, .bool y.f, .int .i64 y.lo, .int .i64 y.hi, .bool z.f, .int .i64 z.lo, .int .i64 z.hi], .agg #[.bool t.f, .int .i64 t.lo, .int .i64 t.hi]] w fun e w' => e = .returned (givV x y z t) ∧ Below w.heap.size w w' := by
 refine calls_sx Try.func10 rfl ?_
 simp only [Try.ntmps10, List.size_toArray, List.length_cons, List.length_nil, Nat.reduceAdd, Nat.reduceSub, Array.replicate_succ, Array.replicate_zero, List.push_toArray, List.append_toArray, List.nil_append, List.cons_append]
 refine wc_seq ?_
 refine wc_region ?_
 refine wl_new 26 (#[.bool x.f, .int .i64 x.lo, .int .i64 x.hi, .bool y.f, .int .i64 y.lo, .int .i64 y.hi, .bool z.f, .int .i64 z.lo, .int .i64 z.hi]) rfl (fun _ => by go_simp) ?_
 intro g1
 simp only [Act.put, Xa, Xz, Xs]
 refine wl_new 25 (#[.bool t.f, .int .i64 t.lo, .int .i64 t.hi]) rfl (fun _ => by go_simp) ?_
 intro g2
 simp only [Act.put, Xa, Xz, Xs]
 refine wl_new 29 (#[.int .i64 0, .int .i64 0, .int .i64 0, .int .i64 0, .int .i64 0, .int .i64 0, .int .i64 0, .int .i64 0]) rfl (fun _ => by go_simp) ?_
 intro g3
 simp only [Act.put, Xa, Xz, Xs]
 refine wl_new 30 (#[.int .i64 0, .int .i64 0, .int .i64 0, .int .i64 0]) rfl (fun _ => by go_simp) ?_
 intro g4
 simp only [Act.put, Xa, Xz, Xs]
 refine wl_val (.bool false) rfl (fun _ => rfl) ?_
 simp only [Act.put, Xa, Xz, Xs]
 refine wl_nil ?_
 refine we_then ?_
 refine wc_seq ?_
 refine wc_region ?_
 refine wl_new 29 (#[.int .i64 0, .int .i64 0, .int .i64 0, .int .i64 0, .int .i64 0, .int .i64 0, .int .i64 0, .int .i64 0]) rfl (fun _ => by go_simp) ?_
 intro g5
 simp only [Act.put, Xa, Xz, Xs]
 refine wl_nil ?_
 refine we_then ?_
 refine wc_seq ?_
 refine wc_region ?_
 refine wl_new 30 (#[.int .i64 0, .int .i64 0, .int .i64 0, .int .i64 0]) rfl (fun _ => by go_simp) ?_
 intro g6
 simp only [Act.put, Xa, Xz, Xs]
 refine wl_nil ?_
 refine we_then ?_
 refine wc_seq ?_
 refine wc_seq ?_
 refine wc_region ?_
 refine wl_val (.pointer (some ⟨g1, 0, none⟩)) rfl (fun _ => by go_simp) ?_
 simp only [Act.put, Xa, Xz, Xs]
 refine wl_part 25 (.tmp 11) [.bool x.f, .int .i64 x.lo, .int .i64 x.hi] (own_row 5 rfl) rfl rfl rfl rfl Try.underlying25 rfl (by kernel_rfl) ?_
 simp only [Act.put, Xa, Xz, Xs]
 refine wl_val (.pointer (some ⟨g1, 3, none⟩)) rfl (fun _ => by go_simp) ?_
 simp only [Act.put, Xa, Xz, Xs]
 refine wl_part 25 (.tmp 13) [.bool y.f, .int .i64 y.lo, .int .i64 y.hi] (own_row 5 rfl) rfl rfl rfl rfl Try.underlying25 rfl (by kernel_rfl) ?_
 simp only [Act.put, Xa, Xz, Xs]
 refine wl_val (.pointer (some ⟨g1, 6, none⟩)) rfl (fun _ => by go_simp) ?_
 simp only [Act.put, Xa, Xz, Xs]
 refine wl_part 25 (.tmp 15) [.bool z.f, .int .i64 z.lo, .int .i64 z.hi] (own_row 5 rfl) rfl rfl rfl rfl Try.underlying25 rfl (by kernel_rfl) ?_
 simp only [Act.put, Xa, Xz, Xs]
 refine wl_load 25 (.tmp 3) (own_row 4 rfl) rfl rfl rfl Try.underlying25 rfl (by kernel_rfl) ?_
 simp only [Act.put, Xa, Xz, Xs]
 refine wl_val (.agg #[.bool x.f, .int .i64 x.lo, .int .i64 x.hi, .bool y.f, .int .i64 y.lo, .int .i64 y.hi, .bool z.f, .int .i64 z.lo, .int .i64 z.hi, .bool t.f, .int .i64 t.lo, .int .i64 t.hi]) rfl (fun _ => by go_simp) ?_
 simp only [Act.put, Xa, Xz, Xs]
 refine wl_val (.int .i64 0) rfl (fun _ => rfl) ?_
 simp only [Act.put, Xa, Xz, Xs]
 refine wl_nil ?_
 refine we_then ?_
 refine wc_block ?_
 refine wr_start 5 ?_
 refine wr_round ?_
 refine wc_seq ?_
 refine wc_region ?_
 refine wl_val (.bool true) rfl (fun w => run_cmp rfl rfl rfl Try.underlying3 rfl w) ?_
 simp only [Act.put, Xa, Xz, Xs]
 refine wl_nil ?_
 refine we_then ?_
 refine wc_seq ?_
 refine wc_true rfl ?_
 refine wc_skip ?_
 refine we_then ?_
 refine wc_seq ?_
 refine wc_block ?_
 refine wc_seq ?_
 refine wc_region ?_
 refine wl_val (.int .i64 0) rfl (fun _ => rfl) ?_
 simp only [Act.put, Xa, Xz, Xs]
 refine wl_val (.agg #[.bool x.f, .int .i64 x.lo, .int .i64 x.hi]) rfl (fun w => run_index_row (k := 0) (z := 3) (ps := #[.bool x.f, .int .i64 x.lo, .int .i64 x.hi]) rfl rfl rfl rfl (by decide) Try.underlying47 Try.underlying25 rfl (by kernel_rfl) (by simp) w) ?_
 simp only [Act.put, Xa, Xz, Xs]
 refine wl_new 25 (#[.bool false, .int .i64 0, .int .i64 0]) rfl (fun _ => by go_simp) ?_
 intro g7
 simp only [Act.put, Xa, Xz, Xs]
 refine wl_val (.int .i64 0) rfl (fun _ => rfl) ?_
 simp only [Act.put, Xa, Xz, Xs]
 refine wl_store 0 25 (.tmp 10) (.tmp 22) (#[.bool x.f, .int .i64 x.lo, .int .i64 x.hi]) rfl rfl rfl rfl rfl (by kernel_rfl) rfl (by simp [Value.oneCell']) ?_
 simp only [Act.put, List.set_cons_zero]
 refine wl_nil ?_
 refine we_then ?_
 refine wc_seq ?_
 refine wc_region ?_
 refine wl_val (.int .i64 0) rfl (fun _ => rfl) ?_
 simp only [Act.put, Xa, Xz, Xs]
 refine wl_val (.pointer (some ⟨g7, 1, none⟩)) rfl (fun _ => by go_simp) ?_
 simp only [Act.put, Xa, Xz, Xs]
 refine wl_val (.pointer (some ⟨g7, 1, none⟩)) rfl (fun _ => by go_simp) ?_
 simp only [Act.put, Xa, Xz, Xs]
 refine wl_cell 2 (.tmp 25) (.int .i64 x.lo) (own_row 0 rfl) rfl rfl rfl rfl Try.isAgg2 ?_
 simp only [Act.put, Xa, Xz, Xs]
 refine wl_val (.pointer (some ⟨g7, 1, none⟩)) rfl (fun _ => by go_simp) ?_
 simp only [Act.put, Xa, Xz, Xs]
 refine wl_val (.pointer (some ⟨g7, 2, none⟩)) rfl (fun _ => by go_simp) ?_
 simp only [Act.put, Xa, Xz, Xs]
 refine wl_cell 2 (.tmp 28) (.int .i64 x.hi) (own_row 0 rfl) rfl rfl rfl rfl Try.isAgg2 ?_
 simp only [Act.put, Xa, Xz, Xs]
 refine wl_val (.agg #[.int .i64 x.lo, .int .i64 x.hi]) rfl (fun _ => by go_simp) ?_
 simp only [Act.put, Xa, Xz, Xs]
 refine wl_val (.pointer (some ⟨g5, 0, none⟩)) rfl (fun _ => by go_simp) ?_
 simp only [Act.put, Xa, Xz, Xs]
 refine wl_store_part 2 28 (.tmp 31) (.tmp 30) [.int .i64 x.lo, .int .i64 x.hi] rfl rfl rfl rfl rfl (by kernel_rfl) (Nat.le_of_ble_eq_true rfl) (by simp [Value.oneCell']) ?_
 simp only [putAt, Nat.reduceAdd, Act.put, List.set_cons_zero, List.set_cons_succ]
 refine wl_nil ?_
 refine we_then ?_
 refine wc_seq ?_
 refine wc_region ?_
 refine wl_val (.pointer (some ⟨g7, 0, none⟩)) rfl (fun _ => by go_simp) ?_
 simp only [Act.put, Xa, Xz, Xs]
 refine wl_cell 4 (.tmp 32) (.bool x.f) (own_row 0 rfl) rfl rfl rfl rfl Try.isAgg4 ?_
 simp only [Act.put, Xa, Xz, Xs]
 refine wl_nil ?_
 refine we_then ?_
 cases h8 : (x.f)
 ·
  skip
  rw [hx] at h8; cases h8
 ·
  skip
  refine wc_true rfl ?_
  refine wc_seq ?_
  refine wc_region ?_
  refine wl_val (.int .i64 0) rfl (fun _ => rfl) ?_
  simp only [Act.put, Xa, Xz, Xs]
  refine wl_val (.pointer (some ⟨g6, 0, none⟩)) rfl (fun _ => by go_simp) ?_
  simp only [Act.put, Xa, Xz, Xs]
  refine wl_store_cell 1 3 (.tmp 35) (.const (.int .i64 1)) (.int .i64 0) (.int .i64 1) rfl rfl rfl rfl rfl rfl (by kernel_rfl) rfl ?_
  simp only [Act.put, List.set_cons_zero, List.set_cons_succ]
  refine wl_nil ?_
  refine we_then ?_
  refine wc_seq ?_
  refine wc_region ?_
  refine wl_val (.pointer (some ⟨g7, 1, none⟩)) rfl (fun _ => by go_simp) ?_
  simp only [Act.put, Xa, Xz, Xs]
  refine wl_part 23 (.tmp 36) [.int .i64 x.lo, .int .i64 x.hi] (own_row 0 rfl) rfl rfl rfl rfl Try.underlying23 rfl (by kernel_rfl) ?_
  simp only [Act.put, Xa, Xz, Xs]
  refine wl_call 11 #[.agg #[.int .i64 x.lo, .int .i64 x.hi]] (.bool (mayF x.lo x.hi)) rfl (fun _ => by go_simp) (fun W => may_any x.lo x.hi W) ?_
  simp only [Act.put, Xa, Xz, Xs]
  refine wl_val (.bool (!(mayF x.lo x.hi))) rfl (fun _ => by go_simp) ?_
  simp only [Act.put, Xa, Xz, Xs]
  refine wl_nil ?_
  refine we_then ?_
  cases h9 : (mayF x.lo x.hi)
  ·
   skip
   refine wc_true rfl ?_
   refine wc_seq ?_
   refine wc_draw_fin (Γ := Unit) (fun _ j9 => ([.agg #[.int .i64 x.lo, .int .i64 x.hi, .int .i64 0, .int .i64 0, .int .i64 0, .int .i64 0, .int .i64 0, .int .i64 0], .agg #[.int .i64 1, .int .i64 0, .int .i64 0, .int .i64 0], undef, undef, .bool false]).getD j9 undef) (fun ld _ => ⟨g7, #[.bool true, .int .i64 x.lo, .int .i64 x.hi], 25⟩ :: ⟨g6, #[.int .i64 1, .int .i64 0, .int .i64 0, .int .i64 0], 30⟩ :: ⟨g5, #[.int .i64 x.lo, .int .i64 x.hi, .int .i64 0, .int .i64 0, .int .i64 0, .int .i64 0, .int .i64 0, .int .i64 0], 29⟩ :: ⟨g4, if ld 3 = true then #[.int .i64 1, .int .i64 0, .int .i64 0, .int .i64 0] else #[.int .i64 0, .int .i64 0, .int .i64 0, .int .i64 0], 30⟩ :: ⟨g3, if ld 2 = true then #[.int .i64 x.lo, .int .i64 x.hi, .int .i64 0, .int .i64 0, .int .i64 0, .int .i64 0, .int .i64 0, .int .i64 0] else #[.int .i64 0, .int .i64 0, .int .i64 0, .int .i64 0, .int .i64 0, .int .i64 0, .int .i64 0, .int .i64 0], 29⟩ :: ⟨g2, #[.bool t.f, .int .i64 t.lo, .int .i64 t.hi], 25⟩ :: ⟨g1, #[.bool true, .int .i64 x.lo, .int .i64 x.hi, .bool y.f, .int .i64 y.lo, .int .i64 y.hi, .bool z.f, .int .i64 z.lo, .int .i64 z.hi], 26⟩ :: []) (fun _ _ => True) () 45 (fun _ => ({ tmps := #[.agg #[.bool true, .int .i64 x.lo, .int .i64 x.hi, .bool y.f, .int .i64 y.lo, .int .i64 y.hi, .bool z.f, .int .i64 z.lo, .int .i64 z.hi], .agg #[.bool t.f, .int .i64 t.lo, .int .i64 t.hi], .pointer (some ⟨g1, 0, none⟩), .pointer (some ⟨g2, 0, none⟩), .pointer (some ⟨g3, 0, none⟩), .pointer (some ⟨g4, 0, none⟩), .bool false, .pointer (some ⟨g5, 0, none⟩), .pointer (some ⟨g6, 0, none⟩), .int .i64 0, .pointer (some ⟨g7, 0, none⟩), .pointer (some ⟨g1, 0, none⟩), .agg #[.bool true, .int .i64 x.lo, .int .i64 x.hi], .pointer (some ⟨g1, 3, none⟩), .agg #[.bool y.f, .int .i64 y.lo, .int .i64 y.hi], .pointer (some ⟨g1, 6, none⟩), .agg #[.bool z.f, .int .i64 z.lo, .int .i64 z.hi], .agg #[.bool t.f, .int .i64 t.lo, .int .i64 t.hi], .agg #[.bool true, .int .i64 x.lo, .int .i64 x.hi, .bool y.f, .int .i64 y.lo, .int .i64 y.hi, .bool z.f, .int .i64 z.lo, .int .i64 z.hi, .bool t.f, .int .i64 t.lo, .int .i64 t.hi], .int .i64 0, .bool true, .int .i64 0, .agg #[.bool true, .int .i64 x.lo, .int .i64 x.hi], .int .i64 0, .pointer (some ⟨g7, 1, none⟩), .pointer (some ⟨g7, 1, none⟩), .int .i64 x.lo, .pointer (some ⟨g7, 1, none⟩), .pointer (some ⟨g7, 2, none⟩), .int .i64 x.hi, .agg #[.int .i64 x.lo, .int .i64 x.hi], .pointer (some ⟨g5, 0, none⟩), .pointer (some ⟨g7, 0, none⟩), .bool true, .int .i64 0, .pointer (some ⟨g6, 0, none⟩), .pointer (some ⟨g7, 1, none⟩), .agg #[.int .i64 x.lo, .int .i64 x.hi], .bool false, .bool true, .agg #[.int .i64 x.lo, .int .i64 x.hi, .int .i64 0, .int .i64 0, .int .i64 0, .int .i64 0, .int .i64 0, .int .i64 0], .agg #[.int .i64 1, .int .i64 0, .int .i64 0, .int .i64 0], undef, undef, undef], defers := [] } : Act)) (fun _ => [⟨g7, #[.bool true, .int .i64 x.lo, .int .i64 x.hi], 25⟩, ⟨g6, #[.int .i64 1, .int .i64 0, .int .i64 0, .int .i64 0], 30⟩, ⟨g5, #[.int .i64 x.lo, .int .i64 x.hi, .int .i64 0, .int .i64 0, .int .i64 0, .int .i64 0, .int .i64 0, .int .i64 0], 29⟩, ⟨g4, #[.int .i64 1, .int .i64 0, .int .i64 0, .int .i64 0], 30⟩, ⟨g3, #[.int .i64 x.lo, .int .i64 x.hi, .int .i64 0, .int .i64 0, .int .i64 0, .int .i64 0, .int .i64 0, .int .i64 0], 29⟩, ⟨g2, #[.bool t.f, .int .i64 t.lo, .int .i64 t.hi], 25⟩, ⟨g1, #[.bool true, .int .i64 x.lo, .int .i64 x.hi, .bool y.f, .int .i64 y.lo, .int .i64 y.hi, .bool z.f, .int .i64 z.lo, .int .i64 z.hi], 26⟩]) (by kernel_rfl) rfl (by kernel_rfl) rfl trivial (fun _ => by kernel_rfl) (fun _ => rfl) ?_ ?_
   ·
    skip
    refine sps_cons (sp_val (.agg #[.int .i64 x.lo, .int .i64 x.hi, .int .i64 0, .int .i64 0, .int .i64 0, .int .i64 0, .int .i64 0, .int .i64 0]) rfl (fun _ => rfl) (fun _ _ h => h) (fun _ _ => rfl) (fun ld γ9 a9 w9 h9 hE9 => load_row (hE9.rowAt (i := 2) rfl) rfl (h9.out (by kernel_rfl) rfl) Try.underlying29 rfl (by kernel_rfl))) ?_
    refine sps_cons (sp_val (.agg #[.int .i64 1, .int .i64 0, .int .i64 0, .int .i64 0]) rfl (fun _ => rfl) (fun _ _ h => h) (fun _ _ => rfl) (fun ld γ9 a9 w9 h9 hE9 => load_row (hE9.rowAt (i := 1) rfl) rfl (h9.out (by kernel_rfl) rfl) Try.underlying30 rfl (by kernel_rfl))) ?_
    refine sps_cons ⟨fun ld γ9 a9 w9 h9 _ hE9 K9 hK9 => h9.go rfl ?_⟩ ?_
    ·
     have l0 : ld 2 = false := h9.off
     have hE2 := hE9
     simp only [l0, Bool.false_eq_true, if_false] at hE2
     exact wp_store_row 29 _ _ rfl _ (#[.int .i64 x.lo, .int .i64 x.hi, .int .i64 0, .int .i64 0, .int .i64 0, .int .i64 0, .int .i64 0, .int .i64 0]) (h9.out (by kernel_rfl) rfl) (h9.tmp 0 rfl (h9.dep (by kernel_rfl))) _ _ (hE2.rowAt (i := 4) rfl) (by kernel_rfl) rfl (by simp [Value.oneCell']) (hK9 γ9 _ (fun _ _ => rfl) trivial (hE2.setRow (i := 4) rfl (#[.int .i64 x.lo, .int .i64 x.hi, .int .i64 0, .int .i64 0, .int .i64 0, .int .i64 0, .int .i64 0, .int .i64 0])))
    refine sps_cons ⟨fun ld γ9 a9 w9 h9 _ hE9 K9 hK9 => h9.go rfl ?_⟩ ?_
    ·
     have l0 : ld 3 = false := h9.off
     have hE2 := hE9
     simp only [l0, Bool.false_eq_true, if_false] at hE2
     exact wp_store_row 30 _ _ rfl _ (#[.int .i64 1, .int .i64 0, .int .i64 0, .int .i64 0]) (h9.out (by kernel_rfl) rfl) (h9.tmp 1 rfl (h9.dep (by kernel_rfl))) _ _ (hE2.rowAt (i := 3) rfl) (by kernel_rfl) rfl (by simp [Value.oneCell']) (hK9 γ9 _ (fun _ _ => rfl) trivial (hE2.setRow (i := 3) rfl (#[.int .i64 1, .int .i64 0, .int .i64 0, .int .i64 0])))
    refine sps_cons (sp_val (.bool false) rfl (fun _ => rfl) (fun _ _ h => h) (fun _ _ => rfl) (fun ld γ9 a9 w9 h9 hE9 => rfl)) ?_
    exact sps_nil
   rintro ⟨⟩ -
   (try dsimp only)
   refine we_then ?_
   refine wc_ret ?_
   refine we_in_ret ?_
   refine we_then_ret ?_
   refine we_then_ret ?_
   refine we_in_ret ?_
   refine we_then_ret ?_
   refine we_ret_cell2_tmp (.bool false) (own_row 4 rfl) (own_row 3 rfl) rfl rfl rfl rfl rfl Try.underlying29 rfl (by kernel_rfl) Try.underlying30 rfl (by kernel_rfl) (fun w1 hE => ?_)
   have b_x : badB x = true := by unfold badB; rw [h8, h9]; rfl
   exact ⟨by unfold givV; rw [if_pos b_x, h8]; rfl, hE.below⟩
  ·
   skip
   refine wc_false rfl ?_
   refine wc_skip ?_
   refine we_in ?_
   refine we_then ?_
   refine wc_region ?_
   refine wl_val (.int .i64 1) rfl (fun w => run_nat (X := 0) (Y := 1) (Z := 1) rfl rfl rfl rfl (by omega) w) ?_
   simp only [Act.put, Xa, Xz, Xs]
   refine wl_val (.int .i64 1) rfl (fun _ => rfl) ?_
   simp only [Act.put, Xa, Xz, Xs]
   refine wl_nil ?_
   refine we_round ?_
   refine wr_round ?_
   refine wc_seq ?_
   refine wc_region ?_
   refine wl_val (.bool true) rfl (fun w => run_cmp rfl rfl rfl Try.underlying3 rfl w) ?_
   simp only [Act.put, Xa, Xz, Xs]
   refine wl_nil ?_
   refine we_then ?_
   refine wc_seq ?_
   refine wc_true rfl ?_
   refine wc_skip ?_
   refine we_then ?_
   refine wc_seq ?_
   refine wc_block ?_
   refine wc_seq ?_
   refine wc_region ?_
   refine wl_val (.int .i64 1) rfl (fun _ => rfl) ?_
   simp only [Act.put, Xa, Xz, Xs]
   refine wl_val (.agg #[.bool y.f, .int .i64 y.lo, .int .i64 y.hi]) rfl (fun w => run_index_row (k := 1) (z := 3) (ps := #[.bool y.f, .int .i64 y.lo, .int .i64 y.hi]) rfl rfl rfl rfl (by decide) Try.underlying47 Try.underlying25 rfl (by kernel_rfl) (by simp) w) ?_
   simp only [Act.put, Xa, Xz, Xs]
   refine wl_new 25 (#[.bool false, .int .i64 0, .int .i64 0]) rfl (fun _ => by go_simp) ?_
   intro g10
   simp only [Act.put, Xa, Xz, Xs]
   refine wl_val (.int .i64 1) rfl (fun _ => rfl) ?_
   simp only [Act.put, Xa, Xz, Xs]
   refine wl_store 0 25 (.tmp 10) (.tmp 22) (#[.bool y.f, .int .i64 y.lo, .int .i64 y.hi]) rfl rfl rfl rfl rfl (by kernel_rfl) rfl (by simp [Value.oneCell']) ?_
   simp only [Act.put, List.set_cons_zero]
   refine wl_nil ?_
   refine we_then ?_
   refine wc_seq ?_
   refine wc_region ?_
   refine wl_val (.int .i64 1) rfl (fun _ => rfl) ?_
   simp only [Act.put, Xa, Xz, Xs]
   refine wl_val (.pointer (some ⟨g10, 1, none⟩)) rfl (fun _ => by go_simp) ?_
   simp only [Act.put, Xa, Xz, Xs]
   refine wl_val (.pointer (some ⟨g10, 1, none⟩)) rfl (fun _ => by go_simp) ?_
   simp only [Act.put, Xa, Xz, Xs]
   refine wl_cell 2 (.tmp 25) (.int .i64 y.lo) (own_row 0 rfl) rfl rfl rfl rfl Try.isAgg2 ?_
   simp only [Act.put, Xa, Xz, Xs]
   refine wl_val (.pointer (some ⟨g10, 1, none⟩)) rfl (fun _ => by go_simp) ?_
   simp only [Act.put, Xa, Xz, Xs]
   refine wl_val (.pointer (some ⟨g10, 2, none⟩)) rfl (fun _ => by go_simp) ?_
   simp only [Act.put, Xa, Xz, Xs]
   refine wl_cell 2 (.tmp 28) (.int .i64 y.hi) (own_row 0 rfl) rfl rfl rfl rfl Try.isAgg2 ?_
   simp only [Act.put, Xa, Xz, Xs]
   refine wl_val (.agg #[.int .i64 y.lo, .int .i64 y.hi]) rfl (fun _ => by go_simp) ?_
   simp only [Act.put, Xa, Xz, Xs]
   refine wl_val (.pointer (some ⟨g5, 2, none⟩)) rfl (fun _ => by go_simp) ?_
   simp only [Act.put, Xa, Xz, Xs]
   refine wl_store_part 3 28 (.tmp 31) (.tmp 30) [.int .i64 y.lo, .int .i64 y.hi] rfl rfl rfl rfl rfl (by kernel_rfl) (Nat.le_of_ble_eq_true rfl) (by simp [Value.oneCell']) ?_
   simp only [putAt, Nat.reduceAdd, Act.put, List.set_cons_zero, List.set_cons_succ]
   refine wl_nil ?_
   refine we_then ?_
   refine wc_seq ?_
   refine wc_region ?_
   refine wl_val (.pointer (some ⟨g10, 0, none⟩)) rfl (fun _ => by go_simp) ?_
   simp only [Act.put, Xa, Xz, Xs]
   refine wl_cell 4 (.tmp 32) (.bool y.f) (own_row 0 rfl) rfl rfl rfl rfl Try.isAgg4 ?_
   simp only [Act.put, Xa, Xz, Xs]
   refine wl_nil ?_
   refine we_then ?_
   cases h11 : (y.f)
   ·
    skip
    refine wc_false rfl ?_
    refine wc_skip ?_
    refine we_in ?_
    refine we_then ?_
    refine wc_region ?_
    refine wl_val (.int .i64 2) rfl (fun w => run_nat (X := 1) (Y := 1) (Z := 2) rfl rfl rfl rfl (by omega) w) ?_
    simp only [Act.put, Xa, Xz, Xs]
    refine wl_val (.int .i64 2) rfl (fun _ => rfl) ?_
    simp only [Act.put, Xa, Xz, Xs]
    refine wl_nil ?_
    refine we_round ?_
    refine wr_round ?_
    refine wc_seq ?_
    refine wc_region ?_
    refine wl_val (.bool true) rfl (fun w => run_cmp rfl rfl rfl Try.underlying3 rfl w) ?_
    simp only [Act.put, Xa, Xz, Xs]
    refine wl_nil ?_
    refine we_then ?_
    refine wc_seq ?_
    refine wc_true rfl ?_
    refine wc_skip ?_
    refine we_then ?_
    refine wc_seq ?_
    refine wc_block ?_
    refine wc_seq ?_
    refine wc_region ?_
    refine wl_val (.int .i64 2) rfl (fun _ => rfl) ?_
    simp only [Act.put, Xa, Xz, Xs]
    refine wl_val (.agg #[.bool z.f, .int .i64 z.lo, .int .i64 z.hi]) rfl (fun w => run_index_row (k := 2) (z := 3) (ps := #[.bool z.f, .int .i64 z.lo, .int .i64 z.hi]) rfl rfl rfl rfl (by decide) Try.underlying47 Try.underlying25 rfl (by kernel_rfl) (by simp) w) ?_
    simp only [Act.put, Xa, Xz, Xs]
    refine wl_new 25 (#[.bool false, .int .i64 0, .int .i64 0]) rfl (fun _ => by go_simp) ?_
    intro g12
    simp only [Act.put, Xa, Xz, Xs]
    refine wl_val (.int .i64 2) rfl (fun _ => rfl) ?_
    simp only [Act.put, Xa, Xz, Xs]
    refine wl_store 0 25 (.tmp 10) (.tmp 22) (#[.bool z.f, .int .i64 z.lo, .int .i64 z.hi]) rfl rfl rfl rfl rfl (by kernel_rfl) rfl (by simp [Value.oneCell']) ?_
    simp only [Act.put, List.set_cons_zero]
    refine wl_nil ?_
    refine we_then ?_
    refine wc_seq ?_
    refine wc_region ?_
    refine wl_val (.int .i64 2) rfl (fun _ => rfl) ?_
    simp only [Act.put, Xa, Xz, Xs]
    refine wl_val (.pointer (some ⟨g12, 1, none⟩)) rfl (fun _ => by go_simp) ?_
    simp only [Act.put, Xa, Xz, Xs]
    refine wl_val (.pointer (some ⟨g12, 1, none⟩)) rfl (fun _ => by go_simp) ?_
    simp only [Act.put, Xa, Xz, Xs]
    refine wl_cell 2 (.tmp 25) (.int .i64 z.lo) (own_row 0 rfl) rfl rfl rfl rfl Try.isAgg2 ?_
    simp only [Act.put, Xa, Xz, Xs]
    refine wl_val (.pointer (some ⟨g12, 1, none⟩)) rfl (fun _ => by go_simp) ?_
    simp only [Act.put, Xa, Xz, Xs]
    refine wl_val (.pointer (some ⟨g12, 2, none⟩)) rfl (fun _ => by go_simp) ?_
    simp only [Act.put, Xa, Xz, Xs]
    refine wl_cell 2 (.tmp 28) (.int .i64 z.hi) (own_row 0 rfl) rfl rfl rfl rfl Try.isAgg2 ?_
    simp only [Act.put, Xa, Xz, Xs]
    refine wl_val (.agg #[.int .i64 z.lo, .int .i64 z.hi]) rfl (fun _ => by go_simp) ?_
    simp only [Act.put, Xa, Xz, Xs]
    refine wl_val (.pointer (some ⟨g5, 4, none⟩)) rfl (fun _ => by go_simp) ?_
    simp only [Act.put, Xa, Xz, Xs]
    refine wl_store_part 4 28 (.tmp 31) (.tmp 30) [.int .i64 z.lo, .int .i64 z.hi] rfl rfl rfl rfl rfl (by kernel_rfl) (Nat.le_of_ble_eq_true rfl) (by simp [Value.oneCell']) ?_
    simp only [putAt, Nat.reduceAdd, Act.put, List.set_cons_zero, List.set_cons_succ]
    refine wl_nil ?_
    refine we_then ?_
    refine wc_seq ?_
    refine wc_region ?_
    refine wl_val (.pointer (some ⟨g12, 0, none⟩)) rfl (fun _ => by go_simp) ?_
    simp only [Act.put, Xa, Xz, Xs]
    refine wl_cell 4 (.tmp 32) (.bool z.f) (own_row 0 rfl) rfl rfl rfl rfl Try.isAgg4 ?_
    simp only [Act.put, Xa, Xz, Xs]
    refine wl_nil ?_
    refine we_then ?_
    cases h13 : (z.f)
    ·
     skip
     refine wc_false rfl ?_
     refine wc_skip ?_
     refine we_in ?_
     refine we_then ?_
     refine wc_region ?_
     refine wl_val (.int .i64 3) rfl (fun w => run_nat (X := 2) (Y := 1) (Z := 3) rfl rfl rfl rfl (by omega) w) ?_
     simp only [Act.put, Xa, Xz, Xs]
     refine wl_val (.int .i64 3) rfl (fun _ => rfl) ?_
     simp only [Act.put, Xa, Xz, Xs]
     refine wl_nil ?_
     refine we_round ?_
     refine wr_round ?_
     refine wc_seq ?_
     refine wc_region ?_
     refine wl_val (.bool true) rfl (fun w => run_cmp rfl rfl rfl Try.underlying3 rfl w) ?_
     simp only [Act.put, Xa, Xz, Xs]
     refine wl_nil ?_
     refine we_then ?_
     refine wc_seq ?_
     refine wc_true rfl ?_
     refine wc_skip ?_
     refine we_then ?_
     refine wc_seq ?_
     refine wc_block ?_
     refine wc_seq ?_
     refine wc_region ?_
     refine wl_val (.int .i64 3) rfl (fun _ => rfl) ?_
     simp only [Act.put, Xa, Xz, Xs]
     refine wl_val (.agg #[.bool t.f, .int .i64 t.lo, .int .i64 t.hi]) rfl (fun w => run_index_row (k := 3) (z := 3) (ps := #[.bool t.f, .int .i64 t.lo, .int .i64 t.hi]) rfl rfl rfl rfl (by decide) Try.underlying47 Try.underlying25 rfl (by kernel_rfl) (by simp) w) ?_
     simp only [Act.put, Xa, Xz, Xs]
     refine wl_new 25 (#[.bool false, .int .i64 0, .int .i64 0]) rfl (fun _ => by go_simp) ?_
     intro g14
     simp only [Act.put, Xa, Xz, Xs]
     refine wl_val (.int .i64 3) rfl (fun _ => rfl) ?_
     simp only [Act.put, Xa, Xz, Xs]
     refine wl_store 0 25 (.tmp 10) (.tmp 22) (#[.bool t.f, .int .i64 t.lo, .int .i64 t.hi]) rfl rfl rfl rfl rfl (by kernel_rfl) rfl (by simp [Value.oneCell']) ?_
     simp only [Act.put, List.set_cons_zero]
     refine wl_nil ?_
     refine we_then ?_
     refine wc_seq ?_
     refine wc_region ?_
     refine wl_val (.int .i64 3) rfl (fun _ => rfl) ?_
     simp only [Act.put, Xa, Xz, Xs]
     refine wl_val (.pointer (some ⟨g14, 1, none⟩)) rfl (fun _ => by go_simp) ?_
     simp only [Act.put, Xa, Xz, Xs]
     refine wl_val (.pointer (some ⟨g14, 1, none⟩)) rfl (fun _ => by go_simp) ?_
     simp only [Act.put, Xa, Xz, Xs]
     refine wl_cell 2 (.tmp 25) (.int .i64 t.lo) (own_row 0 rfl) rfl rfl rfl rfl Try.isAgg2 ?_
     simp only [Act.put, Xa, Xz, Xs]
     refine wl_val (.pointer (some ⟨g14, 1, none⟩)) rfl (fun _ => by go_simp) ?_
     simp only [Act.put, Xa, Xz, Xs]
     refine wl_val (.pointer (some ⟨g14, 2, none⟩)) rfl (fun _ => by go_simp) ?_
     simp only [Act.put, Xa, Xz, Xs]
     refine wl_cell 2 (.tmp 28) (.int .i64 t.hi) (own_row 0 rfl) rfl rfl rfl rfl Try.isAgg2 ?_
     simp only [Act.put, Xa, Xz, Xs]
     refine wl_val (.agg #[.int .i64 t.lo, .int .i64 t.hi]) rfl (fun _ => by go_simp) ?_
     simp only [Act.put, Xa, Xz, Xs]
     refine wl_val (.pointer (some ⟨g5, 6, none⟩)) rfl (fun _ => by go_simp) ?_
     simp only [Act.put, Xa, Xz, Xs]
     refine wl_store_part 5 28 (.tmp 31) (.tmp 30) [.int .i64 t.lo, .int .i64 t.hi] rfl rfl rfl rfl rfl (by kernel_rfl) (Nat.le_of_ble_eq_true rfl) (by simp [Value.oneCell']) ?_
     simp only [putAt, Nat.reduceAdd, Act.put, List.set_cons_zero, List.set_cons_succ]
     refine wl_nil ?_
     refine we_then ?_
     refine wc_seq ?_
     refine wc_region ?_
     refine wl_val (.pointer (some ⟨g14, 0, none⟩)) rfl (fun _ => by go_simp) ?_
     simp only [Act.put, Xa, Xz, Xs]
     refine wl_cell 4 (.tmp 32) (.bool t.f) (own_row 0 rfl) rfl rfl rfl rfl Try.isAgg4 ?_
     simp only [Act.put, Xa, Xz, Xs]
     refine wl_nil ?_
     refine we_then ?_
     cases h15 : (t.f)
     ·
      skip
      refine wc_false rfl ?_
      refine wc_skip ?_
      refine we_in ?_
      refine we_then ?_
      refine wc_region ?_
      refine wl_val (.int .i64 4) rfl (fun w => run_nat (X := 3) (Y := 1) (Z := 4) rfl rfl rfl rfl (by omega) w) ?_
      simp only [Act.put, Xa, Xz, Xs]
      refine wl_val (.int .i64 4) rfl (fun _ => rfl) ?_
      simp only [Act.put, Xa, Xz, Xs]
      refine wl_nil ?_
      refine we_round ?_
      refine wr_round ?_
      refine wc_seq ?_
      refine wc_region ?_
      refine wl_val (.bool false) rfl (fun w => run_cmp rfl rfl rfl Try.underlying3 rfl w) ?_
      simp only [Act.put, Xa, Xz, Xs]
      refine wl_nil ?_
      refine we_then ?_
      refine wc_seq ?_
      refine wc_false rfl ?_
      refine wc_exit ?_
      refine we_then_exit ?_
      refine we_then_exit ?_
      refine we_in_here ?_
      refine we_then ?_
      refine wc_seq ?_
      refine wc_draw_fin (Γ := Unit) (fun _ j9 => ([.agg #[.int .i64 x.lo, .int .i64 x.hi, .int .i64 y.lo, .int .i64 y.hi, .int .i64 z.lo, .int .i64 z.hi, .int .i64 t.lo, .int .i64 t.hi], .agg #[.int .i64 1, .int .i64 0, .int .i64 0, .int .i64 0], undef, undef, .bool true]).getD j9 undef) (fun ld _ => ⟨g14, #[.bool false, .int .i64 t.lo, .int .i64 t.hi], 25⟩ :: ⟨g12, #[.bool false, .int .i64 z.lo, .int .i64 z.hi], 25⟩ :: ⟨g10, #[.bool false, .int .i64 y.lo, .int .i64 y.hi], 25⟩ :: ⟨g7, #[.bool true, .int .i64 x.lo, .int .i64 x.hi], 25⟩ :: ⟨g6, #[.int .i64 1, .int .i64 0, .int .i64 0, .int .i64 0], 30⟩ :: ⟨g5, #[.int .i64 x.lo, .int .i64 x.hi, .int .i64 y.lo, .int .i64 y.hi, .int .i64 z.lo, .int .i64 z.hi, .int .i64 t.lo, .int .i64 t.hi], 29⟩ :: ⟨g4, if ld 3 = true then #[.int .i64 1, .int .i64 0, .int .i64 0, .int .i64 0] else #[.int .i64 0, .int .i64 0, .int .i64 0, .int .i64 0], 30⟩ :: ⟨g3, if ld 2 = true then #[.int .i64 x.lo, .int .i64 x.hi, .int .i64 y.lo, .int .i64 y.hi, .int .i64 z.lo, .int .i64 z.hi, .int .i64 t.lo, .int .i64 t.hi] else #[.int .i64 0, .int .i64 0, .int .i64 0, .int .i64 0, .int .i64 0, .int .i64 0, .int .i64 0, .int .i64 0], 29⟩ :: ⟨g2, #[.bool false, .int .i64 t.lo, .int .i64 t.hi], 25⟩ :: ⟨g1, #[.bool true, .int .i64 x.lo, .int .i64 x.hi, .bool false, .int .i64 y.lo, .int .i64 y.hi, .bool false, .int .i64 z.lo, .int .i64 z.hi], 26⟩ :: []) (fun _ _ => True) () 45 (fun _ => ({ tmps := #[.agg #[.bool true, .int .i64 x.lo, .int .i64 x.hi, .bool false, .int .i64 y.lo, .int .i64 y.hi, .bool false, .int .i64 z.lo, .int .i64 z.hi], .agg #[.bool false, .int .i64 t.lo, .int .i64 t.hi], .pointer (some ⟨g1, 0, none⟩), .pointer (some ⟨g2, 0, none⟩), .pointer (some ⟨g3, 0, none⟩), .pointer (some ⟨g4, 0, none⟩), .bool true, .pointer (some ⟨g5, 0, none⟩), .pointer (some ⟨g6, 0, none⟩), .int .i64 3, .pointer (some ⟨g14, 0, none⟩), .pointer (some ⟨g1, 0, none⟩), .agg #[.bool true, .int .i64 x.lo, .int .i64 x.hi], .pointer (some ⟨g1, 3, none⟩), .agg #[.bool false, .int .i64 y.lo, .int .i64 y.hi], .pointer (some ⟨g1, 6, none⟩), .agg #[.bool false, .int .i64 z.lo, .int .i64 z.hi], .agg #[.bool false, .int .i64 t.lo, .int .i64 t.hi], .agg #[.bool true, .int .i64 x.lo, .int .i64 x.hi, .bool false, .int .i64 y.lo, .int .i64 y.hi, .bool false, .int .i64 z.lo, .int .i64 z.hi, .bool false, .int .i64 t.lo, .int .i64 t.hi], .int .i64 4, .bool false, .int .i64 3, .agg #[.bool false, .int .i64 t.lo, .int .i64 t.hi], .int .i64 3, .pointer (some ⟨g14, 1, none⟩), .pointer (some ⟨g14, 1, none⟩), .int .i64 t.lo, .pointer (some ⟨g14, 1, none⟩), .pointer (some ⟨g14, 2, none⟩), .int .i64 t.hi, .agg #[.int .i64 t.lo, .int .i64 t.hi], .pointer (some ⟨g5, 6, none⟩), .pointer (some ⟨g14, 0, none⟩), .bool false, .int .i64 0, .pointer (some ⟨g6, 0, none⟩), .pointer (some ⟨g7, 1, none⟩), .agg #[.int .i64 x.lo, .int .i64 x.hi], .bool true, .bool false, undef, undef, .int .i64 4, .agg #[.int .i64 x.lo, .int .i64 x.hi, .int .i64 y.lo, .int .i64 y.hi, .int .i64 z.lo, .int .i64 z.hi, .int .i64 t.lo, .int .i64 t.hi], .agg #[.int .i64 1, .int .i64 0, .int .i64 0, .int .i64 0]], defers := [] } : Act)) (fun _ => [⟨g14, #[.bool false, .int .i64 t.lo, .int .i64 t.hi], 25⟩, ⟨g12, #[.bool false, .int .i64 z.lo, .int .i64 z.hi], 25⟩, ⟨g10, #[.bool false, .int .i64 y.lo, .int .i64 y.hi], 25⟩, ⟨g7, #[.bool true, .int .i64 x.lo, .int .i64 x.hi], 25⟩, ⟨g6, #[.int .i64 1, .int .i64 0, .int .i64 0, .int .i64 0], 30⟩, ⟨g5, #[.int .i64 x.lo, .int .i64 x.hi, .int .i64 y.lo, .int .i64 y.hi, .int .i64 z.lo, .int .i64 z.hi, .int .i64 t.lo, .int .i64 t.hi], 29⟩, ⟨g4, #[.int .i64 1, .int .i64 0, .int .i64 0, .int .i64 0], 30⟩, ⟨g3, #[.int .i64 x.lo, .int .i64 x.hi, .int .i64 y.lo, .int .i64 y.hi, .int .i64 z.lo, .int .i64 z.hi, .int .i64 t.lo, .int .i64 t.hi], 29⟩, ⟨g2, #[.bool false, .int .i64 t.lo, .int .i64 t.hi], 25⟩, ⟨g1, #[.bool true, .int .i64 x.lo, .int .i64 x.hi, .bool false, .int .i64 y.lo, .int .i64 y.hi, .bool false, .int .i64 z.lo, .int .i64 z.hi], 26⟩]) (by kernel_rfl) rfl (by kernel_rfl) rfl trivial (fun _ => by kernel_rfl) (fun _ => rfl) ?_ ?_
      ·
       skip
       refine sps_cons (sp_val (.agg #[.int .i64 x.lo, .int .i64 x.hi, .int .i64 y.lo, .int .i64 y.hi, .int .i64 z.lo, .int .i64 z.hi, .int .i64 t.lo, .int .i64 t.hi]) rfl (fun _ => rfl) (fun _ _ h => h) (fun _ _ => rfl) (fun ld γ9 a9 w9 h9 hE9 => load_row (hE9.rowAt (i := 5) rfl) rfl (h9.out (by kernel_rfl) rfl) Try.underlying29 rfl (by kernel_rfl))) ?_
       refine sps_cons (sp_val (.agg #[.int .i64 1, .int .i64 0, .int .i64 0, .int .i64 0]) rfl (fun _ => rfl) (fun _ _ h => h) (fun _ _ => rfl) (fun ld γ9 a9 w9 h9 hE9 => load_row (hE9.rowAt (i := 4) rfl) rfl (h9.out (by kernel_rfl) rfl) Try.underlying30 rfl (by kernel_rfl))) ?_
       refine sps_cons ⟨fun ld γ9 a9 w9 h9 _ hE9 K9 hK9 => h9.go rfl ?_⟩ ?_
       ·
        have l0 : ld 2 = false := h9.off
        have hE2 := hE9
        simp only [l0, Bool.false_eq_true, if_false] at hE2
        exact wp_store_row 29 _ _ rfl _ (#[.int .i64 x.lo, .int .i64 x.hi, .int .i64 y.lo, .int .i64 y.hi, .int .i64 z.lo, .int .i64 z.hi, .int .i64 t.lo, .int .i64 t.hi]) (h9.out (by kernel_rfl) rfl) (h9.tmp 0 rfl (h9.dep (by kernel_rfl))) _ _ (hE2.rowAt (i := 7) rfl) (by kernel_rfl) rfl (by simp [Value.oneCell']) (hK9 γ9 _ (fun _ _ => rfl) trivial (hE2.setRow (i := 7) rfl (#[.int .i64 x.lo, .int .i64 x.hi, .int .i64 y.lo, .int .i64 y.hi, .int .i64 z.lo, .int .i64 z.hi, .int .i64 t.lo, .int .i64 t.hi])))
       refine sps_cons ⟨fun ld γ9 a9 w9 h9 _ hE9 K9 hK9 => h9.go rfl ?_⟩ ?_
       ·
        have l0 : ld 3 = false := h9.off
        have hE2 := hE9
        simp only [l0, Bool.false_eq_true, if_false] at hE2
        exact wp_store_row 30 _ _ rfl _ (#[.int .i64 1, .int .i64 0, .int .i64 0, .int .i64 0]) (h9.out (by kernel_rfl) rfl) (h9.tmp 1 rfl (h9.dep (by kernel_rfl))) _ _ (hE2.rowAt (i := 6) rfl) (by kernel_rfl) rfl (by simp [Value.oneCell']) (hK9 γ9 _ (fun _ _ => rfl) trivial (hE2.setRow (i := 6) rfl (#[.int .i64 1, .int .i64 0, .int .i64 0, .int .i64 0])))
       refine sps_cons (sp_val (.bool true) rfl (fun _ => rfl) (fun _ _ h => h) (fun _ _ => rfl) (fun ld γ9 a9 w9 h9 hE9 => rfl)) ?_
       exact sps_nil
      rintro ⟨⟩ -
      (try dsimp only)
      refine we_then ?_
      refine wc_ret ?_
      refine we_ret_cell2_tmp (.bool true) (own_row 7 rfl) (own_row 6 rfl) rfl rfl rfl rfl rfl Try.underlying29 rfl (by kernel_rfl) Try.underlying30 rfl (by kernel_rfl) (fun w1 hE => ?_)
      have b_x : badB x = false := by unfold badB; rw [h8, h9]; rfl
      have b_y : badB y = false := by unfold badB; rw [h11]; rfl
      have b_z : badB z = false := by unfold badB; rw [h13]; rfl
      have b_t : badB t = false := by unfold badB; rw [h15]; rfl
      exact ⟨by unfold givV; rw [if_neg (by rw [b_x]; decide), if_neg (by rw [b_y]; decide), if_neg (by rw [b_z]; decide), if_neg (by rw [b_t]; decide), h8, h11, h13, h15]; rfl, hE.below⟩
     ·
      skip
      refine wc_true rfl ?_
      refine wc_seq ?_
      refine wc_region ?_
      refine wl_val (.int .i64 3) rfl (fun _ => rfl) ?_
      simp only [Act.put, Xa, Xz, Xs]
      refine wl_val (.pointer (some ⟨g6, 3, none⟩)) rfl (fun _ => by go_simp) ?_
      simp only [Act.put, Xa, Xz, Xs]
      refine wl_store_cell 4 3 (.tmp 35) (.const (.int .i64 1)) (.int .i64 0) (.int .i64 1) rfl rfl rfl rfl rfl rfl (by kernel_rfl) rfl ?_
      simp only [Act.put, List.set_cons_zero, List.set_cons_succ]
      refine wl_nil ?_
      refine we_then ?_
      refine wc_seq ?_
      refine wc_region ?_
      refine wl_val (.pointer (some ⟨g14, 1, none⟩)) rfl (fun _ => by go_simp) ?_
      simp only [Act.put, Xa, Xz, Xs]
      refine wl_part 23 (.tmp 36) [.int .i64 t.lo, .int .i64 t.hi] (own_row 0 rfl) rfl rfl rfl rfl Try.underlying23 rfl (by kernel_rfl) ?_
      simp only [Act.put, Xa, Xz, Xs]
      refine wl_call 11 #[.agg #[.int .i64 t.lo, .int .i64 t.hi]] (.bool (mayF t.lo t.hi)) rfl (fun _ => by go_simp) (fun W => may_any t.lo t.hi W) ?_
      simp only [Act.put, Xa, Xz, Xs]
      refine wl_val (.bool (!(mayF t.lo t.hi))) rfl (fun _ => by go_simp) ?_
      simp only [Act.put, Xa, Xz, Xs]
      refine wl_nil ?_
      refine we_then ?_
      cases h16 : (mayF t.lo t.hi)
      ·
       skip
       refine wc_true rfl ?_
       refine wc_seq ?_
       refine wc_draw_fin (Γ := Unit) (fun _ j9 => ([.agg #[.int .i64 x.lo, .int .i64 x.hi, .int .i64 y.lo, .int .i64 y.hi, .int .i64 z.lo, .int .i64 z.hi, .int .i64 t.lo, .int .i64 t.hi], .agg #[.int .i64 1, .int .i64 0, .int .i64 0, .int .i64 1], undef, undef, .bool false]).getD j9 undef) (fun ld _ => ⟨g14, #[.bool true, .int .i64 t.lo, .int .i64 t.hi], 25⟩ :: ⟨g12, #[.bool false, .int .i64 z.lo, .int .i64 z.hi], 25⟩ :: ⟨g10, #[.bool false, .int .i64 y.lo, .int .i64 y.hi], 25⟩ :: ⟨g7, #[.bool true, .int .i64 x.lo, .int .i64 x.hi], 25⟩ :: ⟨g6, #[.int .i64 1, .int .i64 0, .int .i64 0, .int .i64 1], 30⟩ :: ⟨g5, #[.int .i64 x.lo, .int .i64 x.hi, .int .i64 y.lo, .int .i64 y.hi, .int .i64 z.lo, .int .i64 z.hi, .int .i64 t.lo, .int .i64 t.hi], 29⟩ :: ⟨g4, if ld 3 = true then #[.int .i64 1, .int .i64 0, .int .i64 0, .int .i64 1] else #[.int .i64 0, .int .i64 0, .int .i64 0, .int .i64 0], 30⟩ :: ⟨g3, if ld 2 = true then #[.int .i64 x.lo, .int .i64 x.hi, .int .i64 y.lo, .int .i64 y.hi, .int .i64 z.lo, .int .i64 z.hi, .int .i64 t.lo, .int .i64 t.hi] else #[.int .i64 0, .int .i64 0, .int .i64 0, .int .i64 0, .int .i64 0, .int .i64 0, .int .i64 0, .int .i64 0], 29⟩ :: ⟨g2, #[.bool true, .int .i64 t.lo, .int .i64 t.hi], 25⟩ :: ⟨g1, #[.bool true, .int .i64 x.lo, .int .i64 x.hi, .bool false, .int .i64 y.lo, .int .i64 y.hi, .bool false, .int .i64 z.lo, .int .i64 z.hi], 26⟩ :: []) (fun _ _ => True) () 45 (fun _ => ({ tmps := #[.agg #[.bool true, .int .i64 x.lo, .int .i64 x.hi, .bool false, .int .i64 y.lo, .int .i64 y.hi, .bool false, .int .i64 z.lo, .int .i64 z.hi], .agg #[.bool true, .int .i64 t.lo, .int .i64 t.hi], .pointer (some ⟨g1, 0, none⟩), .pointer (some ⟨g2, 0, none⟩), .pointer (some ⟨g3, 0, none⟩), .pointer (some ⟨g4, 0, none⟩), .bool false, .pointer (some ⟨g5, 0, none⟩), .pointer (some ⟨g6, 0, none⟩), .int .i64 3, .pointer (some ⟨g14, 0, none⟩), .pointer (some ⟨g1, 0, none⟩), .agg #[.bool true, .int .i64 x.lo, .int .i64 x.hi], .pointer (some ⟨g1, 3, none⟩), .agg #[.bool false, .int .i64 y.lo, .int .i64 y.hi], .pointer (some ⟨g1, 6, none⟩), .agg #[.bool false, .int .i64 z.lo, .int .i64 z.hi], .agg #[.bool true, .int .i64 t.lo, .int .i64 t.hi], .agg #[.bool true, .int .i64 x.lo, .int .i64 x.hi, .bool false, .int .i64 y.lo, .int .i64 y.hi, .bool false, .int .i64 z.lo, .int .i64 z.hi, .bool true, .int .i64 t.lo, .int .i64 t.hi], .int .i64 3, .bool true, .int .i64 3, .agg #[.bool true, .int .i64 t.lo, .int .i64 t.hi], .int .i64 3, .pointer (some ⟨g14, 1, none⟩), .pointer (some ⟨g14, 1, none⟩), .int .i64 t.lo, .pointer (some ⟨g14, 1, none⟩), .pointer (some ⟨g14, 2, none⟩), .int .i64 t.hi, .agg #[.int .i64 t.lo, .int .i64 t.hi], .pointer (some ⟨g5, 6, none⟩), .pointer (some ⟨g14, 0, none⟩), .bool true, .int .i64 3, .pointer (some ⟨g6, 3, none⟩), .pointer (some ⟨g14, 1, none⟩), .agg #[.int .i64 t.lo, .int .i64 t.hi], .bool false, .bool true, .agg #[.int .i64 x.lo, .int .i64 x.hi, .int .i64 y.lo, .int .i64 y.hi, .int .i64 z.lo, .int .i64 z.hi, .int .i64 t.lo, .int .i64 t.hi], .agg #[.int .i64 1, .int .i64 0, .int .i64 0, .int .i64 1], .int .i64 3, undef, undef], defers := [] } : Act)) (fun _ => [⟨g14, #[.bool true, .int .i64 t.lo, .int .i64 t.hi], 25⟩, ⟨g12, #[.bool false, .int .i64 z.lo, .int .i64 z.hi], 25⟩, ⟨g10, #[.bool false, .int .i64 y.lo, .int .i64 y.hi], 25⟩, ⟨g7, #[.bool true, .int .i64 x.lo, .int .i64 x.hi], 25⟩, ⟨g6, #[.int .i64 1, .int .i64 0, .int .i64 0, .int .i64 1], 30⟩, ⟨g5, #[.int .i64 x.lo, .int .i64 x.hi, .int .i64 y.lo, .int .i64 y.hi, .int .i64 z.lo, .int .i64 z.hi, .int .i64 t.lo, .int .i64 t.hi], 29⟩, ⟨g4, #[.int .i64 1, .int .i64 0, .int .i64 0, .int .i64 1], 30⟩, ⟨g3, #[.int .i64 x.lo, .int .i64 x.hi, .int .i64 y.lo, .int .i64 y.hi, .int .i64 z.lo, .int .i64 z.hi, .int .i64 t.lo, .int .i64 t.hi], 29⟩, ⟨g2, #[.bool true, .int .i64 t.lo, .int .i64 t.hi], 25⟩, ⟨g1, #[.bool true, .int .i64 x.lo, .int .i64 x.hi, .bool false, .int .i64 y.lo, .int .i64 y.hi, .bool false, .int .i64 z.lo, .int .i64 z.hi], 26⟩]) (by kernel_rfl) rfl (by kernel_rfl) rfl trivial (fun _ => by kernel_rfl) (fun _ => rfl) ?_ ?_
       ·
        skip
        refine sps_cons (sp_val (.agg #[.int .i64 x.lo, .int .i64 x.hi, .int .i64 y.lo, .int .i64 y.hi, .int .i64 z.lo, .int .i64 z.hi, .int .i64 t.lo, .int .i64 t.hi]) rfl (fun _ => rfl) (fun _ _ h => h) (fun _ _ => rfl) (fun ld γ9 a9 w9 h9 hE9 => load_row (hE9.rowAt (i := 5) rfl) rfl (h9.out (by kernel_rfl) rfl) Try.underlying29 rfl (by kernel_rfl))) ?_
        refine sps_cons (sp_val (.agg #[.int .i64 1, .int .i64 0, .int .i64 0, .int .i64 1]) rfl (fun _ => rfl) (fun _ _ h => h) (fun _ _ => rfl) (fun ld γ9 a9 w9 h9 hE9 => load_row (hE9.rowAt (i := 4) rfl) rfl (h9.out (by kernel_rfl) rfl) Try.underlying30 rfl (by kernel_rfl))) ?_
        refine sps_cons ⟨fun ld γ9 a9 w9 h9 _ hE9 K9 hK9 => h9.go rfl ?_⟩ ?_
        ·
         have l0 : ld 2 = false := h9.off
         have hE2 := hE9
         simp only [l0, Bool.false_eq_true, if_false] at hE2
         exact wp_store_row 29 _ _ rfl _ (#[.int .i64 x.lo, .int .i64 x.hi, .int .i64 y.lo, .int .i64 y.hi, .int .i64 z.lo, .int .i64 z.hi, .int .i64 t.lo, .int .i64 t.hi]) (h9.out (by kernel_rfl) rfl) (h9.tmp 0 rfl (h9.dep (by kernel_rfl))) _ _ (hE2.rowAt (i := 7) rfl) (by kernel_rfl) rfl (by simp [Value.oneCell']) (hK9 γ9 _ (fun _ _ => rfl) trivial (hE2.setRow (i := 7) rfl (#[.int .i64 x.lo, .int .i64 x.hi, .int .i64 y.lo, .int .i64 y.hi, .int .i64 z.lo, .int .i64 z.hi, .int .i64 t.lo, .int .i64 t.hi])))
        refine sps_cons ⟨fun ld γ9 a9 w9 h9 _ hE9 K9 hK9 => h9.go rfl ?_⟩ ?_
        ·
         have l0 : ld 3 = false := h9.off
         have hE2 := hE9
         simp only [l0, Bool.false_eq_true, if_false] at hE2
         exact wp_store_row 30 _ _ rfl _ (#[.int .i64 1, .int .i64 0, .int .i64 0, .int .i64 1]) (h9.out (by kernel_rfl) rfl) (h9.tmp 1 rfl (h9.dep (by kernel_rfl))) _ _ (hE2.rowAt (i := 6) rfl) (by kernel_rfl) rfl (by simp [Value.oneCell']) (hK9 γ9 _ (fun _ _ => rfl) trivial (hE2.setRow (i := 6) rfl (#[.int .i64 1, .int .i64 0, .int .i64 0, .int .i64 1])))
        refine sps_cons (sp_val (.bool false) rfl (fun _ => rfl) (fun _ _ h => h) (fun _ _ => rfl) (fun ld γ9 a9 w9 h9 hE9 => rfl)) ?_
        exact sps_nil
       rintro ⟨⟩ -
       (try dsimp only)
       refine we_then ?_
       refine wc_ret ?_
       refine we_in_ret ?_
       refine we_then_ret ?_
       refine we_then_ret ?_
       refine we_in_ret ?_
       refine we_then_ret ?_
       refine we_ret_cell2_tmp (.bool false) (own_row 7 rfl) (own_row 6 rfl) rfl rfl rfl rfl rfl Try.underlying29 rfl (by kernel_rfl) Try.underlying30 rfl (by kernel_rfl) (fun w1 hE => ?_)
       have b_x : badB x = false := by unfold badB; rw [h8, h9]; rfl
       have b_y : badB y = false := by unfold badB; rw [h11]; rfl
       have b_z : badB z = false := by unfold badB; rw [h13]; rfl
       have b_t : badB t = true := by unfold badB; rw [h15, h16]; rfl
       exact ⟨by unfold givV; rw [if_neg (by rw [b_x]; decide), if_neg (by rw [b_y]; decide), if_neg (by rw [b_z]; decide), if_pos b_t, h8, h11, h13, h15]; rfl, hE.below⟩
      ·
       skip
       refine wc_false rfl ?_
       refine wc_skip ?_
       refine we_in ?_
       refine we_then ?_
       refine wc_region ?_
       refine wl_val (.int .i64 4) rfl (fun w => run_nat (X := 3) (Y := 1) (Z := 4) rfl rfl rfl rfl (by omega) w) ?_
       simp only [Act.put, Xa, Xz, Xs]
       refine wl_val (.int .i64 4) rfl (fun _ => rfl) ?_
       simp only [Act.put, Xa, Xz, Xs]
       refine wl_nil ?_
       refine we_round ?_
       refine wr_round ?_
       refine wc_seq ?_
       refine wc_region ?_
       refine wl_val (.bool false) rfl (fun w => run_cmp rfl rfl rfl Try.underlying3 rfl w) ?_
       simp only [Act.put, Xa, Xz, Xs]
       refine wl_nil ?_
       refine we_then ?_
       refine wc_seq ?_
       refine wc_false rfl ?_
       refine wc_exit ?_
       refine we_then_exit ?_
       refine we_then_exit ?_
       refine we_in_here ?_
       refine we_then ?_
       refine wc_seq ?_
       refine wc_draw_fin (Γ := Unit) (fun _ j9 => ([.agg #[.int .i64 x.lo, .int .i64 x.hi, .int .i64 y.lo, .int .i64 y.hi, .int .i64 z.lo, .int .i64 z.hi, .int .i64 t.lo, .int .i64 t.hi], .agg #[.int .i64 1, .int .i64 0, .int .i64 0, .int .i64 1], undef, undef, .bool true]).getD j9 undef) (fun ld _ => ⟨g14, #[.bool true, .int .i64 t.lo, .int .i64 t.hi], 25⟩ :: ⟨g12, #[.bool false, .int .i64 z.lo, .int .i64 z.hi], 25⟩ :: ⟨g10, #[.bool false, .int .i64 y.lo, .int .i64 y.hi], 25⟩ :: ⟨g7, #[.bool true, .int .i64 x.lo, .int .i64 x.hi], 25⟩ :: ⟨g6, #[.int .i64 1, .int .i64 0, .int .i64 0, .int .i64 1], 30⟩ :: ⟨g5, #[.int .i64 x.lo, .int .i64 x.hi, .int .i64 y.lo, .int .i64 y.hi, .int .i64 z.lo, .int .i64 z.hi, .int .i64 t.lo, .int .i64 t.hi], 29⟩ :: ⟨g4, if ld 3 = true then #[.int .i64 1, .int .i64 0, .int .i64 0, .int .i64 1] else #[.int .i64 0, .int .i64 0, .int .i64 0, .int .i64 0], 30⟩ :: ⟨g3, if ld 2 = true then #[.int .i64 x.lo, .int .i64 x.hi, .int .i64 y.lo, .int .i64 y.hi, .int .i64 z.lo, .int .i64 z.hi, .int .i64 t.lo, .int .i64 t.hi] else #[.int .i64 0, .int .i64 0, .int .i64 0, .int .i64 0, .int .i64 0, .int .i64 0, .int .i64 0, .int .i64 0], 29⟩ :: ⟨g2, #[.bool true, .int .i64 t.lo, .int .i64 t.hi], 25⟩ :: ⟨g1, #[.bool true, .int .i64 x.lo, .int .i64 x.hi, .bool false, .int .i64 y.lo, .int .i64 y.hi, .bool false, .int .i64 z.lo, .int .i64 z.hi], 26⟩ :: []) (fun _ _ => True) () 45 (fun _ => ({ tmps := #[.agg #[.bool true, .int .i64 x.lo, .int .i64 x.hi, .bool false, .int .i64 y.lo, .int .i64 y.hi, .bool false, .int .i64 z.lo, .int .i64 z.hi], .agg #[.bool true, .int .i64 t.lo, .int .i64 t.hi], .pointer (some ⟨g1, 0, none⟩), .pointer (some ⟨g2, 0, none⟩), .pointer (some ⟨g3, 0, none⟩), .pointer (some ⟨g4, 0, none⟩), .bool true, .pointer (some ⟨g5, 0, none⟩), .pointer (some ⟨g6, 0, none⟩), .int .i64 3, .pointer (some ⟨g14, 0, none⟩), .pointer (some ⟨g1, 0, none⟩), .agg #[.bool true, .int .i64 x.lo, .int .i64 x.hi], .pointer (some ⟨g1, 3, none⟩), .agg #[.bool false, .int .i64 y.lo, .int .i64 y.hi], .pointer (some ⟨g1, 6, none⟩), .agg #[.bool false, .int .i64 z.lo, .int .i64 z.hi], .agg #[.bool true, .int .i64 t.lo, .int .i64 t.hi], .agg #[.bool true, .int .i64 x.lo, .int .i64 x.hi, .bool false, .int .i64 y.lo, .int .i64 y.hi, .bool false, .int .i64 z.lo, .int .i64 z.hi, .bool true, .int .i64 t.lo, .int .i64 t.hi], .int .i64 4, .bool false, .int .i64 3, .agg #[.bool true, .int .i64 t.lo, .int .i64 t.hi], .int .i64 3, .pointer (some ⟨g14, 1, none⟩), .pointer (some ⟨g14, 1, none⟩), .int .i64 t.lo, .pointer (some ⟨g14, 1, none⟩), .pointer (some ⟨g14, 2, none⟩), .int .i64 t.hi, .agg #[.int .i64 t.lo, .int .i64 t.hi], .pointer (some ⟨g5, 6, none⟩), .pointer (some ⟨g14, 0, none⟩), .bool true, .int .i64 3, .pointer (some ⟨g6, 3, none⟩), .pointer (some ⟨g14, 1, none⟩), .agg #[.int .i64 t.lo, .int .i64 t.hi], .bool true, .bool false, undef, undef, .int .i64 4, .agg #[.int .i64 x.lo, .int .i64 x.hi, .int .i64 y.lo, .int .i64 y.hi, .int .i64 z.lo, .int .i64 z.hi, .int .i64 t.lo, .int .i64 t.hi], .agg #[.int .i64 1, .int .i64 0, .int .i64 0, .int .i64 1]], defers := [] } : Act)) (fun _ => [⟨g14, #[.bool true, .int .i64 t.lo, .int .i64 t.hi], 25⟩, ⟨g12, #[.bool false, .int .i64 z.lo, .int .i64 z.hi], 25⟩, ⟨g10, #[.bool false, .int .i64 y.lo, .int .i64 y.hi], 25⟩, ⟨g7, #[.bool true, .int .i64 x.lo, .int .i64 x.hi], 25⟩, ⟨g6, #[.int .i64 1, .int .i64 0, .int .i64 0, .int .i64 1], 30⟩, ⟨g5, #[.int .i64 x.lo, .int .i64 x.hi, .int .i64 y.lo, .int .i64 y.hi, .int .i64 z.lo, .int .i64 z.hi, .int .i64 t.lo, .int .i64 t.hi], 29⟩, ⟨g4, #[.int .i64 1, .int .i64 0, .int .i64 0, .int .i64 1], 30⟩, ⟨g3, #[.int .i64 x.lo, .int .i64 x.hi, .int .i64 y.lo, .int .i64 y.hi, .int .i64 z.lo, .int .i64 z.hi, .int .i64 t.lo, .int .i64 t.hi], 29⟩, ⟨g2, #[.bool true, .int .i64 t.lo, .int .i64 t.hi], 25⟩, ⟨g1, #[.bool true, .int .i64 x.lo, .int .i64 x.hi, .bool false, .int .i64 y.lo, .int .i64 y.hi, .bool false, .int .i64 z.lo, .int .i64 z.hi], 26⟩]) (by kernel_rfl) rfl (by kernel_rfl) rfl trivial (fun _ => by kernel_rfl) (fun _ => rfl) ?_ ?_
       ·
        skip
        refine sps_cons (sp_val (.agg #[.int .i64 x.lo, .int .i64 x.hi, .int .i64 y.lo, .int .i64 y.hi, .int .i64 z.lo, .int .i64 z.hi, .int .i64 t.lo, .int .i64 t.hi]) rfl (fun _ => rfl) (fun _ _ h => h) (fun _ _ => rfl) (fun ld γ9 a9 w9 h9 hE9 => load_row (hE9.rowAt (i := 5) rfl) rfl (h9.out (by kernel_rfl) rfl) Try.underlying29 rfl (by kernel_rfl))) ?_
        refine sps_cons (sp_val (.agg #[.int .i64 1, .int .i64 0, .int .i64 0, .int .i64 1]) rfl (fun _ => rfl) (fun _ _ h => h) (fun _ _ => rfl) (fun ld γ9 a9 w9 h9 hE9 => load_row (hE9.rowAt (i := 4) rfl) rfl (h9.out (by kernel_rfl) rfl) Try.underlying30 rfl (by kernel_rfl))) ?_
        refine sps_cons ⟨fun ld γ9 a9 w9 h9 _ hE9 K9 hK9 => h9.go rfl ?_⟩ ?_
        ·
         have l0 : ld 2 = false := h9.off
         have hE2 := hE9
         simp only [l0, Bool.false_eq_true, if_false] at hE2
         exact wp_store_row 29 _ _ rfl _ (#[.int .i64 x.lo, .int .i64 x.hi, .int .i64 y.lo, .int .i64 y.hi, .int .i64 z.lo, .int .i64 z.hi, .int .i64 t.lo, .int .i64 t.hi]) (h9.out (by kernel_rfl) rfl) (h9.tmp 0 rfl (h9.dep (by kernel_rfl))) _ _ (hE2.rowAt (i := 7) rfl) (by kernel_rfl) rfl (by simp [Value.oneCell']) (hK9 γ9 _ (fun _ _ => rfl) trivial (hE2.setRow (i := 7) rfl (#[.int .i64 x.lo, .int .i64 x.hi, .int .i64 y.lo, .int .i64 y.hi, .int .i64 z.lo, .int .i64 z.hi, .int .i64 t.lo, .int .i64 t.hi])))
        refine sps_cons ⟨fun ld γ9 a9 w9 h9 _ hE9 K9 hK9 => h9.go rfl ?_⟩ ?_
        ·
         have l0 : ld 3 = false := h9.off
         have hE2 := hE9
         simp only [l0, Bool.false_eq_true, if_false] at hE2
         exact wp_store_row 30 _ _ rfl _ (#[.int .i64 1, .int .i64 0, .int .i64 0, .int .i64 1]) (h9.out (by kernel_rfl) rfl) (h9.tmp 1 rfl (h9.dep (by kernel_rfl))) _ _ (hE2.rowAt (i := 6) rfl) (by kernel_rfl) rfl (by simp [Value.oneCell']) (hK9 γ9 _ (fun _ _ => rfl) trivial (hE2.setRow (i := 6) rfl (#[.int .i64 1, .int .i64 0, .int .i64 0, .int .i64 1])))
        refine sps_cons (sp_val (.bool true) rfl (fun _ => rfl) (fun _ _ h => h) (fun _ _ => rfl) (fun ld γ9 a9 w9 h9 hE9 => rfl)) ?_
        exact sps_nil
       rintro ⟨⟩ -
       (try dsimp only)
       refine we_then ?_
       refine wc_ret ?_
       refine we_ret_cell2_tmp (.bool true) (own_row 7 rfl) (own_row 6 rfl) rfl rfl rfl rfl rfl Try.underlying29 rfl (by kernel_rfl) Try.underlying30 rfl (by kernel_rfl) (fun w1 hE => ?_)
       have b_x : badB x = false := by unfold badB; rw [h8, h9]; rfl
       have b_y : badB y = false := by unfold badB; rw [h11]; rfl
       have b_z : badB z = false := by unfold badB; rw [h13]; rfl
       have b_t : badB t = false := by unfold badB; rw [h15, h16]; rfl
       exact ⟨by unfold givV; rw [if_neg (by rw [b_x]; decide), if_neg (by rw [b_y]; decide), if_neg (by rw [b_z]; decide), if_neg (by rw [b_t]; decide), h8, h11, h13, h15]; rfl, hE.below⟩
    ·
     skip
     refine wc_true rfl ?_
     refine wc_seq ?_
     refine wc_region ?_
     refine wl_val (.int .i64 2) rfl (fun _ => rfl) ?_
     simp only [Act.put, Xa, Xz, Xs]
     refine wl_val (.pointer (some ⟨g6, 2, none⟩)) rfl (fun _ => by go_simp) ?_
     simp only [Act.put, Xa, Xz, Xs]
     refine wl_store_cell 3 3 (.tmp 35) (.const (.int .i64 1)) (.int .i64 0) (.int .i64 1) rfl rfl rfl rfl rfl rfl (by kernel_rfl) rfl ?_
     simp only [Act.put, List.set_cons_zero, List.set_cons_succ]
     refine wl_nil ?_
     refine we_then ?_
     refine wc_seq ?_
     refine wc_region ?_
     refine wl_val (.pointer (some ⟨g12, 1, none⟩)) rfl (fun _ => by go_simp) ?_
     simp only [Act.put, Xa, Xz, Xs]
     refine wl_part 23 (.tmp 36) [.int .i64 z.lo, .int .i64 z.hi] (own_row 0 rfl) rfl rfl rfl rfl Try.underlying23 rfl (by kernel_rfl) ?_
     simp only [Act.put, Xa, Xz, Xs]
     refine wl_call 11 #[.agg #[.int .i64 z.lo, .int .i64 z.hi]] (.bool (mayF z.lo z.hi)) rfl (fun _ => by go_simp) (fun W => may_any z.lo z.hi W) ?_
     simp only [Act.put, Xa, Xz, Xs]
     refine wl_val (.bool (!(mayF z.lo z.hi))) rfl (fun _ => by go_simp) ?_
     simp only [Act.put, Xa, Xz, Xs]
     refine wl_nil ?_
     refine we_then ?_
     cases h17 : (mayF z.lo z.hi)
     ·
      skip
      refine wc_true rfl ?_
      refine wc_seq ?_
      refine wc_draw_fin (Γ := Unit) (fun _ j9 => ([.agg #[.int .i64 x.lo, .int .i64 x.hi, .int .i64 y.lo, .int .i64 y.hi, .int .i64 z.lo, .int .i64 z.hi, .int .i64 0, .int .i64 0], .agg #[.int .i64 1, .int .i64 0, .int .i64 1, .int .i64 0], undef, undef, .bool false]).getD j9 undef) (fun ld _ => ⟨g12, #[.bool true, .int .i64 z.lo, .int .i64 z.hi], 25⟩ :: ⟨g10, #[.bool false, .int .i64 y.lo, .int .i64 y.hi], 25⟩ :: ⟨g7, #[.bool true, .int .i64 x.lo, .int .i64 x.hi], 25⟩ :: ⟨g6, #[.int .i64 1, .int .i64 0, .int .i64 1, .int .i64 0], 30⟩ :: ⟨g5, #[.int .i64 x.lo, .int .i64 x.hi, .int .i64 y.lo, .int .i64 y.hi, .int .i64 z.lo, .int .i64 z.hi, .int .i64 0, .int .i64 0], 29⟩ :: ⟨g4, if ld 3 = true then #[.int .i64 1, .int .i64 0, .int .i64 1, .int .i64 0] else #[.int .i64 0, .int .i64 0, .int .i64 0, .int .i64 0], 30⟩ :: ⟨g3, if ld 2 = true then #[.int .i64 x.lo, .int .i64 x.hi, .int .i64 y.lo, .int .i64 y.hi, .int .i64 z.lo, .int .i64 z.hi, .int .i64 0, .int .i64 0] else #[.int .i64 0, .int .i64 0, .int .i64 0, .int .i64 0, .int .i64 0, .int .i64 0, .int .i64 0, .int .i64 0], 29⟩ :: ⟨g2, #[.bool t.f, .int .i64 t.lo, .int .i64 t.hi], 25⟩ :: ⟨g1, #[.bool true, .int .i64 x.lo, .int .i64 x.hi, .bool false, .int .i64 y.lo, .int .i64 y.hi, .bool true, .int .i64 z.lo, .int .i64 z.hi], 26⟩ :: []) (fun _ _ => True) () 45 (fun _ => ({ tmps := #[.agg #[.bool true, .int .i64 x.lo, .int .i64 x.hi, .bool false, .int .i64 y.lo, .int .i64 y.hi, .bool true, .int .i64 z.lo, .int .i64 z.hi], .agg #[.bool t.f, .int .i64 t.lo, .int .i64 t.hi], .pointer (some ⟨g1, 0, none⟩), .pointer (some ⟨g2, 0, none⟩), .pointer (some ⟨g3, 0, none⟩), .pointer (some ⟨g4, 0, none⟩), .bool false, .pointer (some ⟨g5, 0, none⟩), .pointer (some ⟨g6, 0, none⟩), .int .i64 2, .pointer (some ⟨g12, 0, none⟩), .pointer (some ⟨g1, 0, none⟩), .agg #[.bool true, .int .i64 x.lo, .int .i64 x.hi], .pointer (some ⟨g1, 3, none⟩), .agg #[.bool false, .int .i64 y.lo, .int .i64 y.hi], .pointer (some ⟨g1, 6, none⟩), .agg #[.bool true, .int .i64 z.lo, .int .i64 z.hi], .agg #[.bool t.f, .int .i64 t.lo, .int .i64 t.hi], .agg #[.bool true, .int .i64 x.lo, .int .i64 x.hi, .bool false, .int .i64 y.lo, .int .i64 y.hi, .bool true, .int .i64 z.lo, .int .i64 z.hi, .bool t.f, .int .i64 t.lo, .int .i64 t.hi], .int .i64 2, .bool true, .int .i64 2, .agg #[.bool true, .int .i64 z.lo, .int .i64 z.hi], .int .i64 2, .pointer (some ⟨g12, 1, none⟩), .pointer (some ⟨g12, 1, none⟩), .int .i64 z.lo, .pointer (some ⟨g12, 1, none⟩), .pointer (some ⟨g12, 2, none⟩), .int .i64 z.hi, .agg #[.int .i64 z.lo, .int .i64 z.hi], .pointer (some ⟨g5, 4, none⟩), .pointer (some ⟨g12, 0, none⟩), .bool true, .int .i64 2, .pointer (some ⟨g6, 2, none⟩), .pointer (some ⟨g12, 1, none⟩), .agg #[.int .i64 z.lo, .int .i64 z.hi], .bool false, .bool true, .agg #[.int .i64 x.lo, .int .i64 x.hi, .int .i64 y.lo, .int .i64 y.hi, .int .i64 z.lo, .int .i64 z.hi, .int .i64 0, .int .i64 0], .agg #[.int .i64 1, .int .i64 0, .int .i64 1, .int .i64 0], .int .i64 2, undef, undef], defers := [] } : Act)) (fun _ => [⟨g12, #[.bool true, .int .i64 z.lo, .int .i64 z.hi], 25⟩, ⟨g10, #[.bool false, .int .i64 y.lo, .int .i64 y.hi], 25⟩, ⟨g7, #[.bool true, .int .i64 x.lo, .int .i64 x.hi], 25⟩, ⟨g6, #[.int .i64 1, .int .i64 0, .int .i64 1, .int .i64 0], 30⟩, ⟨g5, #[.int .i64 x.lo, .int .i64 x.hi, .int .i64 y.lo, .int .i64 y.hi, .int .i64 z.lo, .int .i64 z.hi, .int .i64 0, .int .i64 0], 29⟩, ⟨g4, #[.int .i64 1, .int .i64 0, .int .i64 1, .int .i64 0], 30⟩, ⟨g3, #[.int .i64 x.lo, .int .i64 x.hi, .int .i64 y.lo, .int .i64 y.hi, .int .i64 z.lo, .int .i64 z.hi, .int .i64 0, .int .i64 0], 29⟩, ⟨g2, #[.bool t.f, .int .i64 t.lo, .int .i64 t.hi], 25⟩, ⟨g1, #[.bool true, .int .i64 x.lo, .int .i64 x.hi, .bool false, .int .i64 y.lo, .int .i64 y.hi, .bool true, .int .i64 z.lo, .int .i64 z.hi], 26⟩]) (by kernel_rfl) rfl (by kernel_rfl) rfl trivial (fun _ => by kernel_rfl) (fun _ => rfl) ?_ ?_
      ·
       skip
       refine sps_cons (sp_val (.agg #[.int .i64 x.lo, .int .i64 x.hi, .int .i64 y.lo, .int .i64 y.hi, .int .i64 z.lo, .int .i64 z.hi, .int .i64 0, .int .i64 0]) rfl (fun _ => rfl) (fun _ _ h => h) (fun _ _ => rfl) (fun ld γ9 a9 w9 h9 hE9 => load_row (hE9.rowAt (i := 4) rfl) rfl (h9.out (by kernel_rfl) rfl) Try.underlying29 rfl (by kernel_rfl))) ?_
       refine sps_cons (sp_val (.agg #[.int .i64 1, .int .i64 0, .int .i64 1, .int .i64 0]) rfl (fun _ => rfl) (fun _ _ h => h) (fun _ _ => rfl) (fun ld γ9 a9 w9 h9 hE9 => load_row (hE9.rowAt (i := 3) rfl) rfl (h9.out (by kernel_rfl) rfl) Try.underlying30 rfl (by kernel_rfl))) ?_
       refine sps_cons ⟨fun ld γ9 a9 w9 h9 _ hE9 K9 hK9 => h9.go rfl ?_⟩ ?_
       ·
        have l0 : ld 2 = false := h9.off
        have hE2 := hE9
        simp only [l0, Bool.false_eq_true, if_false] at hE2
        exact wp_store_row 29 _ _ rfl _ (#[.int .i64 x.lo, .int .i64 x.hi, .int .i64 y.lo, .int .i64 y.hi, .int .i64 z.lo, .int .i64 z.hi, .int .i64 0, .int .i64 0]) (h9.out (by kernel_rfl) rfl) (h9.tmp 0 rfl (h9.dep (by kernel_rfl))) _ _ (hE2.rowAt (i := 6) rfl) (by kernel_rfl) rfl (by simp [Value.oneCell']) (hK9 γ9 _ (fun _ _ => rfl) trivial (hE2.setRow (i := 6) rfl (#[.int .i64 x.lo, .int .i64 x.hi, .int .i64 y.lo, .int .i64 y.hi, .int .i64 z.lo, .int .i64 z.hi, .int .i64 0, .int .i64 0])))
       refine sps_cons ⟨fun ld γ9 a9 w9 h9 _ hE9 K9 hK9 => h9.go rfl ?_⟩ ?_
       ·
        have l0 : ld 3 = false := h9.off
        have hE2 := hE9
        simp only [l0, Bool.false_eq_true, if_false] at hE2
        exact wp_store_row 30 _ _ rfl _ (#[.int .i64 1, .int .i64 0, .int .i64 1, .int .i64 0]) (h9.out (by kernel_rfl) rfl) (h9.tmp 1 rfl (h9.dep (by kernel_rfl))) _ _ (hE2.rowAt (i := 5) rfl) (by kernel_rfl) rfl (by simp [Value.oneCell']) (hK9 γ9 _ (fun _ _ => rfl) trivial (hE2.setRow (i := 5) rfl (#[.int .i64 1, .int .i64 0, .int .i64 1, .int .i64 0])))
       refine sps_cons (sp_val (.bool false) rfl (fun _ => rfl) (fun _ _ h => h) (fun _ _ => rfl) (fun ld γ9 a9 w9 h9 hE9 => rfl)) ?_
       exact sps_nil
      rintro ⟨⟩ -
      (try dsimp only)
      refine we_then ?_
      refine wc_ret ?_
      refine we_in_ret ?_
      refine we_then_ret ?_
      refine we_then_ret ?_
      refine we_in_ret ?_
      refine we_then_ret ?_
      refine we_ret_cell2_tmp (.bool false) (own_row 6 rfl) (own_row 5 rfl) rfl rfl rfl rfl rfl Try.underlying29 rfl (by kernel_rfl) Try.underlying30 rfl (by kernel_rfl) (fun w1 hE => ?_)
      have b_x : badB x = false := by unfold badB; rw [h8, h9]; rfl
      have b_y : badB y = false := by unfold badB; rw [h11]; rfl
      have b_z : badB z = true := by unfold badB; rw [h13, h17]; rfl
      exact ⟨by unfold givV; rw [if_neg (by rw [b_x]; decide), if_neg (by rw [b_y]; decide), if_pos b_z, h8, h11, h13]; rfl, hE.below⟩
     ·
      skip
      refine wc_false rfl ?_
      refine wc_skip ?_
      refine we_in ?_
      refine we_then ?_
      refine wc_region ?_
      refine wl_val (.int .i64 3) rfl (fun w => run_nat (X := 2) (Y := 1) (Z := 3) rfl rfl rfl rfl (by omega) w) ?_
      simp only [Act.put, Xa, Xz, Xs]
      refine wl_val (.int .i64 3) rfl (fun _ => rfl) ?_
      simp only [Act.put, Xa, Xz, Xs]
      refine wl_nil ?_
      refine we_round ?_
      refine wr_round ?_
      refine wc_seq ?_
      refine wc_region ?_
      refine wl_val (.bool true) rfl (fun w => run_cmp rfl rfl rfl Try.underlying3 rfl w) ?_
      simp only [Act.put, Xa, Xz, Xs]
      refine wl_nil ?_
      refine we_then ?_
      refine wc_seq ?_
      refine wc_true rfl ?_
      refine wc_skip ?_
      refine we_then ?_
      refine wc_seq ?_
      refine wc_block ?_
      refine wc_seq ?_
      refine wc_region ?_
      refine wl_val (.int .i64 3) rfl (fun _ => rfl) ?_
      simp only [Act.put, Xa, Xz, Xs]
      refine wl_val (.agg #[.bool t.f, .int .i64 t.lo, .int .i64 t.hi]) rfl (fun w => run_index_row (k := 3) (z := 3) (ps := #[.bool t.f, .int .i64 t.lo, .int .i64 t.hi]) rfl rfl rfl rfl (by decide) Try.underlying47 Try.underlying25 rfl (by kernel_rfl) (by simp) w) ?_
      simp only [Act.put, Xa, Xz, Xs]
      refine wl_new 25 (#[.bool false, .int .i64 0, .int .i64 0]) rfl (fun _ => by go_simp) ?_
      intro g18
      simp only [Act.put, Xa, Xz, Xs]
      refine wl_val (.int .i64 3) rfl (fun _ => rfl) ?_
      simp only [Act.put, Xa, Xz, Xs]
      refine wl_store 0 25 (.tmp 10) (.tmp 22) (#[.bool t.f, .int .i64 t.lo, .int .i64 t.hi]) rfl rfl rfl rfl rfl (by kernel_rfl) rfl (by simp [Value.oneCell']) ?_
      simp only [Act.put, List.set_cons_zero]
      refine wl_nil ?_
      refine we_then ?_
      refine wc_seq ?_
      refine wc_region ?_
      refine wl_val (.int .i64 3) rfl (fun _ => rfl) ?_
      simp only [Act.put, Xa, Xz, Xs]
      refine wl_val (.pointer (some ⟨g18, 1, none⟩)) rfl (fun _ => by go_simp) ?_
      simp only [Act.put, Xa, Xz, Xs]
      refine wl_val (.pointer (some ⟨g18, 1, none⟩)) rfl (fun _ => by go_simp) ?_
      simp only [Act.put, Xa, Xz, Xs]
      refine wl_cell 2 (.tmp 25) (.int .i64 t.lo) (own_row 0 rfl) rfl rfl rfl rfl Try.isAgg2 ?_
      simp only [Act.put, Xa, Xz, Xs]
      refine wl_val (.pointer (some ⟨g18, 1, none⟩)) rfl (fun _ => by go_simp) ?_
      simp only [Act.put, Xa, Xz, Xs]
      refine wl_val (.pointer (some ⟨g18, 2, none⟩)) rfl (fun _ => by go_simp) ?_
      simp only [Act.put, Xa, Xz, Xs]
      refine wl_cell 2 (.tmp 28) (.int .i64 t.hi) (own_row 0 rfl) rfl rfl rfl rfl Try.isAgg2 ?_
      simp only [Act.put, Xa, Xz, Xs]
      refine wl_val (.agg #[.int .i64 t.lo, .int .i64 t.hi]) rfl (fun _ => by go_simp) ?_
      simp only [Act.put, Xa, Xz, Xs]
      refine wl_val (.pointer (some ⟨g5, 6, none⟩)) rfl (fun _ => by go_simp) ?_
      simp only [Act.put, Xa, Xz, Xs]
      refine wl_store_part 5 28 (.tmp 31) (.tmp 30) [.int .i64 t.lo, .int .i64 t.hi] rfl rfl rfl rfl rfl (by kernel_rfl) (Nat.le_of_ble_eq_true rfl) (by simp [Value.oneCell']) ?_
      simp only [putAt, Nat.reduceAdd, Act.put, List.set_cons_zero, List.set_cons_succ]
      refine wl_nil ?_
      refine we_then ?_
      refine wc_seq ?_
      refine wc_region ?_
      refine wl_val (.pointer (some ⟨g18, 0, none⟩)) rfl (fun _ => by go_simp) ?_
      simp only [Act.put, Xa, Xz, Xs]
      refine wl_cell 4 (.tmp 32) (.bool t.f) (own_row 0 rfl) rfl rfl rfl rfl Try.isAgg4 ?_
      simp only [Act.put, Xa, Xz, Xs]
      refine wl_nil ?_
      refine we_then ?_
      cases h19 : (t.f)
      ·
       skip
       refine wc_false rfl ?_
       refine wc_skip ?_
       refine we_in ?_
       refine we_then ?_
       refine wc_region ?_
       refine wl_val (.int .i64 4) rfl (fun w => run_nat (X := 3) (Y := 1) (Z := 4) rfl rfl rfl rfl (by omega) w) ?_
       simp only [Act.put, Xa, Xz, Xs]
       refine wl_val (.int .i64 4) rfl (fun _ => rfl) ?_
       simp only [Act.put, Xa, Xz, Xs]
       refine wl_nil ?_
       refine we_round ?_
       refine wr_round ?_
       refine wc_seq ?_
       refine wc_region ?_
       refine wl_val (.bool false) rfl (fun w => run_cmp rfl rfl rfl Try.underlying3 rfl w) ?_
       simp only [Act.put, Xa, Xz, Xs]
       refine wl_nil ?_
       refine we_then ?_
       refine wc_seq ?_
       refine wc_false rfl ?_
       refine wc_exit ?_
       refine we_then_exit ?_
       refine we_then_exit ?_
       refine we_in_here ?_
       refine we_then ?_
       refine wc_seq ?_
       refine wc_draw_fin (Γ := Unit) (fun _ j9 => ([.agg #[.int .i64 x.lo, .int .i64 x.hi, .int .i64 y.lo, .int .i64 y.hi, .int .i64 z.lo, .int .i64 z.hi, .int .i64 t.lo, .int .i64 t.hi], .agg #[.int .i64 1, .int .i64 0, .int .i64 1, .int .i64 0], undef, undef, .bool true]).getD j9 undef) (fun ld _ => ⟨g18, #[.bool false, .int .i64 t.lo, .int .i64 t.hi], 25⟩ :: ⟨g12, #[.bool true, .int .i64 z.lo, .int .i64 z.hi], 25⟩ :: ⟨g10, #[.bool false, .int .i64 y.lo, .int .i64 y.hi], 25⟩ :: ⟨g7, #[.bool true, .int .i64 x.lo, .int .i64 x.hi], 25⟩ :: ⟨g6, #[.int .i64 1, .int .i64 0, .int .i64 1, .int .i64 0], 30⟩ :: ⟨g5, #[.int .i64 x.lo, .int .i64 x.hi, .int .i64 y.lo, .int .i64 y.hi, .int .i64 z.lo, .int .i64 z.hi, .int .i64 t.lo, .int .i64 t.hi], 29⟩ :: ⟨g4, if ld 3 = true then #[.int .i64 1, .int .i64 0, .int .i64 1, .int .i64 0] else #[.int .i64 0, .int .i64 0, .int .i64 0, .int .i64 0], 30⟩ :: ⟨g3, if ld 2 = true then #[.int .i64 x.lo, .int .i64 x.hi, .int .i64 y.lo, .int .i64 y.hi, .int .i64 z.lo, .int .i64 z.hi, .int .i64 t.lo, .int .i64 t.hi] else #[.int .i64 0, .int .i64 0, .int .i64 0, .int .i64 0, .int .i64 0, .int .i64 0, .int .i64 0, .int .i64 0], 29⟩ :: ⟨g2, #[.bool false, .int .i64 t.lo, .int .i64 t.hi], 25⟩ :: ⟨g1, #[.bool true, .int .i64 x.lo, .int .i64 x.hi, .bool false, .int .i64 y.lo, .int .i64 y.hi, .bool true, .int .i64 z.lo, .int .i64 z.hi], 26⟩ :: []) (fun _ _ => True) () 45 (fun _ => ({ tmps := #[.agg #[.bool true, .int .i64 x.lo, .int .i64 x.hi, .bool false, .int .i64 y.lo, .int .i64 y.hi, .bool true, .int .i64 z.lo, .int .i64 z.hi], .agg #[.bool false, .int .i64 t.lo, .int .i64 t.hi], .pointer (some ⟨g1, 0, none⟩), .pointer (some ⟨g2, 0, none⟩), .pointer (some ⟨g3, 0, none⟩), .pointer (some ⟨g4, 0, none⟩), .bool true, .pointer (some ⟨g5, 0, none⟩), .pointer (some ⟨g6, 0, none⟩), .int .i64 3, .pointer (some ⟨g18, 0, none⟩), .pointer (some ⟨g1, 0, none⟩), .agg #[.bool true, .int .i64 x.lo, .int .i64 x.hi], .pointer (some ⟨g1, 3, none⟩), .agg #[.bool false, .int .i64 y.lo, .int .i64 y.hi], .pointer (some ⟨g1, 6, none⟩), .agg #[.bool true, .int .i64 z.lo, .int .i64 z.hi], .agg #[.bool false, .int .i64 t.lo, .int .i64 t.hi], .agg #[.bool true, .int .i64 x.lo, .int .i64 x.hi, .bool false, .int .i64 y.lo, .int .i64 y.hi, .bool true, .int .i64 z.lo, .int .i64 z.hi, .bool false, .int .i64 t.lo, .int .i64 t.hi], .int .i64 4, .bool false, .int .i64 3, .agg #[.bool false, .int .i64 t.lo, .int .i64 t.hi], .int .i64 3, .pointer (some ⟨g18, 1, none⟩), .pointer (some ⟨g18, 1, none⟩), .int .i64 t.lo, .pointer (some ⟨g18, 1, none⟩), .pointer (some ⟨g18, 2, none⟩), .int .i64 t.hi, .agg #[.int .i64 t.lo, .int .i64 t.hi], .pointer (some ⟨g5, 6, none⟩), .pointer (some ⟨g18, 0, none⟩), .bool false, .int .i64 2, .pointer (some ⟨g6, 2, none⟩), .pointer (some ⟨g12, 1, none⟩), .agg #[.int .i64 z.lo, .int .i64 z.hi], .bool true, .bool false, undef, undef, .int .i64 4, .agg #[.int .i64 x.lo, .int .i64 x.hi, .int .i64 y.lo, .int .i64 y.hi, .int .i64 z.lo, .int .i64 z.hi, .int .i64 t.lo, .int .i64 t.hi], .agg #[.int .i64 1, .int .i64 0, .int .i64 1, .int .i64 0]], defers := [] } : Act)) (fun _ => [⟨g18, #[.bool false, .int .i64 t.lo, .int .i64 t.hi], 25⟩, ⟨g12, #[.bool true, .int .i64 z.lo, .int .i64 z.hi], 25⟩, ⟨g10, #[.bool false, .int .i64 y.lo, .int .i64 y.hi], 25⟩, ⟨g7, #[.bool true, .int .i64 x.lo, .int .i64 x.hi], 25⟩, ⟨g6, #[.int .i64 1, .int .i64 0, .int .i64 1, .int .i64 0], 30⟩, ⟨g5, #[.int .i64 x.lo, .int .i64 x.hi, .int .i64 y.lo, .int .i64 y.hi, .int .i64 z.lo, .int .i64 z.hi, .int .i64 t.lo, .int .i64 t.hi], 29⟩, ⟨g4, #[.int .i64 1, .int .i64 0, .int .i64 1, .int .i64 0], 30⟩, ⟨g3, #[.int .i64 x.lo, .int .i64 x.hi, .int .i64 y.lo, .int .i64 y.hi, .int .i64 z.lo, .int .i64 z.hi, .int .i64 t.lo, .int .i64 t.hi], 29⟩, ⟨g2, #[.bool false, .int .i64 t.lo, .int .i64 t.hi], 25⟩, ⟨g1, #[.bool true, .int .i64 x.lo, .int .i64 x.hi, .bool false, .int .i64 y.lo, .int .i64 y.hi, .bool true, .int .i64 z.lo, .int .i64 z.hi], 26⟩]) (by kernel_rfl) rfl (by kernel_rfl) rfl trivial (fun _ => by kernel_rfl) (fun _ => rfl) ?_ ?_
       ·
        skip
        refine sps_cons (sp_val (.agg #[.int .i64 x.lo, .int .i64 x.hi, .int .i64 y.lo, .int .i64 y.hi, .int .i64 z.lo, .int .i64 z.hi, .int .i64 t.lo, .int .i64 t.hi]) rfl (fun _ => rfl) (fun _ _ h => h) (fun _ _ => rfl) (fun ld γ9 a9 w9 h9 hE9 => load_row (hE9.rowAt (i := 5) rfl) rfl (h9.out (by kernel_rfl) rfl) Try.underlying29 rfl (by kernel_rfl))) ?_
        refine sps_cons (sp_val (.agg #[.int .i64 1, .int .i64 0, .int .i64 1, .int .i64 0]) rfl (fun _ => rfl) (fun _ _ h => h) (fun _ _ => rfl) (fun ld γ9 a9 w9 h9 hE9 => load_row (hE9.rowAt (i := 4) rfl) rfl (h9.out (by kernel_rfl) rfl) Try.underlying30 rfl (by kernel_rfl))) ?_
        refine sps_cons ⟨fun ld γ9 a9 w9 h9 _ hE9 K9 hK9 => h9.go rfl ?_⟩ ?_
        ·
         have l0 : ld 2 = false := h9.off
         have hE2 := hE9
         simp only [l0, Bool.false_eq_true, if_false] at hE2
         exact wp_store_row 29 _ _ rfl _ (#[.int .i64 x.lo, .int .i64 x.hi, .int .i64 y.lo, .int .i64 y.hi, .int .i64 z.lo, .int .i64 z.hi, .int .i64 t.lo, .int .i64 t.hi]) (h9.out (by kernel_rfl) rfl) (h9.tmp 0 rfl (h9.dep (by kernel_rfl))) _ _ (hE2.rowAt (i := 7) rfl) (by kernel_rfl) rfl (by simp [Value.oneCell']) (hK9 γ9 _ (fun _ _ => rfl) trivial (hE2.setRow (i := 7) rfl (#[.int .i64 x.lo, .int .i64 x.hi, .int .i64 y.lo, .int .i64 y.hi, .int .i64 z.lo, .int .i64 z.hi, .int .i64 t.lo, .int .i64 t.hi])))
        refine sps_cons ⟨fun ld γ9 a9 w9 h9 _ hE9 K9 hK9 => h9.go rfl ?_⟩ ?_
        ·
         have l0 : ld 3 = false := h9.off
         have hE2 := hE9
         simp only [l0, Bool.false_eq_true, if_false] at hE2
         exact wp_store_row 30 _ _ rfl _ (#[.int .i64 1, .int .i64 0, .int .i64 1, .int .i64 0]) (h9.out (by kernel_rfl) rfl) (h9.tmp 1 rfl (h9.dep (by kernel_rfl))) _ _ (hE2.rowAt (i := 6) rfl) (by kernel_rfl) rfl (by simp [Value.oneCell']) (hK9 γ9 _ (fun _ _ => rfl) trivial (hE2.setRow (i := 6) rfl (#[.int .i64 1, .int .i64 0, .int .i64 1, .int .i64 0])))
        refine sps_cons (sp_val (.bool true) rfl (fun _ => rfl) (fun _ _ h => h) (fun _ _ => rfl) (fun ld γ9 a9 w9 h9 hE9 => rfl)) ?_
        exact sps_nil
       rintro ⟨⟩ -
       (try dsimp only)
       refine we_then ?_
       refine wc_ret ?_
       refine we_ret_cell2_tmp (.bool true) (own_row 7 rfl) (own_row 6 rfl) rfl rfl rfl rfl rfl Try.underlying29 rfl (by kernel_rfl) Try.underlying30 rfl (by kernel_rfl) (fun w1 hE => ?_)
       have b_x : badB x = false := by unfold badB; rw [h8, h9]; rfl
       have b_y : badB y = false := by unfold badB; rw [h11]; rfl
       have b_z : badB z = false := by unfold badB; rw [h13, h17]; rfl
       have b_t : badB t = false := by unfold badB; rw [h19]; rfl
       exact ⟨by unfold givV; rw [if_neg (by rw [b_x]; decide), if_neg (by rw [b_y]; decide), if_neg (by rw [b_z]; decide), if_neg (by rw [b_t]; decide), h8, h11, h13, h19]; rfl, hE.below⟩
      ·
       skip
       refine wc_true rfl ?_
       refine wc_seq ?_
       refine wc_region ?_
       refine wl_val (.int .i64 3) rfl (fun _ => rfl) ?_
       simp only [Act.put, Xa, Xz, Xs]
       refine wl_val (.pointer (some ⟨g6, 3, none⟩)) rfl (fun _ => by go_simp) ?_
       simp only [Act.put, Xa, Xz, Xs]
       refine wl_store_cell 4 3 (.tmp 35) (.const (.int .i64 1)) (.int .i64 0) (.int .i64 1) rfl rfl rfl rfl rfl rfl (by kernel_rfl) rfl ?_
       simp only [Act.put, List.set_cons_zero, List.set_cons_succ]
       refine wl_nil ?_
       refine we_then ?_
       refine wc_seq ?_
       refine wc_region ?_
       refine wl_val (.pointer (some ⟨g18, 1, none⟩)) rfl (fun _ => by go_simp) ?_
       simp only [Act.put, Xa, Xz, Xs]
       refine wl_part 23 (.tmp 36) [.int .i64 t.lo, .int .i64 t.hi] (own_row 0 rfl) rfl rfl rfl rfl Try.underlying23 rfl (by kernel_rfl) ?_
       simp only [Act.put, Xa, Xz, Xs]
       refine wl_call 11 #[.agg #[.int .i64 t.lo, .int .i64 t.hi]] (.bool (mayF t.lo t.hi)) rfl (fun _ => by go_simp) (fun W => may_any t.lo t.hi W) ?_
       simp only [Act.put, Xa, Xz, Xs]
       refine wl_val (.bool (!(mayF t.lo t.hi))) rfl (fun _ => by go_simp) ?_
       simp only [Act.put, Xa, Xz, Xs]
       refine wl_nil ?_
       refine we_then ?_
       cases h20 : (mayF t.lo t.hi)
       ·
        skip
        refine wc_true rfl ?_
        refine wc_seq ?_
        refine wc_draw_fin (Γ := Unit) (fun _ j9 => ([.agg #[.int .i64 x.lo, .int .i64 x.hi, .int .i64 y.lo, .int .i64 y.hi, .int .i64 z.lo, .int .i64 z.hi, .int .i64 t.lo, .int .i64 t.hi], .agg #[.int .i64 1, .int .i64 0, .int .i64 1, .int .i64 1], undef, undef, .bool false]).getD j9 undef) (fun ld _ => ⟨g18, #[.bool true, .int .i64 t.lo, .int .i64 t.hi], 25⟩ :: ⟨g12, #[.bool true, .int .i64 z.lo, .int .i64 z.hi], 25⟩ :: ⟨g10, #[.bool false, .int .i64 y.lo, .int .i64 y.hi], 25⟩ :: ⟨g7, #[.bool true, .int .i64 x.lo, .int .i64 x.hi], 25⟩ :: ⟨g6, #[.int .i64 1, .int .i64 0, .int .i64 1, .int .i64 1], 30⟩ :: ⟨g5, #[.int .i64 x.lo, .int .i64 x.hi, .int .i64 y.lo, .int .i64 y.hi, .int .i64 z.lo, .int .i64 z.hi, .int .i64 t.lo, .int .i64 t.hi], 29⟩ :: ⟨g4, if ld 3 = true then #[.int .i64 1, .int .i64 0, .int .i64 1, .int .i64 1] else #[.int .i64 0, .int .i64 0, .int .i64 0, .int .i64 0], 30⟩ :: ⟨g3, if ld 2 = true then #[.int .i64 x.lo, .int .i64 x.hi, .int .i64 y.lo, .int .i64 y.hi, .int .i64 z.lo, .int .i64 z.hi, .int .i64 t.lo, .int .i64 t.hi] else #[.int .i64 0, .int .i64 0, .int .i64 0, .int .i64 0, .int .i64 0, .int .i64 0, .int .i64 0, .int .i64 0], 29⟩ :: ⟨g2, #[.bool true, .int .i64 t.lo, .int .i64 t.hi], 25⟩ :: ⟨g1, #[.bool true, .int .i64 x.lo, .int .i64 x.hi, .bool false, .int .i64 y.lo, .int .i64 y.hi, .bool true, .int .i64 z.lo, .int .i64 z.hi], 26⟩ :: []) (fun _ _ => True) () 45 (fun _ => ({ tmps := #[.agg #[.bool true, .int .i64 x.lo, .int .i64 x.hi, .bool false, .int .i64 y.lo, .int .i64 y.hi, .bool true, .int .i64 z.lo, .int .i64 z.hi], .agg #[.bool true, .int .i64 t.lo, .int .i64 t.hi], .pointer (some ⟨g1, 0, none⟩), .pointer (some ⟨g2, 0, none⟩), .pointer (some ⟨g3, 0, none⟩), .pointer (some ⟨g4, 0, none⟩), .bool false, .pointer (some ⟨g5, 0, none⟩), .pointer (some ⟨g6, 0, none⟩), .int .i64 3, .pointer (some ⟨g18, 0, none⟩), .pointer (some ⟨g1, 0, none⟩), .agg #[.bool true, .int .i64 x.lo, .int .i64 x.hi], .pointer (some ⟨g1, 3, none⟩), .agg #[.bool false, .int .i64 y.lo, .int .i64 y.hi], .pointer (some ⟨g1, 6, none⟩), .agg #[.bool true, .int .i64 z.lo, .int .i64 z.hi], .agg #[.bool true, .int .i64 t.lo, .int .i64 t.hi], .agg #[.bool true, .int .i64 x.lo, .int .i64 x.hi, .bool false, .int .i64 y.lo, .int .i64 y.hi, .bool true, .int .i64 z.lo, .int .i64 z.hi, .bool true, .int .i64 t.lo, .int .i64 t.hi], .int .i64 3, .bool true, .int .i64 3, .agg #[.bool true, .int .i64 t.lo, .int .i64 t.hi], .int .i64 3, .pointer (some ⟨g18, 1, none⟩), .pointer (some ⟨g18, 1, none⟩), .int .i64 t.lo, .pointer (some ⟨g18, 1, none⟩), .pointer (some ⟨g18, 2, none⟩), .int .i64 t.hi, .agg #[.int .i64 t.lo, .int .i64 t.hi], .pointer (some ⟨g5, 6, none⟩), .pointer (some ⟨g18, 0, none⟩), .bool true, .int .i64 3, .pointer (some ⟨g6, 3, none⟩), .pointer (some ⟨g18, 1, none⟩), .agg #[.int .i64 t.lo, .int .i64 t.hi], .bool false, .bool true, .agg #[.int .i64 x.lo, .int .i64 x.hi, .int .i64 y.lo, .int .i64 y.hi, .int .i64 z.lo, .int .i64 z.hi, .int .i64 t.lo, .int .i64 t.hi], .agg #[.int .i64 1, .int .i64 0, .int .i64 1, .int .i64 1], .int .i64 3, undef, undef], defers := [] } : Act)) (fun _ => [⟨g18, #[.bool true, .int .i64 t.lo, .int .i64 t.hi], 25⟩, ⟨g12, #[.bool true, .int .i64 z.lo, .int .i64 z.hi], 25⟩, ⟨g10, #[.bool false, .int .i64 y.lo, .int .i64 y.hi], 25⟩, ⟨g7, #[.bool true, .int .i64 x.lo, .int .i64 x.hi], 25⟩, ⟨g6, #[.int .i64 1, .int .i64 0, .int .i64 1, .int .i64 1], 30⟩, ⟨g5, #[.int .i64 x.lo, .int .i64 x.hi, .int .i64 y.lo, .int .i64 y.hi, .int .i64 z.lo, .int .i64 z.hi, .int .i64 t.lo, .int .i64 t.hi], 29⟩, ⟨g4, #[.int .i64 1, .int .i64 0, .int .i64 1, .int .i64 1], 30⟩, ⟨g3, #[.int .i64 x.lo, .int .i64 x.hi, .int .i64 y.lo, .int .i64 y.hi, .int .i64 z.lo, .int .i64 z.hi, .int .i64 t.lo, .int .i64 t.hi], 29⟩, ⟨g2, #[.bool true, .int .i64 t.lo, .int .i64 t.hi], 25⟩, ⟨g1, #[.bool true, .int .i64 x.lo, .int .i64 x.hi, .bool false, .int .i64 y.lo, .int .i64 y.hi, .bool true, .int .i64 z.lo, .int .i64 z.hi], 26⟩]) (by kernel_rfl) rfl (by kernel_rfl) rfl trivial (fun _ => by kernel_rfl) (fun _ => rfl) ?_ ?_
        ·
         skip
         refine sps_cons (sp_val (.agg #[.int .i64 x.lo, .int .i64 x.hi, .int .i64 y.lo, .int .i64 y.hi, .int .i64 z.lo, .int .i64 z.hi, .int .i64 t.lo, .int .i64 t.hi]) rfl (fun _ => rfl) (fun _ _ h => h) (fun _ _ => rfl) (fun ld γ9 a9 w9 h9 hE9 => load_row (hE9.rowAt (i := 5) rfl) rfl (h9.out (by kernel_rfl) rfl) Try.underlying29 rfl (by kernel_rfl))) ?_
         refine sps_cons (sp_val (.agg #[.int .i64 1, .int .i64 0, .int .i64 1, .int .i64 1]) rfl (fun _ => rfl) (fun _ _ h => h) (fun _ _ => rfl) (fun ld γ9 a9 w9 h9 hE9 => load_row (hE9.rowAt (i := 4) rfl) rfl (h9.out (by kernel_rfl) rfl) Try.underlying30 rfl (by kernel_rfl))) ?_
         refine sps_cons ⟨fun ld γ9 a9 w9 h9 _ hE9 K9 hK9 => h9.go rfl ?_⟩ ?_
         ·
          have l0 : ld 2 = false := h9.off
          have hE2 := hE9
          simp only [l0, Bool.false_eq_true, if_false] at hE2
          exact wp_store_row 29 _ _ rfl _ (#[.int .i64 x.lo, .int .i64 x.hi, .int .i64 y.lo, .int .i64 y.hi, .int .i64 z.lo, .int .i64 z.hi, .int .i64 t.lo, .int .i64 t.hi]) (h9.out (by kernel_rfl) rfl) (h9.tmp 0 rfl (h9.dep (by kernel_rfl))) _ _ (hE2.rowAt (i := 7) rfl) (by kernel_rfl) rfl (by simp [Value.oneCell']) (hK9 γ9 _ (fun _ _ => rfl) trivial (hE2.setRow (i := 7) rfl (#[.int .i64 x.lo, .int .i64 x.hi, .int .i64 y.lo, .int .i64 y.hi, .int .i64 z.lo, .int .i64 z.hi, .int .i64 t.lo, .int .i64 t.hi])))
         refine sps_cons ⟨fun ld γ9 a9 w9 h9 _ hE9 K9 hK9 => h9.go rfl ?_⟩ ?_
         ·
          have l0 : ld 3 = false := h9.off
          have hE2 := hE9
          simp only [l0, Bool.false_eq_true, if_false] at hE2
          exact wp_store_row 30 _ _ rfl _ (#[.int .i64 1, .int .i64 0, .int .i64 1, .int .i64 1]) (h9.out (by kernel_rfl) rfl) (h9.tmp 1 rfl (h9.dep (by kernel_rfl))) _ _ (hE2.rowAt (i := 6) rfl) (by kernel_rfl) rfl (by simp [Value.oneCell']) (hK9 γ9 _ (fun _ _ => rfl) trivial (hE2.setRow (i := 6) rfl (#[.int .i64 1, .int .i64 0, .int .i64 1, .int .i64 1])))
         refine sps_cons (sp_val (.bool false) rfl (fun _ => rfl) (fun _ _ h => h) (fun _ _ => rfl) (fun ld γ9 a9 w9 h9 hE9 => rfl)) ?_
         exact sps_nil
        rintro ⟨⟩ -
        (try dsimp only)
        refine we_then ?_
        refine wc_ret ?_
        refine we_in_ret ?_
        refine we_then_ret ?_
        refine we_then_ret ?_
        refine we_in_ret ?_
        refine we_then_ret ?_
        refine we_ret_cell2_tmp (.bool false) (own_row 7 rfl) (own_row 6 rfl) rfl rfl rfl rfl rfl Try.underlying29 rfl (by kernel_rfl) Try.underlying30 rfl (by kernel_rfl) (fun w1 hE => ?_)
        have b_x : badB x = false := by unfold badB; rw [h8, h9]; rfl
        have b_y : badB y = false := by unfold badB; rw [h11]; rfl
        have b_z : badB z = false := by unfold badB; rw [h13, h17]; rfl
        have b_t : badB t = true := by unfold badB; rw [h19, h20]; rfl
        exact ⟨by unfold givV; rw [if_neg (by rw [b_x]; decide), if_neg (by rw [b_y]; decide), if_neg (by rw [b_z]; decide), if_pos b_t, h8, h11, h13, h19]; rfl, hE.below⟩
       ·
        skip
        refine wc_false rfl ?_
        refine wc_skip ?_
        refine we_in ?_
        refine we_then ?_
        refine wc_region ?_
        refine wl_val (.int .i64 4) rfl (fun w => run_nat (X := 3) (Y := 1) (Z := 4) rfl rfl rfl rfl (by omega) w) ?_
        simp only [Act.put, Xa, Xz, Xs]
        refine wl_val (.int .i64 4) rfl (fun _ => rfl) ?_
        simp only [Act.put, Xa, Xz, Xs]
        refine wl_nil ?_
        refine we_round ?_
        refine wr_round ?_
        refine wc_seq ?_
        refine wc_region ?_
        refine wl_val (.bool false) rfl (fun w => run_cmp rfl rfl rfl Try.underlying3 rfl w) ?_
        simp only [Act.put, Xa, Xz, Xs]
        refine wl_nil ?_
        refine we_then ?_
        refine wc_seq ?_
        refine wc_false rfl ?_
        refine wc_exit ?_
        refine we_then_exit ?_
        refine we_then_exit ?_
        refine we_in_here ?_
        refine we_then ?_
        refine wc_seq ?_
        refine wc_draw_fin (Γ := Unit) (fun _ j9 => ([.agg #[.int .i64 x.lo, .int .i64 x.hi, .int .i64 y.lo, .int .i64 y.hi, .int .i64 z.lo, .int .i64 z.hi, .int .i64 t.lo, .int .i64 t.hi], .agg #[.int .i64 1, .int .i64 0, .int .i64 1, .int .i64 1], undef, undef, .bool true]).getD j9 undef) (fun ld _ => ⟨g18, #[.bool true, .int .i64 t.lo, .int .i64 t.hi], 25⟩ :: ⟨g12, #[.bool true, .int .i64 z.lo, .int .i64 z.hi], 25⟩ :: ⟨g10, #[.bool false, .int .i64 y.lo, .int .i64 y.hi], 25⟩ :: ⟨g7, #[.bool true, .int .i64 x.lo, .int .i64 x.hi], 25⟩ :: ⟨g6, #[.int .i64 1, .int .i64 0, .int .i64 1, .int .i64 1], 30⟩ :: ⟨g5, #[.int .i64 x.lo, .int .i64 x.hi, .int .i64 y.lo, .int .i64 y.hi, .int .i64 z.lo, .int .i64 z.hi, .int .i64 t.lo, .int .i64 t.hi], 29⟩ :: ⟨g4, if ld 3 = true then #[.int .i64 1, .int .i64 0, .int .i64 1, .int .i64 1] else #[.int .i64 0, .int .i64 0, .int .i64 0, .int .i64 0], 30⟩ :: ⟨g3, if ld 2 = true then #[.int .i64 x.lo, .int .i64 x.hi, .int .i64 y.lo, .int .i64 y.hi, .int .i64 z.lo, .int .i64 z.hi, .int .i64 t.lo, .int .i64 t.hi] else #[.int .i64 0, .int .i64 0, .int .i64 0, .int .i64 0, .int .i64 0, .int .i64 0, .int .i64 0, .int .i64 0], 29⟩ :: ⟨g2, #[.bool true, .int .i64 t.lo, .int .i64 t.hi], 25⟩ :: ⟨g1, #[.bool true, .int .i64 x.lo, .int .i64 x.hi, .bool false, .int .i64 y.lo, .int .i64 y.hi, .bool true, .int .i64 z.lo, .int .i64 z.hi], 26⟩ :: []) (fun _ _ => True) () 45 (fun _ => ({ tmps := #[.agg #[.bool true, .int .i64 x.lo, .int .i64 x.hi, .bool false, .int .i64 y.lo, .int .i64 y.hi, .bool true, .int .i64 z.lo, .int .i64 z.hi], .agg #[.bool true, .int .i64 t.lo, .int .i64 t.hi], .pointer (some ⟨g1, 0, none⟩), .pointer (some ⟨g2, 0, none⟩), .pointer (some ⟨g3, 0, none⟩), .pointer (some ⟨g4, 0, none⟩), .bool true, .pointer (some ⟨g5, 0, none⟩), .pointer (some ⟨g6, 0, none⟩), .int .i64 3, .pointer (some ⟨g18, 0, none⟩), .pointer (some ⟨g1, 0, none⟩), .agg #[.bool true, .int .i64 x.lo, .int .i64 x.hi], .pointer (some ⟨g1, 3, none⟩), .agg #[.bool false, .int .i64 y.lo, .int .i64 y.hi], .pointer (some ⟨g1, 6, none⟩), .agg #[.bool true, .int .i64 z.lo, .int .i64 z.hi], .agg #[.bool true, .int .i64 t.lo, .int .i64 t.hi], .agg #[.bool true, .int .i64 x.lo, .int .i64 x.hi, .bool false, .int .i64 y.lo, .int .i64 y.hi, .bool true, .int .i64 z.lo, .int .i64 z.hi, .bool true, .int .i64 t.lo, .int .i64 t.hi], .int .i64 4, .bool false, .int .i64 3, .agg #[.bool true, .int .i64 t.lo, .int .i64 t.hi], .int .i64 3, .pointer (some ⟨g18, 1, none⟩), .pointer (some ⟨g18, 1, none⟩), .int .i64 t.lo, .pointer (some ⟨g18, 1, none⟩), .pointer (some ⟨g18, 2, none⟩), .int .i64 t.hi, .agg #[.int .i64 t.lo, .int .i64 t.hi], .pointer (some ⟨g5, 6, none⟩), .pointer (some ⟨g18, 0, none⟩), .bool true, .int .i64 3, .pointer (some ⟨g6, 3, none⟩), .pointer (some ⟨g18, 1, none⟩), .agg #[.int .i64 t.lo, .int .i64 t.hi], .bool true, .bool false, undef, undef, .int .i64 4, .agg #[.int .i64 x.lo, .int .i64 x.hi, .int .i64 y.lo, .int .i64 y.hi, .int .i64 z.lo, .int .i64 z.hi, .int .i64 t.lo, .int .i64 t.hi], .agg #[.int .i64 1, .int .i64 0, .int .i64 1, .int .i64 1]], defers := [] } : Act)) (fun _ => [⟨g18, #[.bool true, .int .i64 t.lo, .int .i64 t.hi], 25⟩, ⟨g12, #[.bool true, .int .i64 z.lo, .int .i64 z.hi], 25⟩, ⟨g10, #[.bool false, .int .i64 y.lo, .int .i64 y.hi], 25⟩, ⟨g7, #[.bool true, .int .i64 x.lo, .int .i64 x.hi], 25⟩, ⟨g6, #[.int .i64 1, .int .i64 0, .int .i64 1, .int .i64 1], 30⟩, ⟨g5, #[.int .i64 x.lo, .int .i64 x.hi, .int .i64 y.lo, .int .i64 y.hi, .int .i64 z.lo, .int .i64 z.hi, .int .i64 t.lo, .int .i64 t.hi], 29⟩, ⟨g4, #[.int .i64 1, .int .i64 0, .int .i64 1, .int .i64 1], 30⟩, ⟨g3, #[.int .i64 x.lo, .int .i64 x.hi, .int .i64 y.lo, .int .i64 y.hi, .int .i64 z.lo, .int .i64 z.hi, .int .i64 t.lo, .int .i64 t.hi], 29⟩, ⟨g2, #[.bool true, .int .i64 t.lo, .int .i64 t.hi], 25⟩, ⟨g1, #[.bool true, .int .i64 x.lo, .int .i64 x.hi, .bool false, .int .i64 y.lo, .int .i64 y.hi, .bool true, .int .i64 z.lo, .int .i64 z.hi], 26⟩]) (by kernel_rfl) rfl (by kernel_rfl) rfl trivial (fun _ => by kernel_rfl) (fun _ => rfl) ?_ ?_
        ·
         skip
         refine sps_cons (sp_val (.agg #[.int .i64 x.lo, .int .i64 x.hi, .int .i64 y.lo, .int .i64 y.hi, .int .i64 z.lo, .int .i64 z.hi, .int .i64 t.lo, .int .i64 t.hi]) rfl (fun _ => rfl) (fun _ _ h => h) (fun _ _ => rfl) (fun ld γ9 a9 w9 h9 hE9 => load_row (hE9.rowAt (i := 5) rfl) rfl (h9.out (by kernel_rfl) rfl) Try.underlying29 rfl (by kernel_rfl))) ?_
         refine sps_cons (sp_val (.agg #[.int .i64 1, .int .i64 0, .int .i64 1, .int .i64 1]) rfl (fun _ => rfl) (fun _ _ h => h) (fun _ _ => rfl) (fun ld γ9 a9 w9 h9 hE9 => load_row (hE9.rowAt (i := 4) rfl) rfl (h9.out (by kernel_rfl) rfl) Try.underlying30 rfl (by kernel_rfl))) ?_
         refine sps_cons ⟨fun ld γ9 a9 w9 h9 _ hE9 K9 hK9 => h9.go rfl ?_⟩ ?_
         ·
          have l0 : ld 2 = false := h9.off
          have hE2 := hE9
          simp only [l0, Bool.false_eq_true, if_false] at hE2
          exact wp_store_row 29 _ _ rfl _ (#[.int .i64 x.lo, .int .i64 x.hi, .int .i64 y.lo, .int .i64 y.hi, .int .i64 z.lo, .int .i64 z.hi, .int .i64 t.lo, .int .i64 t.hi]) (h9.out (by kernel_rfl) rfl) (h9.tmp 0 rfl (h9.dep (by kernel_rfl))) _ _ (hE2.rowAt (i := 7) rfl) (by kernel_rfl) rfl (by simp [Value.oneCell']) (hK9 γ9 _ (fun _ _ => rfl) trivial (hE2.setRow (i := 7) rfl (#[.int .i64 x.lo, .int .i64 x.hi, .int .i64 y.lo, .int .i64 y.hi, .int .i64 z.lo, .int .i64 z.hi, .int .i64 t.lo, .int .i64 t.hi])))
         refine sps_cons ⟨fun ld γ9 a9 w9 h9 _ hE9 K9 hK9 => h9.go rfl ?_⟩ ?_
         ·
          have l0 : ld 3 = false := h9.off
          have hE2 := hE9
          simp only [l0, Bool.false_eq_true, if_false] at hE2
          exact wp_store_row 30 _ _ rfl _ (#[.int .i64 1, .int .i64 0, .int .i64 1, .int .i64 1]) (h9.out (by kernel_rfl) rfl) (h9.tmp 1 rfl (h9.dep (by kernel_rfl))) _ _ (hE2.rowAt (i := 6) rfl) (by kernel_rfl) rfl (by simp [Value.oneCell']) (hK9 γ9 _ (fun _ _ => rfl) trivial (hE2.setRow (i := 6) rfl (#[.int .i64 1, .int .i64 0, .int .i64 1, .int .i64 1])))
         refine sps_cons (sp_val (.bool true) rfl (fun _ => rfl) (fun _ _ h => h) (fun _ _ => rfl) (fun ld γ9 a9 w9 h9 hE9 => rfl)) ?_
         exact sps_nil
        rintro ⟨⟩ -
        (try dsimp only)
        refine we_then ?_
        refine wc_ret ?_
        refine we_ret_cell2_tmp (.bool true) (own_row 7 rfl) (own_row 6 rfl) rfl rfl rfl rfl rfl Try.underlying29 rfl (by kernel_rfl) Try.underlying30 rfl (by kernel_rfl) (fun w1 hE => ?_)
        have b_x : badB x = false := by unfold badB; rw [h8, h9]; rfl
        have b_y : badB y = false := by unfold badB; rw [h11]; rfl
        have b_z : badB z = false := by unfold badB; rw [h13, h17]; rfl
        have b_t : badB t = false := by unfold badB; rw [h19, h20]; rfl
        exact ⟨by unfold givV; rw [if_neg (by rw [b_x]; decide), if_neg (by rw [b_y]; decide), if_neg (by rw [b_z]; decide), if_neg (by rw [b_t]; decide), h8, h11, h13, h19]; rfl, hE.below⟩
   ·
    skip
    refine wc_true rfl ?_
    refine wc_seq ?_
    refine wc_region ?_
    refine wl_val (.int .i64 1) rfl (fun _ => rfl) ?_
    simp only [Act.put, Xa, Xz, Xs]
    refine wl_val (.pointer (some ⟨g6, 1, none⟩)) rfl (fun _ => by go_simp) ?_
    simp only [Act.put, Xa, Xz, Xs]
    refine wl_store_cell 2 3 (.tmp 35) (.const (.int .i64 1)) (.int .i64 0) (.int .i64 1) rfl rfl rfl rfl rfl rfl (by kernel_rfl) rfl ?_
    simp only [Act.put, List.set_cons_zero, List.set_cons_succ]
    refine wl_nil ?_
    refine we_then ?_
    refine wc_seq ?_
    refine wc_region ?_
    refine wl_val (.pointer (some ⟨g10, 1, none⟩)) rfl (fun _ => by go_simp) ?_
    simp only [Act.put, Xa, Xz, Xs]
    refine wl_part 23 (.tmp 36) [.int .i64 y.lo, .int .i64 y.hi] (own_row 0 rfl) rfl rfl rfl rfl Try.underlying23 rfl (by kernel_rfl) ?_
    simp only [Act.put, Xa, Xz, Xs]
    refine wl_call 11 #[.agg #[.int .i64 y.lo, .int .i64 y.hi]] (.bool (mayF y.lo y.hi)) rfl (fun _ => by go_simp) (fun W => may_any y.lo y.hi W) ?_
    simp only [Act.put, Xa, Xz, Xs]
    refine wl_val (.bool (!(mayF y.lo y.hi))) rfl (fun _ => by go_simp) ?_
    simp only [Act.put, Xa, Xz, Xs]
    refine wl_nil ?_
    refine we_then ?_
    cases h21 : (mayF y.lo y.hi)
    ·
     skip
     refine wc_true rfl ?_
     refine wc_seq ?_
     refine wc_draw_fin (Γ := Unit) (fun _ j9 => ([.agg #[.int .i64 x.lo, .int .i64 x.hi, .int .i64 y.lo, .int .i64 y.hi, .int .i64 0, .int .i64 0, .int .i64 0, .int .i64 0], .agg #[.int .i64 1, .int .i64 1, .int .i64 0, .int .i64 0], undef, undef, .bool false]).getD j9 undef) (fun ld _ => ⟨g10, #[.bool true, .int .i64 y.lo, .int .i64 y.hi], 25⟩ :: ⟨g7, #[.bool true, .int .i64 x.lo, .int .i64 x.hi], 25⟩ :: ⟨g6, #[.int .i64 1, .int .i64 1, .int .i64 0, .int .i64 0], 30⟩ :: ⟨g5, #[.int .i64 x.lo, .int .i64 x.hi, .int .i64 y.lo, .int .i64 y.hi, .int .i64 0, .int .i64 0, .int .i64 0, .int .i64 0], 29⟩ :: ⟨g4, if ld 3 = true then #[.int .i64 1, .int .i64 1, .int .i64 0, .int .i64 0] else #[.int .i64 0, .int .i64 0, .int .i64 0, .int .i64 0], 30⟩ :: ⟨g3, if ld 2 = true then #[.int .i64 x.lo, .int .i64 x.hi, .int .i64 y.lo, .int .i64 y.hi, .int .i64 0, .int .i64 0, .int .i64 0, .int .i64 0] else #[.int .i64 0, .int .i64 0, .int .i64 0, .int .i64 0, .int .i64 0, .int .i64 0, .int .i64 0, .int .i64 0], 29⟩ :: ⟨g2, #[.bool t.f, .int .i64 t.lo, .int .i64 t.hi], 25⟩ :: ⟨g1, #[.bool true, .int .i64 x.lo, .int .i64 x.hi, .bool true, .int .i64 y.lo, .int .i64 y.hi, .bool z.f, .int .i64 z.lo, .int .i64 z.hi], 26⟩ :: []) (fun _ _ => True) () 45 (fun _ => ({ tmps := #[.agg #[.bool true, .int .i64 x.lo, .int .i64 x.hi, .bool true, .int .i64 y.lo, .int .i64 y.hi, .bool z.f, .int .i64 z.lo, .int .i64 z.hi], .agg #[.bool t.f, .int .i64 t.lo, .int .i64 t.hi], .pointer (some ⟨g1, 0, none⟩), .pointer (some ⟨g2, 0, none⟩), .pointer (some ⟨g3, 0, none⟩), .pointer (some ⟨g4, 0, none⟩), .bool false, .pointer (some ⟨g5, 0, none⟩), .pointer (some ⟨g6, 0, none⟩), .int .i64 1, .pointer (some ⟨g10, 0, none⟩), .pointer (some ⟨g1, 0, none⟩), .agg #[.bool true, .int .i64 x.lo, .int .i64 x.hi], .pointer (some ⟨g1, 3, none⟩), .agg #[.bool true, .int .i64 y.lo, .int .i64 y.hi], .pointer (some ⟨g1, 6, none⟩), .agg #[.bool z.f, .int .i64 z.lo, .int .i64 z.hi], .agg #[.bool t.f, .int .i64 t.lo, .int .i64 t.hi], .agg #[.bool true, .int .i64 x.lo, .int .i64 x.hi, .bool true, .int .i64 y.lo, .int .i64 y.hi, .bool z.f, .int .i64 z.lo, .int .i64 z.hi, .bool t.f, .int .i64 t.lo, .int .i64 t.hi], .int .i64 1, .bool true, .int .i64 1, .agg #[.bool true, .int .i64 y.lo, .int .i64 y.hi], .int .i64 1, .pointer (some ⟨g10, 1, none⟩), .pointer (some ⟨g10, 1, none⟩), .int .i64 y.lo, .pointer (some ⟨g10, 1, none⟩), .pointer (some ⟨g10, 2, none⟩), .int .i64 y.hi, .agg #[.int .i64 y.lo, .int .i64 y.hi], .pointer (some ⟨g5, 2, none⟩), .pointer (some ⟨g10, 0, none⟩), .bool true, .int .i64 1, .pointer (some ⟨g6, 1, none⟩), .pointer (some ⟨g10, 1, none⟩), .agg #[.int .i64 y.lo, .int .i64 y.hi], .bool false, .bool true, .agg #[.int .i64 x.lo, .int .i64 x.hi, .int .i64 y.lo, .int .i64 y.hi, .int .i64 0, .int .i64 0, .int .i64 0, .int .i64 0], .agg #[.int .i64 1, .int .i64 1, .int .i64 0, .int .i64 0], .int .i64 1, undef, undef], defers := [] } : Act)) (fun _ => [⟨g10, #[.bool true, .int .i64 y.lo, .int .i64 y.hi], 25⟩, ⟨g7, #[.bool true, .int .i64 x.lo, .int .i64 x.hi], 25⟩, ⟨g6, #[.int .i64 1, .int .i64 1, .int .i64 0, .int .i64 0], 30⟩, ⟨g5, #[.int .i64 x.lo, .int .i64 x.hi, .int .i64 y.lo, .int .i64 y.hi, .int .i64 0, .int .i64 0, .int .i64 0, .int .i64 0], 29⟩, ⟨g4, #[.int .i64 1, .int .i64 1, .int .i64 0, .int .i64 0], 30⟩, ⟨g3, #[.int .i64 x.lo, .int .i64 x.hi, .int .i64 y.lo, .int .i64 y.hi, .int .i64 0, .int .i64 0, .int .i64 0, .int .i64 0], 29⟩, ⟨g2, #[.bool t.f, .int .i64 t.lo, .int .i64 t.hi], 25⟩, ⟨g1, #[.bool true, .int .i64 x.lo, .int .i64 x.hi, .bool true, .int .i64 y.lo, .int .i64 y.hi, .bool z.f, .int .i64 z.lo, .int .i64 z.hi], 26⟩]) (by kernel_rfl) rfl (by kernel_rfl) rfl trivial (fun _ => by kernel_rfl) (fun _ => rfl) ?_ ?_
     ·
      skip
      refine sps_cons (sp_val (.agg #[.int .i64 x.lo, .int .i64 x.hi, .int .i64 y.lo, .int .i64 y.hi, .int .i64 0, .int .i64 0, .int .i64 0, .int .i64 0]) rfl (fun _ => rfl) (fun _ _ h => h) (fun _ _ => rfl) (fun ld γ9 a9 w9 h9 hE9 => load_row (hE9.rowAt (i := 3) rfl) rfl (h9.out (by kernel_rfl) rfl) Try.underlying29 rfl (by kernel_rfl))) ?_
      refine sps_cons (sp_val (.agg #[.int .i64 1, .int .i64 1, .int .i64 0, .int .i64 0]) rfl (fun _ => rfl) (fun _ _ h => h) (fun _ _ => rfl) (fun ld γ9 a9 w9 h9 hE9 => load_row (hE9.rowAt (i := 2) rfl) rfl (h9.out (by kernel_rfl) rfl) Try.underlying30 rfl (by kernel_rfl))) ?_
      refine sps_cons ⟨fun ld γ9 a9 w9 h9 _ hE9 K9 hK9 => h9.go rfl ?_⟩ ?_
      ·
       have l0 : ld 2 = false := h9.off
       have hE2 := hE9
       simp only [l0, Bool.false_eq_true, if_false] at hE2
       exact wp_store_row 29 _ _ rfl _ (#[.int .i64 x.lo, .int .i64 x.hi, .int .i64 y.lo, .int .i64 y.hi, .int .i64 0, .int .i64 0, .int .i64 0, .int .i64 0]) (h9.out (by kernel_rfl) rfl) (h9.tmp 0 rfl (h9.dep (by kernel_rfl))) _ _ (hE2.rowAt (i := 5) rfl) (by kernel_rfl) rfl (by simp [Value.oneCell']) (hK9 γ9 _ (fun _ _ => rfl) trivial (hE2.setRow (i := 5) rfl (#[.int .i64 x.lo, .int .i64 x.hi, .int .i64 y.lo, .int .i64 y.hi, .int .i64 0, .int .i64 0, .int .i64 0, .int .i64 0])))
      refine sps_cons ⟨fun ld γ9 a9 w9 h9 _ hE9 K9 hK9 => h9.go rfl ?_⟩ ?_
      ·
       have l0 : ld 3 = false := h9.off
       have hE2 := hE9
       simp only [l0, Bool.false_eq_true, if_false] at hE2
       exact wp_store_row 30 _ _ rfl _ (#[.int .i64 1, .int .i64 1, .int .i64 0, .int .i64 0]) (h9.out (by kernel_rfl) rfl) (h9.tmp 1 rfl (h9.dep (by kernel_rfl))) _ _ (hE2.rowAt (i := 4) rfl) (by kernel_rfl) rfl (by simp [Value.oneCell']) (hK9 γ9 _ (fun _ _ => rfl) trivial (hE2.setRow (i := 4) rfl (#[.int .i64 1, .int .i64 1, .int .i64 0, .int .i64 0])))
      refine sps_cons (sp_val (.bool false) rfl (fun _ => rfl) (fun _ _ h => h) (fun _ _ => rfl) (fun ld γ9 a9 w9 h9 hE9 => rfl)) ?_
      exact sps_nil
     rintro ⟨⟩ -
     (try dsimp only)
     refine we_then ?_
     refine wc_ret ?_
     refine we_in_ret ?_
     refine we_then_ret ?_
     refine we_then_ret ?_
     refine we_in_ret ?_
     refine we_then_ret ?_
     refine we_ret_cell2_tmp (.bool false) (own_row 5 rfl) (own_row 4 rfl) rfl rfl rfl rfl rfl Try.underlying29 rfl (by kernel_rfl) Try.underlying30 rfl (by kernel_rfl) (fun w1 hE => ?_)
     have b_x : badB x = false := by unfold badB; rw [h8, h9]; rfl
     have b_y : badB y = true := by unfold badB; rw [h11, h21]; rfl
     exact ⟨by unfold givV; rw [if_neg (by rw [b_x]; decide), if_pos b_y, h8, h11]; rfl, hE.below⟩
    ·
     skip
     refine wc_false rfl ?_
     refine wc_skip ?_
     refine we_in ?_
     refine we_then ?_
     refine wc_region ?_
     refine wl_val (.int .i64 2) rfl (fun w => run_nat (X := 1) (Y := 1) (Z := 2) rfl rfl rfl rfl (by omega) w) ?_
     simp only [Act.put, Xa, Xz, Xs]
     refine wl_val (.int .i64 2) rfl (fun _ => rfl) ?_
     simp only [Act.put, Xa, Xz, Xs]
     refine wl_nil ?_
     refine we_round ?_
     refine wr_round ?_
     refine wc_seq ?_
     refine wc_region ?_
     refine wl_val (.bool true) rfl (fun w => run_cmp rfl rfl rfl Try.underlying3 rfl w) ?_
     simp only [Act.put, Xa, Xz, Xs]
     refine wl_nil ?_
     refine we_then ?_
     refine wc_seq ?_
     refine wc_true rfl ?_
     refine wc_skip ?_
     refine we_then ?_
     refine wc_seq ?_
     refine wc_block ?_
     refine wc_seq ?_
     refine wc_region ?_
     refine wl_val (.int .i64 2) rfl (fun _ => rfl) ?_
     simp only [Act.put, Xa, Xz, Xs]
     refine wl_val (.agg #[.bool z.f, .int .i64 z.lo, .int .i64 z.hi]) rfl (fun w => run_index_row (k := 2) (z := 3) (ps := #[.bool z.f, .int .i64 z.lo, .int .i64 z.hi]) rfl rfl rfl rfl (by decide) Try.underlying47 Try.underlying25 rfl (by kernel_rfl) (by simp) w) ?_
     simp only [Act.put, Xa, Xz, Xs]
     refine wl_new 25 (#[.bool false, .int .i64 0, .int .i64 0]) rfl (fun _ => by go_simp) ?_
     intro g22
     simp only [Act.put, Xa, Xz, Xs]
     refine wl_val (.int .i64 2) rfl (fun _ => rfl) ?_
     simp only [Act.put, Xa, Xz, Xs]
     refine wl_store 0 25 (.tmp 10) (.tmp 22) (#[.bool z.f, .int .i64 z.lo, .int .i64 z.hi]) rfl rfl rfl rfl rfl (by kernel_rfl) rfl (by simp [Value.oneCell']) ?_
     simp only [Act.put, List.set_cons_zero]
     refine wl_nil ?_
     refine we_then ?_
     refine wc_seq ?_
     refine wc_region ?_
     refine wl_val (.int .i64 2) rfl (fun _ => rfl) ?_
     simp only [Act.put, Xa, Xz, Xs]
     refine wl_val (.pointer (some ⟨g22, 1, none⟩)) rfl (fun _ => by go_simp) ?_
     simp only [Act.put, Xa, Xz, Xs]
     refine wl_val (.pointer (some ⟨g22, 1, none⟩)) rfl (fun _ => by go_simp) ?_
     simp only [Act.put, Xa, Xz, Xs]
     refine wl_cell 2 (.tmp 25) (.int .i64 z.lo) (own_row 0 rfl) rfl rfl rfl rfl Try.isAgg2 ?_
     simp only [Act.put, Xa, Xz, Xs]
     refine wl_val (.pointer (some ⟨g22, 1, none⟩)) rfl (fun _ => by go_simp) ?_
     simp only [Act.put, Xa, Xz, Xs]
     refine wl_val (.pointer (some ⟨g22, 2, none⟩)) rfl (fun _ => by go_simp) ?_
     simp only [Act.put, Xa, Xz, Xs]
     refine wl_cell 2 (.tmp 28) (.int .i64 z.hi) (own_row 0 rfl) rfl rfl rfl rfl Try.isAgg2 ?_
     simp only [Act.put, Xa, Xz, Xs]
     refine wl_val (.agg #[.int .i64 z.lo, .int .i64 z.hi]) rfl (fun _ => by go_simp) ?_
     simp only [Act.put, Xa, Xz, Xs]
     refine wl_val (.pointer (some ⟨g5, 4, none⟩)) rfl (fun _ => by go_simp) ?_
     simp only [Act.put, Xa, Xz, Xs]
     refine wl_store_part 4 28 (.tmp 31) (.tmp 30) [.int .i64 z.lo, .int .i64 z.hi] rfl rfl rfl rfl rfl (by kernel_rfl) (Nat.le_of_ble_eq_true rfl) (by simp [Value.oneCell']) ?_
     simp only [putAt, Nat.reduceAdd, Act.put, List.set_cons_zero, List.set_cons_succ]
     refine wl_nil ?_
     refine we_then ?_
     refine wc_seq ?_
     refine wc_region ?_
     refine wl_val (.pointer (some ⟨g22, 0, none⟩)) rfl (fun _ => by go_simp) ?_
     simp only [Act.put, Xa, Xz, Xs]
     refine wl_cell 4 (.tmp 32) (.bool z.f) (own_row 0 rfl) rfl rfl rfl rfl Try.isAgg4 ?_
     simp only [Act.put, Xa, Xz, Xs]
     refine wl_nil ?_
     refine we_then ?_
     cases h23 : (z.f)
     ·
      skip
      refine wc_false rfl ?_
      refine wc_skip ?_
      refine we_in ?_
      refine we_then ?_
      refine wc_region ?_
      refine wl_val (.int .i64 3) rfl (fun w => run_nat (X := 2) (Y := 1) (Z := 3) rfl rfl rfl rfl (by omega) w) ?_
      simp only [Act.put, Xa, Xz, Xs]
      refine wl_val (.int .i64 3) rfl (fun _ => rfl) ?_
      simp only [Act.put, Xa, Xz, Xs]
      refine wl_nil ?_
      refine we_round ?_
      refine wr_round ?_
      refine wc_seq ?_
      refine wc_region ?_
      refine wl_val (.bool true) rfl (fun w => run_cmp rfl rfl rfl Try.underlying3 rfl w) ?_
      simp only [Act.put, Xa, Xz, Xs]
      refine wl_nil ?_
      refine we_then ?_
      refine wc_seq ?_
      refine wc_true rfl ?_
      refine wc_skip ?_
      refine we_then ?_
      refine wc_seq ?_
      refine wc_block ?_
      refine wc_seq ?_
      refine wc_region ?_
      refine wl_val (.int .i64 3) rfl (fun _ => rfl) ?_
      simp only [Act.put, Xa, Xz, Xs]
      refine wl_val (.agg #[.bool t.f, .int .i64 t.lo, .int .i64 t.hi]) rfl (fun w => run_index_row (k := 3) (z := 3) (ps := #[.bool t.f, .int .i64 t.lo, .int .i64 t.hi]) rfl rfl rfl rfl (by decide) Try.underlying47 Try.underlying25 rfl (by kernel_rfl) (by simp) w) ?_
      simp only [Act.put, Xa, Xz, Xs]
      refine wl_new 25 (#[.bool false, .int .i64 0, .int .i64 0]) rfl (fun _ => by go_simp) ?_
      intro g24
      simp only [Act.put, Xa, Xz, Xs]
      refine wl_val (.int .i64 3) rfl (fun _ => rfl) ?_
      simp only [Act.put, Xa, Xz, Xs]
      refine wl_store 0 25 (.tmp 10) (.tmp 22) (#[.bool t.f, .int .i64 t.lo, .int .i64 t.hi]) rfl rfl rfl rfl rfl (by kernel_rfl) rfl (by simp [Value.oneCell']) ?_
      simp only [Act.put, List.set_cons_zero]
      refine wl_nil ?_
      refine we_then ?_
      refine wc_seq ?_
      refine wc_region ?_
      refine wl_val (.int .i64 3) rfl (fun _ => rfl) ?_
      simp only [Act.put, Xa, Xz, Xs]
      refine wl_val (.pointer (some ⟨g24, 1, none⟩)) rfl (fun _ => by go_simp) ?_
      simp only [Act.put, Xa, Xz, Xs]
      refine wl_val (.pointer (some ⟨g24, 1, none⟩)) rfl (fun _ => by go_simp) ?_
      simp only [Act.put, Xa, Xz, Xs]
      refine wl_cell 2 (.tmp 25) (.int .i64 t.lo) (own_row 0 rfl) rfl rfl rfl rfl Try.isAgg2 ?_
      simp only [Act.put, Xa, Xz, Xs]
      refine wl_val (.pointer (some ⟨g24, 1, none⟩)) rfl (fun _ => by go_simp) ?_
      simp only [Act.put, Xa, Xz, Xs]
      refine wl_val (.pointer (some ⟨g24, 2, none⟩)) rfl (fun _ => by go_simp) ?_
      simp only [Act.put, Xa, Xz, Xs]
      refine wl_cell 2 (.tmp 28) (.int .i64 t.hi) (own_row 0 rfl) rfl rfl rfl rfl Try.isAgg2 ?_
      simp only [Act.put, Xa, Xz, Xs]
      refine wl_val (.agg #[.int .i64 t.lo, .int .i64 t.hi]) rfl (fun _ => by go_simp) ?_
      simp only [Act.put, Xa, Xz, Xs]
      refine wl_val (.pointer (some ⟨g5, 6, none⟩)) rfl (fun _ => by go_simp) ?_
      simp only [Act.put, Xa, Xz, Xs]
      refine wl_store_part 5 28 (.tmp 31) (.tmp 30) [.int .i64 t.lo, .int .i64 t.hi] rfl rfl rfl rfl rfl (by kernel_rfl) (Nat.le_of_ble_eq_true rfl) (by simp [Value.oneCell']) ?_
      simp only [putAt, Nat.reduceAdd, Act.put, List.set_cons_zero, List.set_cons_succ]
      refine wl_nil ?_
      refine we_then ?_
      refine wc_seq ?_
      refine wc_region ?_
      refine wl_val (.pointer (some ⟨g24, 0, none⟩)) rfl (fun _ => by go_simp) ?_
      simp only [Act.put, Xa, Xz, Xs]
      refine wl_cell 4 (.tmp 32) (.bool t.f) (own_row 0 rfl) rfl rfl rfl rfl Try.isAgg4 ?_
      simp only [Act.put, Xa, Xz, Xs]
      refine wl_nil ?_
      refine we_then ?_
      cases h25 : (t.f)
      ·
       skip
       refine wc_false rfl ?_
       refine wc_skip ?_
       refine we_in ?_
       refine we_then ?_
       refine wc_region ?_
       refine wl_val (.int .i64 4) rfl (fun w => run_nat (X := 3) (Y := 1) (Z := 4) rfl rfl rfl rfl (by omega) w) ?_
       simp only [Act.put, Xa, Xz, Xs]
       refine wl_val (.int .i64 4) rfl (fun _ => rfl) ?_
       simp only [Act.put, Xa, Xz, Xs]
       refine wl_nil ?_
       refine we_round ?_
       refine wr_round ?_
       refine wc_seq ?_
       refine wc_region ?_
       refine wl_val (.bool false) rfl (fun w => run_cmp rfl rfl rfl Try.underlying3 rfl w) ?_
       simp only [Act.put, Xa, Xz, Xs]
       refine wl_nil ?_
       refine we_then ?_
       refine wc_seq ?_
       refine wc_false rfl ?_
       refine wc_exit ?_
       refine we_then_exit ?_
       refine we_then_exit ?_
       refine we_in_here ?_
       refine we_then ?_
       refine wc_seq ?_
       refine wc_draw_fin (Γ := Unit) (fun _ j9 => ([.agg #[.int .i64 x.lo, .int .i64 x.hi, .int .i64 y.lo, .int .i64 y.hi, .int .i64 z.lo, .int .i64 z.hi, .int .i64 t.lo, .int .i64 t.hi], .agg #[.int .i64 1, .int .i64 1, .int .i64 0, .int .i64 0], undef, undef, .bool true]).getD j9 undef) (fun ld _ => ⟨g24, #[.bool false, .int .i64 t.lo, .int .i64 t.hi], 25⟩ :: ⟨g22, #[.bool false, .int .i64 z.lo, .int .i64 z.hi], 25⟩ :: ⟨g10, #[.bool true, .int .i64 y.lo, .int .i64 y.hi], 25⟩ :: ⟨g7, #[.bool true, .int .i64 x.lo, .int .i64 x.hi], 25⟩ :: ⟨g6, #[.int .i64 1, .int .i64 1, .int .i64 0, .int .i64 0], 30⟩ :: ⟨g5, #[.int .i64 x.lo, .int .i64 x.hi, .int .i64 y.lo, .int .i64 y.hi, .int .i64 z.lo, .int .i64 z.hi, .int .i64 t.lo, .int .i64 t.hi], 29⟩ :: ⟨g4, if ld 3 = true then #[.int .i64 1, .int .i64 1, .int .i64 0, .int .i64 0] else #[.int .i64 0, .int .i64 0, .int .i64 0, .int .i64 0], 30⟩ :: ⟨g3, if ld 2 = true then #[.int .i64 x.lo, .int .i64 x.hi, .int .i64 y.lo, .int .i64 y.hi, .int .i64 z.lo, .int .i64 z.hi, .int .i64 t.lo, .int .i64 t.hi] else #[.int .i64 0, .int .i64 0, .int .i64 0, .int .i64 0, .int .i64 0, .int .i64 0, .int .i64 0, .int .i64 0], 29⟩ :: ⟨g2, #[.bool false, .int .i64 t.lo, .int .i64 t.hi], 25⟩ :: ⟨g1, #[.bool true, .int .i64 x.lo, .int .i64 x.hi, .bool true, .int .i64 y.lo, .int .i64 y.hi, .bool false, .int .i64 z.lo, .int .i64 z.hi], 26⟩ :: []) (fun _ _ => True) () 45 (fun _ => ({ tmps := #[.agg #[.bool true, .int .i64 x.lo, .int .i64 x.hi, .bool true, .int .i64 y.lo, .int .i64 y.hi, .bool false, .int .i64 z.lo, .int .i64 z.hi], .agg #[.bool false, .int .i64 t.lo, .int .i64 t.hi], .pointer (some ⟨g1, 0, none⟩), .pointer (some ⟨g2, 0, none⟩), .pointer (some ⟨g3, 0, none⟩), .pointer (some ⟨g4, 0, none⟩), .bool true, .pointer (some ⟨g5, 0, none⟩), .pointer (some ⟨g6, 0, none⟩), .int .i64 3, .pointer (some ⟨g24, 0, none⟩), .pointer (some ⟨g1, 0, none⟩), .agg #[.bool true, .int .i64 x.lo, .int .i64 x.hi], .pointer (some ⟨g1, 3, none⟩), .agg #[.bool true, .int .i64 y.lo, .int .i64 y.hi], .pointer (some ⟨g1, 6, none⟩), .agg #[.bool false, .int .i64 z.lo, .int .i64 z.hi], .agg #[.bool false, .int .i64 t.lo, .int .i64 t.hi], .agg #[.bool true, .int .i64 x.lo, .int .i64 x.hi, .bool true, .int .i64 y.lo, .int .i64 y.hi, .bool false, .int .i64 z.lo, .int .i64 z.hi, .bool false, .int .i64 t.lo, .int .i64 t.hi], .int .i64 4, .bool false, .int .i64 3, .agg #[.bool false, .int .i64 t.lo, .int .i64 t.hi], .int .i64 3, .pointer (some ⟨g24, 1, none⟩), .pointer (some ⟨g24, 1, none⟩), .int .i64 t.lo, .pointer (some ⟨g24, 1, none⟩), .pointer (some ⟨g24, 2, none⟩), .int .i64 t.hi, .agg #[.int .i64 t.lo, .int .i64 t.hi], .pointer (some ⟨g5, 6, none⟩), .pointer (some ⟨g24, 0, none⟩), .bool false, .int .i64 1, .pointer (some ⟨g6, 1, none⟩), .pointer (some ⟨g10, 1, none⟩), .agg #[.int .i64 y.lo, .int .i64 y.hi], .bool true, .bool false, undef, undef, .int .i64 4, .agg #[.int .i64 x.lo, .int .i64 x.hi, .int .i64 y.lo, .int .i64 y.hi, .int .i64 z.lo, .int .i64 z.hi, .int .i64 t.lo, .int .i64 t.hi], .agg #[.int .i64 1, .int .i64 1, .int .i64 0, .int .i64 0]], defers := [] } : Act)) (fun _ => [⟨g24, #[.bool false, .int .i64 t.lo, .int .i64 t.hi], 25⟩, ⟨g22, #[.bool false, .int .i64 z.lo, .int .i64 z.hi], 25⟩, ⟨g10, #[.bool true, .int .i64 y.lo, .int .i64 y.hi], 25⟩, ⟨g7, #[.bool true, .int .i64 x.lo, .int .i64 x.hi], 25⟩, ⟨g6, #[.int .i64 1, .int .i64 1, .int .i64 0, .int .i64 0], 30⟩, ⟨g5, #[.int .i64 x.lo, .int .i64 x.hi, .int .i64 y.lo, .int .i64 y.hi, .int .i64 z.lo, .int .i64 z.hi, .int .i64 t.lo, .int .i64 t.hi], 29⟩, ⟨g4, #[.int .i64 1, .int .i64 1, .int .i64 0, .int .i64 0], 30⟩, ⟨g3, #[.int .i64 x.lo, .int .i64 x.hi, .int .i64 y.lo, .int .i64 y.hi, .int .i64 z.lo, .int .i64 z.hi, .int .i64 t.lo, .int .i64 t.hi], 29⟩, ⟨g2, #[.bool false, .int .i64 t.lo, .int .i64 t.hi], 25⟩, ⟨g1, #[.bool true, .int .i64 x.lo, .int .i64 x.hi, .bool true, .int .i64 y.lo, .int .i64 y.hi, .bool false, .int .i64 z.lo, .int .i64 z.hi], 26⟩]) (by kernel_rfl) rfl (by kernel_rfl) rfl trivial (fun _ => by kernel_rfl) (fun _ => rfl) ?_ ?_
       ·
        skip
        refine sps_cons (sp_val (.agg #[.int .i64 x.lo, .int .i64 x.hi, .int .i64 y.lo, .int .i64 y.hi, .int .i64 z.lo, .int .i64 z.hi, .int .i64 t.lo, .int .i64 t.hi]) rfl (fun _ => rfl) (fun _ _ h => h) (fun _ _ => rfl) (fun ld γ9 a9 w9 h9 hE9 => load_row (hE9.rowAt (i := 5) rfl) rfl (h9.out (by kernel_rfl) rfl) Try.underlying29 rfl (by kernel_rfl))) ?_
        refine sps_cons (sp_val (.agg #[.int .i64 1, .int .i64 1, .int .i64 0, .int .i64 0]) rfl (fun _ => rfl) (fun _ _ h => h) (fun _ _ => rfl) (fun ld γ9 a9 w9 h9 hE9 => load_row (hE9.rowAt (i := 4) rfl) rfl (h9.out (by kernel_rfl) rfl) Try.underlying30 rfl (by kernel_rfl))) ?_
        refine sps_cons ⟨fun ld γ9 a9 w9 h9 _ hE9 K9 hK9 => h9.go rfl ?_⟩ ?_
        ·
         have l0 : ld 2 = false := h9.off
         have hE2 := hE9
         simp only [l0, Bool.false_eq_true, if_false] at hE2
         exact wp_store_row 29 _ _ rfl _ (#[.int .i64 x.lo, .int .i64 x.hi, .int .i64 y.lo, .int .i64 y.hi, .int .i64 z.lo, .int .i64 z.hi, .int .i64 t.lo, .int .i64 t.hi]) (h9.out (by kernel_rfl) rfl) (h9.tmp 0 rfl (h9.dep (by kernel_rfl))) _ _ (hE2.rowAt (i := 7) rfl) (by kernel_rfl) rfl (by simp [Value.oneCell']) (hK9 γ9 _ (fun _ _ => rfl) trivial (hE2.setRow (i := 7) rfl (#[.int .i64 x.lo, .int .i64 x.hi, .int .i64 y.lo, .int .i64 y.hi, .int .i64 z.lo, .int .i64 z.hi, .int .i64 t.lo, .int .i64 t.hi])))
        refine sps_cons ⟨fun ld γ9 a9 w9 h9 _ hE9 K9 hK9 => h9.go rfl ?_⟩ ?_
        ·
         have l0 : ld 3 = false := h9.off
         have hE2 := hE9
         simp only [l0, Bool.false_eq_true, if_false] at hE2
         exact wp_store_row 30 _ _ rfl _ (#[.int .i64 1, .int .i64 1, .int .i64 0, .int .i64 0]) (h9.out (by kernel_rfl) rfl) (h9.tmp 1 rfl (h9.dep (by kernel_rfl))) _ _ (hE2.rowAt (i := 6) rfl) (by kernel_rfl) rfl (by simp [Value.oneCell']) (hK9 γ9 _ (fun _ _ => rfl) trivial (hE2.setRow (i := 6) rfl (#[.int .i64 1, .int .i64 1, .int .i64 0, .int .i64 0])))
        refine sps_cons (sp_val (.bool true) rfl (fun _ => rfl) (fun _ _ h => h) (fun _ _ => rfl) (fun ld γ9 a9 w9 h9 hE9 => rfl)) ?_
        exact sps_nil
       rintro ⟨⟩ -
       (try dsimp only)
       refine we_then ?_
       refine wc_ret ?_
       refine we_ret_cell2_tmp (.bool true) (own_row 7 rfl) (own_row 6 rfl) rfl rfl rfl rfl rfl Try.underlying29 rfl (by kernel_rfl) Try.underlying30 rfl (by kernel_rfl) (fun w1 hE => ?_)
       have b_x : badB x = false := by unfold badB; rw [h8, h9]; rfl
       have b_y : badB y = false := by unfold badB; rw [h11, h21]; rfl
       have b_z : badB z = false := by unfold badB; rw [h23]; rfl
       have b_t : badB t = false := by unfold badB; rw [h25]; rfl
       exact ⟨by unfold givV; rw [if_neg (by rw [b_x]; decide), if_neg (by rw [b_y]; decide), if_neg (by rw [b_z]; decide), if_neg (by rw [b_t]; decide), h8, h11, h23, h25]; rfl, hE.below⟩
      ·
       skip
       refine wc_true rfl ?_
       refine wc_seq ?_
       refine wc_region ?_
       refine wl_val (.int .i64 3) rfl (fun _ => rfl) ?_
       simp only [Act.put, Xa, Xz, Xs]
       refine wl_val (.pointer (some ⟨g6, 3, none⟩)) rfl (fun _ => by go_simp) ?_
       simp only [Act.put, Xa, Xz, Xs]
       refine wl_store_cell 4 3 (.tmp 35) (.const (.int .i64 1)) (.int .i64 0) (.int .i64 1) rfl rfl rfl rfl rfl rfl (by kernel_rfl) rfl ?_
       simp only [Act.put, List.set_cons_zero, List.set_cons_succ]
       refine wl_nil ?_
       refine we_then ?_
       refine wc_seq ?_
       refine wc_region ?_
       refine wl_val (.pointer (some ⟨g24, 1, none⟩)) rfl (fun _ => by go_simp) ?_
       simp only [Act.put, Xa, Xz, Xs]
       refine wl_part 23 (.tmp 36) [.int .i64 t.lo, .int .i64 t.hi] (own_row 0 rfl) rfl rfl rfl rfl Try.underlying23 rfl (by kernel_rfl) ?_
       simp only [Act.put, Xa, Xz, Xs]
       refine wl_call 11 #[.agg #[.int .i64 t.lo, .int .i64 t.hi]] (.bool (mayF t.lo t.hi)) rfl (fun _ => by go_simp) (fun W => may_any t.lo t.hi W) ?_
       simp only [Act.put, Xa, Xz, Xs]
       refine wl_val (.bool (!(mayF t.lo t.hi))) rfl (fun _ => by go_simp) ?_
       simp only [Act.put, Xa, Xz, Xs]
       refine wl_nil ?_
       refine we_then ?_
       cases h26 : (mayF t.lo t.hi)
       ·
        skip
        refine wc_true rfl ?_
        refine wc_seq ?_
        refine wc_draw_fin (Γ := Unit) (fun _ j9 => ([.agg #[.int .i64 x.lo, .int .i64 x.hi, .int .i64 y.lo, .int .i64 y.hi, .int .i64 z.lo, .int .i64 z.hi, .int .i64 t.lo, .int .i64 t.hi], .agg #[.int .i64 1, .int .i64 1, .int .i64 0, .int .i64 1], undef, undef, .bool false]).getD j9 undef) (fun ld _ => ⟨g24, #[.bool true, .int .i64 t.lo, .int .i64 t.hi], 25⟩ :: ⟨g22, #[.bool false, .int .i64 z.lo, .int .i64 z.hi], 25⟩ :: ⟨g10, #[.bool true, .int .i64 y.lo, .int .i64 y.hi], 25⟩ :: ⟨g7, #[.bool true, .int .i64 x.lo, .int .i64 x.hi], 25⟩ :: ⟨g6, #[.int .i64 1, .int .i64 1, .int .i64 0, .int .i64 1], 30⟩ :: ⟨g5, #[.int .i64 x.lo, .int .i64 x.hi, .int .i64 y.lo, .int .i64 y.hi, .int .i64 z.lo, .int .i64 z.hi, .int .i64 t.lo, .int .i64 t.hi], 29⟩ :: ⟨g4, if ld 3 = true then #[.int .i64 1, .int .i64 1, .int .i64 0, .int .i64 1] else #[.int .i64 0, .int .i64 0, .int .i64 0, .int .i64 0], 30⟩ :: ⟨g3, if ld 2 = true then #[.int .i64 x.lo, .int .i64 x.hi, .int .i64 y.lo, .int .i64 y.hi, .int .i64 z.lo, .int .i64 z.hi, .int .i64 t.lo, .int .i64 t.hi] else #[.int .i64 0, .int .i64 0, .int .i64 0, .int .i64 0, .int .i64 0, .int .i64 0, .int .i64 0, .int .i64 0], 29⟩ :: ⟨g2, #[.bool true, .int .i64 t.lo, .int .i64 t.hi], 25⟩ :: ⟨g1, #[.bool true, .int .i64 x.lo, .int .i64 x.hi, .bool true, .int .i64 y.lo, .int .i64 y.hi, .bool false, .int .i64 z.lo, .int .i64 z.hi], 26⟩ :: []) (fun _ _ => True) () 45 (fun _ => ({ tmps := #[.agg #[.bool true, .int .i64 x.lo, .int .i64 x.hi, .bool true, .int .i64 y.lo, .int .i64 y.hi, .bool false, .int .i64 z.lo, .int .i64 z.hi], .agg #[.bool true, .int .i64 t.lo, .int .i64 t.hi], .pointer (some ⟨g1, 0, none⟩), .pointer (some ⟨g2, 0, none⟩), .pointer (some ⟨g3, 0, none⟩), .pointer (some ⟨g4, 0, none⟩), .bool false, .pointer (some ⟨g5, 0, none⟩), .pointer (some ⟨g6, 0, none⟩), .int .i64 3, .pointer (some ⟨g24, 0, none⟩), .pointer (some ⟨g1, 0, none⟩), .agg #[.bool true, .int .i64 x.lo, .int .i64 x.hi], .pointer (some ⟨g1, 3, none⟩), .agg #[.bool true, .int .i64 y.lo, .int .i64 y.hi], .pointer (some ⟨g1, 6, none⟩), .agg #[.bool false, .int .i64 z.lo, .int .i64 z.hi], .agg #[.bool true, .int .i64 t.lo, .int .i64 t.hi], .agg #[.bool true, .int .i64 x.lo, .int .i64 x.hi, .bool true, .int .i64 y.lo, .int .i64 y.hi, .bool false, .int .i64 z.lo, .int .i64 z.hi, .bool true, .int .i64 t.lo, .int .i64 t.hi], .int .i64 3, .bool true, .int .i64 3, .agg #[.bool true, .int .i64 t.lo, .int .i64 t.hi], .int .i64 3, .pointer (some ⟨g24, 1, none⟩), .pointer (some ⟨g24, 1, none⟩), .int .i64 t.lo, .pointer (some ⟨g24, 1, none⟩), .pointer (some ⟨g24, 2, none⟩), .int .i64 t.hi, .agg #[.int .i64 t.lo, .int .i64 t.hi], .pointer (some ⟨g5, 6, none⟩), .pointer (some ⟨g24, 0, none⟩), .bool true, .int .i64 3, .pointer (some ⟨g6, 3, none⟩), .pointer (some ⟨g24, 1, none⟩), .agg #[.int .i64 t.lo, .int .i64 t.hi], .bool false, .bool true, .agg #[.int .i64 x.lo, .int .i64 x.hi, .int .i64 y.lo, .int .i64 y.hi, .int .i64 z.lo, .int .i64 z.hi, .int .i64 t.lo, .int .i64 t.hi], .agg #[.int .i64 1, .int .i64 1, .int .i64 0, .int .i64 1], .int .i64 3, undef, undef], defers := [] } : Act)) (fun _ => [⟨g24, #[.bool true, .int .i64 t.lo, .int .i64 t.hi], 25⟩, ⟨g22, #[.bool false, .int .i64 z.lo, .int .i64 z.hi], 25⟩, ⟨g10, #[.bool true, .int .i64 y.lo, .int .i64 y.hi], 25⟩, ⟨g7, #[.bool true, .int .i64 x.lo, .int .i64 x.hi], 25⟩, ⟨g6, #[.int .i64 1, .int .i64 1, .int .i64 0, .int .i64 1], 30⟩, ⟨g5, #[.int .i64 x.lo, .int .i64 x.hi, .int .i64 y.lo, .int .i64 y.hi, .int .i64 z.lo, .int .i64 z.hi, .int .i64 t.lo, .int .i64 t.hi], 29⟩, ⟨g4, #[.int .i64 1, .int .i64 1, .int .i64 0, .int .i64 1], 30⟩, ⟨g3, #[.int .i64 x.lo, .int .i64 x.hi, .int .i64 y.lo, .int .i64 y.hi, .int .i64 z.lo, .int .i64 z.hi, .int .i64 t.lo, .int .i64 t.hi], 29⟩, ⟨g2, #[.bool true, .int .i64 t.lo, .int .i64 t.hi], 25⟩, ⟨g1, #[.bool true, .int .i64 x.lo, .int .i64 x.hi, .bool true, .int .i64 y.lo, .int .i64 y.hi, .bool false, .int .i64 z.lo, .int .i64 z.hi], 26⟩]) (by kernel_rfl) rfl (by kernel_rfl) rfl trivial (fun _ => by kernel_rfl) (fun _ => rfl) ?_ ?_
        ·
         skip
         refine sps_cons (sp_val (.agg #[.int .i64 x.lo, .int .i64 x.hi, .int .i64 y.lo, .int .i64 y.hi, .int .i64 z.lo, .int .i64 z.hi, .int .i64 t.lo, .int .i64 t.hi]) rfl (fun _ => rfl) (fun _ _ h => h) (fun _ _ => rfl) (fun ld γ9 a9 w9 h9 hE9 => load_row (hE9.rowAt (i := 5) rfl) rfl (h9.out (by kernel_rfl) rfl) Try.underlying29 rfl (by kernel_rfl))) ?_
         refine sps_cons (sp_val (.agg #[.int .i64 1, .int .i64 1, .int .i64 0, .int .i64 1]) rfl (fun _ => rfl) (fun _ _ h => h) (fun _ _ => rfl) (fun ld γ9 a9 w9 h9 hE9 => load_row (hE9.rowAt (i := 4) rfl) rfl (h9.out (by kernel_rfl) rfl) Try.underlying30 rfl (by kernel_rfl))) ?_
         refine sps_cons ⟨fun ld γ9 a9 w9 h9 _ hE9 K9 hK9 => h9.go rfl ?_⟩ ?_
         ·
          have l0 : ld 2 = false := h9.off
          have hE2 := hE9
          simp only [l0, Bool.false_eq_true, if_false] at hE2
          exact wp_store_row 29 _ _ rfl _ (#[.int .i64 x.lo, .int .i64 x.hi, .int .i64 y.lo, .int .i64 y.hi, .int .i64 z.lo, .int .i64 z.hi, .int .i64 t.lo, .int .i64 t.hi]) (h9.out (by kernel_rfl) rfl) (h9.tmp 0 rfl (h9.dep (by kernel_rfl))) _ _ (hE2.rowAt (i := 7) rfl) (by kernel_rfl) rfl (by simp [Value.oneCell']) (hK9 γ9 _ (fun _ _ => rfl) trivial (hE2.setRow (i := 7) rfl (#[.int .i64 x.lo, .int .i64 x.hi, .int .i64 y.lo, .int .i64 y.hi, .int .i64 z.lo, .int .i64 z.hi, .int .i64 t.lo, .int .i64 t.hi])))
         refine sps_cons ⟨fun ld γ9 a9 w9 h9 _ hE9 K9 hK9 => h9.go rfl ?_⟩ ?_
         ·
          have l0 : ld 3 = false := h9.off
          have hE2 := hE9
          simp only [l0, Bool.false_eq_true, if_false] at hE2
          exact wp_store_row 30 _ _ rfl _ (#[.int .i64 1, .int .i64 1, .int .i64 0, .int .i64 1]) (h9.out (by kernel_rfl) rfl) (h9.tmp 1 rfl (h9.dep (by kernel_rfl))) _ _ (hE2.rowAt (i := 6) rfl) (by kernel_rfl) rfl (by simp [Value.oneCell']) (hK9 γ9 _ (fun _ _ => rfl) trivial (hE2.setRow (i := 6) rfl (#[.int .i64 1, .int .i64 1, .int .i64 0, .int .i64 1])))
         refine sps_cons (sp_val (.bool false) rfl (fun _ => rfl) (fun _ _ h => h) (fun _ _ => rfl) (fun ld γ9 a9 w9 h9 hE9 => rfl)) ?_
         exact sps_nil
        rintro ⟨⟩ -
        (try dsimp only)
        refine we_then ?_
        refine wc_ret ?_
        refine we_in_ret ?_
        refine we_then_ret ?_
        refine we_then_ret ?_
        refine we_in_ret ?_
        refine we_then_ret ?_
        refine we_ret_cell2_tmp (.bool false) (own_row 7 rfl) (own_row 6 rfl) rfl rfl rfl rfl rfl Try.underlying29 rfl (by kernel_rfl) Try.underlying30 rfl (by kernel_rfl) (fun w1 hE => ?_)
        have b_x : badB x = false := by unfold badB; rw [h8, h9]; rfl
        have b_y : badB y = false := by unfold badB; rw [h11, h21]; rfl
        have b_z : badB z = false := by unfold badB; rw [h23]; rfl
        have b_t : badB t = true := by unfold badB; rw [h25, h26]; rfl
        exact ⟨by unfold givV; rw [if_neg (by rw [b_x]; decide), if_neg (by rw [b_y]; decide), if_neg (by rw [b_z]; decide), if_pos b_t, h8, h11, h23, h25]; rfl, hE.below⟩
       ·
        skip
        refine wc_false rfl ?_
        refine wc_skip ?_
        refine we_in ?_
        refine we_then ?_
        refine wc_region ?_
        refine wl_val (.int .i64 4) rfl (fun w => run_nat (X := 3) (Y := 1) (Z := 4) rfl rfl rfl rfl (by omega) w) ?_
        simp only [Act.put, Xa, Xz, Xs]
        refine wl_val (.int .i64 4) rfl (fun _ => rfl) ?_
        simp only [Act.put, Xa, Xz, Xs]
        refine wl_nil ?_
        refine we_round ?_
        refine wr_round ?_
        refine wc_seq ?_
        refine wc_region ?_
        refine wl_val (.bool false) rfl (fun w => run_cmp rfl rfl rfl Try.underlying3 rfl w) ?_
        simp only [Act.put, Xa, Xz, Xs]
        refine wl_nil ?_
        refine we_then ?_
        refine wc_seq ?_
        refine wc_false rfl ?_
        refine wc_exit ?_
        refine we_then_exit ?_
        refine we_then_exit ?_
        refine we_in_here ?_
        refine we_then ?_
        refine wc_seq ?_
        refine wc_draw_fin (Γ := Unit) (fun _ j9 => ([.agg #[.int .i64 x.lo, .int .i64 x.hi, .int .i64 y.lo, .int .i64 y.hi, .int .i64 z.lo, .int .i64 z.hi, .int .i64 t.lo, .int .i64 t.hi], .agg #[.int .i64 1, .int .i64 1, .int .i64 0, .int .i64 1], undef, undef, .bool true]).getD j9 undef) (fun ld _ => ⟨g24, #[.bool true, .int .i64 t.lo, .int .i64 t.hi], 25⟩ :: ⟨g22, #[.bool false, .int .i64 z.lo, .int .i64 z.hi], 25⟩ :: ⟨g10, #[.bool true, .int .i64 y.lo, .int .i64 y.hi], 25⟩ :: ⟨g7, #[.bool true, .int .i64 x.lo, .int .i64 x.hi], 25⟩ :: ⟨g6, #[.int .i64 1, .int .i64 1, .int .i64 0, .int .i64 1], 30⟩ :: ⟨g5, #[.int .i64 x.lo, .int .i64 x.hi, .int .i64 y.lo, .int .i64 y.hi, .int .i64 z.lo, .int .i64 z.hi, .int .i64 t.lo, .int .i64 t.hi], 29⟩ :: ⟨g4, if ld 3 = true then #[.int .i64 1, .int .i64 1, .int .i64 0, .int .i64 1] else #[.int .i64 0, .int .i64 0, .int .i64 0, .int .i64 0], 30⟩ :: ⟨g3, if ld 2 = true then #[.int .i64 x.lo, .int .i64 x.hi, .int .i64 y.lo, .int .i64 y.hi, .int .i64 z.lo, .int .i64 z.hi, .int .i64 t.lo, .int .i64 t.hi] else #[.int .i64 0, .int .i64 0, .int .i64 0, .int .i64 0, .int .i64 0, .int .i64 0, .int .i64 0, .int .i64 0], 29⟩ :: ⟨g2, #[.bool true, .int .i64 t.lo, .int .i64 t.hi], 25⟩ :: ⟨g1, #[.bool true, .int .i64 x.lo, .int .i64 x.hi, .bool true, .int .i64 y.lo, .int .i64 y.hi, .bool false, .int .i64 z.lo, .int .i64 z.hi], 26⟩ :: []) (fun _ _ => True) () 45 (fun _ => ({ tmps := #[.agg #[.bool true, .int .i64 x.lo, .int .i64 x.hi, .bool true, .int .i64 y.lo, .int .i64 y.hi, .bool false, .int .i64 z.lo, .int .i64 z.hi], .agg #[.bool true, .int .i64 t.lo, .int .i64 t.hi], .pointer (some ⟨g1, 0, none⟩), .pointer (some ⟨g2, 0, none⟩), .pointer (some ⟨g3, 0, none⟩), .pointer (some ⟨g4, 0, none⟩), .bool true, .pointer (some ⟨g5, 0, none⟩), .pointer (some ⟨g6, 0, none⟩), .int .i64 3, .pointer (some ⟨g24, 0, none⟩), .pointer (some ⟨g1, 0, none⟩), .agg #[.bool true, .int .i64 x.lo, .int .i64 x.hi], .pointer (some ⟨g1, 3, none⟩), .agg #[.bool true, .int .i64 y.lo, .int .i64 y.hi], .pointer (some ⟨g1, 6, none⟩), .agg #[.bool false, .int .i64 z.lo, .int .i64 z.hi], .agg #[.bool true, .int .i64 t.lo, .int .i64 t.hi], .agg #[.bool true, .int .i64 x.lo, .int .i64 x.hi, .bool true, .int .i64 y.lo, .int .i64 y.hi, .bool false, .int .i64 z.lo, .int .i64 z.hi, .bool true, .int .i64 t.lo, .int .i64 t.hi], .int .i64 4, .bool false, .int .i64 3, .agg #[.bool true, .int .i64 t.lo, .int .i64 t.hi], .int .i64 3, .pointer (some ⟨g24, 1, none⟩), .pointer (some ⟨g24, 1, none⟩), .int .i64 t.lo, .pointer (some ⟨g24, 1, none⟩), .pointer (some ⟨g24, 2, none⟩), .int .i64 t.hi, .agg #[.int .i64 t.lo, .int .i64 t.hi], .pointer (some ⟨g5, 6, none⟩), .pointer (some ⟨g24, 0, none⟩), .bool true, .int .i64 3, .pointer (some ⟨g6, 3, none⟩), .pointer (some ⟨g24, 1, none⟩), .agg #[.int .i64 t.lo, .int .i64 t.hi], .bool true, .bool false, undef, undef, .int .i64 4, .agg #[.int .i64 x.lo, .int .i64 x.hi, .int .i64 y.lo, .int .i64 y.hi, .int .i64 z.lo, .int .i64 z.hi, .int .i64 t.lo, .int .i64 t.hi], .agg #[.int .i64 1, .int .i64 1, .int .i64 0, .int .i64 1]], defers := [] } : Act)) (fun _ => [⟨g24, #[.bool true, .int .i64 t.lo, .int .i64 t.hi], 25⟩, ⟨g22, #[.bool false, .int .i64 z.lo, .int .i64 z.hi], 25⟩, ⟨g10, #[.bool true, .int .i64 y.lo, .int .i64 y.hi], 25⟩, ⟨g7, #[.bool true, .int .i64 x.lo, .int .i64 x.hi], 25⟩, ⟨g6, #[.int .i64 1, .int .i64 1, .int .i64 0, .int .i64 1], 30⟩, ⟨g5, #[.int .i64 x.lo, .int .i64 x.hi, .int .i64 y.lo, .int .i64 y.hi, .int .i64 z.lo, .int .i64 z.hi, .int .i64 t.lo, .int .i64 t.hi], 29⟩, ⟨g4, #[.int .i64 1, .int .i64 1, .int .i64 0, .int .i64 1], 30⟩, ⟨g3, #[.int .i64 x.lo, .int .i64 x.hi, .int .i64 y.lo, .int .i64 y.hi, .int .i64 z.lo, .int .i64 z.hi, .int .i64 t.lo, .int .i64 t.hi], 29⟩, ⟨g2, #[.bool true, .int .i64 t.lo, .int .i64 t.hi], 25⟩, ⟨g1, #[.bool true, .int .i64 x.lo, .int .i64 x.hi, .bool true, .int .i64 y.lo, .int .i64 y.hi, .bool false, .int .i64 z.lo, .int .i64 z.hi], 26⟩]) (by kernel_rfl) rfl (by kernel_rfl) rfl trivial (fun _ => by kernel_rfl) (fun _ => rfl) ?_ ?_
        ·
         skip
         refine sps_cons (sp_val (.agg #[.int .i64 x.lo, .int .i64 x.hi, .int .i64 y.lo, .int .i64 y.hi, .int .i64 z.lo, .int .i64 z.hi, .int .i64 t.lo, .int .i64 t.hi]) rfl (fun _ => rfl) (fun _ _ h => h) (fun _ _ => rfl) (fun ld γ9 a9 w9 h9 hE9 => load_row (hE9.rowAt (i := 5) rfl) rfl (h9.out (by kernel_rfl) rfl) Try.underlying29 rfl (by kernel_rfl))) ?_
         refine sps_cons (sp_val (.agg #[.int .i64 1, .int .i64 1, .int .i64 0, .int .i64 1]) rfl (fun _ => rfl) (fun _ _ h => h) (fun _ _ => rfl) (fun ld γ9 a9 w9 h9 hE9 => load_row (hE9.rowAt (i := 4) rfl) rfl (h9.out (by kernel_rfl) rfl) Try.underlying30 rfl (by kernel_rfl))) ?_
         refine sps_cons ⟨fun ld γ9 a9 w9 h9 _ hE9 K9 hK9 => h9.go rfl ?_⟩ ?_
         ·
          have l0 : ld 2 = false := h9.off
          have hE2 := hE9
          simp only [l0, Bool.false_eq_true, if_false] at hE2
          exact wp_store_row 29 _ _ rfl _ (#[.int .i64 x.lo, .int .i64 x.hi, .int .i64 y.lo, .int .i64 y.hi, .int .i64 z.lo, .int .i64 z.hi, .int .i64 t.lo, .int .i64 t.hi]) (h9.out (by kernel_rfl) rfl) (h9.tmp 0 rfl (h9.dep (by kernel_rfl))) _ _ (hE2.rowAt (i := 7) rfl) (by kernel_rfl) rfl (by simp [Value.oneCell']) (hK9 γ9 _ (fun _ _ => rfl) trivial (hE2.setRow (i := 7) rfl (#[.int .i64 x.lo, .int .i64 x.hi, .int .i64 y.lo, .int .i64 y.hi, .int .i64 z.lo, .int .i64 z.hi, .int .i64 t.lo, .int .i64 t.hi])))
         refine sps_cons ⟨fun ld γ9 a9 w9 h9 _ hE9 K9 hK9 => h9.go rfl ?_⟩ ?_
         ·
          have l0 : ld 3 = false := h9.off
          have hE2 := hE9
          simp only [l0, Bool.false_eq_true, if_false] at hE2
          exact wp_store_row 30 _ _ rfl _ (#[.int .i64 1, .int .i64 1, .int .i64 0, .int .i64 1]) (h9.out (by kernel_rfl) rfl) (h9.tmp 1 rfl (h9.dep (by kernel_rfl))) _ _ (hE2.rowAt (i := 6) rfl) (by kernel_rfl) rfl (by simp [Value.oneCell']) (hK9 γ9 _ (fun _ _ => rfl) trivial (hE2.setRow (i := 6) rfl (#[.int .i64 1, .int .i64 1, .int .i64 0, .int .i64 1])))
         refine sps_cons (sp_val (.bool true) rfl (fun _ => rfl) (fun _ _ h => h) (fun _ _ => rfl) (fun ld γ9 a9 w9 h9 hE9 => rfl)) ?_
         exact sps_nil
        rintro ⟨⟩ -
        (try dsimp only)
        refine we_then ?_
        refine wc_ret ?_
        refine we_ret_cell2_tmp (.bool true) (own_row 7 rfl) (own_row 6 rfl) rfl rfl rfl rfl rfl Try.underlying29 rfl (by kernel_rfl) Try.underlying30 rfl (by kernel_rfl) (fun w1 hE => ?_)
        have b_x : badB x = false := by unfold badB; rw [h8, h9]; rfl
        have b_y : badB y = false := by unfold badB; rw [h11, h21]; rfl
        have b_z : badB z = false := by unfold badB; rw [h23]; rfl
        have b_t : badB t = false := by unfold badB; rw [h25, h26]; rfl
        exact ⟨by unfold givV; rw [if_neg (by rw [b_x]; decide), if_neg (by rw [b_y]; decide), if_neg (by rw [b_z]; decide), if_neg (by rw [b_t]; decide), h8, h11, h23, h25]; rfl, hE.below⟩
     ·
      skip
      refine wc_true rfl ?_
      refine wc_seq ?_
      refine wc_region ?_
      refine wl_val (.int .i64 2) rfl (fun _ => rfl) ?_
      simp only [Act.put, Xa, Xz, Xs]
      refine wl_val (.pointer (some ⟨g6, 2, none⟩)) rfl (fun _ => by go_simp) ?_
      simp only [Act.put, Xa, Xz, Xs]
      refine wl_store_cell 3 3 (.tmp 35) (.const (.int .i64 1)) (.int .i64 0) (.int .i64 1) rfl rfl rfl rfl rfl rfl (by kernel_rfl) rfl ?_
      simp only [Act.put, List.set_cons_zero, List.set_cons_succ]
      refine wl_nil ?_
      refine we_then ?_
      refine wc_seq ?_
      refine wc_region ?_
      refine wl_val (.pointer (some ⟨g22, 1, none⟩)) rfl (fun _ => by go_simp) ?_
      simp only [Act.put, Xa, Xz, Xs]
      refine wl_part 23 (.tmp 36) [.int .i64 z.lo, .int .i64 z.hi] (own_row 0 rfl) rfl rfl rfl rfl Try.underlying23 rfl (by kernel_rfl) ?_
      simp only [Act.put, Xa, Xz, Xs]
      refine wl_call 11 #[.agg #[.int .i64 z.lo, .int .i64 z.hi]] (.bool (mayF z.lo z.hi)) rfl (fun _ => by go_simp) (fun W => may_any z.lo z.hi W) ?_
      simp only [Act.put, Xa, Xz, Xs]
      refine wl_val (.bool (!(mayF z.lo z.hi))) rfl (fun _ => by go_simp) ?_
      simp only [Act.put, Xa, Xz, Xs]
      refine wl_nil ?_
      refine we_then ?_
      cases h27 : (mayF z.lo z.hi)
      ·
       skip
       refine wc_true rfl ?_
       refine wc_seq ?_
       refine wc_draw_fin (Γ := Unit) (fun _ j9 => ([.agg #[.int .i64 x.lo, .int .i64 x.hi, .int .i64 y.lo, .int .i64 y.hi, .int .i64 z.lo, .int .i64 z.hi, .int .i64 0, .int .i64 0], .agg #[.int .i64 1, .int .i64 1, .int .i64 1, .int .i64 0], undef, undef, .bool false]).getD j9 undef) (fun ld _ => ⟨g22, #[.bool true, .int .i64 z.lo, .int .i64 z.hi], 25⟩ :: ⟨g10, #[.bool true, .int .i64 y.lo, .int .i64 y.hi], 25⟩ :: ⟨g7, #[.bool true, .int .i64 x.lo, .int .i64 x.hi], 25⟩ :: ⟨g6, #[.int .i64 1, .int .i64 1, .int .i64 1, .int .i64 0], 30⟩ :: ⟨g5, #[.int .i64 x.lo, .int .i64 x.hi, .int .i64 y.lo, .int .i64 y.hi, .int .i64 z.lo, .int .i64 z.hi, .int .i64 0, .int .i64 0], 29⟩ :: ⟨g4, if ld 3 = true then #[.int .i64 1, .int .i64 1, .int .i64 1, .int .i64 0] else #[.int .i64 0, .int .i64 0, .int .i64 0, .int .i64 0], 30⟩ :: ⟨g3, if ld 2 = true then #[.int .i64 x.lo, .int .i64 x.hi, .int .i64 y.lo, .int .i64 y.hi, .int .i64 z.lo, .int .i64 z.hi, .int .i64 0, .int .i64 0] else #[.int .i64 0, .int .i64 0, .int .i64 0, .int .i64 0, .int .i64 0, .int .i64 0, .int .i64 0, .int .i64 0], 29⟩ :: ⟨g2, #[.bool t.f, .int .i64 t.lo, .int .i64 t.hi], 25⟩ :: ⟨g1, #[.bool true, .int .i64 x.lo, .int .i64 x.hi, .bool true, .int .i64 y.lo, .int .i64 y.hi, .bool true, .int .i64 z.lo, .int .i64 z.hi], 26⟩ :: []) (fun _ _ => True) () 45 (fun _ => ({ tmps := #[.agg #[.bool true, .int .i64 x.lo, .int .i64 x.hi, .bool true, .int .i64 y.lo, .int .i64 y.hi, .bool true, .int .i64 z.lo, .int .i64 z.hi], .agg #[.bool t.f, .int .i64 t.lo, .int .i64 t.hi], .pointer (some ⟨g1, 0, none⟩), .pointer (some ⟨g2, 0, none⟩), .pointer (some ⟨g3, 0, none⟩), .pointer (some ⟨g4, 0, none⟩), .bool false, .pointer (some ⟨g5, 0, none⟩), .pointer (some ⟨g6, 0, none⟩), .int .i64 2, .pointer (some ⟨g22, 0, none⟩), .pointer (some ⟨g1, 0, none⟩), .agg #[.bool true, .int .i64 x.lo, .int .i64 x.hi], .pointer (some ⟨g1, 3, none⟩), .agg #[.bool true, .int .i64 y.lo, .int .i64 y.hi], .pointer (some ⟨g1, 6, none⟩), .agg #[.bool true, .int .i64 z.lo, .int .i64 z.hi], .agg #[.bool t.f, .int .i64 t.lo, .int .i64 t.hi], .agg #[.bool true, .int .i64 x.lo, .int .i64 x.hi, .bool true, .int .i64 y.lo, .int .i64 y.hi, .bool true, .int .i64 z.lo, .int .i64 z.hi, .bool t.f, .int .i64 t.lo, .int .i64 t.hi], .int .i64 2, .bool true, .int .i64 2, .agg #[.bool true, .int .i64 z.lo, .int .i64 z.hi], .int .i64 2, .pointer (some ⟨g22, 1, none⟩), .pointer (some ⟨g22, 1, none⟩), .int .i64 z.lo, .pointer (some ⟨g22, 1, none⟩), .pointer (some ⟨g22, 2, none⟩), .int .i64 z.hi, .agg #[.int .i64 z.lo, .int .i64 z.hi], .pointer (some ⟨g5, 4, none⟩), .pointer (some ⟨g22, 0, none⟩), .bool true, .int .i64 2, .pointer (some ⟨g6, 2, none⟩), .pointer (some ⟨g22, 1, none⟩), .agg #[.int .i64 z.lo, .int .i64 z.hi], .bool false, .bool true, .agg #[.int .i64 x.lo, .int .i64 x.hi, .int .i64 y.lo, .int .i64 y.hi, .int .i64 z.lo, .int .i64 z.hi, .int .i64 0, .int .i64 0], .agg #[.int .i64 1, .int .i64 1, .int .i64 1, .int .i64 0], .int .i64 2, undef, undef], defers := [] } : Act)) (fun _ => [⟨g22, #[.bool true, .int .i64 z.lo, .int .i64 z.hi], 25⟩, ⟨g10, #[.bool true, .int .i64 y.lo, .int .i64 y.hi], 25⟩, ⟨g7, #[.bool true, .int .i64 x.lo, .int .i64 x.hi], 25⟩, ⟨g6, #[.int .i64 1, .int .i64 1, .int .i64 1, .int .i64 0], 30⟩, ⟨g5, #[.int .i64 x.lo, .int .i64 x.hi, .int .i64 y.lo, .int .i64 y.hi, .int .i64 z.lo, .int .i64 z.hi, .int .i64 0, .int .i64 0], 29⟩, ⟨g4, #[.int .i64 1, .int .i64 1, .int .i64 1, .int .i64 0], 30⟩, ⟨g3, #[.int .i64 x.lo, .int .i64 x.hi, .int .i64 y.lo, .int .i64 y.hi, .int .i64 z.lo, .int .i64 z.hi, .int .i64 0, .int .i64 0], 29⟩, ⟨g2, #[.bool t.f, .int .i64 t.lo, .int .i64 t.hi], 25⟩, ⟨g1, #[.bool true, .int .i64 x.lo, .int .i64 x.hi, .bool true, .int .i64 y.lo, .int .i64 y.hi, .bool true, .int .i64 z.lo, .int .i64 z.hi], 26⟩]) (by kernel_rfl) rfl (by kernel_rfl) rfl trivial (fun _ => by kernel_rfl) (fun _ => rfl) ?_ ?_
       ·
        skip
        refine sps_cons (sp_val (.agg #[.int .i64 x.lo, .int .i64 x.hi, .int .i64 y.lo, .int .i64 y.hi, .int .i64 z.lo, .int .i64 z.hi, .int .i64 0, .int .i64 0]) rfl (fun _ => rfl) (fun _ _ h => h) (fun _ _ => rfl) (fun ld γ9 a9 w9 h9 hE9 => load_row (hE9.rowAt (i := 4) rfl) rfl (h9.out (by kernel_rfl) rfl) Try.underlying29 rfl (by kernel_rfl))) ?_
        refine sps_cons (sp_val (.agg #[.int .i64 1, .int .i64 1, .int .i64 1, .int .i64 0]) rfl (fun _ => rfl) (fun _ _ h => h) (fun _ _ => rfl) (fun ld γ9 a9 w9 h9 hE9 => load_row (hE9.rowAt (i := 3) rfl) rfl (h9.out (by kernel_rfl) rfl) Try.underlying30 rfl (by kernel_rfl))) ?_
        refine sps_cons ⟨fun ld γ9 a9 w9 h9 _ hE9 K9 hK9 => h9.go rfl ?_⟩ ?_
        ·
         have l0 : ld 2 = false := h9.off
         have hE2 := hE9
         simp only [l0, Bool.false_eq_true, if_false] at hE2
         exact wp_store_row 29 _ _ rfl _ (#[.int .i64 x.lo, .int .i64 x.hi, .int .i64 y.lo, .int .i64 y.hi, .int .i64 z.lo, .int .i64 z.hi, .int .i64 0, .int .i64 0]) (h9.out (by kernel_rfl) rfl) (h9.tmp 0 rfl (h9.dep (by kernel_rfl))) _ _ (hE2.rowAt (i := 6) rfl) (by kernel_rfl) rfl (by simp [Value.oneCell']) (hK9 γ9 _ (fun _ _ => rfl) trivial (hE2.setRow (i := 6) rfl (#[.int .i64 x.lo, .int .i64 x.hi, .int .i64 y.lo, .int .i64 y.hi, .int .i64 z.lo, .int .i64 z.hi, .int .i64 0, .int .i64 0])))
        refine sps_cons ⟨fun ld γ9 a9 w9 h9 _ hE9 K9 hK9 => h9.go rfl ?_⟩ ?_
        ·
         have l0 : ld 3 = false := h9.off
         have hE2 := hE9
         simp only [l0, Bool.false_eq_true, if_false] at hE2
         exact wp_store_row 30 _ _ rfl _ (#[.int .i64 1, .int .i64 1, .int .i64 1, .int .i64 0]) (h9.out (by kernel_rfl) rfl) (h9.tmp 1 rfl (h9.dep (by kernel_rfl))) _ _ (hE2.rowAt (i := 5) rfl) (by kernel_rfl) rfl (by simp [Value.oneCell']) (hK9 γ9 _ (fun _ _ => rfl) trivial (hE2.setRow (i := 5) rfl (#[.int .i64 1, .int .i64 1, .int .i64 1, .int .i64 0])))
        refine sps_cons (sp_val (.bool false) rfl (fun _ => rfl) (fun _ _ h => h) (fun _ _ => rfl) (fun ld γ9 a9 w9 h9 hE9 => rfl)) ?_
        exact sps_nil
       rintro ⟨⟩ -
       (try dsimp only)
       refine we_then ?_
       refine wc_ret ?_
       refine we_in_ret ?_
       refine we_then_ret ?_
       refine we_then_ret ?_
       refine we_in_ret ?_
       refine we_then_ret ?_
       refine we_ret_cell2_tmp (.bool false) (own_row 6 rfl) (own_row 5 rfl) rfl rfl rfl rfl rfl Try.underlying29 rfl (by kernel_rfl) Try.underlying30 rfl (by kernel_rfl) (fun w1 hE => ?_)
       have b_x : badB x = false := by unfold badB; rw [h8, h9]; rfl
       have b_y : badB y = false := by unfold badB; rw [h11, h21]; rfl
       have b_z : badB z = true := by unfold badB; rw [h23, h27]; rfl
       exact ⟨by unfold givV; rw [if_neg (by rw [b_x]; decide), if_neg (by rw [b_y]; decide), if_pos b_z, h8, h11, h23]; rfl, hE.below⟩
      ·
       skip
       refine wc_false rfl ?_
       refine wc_skip ?_
       refine we_in ?_
       refine we_then ?_
       refine wc_region ?_
       refine wl_val (.int .i64 3) rfl (fun w => run_nat (X := 2) (Y := 1) (Z := 3) rfl rfl rfl rfl (by omega) w) ?_
       simp only [Act.put, Xa, Xz, Xs]
       refine wl_val (.int .i64 3) rfl (fun _ => rfl) ?_
       simp only [Act.put, Xa, Xz, Xs]
       refine wl_nil ?_
       refine we_round ?_
       refine wr_round ?_
       refine wc_seq ?_
       refine wc_region ?_
       refine wl_val (.bool true) rfl (fun w => run_cmp rfl rfl rfl Try.underlying3 rfl w) ?_
       simp only [Act.put, Xa, Xz, Xs]
       refine wl_nil ?_
       refine we_then ?_
       refine wc_seq ?_
       refine wc_true rfl ?_
       refine wc_skip ?_
       refine we_then ?_
       refine wc_seq ?_
       refine wc_block ?_
       refine wc_seq ?_
       refine wc_region ?_
       refine wl_val (.int .i64 3) rfl (fun _ => rfl) ?_
       simp only [Act.put, Xa, Xz, Xs]
       refine wl_val (.agg #[.bool t.f, .int .i64 t.lo, .int .i64 t.hi]) rfl (fun w => run_index_row (k := 3) (z := 3) (ps := #[.bool t.f, .int .i64 t.lo, .int .i64 t.hi]) rfl rfl rfl rfl (by decide) Try.underlying47 Try.underlying25 rfl (by kernel_rfl) (by simp) w) ?_
       simp only [Act.put, Xa, Xz, Xs]
       refine wl_new 25 (#[.bool false, .int .i64 0, .int .i64 0]) rfl (fun _ => by go_simp) ?_
       intro g28
       simp only [Act.put, Xa, Xz, Xs]
       refine wl_val (.int .i64 3) rfl (fun _ => rfl) ?_
       simp only [Act.put, Xa, Xz, Xs]
       refine wl_store 0 25 (.tmp 10) (.tmp 22) (#[.bool t.f, .int .i64 t.lo, .int .i64 t.hi]) rfl rfl rfl rfl rfl (by kernel_rfl) rfl (by simp [Value.oneCell']) ?_
       simp only [Act.put, List.set_cons_zero]
       refine wl_nil ?_
       refine we_then ?_
       refine wc_seq ?_
       refine wc_region ?_
       refine wl_val (.int .i64 3) rfl (fun _ => rfl) ?_
       simp only [Act.put, Xa, Xz, Xs]
       refine wl_val (.pointer (some ⟨g28, 1, none⟩)) rfl (fun _ => by go_simp) ?_
       simp only [Act.put, Xa, Xz, Xs]
       refine wl_val (.pointer (some ⟨g28, 1, none⟩)) rfl (fun _ => by go_simp) ?_
       simp only [Act.put, Xa, Xz, Xs]
       refine wl_cell 2 (.tmp 25) (.int .i64 t.lo) (own_row 0 rfl) rfl rfl rfl rfl Try.isAgg2 ?_
       simp only [Act.put, Xa, Xz, Xs]
       refine wl_val (.pointer (some ⟨g28, 1, none⟩)) rfl (fun _ => by go_simp) ?_
       simp only [Act.put, Xa, Xz, Xs]
       refine wl_val (.pointer (some ⟨g28, 2, none⟩)) rfl (fun _ => by go_simp) ?_
       simp only [Act.put, Xa, Xz, Xs]
       refine wl_cell 2 (.tmp 28) (.int .i64 t.hi) (own_row 0 rfl) rfl rfl rfl rfl Try.isAgg2 ?_
       simp only [Act.put, Xa, Xz, Xs]
       refine wl_val (.agg #[.int .i64 t.lo, .int .i64 t.hi]) rfl (fun _ => by go_simp) ?_
       simp only [Act.put, Xa, Xz, Xs]
       refine wl_val (.pointer (some ⟨g5, 6, none⟩)) rfl (fun _ => by go_simp) ?_
       simp only [Act.put, Xa, Xz, Xs]
       refine wl_store_part 5 28 (.tmp 31) (.tmp 30) [.int .i64 t.lo, .int .i64 t.hi] rfl rfl rfl rfl rfl (by kernel_rfl) (Nat.le_of_ble_eq_true rfl) (by simp [Value.oneCell']) ?_
       simp only [putAt, Nat.reduceAdd, Act.put, List.set_cons_zero, List.set_cons_succ]
       refine wl_nil ?_
       refine we_then ?_
       refine wc_seq ?_
       refine wc_region ?_
       refine wl_val (.pointer (some ⟨g28, 0, none⟩)) rfl (fun _ => by go_simp) ?_
       simp only [Act.put, Xa, Xz, Xs]
       refine wl_cell 4 (.tmp 32) (.bool t.f) (own_row 0 rfl) rfl rfl rfl rfl Try.isAgg4 ?_
       simp only [Act.put, Xa, Xz, Xs]
       refine wl_nil ?_
       refine we_then ?_
       cases h29 : (t.f)
       ·
        skip
        refine wc_false rfl ?_
        refine wc_skip ?_
        refine we_in ?_
        refine we_then ?_
        refine wc_region ?_
        refine wl_val (.int .i64 4) rfl (fun w => run_nat (X := 3) (Y := 1) (Z := 4) rfl rfl rfl rfl (by omega) w) ?_
        simp only [Act.put, Xa, Xz, Xs]
        refine wl_val (.int .i64 4) rfl (fun _ => rfl) ?_
        simp only [Act.put, Xa, Xz, Xs]
        refine wl_nil ?_
        refine we_round ?_
        refine wr_round ?_
        refine wc_seq ?_
        refine wc_region ?_
        refine wl_val (.bool false) rfl (fun w => run_cmp rfl rfl rfl Try.underlying3 rfl w) ?_
        simp only [Act.put, Xa, Xz, Xs]
        refine wl_nil ?_
        refine we_then ?_
        refine wc_seq ?_
        refine wc_false rfl ?_
        refine wc_exit ?_
        refine we_then_exit ?_
        refine we_then_exit ?_
        refine we_in_here ?_
        refine we_then ?_
        refine wc_seq ?_
        refine wc_draw_fin (Γ := Unit) (fun _ j9 => ([.agg #[.int .i64 x.lo, .int .i64 x.hi, .int .i64 y.lo, .int .i64 y.hi, .int .i64 z.lo, .int .i64 z.hi, .int .i64 t.lo, .int .i64 t.hi], .agg #[.int .i64 1, .int .i64 1, .int .i64 1, .int .i64 0], undef, undef, .bool true]).getD j9 undef) (fun ld _ => ⟨g28, #[.bool false, .int .i64 t.lo, .int .i64 t.hi], 25⟩ :: ⟨g22, #[.bool true, .int .i64 z.lo, .int .i64 z.hi], 25⟩ :: ⟨g10, #[.bool true, .int .i64 y.lo, .int .i64 y.hi], 25⟩ :: ⟨g7, #[.bool true, .int .i64 x.lo, .int .i64 x.hi], 25⟩ :: ⟨g6, #[.int .i64 1, .int .i64 1, .int .i64 1, .int .i64 0], 30⟩ :: ⟨g5, #[.int .i64 x.lo, .int .i64 x.hi, .int .i64 y.lo, .int .i64 y.hi, .int .i64 z.lo, .int .i64 z.hi, .int .i64 t.lo, .int .i64 t.hi], 29⟩ :: ⟨g4, if ld 3 = true then #[.int .i64 1, .int .i64 1, .int .i64 1, .int .i64 0] else #[.int .i64 0, .int .i64 0, .int .i64 0, .int .i64 0], 30⟩ :: ⟨g3, if ld 2 = true then #[.int .i64 x.lo, .int .i64 x.hi, .int .i64 y.lo, .int .i64 y.hi, .int .i64 z.lo, .int .i64 z.hi, .int .i64 t.lo, .int .i64 t.hi] else #[.int .i64 0, .int .i64 0, .int .i64 0, .int .i64 0, .int .i64 0, .int .i64 0, .int .i64 0, .int .i64 0], 29⟩ :: ⟨g2, #[.bool false, .int .i64 t.lo, .int .i64 t.hi], 25⟩ :: ⟨g1, #[.bool true, .int .i64 x.lo, .int .i64 x.hi, .bool true, .int .i64 y.lo, .int .i64 y.hi, .bool true, .int .i64 z.lo, .int .i64 z.hi], 26⟩ :: []) (fun _ _ => True) () 45 (fun _ => ({ tmps := #[.agg #[.bool true, .int .i64 x.lo, .int .i64 x.hi, .bool true, .int .i64 y.lo, .int .i64 y.hi, .bool true, .int .i64 z.lo, .int .i64 z.hi], .agg #[.bool false, .int .i64 t.lo, .int .i64 t.hi], .pointer (some ⟨g1, 0, none⟩), .pointer (some ⟨g2, 0, none⟩), .pointer (some ⟨g3, 0, none⟩), .pointer (some ⟨g4, 0, none⟩), .bool true, .pointer (some ⟨g5, 0, none⟩), .pointer (some ⟨g6, 0, none⟩), .int .i64 3, .pointer (some ⟨g28, 0, none⟩), .pointer (some ⟨g1, 0, none⟩), .agg #[.bool true, .int .i64 x.lo, .int .i64 x.hi], .pointer (some ⟨g1, 3, none⟩), .agg #[.bool true, .int .i64 y.lo, .int .i64 y.hi], .pointer (some ⟨g1, 6, none⟩), .agg #[.bool true, .int .i64 z.lo, .int .i64 z.hi], .agg #[.bool false, .int .i64 t.lo, .int .i64 t.hi], .agg #[.bool true, .int .i64 x.lo, .int .i64 x.hi, .bool true, .int .i64 y.lo, .int .i64 y.hi, .bool true, .int .i64 z.lo, .int .i64 z.hi, .bool false, .int .i64 t.lo, .int .i64 t.hi], .int .i64 4, .bool false, .int .i64 3, .agg #[.bool false, .int .i64 t.lo, .int .i64 t.hi], .int .i64 3, .pointer (some ⟨g28, 1, none⟩), .pointer (some ⟨g28, 1, none⟩), .int .i64 t.lo, .pointer (some ⟨g28, 1, none⟩), .pointer (some ⟨g28, 2, none⟩), .int .i64 t.hi, .agg #[.int .i64 t.lo, .int .i64 t.hi], .pointer (some ⟨g5, 6, none⟩), .pointer (some ⟨g28, 0, none⟩), .bool false, .int .i64 2, .pointer (some ⟨g6, 2, none⟩), .pointer (some ⟨g22, 1, none⟩), .agg #[.int .i64 z.lo, .int .i64 z.hi], .bool true, .bool false, undef, undef, .int .i64 4, .agg #[.int .i64 x.lo, .int .i64 x.hi, .int .i64 y.lo, .int .i64 y.hi, .int .i64 z.lo, .int .i64 z.hi, .int .i64 t.lo, .int .i64 t.hi], .agg #[.int .i64 1, .int .i64 1, .int .i64 1, .int .i64 0]], defers := [] } : Act)) (fun _ => [⟨g28, #[.bool false, .int .i64 t.lo, .int .i64 t.hi], 25⟩, ⟨g22, #[.bool true, .int .i64 z.lo, .int .i64 z.hi], 25⟩, ⟨g10, #[.bool true, .int .i64 y.lo, .int .i64 y.hi], 25⟩, ⟨g7, #[.bool true, .int .i64 x.lo, .int .i64 x.hi], 25⟩, ⟨g6, #[.int .i64 1, .int .i64 1, .int .i64 1, .int .i64 0], 30⟩, ⟨g5, #[.int .i64 x.lo, .int .i64 x.hi, .int .i64 y.lo, .int .i64 y.hi, .int .i64 z.lo, .int .i64 z.hi, .int .i64 t.lo, .int .i64 t.hi], 29⟩, ⟨g4, #[.int .i64 1, .int .i64 1, .int .i64 1, .int .i64 0], 30⟩, ⟨g3, #[.int .i64 x.lo, .int .i64 x.hi, .int .i64 y.lo, .int .i64 y.hi, .int .i64 z.lo, .int .i64 z.hi, .int .i64 t.lo, .int .i64 t.hi], 29⟩, ⟨g2, #[.bool false, .int .i64 t.lo, .int .i64 t.hi], 25⟩, ⟨g1, #[.bool true, .int .i64 x.lo, .int .i64 x.hi, .bool true, .int .i64 y.lo, .int .i64 y.hi, .bool true, .int .i64 z.lo, .int .i64 z.hi], 26⟩]) (by kernel_rfl) rfl (by kernel_rfl) rfl trivial (fun _ => by kernel_rfl) (fun _ => rfl) ?_ ?_
        ·
         skip
         refine sps_cons (sp_val (.agg #[.int .i64 x.lo, .int .i64 x.hi, .int .i64 y.lo, .int .i64 y.hi, .int .i64 z.lo, .int .i64 z.hi, .int .i64 t.lo, .int .i64 t.hi]) rfl (fun _ => rfl) (fun _ _ h => h) (fun _ _ => rfl) (fun ld γ9 a9 w9 h9 hE9 => load_row (hE9.rowAt (i := 5) rfl) rfl (h9.out (by kernel_rfl) rfl) Try.underlying29 rfl (by kernel_rfl))) ?_
         refine sps_cons (sp_val (.agg #[.int .i64 1, .int .i64 1, .int .i64 1, .int .i64 0]) rfl (fun _ => rfl) (fun _ _ h => h) (fun _ _ => rfl) (fun ld γ9 a9 w9 h9 hE9 => load_row (hE9.rowAt (i := 4) rfl) rfl (h9.out (by kernel_rfl) rfl) Try.underlying30 rfl (by kernel_rfl))) ?_
         refine sps_cons ⟨fun ld γ9 a9 w9 h9 _ hE9 K9 hK9 => h9.go rfl ?_⟩ ?_
         ·
          have l0 : ld 2 = false := h9.off
          have hE2 := hE9
          simp only [l0, Bool.false_eq_true, if_false] at hE2
          exact wp_store_row 29 _ _ rfl _ (#[.int .i64 x.lo, .int .i64 x.hi, .int .i64 y.lo, .int .i64 y.hi, .int .i64 z.lo, .int .i64 z.hi, .int .i64 t.lo, .int .i64 t.hi]) (h9.out (by kernel_rfl) rfl) (h9.tmp 0 rfl (h9.dep (by kernel_rfl))) _ _ (hE2.rowAt (i := 7) rfl) (by kernel_rfl) rfl (by simp [Value.oneCell']) (hK9 γ9 _ (fun _ _ => rfl) trivial (hE2.setRow (i := 7) rfl (#[.int .i64 x.lo, .int .i64 x.hi, .int .i64 y.lo, .int .i64 y.hi, .int .i64 z.lo, .int .i64 z.hi, .int .i64 t.lo, .int .i64 t.hi])))
         refine sps_cons ⟨fun ld γ9 a9 w9 h9 _ hE9 K9 hK9 => h9.go rfl ?_⟩ ?_
         ·
          have l0 : ld 3 = false := h9.off
          have hE2 := hE9
          simp only [l0, Bool.false_eq_true, if_false] at hE2
          exact wp_store_row 30 _ _ rfl _ (#[.int .i64 1, .int .i64 1, .int .i64 1, .int .i64 0]) (h9.out (by kernel_rfl) rfl) (h9.tmp 1 rfl (h9.dep (by kernel_rfl))) _ _ (hE2.rowAt (i := 6) rfl) (by kernel_rfl) rfl (by simp [Value.oneCell']) (hK9 γ9 _ (fun _ _ => rfl) trivial (hE2.setRow (i := 6) rfl (#[.int .i64 1, .int .i64 1, .int .i64 1, .int .i64 0])))
         refine sps_cons (sp_val (.bool true) rfl (fun _ => rfl) (fun _ _ h => h) (fun _ _ => rfl) (fun ld γ9 a9 w9 h9 hE9 => rfl)) ?_
         exact sps_nil
        rintro ⟨⟩ -
        (try dsimp only)
        refine we_then ?_
        refine wc_ret ?_
        refine we_ret_cell2_tmp (.bool true) (own_row 7 rfl) (own_row 6 rfl) rfl rfl rfl rfl rfl Try.underlying29 rfl (by kernel_rfl) Try.underlying30 rfl (by kernel_rfl) (fun w1 hE => ?_)
        have b_x : badB x = false := by unfold badB; rw [h8, h9]; rfl
        have b_y : badB y = false := by unfold badB; rw [h11, h21]; rfl
        have b_z : badB z = false := by unfold badB; rw [h23, h27]; rfl
        have b_t : badB t = false := by unfold badB; rw [h29]; rfl
        exact ⟨by unfold givV; rw [if_neg (by rw [b_x]; decide), if_neg (by rw [b_y]; decide), if_neg (by rw [b_z]; decide), if_neg (by rw [b_t]; decide), h8, h11, h23, h29]; rfl, hE.below⟩
       ·
        skip
        refine wc_true rfl ?_
        refine wc_seq ?_
        refine wc_region ?_
        refine wl_val (.int .i64 3) rfl (fun _ => rfl) ?_
        simp only [Act.put, Xa, Xz, Xs]
        refine wl_val (.pointer (some ⟨g6, 3, none⟩)) rfl (fun _ => by go_simp) ?_
        simp only [Act.put, Xa, Xz, Xs]
        refine wl_store_cell 4 3 (.tmp 35) (.const (.int .i64 1)) (.int .i64 0) (.int .i64 1) rfl rfl rfl rfl rfl rfl (by kernel_rfl) rfl ?_
        simp only [Act.put, List.set_cons_zero, List.set_cons_succ]
        refine wl_nil ?_
        refine we_then ?_
        refine wc_seq ?_
        refine wc_region ?_
        refine wl_val (.pointer (some ⟨g28, 1, none⟩)) rfl (fun _ => by go_simp) ?_
        simp only [Act.put, Xa, Xz, Xs]
        refine wl_part 23 (.tmp 36) [.int .i64 t.lo, .int .i64 t.hi] (own_row 0 rfl) rfl rfl rfl rfl Try.underlying23 rfl (by kernel_rfl) ?_
        simp only [Act.put, Xa, Xz, Xs]
        refine wl_call 11 #[.agg #[.int .i64 t.lo, .int .i64 t.hi]] (.bool (mayF t.lo t.hi)) rfl (fun _ => by go_simp) (fun W => may_any t.lo t.hi W) ?_
        simp only [Act.put, Xa, Xz, Xs]
        refine wl_val (.bool (!(mayF t.lo t.hi))) rfl (fun _ => by go_simp) ?_
        simp only [Act.put, Xa, Xz, Xs]
        refine wl_nil ?_
        refine we_then ?_
        cases h30 : (mayF t.lo t.hi)
        ·
         skip
         refine wc_true rfl ?_
         refine wc_seq ?_
         refine wc_draw_fin (Γ := Unit) (fun _ j9 => ([.agg #[.int .i64 x.lo, .int .i64 x.hi, .int .i64 y.lo, .int .i64 y.hi, .int .i64 z.lo, .int .i64 z.hi, .int .i64 t.lo, .int .i64 t.hi], .agg #[.int .i64 1, .int .i64 1, .int .i64 1, .int .i64 1], undef, undef, .bool false]).getD j9 undef) (fun ld _ => ⟨g28, #[.bool true, .int .i64 t.lo, .int .i64 t.hi], 25⟩ :: ⟨g22, #[.bool true, .int .i64 z.lo, .int .i64 z.hi], 25⟩ :: ⟨g10, #[.bool true, .int .i64 y.lo, .int .i64 y.hi], 25⟩ :: ⟨g7, #[.bool true, .int .i64 x.lo, .int .i64 x.hi], 25⟩ :: ⟨g6, #[.int .i64 1, .int .i64 1, .int .i64 1, .int .i64 1], 30⟩ :: ⟨g5, #[.int .i64 x.lo, .int .i64 x.hi, .int .i64 y.lo, .int .i64 y.hi, .int .i64 z.lo, .int .i64 z.hi, .int .i64 t.lo, .int .i64 t.hi], 29⟩ :: ⟨g4, if ld 3 = true then #[.int .i64 1, .int .i64 1, .int .i64 1, .int .i64 1] else #[.int .i64 0, .int .i64 0, .int .i64 0, .int .i64 0], 30⟩ :: ⟨g3, if ld 2 = true then #[.int .i64 x.lo, .int .i64 x.hi, .int .i64 y.lo, .int .i64 y.hi, .int .i64 z.lo, .int .i64 z.hi, .int .i64 t.lo, .int .i64 t.hi] else #[.int .i64 0, .int .i64 0, .int .i64 0, .int .i64 0, .int .i64 0, .int .i64 0, .int .i64 0, .int .i64 0], 29⟩ :: ⟨g2, #[.bool true, .int .i64 t.lo, .int .i64 t.hi], 25⟩ :: ⟨g1, #[.bool true, .int .i64 x.lo, .int .i64 x.hi, .bool true, .int .i64 y.lo, .int .i64 y.hi, .bool true, .int .i64 z.lo, .int .i64 z.hi], 26⟩ :: []) (fun _ _ => True) () 45 (fun _ => ({ tmps := #[.agg #[.bool true, .int .i64 x.lo, .int .i64 x.hi, .bool true, .int .i64 y.lo, .int .i64 y.hi, .bool true, .int .i64 z.lo, .int .i64 z.hi], .agg #[.bool true, .int .i64 t.lo, .int .i64 t.hi], .pointer (some ⟨g1, 0, none⟩), .pointer (some ⟨g2, 0, none⟩), .pointer (some ⟨g3, 0, none⟩), .pointer (some ⟨g4, 0, none⟩), .bool false, .pointer (some ⟨g5, 0, none⟩), .pointer (some ⟨g6, 0, none⟩), .int .i64 3, .pointer (some ⟨g28, 0, none⟩), .pointer (some ⟨g1, 0, none⟩), .agg #[.bool true, .int .i64 x.lo, .int .i64 x.hi], .pointer (some ⟨g1, 3, none⟩), .agg #[.bool true, .int .i64 y.lo, .int .i64 y.hi], .pointer (some ⟨g1, 6, none⟩), .agg #[.bool true, .int .i64 z.lo, .int .i64 z.hi], .agg #[.bool true, .int .i64 t.lo, .int .i64 t.hi], .agg #[.bool true, .int .i64 x.lo, .int .i64 x.hi, .bool true, .int .i64 y.lo, .int .i64 y.hi, .bool true, .int .i64 z.lo, .int .i64 z.hi, .bool true, .int .i64 t.lo, .int .i64 t.hi], .int .i64 3, .bool true, .int .i64 3, .agg #[.bool true, .int .i64 t.lo, .int .i64 t.hi], .int .i64 3, .pointer (some ⟨g28, 1, none⟩), .pointer (some ⟨g28, 1, none⟩), .int .i64 t.lo, .pointer (some ⟨g28, 1, none⟩), .pointer (some ⟨g28, 2, none⟩), .int .i64 t.hi, .agg #[.int .i64 t.lo, .int .i64 t.hi], .pointer (some ⟨g5, 6, none⟩), .pointer (some ⟨g28, 0, none⟩), .bool true, .int .i64 3, .pointer (some ⟨g6, 3, none⟩), .pointer (some ⟨g28, 1, none⟩), .agg #[.int .i64 t.lo, .int .i64 t.hi], .bool false, .bool true, .agg #[.int .i64 x.lo, .int .i64 x.hi, .int .i64 y.lo, .int .i64 y.hi, .int .i64 z.lo, .int .i64 z.hi, .int .i64 t.lo, .int .i64 t.hi], .agg #[.int .i64 1, .int .i64 1, .int .i64 1, .int .i64 1], .int .i64 3, undef, undef], defers := [] } : Act)) (fun _ => [⟨g28, #[.bool true, .int .i64 t.lo, .int .i64 t.hi], 25⟩, ⟨g22, #[.bool true, .int .i64 z.lo, .int .i64 z.hi], 25⟩, ⟨g10, #[.bool true, .int .i64 y.lo, .int .i64 y.hi], 25⟩, ⟨g7, #[.bool true, .int .i64 x.lo, .int .i64 x.hi], 25⟩, ⟨g6, #[.int .i64 1, .int .i64 1, .int .i64 1, .int .i64 1], 30⟩, ⟨g5, #[.int .i64 x.lo, .int .i64 x.hi, .int .i64 y.lo, .int .i64 y.hi, .int .i64 z.lo, .int .i64 z.hi, .int .i64 t.lo, .int .i64 t.hi], 29⟩, ⟨g4, #[.int .i64 1, .int .i64 1, .int .i64 1, .int .i64 1], 30⟩, ⟨g3, #[.int .i64 x.lo, .int .i64 x.hi, .int .i64 y.lo, .int .i64 y.hi, .int .i64 z.lo, .int .i64 z.hi, .int .i64 t.lo, .int .i64 t.hi], 29⟩, ⟨g2, #[.bool true, .int .i64 t.lo, .int .i64 t.hi], 25⟩, ⟨g1, #[.bool true, .int .i64 x.lo, .int .i64 x.hi, .bool true, .int .i64 y.lo, .int .i64 y.hi, .bool true, .int .i64 z.lo, .int .i64 z.hi], 26⟩]) (by kernel_rfl) rfl (by kernel_rfl) rfl trivial (fun _ => by kernel_rfl) (fun _ => rfl) ?_ ?_
         ·
          skip
          refine sps_cons (sp_val (.agg #[.int .i64 x.lo, .int .i64 x.hi, .int .i64 y.lo, .int .i64 y.hi, .int .i64 z.lo, .int .i64 z.hi, .int .i64 t.lo, .int .i64 t.hi]) rfl (fun _ => rfl) (fun _ _ h => h) (fun _ _ => rfl) (fun ld γ9 a9 w9 h9 hE9 => load_row (hE9.rowAt (i := 5) rfl) rfl (h9.out (by kernel_rfl) rfl) Try.underlying29 rfl (by kernel_rfl))) ?_
          refine sps_cons (sp_val (.agg #[.int .i64 1, .int .i64 1, .int .i64 1, .int .i64 1]) rfl (fun _ => rfl) (fun _ _ h => h) (fun _ _ => rfl) (fun ld γ9 a9 w9 h9 hE9 => load_row (hE9.rowAt (i := 4) rfl) rfl (h9.out (by kernel_rfl) rfl) Try.underlying30 rfl (by kernel_rfl))) ?_
          refine sps_cons ⟨fun ld γ9 a9 w9 h9 _ hE9 K9 hK9 => h9.go rfl ?_⟩ ?_
          ·
           have l0 : ld 2 = false := h9.off
           have hE2 := hE9
           simp only [l0, Bool.false_eq_true, if_false] at hE2
           exact wp_store_row 29 _ _ rfl _ (#[.int .i64 x.lo, .int .i64 x.hi, .int .i64 y.lo, .int .i64 y.hi, .int .i64 z.lo, .int .i64 z.hi, .int .i64 t.lo, .int .i64 t.hi]) (h9.out (by kernel_rfl) rfl) (h9.tmp 0 rfl (h9.dep (by kernel_rfl))) _ _ (hE2.rowAt (i := 7) rfl) (by kernel_rfl) rfl (by simp [Value.oneCell']) (hK9 γ9 _ (fun _ _ => rfl) trivial (hE2.setRow (i := 7) rfl (#[.int .i64 x.lo, .int .i64 x.hi, .int .i64 y.lo, .int .i64 y.hi, .int .i64 z.lo, .int .i64 z.hi, .int .i64 t.lo, .int .i64 t.hi])))
          refine sps_cons ⟨fun ld γ9 a9 w9 h9 _ hE9 K9 hK9 => h9.go rfl ?_⟩ ?_
          ·
           have l0 : ld 3 = false := h9.off
           have hE2 := hE9
           simp only [l0, Bool.false_eq_true, if_false] at hE2
           exact wp_store_row 30 _ _ rfl _ (#[.int .i64 1, .int .i64 1, .int .i64 1, .int .i64 1]) (h9.out (by kernel_rfl) rfl) (h9.tmp 1 rfl (h9.dep (by kernel_rfl))) _ _ (hE2.rowAt (i := 6) rfl) (by kernel_rfl) rfl (by simp [Value.oneCell']) (hK9 γ9 _ (fun _ _ => rfl) trivial (hE2.setRow (i := 6) rfl (#[.int .i64 1, .int .i64 1, .int .i64 1, .int .i64 1])))
          refine sps_cons (sp_val (.bool false) rfl (fun _ => rfl) (fun _ _ h => h) (fun _ _ => rfl) (fun ld γ9 a9 w9 h9 hE9 => rfl)) ?_
          exact sps_nil
         rintro ⟨⟩ -
         (try dsimp only)
         refine we_then ?_
         refine wc_ret ?_
         refine we_in_ret ?_
         refine we_then_ret ?_
         refine we_then_ret ?_
         refine we_in_ret ?_
         refine we_then_ret ?_
         refine we_ret_cell2_tmp (.bool false) (own_row 7 rfl) (own_row 6 rfl) rfl rfl rfl rfl rfl Try.underlying29 rfl (by kernel_rfl) Try.underlying30 rfl (by kernel_rfl) (fun w1 hE => ?_)
         have b_x : badB x = false := by unfold badB; rw [h8, h9]; rfl
         have b_y : badB y = false := by unfold badB; rw [h11, h21]; rfl
         have b_z : badB z = false := by unfold badB; rw [h23, h27]; rfl
         have b_t : badB t = true := by unfold badB; rw [h29, h30]; rfl
         exact ⟨by unfold givV; rw [if_neg (by rw [b_x]; decide), if_neg (by rw [b_y]; decide), if_neg (by rw [b_z]; decide), if_pos b_t, h8, h11, h23, h29]; rfl, hE.below⟩
        ·
         skip
         refine wc_false rfl ?_
         refine wc_skip ?_
         refine we_in ?_
         refine we_then ?_
         refine wc_region ?_
         refine wl_val (.int .i64 4) rfl (fun w => run_nat (X := 3) (Y := 1) (Z := 4) rfl rfl rfl rfl (by omega) w) ?_
         simp only [Act.put, Xa, Xz, Xs]
         refine wl_val (.int .i64 4) rfl (fun _ => rfl) ?_
         simp only [Act.put, Xa, Xz, Xs]
         refine wl_nil ?_
         refine we_round ?_
         refine wr_round ?_
         refine wc_seq ?_
         refine wc_region ?_
         refine wl_val (.bool false) rfl (fun w => run_cmp rfl rfl rfl Try.underlying3 rfl w) ?_
         simp only [Act.put, Xa, Xz, Xs]
         refine wl_nil ?_
         refine we_then ?_
         refine wc_seq ?_
         refine wc_false rfl ?_
         refine wc_exit ?_
         refine we_then_exit ?_
         refine we_then_exit ?_
         refine we_in_here ?_
         refine we_then ?_
         refine wc_seq ?_
         refine wc_draw_fin (Γ := Unit) (fun _ j9 => ([.agg #[.int .i64 x.lo, .int .i64 x.hi, .int .i64 y.lo, .int .i64 y.hi, .int .i64 z.lo, .int .i64 z.hi, .int .i64 t.lo, .int .i64 t.hi], .agg #[.int .i64 1, .int .i64 1, .int .i64 1, .int .i64 1], undef, undef, .bool true]).getD j9 undef) (fun ld _ => ⟨g28, #[.bool true, .int .i64 t.lo, .int .i64 t.hi], 25⟩ :: ⟨g22, #[.bool true, .int .i64 z.lo, .int .i64 z.hi], 25⟩ :: ⟨g10, #[.bool true, .int .i64 y.lo, .int .i64 y.hi], 25⟩ :: ⟨g7, #[.bool true, .int .i64 x.lo, .int .i64 x.hi], 25⟩ :: ⟨g6, #[.int .i64 1, .int .i64 1, .int .i64 1, .int .i64 1], 30⟩ :: ⟨g5, #[.int .i64 x.lo, .int .i64 x.hi, .int .i64 y.lo, .int .i64 y.hi, .int .i64 z.lo, .int .i64 z.hi, .int .i64 t.lo, .int .i64 t.hi], 29⟩ :: ⟨g4, if ld 3 = true then #[.int .i64 1, .int .i64 1, .int .i64 1, .int .i64 1] else #[.int .i64 0, .int .i64 0, .int .i64 0, .int .i64 0], 30⟩ :: ⟨g3, if ld 2 = true then #[.int .i64 x.lo, .int .i64 x.hi, .int .i64 y.lo, .int .i64 y.hi, .int .i64 z.lo, .int .i64 z.hi, .int .i64 t.lo, .int .i64 t.hi] else #[.int .i64 0, .int .i64 0, .int .i64 0, .int .i64 0, .int .i64 0, .int .i64 0, .int .i64 0, .int .i64 0], 29⟩ :: ⟨g2, #[.bool true, .int .i64 t.lo, .int .i64 t.hi], 25⟩ :: ⟨g1, #[.bool true, .int .i64 x.lo, .int .i64 x.hi, .bool true, .int .i64 y.lo, .int .i64 y.hi, .bool true, .int .i64 z.lo, .int .i64 z.hi], 26⟩ :: []) (fun _ _ => True) () 45 (fun _ => ({ tmps := #[.agg #[.bool true, .int .i64 x.lo, .int .i64 x.hi, .bool true, .int .i64 y.lo, .int .i64 y.hi, .bool true, .int .i64 z.lo, .int .i64 z.hi], .agg #[.bool true, .int .i64 t.lo, .int .i64 t.hi], .pointer (some ⟨g1, 0, none⟩), .pointer (some ⟨g2, 0, none⟩), .pointer (some ⟨g3, 0, none⟩), .pointer (some ⟨g4, 0, none⟩), .bool true, .pointer (some ⟨g5, 0, none⟩), .pointer (some ⟨g6, 0, none⟩), .int .i64 3, .pointer (some ⟨g28, 0, none⟩), .pointer (some ⟨g1, 0, none⟩), .agg #[.bool true, .int .i64 x.lo, .int .i64 x.hi], .pointer (some ⟨g1, 3, none⟩), .agg #[.bool true, .int .i64 y.lo, .int .i64 y.hi], .pointer (some ⟨g1, 6, none⟩), .agg #[.bool true, .int .i64 z.lo, .int .i64 z.hi], .agg #[.bool true, .int .i64 t.lo, .int .i64 t.hi], .agg #[.bool true, .int .i64 x.lo, .int .i64 x.hi, .bool true, .int .i64 y.lo, .int .i64 y.hi, .bool true, .int .i64 z.lo, .int .i64 z.hi, .bool true, .int .i64 t.lo, .int .i64 t.hi], .int .i64 4, .bool false, .int .i64 3, .agg #[.bool true, .int .i64 t.lo, .int .i64 t.hi], .int .i64 3, .pointer (some ⟨g28, 1, none⟩), .pointer (some ⟨g28, 1, none⟩), .int .i64 t.lo, .pointer (some ⟨g28, 1, none⟩), .pointer (some ⟨g28, 2, none⟩), .int .i64 t.hi, .agg #[.int .i64 t.lo, .int .i64 t.hi], .pointer (some ⟨g5, 6, none⟩), .pointer (some ⟨g28, 0, none⟩), .bool true, .int .i64 3, .pointer (some ⟨g6, 3, none⟩), .pointer (some ⟨g28, 1, none⟩), .agg #[.int .i64 t.lo, .int .i64 t.hi], .bool true, .bool false, undef, undef, .int .i64 4, .agg #[.int .i64 x.lo, .int .i64 x.hi, .int .i64 y.lo, .int .i64 y.hi, .int .i64 z.lo, .int .i64 z.hi, .int .i64 t.lo, .int .i64 t.hi], .agg #[.int .i64 1, .int .i64 1, .int .i64 1, .int .i64 1]], defers := [] } : Act)) (fun _ => [⟨g28, #[.bool true, .int .i64 t.lo, .int .i64 t.hi], 25⟩, ⟨g22, #[.bool true, .int .i64 z.lo, .int .i64 z.hi], 25⟩, ⟨g10, #[.bool true, .int .i64 y.lo, .int .i64 y.hi], 25⟩, ⟨g7, #[.bool true, .int .i64 x.lo, .int .i64 x.hi], 25⟩, ⟨g6, #[.int .i64 1, .int .i64 1, .int .i64 1, .int .i64 1], 30⟩, ⟨g5, #[.int .i64 x.lo, .int .i64 x.hi, .int .i64 y.lo, .int .i64 y.hi, .int .i64 z.lo, .int .i64 z.hi, .int .i64 t.lo, .int .i64 t.hi], 29⟩, ⟨g4, #[.int .i64 1, .int .i64 1, .int .i64 1, .int .i64 1], 30⟩, ⟨g3, #[.int .i64 x.lo, .int .i64 x.hi, .int .i64 y.lo, .int .i64 y.hi, .int .i64 z.lo, .int .i64 z.hi, .int .i64 t.lo, .int .i64 t.hi], 29⟩, ⟨g2, #[.bool true, .int .i64 t.lo, .int .i64 t.hi], 25⟩, ⟨g1, #[.bool true, .int .i64 x.lo, .int .i64 x.hi, .bool true, .int .i64 y.lo, .int .i64 y.hi, .bool true, .int .i64 z.lo, .int .i64 z.hi], 26⟩]) (by kernel_rfl) rfl (by kernel_rfl) rfl trivial (fun _ => by kernel_rfl) (fun _ => rfl) ?_ ?_
         ·
          skip
          refine sps_cons (sp_val (.agg #[.int .i64 x.lo, .int .i64 x.hi, .int .i64 y.lo, .int .i64 y.hi, .int .i64 z.lo, .int .i64 z.hi, .int .i64 t.lo, .int .i64 t.hi]) rfl (fun _ => rfl) (fun _ _ h => h) (fun _ _ => rfl) (fun ld γ9 a9 w9 h9 hE9 => load_row (hE9.rowAt (i := 5) rfl) rfl (h9.out (by kernel_rfl) rfl) Try.underlying29 rfl (by kernel_rfl))) ?_
          refine sps_cons (sp_val (.agg #[.int .i64 1, .int .i64 1, .int .i64 1, .int .i64 1]) rfl (fun _ => rfl) (fun _ _ h => h) (fun _ _ => rfl) (fun ld γ9 a9 w9 h9 hE9 => load_row (hE9.rowAt (i := 4) rfl) rfl (h9.out (by kernel_rfl) rfl) Try.underlying30 rfl (by kernel_rfl))) ?_
          refine sps_cons ⟨fun ld γ9 a9 w9 h9 _ hE9 K9 hK9 => h9.go rfl ?_⟩ ?_
          ·
           have l0 : ld 2 = false := h9.off
           have hE2 := hE9
           simp only [l0, Bool.false_eq_true, if_false] at hE2
           exact wp_store_row 29 _ _ rfl _ (#[.int .i64 x.lo, .int .i64 x.hi, .int .i64 y.lo, .int .i64 y.hi, .int .i64 z.lo, .int .i64 z.hi, .int .i64 t.lo, .int .i64 t.hi]) (h9.out (by kernel_rfl) rfl) (h9.tmp 0 rfl (h9.dep (by kernel_rfl))) _ _ (hE2.rowAt (i := 7) rfl) (by kernel_rfl) rfl (by simp [Value.oneCell']) (hK9 γ9 _ (fun _ _ => rfl) trivial (hE2.setRow (i := 7) rfl (#[.int .i64 x.lo, .int .i64 x.hi, .int .i64 y.lo, .int .i64 y.hi, .int .i64 z.lo, .int .i64 z.hi, .int .i64 t.lo, .int .i64 t.hi])))
          refine sps_cons ⟨fun ld γ9 a9 w9 h9 _ hE9 K9 hK9 => h9.go rfl ?_⟩ ?_
          ·
           have l0 : ld 3 = false := h9.off
           have hE2 := hE9
           simp only [l0, Bool.false_eq_true, if_false] at hE2
           exact wp_store_row 30 _ _ rfl _ (#[.int .i64 1, .int .i64 1, .int .i64 1, .int .i64 1]) (h9.out (by kernel_rfl) rfl) (h9.tmp 1 rfl (h9.dep (by kernel_rfl))) _ _ (hE2.rowAt (i := 6) rfl) (by kernel_rfl) rfl (by simp [Value.oneCell']) (hK9 γ9 _ (fun _ _ => rfl) trivial (hE2.setRow (i := 6) rfl (#[.int .i64 1, .int .i64 1, .int .i64 1, .int .i64 1])))
          refine sps_cons (sp_val (.bool true) rfl (fun _ => rfl) (fun _ _ h => h) (fun _ _ => rfl) (fun ld γ9 a9 w9 h9 hE9 => rfl)) ?_
          exact sps_nil
         rintro ⟨⟩ -
         (try dsimp only)
         refine we_then ?_
         refine wc_ret ?_
         refine we_ret_cell2_tmp (.bool true) (own_row 7 rfl) (own_row 6 rfl) rfl rfl rfl rfl rfl Try.underlying29 rfl (by kernel_rfl) Try.underlying30 rfl (by kernel_rfl) (fun w1 hE => ?_)
         have b_x : badB x = false := by unfold badB; rw [h8, h9]; rfl
         have b_y : badB y = false := by unfold badB; rw [h11, h21]; rfl
         have b_z : badB z = false := by unfold badB; rw [h23, h27]; rfl
         have b_t : badB t = false := by unfold badB; rw [h29, h30]; rfl
         exact ⟨by unfold givV; rw [if_neg (by rw [b_x]; decide), if_neg (by rw [b_y]; decide), if_neg (by rw [b_z]; decide), if_neg (by rw [b_t]; decide), h8, h11, h23, h29]; rfl, hE.below⟩
end Go.Proofs.Ytlfienfjdjfcoaa.Fzlw
