/-
  MailFirst: the law's walk. No condition.
-/
import Derived.Test.YtggdmchhnnjfiaaMlw
import Derived.Test.YtggdmchhnnjfiaaSj
namespace Go.Proofs.Ytggdmchhnnjfiaa.Walks
open Go.ChangeShapes Go.WideShapes Go.ChangeAt Go.RowKit
open Arr Steady Sx Sw Sl Sb Sc Cr Fr Frm Flaw Ml Si Sj Mal Mlw
set_option linter.unusedVariables false
set_option linter.unusedSimpArgs false
set_option maxRecDepth 100000

theorem quiet_zero {A : Ml} {y : Nat} (hq : A.bad = 0 ∧ A.stale = 0 ∧ A.twice = 0) (hy : y = 0) (W : World) : Calls Try.prog 13 #[.agg (mcells A y).toArray] W fun e w' => e = .returned (.bool true) ∧ Below W.heap.size W w' := by
  have h := quiet_any A.has A.val (A.bad : Nat) (A.stale : Nat) (A.twice : Nat) (y : Nat) W
  have e : ((A.bad : Int) == 0 && (A.stale : Int) == 0 && (A.twice : Int) == 0 && (y : Int) == 0) = true := by rw [hq.1, hq.2.1, hq.2.2, hy]; rfl
  rw [e] at h
  exact h
set_option maxHeartbeats 6000000 in
theorem mailFirst_walk (cy : Int) (wcy : (Lit.int .i64 cy).wf = true) (v1 v2 v3 v4 v5 : Int) (w1 : (Lit.int .i16 v1).wf = true) (w2 : (Lit.int .i16 v2).wf = true) (w3 : (Lit.int .i16 v3).wf = true) (w4 : (Lit.int .i16 v4).wf = true) (w5 : (Lit.int .i16 v5).wf = true) (T : List Tx) (p : Option Addr) (n c : Nat) (w : World) (hl : T.length = n) (hS : Reads w p (flat tx T)) (hT : OkT w T) (hc : n ≤ c) (hm : c ≤ maxLen) :
    Calls Try.prog 6 #[.int .i64 cy, .agg #[.int .i16 v1, .int .i16 v2, .int .i16 v3, .int .i16 v4, .int .i16 v5], .slice p n c] w fun e w' => e = .returned (.bool true) ∧ Below w.heap.size w w' := by
  have fv1 := i16_of_wf w1
  have fv2 := i16_of_wf w2
  have fv3 := i16_of_wf w3
  have fv4 := i16_of_wf w4
  have fv5 := i16_of_wf w5
  have fs : 0 ≤ cy % 256 ∧ cy % 256 ≤ 255 := by omega
  have e1 : putE 1 (cy % 256) (v1 % 65536) = 0 := Frm.putE_ok2 (by decide) (by omega) (by omega) (by omega) (by omega)
  have pl1 := putL_bounds 1 (cy % 256) (v1 % 65536)
  have e2 : putE 2 (cy % 256) (v2 % 65536) = 0 := Frm.putE_ok2 (by decide) (by omega) (by omega) (by omega) (by omega)
  have pl2 := putL_bounds 2 (cy % 256) (v2 % 65536)
  have e3 : putE 3 (cy % 256) (v3) = 0 := Frm.putE_ok4 (by decide) (by omega) (by omega) (by omega) (by omega)
  have pl3 := putL_bounds 3 (cy % 256) (v3)
  have e4 : putE 4 (cy % 256) (v4) = 0 := Frm.putE_ok4 (by decide) (by omega) (by omega) (by omega) (by omega)
  have pl4 := putL_bounds 4 (cy % 256) (v4)
  have e5 : putE 5 (cy % 256) (v5 % 65536) = 0 := Frm.putE_ok2 (by decide) (by omega) (by omega) (by omega) (by omega)
  have pl5 := putL_bounds 5 (cy % 256) (v5 % 65536)
  have hA0 : sort (cy % 256) [putL 1 (cy % 256) (v1 % 65536), putL 2 (cy % 256) (v2 % 65536), putL 3 (cy % 256) (v3), putL 4 (cy % 256) (v4), putL 5 (cy % 256) (v5 % 65536)] = five (v1 % 65536) (v2 % 65536) (v3) (v4) (v5 % 65536) := run_five e1 e2 e3 e4 e5
  have hB0 := sort_five e1 e2 e3 e4 e5 (ls T)
  obtain ⟨A, hAA⟩ : ∃ A, five (v1 % 65536) (v2 % 65536) (v3) (v4) (v5 % 65536) = A := ⟨_, rfl⟩
  have fq : A.bad = 0 ∧ A.stale = 0 ∧ A.twice = 0 := by rw [← hAA]; exact ⟨rfl, rfl, rfl⟩
  have fo1 : ofV A.val 1 = v1 % 65536 ∧ ofB A.has 1 = true := by rw [← hAA]; exact ⟨rfl, rfl⟩
  have fo2 : ofV A.val 2 = v2 % 65536 ∧ ofB A.has 2 = true := by rw [← hAA]; exact ⟨rfl, rfl⟩
  have fo3 : ofV A.val 3 = v3 ∧ ofB A.has 3 = true := by rw [← hAA]; exact ⟨rfl, rfl⟩
  have fo4 : ofV A.val 4 = v4 ∧ ofB A.has 4 = true := by rw [← hAA]; exact ⟨rfl, rfl⟩
  have fo5 : ofV A.val 5 = v5 % 65536 ∧ ofB A.has 5 = true := by rw [← hAA]; exact ⟨rfl, rfl⟩
  rw [hAA] at hA0 hB0
  obtain ⟨B, hB⟩ : ∃ B, sort (cy % 256) ([putL 1 (cy % 256) (v1 % 65536), putL 2 (cy % 256) (v2 % 65536), putL 3 (cy % 256) (v3), putL 4 (cy % 256) (v4), putL 5 (cy % 256) (v5 % 65536)] ++ ls T) = B := ⟨_, rfl⟩
  rw [hB] at hB0
  obtain ⟨hBh, hBv⟩ := hB0
  have hA := hA0
  refine calls_sx Try.func6 rfl ?_
  simp only [Try.ntmps6, List.size_toArray, List.length_cons, List.length_nil, Nat.reduceAdd, Nat.reduceSub, Array.replicate_succ, Array.replicate_zero, List.push_toArray, List.append_toArray, List.nil_append, List.cons_append]
  refine wc_seq ?_
  refine wc_region ?_
  refine wl_new 40 (#[.int .i16 v1, .int .i16 v2, .int .i16 v3, .int .i16 v4, .int .i16 v5]) rfl (fun _ => by go_simp) ?_
  intro g1
  simp only [Act.put, List.setIfInBounds_toArray, List.set_cons_zero, List.set_cons_succ]
  refine wl_val (.bool false) rfl (fun _ => rfl) ?_
  simp only [Act.put, List.setIfInBounds_toArray, List.set_cons_zero, List.set_cons_succ]
  refine wl_nil ?_
  refine we_then ?_
  refine wc_seq ?_
  refine wc_seq ?_
  refine wc_region ?_
  refine wl_call 8 #[] (.bool true) rfl (fun _ => by go_simp) (fun W => Mlw.anchor_any W) ?_
  simp only [Act.put, List.setIfInBounds_toArray, List.set_cons_zero, List.set_cons_succ]
  refine wl_val (.bool false) rfl (fun _ => by go_simp) ?_
  simp only [Act.put, List.setIfInBounds_toArray, List.set_cons_zero, List.set_cons_succ]
  refine wl_nil ?_
  refine we_then ?_
  refine wc_false rfl ?_
  refine wc_skip ?_
  refine we_then ?_
  refine wc_seq ?_
  refine wc_seq ?_
  refine wc_region ?_
  refine wl_val (.slice p n c) rfl (fun _ => rfl) ?_
  simp only [Act.put, List.setIfInBounds_toArray, List.set_cons_zero, List.set_cons_succ]
  refine wl_call_at 9 #[.slice p n c] (.bool (gr T)) rfl (fun _ => by go_simp) (fun W hE => great_any T _ _ _ W hl ((sl_old hS) W hE) (Nat.le_trans hc hm)) ?_
  simp only [Act.put, List.setIfInBounds_toArray, List.set_cons_zero, List.set_cons_succ]
  refine wl_nil ?_
  refine we_then ?_
  cases h2 : (gr T)
  · skip
    obtain ⟨sh, l1⟩ := gr_no h2
    have l2 : n ≤ 100 := by omega
    refine wc_false rfl ?_
    refine wc_skip ?_
    refine we_then ?_
    refine wc_seq ?_
    refine wc_region ?_
    refine wl_val (.slice none 0 0) rfl (fun _ => rfl) ?_
    simp only [Act.put, List.setIfInBounds_toArray, List.set_cons_zero, List.set_cons_succ]
    refine wl_nil ?_
    refine we_then ?_
    refine wc_seq ?_
    refine wc_seq ?_
    refine wc_region ?_
    refine wl_load 40 (.tmp 4) (own_row 0 rfl) rfl rfl rfl Try.underlying40 rfl (by kernel_rfl) ?_
    simp only [Act.put, List.setIfInBounds_toArray, List.set_cons_zero, List.set_cons_succ]
    refine wl_val (.int .i64 0) rfl (fun _ => rfl) ?_
    simp only [Act.put, List.setIfInBounds_toArray, List.set_cons_zero, List.set_cons_succ]
    refine wl_nil ?_
    refine we_then ?_
    refine wc_block ?_
    refine wr_start 6 ?_
    refine wr_round ?_
    refine wc_seq ?_
    refine wc_region ?_
    refine wl_val (.bool true) rfl (fun w => run_cmp rfl rfl rfl Try.underlying3 rfl w) ?_
    simp only [Act.put, List.setIfInBounds_toArray, List.set_cons_zero, List.set_cons_succ]
    refine wl_nil ?_
    refine we_then ?_
    refine wc_seq ?_
    refine wc_true rfl ?_
    refine wc_skip ?_
    refine we_then ?_
    refine wc_seq ?_
    refine wc_block ?_
    refine wc_seq ?_
    refine wc_region ?_
    refine wl_val (.int .i64 0) rfl (fun _ => rfl) ?_
    simp only [Act.put, List.setIfInBounds_toArray, List.set_cons_zero, List.set_cons_succ]
    refine wl_val (.int .i16 v1) rfl (fun w => run_index (k := 0) rfl rfl rfl rfl (by decide) Try.underlying40 Try.isAgg39 (by kernel_rfl) rfl w) ?_
    simp only [Act.put, List.setIfInBounds_toArray, List.set_cons_zero, List.set_cons_succ]
    refine wl_val (.int .i64 0) rfl (fun _ => rfl) ?_
    simp only [Act.put, List.setIfInBounds_toArray, List.set_cons_zero, List.set_cons_succ]
    refine wl_val (.int .i16 v1) rfl (fun _ => rfl) ?_
    simp only [Act.put, List.setIfInBounds_toArray, List.set_cons_zero, List.set_cons_succ]
    refine wl_nil ?_
    refine we_then ?_
    refine wc_seq ?_
    refine wc_region ?_
    refine wl_val (.int .i64 0) rfl (fun _ => rfl) ?_
    simp only [Act.put, List.setIfInBounds_toArray, List.set_cons_zero, List.set_cons_succ]
    refine wl_val (.int .i64 1) rfl (fun w => run_nat (X := 0) (Y := 1) (Z := 1) rfl rfl rfl rfl (by omega) w) ?_
    simp only [Act.put, List.setIfInBounds_toArray, List.set_cons_zero, List.set_cons_succ]
    refine wl_val (.int .i64 cy) rfl (fun _ => rfl) ?_
    simp only [Act.put, List.setIfInBounds_toArray, List.set_cons_zero, List.set_cons_succ]
    refine wl_call 14 #[.int .i64 cy] (.int .i64 (cy % 256)) rfl (fun _ => by go_simp) (fun W => seq_any cy W) ?_
    simp only [Act.put, List.setIfInBounds_toArray, List.set_cons_zero, List.set_cons_succ]
    refine wl_val (.int .i16 v1) rfl (fun _ => rfl) ?_
    simp only [Act.put, List.setIfInBounds_toArray, List.set_cons_zero, List.set_cons_succ]
    refine wl_val (.int .i64 (v1)) rfl (fun w => Sw.run_conv rfl rfl Try.underlying39 Try.underlying2 (i64_in (by omega) (by omega)) w) ?_
    simp only [Act.put, List.setIfInBounds_toArray, List.set_cons_zero, List.set_cons_succ]
    refine wl_val (.agg #[.int .i64 1, .int .i64 (cy % 256), .int .i64 (v1)]) rfl (fun _ => by go_simp) ?_
    simp only [Act.put, List.setIfInBounds_toArray, List.set_cons_zero, List.set_cons_succ]
    refine wl_new 43 (#[.int .i64 0, .int .i64 0, .int .i64 0]) rfl (fun _ => by go_simp) ?_
    intro g3
    simp only [Act.put, List.setIfInBounds_toArray, List.set_cons_zero, List.set_cons_succ]
    refine wl_store 0 43 (.tmp 10) (.tmp 34) (#[.int .i64 1, .int .i64 (cy % 256), .int .i64 (v1)]) rfl rfl rfl rfl rfl (by kernel_rfl) rfl (by simp [Value.oneCell']) ?_
    simp only [Act.put, List.set_cons_zero]
    refine wl_nil ?_
    refine we_then ?_
    refine wc_seq ?_
    refine wc_seq ?_
    refine wc_region ?_
    refine wl_val (.pointer (some ⟨g3, 0, none⟩)) rfl (fun _ => by go_simp) ?_
    simp only [Act.put, List.setIfInBounds_toArray, List.set_cons_zero, List.set_cons_succ]
    refine wl_cell 3 (.tmp 35) (.int .i64 1) (own_row 0 rfl) rfl rfl rfl rfl Try.isAgg3 ?_
    simp only [Act.put, List.setIfInBounds_toArray, List.set_cons_zero, List.set_cons_succ]
    refine wl_val (.bool true) rfl (fun w => run_cmp rfl rfl rfl Try.underlying3 rfl w) ?_
    simp only [Act.put, List.setIfInBounds_toArray, List.set_cons_zero, List.set_cons_succ]
    refine wl_val (.bool true) rfl (fun _ => rfl) ?_
    simp only [Act.put, List.setIfInBounds_toArray, List.set_cons_zero, List.set_cons_succ]
    refine wl_val (.pointer (some ⟨g3, 0, none⟩)) rfl (fun _ => by go_simp) ?_
    simp only [Act.put, List.setIfInBounds_toArray, List.set_cons_zero, List.set_cons_succ]
    refine wl_cell 3 (.tmp 39) (.int .i64 1) (own_row 0 rfl) rfl rfl rfl rfl Try.isAgg3 ?_
    simp only [Act.put, List.setIfInBounds_toArray, List.set_cons_zero, List.set_cons_succ]
    refine wl_val (.bool true) rfl (fun w => run_cmp rfl rfl rfl Try.underlying3 rfl w) ?_
    simp only [Act.put, List.setIfInBounds_toArray, List.set_cons_zero, List.set_cons_succ]
    refine wl_val (.bool true) rfl (fun _ => rfl) ?_
    simp only [Act.put, List.setIfInBounds_toArray, List.set_cons_zero, List.set_cons_succ]
    refine wl_nil ?_
    refine we_then ?_
    refine wc_true rfl ?_
    refine wc_region ?_
    refine wl_val (.int .i16 v1) rfl (fun _ => rfl) ?_
    simp only [Act.put, List.setIfInBounds_toArray, List.set_cons_zero, List.set_cons_succ]
    refine wl_val (.int .u16 (v1 % 65536)) rfl (fun w => Sw.run_conv rfl rfl Try.underlying39 Try.underlying44 (u16_mod _) w) ?_
    simp only [Act.put, List.setIfInBounds_toArray, List.set_cons_zero, List.set_cons_succ]
    refine wl_val (.int .i64 (v1 % 65536)) rfl (fun w => Sw.run_conv rfl rfl Try.underlying44 Try.underlying2 (i64_in (by omega) (by omega)) w) ?_
    simp only [Act.put, List.setIfInBounds_toArray, List.set_cons_zero, List.set_cons_succ]
    refine wl_val (.pointer (some ⟨g3, 2, none⟩)) rfl (fun _ => by go_simp) ?_
    simp only [Act.put, List.setIfInBounds_toArray, List.set_cons_zero, List.set_cons_succ]
    refine wl_store_cell 0 2 (.tmp 46) (.tmp 45) (.int .i64 (v1)) (.int .i64 (v1 % 65536)) rfl rfl rfl rfl rfl rfl (by kernel_rfl) rfl ?_
    simp only [Act.put, List.set_cons_zero]
    refine wl_nil ?_
    refine we_then ?_
    refine wc_seq ?_
    refine wc_region ?_
    refine wl_load 43 (.tmp 10) (own_row 0 rfl) rfl rfl rfl Try.underlying43 rfl (by kernel_rfl) ?_
    simp only [Act.put, List.setIfInBounds_toArray, List.set_cons_zero, List.set_cons_succ]
    refine wl_call_env (ι := Nat) 15 #[.agg #[.int .i64 1, .int .i64 (cy % 256), .int .i64 (v1 % 65536)]] (fun g4 => .tuple #[.slice (some ⟨g4, 0, none⟩) ((putL 1 (cy % 256) (v1 % 65536)).length) ((putL 1 (cy % 256) (v1 % 65536)).length), .int .i64 0]) (fun g4 => [⟨g4, (flat ub (putL 1 (cy % 256) (v1 % 65536))).toArray, 5⟩]) (fun _ => True) rfl (fun _ => by go_simp) (fun W hE => put_yes e1 rfl W) ?_
    rintro g4 -
    simp only [List.cons_append, List.nil_append, Act.put, List.setIfInBounds_toArray, List.set_cons_zero, List.set_cons_succ]
    refine wl_val (.tuple #[.slice (some ⟨g4, 0, none⟩) ((putL 1 (cy % 256) (v1 % 65536)).length) ((putL 1 (cy % 256) (v1 % 65536)).length), .int .i64 0]) rfl (fun _ => rfl) ?_
    simp only [Act.put, List.setIfInBounds_toArray, List.set_cons_zero, List.set_cons_succ]
    refine wl_val (.slice (some ⟨g4, 0, none⟩) ((putL 1 (cy % 256) (v1 % 65536)).length) ((putL 1 (cy % 256) (v1 % 65536)).length)) rfl (fun _ => by go_simp) ?_
    simp only [Act.put, List.setIfInBounds_toArray, List.set_cons_zero, List.set_cons_succ]
    refine wl_val (.int .i64 0) rfl (fun _ => by go_simp) ?_
    simp only [Act.put, List.setIfInBounds_toArray, List.set_cons_zero, List.set_cons_succ]
    refine wl_val (.slice (some ⟨g4, 0, none⟩) ((putL 1 (cy % 256) (v1 % 65536)).length) ((putL 1 (cy % 256) (v1 % 65536)).length)) rfl (fun _ => rfl) ?_
    simp only [Act.put, List.setIfInBounds_toArray, List.set_cons_zero, List.set_cons_succ]
    refine wl_val (.int .i64 0) rfl (fun _ => rfl) ?_
    simp only [Act.put, List.setIfInBounds_toArray, List.set_cons_zero, List.set_cons_succ]
    refine wl_nil ?_
    refine we_then ?_
    refine wc_seq ?_
    refine wc_seq ?_
    refine wc_region ?_
    refine wl_val (.int .i64 0) rfl (fun _ => rfl) ?_
    simp only [Act.put, List.setIfInBounds_toArray, List.set_cons_zero, List.set_cons_succ]
    refine wl_val (.bool false) rfl (fun w => run_cmp rfl rfl rfl Try.underlying46 rfl w) ?_
    simp only [Act.put, List.setIfInBounds_toArray, List.set_cons_zero, List.set_cons_succ]
    refine wl_nil ?_
    refine we_then ?_
    refine wc_false rfl ?_
    refine wc_skip ?_
    refine we_then ?_
    refine wc_region ?_
    refine wl_val (.slice none 0 0) rfl (fun _ => rfl) ?_
    simp only [Act.put, List.setIfInBounds_toArray, List.set_cons_zero, List.set_cons_succ]
    refine wl_val (.slice (some ⟨g4, 0, none⟩) ((putL 1 (cy % 256) (v1 % 65536)).length) ((putL 1 (cy % 256) (v1 % 65536)).length)) rfl (fun _ => rfl) ?_
    simp only [Act.put, List.setIfInBounds_toArray, List.set_cons_zero, List.set_cons_succ]
    refine wl_lit (e := 45) #[.slice (some ⟨g4, 0, none⟩) ((putL 1 (cy % 256) (v1 % 65536)).length) ((putL 1 (cy % 256) (v1 % 65536)).length)] 1 rfl (fun _ => by go_simp) ?_
    intro g5
    simp only [Act.put, List.setIfInBounds_toArray, List.set_cons_zero, List.set_cons_succ]
    refine wl_append (e := 45) (size := 1) (bytes := 24) (m := 1) [⟨g5, #[.slice (some ⟨g4, 0, none⟩) ((putL 1 (cy % 256) (v1 % 65536)).length) ((putL 1 (cy % 256) (v1 % 65536)).length)], 45⟩, ⟨g4, (flat ub (putL 1 (cy % 256) (v1 % 65536))).toArray, 5⟩, ⟨g3, #[.int .i64 1, .int .i64 (cy % 256), .int .i64 (v1 % 65536)], 43⟩, ⟨g1, #[.int .i16 v1, .int .i16 v2, .int .i16 v3, .int .i16 v4, .int .i16 v5], 40⟩] [] Own.none (ys := flat tx ([⟨some ⟨g4, 0, none⟩, putL 1 (cy % 256) (v1 % 65536), (putL 1 (cy % 256) (v1 % 65536)).length⟩])) rfl (Own.has_none 1) (sl_txlit 0 (T := [⟨some ⟨g4, 0, none⟩, putL 1 (cy % 256) (v1 % 65536), (putL 1 (cy % 256) (v1 % 65536)).length⟩]) rfl rfl) (tx_len1 rfl) (flat_one tx_one _) rfl rfl rfl rfl Try.underlying22 (by unfold Elem; kernel_rfl) (by decide) (by unfold maxLen; omega) (by omega) ?_
    intro s6 hs6
    rw [Nat.zero_add] at hs6 ⊢
    replace hs6 := has_cast (show _ = flat tx ([⟨some ⟨g4, 0, none⟩, putL 1 (cy % 256) (v1 % 65536), (putL 1 (cy % 256) (v1 % 65536)).length⟩]) from rfl) hs6
    simp only [List.cons_append, List.nil_append, Act.put, List.setIfInBounds_toArray, List.set_cons_zero, List.set_cons_succ]
    refine wl_val (.slice s6.ptr 1 s6.cap) rfl (fun _ => rfl) ?_
    simp only [Act.put, List.setIfInBounds_toArray, List.set_cons_zero, List.set_cons_succ]
    refine wl_nil ?_
    refine we_in ?_
    refine we_then ?_
    refine wc_region ?_
    refine wl_val (.int .i64 1) rfl (fun w => run_nat (X := 0) (Y := 1) (Z := 1) rfl rfl rfl rfl (by omega) w) ?_
    simp only [Act.put, List.setIfInBounds_toArray, List.set_cons_zero, List.set_cons_succ]
    refine wl_val (.int .i64 1) rfl (fun _ => rfl) ?_
    simp only [Act.put, List.setIfInBounds_toArray, List.set_cons_zero, List.set_cons_succ]
    refine wl_nil ?_
    refine we_round ?_
    refine wr_round ?_
    refine wc_seq ?_
    refine wc_region ?_
    refine wl_val (.bool true) rfl (fun w => run_cmp rfl rfl rfl Try.underlying3 rfl w) ?_
    simp only [Act.put, List.setIfInBounds_toArray, List.set_cons_zero, List.set_cons_succ]
    refine wl_nil ?_
    refine we_then ?_
    refine wc_seq ?_
    refine wc_true rfl ?_
    refine wc_skip ?_
    refine we_then ?_
    refine wc_seq ?_
    refine wc_block ?_
    refine wc_seq ?_
    refine wc_region ?_
    refine wl_val (.int .i64 1) rfl (fun _ => rfl) ?_
    simp only [Act.put, List.setIfInBounds_toArray, List.set_cons_zero, List.set_cons_succ]
    refine wl_val (.int .i16 v2) rfl (fun w => run_index (k := 1) rfl rfl rfl rfl (by decide) Try.underlying40 Try.isAgg39 (by kernel_rfl) rfl w) ?_
    simp only [Act.put, List.setIfInBounds_toArray, List.set_cons_zero, List.set_cons_succ]
    refine wl_val (.int .i64 1) rfl (fun _ => rfl) ?_
    simp only [Act.put, List.setIfInBounds_toArray, List.set_cons_zero, List.set_cons_succ]
    refine wl_val (.int .i16 v2) rfl (fun _ => rfl) ?_
    simp only [Act.put, List.setIfInBounds_toArray, List.set_cons_zero, List.set_cons_succ]
    refine wl_nil ?_
    refine we_then ?_
    refine wc_seq ?_
    refine wc_region ?_
    refine wl_val (.int .i64 1) rfl (fun _ => rfl) ?_
    simp only [Act.put, List.setIfInBounds_toArray, List.set_cons_zero, List.set_cons_succ]
    refine wl_val (.int .i64 2) rfl (fun w => run_nat (X := 1) (Y := 1) (Z := 2) rfl rfl rfl rfl (by omega) w) ?_
    simp only [Act.put, List.setIfInBounds_toArray, List.set_cons_zero, List.set_cons_succ]
    refine wl_val (.int .i64 cy) rfl (fun _ => rfl) ?_
    simp only [Act.put, List.setIfInBounds_toArray, List.set_cons_zero, List.set_cons_succ]
    refine wl_call 14 #[.int .i64 cy] (.int .i64 (cy % 256)) rfl (fun _ => by go_simp) (fun W => seq_any cy W) ?_
    simp only [Act.put, List.setIfInBounds_toArray, List.set_cons_zero, List.set_cons_succ]
    refine wl_val (.int .i16 v2) rfl (fun _ => rfl) ?_
    simp only [Act.put, List.setIfInBounds_toArray, List.set_cons_zero, List.set_cons_succ]
    refine wl_val (.int .i64 (v2)) rfl (fun w => Sw.run_conv rfl rfl Try.underlying39 Try.underlying2 (i64_in (by omega) (by omega)) w) ?_
    simp only [Act.put, List.setIfInBounds_toArray, List.set_cons_zero, List.set_cons_succ]
    refine wl_val (.agg #[.int .i64 2, .int .i64 (cy % 256), .int .i64 (v2)]) rfl (fun _ => by go_simp) ?_
    simp only [Act.put, List.setIfInBounds_toArray, List.set_cons_zero, List.set_cons_succ]
    refine wl_new 43 (#[.int .i64 0, .int .i64 0, .int .i64 0]) rfl (fun _ => by go_simp) ?_
    intro g7
    simp only [Act.put, List.setIfInBounds_toArray, List.set_cons_zero, List.set_cons_succ]
    refine wl_store 0 43 (.tmp 10) (.tmp 34) (#[.int .i64 2, .int .i64 (cy % 256), .int .i64 (v2)]) rfl rfl rfl rfl rfl (by kernel_rfl) rfl (by simp [Value.oneCell']) ?_
    simp only [Act.put, List.set_cons_zero]
    refine wl_nil ?_
    refine we_then ?_
    refine wc_seq ?_
    refine wc_seq ?_
    refine wc_region ?_
    refine wl_val (.pointer (some ⟨g7, 0, none⟩)) rfl (fun _ => by go_simp) ?_
    simp only [Act.put, List.setIfInBounds_toArray, List.set_cons_zero, List.set_cons_succ]
    refine wl_cell 3 (.tmp 35) (.int .i64 2) (own_row 0 rfl) rfl rfl rfl rfl Try.isAgg3 ?_
    simp only [Act.put, List.setIfInBounds_toArray, List.set_cons_zero, List.set_cons_succ]
    refine wl_val (.bool true) rfl (fun w => run_cmp rfl rfl rfl Try.underlying3 rfl w) ?_
    simp only [Act.put, List.setIfInBounds_toArray, List.set_cons_zero, List.set_cons_succ]
    refine wl_val (.bool true) rfl (fun _ => rfl) ?_
    simp only [Act.put, List.setIfInBounds_toArray, List.set_cons_zero, List.set_cons_succ]
    refine wl_val (.pointer (some ⟨g7, 0, none⟩)) rfl (fun _ => by go_simp) ?_
    simp only [Act.put, List.setIfInBounds_toArray, List.set_cons_zero, List.set_cons_succ]
    refine wl_cell 3 (.tmp 39) (.int .i64 2) (own_row 0 rfl) rfl rfl rfl rfl Try.isAgg3 ?_
    simp only [Act.put, List.setIfInBounds_toArray, List.set_cons_zero, List.set_cons_succ]
    refine wl_val (.bool true) rfl (fun w => run_cmp rfl rfl rfl Try.underlying3 rfl w) ?_
    simp only [Act.put, List.setIfInBounds_toArray, List.set_cons_zero, List.set_cons_succ]
    refine wl_val (.bool true) rfl (fun _ => rfl) ?_
    simp only [Act.put, List.setIfInBounds_toArray, List.set_cons_zero, List.set_cons_succ]
    refine wl_nil ?_
    refine we_then ?_
    refine wc_true rfl ?_
    refine wc_region ?_
    refine wl_val (.int .i16 v2) rfl (fun _ => rfl) ?_
    simp only [Act.put, List.setIfInBounds_toArray, List.set_cons_zero, List.set_cons_succ]
    refine wl_val (.int .u16 (v2 % 65536)) rfl (fun w => Sw.run_conv rfl rfl Try.underlying39 Try.underlying44 (u16_mod _) w) ?_
    simp only [Act.put, List.setIfInBounds_toArray, List.set_cons_zero, List.set_cons_succ]
    refine wl_val (.int .i64 (v2 % 65536)) rfl (fun w => Sw.run_conv rfl rfl Try.underlying44 Try.underlying2 (i64_in (by omega) (by omega)) w) ?_
    simp only [Act.put, List.setIfInBounds_toArray, List.set_cons_zero, List.set_cons_succ]
    refine wl_val (.pointer (some ⟨g7, 2, none⟩)) rfl (fun _ => by go_simp) ?_
    simp only [Act.put, List.setIfInBounds_toArray, List.set_cons_zero, List.set_cons_succ]
    refine wl_store_cell 0 2 (.tmp 46) (.tmp 45) (.int .i64 (v2)) (.int .i64 (v2 % 65536)) rfl rfl rfl rfl rfl rfl (by kernel_rfl) rfl ?_
    simp only [Act.put, List.set_cons_zero]
    refine wl_nil ?_
    refine we_then ?_
    refine wc_seq ?_
    refine wc_region ?_
    refine wl_load 43 (.tmp 10) (own_row 0 rfl) rfl rfl rfl Try.underlying43 rfl (by kernel_rfl) ?_
    simp only [Act.put, List.setIfInBounds_toArray, List.set_cons_zero, List.set_cons_succ]
    refine wl_call_env (ι := Nat) 15 #[.agg #[.int .i64 2, .int .i64 (cy % 256), .int .i64 (v2 % 65536)]] (fun g8 => .tuple #[.slice (some ⟨g8, 0, none⟩) ((putL 2 (cy % 256) (v2 % 65536)).length) ((putL 2 (cy % 256) (v2 % 65536)).length), .int .i64 0]) (fun g8 => [⟨g8, (flat ub (putL 2 (cy % 256) (v2 % 65536))).toArray, 5⟩]) (fun _ => True) rfl (fun _ => by go_simp) (fun W hE => put_yes e2 rfl W) ?_
    rintro g8 -
    simp only [List.cons_append, List.nil_append, Act.put, List.setIfInBounds_toArray, List.set_cons_zero, List.set_cons_succ]
    refine wl_val (.tuple #[.slice (some ⟨g8, 0, none⟩) ((putL 2 (cy % 256) (v2 % 65536)).length) ((putL 2 (cy % 256) (v2 % 65536)).length), .int .i64 0]) rfl (fun _ => rfl) ?_
    simp only [Act.put, List.setIfInBounds_toArray, List.set_cons_zero, List.set_cons_succ]
    refine wl_val (.slice (some ⟨g8, 0, none⟩) ((putL 2 (cy % 256) (v2 % 65536)).length) ((putL 2 (cy % 256) (v2 % 65536)).length)) rfl (fun _ => by go_simp) ?_
    simp only [Act.put, List.setIfInBounds_toArray, List.set_cons_zero, List.set_cons_succ]
    refine wl_val (.int .i64 0) rfl (fun _ => by go_simp) ?_
    simp only [Act.put, List.setIfInBounds_toArray, List.set_cons_zero, List.set_cons_succ]
    refine wl_val (.slice (some ⟨g8, 0, none⟩) ((putL 2 (cy % 256) (v2 % 65536)).length) ((putL 2 (cy % 256) (v2 % 65536)).length)) rfl (fun _ => rfl) ?_
    simp only [Act.put, List.setIfInBounds_toArray, List.set_cons_zero, List.set_cons_succ]
    refine wl_val (.int .i64 0) rfl (fun _ => rfl) ?_
    simp only [Act.put, List.setIfInBounds_toArray, List.set_cons_zero, List.set_cons_succ]
    refine wl_nil ?_
    refine we_then ?_
    refine wc_seq ?_
    refine wc_seq ?_
    refine wc_region ?_
    refine wl_val (.int .i64 0) rfl (fun _ => rfl) ?_
    simp only [Act.put, List.setIfInBounds_toArray, List.set_cons_zero, List.set_cons_succ]
    refine wl_val (.bool false) rfl (fun w => run_cmp rfl rfl rfl Try.underlying46 rfl w) ?_
    simp only [Act.put, List.setIfInBounds_toArray, List.set_cons_zero, List.set_cons_succ]
    refine wl_nil ?_
    refine we_then ?_
    refine wc_false rfl ?_
    refine wc_skip ?_
    refine we_then ?_
    refine wc_region ?_
    refine wl_val (.slice s6.ptr 1 s6.cap) rfl (fun _ => rfl) ?_
    simp only [Act.put, List.setIfInBounds_toArray, List.set_cons_zero, List.set_cons_succ]
    refine wl_val (.slice (some ⟨g8, 0, none⟩) ((putL 2 (cy % 256) (v2 % 65536)).length) ((putL 2 (cy % 256) (v2 % 65536)).length)) rfl (fun _ => rfl) ?_
    simp only [Act.put, List.setIfInBounds_toArray, List.set_cons_zero, List.set_cons_succ]
    refine wl_lit (e := 45) #[.slice (some ⟨g8, 0, none⟩) ((putL 2 (cy % 256) (v2 % 65536)).length) ((putL 2 (cy % 256) (v2 % 65536)).length)] 1 rfl (fun _ => by go_simp) ?_
    intro g9
    simp only [Act.put, List.setIfInBounds_toArray, List.set_cons_zero, List.set_cons_succ]
    refine wl_append (e := 45) (size := 1) (bytes := 24) (m := 1) [⟨g9, #[.slice (some ⟨g8, 0, none⟩) ((putL 2 (cy % 256) (v2 % 65536)).length) ((putL 2 (cy % 256) (v2 % 65536)).length)], 45⟩, ⟨g8, (flat ub (putL 2 (cy % 256) (v2 % 65536))).toArray, 5⟩, ⟨g7, #[.int .i64 2, .int .i64 (cy % 256), .int .i64 (v2 % 65536)], 43⟩, ⟨g5, #[.slice (some ⟨g4, 0, none⟩) ((putL 1 (cy % 256) (v1 % 65536)).length) ((putL 1 (cy % 256) (v1 % 65536)).length)], 45⟩, ⟨g4, (flat ub (putL 1 (cy % 256) (v1 % 65536))).toArray, 5⟩, ⟨g3, #[.int .i64 1, .int .i64 (cy % 256), .int .i64 (v1 % 65536)], 43⟩, ⟨g1, #[.int .i16 v1, .int .i16 v2, .int .i16 v3, .int .i16 v4, .int .i16 v5], 40⟩] [] s6 (ys := flat tx ([⟨some ⟨g8, 0, none⟩, putL 2 (cy % 256) (v2 % 65536), (putL 2 (cy % 256) (v2 % 65536)).length⟩])) rfl hs6 (sl_txlit 0 (T := [⟨some ⟨g8, 0, none⟩, putL 2 (cy % 256) (v2 % 65536), (putL 2 (cy % 256) (v2 % 65536)).length⟩]) rfl rfl) (tx_len1 rfl) (flat_one tx_one _) rfl rfl rfl rfl Try.underlying22 (by unfold Elem; kernel_rfl) (by decide) (by unfold maxLen; omega) (by omega) ?_
    intro s10 hs10
    replace hs10 := has_cast (show _ = flat tx (([⟨some ⟨g4, 0, none⟩, putL 1 (cy % 256) (v1 % 65536), (putL 1 (cy % 256) (v1 % 65536)).length⟩]) ++ ([⟨some ⟨g8, 0, none⟩, putL 2 (cy % 256) (v2 % 65536), (putL 2 (cy % 256) (v2 % 65536)).length⟩])) from by rw [flat_append] <;> rfl) hs10
    simp only [List.cons_append, List.nil_append, Act.put, List.setIfInBounds_toArray, List.set_cons_zero, List.set_cons_succ]
    refine wl_val (.slice s10.ptr (1 + 1) s10.cap) rfl (fun _ => rfl) ?_
    simp only [Act.put, List.setIfInBounds_toArray, List.set_cons_zero, List.set_cons_succ]
    refine wl_nil ?_
    refine we_in ?_
    refine we_then ?_
    refine wc_region ?_
    refine wl_val (.int .i64 2) rfl (fun w => run_nat (X := 1) (Y := 1) (Z := 2) rfl rfl rfl rfl (by omega) w) ?_
    simp only [Act.put, List.setIfInBounds_toArray, List.set_cons_zero, List.set_cons_succ]
    refine wl_val (.int .i64 2) rfl (fun _ => rfl) ?_
    simp only [Act.put, List.setIfInBounds_toArray, List.set_cons_zero, List.set_cons_succ]
    refine wl_nil ?_
    refine we_round ?_
    refine wr_round ?_
    refine wc_seq ?_
    refine wc_region ?_
    refine wl_val (.bool true) rfl (fun w => run_cmp rfl rfl rfl Try.underlying3 rfl w) ?_
    simp only [Act.put, List.setIfInBounds_toArray, List.set_cons_zero, List.set_cons_succ]
    refine wl_nil ?_
    refine we_then ?_
    refine wc_seq ?_
    refine wc_true rfl ?_
    refine wc_skip ?_
    refine we_then ?_
    refine wc_seq ?_
    refine wc_block ?_
    refine wc_seq ?_
    refine wc_region ?_
    refine wl_val (.int .i64 2) rfl (fun _ => rfl) ?_
    simp only [Act.put, List.setIfInBounds_toArray, List.set_cons_zero, List.set_cons_succ]
    refine wl_val (.int .i16 v3) rfl (fun w => run_index (k := 2) rfl rfl rfl rfl (by decide) Try.underlying40 Try.isAgg39 (by kernel_rfl) rfl w) ?_
    simp only [Act.put, List.setIfInBounds_toArray, List.set_cons_zero, List.set_cons_succ]
    refine wl_val (.int .i64 2) rfl (fun _ => rfl) ?_
    simp only [Act.put, List.setIfInBounds_toArray, List.set_cons_zero, List.set_cons_succ]
    refine wl_val (.int .i16 v3) rfl (fun _ => rfl) ?_
    simp only [Act.put, List.setIfInBounds_toArray, List.set_cons_zero, List.set_cons_succ]
    refine wl_nil ?_
    refine we_then ?_
    refine wc_seq ?_
    refine wc_region ?_
    refine wl_val (.int .i64 2) rfl (fun _ => rfl) ?_
    simp only [Act.put, List.setIfInBounds_toArray, List.set_cons_zero, List.set_cons_succ]
    refine wl_val (.int .i64 3) rfl (fun w => run_nat (X := 2) (Y := 1) (Z := 3) rfl rfl rfl rfl (by omega) w) ?_
    simp only [Act.put, List.setIfInBounds_toArray, List.set_cons_zero, List.set_cons_succ]
    refine wl_val (.int .i64 cy) rfl (fun _ => rfl) ?_
    simp only [Act.put, List.setIfInBounds_toArray, List.set_cons_zero, List.set_cons_succ]
    refine wl_call 14 #[.int .i64 cy] (.int .i64 (cy % 256)) rfl (fun _ => by go_simp) (fun W => seq_any cy W) ?_
    simp only [Act.put, List.setIfInBounds_toArray, List.set_cons_zero, List.set_cons_succ]
    refine wl_val (.int .i16 v3) rfl (fun _ => rfl) ?_
    simp only [Act.put, List.setIfInBounds_toArray, List.set_cons_zero, List.set_cons_succ]
    refine wl_val (.int .i64 (v3)) rfl (fun w => Sw.run_conv rfl rfl Try.underlying39 Try.underlying2 (i64_in (by omega) (by omega)) w) ?_
    simp only [Act.put, List.setIfInBounds_toArray, List.set_cons_zero, List.set_cons_succ]
    refine wl_val (.agg #[.int .i64 3, .int .i64 (cy % 256), .int .i64 (v3)]) rfl (fun _ => by go_simp) ?_
    simp only [Act.put, List.setIfInBounds_toArray, List.set_cons_zero, List.set_cons_succ]
    refine wl_new 43 (#[.int .i64 0, .int .i64 0, .int .i64 0]) rfl (fun _ => by go_simp) ?_
    intro g11
    simp only [Act.put, List.setIfInBounds_toArray, List.set_cons_zero, List.set_cons_succ]
    refine wl_store 0 43 (.tmp 10) (.tmp 34) (#[.int .i64 3, .int .i64 (cy % 256), .int .i64 (v3)]) rfl rfl rfl rfl rfl (by kernel_rfl) rfl (by simp [Value.oneCell']) ?_
    simp only [Act.put, List.set_cons_zero]
    refine wl_nil ?_
    refine we_then ?_
    refine wc_seq ?_
    refine wc_seq ?_
    refine wc_region ?_
    refine wl_val (.pointer (some ⟨g11, 0, none⟩)) rfl (fun _ => by go_simp) ?_
    simp only [Act.put, List.setIfInBounds_toArray, List.set_cons_zero, List.set_cons_succ]
    refine wl_cell 3 (.tmp 35) (.int .i64 3) (own_row 0 rfl) rfl rfl rfl rfl Try.isAgg3 ?_
    simp only [Act.put, List.setIfInBounds_toArray, List.set_cons_zero, List.set_cons_succ]
    refine wl_val (.bool false) rfl (fun w => run_cmp rfl rfl rfl Try.underlying3 rfl w) ?_
    simp only [Act.put, List.setIfInBounds_toArray, List.set_cons_zero, List.set_cons_succ]
    refine wl_val (.bool false) rfl (fun _ => rfl) ?_
    simp only [Act.put, List.setIfInBounds_toArray, List.set_cons_zero, List.set_cons_succ]
    refine wl_skip rfl ?_
    simp only [Act.put, List.setIfInBounds_toArray, List.set_cons_zero, List.set_cons_succ]
    refine wl_skip rfl ?_
    simp only [Act.put, List.setIfInBounds_toArray, List.set_cons_zero, List.set_cons_succ]
    refine wl_skip rfl ?_
    simp only [Act.put, List.setIfInBounds_toArray, List.set_cons_zero, List.set_cons_succ]
    refine wl_val (.bool false) rfl (fun _ => rfl) ?_
    simp only [Act.put, List.setIfInBounds_toArray, List.set_cons_zero, List.set_cons_succ]
    refine wl_nil ?_
    refine we_then ?_
    refine wc_false rfl ?_
    refine wc_skip ?_
    refine we_then ?_
    refine wc_seq ?_
    refine wc_region ?_
    refine wl_load 43 (.tmp 10) (own_row 0 rfl) rfl rfl rfl Try.underlying43 rfl (by kernel_rfl) ?_
    simp only [Act.put, List.setIfInBounds_toArray, List.set_cons_zero, List.set_cons_succ]
    refine wl_call_env (ι := Nat) 15 #[.agg #[.int .i64 3, .int .i64 (cy % 256), .int .i64 (v3)]] (fun g12 => .tuple #[.slice (some ⟨g12, 0, none⟩) ((putL 3 (cy % 256) (v3)).length) ((putL 3 (cy % 256) (v3)).length), .int .i64 0]) (fun g12 => [⟨g12, (flat ub (putL 3 (cy % 256) (v3))).toArray, 5⟩]) (fun _ => True) rfl (fun _ => by go_simp) (fun W hE => put_yes e3 rfl W) ?_
    rintro g12 -
    simp only [List.cons_append, List.nil_append, Act.put, List.setIfInBounds_toArray, List.set_cons_zero, List.set_cons_succ]
    refine wl_val (.tuple #[.slice (some ⟨g12, 0, none⟩) ((putL 3 (cy % 256) (v3)).length) ((putL 3 (cy % 256) (v3)).length), .int .i64 0]) rfl (fun _ => rfl) ?_
    simp only [Act.put, List.setIfInBounds_toArray, List.set_cons_zero, List.set_cons_succ]
    refine wl_val (.slice (some ⟨g12, 0, none⟩) ((putL 3 (cy % 256) (v3)).length) ((putL 3 (cy % 256) (v3)).length)) rfl (fun _ => by go_simp) ?_
    simp only [Act.put, List.setIfInBounds_toArray, List.set_cons_zero, List.set_cons_succ]
    refine wl_val (.int .i64 0) rfl (fun _ => by go_simp) ?_
    simp only [Act.put, List.setIfInBounds_toArray, List.set_cons_zero, List.set_cons_succ]
    refine wl_val (.slice (some ⟨g12, 0, none⟩) ((putL 3 (cy % 256) (v3)).length) ((putL 3 (cy % 256) (v3)).length)) rfl (fun _ => rfl) ?_
    simp only [Act.put, List.setIfInBounds_toArray, List.set_cons_zero, List.set_cons_succ]
    refine wl_val (.int .i64 0) rfl (fun _ => rfl) ?_
    simp only [Act.put, List.setIfInBounds_toArray, List.set_cons_zero, List.set_cons_succ]
    refine wl_nil ?_
    refine we_then ?_
    refine wc_seq ?_
    refine wc_seq ?_
    refine wc_region ?_
    refine wl_val (.int .i64 0) rfl (fun _ => rfl) ?_
    simp only [Act.put, List.setIfInBounds_toArray, List.set_cons_zero, List.set_cons_succ]
    refine wl_val (.bool false) rfl (fun w => run_cmp rfl rfl rfl Try.underlying46 rfl w) ?_
    simp only [Act.put, List.setIfInBounds_toArray, List.set_cons_zero, List.set_cons_succ]
    refine wl_nil ?_
    refine we_then ?_
    refine wc_false rfl ?_
    refine wc_skip ?_
    refine we_then ?_
    refine wc_region ?_
    refine wl_val (.slice s10.ptr (1 + 1) s10.cap) rfl (fun _ => rfl) ?_
    simp only [Act.put, List.setIfInBounds_toArray, List.set_cons_zero, List.set_cons_succ]
    refine wl_val (.slice (some ⟨g12, 0, none⟩) ((putL 3 (cy % 256) (v3)).length) ((putL 3 (cy % 256) (v3)).length)) rfl (fun _ => rfl) ?_
    simp only [Act.put, List.setIfInBounds_toArray, List.set_cons_zero, List.set_cons_succ]
    refine wl_lit (e := 45) #[.slice (some ⟨g12, 0, none⟩) ((putL 3 (cy % 256) (v3)).length) ((putL 3 (cy % 256) (v3)).length)] 1 rfl (fun _ => by go_simp) ?_
    intro g13
    simp only [Act.put, List.setIfInBounds_toArray, List.set_cons_zero, List.set_cons_succ]
    refine wl_append (e := 45) (size := 1) (bytes := 24) (m := 1) [⟨g13, #[.slice (some ⟨g12, 0, none⟩) ((putL 3 (cy % 256) (v3)).length) ((putL 3 (cy % 256) (v3)).length)], 45⟩, ⟨g12, (flat ub (putL 3 (cy % 256) (v3))).toArray, 5⟩, ⟨g11, #[.int .i64 3, .int .i64 (cy % 256), .int .i64 (v3)], 43⟩, ⟨g9, #[.slice (some ⟨g8, 0, none⟩) ((putL 2 (cy % 256) (v2 % 65536)).length) ((putL 2 (cy % 256) (v2 % 65536)).length)], 45⟩, ⟨g8, (flat ub (putL 2 (cy % 256) (v2 % 65536))).toArray, 5⟩, ⟨g7, #[.int .i64 2, .int .i64 (cy % 256), .int .i64 (v2 % 65536)], 43⟩, ⟨g5, #[.slice (some ⟨g4, 0, none⟩) ((putL 1 (cy % 256) (v1 % 65536)).length) ((putL 1 (cy % 256) (v1 % 65536)).length)], 45⟩, ⟨g4, (flat ub (putL 1 (cy % 256) (v1 % 65536))).toArray, 5⟩, ⟨g3, #[.int .i64 1, .int .i64 (cy % 256), .int .i64 (v1 % 65536)], 43⟩, ⟨g1, #[.int .i16 v1, .int .i16 v2, .int .i16 v3, .int .i16 v4, .int .i16 v5], 40⟩] [] s10 (ys := flat tx ([⟨some ⟨g12, 0, none⟩, putL 3 (cy % 256) (v3), (putL 3 (cy % 256) (v3)).length⟩])) rfl hs10 (sl_txlit 0 (T := [⟨some ⟨g12, 0, none⟩, putL 3 (cy % 256) (v3), (putL 3 (cy % 256) (v3)).length⟩]) rfl rfl) (tx_len1 rfl) (flat_one tx_one _) rfl rfl rfl rfl Try.underlying22 (by unfold Elem; kernel_rfl) (by decide) (by unfold maxLen; omega) (by omega) ?_
    intro s14 hs14
    replace hs14 := has_cast (show _ = flat tx (([⟨some ⟨g4, 0, none⟩, putL 1 (cy % 256) (v1 % 65536), (putL 1 (cy % 256) (v1 % 65536)).length⟩]) ++ ([⟨some ⟨g8, 0, none⟩, putL 2 (cy % 256) (v2 % 65536), (putL 2 (cy % 256) (v2 % 65536)).length⟩]) ++ ([⟨some ⟨g12, 0, none⟩, putL 3 (cy % 256) (v3), (putL 3 (cy % 256) (v3)).length⟩])) from by rw [flat_append] <;> rfl) hs14
    simp only [List.cons_append, List.nil_append, Act.put, List.setIfInBounds_toArray, List.set_cons_zero, List.set_cons_succ]
    refine wl_val (.slice s14.ptr (1 + 1 + 1) s14.cap) rfl (fun _ => rfl) ?_
    simp only [Act.put, List.setIfInBounds_toArray, List.set_cons_zero, List.set_cons_succ]
    refine wl_nil ?_
    refine we_in ?_
    refine we_then ?_
    refine wc_region ?_
    refine wl_val (.int .i64 3) rfl (fun w => run_nat (X := 2) (Y := 1) (Z := 3) rfl rfl rfl rfl (by omega) w) ?_
    simp only [Act.put, List.setIfInBounds_toArray, List.set_cons_zero, List.set_cons_succ]
    refine wl_val (.int .i64 3) rfl (fun _ => rfl) ?_
    simp only [Act.put, List.setIfInBounds_toArray, List.set_cons_zero, List.set_cons_succ]
    refine wl_nil ?_
    refine we_round ?_
    refine wr_round ?_
    refine wc_seq ?_
    refine wc_region ?_
    refine wl_val (.bool true) rfl (fun w => run_cmp rfl rfl rfl Try.underlying3 rfl w) ?_
    simp only [Act.put, List.setIfInBounds_toArray, List.set_cons_zero, List.set_cons_succ]
    refine wl_nil ?_
    refine we_then ?_
    refine wc_seq ?_
    refine wc_true rfl ?_
    refine wc_skip ?_
    refine we_then ?_
    refine wc_seq ?_
    refine wc_block ?_
    refine wc_seq ?_
    refine wc_region ?_
    refine wl_val (.int .i64 3) rfl (fun _ => rfl) ?_
    simp only [Act.put, List.setIfInBounds_toArray, List.set_cons_zero, List.set_cons_succ]
    refine wl_val (.int .i16 v4) rfl (fun w => run_index (k := 3) rfl rfl rfl rfl (by decide) Try.underlying40 Try.isAgg39 (by kernel_rfl) rfl w) ?_
    simp only [Act.put, List.setIfInBounds_toArray, List.set_cons_zero, List.set_cons_succ]
    refine wl_val (.int .i64 3) rfl (fun _ => rfl) ?_
    simp only [Act.put, List.setIfInBounds_toArray, List.set_cons_zero, List.set_cons_succ]
    refine wl_val (.int .i16 v4) rfl (fun _ => rfl) ?_
    simp only [Act.put, List.setIfInBounds_toArray, List.set_cons_zero, List.set_cons_succ]
    refine wl_nil ?_
    refine we_then ?_
    refine wc_seq ?_
    refine wc_region ?_
    refine wl_val (.int .i64 3) rfl (fun _ => rfl) ?_
    simp only [Act.put, List.setIfInBounds_toArray, List.set_cons_zero, List.set_cons_succ]
    refine wl_val (.int .i64 4) rfl (fun w => run_nat (X := 3) (Y := 1) (Z := 4) rfl rfl rfl rfl (by omega) w) ?_
    simp only [Act.put, List.setIfInBounds_toArray, List.set_cons_zero, List.set_cons_succ]
    refine wl_val (.int .i64 cy) rfl (fun _ => rfl) ?_
    simp only [Act.put, List.setIfInBounds_toArray, List.set_cons_zero, List.set_cons_succ]
    refine wl_call 14 #[.int .i64 cy] (.int .i64 (cy % 256)) rfl (fun _ => by go_simp) (fun W => seq_any cy W) ?_
    simp only [Act.put, List.setIfInBounds_toArray, List.set_cons_zero, List.set_cons_succ]
    refine wl_val (.int .i16 v4) rfl (fun _ => rfl) ?_
    simp only [Act.put, List.setIfInBounds_toArray, List.set_cons_zero, List.set_cons_succ]
    refine wl_val (.int .i64 (v4)) rfl (fun w => Sw.run_conv rfl rfl Try.underlying39 Try.underlying2 (i64_in (by omega) (by omega)) w) ?_
    simp only [Act.put, List.setIfInBounds_toArray, List.set_cons_zero, List.set_cons_succ]
    refine wl_val (.agg #[.int .i64 4, .int .i64 (cy % 256), .int .i64 (v4)]) rfl (fun _ => by go_simp) ?_
    simp only [Act.put, List.setIfInBounds_toArray, List.set_cons_zero, List.set_cons_succ]
    refine wl_new 43 (#[.int .i64 0, .int .i64 0, .int .i64 0]) rfl (fun _ => by go_simp) ?_
    intro g15
    simp only [Act.put, List.setIfInBounds_toArray, List.set_cons_zero, List.set_cons_succ]
    refine wl_store 0 43 (.tmp 10) (.tmp 34) (#[.int .i64 4, .int .i64 (cy % 256), .int .i64 (v4)]) rfl rfl rfl rfl rfl (by kernel_rfl) rfl (by simp [Value.oneCell']) ?_
    simp only [Act.put, List.set_cons_zero]
    refine wl_nil ?_
    refine we_then ?_
    refine wc_seq ?_
    refine wc_seq ?_
    refine wc_region ?_
    refine wl_val (.pointer (some ⟨g15, 0, none⟩)) rfl (fun _ => by go_simp) ?_
    simp only [Act.put, List.setIfInBounds_toArray, List.set_cons_zero, List.set_cons_succ]
    refine wl_cell 3 (.tmp 35) (.int .i64 4) (own_row 0 rfl) rfl rfl rfl rfl Try.isAgg3 ?_
    simp only [Act.put, List.setIfInBounds_toArray, List.set_cons_zero, List.set_cons_succ]
    refine wl_val (.bool true) rfl (fun w => run_cmp rfl rfl rfl Try.underlying3 rfl w) ?_
    simp only [Act.put, List.setIfInBounds_toArray, List.set_cons_zero, List.set_cons_succ]
    refine wl_val (.bool true) rfl (fun _ => rfl) ?_
    simp only [Act.put, List.setIfInBounds_toArray, List.set_cons_zero, List.set_cons_succ]
    refine wl_val (.pointer (some ⟨g15, 0, none⟩)) rfl (fun _ => by go_simp) ?_
    simp only [Act.put, List.setIfInBounds_toArray, List.set_cons_zero, List.set_cons_succ]
    refine wl_cell 3 (.tmp 39) (.int .i64 4) (own_row 0 rfl) rfl rfl rfl rfl Try.isAgg3 ?_
    simp only [Act.put, List.setIfInBounds_toArray, List.set_cons_zero, List.set_cons_succ]
    refine wl_val (.bool false) rfl (fun w => run_cmp rfl rfl rfl Try.underlying3 rfl w) ?_
    simp only [Act.put, List.setIfInBounds_toArray, List.set_cons_zero, List.set_cons_succ]
    refine wl_val (.bool false) rfl (fun _ => rfl) ?_
    simp only [Act.put, List.setIfInBounds_toArray, List.set_cons_zero, List.set_cons_succ]
    refine wl_nil ?_
    refine we_then ?_
    refine wc_false rfl ?_
    refine wc_skip ?_
    refine we_then ?_
    refine wc_seq ?_
    refine wc_region ?_
    refine wl_load 43 (.tmp 10) (own_row 0 rfl) rfl rfl rfl Try.underlying43 rfl (by kernel_rfl) ?_
    simp only [Act.put, List.setIfInBounds_toArray, List.set_cons_zero, List.set_cons_succ]
    refine wl_call_env (ι := Nat) 15 #[.agg #[.int .i64 4, .int .i64 (cy % 256), .int .i64 (v4)]] (fun g16 => .tuple #[.slice (some ⟨g16, 0, none⟩) ((putL 4 (cy % 256) (v4)).length) ((putL 4 (cy % 256) (v4)).length), .int .i64 0]) (fun g16 => [⟨g16, (flat ub (putL 4 (cy % 256) (v4))).toArray, 5⟩]) (fun _ => True) rfl (fun _ => by go_simp) (fun W hE => put_yes e4 rfl W) ?_
    rintro g16 -
    simp only [List.cons_append, List.nil_append, Act.put, List.setIfInBounds_toArray, List.set_cons_zero, List.set_cons_succ]
    refine wl_val (.tuple #[.slice (some ⟨g16, 0, none⟩) ((putL 4 (cy % 256) (v4)).length) ((putL 4 (cy % 256) (v4)).length), .int .i64 0]) rfl (fun _ => rfl) ?_
    simp only [Act.put, List.setIfInBounds_toArray, List.set_cons_zero, List.set_cons_succ]
    refine wl_val (.slice (some ⟨g16, 0, none⟩) ((putL 4 (cy % 256) (v4)).length) ((putL 4 (cy % 256) (v4)).length)) rfl (fun _ => by go_simp) ?_
    simp only [Act.put, List.setIfInBounds_toArray, List.set_cons_zero, List.set_cons_succ]
    refine wl_val (.int .i64 0) rfl (fun _ => by go_simp) ?_
    simp only [Act.put, List.setIfInBounds_toArray, List.set_cons_zero, List.set_cons_succ]
    refine wl_val (.slice (some ⟨g16, 0, none⟩) ((putL 4 (cy % 256) (v4)).length) ((putL 4 (cy % 256) (v4)).length)) rfl (fun _ => rfl) ?_
    simp only [Act.put, List.setIfInBounds_toArray, List.set_cons_zero, List.set_cons_succ]
    refine wl_val (.int .i64 0) rfl (fun _ => rfl) ?_
    simp only [Act.put, List.setIfInBounds_toArray, List.set_cons_zero, List.set_cons_succ]
    refine wl_nil ?_
    refine we_then ?_
    refine wc_seq ?_
    refine wc_seq ?_
    refine wc_region ?_
    refine wl_val (.int .i64 0) rfl (fun _ => rfl) ?_
    simp only [Act.put, List.setIfInBounds_toArray, List.set_cons_zero, List.set_cons_succ]
    refine wl_val (.bool false) rfl (fun w => run_cmp rfl rfl rfl Try.underlying46 rfl w) ?_
    simp only [Act.put, List.setIfInBounds_toArray, List.set_cons_zero, List.set_cons_succ]
    refine wl_nil ?_
    refine we_then ?_
    refine wc_false rfl ?_
    refine wc_skip ?_
    refine we_then ?_
    refine wc_region ?_
    refine wl_val (.slice s14.ptr (1 + 1 + 1) s14.cap) rfl (fun _ => rfl) ?_
    simp only [Act.put, List.setIfInBounds_toArray, List.set_cons_zero, List.set_cons_succ]
    refine wl_val (.slice (some ⟨g16, 0, none⟩) ((putL 4 (cy % 256) (v4)).length) ((putL 4 (cy % 256) (v4)).length)) rfl (fun _ => rfl) ?_
    simp only [Act.put, List.setIfInBounds_toArray, List.set_cons_zero, List.set_cons_succ]
    refine wl_lit (e := 45) #[.slice (some ⟨g16, 0, none⟩) ((putL 4 (cy % 256) (v4)).length) ((putL 4 (cy % 256) (v4)).length)] 1 rfl (fun _ => by go_simp) ?_
    intro g17
    simp only [Act.put, List.setIfInBounds_toArray, List.set_cons_zero, List.set_cons_succ]
    refine wl_append (e := 45) (size := 1) (bytes := 24) (m := 1) [⟨g17, #[.slice (some ⟨g16, 0, none⟩) ((putL 4 (cy % 256) (v4)).length) ((putL 4 (cy % 256) (v4)).length)], 45⟩, ⟨g16, (flat ub (putL 4 (cy % 256) (v4))).toArray, 5⟩, ⟨g15, #[.int .i64 4, .int .i64 (cy % 256), .int .i64 (v4)], 43⟩, ⟨g13, #[.slice (some ⟨g12, 0, none⟩) ((putL 3 (cy % 256) (v3)).length) ((putL 3 (cy % 256) (v3)).length)], 45⟩, ⟨g12, (flat ub (putL 3 (cy % 256) (v3))).toArray, 5⟩, ⟨g11, #[.int .i64 3, .int .i64 (cy % 256), .int .i64 (v3)], 43⟩, ⟨g9, #[.slice (some ⟨g8, 0, none⟩) ((putL 2 (cy % 256) (v2 % 65536)).length) ((putL 2 (cy % 256) (v2 % 65536)).length)], 45⟩, ⟨g8, (flat ub (putL 2 (cy % 256) (v2 % 65536))).toArray, 5⟩, ⟨g7, #[.int .i64 2, .int .i64 (cy % 256), .int .i64 (v2 % 65536)], 43⟩, ⟨g5, #[.slice (some ⟨g4, 0, none⟩) ((putL 1 (cy % 256) (v1 % 65536)).length) ((putL 1 (cy % 256) (v1 % 65536)).length)], 45⟩, ⟨g4, (flat ub (putL 1 (cy % 256) (v1 % 65536))).toArray, 5⟩, ⟨g3, #[.int .i64 1, .int .i64 (cy % 256), .int .i64 (v1 % 65536)], 43⟩, ⟨g1, #[.int .i16 v1, .int .i16 v2, .int .i16 v3, .int .i16 v4, .int .i16 v5], 40⟩] [] s14 (ys := flat tx ([⟨some ⟨g16, 0, none⟩, putL 4 (cy % 256) (v4), (putL 4 (cy % 256) (v4)).length⟩])) rfl hs14 (sl_txlit 0 (T := [⟨some ⟨g16, 0, none⟩, putL 4 (cy % 256) (v4), (putL 4 (cy % 256) (v4)).length⟩]) rfl rfl) (tx_len1 rfl) (flat_one tx_one _) rfl rfl rfl rfl Try.underlying22 (by unfold Elem; kernel_rfl) (by decide) (by unfold maxLen; omega) (by omega) ?_
    intro s18 hs18
    replace hs18 := has_cast (show _ = flat tx (([⟨some ⟨g4, 0, none⟩, putL 1 (cy % 256) (v1 % 65536), (putL 1 (cy % 256) (v1 % 65536)).length⟩]) ++ ([⟨some ⟨g8, 0, none⟩, putL 2 (cy % 256) (v2 % 65536), (putL 2 (cy % 256) (v2 % 65536)).length⟩]) ++ ([⟨some ⟨g12, 0, none⟩, putL 3 (cy % 256) (v3), (putL 3 (cy % 256) (v3)).length⟩]) ++ ([⟨some ⟨g16, 0, none⟩, putL 4 (cy % 256) (v4), (putL 4 (cy % 256) (v4)).length⟩])) from by rw [flat_append] <;> rfl) hs18
    simp only [List.cons_append, List.nil_append, Act.put, List.setIfInBounds_toArray, List.set_cons_zero, List.set_cons_succ]
    refine wl_val (.slice s18.ptr (1 + 1 + 1 + 1) s18.cap) rfl (fun _ => rfl) ?_
    simp only [Act.put, List.setIfInBounds_toArray, List.set_cons_zero, List.set_cons_succ]
    refine wl_nil ?_
    refine we_in ?_
    refine we_then ?_
    refine wc_region ?_
    refine wl_val (.int .i64 4) rfl (fun w => run_nat (X := 3) (Y := 1) (Z := 4) rfl rfl rfl rfl (by omega) w) ?_
    simp only [Act.put, List.setIfInBounds_toArray, List.set_cons_zero, List.set_cons_succ]
    refine wl_val (.int .i64 4) rfl (fun _ => rfl) ?_
    simp only [Act.put, List.setIfInBounds_toArray, List.set_cons_zero, List.set_cons_succ]
    refine wl_nil ?_
    refine we_round ?_
    refine wr_round ?_
    refine wc_seq ?_
    refine wc_region ?_
    refine wl_val (.bool true) rfl (fun w => run_cmp rfl rfl rfl Try.underlying3 rfl w) ?_
    simp only [Act.put, List.setIfInBounds_toArray, List.set_cons_zero, List.set_cons_succ]
    refine wl_nil ?_
    refine we_then ?_
    refine wc_seq ?_
    refine wc_true rfl ?_
    refine wc_skip ?_
    refine we_then ?_
    refine wc_seq ?_
    refine wc_block ?_
    refine wc_seq ?_
    refine wc_region ?_
    refine wl_val (.int .i64 4) rfl (fun _ => rfl) ?_
    simp only [Act.put, List.setIfInBounds_toArray, List.set_cons_zero, List.set_cons_succ]
    refine wl_val (.int .i16 v5) rfl (fun w => run_index (k := 4) rfl rfl rfl rfl (by decide) Try.underlying40 Try.isAgg39 (by kernel_rfl) rfl w) ?_
    simp only [Act.put, List.setIfInBounds_toArray, List.set_cons_zero, List.set_cons_succ]
    refine wl_val (.int .i64 4) rfl (fun _ => rfl) ?_
    simp only [Act.put, List.setIfInBounds_toArray, List.set_cons_zero, List.set_cons_succ]
    refine wl_val (.int .i16 v5) rfl (fun _ => rfl) ?_
    simp only [Act.put, List.setIfInBounds_toArray, List.set_cons_zero, List.set_cons_succ]
    refine wl_nil ?_
    refine we_then ?_
    refine wc_seq ?_
    refine wc_region ?_
    refine wl_val (.int .i64 4) rfl (fun _ => rfl) ?_
    simp only [Act.put, List.setIfInBounds_toArray, List.set_cons_zero, List.set_cons_succ]
    refine wl_val (.int .i64 5) rfl (fun w => run_nat (X := 4) (Y := 1) (Z := 5) rfl rfl rfl rfl (by omega) w) ?_
    simp only [Act.put, List.setIfInBounds_toArray, List.set_cons_zero, List.set_cons_succ]
    refine wl_val (.int .i64 cy) rfl (fun _ => rfl) ?_
    simp only [Act.put, List.setIfInBounds_toArray, List.set_cons_zero, List.set_cons_succ]
    refine wl_call 14 #[.int .i64 cy] (.int .i64 (cy % 256)) rfl (fun _ => by go_simp) (fun W => seq_any cy W) ?_
    simp only [Act.put, List.setIfInBounds_toArray, List.set_cons_zero, List.set_cons_succ]
    refine wl_val (.int .i16 v5) rfl (fun _ => rfl) ?_
    simp only [Act.put, List.setIfInBounds_toArray, List.set_cons_zero, List.set_cons_succ]
    refine wl_val (.int .i64 (v5)) rfl (fun w => Sw.run_conv rfl rfl Try.underlying39 Try.underlying2 (i64_in (by omega) (by omega)) w) ?_
    simp only [Act.put, List.setIfInBounds_toArray, List.set_cons_zero, List.set_cons_succ]
    refine wl_val (.agg #[.int .i64 5, .int .i64 (cy % 256), .int .i64 (v5)]) rfl (fun _ => by go_simp) ?_
    simp only [Act.put, List.setIfInBounds_toArray, List.set_cons_zero, List.set_cons_succ]
    refine wl_new 43 (#[.int .i64 0, .int .i64 0, .int .i64 0]) rfl (fun _ => by go_simp) ?_
    intro g19
    simp only [Act.put, List.setIfInBounds_toArray, List.set_cons_zero, List.set_cons_succ]
    refine wl_store 0 43 (.tmp 10) (.tmp 34) (#[.int .i64 5, .int .i64 (cy % 256), .int .i64 (v5)]) rfl rfl rfl rfl rfl (by kernel_rfl) rfl (by simp [Value.oneCell']) ?_
    simp only [Act.put, List.set_cons_zero]
    refine wl_nil ?_
    refine we_then ?_
    refine wc_seq ?_
    refine wc_seq ?_
    refine wc_region ?_
    refine wl_val (.pointer (some ⟨g19, 0, none⟩)) rfl (fun _ => by go_simp) ?_
    simp only [Act.put, List.setIfInBounds_toArray, List.set_cons_zero, List.set_cons_succ]
    refine wl_cell 3 (.tmp 35) (.int .i64 5) (own_row 0 rfl) rfl rfl rfl rfl Try.isAgg3 ?_
    simp only [Act.put, List.setIfInBounds_toArray, List.set_cons_zero, List.set_cons_succ]
    refine wl_val (.bool true) rfl (fun w => run_cmp rfl rfl rfl Try.underlying3 rfl w) ?_
    simp only [Act.put, List.setIfInBounds_toArray, List.set_cons_zero, List.set_cons_succ]
    refine wl_val (.bool true) rfl (fun _ => rfl) ?_
    simp only [Act.put, List.setIfInBounds_toArray, List.set_cons_zero, List.set_cons_succ]
    refine wl_val (.pointer (some ⟨g19, 0, none⟩)) rfl (fun _ => by go_simp) ?_
    simp only [Act.put, List.setIfInBounds_toArray, List.set_cons_zero, List.set_cons_succ]
    refine wl_cell 3 (.tmp 39) (.int .i64 5) (own_row 0 rfl) rfl rfl rfl rfl Try.isAgg3 ?_
    simp only [Act.put, List.setIfInBounds_toArray, List.set_cons_zero, List.set_cons_succ]
    refine wl_val (.bool true) rfl (fun w => run_cmp rfl rfl rfl Try.underlying3 rfl w) ?_
    simp only [Act.put, List.setIfInBounds_toArray, List.set_cons_zero, List.set_cons_succ]
    refine wl_val (.bool true) rfl (fun _ => rfl) ?_
    simp only [Act.put, List.setIfInBounds_toArray, List.set_cons_zero, List.set_cons_succ]
    refine wl_nil ?_
    refine we_then ?_
    refine wc_true rfl ?_
    refine wc_region ?_
    refine wl_val (.int .i16 v5) rfl (fun _ => rfl) ?_
    simp only [Act.put, List.setIfInBounds_toArray, List.set_cons_zero, List.set_cons_succ]
    refine wl_val (.int .u16 (v5 % 65536)) rfl (fun w => Sw.run_conv rfl rfl Try.underlying39 Try.underlying44 (u16_mod _) w) ?_
    simp only [Act.put, List.setIfInBounds_toArray, List.set_cons_zero, List.set_cons_succ]
    refine wl_val (.int .i64 (v5 % 65536)) rfl (fun w => Sw.run_conv rfl rfl Try.underlying44 Try.underlying2 (i64_in (by omega) (by omega)) w) ?_
    simp only [Act.put, List.setIfInBounds_toArray, List.set_cons_zero, List.set_cons_succ]
    refine wl_val (.pointer (some ⟨g19, 2, none⟩)) rfl (fun _ => by go_simp) ?_
    simp only [Act.put, List.setIfInBounds_toArray, List.set_cons_zero, List.set_cons_succ]
    refine wl_store_cell 0 2 (.tmp 46) (.tmp 45) (.int .i64 (v5)) (.int .i64 (v5 % 65536)) rfl rfl rfl rfl rfl rfl (by kernel_rfl) rfl ?_
    simp only [Act.put, List.set_cons_zero]
    refine wl_nil ?_
    refine we_then ?_
    refine wc_seq ?_
    refine wc_region ?_
    refine wl_load 43 (.tmp 10) (own_row 0 rfl) rfl rfl rfl Try.underlying43 rfl (by kernel_rfl) ?_
    simp only [Act.put, List.setIfInBounds_toArray, List.set_cons_zero, List.set_cons_succ]
    refine wl_call_env (ι := Nat) 15 #[.agg #[.int .i64 5, .int .i64 (cy % 256), .int .i64 (v5 % 65536)]] (fun g20 => .tuple #[.slice (some ⟨g20, 0, none⟩) ((putL 5 (cy % 256) (v5 % 65536)).length) ((putL 5 (cy % 256) (v5 % 65536)).length), .int .i64 0]) (fun g20 => [⟨g20, (flat ub (putL 5 (cy % 256) (v5 % 65536))).toArray, 5⟩]) (fun _ => True) rfl (fun _ => by go_simp) (fun W hE => put_yes e5 rfl W) ?_
    rintro g20 -
    simp only [List.cons_append, List.nil_append, Act.put, List.setIfInBounds_toArray, List.set_cons_zero, List.set_cons_succ]
    refine wl_val (.tuple #[.slice (some ⟨g20, 0, none⟩) ((putL 5 (cy % 256) (v5 % 65536)).length) ((putL 5 (cy % 256) (v5 % 65536)).length), .int .i64 0]) rfl (fun _ => rfl) ?_
    simp only [Act.put, List.setIfInBounds_toArray, List.set_cons_zero, List.set_cons_succ]
    refine wl_val (.slice (some ⟨g20, 0, none⟩) ((putL 5 (cy % 256) (v5 % 65536)).length) ((putL 5 (cy % 256) (v5 % 65536)).length)) rfl (fun _ => by go_simp) ?_
    simp only [Act.put, List.setIfInBounds_toArray, List.set_cons_zero, List.set_cons_succ]
    refine wl_val (.int .i64 0) rfl (fun _ => by go_simp) ?_
    simp only [Act.put, List.setIfInBounds_toArray, List.set_cons_zero, List.set_cons_succ]
    refine wl_val (.slice (some ⟨g20, 0, none⟩) ((putL 5 (cy % 256) (v5 % 65536)).length) ((putL 5 (cy % 256) (v5 % 65536)).length)) rfl (fun _ => rfl) ?_
    simp only [Act.put, List.setIfInBounds_toArray, List.set_cons_zero, List.set_cons_succ]
    refine wl_val (.int .i64 0) rfl (fun _ => rfl) ?_
    simp only [Act.put, List.setIfInBounds_toArray, List.set_cons_zero, List.set_cons_succ]
    refine wl_nil ?_
    refine we_then ?_
    refine wc_seq ?_
    refine wc_seq ?_
    refine wc_region ?_
    refine wl_val (.int .i64 0) rfl (fun _ => rfl) ?_
    simp only [Act.put, List.setIfInBounds_toArray, List.set_cons_zero, List.set_cons_succ]
    refine wl_val (.bool false) rfl (fun w => run_cmp rfl rfl rfl Try.underlying46 rfl w) ?_
    simp only [Act.put, List.setIfInBounds_toArray, List.set_cons_zero, List.set_cons_succ]
    refine wl_nil ?_
    refine we_then ?_
    refine wc_false rfl ?_
    refine wc_skip ?_
    refine we_then ?_
    refine wc_region ?_
    refine wl_val (.slice s18.ptr (1 + 1 + 1 + 1) s18.cap) rfl (fun _ => rfl) ?_
    simp only [Act.put, List.setIfInBounds_toArray, List.set_cons_zero, List.set_cons_succ]
    refine wl_val (.slice (some ⟨g20, 0, none⟩) ((putL 5 (cy % 256) (v5 % 65536)).length) ((putL 5 (cy % 256) (v5 % 65536)).length)) rfl (fun _ => rfl) ?_
    simp only [Act.put, List.setIfInBounds_toArray, List.set_cons_zero, List.set_cons_succ]
    refine wl_lit (e := 45) #[.slice (some ⟨g20, 0, none⟩) ((putL 5 (cy % 256) (v5 % 65536)).length) ((putL 5 (cy % 256) (v5 % 65536)).length)] 1 rfl (fun _ => by go_simp) ?_
    intro g21
    simp only [Act.put, List.setIfInBounds_toArray, List.set_cons_zero, List.set_cons_succ]
    refine wl_append (e := 45) (size := 1) (bytes := 24) (m := 1) [⟨g21, #[.slice (some ⟨g20, 0, none⟩) ((putL 5 (cy % 256) (v5 % 65536)).length) ((putL 5 (cy % 256) (v5 % 65536)).length)], 45⟩, ⟨g20, (flat ub (putL 5 (cy % 256) (v5 % 65536))).toArray, 5⟩, ⟨g19, #[.int .i64 5, .int .i64 (cy % 256), .int .i64 (v5 % 65536)], 43⟩, ⟨g17, #[.slice (some ⟨g16, 0, none⟩) ((putL 4 (cy % 256) (v4)).length) ((putL 4 (cy % 256) (v4)).length)], 45⟩, ⟨g16, (flat ub (putL 4 (cy % 256) (v4))).toArray, 5⟩, ⟨g15, #[.int .i64 4, .int .i64 (cy % 256), .int .i64 (v4)], 43⟩, ⟨g13, #[.slice (some ⟨g12, 0, none⟩) ((putL 3 (cy % 256) (v3)).length) ((putL 3 (cy % 256) (v3)).length)], 45⟩, ⟨g12, (flat ub (putL 3 (cy % 256) (v3))).toArray, 5⟩, ⟨g11, #[.int .i64 3, .int .i64 (cy % 256), .int .i64 (v3)], 43⟩, ⟨g9, #[.slice (some ⟨g8, 0, none⟩) ((putL 2 (cy % 256) (v2 % 65536)).length) ((putL 2 (cy % 256) (v2 % 65536)).length)], 45⟩, ⟨g8, (flat ub (putL 2 (cy % 256) (v2 % 65536))).toArray, 5⟩, ⟨g7, #[.int .i64 2, .int .i64 (cy % 256), .int .i64 (v2 % 65536)], 43⟩, ⟨g5, #[.slice (some ⟨g4, 0, none⟩) ((putL 1 (cy % 256) (v1 % 65536)).length) ((putL 1 (cy % 256) (v1 % 65536)).length)], 45⟩, ⟨g4, (flat ub (putL 1 (cy % 256) (v1 % 65536))).toArray, 5⟩, ⟨g3, #[.int .i64 1, .int .i64 (cy % 256), .int .i64 (v1 % 65536)], 43⟩, ⟨g1, #[.int .i16 v1, .int .i16 v2, .int .i16 v3, .int .i16 v4, .int .i16 v5], 40⟩] [] s18 (ys := flat tx ([⟨some ⟨g20, 0, none⟩, putL 5 (cy % 256) (v5 % 65536), (putL 5 (cy % 256) (v5 % 65536)).length⟩])) rfl hs18 (sl_txlit 0 (T := [⟨some ⟨g20, 0, none⟩, putL 5 (cy % 256) (v5 % 65536), (putL 5 (cy % 256) (v5 % 65536)).length⟩]) rfl rfl) (tx_len1 rfl) (flat_one tx_one _) rfl rfl rfl rfl Try.underlying22 (by unfold Elem; kernel_rfl) (by decide) (by unfold maxLen; omega) (by omega) ?_
    intro s22 hs22
    replace hs22 := has_cast (show _ = flat tx (([⟨some ⟨g4, 0, none⟩, putL 1 (cy % 256) (v1 % 65536), (putL 1 (cy % 256) (v1 % 65536)).length⟩]) ++ ([⟨some ⟨g8, 0, none⟩, putL 2 (cy % 256) (v2 % 65536), (putL 2 (cy % 256) (v2 % 65536)).length⟩]) ++ ([⟨some ⟨g12, 0, none⟩, putL 3 (cy % 256) (v3), (putL 3 (cy % 256) (v3)).length⟩]) ++ ([⟨some ⟨g16, 0, none⟩, putL 4 (cy % 256) (v4), (putL 4 (cy % 256) (v4)).length⟩]) ++ ([⟨some ⟨g20, 0, none⟩, putL 5 (cy % 256) (v5 % 65536), (putL 5 (cy % 256) (v5 % 65536)).length⟩])) from by rw [flat_append] <;> rfl) hs22
    simp only [List.cons_append, List.nil_append, Act.put, List.setIfInBounds_toArray, List.set_cons_zero, List.set_cons_succ]
    refine wl_val (.slice s22.ptr (1 + 1 + 1 + 1 + 1) s22.cap) rfl (fun _ => rfl) ?_
    simp only [Act.put, List.setIfInBounds_toArray, List.set_cons_zero, List.set_cons_succ]
    refine wl_nil ?_
    refine we_in ?_
    refine we_then ?_
    refine wc_region ?_
    refine wl_val (.int .i64 5) rfl (fun w => run_nat (X := 4) (Y := 1) (Z := 5) rfl rfl rfl rfl (by omega) w) ?_
    simp only [Act.put, List.setIfInBounds_toArray, List.set_cons_zero, List.set_cons_succ]
    refine wl_val (.int .i64 5) rfl (fun _ => rfl) ?_
    simp only [Act.put, List.setIfInBounds_toArray, List.set_cons_zero, List.set_cons_succ]
    refine wl_nil ?_
    refine we_round ?_
    refine wr_round ?_
    refine wc_seq ?_
    refine wc_region ?_
    refine wl_val (.bool false) rfl (fun w => run_cmp rfl rfl rfl Try.underlying3 rfl w) ?_
    simp only [Act.put, List.setIfInBounds_toArray, List.set_cons_zero, List.set_cons_succ]
    refine wl_nil ?_
    refine we_then ?_
    refine wc_seq ?_
    refine wc_false rfl ?_
    refine wc_exit ?_
    refine we_then_exit ?_
    refine we_then_exit ?_
    refine we_in_here ?_
    refine we_then ?_
    refine wc_seq ?_
    refine wc_region ?_
    refine wl_val (.int .i64 cy) rfl (fun _ => rfl) ?_
    simp only [Act.put, List.setIfInBounds_toArray, List.set_cons_zero, List.set_cons_succ]
    refine wl_val (.slice s22.ptr (1 + 1 + 1 + 1 + 1) s22.cap) rfl (fun _ => rfl) ?_
    simp only [Act.put, List.setIfInBounds_toArray, List.set_cons_zero, List.set_cons_succ]
    refine wl_call_at 10 #[.int .i64 cy, .slice s22.ptr (1 + 1 + 1 + 1 + 1) s22.cap] (.agg (mcells A (1 + 1 + 1 + 1 + 1 - 32)).toArray) rfl (fun _ => by go_simp) (fun W hE => sort_any cy (([⟨some ⟨g4, 0, none⟩, putL 1 (cy % 256) (v1 % 65536), (putL 1 (cy % 256) (v1 % 65536)).length⟩]) ++ ([⟨some ⟨g8, 0, none⟩, putL 2 (cy % 256) (v2 % 65536), (putL 2 (cy % 256) (v2 % 65536)).length⟩]) ++ ([⟨some ⟨g12, 0, none⟩, putL 3 (cy % 256) (v3), (putL 3 (cy % 256) (v3)).length⟩]) ++ ([⟨some ⟨g16, 0, none⟩, putL 4 (cy % 256) (v4), (putL 4 (cy % 256) (v4)).length⟩]) ++ ([⟨some ⟨g20, 0, none⟩, putL 5 (cy % 256) (v5 % 65536), (putL 5 (cy % 256) (v5 % 65536)).length⟩])) _ _ _ A W (tapp_len (tapp_len (tapp_len (tapp_len rfl rfl) rfl) rfl) rfl) ((sl_own [⟨g21, #[.slice (some ⟨g20, 0, none⟩) ((putL 5 (cy % 256) (v5 % 65536)).length) ((putL 5 (cy % 256) (v5 % 65536)).length)], 45⟩, ⟨g20, (flat ub (putL 5 (cy % 256) (v5 % 65536))).toArray, 5⟩, ⟨g19, #[.int .i64 5, .int .i64 (cy % 256), .int .i64 (v5 % 65536)], 43⟩, ⟨g17, #[.slice (some ⟨g16, 0, none⟩) ((putL 4 (cy % 256) (v4)).length) ((putL 4 (cy % 256) (v4)).length)], 45⟩, ⟨g16, (flat ub (putL 4 (cy % 256) (v4))).toArray, 5⟩, ⟨g15, #[.int .i64 4, .int .i64 (cy % 256), .int .i64 (v4)], 43⟩, ⟨g13, #[.slice (some ⟨g12, 0, none⟩) ((putL 3 (cy % 256) (v3)).length) ((putL 3 (cy % 256) (v3)).length)], 45⟩, ⟨g12, (flat ub (putL 3 (cy % 256) (v3))).toArray, 5⟩, ⟨g11, #[.int .i64 3, .int .i64 (cy % 256), .int .i64 (v3)], 43⟩, ⟨g9, #[.slice (some ⟨g8, 0, none⟩) ((putL 2 (cy % 256) (v2 % 65536)).length) ((putL 2 (cy % 256) (v2 % 65536)).length)], 45⟩, ⟨g8, (flat ub (putL 2 (cy % 256) (v2 % 65536))).toArray, 5⟩, ⟨g7, #[.int .i64 2, .int .i64 (cy % 256), .int .i64 (v2 % 65536)], 43⟩, ⟨g5, #[.slice (some ⟨g4, 0, none⟩) ((putL 1 (cy % 256) (v1 % 65536)).length) ((putL 1 (cy % 256) (v1 % 65536)).length)], 45⟩, ⟨g4, (flat ub (putL 1 (cy % 256) (v1 % 65536))).toArray, 5⟩, ⟨g3, #[.int .i64 1, .int .i64 (cy % 256), .int .i64 (v1 % 65536)], 43⟩, ⟨g1, #[.int .i16 v1, .int .i16 v2, .int .i16 v3, .int .i16 v4, .int .i16 v5], 40⟩] [] hs22 rfl) W hE) (ok_cons ((sl_mk 13 (L := putL 1 (cy % 256) (v1 % 65536)) rfl) W hE) (Nat.le_refl _) (Nat.le_trans pl1.2 (show 9 ≤ maxLen by decide)) (ok_cons ((sl_mk 10 (L := putL 2 (cy % 256) (v2 % 65536)) rfl) W hE) (Nat.le_refl _) (Nat.le_trans pl2.2 (show 9 ≤ maxLen by decide)) (ok_cons ((sl_mk 7 (L := putL 3 (cy % 256) (v3)) rfl) W hE) (Nat.le_refl _) (Nat.le_trans pl3.2 (show 9 ≤ maxLen by decide)) (ok_cons ((sl_mk 4 (L := putL 4 (cy % 256) (v4)) rfl) W hE) (Nat.le_refl _) (Nat.le_trans pl4.2 (show 9 ≤ maxLen by decide)) (ok_cons ((sl_mk 1 (L := putL 5 (cy % 256) (v5 % 65536)) rfl) W hE) (Nat.le_refl _) (Nat.le_trans pl5.2 (show 9 ≤ maxLen by decide)) (ok_nil W)))))) (short_cons (Nat.le_trans pl1.2 (by decide)) (short_cons (Nat.le_trans pl2.2 (by decide)) (short_cons (Nat.le_trans pl3.2 (by decide)) (short_cons (Nat.le_trans pl4.2 (by decide)) (short_cons (Nat.le_trans pl5.2 (by decide)) short_nil))))) (by decide) (has_cap hs22) hA) ?_
    simp only [Act.put, List.setIfInBounds_toArray, List.set_cons_zero, List.set_cons_succ]
    refine wl_val (.int .i64 cy) rfl (fun _ => rfl) ?_
    simp only [Act.put, List.setIfInBounds_toArray, List.set_cons_zero, List.set_cons_succ]
    refine wl_lit (e := 45) #[] 0 rfl (fun _ => by go_simp) ?_
    intro g23
    simp only [Act.put, List.setIfInBounds_toArray, List.set_cons_zero, List.set_cons_succ]
    refine wl_val (.slice s22.ptr (1 + 1 + 1 + 1 + 1) s22.cap) rfl (fun _ => rfl) ?_
    simp only [Act.put, List.setIfInBounds_toArray, List.set_cons_zero, List.set_cons_succ]
    refine wl_perm (perm_last [] ⟨g23, #[], 45⟩ [⟨g21, #[.slice (some ⟨g20, 0, none⟩) ((putL 5 (cy % 256) (v5 % 65536)).length) ((putL 5 (cy % 256) (v5 % 65536)).length)], 45⟩, ⟨g20, (flat ub (putL 5 (cy % 256) (v5 % 65536))).toArray, 5⟩, ⟨g19, #[.int .i64 5, .int .i64 (cy % 256), .int .i64 (v5 % 65536)], 43⟩, ⟨g17, #[.slice (some ⟨g16, 0, none⟩) ((putL 4 (cy % 256) (v4)).length) ((putL 4 (cy % 256) (v4)).length)], 45⟩, ⟨g16, (flat ub (putL 4 (cy % 256) (v4))).toArray, 5⟩, ⟨g15, #[.int .i64 4, .int .i64 (cy % 256), .int .i64 (v4)], 43⟩, ⟨g13, #[.slice (some ⟨g12, 0, none⟩) ((putL 3 (cy % 256) (v3)).length) ((putL 3 (cy % 256) (v3)).length)], 45⟩, ⟨g12, (flat ub (putL 3 (cy % 256) (v3))).toArray, 5⟩, ⟨g11, #[.int .i64 3, .int .i64 (cy % 256), .int .i64 (v3)], 43⟩, ⟨g9, #[.slice (some ⟨g8, 0, none⟩) ((putL 2 (cy % 256) (v2 % 65536)).length) ((putL 2 (cy % 256) (v2 % 65536)).length)], 45⟩, ⟨g8, (flat ub (putL 2 (cy % 256) (v2 % 65536))).toArray, 5⟩, ⟨g7, #[.int .i64 2, .int .i64 (cy % 256), .int .i64 (v2 % 65536)], 43⟩, ⟨g5, #[.slice (some ⟨g4, 0, none⟩) ((putL 1 (cy % 256) (v1 % 65536)).length) ((putL 1 (cy % 256) (v1 % 65536)).length)], 45⟩, ⟨g4, (flat ub (putL 1 (cy % 256) (v1 % 65536))).toArray, 5⟩, ⟨g3, #[.int .i64 1, .int .i64 (cy % 256), .int .i64 (v1 % 65536)], 43⟩, ⟨g1, #[.int .i16 v1, .int .i16 v2, .int .i16 v3, .int .i16 v4, .int .i16 v5], 40⟩] (s22.rows 45 ++ [])) ?_
    refine wl_append (e := 45) (size := 1) (bytes := 24) (m := 1 + 1 + 1 + 1 + 1) [⟨g21, #[.slice (some ⟨g20, 0, none⟩) ((putL 5 (cy % 256) (v5 % 65536)).length) ((putL 5 (cy % 256) (v5 % 65536)).length)], 45⟩, ⟨g20, (flat ub (putL 5 (cy % 256) (v5 % 65536))).toArray, 5⟩, ⟨g19, #[.int .i64 5, .int .i64 (cy % 256), .int .i64 (v5 % 65536)], 43⟩, ⟨g17, #[.slice (some ⟨g16, 0, none⟩) ((putL 4 (cy % 256) (v4)).length) ((putL 4 (cy % 256) (v4)).length)], 45⟩, ⟨g16, (flat ub (putL 4 (cy % 256) (v4))).toArray, 5⟩, ⟨g15, #[.int .i64 4, .int .i64 (cy % 256), .int .i64 (v4)], 43⟩, ⟨g13, #[.slice (some ⟨g12, 0, none⟩) ((putL 3 (cy % 256) (v3)).length) ((putL 3 (cy % 256) (v3)).length)], 45⟩, ⟨g12, (flat ub (putL 3 (cy % 256) (v3))).toArray, 5⟩, ⟨g11, #[.int .i64 3, .int .i64 (cy % 256), .int .i64 (v3)], 43⟩, ⟨g9, #[.slice (some ⟨g8, 0, none⟩) ((putL 2 (cy % 256) (v2 % 65536)).length) ((putL 2 (cy % 256) (v2 % 65536)).length)], 45⟩, ⟨g8, (flat ub (putL 2 (cy % 256) (v2 % 65536))).toArray, 5⟩, ⟨g7, #[.int .i64 2, .int .i64 (cy % 256), .int .i64 (v2 % 65536)], 43⟩, ⟨g5, #[.slice (some ⟨g4, 0, none⟩) ((putL 1 (cy % 256) (v1 % 65536)).length) ((putL 1 (cy % 256) (v1 % 65536)).length)], 45⟩, ⟨g4, (flat ub (putL 1 (cy % 256) (v1 % 65536))).toArray, 5⟩, ⟨g3, #[.int .i64 1, .int .i64 (cy % 256), .int .i64 (v1 % 65536)], 43⟩, ⟨g1, #[.int .i16 v1, .int .i16 v2, .int .i16 v3, .int .i16 v4, .int .i16 v5], 40⟩] (s22.rows 45 ++ []) (Own.row g23 0 #[]) (ys := flat tx (([⟨some ⟨g4, 0, none⟩, putL 1 (cy % 256) (v1 % 65536), (putL 1 (cy % 256) (v1 % 65536)).length⟩]) ++ ([⟨some ⟨g8, 0, none⟩, putL 2 (cy % 256) (v2 % 65536), (putL 2 (cy % 256) (v2 % 65536)).length⟩]) ++ ([⟨some ⟨g12, 0, none⟩, putL 3 (cy % 256) (v3), (putL 3 (cy % 256) (v3)).length⟩]) ++ ([⟨some ⟨g16, 0, none⟩, putL 4 (cy % 256) (v4), (putL 4 (cy % 256) (v4)).length⟩]) ++ ([⟨some ⟨g20, 0, none⟩, putL 5 (cy % 256) (v5 % 65536), (putL 5 (cy % 256) (v5 % 65536)).length⟩]))) rfl (Own.has_lit g23 0 1 #[] (by decide) rfl) (sl_own [⟨g21, #[.slice (some ⟨g20, 0, none⟩) ((putL 5 (cy % 256) (v5 % 65536)).length) ((putL 5 (cy % 256) (v5 % 65536)).length)], 45⟩, ⟨g20, (flat ub (putL 5 (cy % 256) (v5 % 65536))).toArray, 5⟩, ⟨g19, #[.int .i64 5, .int .i64 (cy % 256), .int .i64 (v5 % 65536)], 43⟩, ⟨g17, #[.slice (some ⟨g16, 0, none⟩) ((putL 4 (cy % 256) (v4)).length) ((putL 4 (cy % 256) (v4)).length)], 45⟩, ⟨g16, (flat ub (putL 4 (cy % 256) (v4))).toArray, 5⟩, ⟨g15, #[.int .i64 4, .int .i64 (cy % 256), .int .i64 (v4)], 43⟩, ⟨g13, #[.slice (some ⟨g12, 0, none⟩) ((putL 3 (cy % 256) (v3)).length) ((putL 3 (cy % 256) (v3)).length)], 45⟩, ⟨g12, (flat ub (putL 3 (cy % 256) (v3))).toArray, 5⟩, ⟨g11, #[.int .i64 3, .int .i64 (cy % 256), .int .i64 (v3)], 43⟩, ⟨g9, #[.slice (some ⟨g8, 0, none⟩) ((putL 2 (cy % 256) (v2 % 65536)).length) ((putL 2 (cy % 256) (v2 % 65536)).length)], 45⟩, ⟨g8, (flat ub (putL 2 (cy % 256) (v2 % 65536))).toArray, 5⟩, ⟨g7, #[.int .i64 2, .int .i64 (cy % 256), .int .i64 (v2 % 65536)], 43⟩, ⟨g5, #[.slice (some ⟨g4, 0, none⟩) ((putL 1 (cy % 256) (v1 % 65536)).length) ((putL 1 (cy % 256) (v1 % 65536)).length)], 45⟩, ⟨g4, (flat ub (putL 1 (cy % 256) (v1 % 65536))).toArray, 5⟩, ⟨g3, #[.int .i64 1, .int .i64 (cy % 256), .int .i64 (v1 % 65536)], 43⟩, ⟨g1, #[.int .i16 v1, .int .i16 v2, .int .i16 v3, .int .i16 v4, .int .i16 v5], 40⟩, ⟨g23, #[], 45⟩] [] hs22 rfl) (tx_len1 (tapp_len (tapp_len (tapp_len (tapp_len rfl rfl) rfl) rfl) rfl)) (flat_one tx_one _) rfl rfl rfl rfl Try.underlying22 (by unfold Elem; kernel_rfl) (by decide) (by unfold maxLen; omega) (by omega) ?_
    intro s24 hs24
    rw [Nat.zero_add] at hs24 ⊢
    replace hs24 := has_cast (show _ = flat tx (([⟨some ⟨g4, 0, none⟩, putL 1 (cy % 256) (v1 % 65536), (putL 1 (cy % 256) (v1 % 65536)).length⟩]) ++ ([⟨some ⟨g8, 0, none⟩, putL 2 (cy % 256) (v2 % 65536), (putL 2 (cy % 256) (v2 % 65536)).length⟩]) ++ ([⟨some ⟨g12, 0, none⟩, putL 3 (cy % 256) (v3), (putL 3 (cy % 256) (v3)).length⟩]) ++ ([⟨some ⟨g16, 0, none⟩, putL 4 (cy % 256) (v4), (putL 4 (cy % 256) (v4)).length⟩]) ++ ([⟨some ⟨g20, 0, none⟩, putL 5 (cy % 256) (v5 % 65536), (putL 5 (cy % 256) (v5 % 65536)).length⟩])) from rfl) hs24
    simp only [List.cons_append, List.nil_append, Act.put, List.setIfInBounds_toArray, List.set_cons_zero, List.set_cons_succ]
    refine wl_val (.slice p n c) rfl (fun _ => rfl) ?_
    simp only [Act.put, List.setIfInBounds_toArray, List.set_cons_zero, List.set_cons_succ]
    refine wl_append (e := 45) (size := 1) (bytes := 24) (m := n) [⟨g21, #[.slice (some ⟨g20, 0, none⟩) ((putL 5 (cy % 256) (v5 % 65536)).length) ((putL 5 (cy % 256) (v5 % 65536)).length)], 45⟩, ⟨g20, (flat ub (putL 5 (cy % 256) (v5 % 65536))).toArray, 5⟩, ⟨g19, #[.int .i64 5, .int .i64 (cy % 256), .int .i64 (v5 % 65536)], 43⟩, ⟨g17, #[.slice (some ⟨g16, 0, none⟩) ((putL 4 (cy % 256) (v4)).length) ((putL 4 (cy % 256) (v4)).length)], 45⟩, ⟨g16, (flat ub (putL 4 (cy % 256) (v4))).toArray, 5⟩, ⟨g15, #[.int .i64 4, .int .i64 (cy % 256), .int .i64 (v4)], 43⟩, ⟨g13, #[.slice (some ⟨g12, 0, none⟩) ((putL 3 (cy % 256) (v3)).length) ((putL 3 (cy % 256) (v3)).length)], 45⟩, ⟨g12, (flat ub (putL 3 (cy % 256) (v3))).toArray, 5⟩, ⟨g11, #[.int .i64 3, .int .i64 (cy % 256), .int .i64 (v3)], 43⟩, ⟨g9, #[.slice (some ⟨g8, 0, none⟩) ((putL 2 (cy % 256) (v2 % 65536)).length) ((putL 2 (cy % 256) (v2 % 65536)).length)], 45⟩, ⟨g8, (flat ub (putL 2 (cy % 256) (v2 % 65536))).toArray, 5⟩, ⟨g7, #[.int .i64 2, .int .i64 (cy % 256), .int .i64 (v2 % 65536)], 43⟩, ⟨g5, #[.slice (some ⟨g4, 0, none⟩) ((putL 1 (cy % 256) (v1 % 65536)).length) ((putL 1 (cy % 256) (v1 % 65536)).length)], 45⟩, ⟨g4, (flat ub (putL 1 (cy % 256) (v1 % 65536))).toArray, 5⟩, ⟨g3, #[.int .i64 1, .int .i64 (cy % 256), .int .i64 (v1 % 65536)], 43⟩, ⟨g1, #[.int .i16 v1, .int .i16 v2, .int .i16 v3, .int .i16 v4, .int .i16 v5], 40⟩] (s22.rows 45 ++ []) s24 (ys := flat tx T) rfl hs24 (sl_old hS) (tx_len1 hl) (flat_one tx_one _) rfl rfl rfl rfl Try.underlying22 (by unfold Elem; kernel_rfl) (by decide) (by unfold maxLen; omega) (by omega) ?_
    intro s25 hs25
    replace hs25 := has_cast (show _ = flat tx (([⟨some ⟨g4, 0, none⟩, putL 1 (cy % 256) (v1 % 65536), (putL 1 (cy % 256) (v1 % 65536)).length⟩]) ++ ([⟨some ⟨g8, 0, none⟩, putL 2 (cy % 256) (v2 % 65536), (putL 2 (cy % 256) (v2 % 65536)).length⟩]) ++ ([⟨some ⟨g12, 0, none⟩, putL 3 (cy % 256) (v3), (putL 3 (cy % 256) (v3)).length⟩]) ++ ([⟨some ⟨g16, 0, none⟩, putL 4 (cy % 256) (v4), (putL 4 (cy % 256) (v4)).length⟩]) ++ ([⟨some ⟨g20, 0, none⟩, putL 5 (cy % 256) (v5 % 65536), (putL 5 (cy % 256) (v5 % 65536)).length⟩]) ++ T) from by rw [flat_append] <;> rfl) hs25
    simp only [List.cons_append, List.nil_append, Act.put, List.setIfInBounds_toArray, List.set_cons_zero, List.set_cons_succ]
    refine wl_call_at 10 #[.int .i64 cy, .slice s25.ptr (1 + 1 + 1 + 1 + 1 + n) s25.cap] (.agg (mrow A.has A.val (B.bad : Nat) (B.stale : Nat) (B.twice : Nat) ((1 + 1 + 1 + 1 + 1 + n) - 32 : Nat)).toArray) rfl (fun _ => by go_simp) (fun W hE => sort_like (T := ([⟨some ⟨g4, 0, none⟩, putL 1 (cy % 256) (v1 % 65536), (putL 1 (cy % 256) (v1 % 65536)).length⟩]) ++ ([⟨some ⟨g8, 0, none⟩, putL 2 (cy % 256) (v2 % 65536), (putL 2 (cy % 256) (v2 % 65536)).length⟩]) ++ ([⟨some ⟨g12, 0, none⟩, putL 3 (cy % 256) (v3), (putL 3 (cy % 256) (v3)).length⟩]) ++ ([⟨some ⟨g16, 0, none⟩, putL 4 (cy % 256) (v4), (putL 4 (cy % 256) (v4)).length⟩]) ++ ([⟨some ⟨g20, 0, none⟩, putL 5 (cy % 256) (v5 % 65536), (putL 5 (cy % 256) (v5 % 65536)).length⟩]) ++ T) (tapp_len (tapp_len (tapp_len (tapp_len (tapp_len rfl rfl) rfl) rfl) rfl) hl) ((sl_own [⟨g21, #[.slice (some ⟨g20, 0, none⟩) ((putL 5 (cy % 256) (v5 % 65536)).length) ((putL 5 (cy % 256) (v5 % 65536)).length)], 45⟩, ⟨g20, (flat ub (putL 5 (cy % 256) (v5 % 65536))).toArray, 5⟩, ⟨g19, #[.int .i64 5, .int .i64 (cy % 256), .int .i64 (v5 % 65536)], 43⟩, ⟨g17, #[.slice (some ⟨g16, 0, none⟩) ((putL 4 (cy % 256) (v4)).length) ((putL 4 (cy % 256) (v4)).length)], 45⟩, ⟨g16, (flat ub (putL 4 (cy % 256) (v4))).toArray, 5⟩, ⟨g15, #[.int .i64 4, .int .i64 (cy % 256), .int .i64 (v4)], 43⟩, ⟨g13, #[.slice (some ⟨g12, 0, none⟩) ((putL 3 (cy % 256) (v3)).length) ((putL 3 (cy % 256) (v3)).length)], 45⟩, ⟨g12, (flat ub (putL 3 (cy % 256) (v3))).toArray, 5⟩, ⟨g11, #[.int .i64 3, .int .i64 (cy % 256), .int .i64 (v3)], 43⟩, ⟨g9, #[.slice (some ⟨g8, 0, none⟩) ((putL 2 (cy % 256) (v2 % 65536)).length) ((putL 2 (cy % 256) (v2 % 65536)).length)], 45⟩, ⟨g8, (flat ub (putL 2 (cy % 256) (v2 % 65536))).toArray, 5⟩, ⟨g7, #[.int .i64 2, .int .i64 (cy % 256), .int .i64 (v2 % 65536)], 43⟩, ⟨g5, #[.slice (some ⟨g4, 0, none⟩) ((putL 1 (cy % 256) (v1 % 65536)).length) ((putL 1 (cy % 256) (v1 % 65536)).length)], 45⟩, ⟨g4, (flat ub (putL 1 (cy % 256) (v1 % 65536))).toArray, 5⟩, ⟨g3, #[.int .i64 1, .int .i64 (cy % 256), .int .i64 (v1 % 65536)], 43⟩, ⟨g1, #[.int .i16 v1, .int .i16 v2, .int .i16 v3, .int .i16 v4, .int .i16 v5], 40⟩] (s22.rows 45 ++ []) hs25 rfl) W hE) (ok_append (ok_cons ((sl_mk 13 (L := putL 1 (cy % 256) (v1 % 65536)) rfl) W hE) (Nat.le_refl _) (Nat.le_trans pl1.2 (show 9 ≤ maxLen by decide)) (ok_cons ((sl_mk 10 (L := putL 2 (cy % 256) (v2 % 65536)) rfl) W hE) (Nat.le_refl _) (Nat.le_trans pl2.2 (show 9 ≤ maxLen by decide)) (ok_cons ((sl_mk 7 (L := putL 3 (cy % 256) (v3)) rfl) W hE) (Nat.le_refl _) (Nat.le_trans pl3.2 (show 9 ≤ maxLen by decide)) (ok_cons ((sl_mk 4 (L := putL 4 (cy % 256) (v4)) rfl) W hE) (Nat.le_refl _) (Nat.le_trans pl4.2 (show 9 ≤ maxLen by decide)) (ok_cons ((sl_mk 1 (L := putL 5 (cy % 256) (v5 % 65536)) rfl) W hE) (Nat.le_refl _) (Nat.le_trans pl5.2 (show 9 ≤ maxLen by decide)) (ok_nil W)))))) (ok_below hT hE.below)) (short_append (short_cons (Nat.le_trans pl1.2 (by decide)) (short_cons (Nat.le_trans pl2.2 (by decide)) (short_cons (Nat.le_trans pl3.2 (by decide)) (short_cons (Nat.le_trans pl4.2 (by decide)) (short_cons (Nat.le_trans pl5.2 (by decide)) short_nil))))) sh) (by omega) (has_cap hs25) hB hBh hBv) ?_
    simp only [Act.put, List.setIfInBounds_toArray, List.set_cons_zero, List.set_cons_succ]
    refine wl_new 28 (#[.bool false, .bool false, .bool false, .bool false, .bool false, .bool false, .int .i64 0, .int .i64 0, .int .i64 0, .int .i64 0, .int .i64 0, .int .i64 0, .int .i64 0, .int .i64 0, .int .i64 0, .int .i64 0]) rfl (fun _ => by go_simp) ?_
    intro g26
    simp only [Act.put, List.setIfInBounds_toArray, List.set_cons_zero, List.set_cons_succ]
    refine wl_new 28 (#[.bool false, .bool false, .bool false, .bool false, .bool false, .bool false, .int .i64 0, .int .i64 0, .int .i64 0, .int .i64 0, .int .i64 0, .int .i64 0, .int .i64 0, .int .i64 0, .int .i64 0, .int .i64 0]) rfl (fun _ => by go_simp) ?_
    intro g27
    simp only [Act.put, List.setIfInBounds_toArray, List.set_cons_zero, List.set_cons_succ]
    refine wl_store 1 28 (.tmp 13) (.tmp 61) ((mcells A (1 + 1 + 1 + 1 + 1 - 32)).toArray) rfl rfl rfl rfl rfl (by kernel_rfl) rfl (mrow_one _ _ _ _ _ _) ?_
    simp only [Act.put, List.set_cons_zero, List.set_cons_succ]
    refine wl_store 0 28 (.tmp 14) (.tmp 68) ((mrow A.has A.val (B.bad : Nat) (B.stale : Nat) (B.twice : Nat) ((1 + 1 + 1 + 1 + 1 + n) - 32 : Nat)).toArray) rfl rfl rfl rfl rfl (by kernel_rfl) rfl (mrow_one _ _ _ _ _ _) ?_
    simp only [Act.put, List.set_cons_zero]
    refine wl_nil ?_
    refine we_then ?_
    refine wc_seq ?_
    refine wc_seq ?_
    refine wc_region ?_
    refine wl_load 40 (.tmp 4) (own_row 17 rfl) rfl rfl rfl Try.underlying40 rfl (by kernel_rfl) ?_
    simp only [Act.put, List.setIfInBounds_toArray, List.set_cons_zero, List.set_cons_succ]
    refine wl_val (.int .i64 0) rfl (fun _ => rfl) ?_
    simp only [Act.put, List.setIfInBounds_toArray, List.set_cons_zero, List.set_cons_succ]
    refine wl_nil ?_
    refine we_then ?_
    refine wc_block ?_
    refine wr_start 6 ?_
    refine wr_round ?_
    refine wc_seq ?_
    refine wc_region ?_
    refine wl_val (.bool true) rfl (fun w => run_cmp rfl rfl rfl Try.underlying3 rfl w) ?_
    simp only [Act.put, List.setIfInBounds_toArray, List.set_cons_zero, List.set_cons_succ]
    refine wl_nil ?_
    refine we_then ?_
    refine wc_seq ?_
    refine wc_true rfl ?_
    refine wc_skip ?_
    refine we_then ?_
    refine wc_seq ?_
    refine wc_block ?_
    refine wc_seq ?_
    refine wc_region ?_
    refine wl_val (.int .i64 0) rfl (fun _ => rfl) ?_
    simp only [Act.put, List.setIfInBounds_toArray, List.set_cons_zero, List.set_cons_succ]
    refine wl_val (.int .i16 v1) rfl (fun w => run_index (k := 0) rfl rfl rfl rfl (by decide) Try.underlying40 Try.isAgg39 (by kernel_rfl) rfl w) ?_
    simp only [Act.put, List.setIfInBounds_toArray, List.set_cons_zero, List.set_cons_succ]
    refine wl_val (.int .i64 0) rfl (fun _ => rfl) ?_
    simp only [Act.put, List.setIfInBounds_toArray, List.set_cons_zero, List.set_cons_succ]
    refine wl_val (.int .i16 v1) rfl (fun _ => rfl) ?_
    simp only [Act.put, List.setIfInBounds_toArray, List.set_cons_zero, List.set_cons_succ]
    refine wl_nil ?_
    refine we_then ?_
    refine wc_seq ?_
    refine wc_region ?_
    refine wl_load 28 (.tmp 14) (own_row 0 rfl) rfl rfl rfl Try.underlying28 rfl (by kernel_rfl) ?_
    simp only [Act.put, List.setIfInBounds_toArray, List.set_cons_zero, List.set_cons_succ]
    refine wl_val (.int .i64 0) rfl (fun _ => rfl) ?_
    simp only [Act.put, List.setIfInBounds_toArray, List.set_cons_zero, List.set_cons_succ]
    refine wl_val (.int .i64 1) rfl (fun w => run_nat (X := 0) (Y := 1) (Z := 1) rfl rfl rfl rfl (by omega) w) ?_
    simp only [Act.put, List.setIfInBounds_toArray, List.set_cons_zero, List.set_cons_succ]
    refine wl_call 12 #[.agg (mrow A.has A.val (B.bad : Nat) (B.stale : Nat) (B.twice : Nat) ((1 + 1 + 1 + 1 + 1 + n) - 32 : Nat)).toArray, .int .i64 1] (.tuple #[.int .i64 (v1 % 65536), .bool true]) rfl (fun _ => by go_simp) (fun W => by have := of_any A.has A.val (B.bad : Nat) (B.stale : Nat) (B.twice : Nat) ((1 + 1 + 1 + 1 + 1 + n) - 32 : Nat) 1 W; rw [fo1.1, fo1.2] at this; exact this) ?_
    simp only [Act.put, List.setIfInBounds_toArray, List.set_cons_zero, List.set_cons_succ]
    refine wl_val (.tuple #[.int .i64 (v1 % 65536), .bool true]) rfl (fun _ => rfl) ?_
    simp only [Act.put, List.setIfInBounds_toArray, List.set_cons_zero, List.set_cons_succ]
    refine wl_val (.int .i64 (v1 % 65536)) rfl (fun _ => by go_simp) ?_
    simp only [Act.put, List.setIfInBounds_toArray, List.set_cons_zero, List.set_cons_succ]
    refine wl_val (.bool true) rfl (fun _ => by go_simp) ?_
    simp only [Act.put, List.setIfInBounds_toArray, List.set_cons_zero, List.set_cons_succ]
    refine wl_val (.int .i64 (v1 % 65536)) rfl (fun _ => rfl) ?_
    simp only [Act.put, List.setIfInBounds_toArray, List.set_cons_zero, List.set_cons_succ]
    refine wl_val (.bool true) rfl (fun _ => rfl) ?_
    simp only [Act.put, List.setIfInBounds_toArray, List.set_cons_zero, List.set_cons_succ]
    refine wl_nil ?_
    refine we_then ?_
    refine wc_seq ?_
    refine wc_region ?_
    refine wl_val (.bool true) rfl (fun _ => rfl) ?_
    simp only [Act.put, List.setIfInBounds_toArray, List.set_cons_zero, List.set_cons_succ]
    refine wl_val (.bool false) rfl (fun _ => by go_simp) ?_
    simp only [Act.put, List.setIfInBounds_toArray, List.set_cons_zero, List.set_cons_succ]
    refine wl_val (.bool false) rfl (fun _ => rfl) ?_
    simp only [Act.put, List.setIfInBounds_toArray, List.set_cons_zero, List.set_cons_succ]
    refine wl_val (.int .i64 (v1 % 65536)) rfl (fun _ => rfl) ?_
    simp only [Act.put, List.setIfInBounds_toArray, List.set_cons_zero, List.set_cons_succ]
    refine wl_val (.int .i16 v1) rfl (fun w => Sw.run_conv rfl rfl Try.underlying2 Try.underlying39 (i16_back fv1) w) ?_
    simp only [Act.put, List.setIfInBounds_toArray, List.set_cons_zero, List.set_cons_succ]
    refine wl_val (.int .i16 v1) rfl (fun _ => rfl) ?_
    simp only [Act.put, List.setIfInBounds_toArray, List.set_cons_zero, List.set_cons_succ]
    refine wl_val (.bool false) rfl (fun w => run_cmp (b := false) rfl rfl rfl Try.underlying39 (by simp [cmpOf]) w) ?_
    simp only [Act.put, List.setIfInBounds_toArray, List.set_cons_zero, List.set_cons_succ]
    refine wl_val (.bool false) rfl (fun _ => rfl) ?_
    simp only [Act.put, List.setIfInBounds_toArray, List.set_cons_zero, List.set_cons_succ]
    refine wl_nil ?_
    refine we_then ?_
    refine wc_false rfl ?_
    refine wc_skip ?_
    refine we_in ?_
    refine we_then ?_
    refine wc_region ?_
    refine wl_val (.int .i64 1) rfl (fun w => run_nat (X := 0) (Y := 1) (Z := 1) rfl rfl rfl rfl (by omega) w) ?_
    simp only [Act.put, List.setIfInBounds_toArray, List.set_cons_zero, List.set_cons_succ]
    refine wl_val (.int .i64 1) rfl (fun _ => rfl) ?_
    simp only [Act.put, List.setIfInBounds_toArray, List.set_cons_zero, List.set_cons_succ]
    refine wl_nil ?_
    refine we_round ?_
    refine wr_round ?_
    refine wc_seq ?_
    refine wc_region ?_
    refine wl_val (.bool true) rfl (fun w => run_cmp rfl rfl rfl Try.underlying3 rfl w) ?_
    simp only [Act.put, List.setIfInBounds_toArray, List.set_cons_zero, List.set_cons_succ]
    refine wl_nil ?_
    refine we_then ?_
    refine wc_seq ?_
    refine wc_true rfl ?_
    refine wc_skip ?_
    refine we_then ?_
    refine wc_seq ?_
    refine wc_block ?_
    refine wc_seq ?_
    refine wc_region ?_
    refine wl_val (.int .i64 1) rfl (fun _ => rfl) ?_
    simp only [Act.put, List.setIfInBounds_toArray, List.set_cons_zero, List.set_cons_succ]
    refine wl_val (.int .i16 v2) rfl (fun w => run_index (k := 1) rfl rfl rfl rfl (by decide) Try.underlying40 Try.isAgg39 (by kernel_rfl) rfl w) ?_
    simp only [Act.put, List.setIfInBounds_toArray, List.set_cons_zero, List.set_cons_succ]
    refine wl_val (.int .i64 1) rfl (fun _ => rfl) ?_
    simp only [Act.put, List.setIfInBounds_toArray, List.set_cons_zero, List.set_cons_succ]
    refine wl_val (.int .i16 v2) rfl (fun _ => rfl) ?_
    simp only [Act.put, List.setIfInBounds_toArray, List.set_cons_zero, List.set_cons_succ]
    refine wl_nil ?_
    refine we_then ?_
    refine wc_seq ?_
    refine wc_region ?_
    refine wl_load 28 (.tmp 14) (own_row 0 rfl) rfl rfl rfl Try.underlying28 rfl (by kernel_rfl) ?_
    simp only [Act.put, List.setIfInBounds_toArray, List.set_cons_zero, List.set_cons_succ]
    refine wl_val (.int .i64 1) rfl (fun _ => rfl) ?_
    simp only [Act.put, List.setIfInBounds_toArray, List.set_cons_zero, List.set_cons_succ]
    refine wl_val (.int .i64 2) rfl (fun w => run_nat (X := 1) (Y := 1) (Z := 2) rfl rfl rfl rfl (by omega) w) ?_
    simp only [Act.put, List.setIfInBounds_toArray, List.set_cons_zero, List.set_cons_succ]
    refine wl_call 12 #[.agg (mrow A.has A.val (B.bad : Nat) (B.stale : Nat) (B.twice : Nat) ((1 + 1 + 1 + 1 + 1 + n) - 32 : Nat)).toArray, .int .i64 2] (.tuple #[.int .i64 (v2 % 65536), .bool true]) rfl (fun _ => by go_simp) (fun W => by have := of_any A.has A.val (B.bad : Nat) (B.stale : Nat) (B.twice : Nat) ((1 + 1 + 1 + 1 + 1 + n) - 32 : Nat) 2 W; rw [fo2.1, fo2.2] at this; exact this) ?_
    simp only [Act.put, List.setIfInBounds_toArray, List.set_cons_zero, List.set_cons_succ]
    refine wl_val (.tuple #[.int .i64 (v2 % 65536), .bool true]) rfl (fun _ => rfl) ?_
    simp only [Act.put, List.setIfInBounds_toArray, List.set_cons_zero, List.set_cons_succ]
    refine wl_val (.int .i64 (v2 % 65536)) rfl (fun _ => by go_simp) ?_
    simp only [Act.put, List.setIfInBounds_toArray, List.set_cons_zero, List.set_cons_succ]
    refine wl_val (.bool true) rfl (fun _ => by go_simp) ?_
    simp only [Act.put, List.setIfInBounds_toArray, List.set_cons_zero, List.set_cons_succ]
    refine wl_val (.int .i64 (v2 % 65536)) rfl (fun _ => rfl) ?_
    simp only [Act.put, List.setIfInBounds_toArray, List.set_cons_zero, List.set_cons_succ]
    refine wl_val (.bool true) rfl (fun _ => rfl) ?_
    simp only [Act.put, List.setIfInBounds_toArray, List.set_cons_zero, List.set_cons_succ]
    refine wl_nil ?_
    refine we_then ?_
    refine wc_seq ?_
    refine wc_region ?_
    refine wl_val (.bool true) rfl (fun _ => rfl) ?_
    simp only [Act.put, List.setIfInBounds_toArray, List.set_cons_zero, List.set_cons_succ]
    refine wl_val (.bool false) rfl (fun _ => by go_simp) ?_
    simp only [Act.put, List.setIfInBounds_toArray, List.set_cons_zero, List.set_cons_succ]
    refine wl_val (.bool false) rfl (fun _ => rfl) ?_
    simp only [Act.put, List.setIfInBounds_toArray, List.set_cons_zero, List.set_cons_succ]
    refine wl_val (.int .i64 (v2 % 65536)) rfl (fun _ => rfl) ?_
    simp only [Act.put, List.setIfInBounds_toArray, List.set_cons_zero, List.set_cons_succ]
    refine wl_val (.int .i16 v2) rfl (fun w => Sw.run_conv rfl rfl Try.underlying2 Try.underlying39 (i16_back fv2) w) ?_
    simp only [Act.put, List.setIfInBounds_toArray, List.set_cons_zero, List.set_cons_succ]
    refine wl_val (.int .i16 v2) rfl (fun _ => rfl) ?_
    simp only [Act.put, List.setIfInBounds_toArray, List.set_cons_zero, List.set_cons_succ]
    refine wl_val (.bool false) rfl (fun w => run_cmp (b := false) rfl rfl rfl Try.underlying39 (by simp [cmpOf]) w) ?_
    simp only [Act.put, List.setIfInBounds_toArray, List.set_cons_zero, List.set_cons_succ]
    refine wl_val (.bool false) rfl (fun _ => rfl) ?_
    simp only [Act.put, List.setIfInBounds_toArray, List.set_cons_zero, List.set_cons_succ]
    refine wl_nil ?_
    refine we_then ?_
    refine wc_false rfl ?_
    refine wc_skip ?_
    refine we_in ?_
    refine we_then ?_
    refine wc_region ?_
    refine wl_val (.int .i64 2) rfl (fun w => run_nat (X := 1) (Y := 1) (Z := 2) rfl rfl rfl rfl (by omega) w) ?_
    simp only [Act.put, List.setIfInBounds_toArray, List.set_cons_zero, List.set_cons_succ]
    refine wl_val (.int .i64 2) rfl (fun _ => rfl) ?_
    simp only [Act.put, List.setIfInBounds_toArray, List.set_cons_zero, List.set_cons_succ]
    refine wl_nil ?_
    refine we_round ?_
    refine wr_round ?_
    refine wc_seq ?_
    refine wc_region ?_
    refine wl_val (.bool true) rfl (fun w => run_cmp rfl rfl rfl Try.underlying3 rfl w) ?_
    simp only [Act.put, List.setIfInBounds_toArray, List.set_cons_zero, List.set_cons_succ]
    refine wl_nil ?_
    refine we_then ?_
    refine wc_seq ?_
    refine wc_true rfl ?_
    refine wc_skip ?_
    refine we_then ?_
    refine wc_seq ?_
    refine wc_block ?_
    refine wc_seq ?_
    refine wc_region ?_
    refine wl_val (.int .i64 2) rfl (fun _ => rfl) ?_
    simp only [Act.put, List.setIfInBounds_toArray, List.set_cons_zero, List.set_cons_succ]
    refine wl_val (.int .i16 v3) rfl (fun w => run_index (k := 2) rfl rfl rfl rfl (by decide) Try.underlying40 Try.isAgg39 (by kernel_rfl) rfl w) ?_
    simp only [Act.put, List.setIfInBounds_toArray, List.set_cons_zero, List.set_cons_succ]
    refine wl_val (.int .i64 2) rfl (fun _ => rfl) ?_
    simp only [Act.put, List.setIfInBounds_toArray, List.set_cons_zero, List.set_cons_succ]
    refine wl_val (.int .i16 v3) rfl (fun _ => rfl) ?_
    simp only [Act.put, List.setIfInBounds_toArray, List.set_cons_zero, List.set_cons_succ]
    refine wl_nil ?_
    refine we_then ?_
    refine wc_seq ?_
    refine wc_region ?_
    refine wl_load 28 (.tmp 14) (own_row 0 rfl) rfl rfl rfl Try.underlying28 rfl (by kernel_rfl) ?_
    simp only [Act.put, List.setIfInBounds_toArray, List.set_cons_zero, List.set_cons_succ]
    refine wl_val (.int .i64 2) rfl (fun _ => rfl) ?_
    simp only [Act.put, List.setIfInBounds_toArray, List.set_cons_zero, List.set_cons_succ]
    refine wl_val (.int .i64 3) rfl (fun w => run_nat (X := 2) (Y := 1) (Z := 3) rfl rfl rfl rfl (by omega) w) ?_
    simp only [Act.put, List.setIfInBounds_toArray, List.set_cons_zero, List.set_cons_succ]
    refine wl_call 12 #[.agg (mrow A.has A.val (B.bad : Nat) (B.stale : Nat) (B.twice : Nat) ((1 + 1 + 1 + 1 + 1 + n) - 32 : Nat)).toArray, .int .i64 3] (.tuple #[.int .i64 (v3), .bool true]) rfl (fun _ => by go_simp) (fun W => by have := of_any A.has A.val (B.bad : Nat) (B.stale : Nat) (B.twice : Nat) ((1 + 1 + 1 + 1 + 1 + n) - 32 : Nat) 3 W; rw [fo3.1, fo3.2] at this; exact this) ?_
    simp only [Act.put, List.setIfInBounds_toArray, List.set_cons_zero, List.set_cons_succ]
    refine wl_val (.tuple #[.int .i64 (v3), .bool true]) rfl (fun _ => rfl) ?_
    simp only [Act.put, List.setIfInBounds_toArray, List.set_cons_zero, List.set_cons_succ]
    refine wl_val (.int .i64 (v3)) rfl (fun _ => by go_simp) ?_
    simp only [Act.put, List.setIfInBounds_toArray, List.set_cons_zero, List.set_cons_succ]
    refine wl_val (.bool true) rfl (fun _ => by go_simp) ?_
    simp only [Act.put, List.setIfInBounds_toArray, List.set_cons_zero, List.set_cons_succ]
    refine wl_val (.int .i64 (v3)) rfl (fun _ => rfl) ?_
    simp only [Act.put, List.setIfInBounds_toArray, List.set_cons_zero, List.set_cons_succ]
    refine wl_val (.bool true) rfl (fun _ => rfl) ?_
    simp only [Act.put, List.setIfInBounds_toArray, List.set_cons_zero, List.set_cons_succ]
    refine wl_nil ?_
    refine we_then ?_
    refine wc_seq ?_
    refine wc_region ?_
    refine wl_val (.bool true) rfl (fun _ => rfl) ?_
    simp only [Act.put, List.setIfInBounds_toArray, List.set_cons_zero, List.set_cons_succ]
    refine wl_val (.bool false) rfl (fun _ => by go_simp) ?_
    simp only [Act.put, List.setIfInBounds_toArray, List.set_cons_zero, List.set_cons_succ]
    refine wl_val (.bool false) rfl (fun _ => rfl) ?_
    simp only [Act.put, List.setIfInBounds_toArray, List.set_cons_zero, List.set_cons_succ]
    refine wl_val (.int .i64 (v3)) rfl (fun _ => rfl) ?_
    simp only [Act.put, List.setIfInBounds_toArray, List.set_cons_zero, List.set_cons_succ]
    refine wl_val (.int .i16 v3) rfl (fun w => Sw.run_conv rfl rfl Try.underlying2 Try.underlying39 (i16_in fv3) w) ?_
    simp only [Act.put, List.setIfInBounds_toArray, List.set_cons_zero, List.set_cons_succ]
    refine wl_val (.int .i16 v3) rfl (fun _ => rfl) ?_
    simp only [Act.put, List.setIfInBounds_toArray, List.set_cons_zero, List.set_cons_succ]
    refine wl_val (.bool false) rfl (fun w => run_cmp (b := false) rfl rfl rfl Try.underlying39 (by simp [cmpOf]) w) ?_
    simp only [Act.put, List.setIfInBounds_toArray, List.set_cons_zero, List.set_cons_succ]
    refine wl_val (.bool false) rfl (fun _ => rfl) ?_
    simp only [Act.put, List.setIfInBounds_toArray, List.set_cons_zero, List.set_cons_succ]
    refine wl_nil ?_
    refine we_then ?_
    refine wc_false rfl ?_
    refine wc_skip ?_
    refine we_in ?_
    refine we_then ?_
    refine wc_region ?_
    refine wl_val (.int .i64 3) rfl (fun w => run_nat (X := 2) (Y := 1) (Z := 3) rfl rfl rfl rfl (by omega) w) ?_
    simp only [Act.put, List.setIfInBounds_toArray, List.set_cons_zero, List.set_cons_succ]
    refine wl_val (.int .i64 3) rfl (fun _ => rfl) ?_
    simp only [Act.put, List.setIfInBounds_toArray, List.set_cons_zero, List.set_cons_succ]
    refine wl_nil ?_
    refine we_round ?_
    refine wr_round ?_
    refine wc_seq ?_
    refine wc_region ?_
    refine wl_val (.bool true) rfl (fun w => run_cmp rfl rfl rfl Try.underlying3 rfl w) ?_
    simp only [Act.put, List.setIfInBounds_toArray, List.set_cons_zero, List.set_cons_succ]
    refine wl_nil ?_
    refine we_then ?_
    refine wc_seq ?_
    refine wc_true rfl ?_
    refine wc_skip ?_
    refine we_then ?_
    refine wc_seq ?_
    refine wc_block ?_
    refine wc_seq ?_
    refine wc_region ?_
    refine wl_val (.int .i64 3) rfl (fun _ => rfl) ?_
    simp only [Act.put, List.setIfInBounds_toArray, List.set_cons_zero, List.set_cons_succ]
    refine wl_val (.int .i16 v4) rfl (fun w => run_index (k := 3) rfl rfl rfl rfl (by decide) Try.underlying40 Try.isAgg39 (by kernel_rfl) rfl w) ?_
    simp only [Act.put, List.setIfInBounds_toArray, List.set_cons_zero, List.set_cons_succ]
    refine wl_val (.int .i64 3) rfl (fun _ => rfl) ?_
    simp only [Act.put, List.setIfInBounds_toArray, List.set_cons_zero, List.set_cons_succ]
    refine wl_val (.int .i16 v4) rfl (fun _ => rfl) ?_
    simp only [Act.put, List.setIfInBounds_toArray, List.set_cons_zero, List.set_cons_succ]
    refine wl_nil ?_
    refine we_then ?_
    refine wc_seq ?_
    refine wc_region ?_
    refine wl_load 28 (.tmp 14) (own_row 0 rfl) rfl rfl rfl Try.underlying28 rfl (by kernel_rfl) ?_
    simp only [Act.put, List.setIfInBounds_toArray, List.set_cons_zero, List.set_cons_succ]
    refine wl_val (.int .i64 3) rfl (fun _ => rfl) ?_
    simp only [Act.put, List.setIfInBounds_toArray, List.set_cons_zero, List.set_cons_succ]
    refine wl_val (.int .i64 4) rfl (fun w => run_nat (X := 3) (Y := 1) (Z := 4) rfl rfl rfl rfl (by omega) w) ?_
    simp only [Act.put, List.setIfInBounds_toArray, List.set_cons_zero, List.set_cons_succ]
    refine wl_call 12 #[.agg (mrow A.has A.val (B.bad : Nat) (B.stale : Nat) (B.twice : Nat) ((1 + 1 + 1 + 1 + 1 + n) - 32 : Nat)).toArray, .int .i64 4] (.tuple #[.int .i64 (v4), .bool true]) rfl (fun _ => by go_simp) (fun W => by have := of_any A.has A.val (B.bad : Nat) (B.stale : Nat) (B.twice : Nat) ((1 + 1 + 1 + 1 + 1 + n) - 32 : Nat) 4 W; rw [fo4.1, fo4.2] at this; exact this) ?_
    simp only [Act.put, List.setIfInBounds_toArray, List.set_cons_zero, List.set_cons_succ]
    refine wl_val (.tuple #[.int .i64 (v4), .bool true]) rfl (fun _ => rfl) ?_
    simp only [Act.put, List.setIfInBounds_toArray, List.set_cons_zero, List.set_cons_succ]
    refine wl_val (.int .i64 (v4)) rfl (fun _ => by go_simp) ?_
    simp only [Act.put, List.setIfInBounds_toArray, List.set_cons_zero, List.set_cons_succ]
    refine wl_val (.bool true) rfl (fun _ => by go_simp) ?_
    simp only [Act.put, List.setIfInBounds_toArray, List.set_cons_zero, List.set_cons_succ]
    refine wl_val (.int .i64 (v4)) rfl (fun _ => rfl) ?_
    simp only [Act.put, List.setIfInBounds_toArray, List.set_cons_zero, List.set_cons_succ]
    refine wl_val (.bool true) rfl (fun _ => rfl) ?_
    simp only [Act.put, List.setIfInBounds_toArray, List.set_cons_zero, List.set_cons_succ]
    refine wl_nil ?_
    refine we_then ?_
    refine wc_seq ?_
    refine wc_region ?_
    refine wl_val (.bool true) rfl (fun _ => rfl) ?_
    simp only [Act.put, List.setIfInBounds_toArray, List.set_cons_zero, List.set_cons_succ]
    refine wl_val (.bool false) rfl (fun _ => by go_simp) ?_
    simp only [Act.put, List.setIfInBounds_toArray, List.set_cons_zero, List.set_cons_succ]
    refine wl_val (.bool false) rfl (fun _ => rfl) ?_
    simp only [Act.put, List.setIfInBounds_toArray, List.set_cons_zero, List.set_cons_succ]
    refine wl_val (.int .i64 (v4)) rfl (fun _ => rfl) ?_
    simp only [Act.put, List.setIfInBounds_toArray, List.set_cons_zero, List.set_cons_succ]
    refine wl_val (.int .i16 v4) rfl (fun w => Sw.run_conv rfl rfl Try.underlying2 Try.underlying39 (i16_in fv4) w) ?_
    simp only [Act.put, List.setIfInBounds_toArray, List.set_cons_zero, List.set_cons_succ]
    refine wl_val (.int .i16 v4) rfl (fun _ => rfl) ?_
    simp only [Act.put, List.setIfInBounds_toArray, List.set_cons_zero, List.set_cons_succ]
    refine wl_val (.bool false) rfl (fun w => run_cmp (b := false) rfl rfl rfl Try.underlying39 (by simp [cmpOf]) w) ?_
    simp only [Act.put, List.setIfInBounds_toArray, List.set_cons_zero, List.set_cons_succ]
    refine wl_val (.bool false) rfl (fun _ => rfl) ?_
    simp only [Act.put, List.setIfInBounds_toArray, List.set_cons_zero, List.set_cons_succ]
    refine wl_nil ?_
    refine we_then ?_
    refine wc_false rfl ?_
    refine wc_skip ?_
    refine we_in ?_
    refine we_then ?_
    refine wc_region ?_
    refine wl_val (.int .i64 4) rfl (fun w => run_nat (X := 3) (Y := 1) (Z := 4) rfl rfl rfl rfl (by omega) w) ?_
    simp only [Act.put, List.setIfInBounds_toArray, List.set_cons_zero, List.set_cons_succ]
    refine wl_val (.int .i64 4) rfl (fun _ => rfl) ?_
    simp only [Act.put, List.setIfInBounds_toArray, List.set_cons_zero, List.set_cons_succ]
    refine wl_nil ?_
    refine we_round ?_
    refine wr_round ?_
    refine wc_seq ?_
    refine wc_region ?_
    refine wl_val (.bool true) rfl (fun w => run_cmp rfl rfl rfl Try.underlying3 rfl w) ?_
    simp only [Act.put, List.setIfInBounds_toArray, List.set_cons_zero, List.set_cons_succ]
    refine wl_nil ?_
    refine we_then ?_
    refine wc_seq ?_
    refine wc_true rfl ?_
    refine wc_skip ?_
    refine we_then ?_
    refine wc_seq ?_
    refine wc_block ?_
    refine wc_seq ?_
    refine wc_region ?_
    refine wl_val (.int .i64 4) rfl (fun _ => rfl) ?_
    simp only [Act.put, List.setIfInBounds_toArray, List.set_cons_zero, List.set_cons_succ]
    refine wl_val (.int .i16 v5) rfl (fun w => run_index (k := 4) rfl rfl rfl rfl (by decide) Try.underlying40 Try.isAgg39 (by kernel_rfl) rfl w) ?_
    simp only [Act.put, List.setIfInBounds_toArray, List.set_cons_zero, List.set_cons_succ]
    refine wl_val (.int .i64 4) rfl (fun _ => rfl) ?_
    simp only [Act.put, List.setIfInBounds_toArray, List.set_cons_zero, List.set_cons_succ]
    refine wl_val (.int .i16 v5) rfl (fun _ => rfl) ?_
    simp only [Act.put, List.setIfInBounds_toArray, List.set_cons_zero, List.set_cons_succ]
    refine wl_nil ?_
    refine we_then ?_
    refine wc_seq ?_
    refine wc_region ?_
    refine wl_load 28 (.tmp 14) (own_row 0 rfl) rfl rfl rfl Try.underlying28 rfl (by kernel_rfl) ?_
    simp only [Act.put, List.setIfInBounds_toArray, List.set_cons_zero, List.set_cons_succ]
    refine wl_val (.int .i64 4) rfl (fun _ => rfl) ?_
    simp only [Act.put, List.setIfInBounds_toArray, List.set_cons_zero, List.set_cons_succ]
    refine wl_val (.int .i64 5) rfl (fun w => run_nat (X := 4) (Y := 1) (Z := 5) rfl rfl rfl rfl (by omega) w) ?_
    simp only [Act.put, List.setIfInBounds_toArray, List.set_cons_zero, List.set_cons_succ]
    refine wl_call 12 #[.agg (mrow A.has A.val (B.bad : Nat) (B.stale : Nat) (B.twice : Nat) ((1 + 1 + 1 + 1 + 1 + n) - 32 : Nat)).toArray, .int .i64 5] (.tuple #[.int .i64 (v5 % 65536), .bool true]) rfl (fun _ => by go_simp) (fun W => by have := of_any A.has A.val (B.bad : Nat) (B.stale : Nat) (B.twice : Nat) ((1 + 1 + 1 + 1 + 1 + n) - 32 : Nat) 5 W; rw [fo5.1, fo5.2] at this; exact this) ?_
    simp only [Act.put, List.setIfInBounds_toArray, List.set_cons_zero, List.set_cons_succ]
    refine wl_val (.tuple #[.int .i64 (v5 % 65536), .bool true]) rfl (fun _ => rfl) ?_
    simp only [Act.put, List.setIfInBounds_toArray, List.set_cons_zero, List.set_cons_succ]
    refine wl_val (.int .i64 (v5 % 65536)) rfl (fun _ => by go_simp) ?_
    simp only [Act.put, List.setIfInBounds_toArray, List.set_cons_zero, List.set_cons_succ]
    refine wl_val (.bool true) rfl (fun _ => by go_simp) ?_
    simp only [Act.put, List.setIfInBounds_toArray, List.set_cons_zero, List.set_cons_succ]
    refine wl_val (.int .i64 (v5 % 65536)) rfl (fun _ => rfl) ?_
    simp only [Act.put, List.setIfInBounds_toArray, List.set_cons_zero, List.set_cons_succ]
    refine wl_val (.bool true) rfl (fun _ => rfl) ?_
    simp only [Act.put, List.setIfInBounds_toArray, List.set_cons_zero, List.set_cons_succ]
    refine wl_nil ?_
    refine we_then ?_
    refine wc_seq ?_
    refine wc_region ?_
    refine wl_val (.bool true) rfl (fun _ => rfl) ?_
    simp only [Act.put, List.setIfInBounds_toArray, List.set_cons_zero, List.set_cons_succ]
    refine wl_val (.bool false) rfl (fun _ => by go_simp) ?_
    simp only [Act.put, List.setIfInBounds_toArray, List.set_cons_zero, List.set_cons_succ]
    refine wl_val (.bool false) rfl (fun _ => rfl) ?_
    simp only [Act.put, List.setIfInBounds_toArray, List.set_cons_zero, List.set_cons_succ]
    refine wl_val (.int .i64 (v5 % 65536)) rfl (fun _ => rfl) ?_
    simp only [Act.put, List.setIfInBounds_toArray, List.set_cons_zero, List.set_cons_succ]
    refine wl_val (.int .i16 v5) rfl (fun w => Sw.run_conv rfl rfl Try.underlying2 Try.underlying39 (i16_back fv5) w) ?_
    simp only [Act.put, List.setIfInBounds_toArray, List.set_cons_zero, List.set_cons_succ]
    refine wl_val (.int .i16 v5) rfl (fun _ => rfl) ?_
    simp only [Act.put, List.setIfInBounds_toArray, List.set_cons_zero, List.set_cons_succ]
    refine wl_val (.bool false) rfl (fun w => run_cmp (b := false) rfl rfl rfl Try.underlying39 (by simp [cmpOf]) w) ?_
    simp only [Act.put, List.setIfInBounds_toArray, List.set_cons_zero, List.set_cons_succ]
    refine wl_val (.bool false) rfl (fun _ => rfl) ?_
    simp only [Act.put, List.setIfInBounds_toArray, List.set_cons_zero, List.set_cons_succ]
    refine wl_nil ?_
    refine we_then ?_
    refine wc_false rfl ?_
    refine wc_skip ?_
    refine we_in ?_
    refine we_then ?_
    refine wc_region ?_
    refine wl_val (.int .i64 5) rfl (fun w => run_nat (X := 4) (Y := 1) (Z := 5) rfl rfl rfl rfl (by omega) w) ?_
    simp only [Act.put, List.setIfInBounds_toArray, List.set_cons_zero, List.set_cons_succ]
    refine wl_val (.int .i64 5) rfl (fun _ => rfl) ?_
    simp only [Act.put, List.setIfInBounds_toArray, List.set_cons_zero, List.set_cons_succ]
    refine wl_nil ?_
    refine we_round ?_
    refine wr_round ?_
    refine wc_seq ?_
    refine wc_region ?_
    refine wl_val (.bool false) rfl (fun w => run_cmp rfl rfl rfl Try.underlying3 rfl w) ?_
    simp only [Act.put, List.setIfInBounds_toArray, List.set_cons_zero, List.set_cons_succ]
    refine wl_nil ?_
    refine we_then ?_
    refine wc_seq ?_
    refine wc_false rfl ?_
    refine wc_exit ?_
    refine we_then_exit ?_
    refine we_then_exit ?_
    refine we_in_here ?_
    refine we_then ?_
    refine wc_seq ?_
    refine wc_region ?_
    refine wl_val (.pointer (some ⟨g26, 0, none⟩)) rfl (fun _ => by go_simp) ?_
    simp only [Act.put, List.setIfInBounds_toArray, List.set_cons_zero, List.set_cons_succ]
    refine wl_part 25 (.tmp 90) [.bool (A.has 0), .bool (A.has 1), .bool (A.has 2), .bool (A.has 3), .bool (A.has 4), .bool (A.has 5)] (own_row 1 rfl) rfl rfl rfl rfl Try.underlying25 rfl (by kernel_rfl) ?_
    simp only [Act.put, List.setIfInBounds_toArray, List.set_cons_zero, List.set_cons_succ]
    refine wl_val (.pointer (some ⟨g27, 0, none⟩)) rfl (fun _ => by go_simp) ?_
    simp only [Act.put, List.setIfInBounds_toArray, List.set_cons_zero, List.set_cons_succ]
    refine wl_part 25 (.tmp 92) [.bool (A.has 0), .bool (A.has 1), .bool (A.has 2), .bool (A.has 3), .bool (A.has 4), .bool (A.has 5)] (own_row 0 rfl) rfl rfl rfl rfl Try.underlying25 rfl (by kernel_rfl) ?_
    simp only [Act.put, List.setIfInBounds_toArray, List.set_cons_zero, List.set_cons_succ]
    refine wl_val (.bool true) rfl (fun w => run_same (f := Value.bool) (xs := [(A.has 0), (A.has 1), (A.has 2), (A.has 3), (A.has 4), (A.has 5)]) rfl rfl rfl Try.underlying25 (by kernel_rfl) Try.isAgg4 (eq_bool Try.underlying4) (fun _ _ _ => by go_simp) w) ?_
    simp only [Act.put, List.setIfInBounds_toArray, List.set_cons_zero, List.set_cons_succ]
    refine wl_val (.bool true) rfl (fun _ => rfl) ?_
    simp only [Act.put, List.setIfInBounds_toArray, List.set_cons_zero, List.set_cons_succ]
    refine wl_val (.pointer (some ⟨g26, 6, none⟩)) rfl (fun _ => by go_simp) ?_
    simp only [Act.put, List.setIfInBounds_toArray, List.set_cons_zero, List.set_cons_succ]
    refine wl_part 26 (.tmp 96) [.int .i64 (A.val 0), .int .i64 (A.val 1), .int .i64 (A.val 2), .int .i64 (A.val 3), .int .i64 (A.val 4), .int .i64 (A.val 5)] (own_row 1 rfl) rfl rfl rfl rfl Try.underlying26 rfl (by kernel_rfl) ?_
    simp only [Act.put, List.setIfInBounds_toArray, List.set_cons_zero, List.set_cons_succ]
    refine wl_val (.pointer (some ⟨g27, 6, none⟩)) rfl (fun _ => by go_simp) ?_
    simp only [Act.put, List.setIfInBounds_toArray, List.set_cons_zero, List.set_cons_succ]
    refine wl_part 26 (.tmp 98) [.int .i64 (A.val 0), .int .i64 (A.val 1), .int .i64 (A.val 2), .int .i64 (A.val 3), .int .i64 (A.val 4), .int .i64 (A.val 5)] (own_row 0 rfl) rfl rfl rfl rfl Try.underlying26 rfl (by kernel_rfl) ?_
    simp only [Act.put, List.setIfInBounds_toArray, List.set_cons_zero, List.set_cons_succ]
    refine wl_val (.bool true) rfl (fun w => run_same (f := Value.int .i64) (xs := [(A.val 0), (A.val 1), (A.val 2), (A.val 3), (A.val 4), (A.val 5)]) rfl rfl rfl Try.underlying26 (by kernel_rfl) Try.isAgg2 (eq_int Try.underlying2) (fun _ _ _ => by go_simp) w) ?_
    simp only [Act.put, List.setIfInBounds_toArray, List.set_cons_zero, List.set_cons_succ]
    refine wl_val (.bool true) rfl (fun _ => rfl) ?_
    simp only [Act.put, List.setIfInBounds_toArray, List.set_cons_zero, List.set_cons_succ]
    refine wl_val (.bool true) rfl (fun _ => rfl) ?_
    simp only [Act.put, List.setIfInBounds_toArray, List.set_cons_zero, List.set_cons_succ]
    refine wl_load 28 (.tmp 13) (own_row 1 rfl) rfl rfl rfl Try.underlying28 rfl (by kernel_rfl) ?_
    simp only [Act.put, List.setIfInBounds_toArray, List.set_cons_zero, List.set_cons_succ]
    refine wl_call 13 #[.agg (mcells A (1 + 1 + 1 + 1 + 1 - 32)).toArray] (.bool true) rfl (fun _ => by go_simp) (fun W => quiet_zero fq (by decide) W) ?_
    simp only [Act.put, List.setIfInBounds_toArray, List.set_cons_zero, List.set_cons_succ]
    refine wl_val (.bool true) rfl (fun _ => rfl) ?_
    simp only [Act.put, List.setIfInBounds_toArray, List.set_cons_zero, List.set_cons_succ]
    refine wl_val (.bool true) rfl (fun _ => rfl) ?_
    simp only [Act.put, List.setIfInBounds_toArray, List.set_cons_zero, List.set_cons_succ]
    refine wl_nil ?_
    refine we_then ?_
    refine wc_ret ?_
    refine we_ret1 (.bool true) rfl rfl rfl (fun w1 hE => ?_)
    exact ⟨rfl, hE.below⟩
  · skip
    refine wc_true rfl ?_
    refine wc_seq ?_
    refine wc_region ?_
    refine wl_val (.bool true) rfl (fun _ => rfl) ?_
    simp only [Act.put, List.setIfInBounds_toArray, List.set_cons_zero, List.set_cons_succ]
    refine wl_nil ?_
    refine we_then ?_
    refine wc_ret ?_
    refine we_then_ret ?_
    refine we_ret1 (.bool true) rfl rfl rfl (fun w1 hE => ?_)
    exact ⟨rfl, hE.below⟩
end Go.Proofs.Ytggdmchhnnjfiaa.Walks
