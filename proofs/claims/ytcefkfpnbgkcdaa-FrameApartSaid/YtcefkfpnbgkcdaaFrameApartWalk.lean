/-
  FrameApart: the law's walk. No condition.
-/
import Derived.Test.YtcefkfpnbgkcdaaFlaw
namespace Go.Proofs.Ytcefkfpnbgkcdaa.Walks
open Go.ChangeShapes Go.WideShapes Go.ChangeAt Go.RowKit
open Arr Steady Sx Sw Sl Sb Sc Cr Crc Cref Fr Fref Frm Flaw
set_option linter.unusedVariables false
set_option linter.unusedSimpArgs false
set_option maxRecDepth 100000

theorem eq_frame {o : Oper} {a : Act} {x y : Operand} {p0 q0 : Int} {p1 q1 : Int} {p2 q2 : Int} (ho : o.op = .binOp .eql 23 x y 23) (hx : a.eval x = .agg #[.int .i64 p0, .int .i64 p1, .int .i64 p2])
    (hy : a.eval y = .agg #[.int .i64 q0, .int .i64 q1, .int .i64 q2]) (w : World) : (execOp a.eval o).run Try.prog w = .ok (.value (.bool (p0 == q0 && p1 == q1 && p2 == q2))) w := by
  unfold execOp
  simp only [ho, hx, hy]
  by_cases h0 : p0 = q0 <;> by_cases h1 : p1 = q1 <;> by_cases h2 : p2 = q2 <;> simp [go_sem, *]
theorem ne_frame {o : Oper} {a : Act} {x y : Operand} {p0 q0 : Int} {p1 q1 : Int} {p2 q2 : Int} (ho : o.op = .binOp .neq 23 x y 23) (hx : a.eval x = .agg #[.int .i64 p0, .int .i64 p1, .int .i64 p2])
    (hy : a.eval y = .agg #[.int .i64 q0, .int .i64 q1, .int .i64 q2]) (w : World) : (execOp a.eval o).run Try.prog w = .ok (.value (.bool (!(p0 == q0 && p1 == q1 && p2 == q2)))) w := by
  unfold execOp
  simp only [ho, hx, hy]
  by_cases h0 : p0 = q0 <;> by_cases h1 : p1 = q1 <;> by_cases h2 : p2 = q2 <;> simp [go_sem, *]
theorem apart_same {k s v k2 s2 v2 : Int} (h : putE k s v = 0) (h2 : putE k2 s2 v2 = 0) : (decide (putL k s v = putL k2 s2 v2) == (k == k2 && s == s2 && v == v2)) = true := by
  have := put_apart h h2
  rw [beq_iff_eq, Bool.eq_iff_iff]
  simp only [decide_eq_true_eq, Bool.and_eq_true, beq_iff_eq]
  rw [this]
  simp only [Prod.mk.injEq, and_assoc]
set_option maxHeartbeats 2000000 in
theorem frameApart_walk (k : Int) (wk : (Lit.int .i64 k).wf = true) (s : Int) (ws : (Lit.int .i64 s).wf = true) (v : Int) (wv : (Lit.int .i64 v).wf = true) (k2 : Int) (wk2 : (Lit.int .i64 k2).wf = true) (s2 : Int) (ws2 : (Lit.int .i64 s2).wf = true) (v2 : Int) (wv2 : (Lit.int .i64 v2).wf = true) (w : World) :
    Calls Try.prog 6 #[.agg #[.int .i64 k, .int .i64 s, .int .i64 v], .agg #[.int .i64 k2, .int .i64 s2, .int .i64 v2]] w fun e w' => e = .returned (.bool true) ∧ Below w.heap.size w w' := by
  have hk := i64_of_wf wk
  have hk2 := i64_of_wf wk2
  have pl := putL_bounds k s v
  have pl2 := putL_bounds k2 s2 v2
  refine calls_sx Try.func6 rfl ?_
  simp only [Try.ntmps6, List.size_toArray, List.length_cons, List.length_nil, Nat.reduceAdd, Nat.reduceSub, Array.replicate_succ, Array.replicate_zero, List.push_toArray, List.append_toArray, List.nil_append, List.cons_append]
  refine wc_seq ?_
  refine wc_region ?_
  refine wl_new 23 (#[.int .i64 k, .int .i64 s, .int .i64 v]) rfl (fun _ => by go_simp) ?_
  intro g1
  simp only [Act.put, List.setIfInBounds_toArray, List.set_cons_zero, List.set_cons_succ]
  refine wl_new 23 (#[.int .i64 k2, .int .i64 s2, .int .i64 v2]) rfl (fun _ => by go_simp) ?_
  intro g2
  simp only [Act.put, List.setIfInBounds_toArray, List.set_cons_zero, List.set_cons_succ]
  refine wl_val (.bool false) rfl (fun _ => rfl) ?_
  simp only [Act.put, List.setIfInBounds_toArray, List.set_cons_zero, List.set_cons_succ]
  refine wl_nil ?_
  refine we_then ?_
  refine wc_seq ?_
  refine wc_seq ?_
  refine wc_region ?_
  refine wl_call 7 #[] (.bool true) rfl (fun _ => by go_simp) (fun W => anchor_any W) ?_
  simp only [Act.put, List.setIfInBounds_toArray, List.set_cons_zero, List.set_cons_succ]
  refine wl_val (.bool false) rfl (fun _ => by go_simp) ?_
  simp only [Act.put, List.setIfInBounds_toArray, List.set_cons_zero, List.set_cons_succ]
  refine wl_nil ?_
  refine we_then ?_
  refine wc_false rfl ?_
  refine wc_skip ?_
  refine we_then ?_
  refine wc_seq ?_
  refine wc_region ?_
  refine wl_load 23 (.tmp 2) (own_row 1 rfl) rfl rfl rfl Try.underlying23 rfl (by kernel_rfl) ?_
  simp only [Act.put, List.setIfInBounds_toArray, List.set_cons_zero, List.set_cons_succ]
  cases h3 : (putE k s v == 0)
  · skip
    have p3 : ¬ (putE k s v = 0) := by simpa using h3
    refine wl_call 8 #[.agg #[.int .i64 k, .int .i64 s, .int .i64 v]] (.tuple #[.slice none 0 0, .int .i64 ((putE k s v : Nat) : Int)]) rfl (fun _ => by go_simp) (fun W => put_no hk (by omega) W) ?_
    simp only [Act.put, List.setIfInBounds_toArray, List.set_cons_zero, List.set_cons_succ]
    refine wl_val (.tuple #[.slice none 0 0, .int .i64 ((putE k s v : Nat) : Int)]) rfl (fun _ => rfl) ?_
    simp only [Act.put, List.setIfInBounds_toArray, List.set_cons_zero, List.set_cons_succ]
    refine wl_val (.slice none 0 0) rfl (fun _ => by go_simp) ?_
    simp only [Act.put, List.setIfInBounds_toArray, List.set_cons_zero, List.set_cons_succ]
    refine wl_val (.int .i64 ((putE k s v : Nat) : Int)) rfl (fun _ => by go_simp) ?_
    simp only [Act.put, List.setIfInBounds_toArray, List.set_cons_zero, List.set_cons_succ]
    refine wl_val (.slice none 0 0) rfl (fun _ => rfl) ?_
    simp only [Act.put, List.setIfInBounds_toArray, List.set_cons_zero, List.set_cons_succ]
    refine wl_val (.int .i64 ((putE k s v : Nat) : Int)) rfl (fun _ => rfl) ?_
    simp only [Act.put, List.setIfInBounds_toArray, List.set_cons_zero, List.set_cons_succ]
    refine wl_nil ?_
    refine we_then ?_
    refine wc_seq ?_
    refine wc_region ?_
    refine wl_load 23 (.tmp 3) (own_row 0 rfl) rfl rfl rfl Try.underlying23 rfl (by kernel_rfl) ?_
    simp only [Act.put, List.setIfInBounds_toArray, List.set_cons_zero, List.set_cons_succ]
    cases h4 : (putE k2 s2 v2 == 0)
    · skip
      have p4 : ¬ (putE k2 s2 v2 = 0) := by simpa using h4
      refine wl_call 8 #[.agg #[.int .i64 k2, .int .i64 s2, .int .i64 v2]] (.tuple #[.slice none 0 0, .int .i64 ((putE k2 s2 v2 : Nat) : Int)]) rfl (fun _ => by go_simp) (fun W => put_no hk2 (by omega) W) ?_
      simp only [Act.put, List.setIfInBounds_toArray, List.set_cons_zero, List.set_cons_succ]
      refine wl_val (.tuple #[.slice none 0 0, .int .i64 ((putE k2 s2 v2 : Nat) : Int)]) rfl (fun _ => rfl) ?_
      simp only [Act.put, List.setIfInBounds_toArray, List.set_cons_zero, List.set_cons_succ]
      refine wl_val (.slice none 0 0) rfl (fun _ => by go_simp) ?_
      simp only [Act.put, List.setIfInBounds_toArray, List.set_cons_zero, List.set_cons_succ]
      refine wl_val (.int .i64 ((putE k2 s2 v2 : Nat) : Int)) rfl (fun _ => by go_simp) ?_
      simp only [Act.put, List.setIfInBounds_toArray, List.set_cons_zero, List.set_cons_succ]
      refine wl_val (.slice none 0 0) rfl (fun _ => rfl) ?_
      simp only [Act.put, List.setIfInBounds_toArray, List.set_cons_zero, List.set_cons_succ]
      refine wl_val (.int .i64 ((putE k2 s2 v2 : Nat) : Int)) rfl (fun _ => rfl) ?_
      simp only [Act.put, List.setIfInBounds_toArray, List.set_cons_zero, List.set_cons_succ]
      refine wl_nil ?_
      refine we_then ?_
      refine wc_seq ?_
      refine wc_draw [.late, .late, .late, .late, .late, .late, .late, .late, .plain, .late, .plain, .late, .plain, .plain, .late, .late, .late, .late] none [] 38 (by kernel_rfl) rfl (by kernel_rfl) (by kernel_rfl) ?_
      refine ws_late (.int .i64 ((putE k s v : Nat) : Int)) rfl rfl (fun _ => rfl) ?_
      simp only [Nat.reduceAdd, Act.put, List.setIfInBounds_toArray, List.set_cons_zero, List.set_cons_succ]
      refine ws_late (.bool (((putE k s v : Nat) : Int) != 0)) rfl rfl (fun w => run_cmp rfl rfl rfl Try.underlying26 rfl w) ?_
      simp only [Nat.reduceAdd, Act.put, List.setIfInBounds_toArray, List.set_cons_zero, List.set_cons_succ]
      refine ws_late (.bool (((putE k s v : Nat) : Int) != 0)) rfl rfl (fun _ => rfl) ?_
      simp only [Nat.reduceAdd, Act.put, List.setIfInBounds_toArray, List.set_cons_zero, List.set_cons_succ]
      cases h5 : (((putE k s v : Nat) : Int) != 0)
      · skip
        have p5 : ¬ (((putE k s v : Nat) : Int) ≠ 0) := by simpa using h5
        exact (by exfalso; omega)
      · skip
        have p5 : ((putE k s v : Nat) : Int) ≠ 0 := by simpa using h5
        refine ws_skip_late rfl rfl ?_
        simp only [Nat.reduceAdd, Act.put, List.setIfInBounds_toArray, List.set_cons_zero, List.set_cons_succ]
        refine ws_skip_late rfl rfl ?_
        simp only [Nat.reduceAdd, Act.put, List.setIfInBounds_toArray, List.set_cons_zero, List.set_cons_succ]
        refine ws_late (.bool true) rfl rfl (fun _ => rfl) ?_
        simp only [Nat.reduceAdd, Act.put, List.setIfInBounds_toArray, List.set_cons_zero, List.set_cons_succ]
        refine ws_late (.bool true) rfl rfl (fun _ => rfl) ?_
        simp only [Nat.reduceAdd, Act.put, List.setIfInBounds_toArray, List.set_cons_zero, List.set_cons_succ]
        refine ws_skip_late rfl rfl ?_
        simp only [Nat.reduceAdd, Act.put, List.setIfInBounds_toArray, List.set_cons_zero, List.set_cons_succ]
        refine ws_skip rfl rfl ?_
        simp only [Nat.reduceAdd, Act.put, List.setIfInBounds_toArray, List.set_cons_zero, List.set_cons_succ]
        refine ws_skip_late rfl rfl ?_
        simp only [Nat.reduceAdd, Act.put, List.setIfInBounds_toArray, List.set_cons_zero, List.set_cons_succ]
        refine ws_skip rfl rfl ?_
        simp only [Nat.reduceAdd, Act.put, List.setIfInBounds_toArray, List.set_cons_zero, List.set_cons_succ]
        refine ws_skip_late rfl rfl ?_
        simp only [Nat.reduceAdd, Act.put, List.setIfInBounds_toArray, List.set_cons_zero, List.set_cons_succ]
        refine ws_skip rfl rfl ?_
        simp only [Nat.reduceAdd, Act.put, List.setIfInBounds_toArray, List.set_cons_zero, List.set_cons_succ]
        refine ws_skip rfl rfl ?_
        simp only [Nat.reduceAdd, Act.put, List.setIfInBounds_toArray, List.set_cons_zero, List.set_cons_succ]
        refine ws_skip_late rfl rfl ?_
        simp only [Nat.reduceAdd, Act.put, List.setIfInBounds_toArray, List.set_cons_zero, List.set_cons_succ]
        refine ws_skip_late rfl rfl ?_
        simp only [Nat.reduceAdd, Act.put, List.setIfInBounds_toArray, List.set_cons_zero, List.set_cons_succ]
        refine ws_late (.bool true) rfl rfl (fun _ => rfl) ?_
        simp only [Nat.reduceAdd, Act.put, List.setIfInBounds_toArray, List.set_cons_zero, List.set_cons_succ]
        refine ws_late (.bool true) rfl rfl (fun _ => rfl) ?_
        simp only [Nat.reduceAdd, Act.put, List.setIfInBounds_toArray, List.set_cons_zero, List.set_cons_succ]
        refine ws_nil [] trivial (by simp) ?_
        intro ps6
        simp only [fin, List.foldl_nil, List.map, List.nil_append]
        refine we_then ?_
        refine wc_ret ?_
        refine we_ret1 (.bool true) rfl rfl rfl (fun w1 hE => ?_)
        exact ⟨rfl, hE.below⟩
    · skip
      have p4 : putE k2 s2 v2 = 0 := by simpa using h4
      refine wl_call_env (ι := Nat) 8 #[.agg #[.int .i64 k2, .int .i64 s2, .int .i64 v2]] (fun g7 => .tuple #[.slice (some ⟨g7, 0, none⟩) ((putL k2 s2 v2).length) ((putL k2 s2 v2).length), .int .i64 0]) (fun g7 => [⟨g7, (flat ub (putL k2 s2 v2)).toArray, 5⟩]) (fun _ => True) rfl (fun _ => by go_simp) (fun W hE => put_yes (by omega) rfl W) ?_
      rintro g7 -
      simp only [List.cons_append, List.nil_append, Act.put, List.setIfInBounds_toArray, List.set_cons_zero, List.set_cons_succ]
      refine wl_val (.tuple #[.slice (some ⟨g7, 0, none⟩) ((putL k2 s2 v2).length) ((putL k2 s2 v2).length), .int .i64 0]) rfl (fun _ => rfl) ?_
      simp only [Act.put, List.setIfInBounds_toArray, List.set_cons_zero, List.set_cons_succ]
      refine wl_val (.slice (some ⟨g7, 0, none⟩) ((putL k2 s2 v2).length) ((putL k2 s2 v2).length)) rfl (fun _ => by go_simp) ?_
      simp only [Act.put, List.setIfInBounds_toArray, List.set_cons_zero, List.set_cons_succ]
      refine wl_val (.int .i64 0) rfl (fun _ => by go_simp) ?_
      simp only [Act.put, List.setIfInBounds_toArray, List.set_cons_zero, List.set_cons_succ]
      refine wl_val (.slice (some ⟨g7, 0, none⟩) ((putL k2 s2 v2).length) ((putL k2 s2 v2).length)) rfl (fun _ => rfl) ?_
      simp only [Act.put, List.setIfInBounds_toArray, List.set_cons_zero, List.set_cons_succ]
      refine wl_val (.int .i64 0) rfl (fun _ => rfl) ?_
      simp only [Act.put, List.setIfInBounds_toArray, List.set_cons_zero, List.set_cons_succ]
      refine wl_nil ?_
      refine we_then ?_
      refine wc_seq ?_
      refine wc_draw [.late, .late, .late, .late, .late, .late, .late, .late, .plain, .late, .plain, .late, .plain, .plain, .late, .late, .late, .late] none [] 38 (by kernel_rfl) rfl (by kernel_rfl) (by kernel_rfl) ?_
      refine ws_late (.int .i64 ((putE k s v : Nat) : Int)) rfl rfl (fun _ => rfl) ?_
      simp only [Nat.reduceAdd, Act.put, List.setIfInBounds_toArray, List.set_cons_zero, List.set_cons_succ]
      refine ws_late (.bool (((putE k s v : Nat) : Int) != 0)) rfl rfl (fun w => run_cmp rfl rfl rfl Try.underlying26 rfl w) ?_
      simp only [Nat.reduceAdd, Act.put, List.setIfInBounds_toArray, List.set_cons_zero, List.set_cons_succ]
      refine ws_late (.bool (((putE k s v : Nat) : Int) != 0)) rfl rfl (fun _ => rfl) ?_
      simp only [Nat.reduceAdd, Act.put, List.setIfInBounds_toArray, List.set_cons_zero, List.set_cons_succ]
      cases h8 : (((putE k s v : Nat) : Int) != 0)
      · skip
        have p8 : ¬ (((putE k s v : Nat) : Int) ≠ 0) := by simpa using h8
        exact (by exfalso; omega)
      · skip
        have p8 : ((putE k s v : Nat) : Int) ≠ 0 := by simpa using h8
        refine ws_skip_late rfl rfl ?_
        simp only [Nat.reduceAdd, Act.put, List.setIfInBounds_toArray, List.set_cons_zero, List.set_cons_succ]
        refine ws_skip_late rfl rfl ?_
        simp only [Nat.reduceAdd, Act.put, List.setIfInBounds_toArray, List.set_cons_zero, List.set_cons_succ]
        refine ws_late (.bool true) rfl rfl (fun _ => rfl) ?_
        simp only [Nat.reduceAdd, Act.put, List.setIfInBounds_toArray, List.set_cons_zero, List.set_cons_succ]
        refine ws_late (.bool true) rfl rfl (fun _ => rfl) ?_
        simp only [Nat.reduceAdd, Act.put, List.setIfInBounds_toArray, List.set_cons_zero, List.set_cons_succ]
        refine ws_skip_late rfl rfl ?_
        simp only [Nat.reduceAdd, Act.put, List.setIfInBounds_toArray, List.set_cons_zero, List.set_cons_succ]
        refine ws_skip rfl rfl ?_
        simp only [Nat.reduceAdd, Act.put, List.setIfInBounds_toArray, List.set_cons_zero, List.set_cons_succ]
        refine ws_skip_late rfl rfl ?_
        simp only [Nat.reduceAdd, Act.put, List.setIfInBounds_toArray, List.set_cons_zero, List.set_cons_succ]
        refine ws_skip rfl rfl ?_
        simp only [Nat.reduceAdd, Act.put, List.setIfInBounds_toArray, List.set_cons_zero, List.set_cons_succ]
        refine ws_skip_late rfl rfl ?_
        simp only [Nat.reduceAdd, Act.put, List.setIfInBounds_toArray, List.set_cons_zero, List.set_cons_succ]
        refine ws_skip rfl rfl ?_
        simp only [Nat.reduceAdd, Act.put, List.setIfInBounds_toArray, List.set_cons_zero, List.set_cons_succ]
        refine ws_skip rfl rfl ?_
        simp only [Nat.reduceAdd, Act.put, List.setIfInBounds_toArray, List.set_cons_zero, List.set_cons_succ]
        refine ws_skip_late rfl rfl ?_
        simp only [Nat.reduceAdd, Act.put, List.setIfInBounds_toArray, List.set_cons_zero, List.set_cons_succ]
        refine ws_skip_late rfl rfl ?_
        simp only [Nat.reduceAdd, Act.put, List.setIfInBounds_toArray, List.set_cons_zero, List.set_cons_succ]
        refine ws_late (.bool true) rfl rfl (fun _ => rfl) ?_
        simp only [Nat.reduceAdd, Act.put, List.setIfInBounds_toArray, List.set_cons_zero, List.set_cons_succ]
        refine ws_late (.bool true) rfl rfl (fun _ => rfl) ?_
        simp only [Nat.reduceAdd, Act.put, List.setIfInBounds_toArray, List.set_cons_zero, List.set_cons_succ]
        refine ws_nil [] trivial (by simp) ?_
        intro ps9
        simp only [fin, List.foldl_nil, List.map, List.nil_append]
        refine we_then ?_
        refine wc_ret ?_
        refine we_ret1 (.bool true) rfl rfl rfl (fun w1 hE => ?_)
        exact ⟨rfl, hE.below⟩
  · skip
    have p3 : putE k s v = 0 := by simpa using h3
    refine wl_call_env (ι := Nat) 8 #[.agg #[.int .i64 k, .int .i64 s, .int .i64 v]] (fun g10 => .tuple #[.slice (some ⟨g10, 0, none⟩) ((putL k s v).length) ((putL k s v).length), .int .i64 0]) (fun g10 => [⟨g10, (flat ub (putL k s v)).toArray, 5⟩]) (fun _ => True) rfl (fun _ => by go_simp) (fun W hE => put_yes (by omega) rfl W) ?_
    rintro g10 -
    simp only [List.cons_append, List.nil_append, Act.put, List.setIfInBounds_toArray, List.set_cons_zero, List.set_cons_succ]
    refine wl_val (.tuple #[.slice (some ⟨g10, 0, none⟩) ((putL k s v).length) ((putL k s v).length), .int .i64 0]) rfl (fun _ => rfl) ?_
    simp only [Act.put, List.setIfInBounds_toArray, List.set_cons_zero, List.set_cons_succ]
    refine wl_val (.slice (some ⟨g10, 0, none⟩) ((putL k s v).length) ((putL k s v).length)) rfl (fun _ => by go_simp) ?_
    simp only [Act.put, List.setIfInBounds_toArray, List.set_cons_zero, List.set_cons_succ]
    refine wl_val (.int .i64 0) rfl (fun _ => by go_simp) ?_
    simp only [Act.put, List.setIfInBounds_toArray, List.set_cons_zero, List.set_cons_succ]
    refine wl_val (.slice (some ⟨g10, 0, none⟩) ((putL k s v).length) ((putL k s v).length)) rfl (fun _ => rfl) ?_
    simp only [Act.put, List.setIfInBounds_toArray, List.set_cons_zero, List.set_cons_succ]
    refine wl_val (.int .i64 0) rfl (fun _ => rfl) ?_
    simp only [Act.put, List.setIfInBounds_toArray, List.set_cons_zero, List.set_cons_succ]
    refine wl_nil ?_
    refine we_then ?_
    refine wc_seq ?_
    refine wc_region ?_
    refine wl_load 23 (.tmp 3) (own_row 1 rfl) rfl rfl rfl Try.underlying23 rfl (by kernel_rfl) ?_
    simp only [Act.put, List.setIfInBounds_toArray, List.set_cons_zero, List.set_cons_succ]
    cases h11 : (putE k2 s2 v2 == 0)
    · skip
      have p11 : ¬ (putE k2 s2 v2 = 0) := by simpa using h11
      refine wl_call 8 #[.agg #[.int .i64 k2, .int .i64 s2, .int .i64 v2]] (.tuple #[.slice none 0 0, .int .i64 ((putE k2 s2 v2 : Nat) : Int)]) rfl (fun _ => by go_simp) (fun W => put_no hk2 (by omega) W) ?_
      simp only [Act.put, List.setIfInBounds_toArray, List.set_cons_zero, List.set_cons_succ]
      refine wl_val (.tuple #[.slice none 0 0, .int .i64 ((putE k2 s2 v2 : Nat) : Int)]) rfl (fun _ => rfl) ?_
      simp only [Act.put, List.setIfInBounds_toArray, List.set_cons_zero, List.set_cons_succ]
      refine wl_val (.slice none 0 0) rfl (fun _ => by go_simp) ?_
      simp only [Act.put, List.setIfInBounds_toArray, List.set_cons_zero, List.set_cons_succ]
      refine wl_val (.int .i64 ((putE k2 s2 v2 : Nat) : Int)) rfl (fun _ => by go_simp) ?_
      simp only [Act.put, List.setIfInBounds_toArray, List.set_cons_zero, List.set_cons_succ]
      refine wl_val (.slice none 0 0) rfl (fun _ => rfl) ?_
      simp only [Act.put, List.setIfInBounds_toArray, List.set_cons_zero, List.set_cons_succ]
      refine wl_val (.int .i64 ((putE k2 s2 v2 : Nat) : Int)) rfl (fun _ => rfl) ?_
      simp only [Act.put, List.setIfInBounds_toArray, List.set_cons_zero, List.set_cons_succ]
      refine wl_nil ?_
      refine we_then ?_
      refine wc_seq ?_
      refine wc_draw [.late, .late, .late, .late, .late, .late, .late, .late, .plain, .late, .plain, .late, .plain, .plain, .late, .late, .late, .late] none [] 38 (by kernel_rfl) rfl (by kernel_rfl) (by kernel_rfl) ?_
      refine ws_late (.int .i64 0) rfl rfl (fun _ => rfl) ?_
      simp only [Nat.reduceAdd, Act.put, List.setIfInBounds_toArray, List.set_cons_zero, List.set_cons_succ]
      refine ws_late (.bool false) rfl rfl (fun w => run_cmp rfl rfl rfl Try.underlying26 rfl w) ?_
      simp only [Nat.reduceAdd, Act.put, List.setIfInBounds_toArray, List.set_cons_zero, List.set_cons_succ]
      refine ws_late (.bool false) rfl rfl (fun _ => rfl) ?_
      simp only [Nat.reduceAdd, Act.put, List.setIfInBounds_toArray, List.set_cons_zero, List.set_cons_succ]
      refine ws_late (.int .i64 ((putE k2 s2 v2 : Nat) : Int)) rfl rfl (fun _ => rfl) ?_
      simp only [Nat.reduceAdd, Act.put, List.setIfInBounds_toArray, List.set_cons_zero, List.set_cons_succ]
      refine ws_late (.bool (((putE k2 s2 v2 : Nat) : Int) != 0)) rfl rfl (fun w => run_cmp rfl rfl rfl Try.underlying26 rfl w) ?_
      simp only [Nat.reduceAdd, Act.put, List.setIfInBounds_toArray, List.set_cons_zero, List.set_cons_succ]
      refine ws_late (.bool (((putE k2 s2 v2 : Nat) : Int) != 0)) rfl rfl (fun _ => rfl) ?_
      simp only [Nat.reduceAdd, Act.put, List.setIfInBounds_toArray, List.set_cons_zero, List.set_cons_succ]
      refine ws_late (.bool (((putE k2 s2 v2 : Nat) : Int) != 0)) rfl rfl (fun _ => rfl) ?_
      simp only [Nat.reduceAdd, Act.put, List.setIfInBounds_toArray, List.set_cons_zero, List.set_cons_succ]
      cases h12 : (((putE k2 s2 v2 : Nat) : Int) != 0)
      · skip
        have p12 : ¬ (((putE k2 s2 v2 : Nat) : Int) ≠ 0) := by simpa using h12
        exact (by exfalso; omega)
      · skip
        have p12 : ((putE k2 s2 v2 : Nat) : Int) ≠ 0 := by simpa using h12
        refine ws_skip_late rfl rfl ?_
        simp only [Nat.reduceAdd, Act.put, List.setIfInBounds_toArray, List.set_cons_zero, List.set_cons_succ]
        refine ws_skip rfl rfl ?_
        simp only [Nat.reduceAdd, Act.put, List.setIfInBounds_toArray, List.set_cons_zero, List.set_cons_succ]
        refine ws_skip_late rfl rfl ?_
        simp only [Nat.reduceAdd, Act.put, List.setIfInBounds_toArray, List.set_cons_zero, List.set_cons_succ]
        refine ws_skip rfl rfl ?_
        simp only [Nat.reduceAdd, Act.put, List.setIfInBounds_toArray, List.set_cons_zero, List.set_cons_succ]
        refine ws_skip_late rfl rfl ?_
        simp only [Nat.reduceAdd, Act.put, List.setIfInBounds_toArray, List.set_cons_zero, List.set_cons_succ]
        refine ws_skip rfl rfl ?_
        simp only [Nat.reduceAdd, Act.put, List.setIfInBounds_toArray, List.set_cons_zero, List.set_cons_succ]
        refine ws_skip rfl rfl ?_
        simp only [Nat.reduceAdd, Act.put, List.setIfInBounds_toArray, List.set_cons_zero, List.set_cons_succ]
        refine ws_skip_late rfl rfl ?_
        simp only [Nat.reduceAdd, Act.put, List.setIfInBounds_toArray, List.set_cons_zero, List.set_cons_succ]
        refine ws_skip_late rfl rfl ?_
        simp only [Nat.reduceAdd, Act.put, List.setIfInBounds_toArray, List.set_cons_zero, List.set_cons_succ]
        refine ws_late (.bool true) rfl rfl (fun _ => rfl) ?_
        simp only [Nat.reduceAdd, Act.put, List.setIfInBounds_toArray, List.set_cons_zero, List.set_cons_succ]
        refine ws_late (.bool true) rfl rfl (fun _ => rfl) ?_
        simp only [Nat.reduceAdd, Act.put, List.setIfInBounds_toArray, List.set_cons_zero, List.set_cons_succ]
        refine ws_nil [] trivial (by simp) ?_
        intro ps13
        simp only [fin, List.foldl_nil, List.map, List.nil_append]
        refine we_then ?_
        refine wc_ret ?_
        refine we_ret1 (.bool true) rfl rfl rfl (fun w1 hE => ?_)
        exact ⟨rfl, hE.below⟩
    · skip
      have p11 : putE k2 s2 v2 = 0 := by simpa using h11
      refine wl_call_env (ι := Nat) 8 #[.agg #[.int .i64 k2, .int .i64 s2, .int .i64 v2]] (fun g14 => .tuple #[.slice (some ⟨g14, 0, none⟩) ((putL k2 s2 v2).length) ((putL k2 s2 v2).length), .int .i64 0]) (fun g14 => [⟨g14, (flat ub (putL k2 s2 v2)).toArray, 5⟩]) (fun _ => True) rfl (fun _ => by go_simp) (fun W hE => put_yes (by omega) rfl W) ?_
      rintro g14 -
      simp only [List.cons_append, List.nil_append, Act.put, List.setIfInBounds_toArray, List.set_cons_zero, List.set_cons_succ]
      refine wl_val (.tuple #[.slice (some ⟨g14, 0, none⟩) ((putL k2 s2 v2).length) ((putL k2 s2 v2).length), .int .i64 0]) rfl (fun _ => rfl) ?_
      simp only [Act.put, List.setIfInBounds_toArray, List.set_cons_zero, List.set_cons_succ]
      refine wl_val (.slice (some ⟨g14, 0, none⟩) ((putL k2 s2 v2).length) ((putL k2 s2 v2).length)) rfl (fun _ => by go_simp) ?_
      simp only [Act.put, List.setIfInBounds_toArray, List.set_cons_zero, List.set_cons_succ]
      refine wl_val (.int .i64 0) rfl (fun _ => by go_simp) ?_
      simp only [Act.put, List.setIfInBounds_toArray, List.set_cons_zero, List.set_cons_succ]
      refine wl_val (.slice (some ⟨g14, 0, none⟩) ((putL k2 s2 v2).length) ((putL k2 s2 v2).length)) rfl (fun _ => rfl) ?_
      simp only [Act.put, List.setIfInBounds_toArray, List.set_cons_zero, List.set_cons_succ]
      refine wl_val (.int .i64 0) rfl (fun _ => rfl) ?_
      simp only [Act.put, List.setIfInBounds_toArray, List.set_cons_zero, List.set_cons_succ]
      refine wl_nil ?_
      refine we_then ?_
      refine wc_seq ?_
      refine wc_draw [.late, .late, .late, .late, .late, .late, .late, .late, .plain, .late, .plain, .late, .plain, .plain, .late, .late, .late, .late] none [] 38 (by kernel_rfl) rfl (by kernel_rfl) (by kernel_rfl) ?_
      refine ws_late (.int .i64 0) rfl rfl (fun _ => rfl) ?_
      simp only [Nat.reduceAdd, Act.put, List.setIfInBounds_toArray, List.set_cons_zero, List.set_cons_succ]
      refine ws_late (.bool false) rfl rfl (fun w => run_cmp rfl rfl rfl Try.underlying26 rfl w) ?_
      simp only [Nat.reduceAdd, Act.put, List.setIfInBounds_toArray, List.set_cons_zero, List.set_cons_succ]
      refine ws_late (.bool false) rfl rfl (fun _ => rfl) ?_
      simp only [Nat.reduceAdd, Act.put, List.setIfInBounds_toArray, List.set_cons_zero, List.set_cons_succ]
      refine ws_late (.int .i64 0) rfl rfl (fun _ => rfl) ?_
      simp only [Nat.reduceAdd, Act.put, List.setIfInBounds_toArray, List.set_cons_zero, List.set_cons_succ]
      refine ws_late (.bool false) rfl rfl (fun w => run_cmp rfl rfl rfl Try.underlying26 rfl w) ?_
      simp only [Nat.reduceAdd, Act.put, List.setIfInBounds_toArray, List.set_cons_zero, List.set_cons_succ]
      refine ws_late (.bool false) rfl rfl (fun _ => rfl) ?_
      simp only [Nat.reduceAdd, Act.put, List.setIfInBounds_toArray, List.set_cons_zero, List.set_cons_succ]
      refine ws_late (.bool false) rfl rfl (fun _ => rfl) ?_
      simp only [Nat.reduceAdd, Act.put, List.setIfInBounds_toArray, List.set_cons_zero, List.set_cons_succ]
      refine ws_late (.slice (some ⟨g10, 0, none⟩) ((putL k s v).length) ((putL k s v).length)) rfl rfl (fun _ => rfl) ?_
      simp only [Nat.reduceAdd, Act.put, List.setIfInBounds_toArray, List.set_cons_zero, List.set_cons_succ]
      refine ws_read (.string (str (putL k s v))) rfl rfl (er_string (L := putL k s v) (sl_mk 1 (L := putL k s v) rfl) rfl rfl rfl Try.underlying25 Try.underlying5 Try.underlying9) ?_
      simp only [Nat.reduceAdd, Act.put, List.setIfInBounds_toArray, List.set_cons_zero, List.set_cons_succ]
      refine ws_late (.slice (some ⟨g14, 0, none⟩) ((putL k2 s2 v2).length) ((putL k2 s2 v2).length)) rfl rfl (fun _ => rfl) ?_
      simp only [Nat.reduceAdd, Act.put, List.setIfInBounds_toArray, List.set_cons_zero, List.set_cons_succ]
      refine ws_read (.string (str (putL k2 s2 v2))) rfl rfl (er_string (L := putL k2 s2 v2) (sl_mk 0 (L := putL k2 s2 v2) rfl) rfl rfl rfl Try.underlying25 Try.underlying5 Try.underlying9) ?_
      simp only [Nat.reduceAdd, Act.put, List.setIfInBounds_toArray, List.set_cons_zero, List.set_cons_succ]
      refine ws_late (.bool (decide (putL k s v = putL k2 s2 v2))) rfl rfl (fun w => run_streq rfl rfl rfl rfl w) ?_
      simp only [Nat.reduceAdd, Act.put, List.setIfInBounds_toArray, List.set_cons_zero, List.set_cons_succ]
      refine ws_load 23 (.tmp 2) (own_row 3 rfl) rfl rfl rfl rfl Try.underlying23 rfl (by kernel_rfl) ?_
      simp only [Nat.reduceAdd, Act.put, List.setIfInBounds_toArray, List.set_cons_zero, List.set_cons_succ]
      refine ws_load 23 (.tmp 3) (own_row 2 rfl) rfl rfl rfl rfl Try.underlying23 rfl (by kernel_rfl) ?_
      simp only [Nat.reduceAdd, Act.put, List.setIfInBounds_toArray, List.set_cons_zero, List.set_cons_succ]
      refine ws_late (.bool (k == k2 && s == s2 && v == v2)) rfl rfl (fun w => eq_frame rfl rfl rfl w) ?_
      simp only [Nat.reduceAdd, Act.put, List.setIfInBounds_toArray, List.set_cons_zero, List.set_cons_succ]
      refine ws_late (.bool true) rfl rfl (fun w => run_beq rfl rfl rfl Try.underlying4 (apart_same (by omega) (by omega)) w) ?_
      simp only [Nat.reduceAdd, Act.put, List.setIfInBounds_toArray, List.set_cons_zero, List.set_cons_succ]
      refine ws_late (.bool true) rfl rfl (fun _ => rfl) ?_
      simp only [Nat.reduceAdd, Act.put, List.setIfInBounds_toArray, List.set_cons_zero, List.set_cons_succ]
      refine ws_late (.bool true) rfl rfl (fun _ => rfl) ?_
      simp only [Nat.reduceAdd, Act.put, List.setIfInBounds_toArray, List.set_cons_zero, List.set_cons_succ]
      refine ws_nil [] trivial (by simp) ?_
      intro ps15
      simp only [fin, List.foldl_nil, List.map, List.nil_append]
      refine we_then ?_
      refine wc_ret ?_
      refine we_ret1 (.bool true) rfl rfl rfl (fun w1 hE => ?_)
      exact ⟨rfl, hE.below⟩
end Go.Proofs.Ytcefkfpnbgkcdaa.Walks
