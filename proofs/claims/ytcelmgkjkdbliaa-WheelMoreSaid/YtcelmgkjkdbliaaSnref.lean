/-
  The reference of layer 15 (sensors). Conditions: numbers of 60 bits; configurations that may be.
-/
import Derived.Test.YtcelmgkjkdbliaaSn
import Derived.Test.YtcelmgkjkdbliaaCfref
import Derived.Test.YtcelmgkjkdbliaaSk
namespace Go.Proofs.Ytcelmgkjkdbliaa.Snref
open Go.ChangeShapes Go.WideShapes Go.ChangeAt Go.RowKit
open Arr Steady Sx Sw Sl Sb Sc Si Sj Sk Vs Gr Tk Tkh Tkl Cf Sn
set_option linter.unusedVariables false
set_option linter.unusedSimpArgs false
set_option maxRecDepth 100000

theorem tdiv_in {a b : Int} (h1 : -1152921504606846976 ≤ a) (h2 : a ≤ 1152921504606846976) : -1152921504606846976 ≤ Int.tdiv a b ∧ Int.tdiv a b ≤ 1152921504606846976 := by
  have := Int.natAbs_tdiv_le_natAbs a b
  omega
set_option maxHeartbeats 2000000 in
theorem down_any (a b : Int) (w : World) (h1 : -1152921504606846976 ≤ a) (h2 : a ≤ 1152921504606846976) (h3 : 1 ≤ b) :
    Calls Try.prog 13 #[.int .i64 a, .int .i64 b] w fun e w' => e = .returned (.int .i64 (a / b)) ∧ Below w.heap.size w w' := by
  have t1 := tdiv_in (b := b) h1 h2
  refine calls_sx Try.func13 rfl ?_
  simp only [Try.ntmps13, List.size_toArray, List.length_cons, List.length_nil, Nat.reduceAdd, Nat.reduceSub, Array.replicate_succ, Array.replicate_zero, List.push_toArray, List.append_toArray, List.nil_append, List.cons_append]
  refine wc_seq ?_
  refine wc_region ?_
  refine wl_val (.int .i64 0) rfl (fun _ => rfl) ?_
  simp only [Act.put, Xa, Xz, Xs]
  refine wl_nil ?_
  refine we_then ?_
  refine wc_seq ?_
  refine wc_region ?_
  refine wl_val (.int .i64 a) rfl (fun _ => rfl) ?_
  simp only [Act.put, Xa, Xz, Xs]
  refine wl_val (.int .i64 b) rfl (fun _ => rfl) ?_
  simp only [Act.put, Xa, Xz, Xs]
  refine wl_val (.int .i64 (Int.tdiv a b)) rfl (fun w => run_tdiv rfl rfl rfl Try.underlying2 (by omega) (i64_in (by omega) (by omega)) w) ?_
  simp only [Act.put, Xa, Xz, Xs]
  refine wl_val (.int .i64 (Int.tdiv a b)) rfl (fun _ => rfl) ?_
  simp only [Act.put, Xa, Xz, Xs]
  refine wl_nil ?_
  refine we_then ?_
  refine wc_seq ?_
  refine wc_seq ?_
  refine wc_region ?_
  refine wl_val (.int .i64 a) rfl (fun _ => rfl) ?_
  simp only [Act.put, Xa, Xz, Xs]
  refine wl_val (.int .i64 b) rfl (fun _ => rfl) ?_
  simp only [Act.put, Xa, Xz, Xs]
  refine wl_val (.int .i64 (Int.tmod a b)) rfl (fun w => run_tmod (by omega) rfl rfl rfl w) ?_
  simp only [Act.put, Xa, Xz, Xs]
  refine wl_val (.bool (decide ((Int.tmod a b) < 0))) rfl (fun w => run_cmp rfl rfl rfl Try.underlying2 rfl w) ?_
  simp only [Act.put, Xa, Xz, Xs]
  refine wl_nil ?_
  refine we_then ?_
  cases h1 : (decide ((Int.tmod a b) < 0))
  · skip
    have p1 : ¬ ((Int.tmod a b) < 0) := of_decide_eq_false h1
    refine wc_false rfl ?_
    refine wc_skip ?_
    refine we_then ?_
    refine wc_seq ?_
    refine wc_region ?_
    refine wl_val (.int .i64 (Int.tdiv a b)) rfl (fun _ => rfl) ?_
    simp only [Act.put, Xa, Xz, Xs]
    refine wl_val (.int .i64 (Int.tdiv a b)) rfl (fun _ => rfl) ?_
    simp only [Act.put, Xa, Xz, Xs]
    refine wl_nil ?_
    refine we_then ?_
    refine wc_ret ?_
    refine we_ret1 (.int .i64 (Int.tdiv a b)) rfl rfl rfl (fun w1 hE => ?_)
    have e0 := tdiv_down (a := a) (b := b) h3
    rw [if_neg p1] at e0
    exact ⟨by rw [← e0], hE.below⟩
  · skip
    have p1 : (Int.tmod a b) < 0 := of_decide_eq_true h1
    refine wc_true rfl ?_
    refine wc_region ?_
    refine wl_val (.int .i64 (Int.tdiv a b)) rfl (fun _ => rfl) ?_
    simp only [Act.put, Xa, Xz, Xs]
    refine wl_val (.int .i64 ((Int.tdiv a b) - 1)) rfl (fun w => run_arith (op := .sub) rfl rfl rfl Try.underlying2 (congrArg some (i64_in (by omega) (by omega))) w) ?_
    simp only [Act.put, Xa, Xz, Xs]
    refine wl_val (.int .i64 ((Int.tdiv a b) - 1)) rfl (fun _ => rfl) ?_
    simp only [Act.put, Xa, Xz, Xs]
    refine wl_nil ?_
    refine we_then ?_
    refine wc_seq ?_
    refine wc_region ?_
    refine wl_val (.int .i64 ((Int.tdiv a b) - 1)) rfl (fun _ => rfl) ?_
    simp only [Act.put, Xa, Xz, Xs]
    refine wl_val (.int .i64 ((Int.tdiv a b) - 1)) rfl (fun _ => rfl) ?_
    simp only [Act.put, Xa, Xz, Xs]
    refine wl_nil ?_
    refine we_then ?_
    refine wc_ret ?_
    refine we_ret1 (.int .i64 ((Int.tdiv a b) - 1)) rfl rfl rfl (fun w1 hE => ?_)
    have e0 := tdiv_down (a := a) (b := b) h3
    rw [if_pos p1] at e0
    exact ⟨by rw [← e0], hE.below⟩
theorem ediv_in {a b : Int} (h1 : -1152921504606846976 ≤ a) (h2 : a ≤ 1152921504606846976) (h3 : 1 ≤ b) : -1152921504606846977 ≤ a / b ∧ a / b ≤ 1152921504606846976 := by
  have h := tdiv_down (a := a) (b := b) h3
  have t := tdiv_in (b := b) h1 h2
  split at h <;> omega
set_option maxHeartbeats 2000000 in
theorem up_any (a b : Int) (w : World) (h1 : -1152921504606846976 ≤ a) (h2 : a ≤ 1152921504606846976) (h3 : 1 ≤ b) :
    Calls Try.prog 14 #[.int .i64 a, .int .i64 b] w fun e w' => e = .returned (.int .i64 (up a b)) ∧ Below w.heap.size w w' := by
  have t1 := ediv_in (a := -a) (b := b) (by omega) (by omega) h3
  have e0 : up a b = -((-a) / b) := rfl
  refine calls_sx Try.func14 rfl ?_
  simp only [Try.ntmps14, List.size_toArray, List.length_cons, List.length_nil, Nat.reduceAdd, Nat.reduceSub, Array.replicate_succ, Array.replicate_zero, List.push_toArray, List.append_toArray, List.nil_append, List.cons_append]
  refine wc_seq ?_
  refine wc_region ?_
  refine wl_val (.int .i64 0) rfl (fun _ => rfl) ?_
  simp only [Act.put, Xa, Xz, Xs]
  refine wl_nil ?_
  refine we_then ?_
  refine wc_seq ?_
  refine wc_region ?_
  refine wl_val (.int .i64 a) rfl (fun _ => rfl) ?_
  simp only [Act.put, Xa, Xz, Xs]
  refine wl_val (.int .i64 (-a)) rfl (fun w => run_neg rfl rfl Try.underlying2 (i64_in (by omega) (by omega)) w) ?_
  simp only [Act.put, Xa, Xz, Xs]
  refine wl_val (.int .i64 b) rfl (fun _ => rfl) ?_
  simp only [Act.put, Xa, Xz, Xs]
  refine wl_call 13 #[.int .i64 (-a), .int .i64 b] (.int .i64 ((-a) / b)) rfl (fun _ => by go_simp) (fun W => down_any (-a) b W (by omega) (by omega) (by omega)) ?_
  simp only [Act.put, Xa, Xz, Xs]
  refine wl_val (.int .i64 (-((-a) / b))) rfl (fun w => run_neg rfl rfl Try.underlying2 (i64_in (by omega) (by omega)) w) ?_
  simp only [Act.put, Xa, Xz, Xs]
  refine wl_val (.int .i64 (-((-a) / b))) rfl (fun _ => rfl) ?_
  simp only [Act.put, Xa, Xz, Xs]
  refine wl_nil ?_
  refine we_then ?_
  refine wc_ret ?_
  refine we_ret1 (.int .i64 (-((-a) / b))) rfl rfl rfl (fun w1 hE => ?_)
  exact ⟨rfl, hE.below⟩
end Go.Proofs.Ytcelmgkjkdbliaa.Snref
