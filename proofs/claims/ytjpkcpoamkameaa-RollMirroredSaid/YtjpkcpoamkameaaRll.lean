/-
  Package roll. Conditions: a configuration in order, a span with its ends in order, and sums that stay small.
-/
import Derived.Test.YtjpkcpoamkameaaRlm
import Derived.Test.YtjpkcpoamkameaaSpo
import Derived.Test.YtjpkcpoamkameaaSk
import Derived.Test.YtjpkcpoamkameaaSmu
namespace Go.Proofs.Ytjpkcpoamkameaa.Rll
open Go.ChangeShapes Go.WideShapes Go.ChangeAt Go.RowKit
open Arr Steady Sx Sw Sl Sb Sb Sc Si Sk Smu Vs Gr Tk Tkh Tkl Cf Rlm
set_option linter.unusedVariables false
set_option linter.unusedSimpArgs false
set_option maxRecDepth 100000

theorem told_yes {r : Bool} {X Y : Int} (hr : r = true) (h1 : -9223372036854775808 ≤ X) (h2 : X ≤ Y) (h3 : Y ≤ 9223372036854775807) : Spo.tB r X Y = true := by
  have f1 : Num.Fits X := by unfold Num.Fits; omega
  have f2 : Num.Fits Y := by unfold Num.Fits; omega
  unfold Spo.tB Spo.fitB
  rw [hr, decide_eq_true f1, decide_eq_true f2, decide_eq_true h2]; rfl
set_option maxHeartbeats 2000000 in
theorem beyond_up (P Q f : Int) (w : World) (h1 : 0 ≤ f) (h2 : f ≤ 1073741824) (h3 : f < P) :
    Calls Try.prog 14 #[.agg #[.int .i64 P, .int .i64 Q], .int .i64 f] w fun e w' => e = .returned (.bool true) ∧ Below w.heap.size w w' := by
  refine calls_sx Try.func14 rfl ?_
  simp only [Try.ntmps14, List.size_toArray, List.length_cons, List.length_nil, Nat.reduceAdd, Nat.reduceSub, Array.replicate_succ, Array.replicate_zero, List.push_toArray, List.append_toArray, List.nil_append, List.cons_append]
  refine wc_seq ?_
  refine wc_region ?_
  refine wl_new 29 (#[.int .i64 P, .int .i64 Q]) rfl (fun _ => by go_simp) ?_
  intro g1
  simp only [Act.put, Xa, Xz, Xs]
  refine wl_val (.bool false) rfl (fun _ => rfl) ?_
  simp only [Act.put, Xa, Xz, Xs]
  refine wl_nil ?_
  refine we_then ?_
  refine wc_seq ?_
  refine wc_region ?_
  refine wl_val (.pointer (some ⟨g1, 0, none⟩)) rfl (fun _ => by go_simp) ?_
  simp only [Act.put, Xa, Xz, Xs]
  refine wl_cell 2 (.tmp 5) (.int .i64 P) (own_row 0 rfl) rfl rfl rfl rfl Try.isAgg2 ?_
  simp only [Act.put, Xa, Xz, Xs]
  refine wl_val (.int .i64 f) rfl (fun _ => rfl) ?_
  simp only [Act.put, Xa, Xz, Xs]
  refine wl_val (.bool (decide (f < P))) rfl (fun w => run_cmp rfl rfl rfl Try.underlying2 rfl w) ?_
  simp only [Act.put, Xa, Xz, Xs]
  refine wl_val (.bool (decide (f < P))) rfl (fun _ => rfl) ?_
  simp only [Act.put, Xa, Xz, Xs]
  cases h2 : (decide (f < P))
  · skip
    have p2 : ¬ (f < P) := of_decide_eq_false h2
    exact (by exfalso; omega)
  · skip
    have p2 : f < P := of_decide_eq_true h2
    refine wl_skip rfl ?_
    simp only [Act.put, Xa, Xz, Xs]
    refine wl_skip rfl ?_
    simp only [Act.put, Xa, Xz, Xs]
    refine wl_skip rfl ?_
    simp only [Act.put, Xa, Xz, Xs]
    refine wl_skip rfl ?_
    simp only [Act.put, Xa, Xz, Xs]
    refine wl_skip rfl ?_
    simp only [Act.put, Xa, Xz, Xs]
    refine wl_val (.bool true) rfl (fun _ => rfl) ?_
    simp only [Act.put, Xa, Xz, Xs]
    refine wl_val (.bool true) rfl (fun _ => rfl) ?_
    simp only [Act.put, Xa, Xz, Xs]
    refine wl_nil ?_
    refine we_then ?_
    refine wc_ret ?_
    refine we_ret1 (.bool true) rfl rfl rfl (fun w1 hE => ?_)
    exact ⟨rfl, hE.below⟩
set_option maxHeartbeats 2000000 in
theorem beyond_down (P Q f : Int) (w : World) (h1 : 0 ≤ f) (h2 : f ≤ 1073741824) (h3 : ¬ f < P) :
    Calls Try.prog 14 #[.agg #[.int .i64 P, .int .i64 Q], .int .i64 f] w fun e w' => e = .returned (.bool (decide (Q < -f))) ∧ Below w.heap.size w w' := by
  refine calls_sx Try.func14 rfl ?_
  simp only [Try.ntmps14, List.size_toArray, List.length_cons, List.length_nil, Nat.reduceAdd, Nat.reduceSub, Array.replicate_succ, Array.replicate_zero, List.push_toArray, List.append_toArray, List.nil_append, List.cons_append]
  refine wc_seq ?_
  refine wc_region ?_
  refine wl_new 29 (#[.int .i64 P, .int .i64 Q]) rfl (fun _ => by go_simp) ?_
  intro g1
  simp only [Act.put, Xa, Xz, Xs]
  refine wl_val (.bool false) rfl (fun _ => rfl) ?_
  simp only [Act.put, Xa, Xz, Xs]
  refine wl_nil ?_
  refine we_then ?_
  refine wc_seq ?_
  refine wc_region ?_
  refine wl_val (.pointer (some ⟨g1, 0, none⟩)) rfl (fun _ => by go_simp) ?_
  simp only [Act.put, Xa, Xz, Xs]
  refine wl_cell 2 (.tmp 5) (.int .i64 P) (own_row 0 rfl) rfl rfl rfl rfl Try.isAgg2 ?_
  simp only [Act.put, Xa, Xz, Xs]
  refine wl_val (.int .i64 f) rfl (fun _ => rfl) ?_
  simp only [Act.put, Xa, Xz, Xs]
  refine wl_val (.bool (decide (f < P))) rfl (fun w => run_cmp rfl rfl rfl Try.underlying2 rfl w) ?_
  simp only [Act.put, Xa, Xz, Xs]
  refine wl_val (.bool (decide (f < P))) rfl (fun _ => rfl) ?_
  simp only [Act.put, Xa, Xz, Xs]
  cases h2 : (decide (f < P))
  · skip
    have p2 : ¬ (f < P) := of_decide_eq_false h2
    refine wl_val (.pointer (some ⟨g1, 1, none⟩)) rfl (fun _ => by go_simp) ?_
    simp only [Act.put, Xa, Xz, Xs]
    refine wl_cell 2 (.tmp 10) (.int .i64 Q) (own_row 0 rfl) rfl rfl rfl rfl Try.isAgg2 ?_
    simp only [Act.put, Xa, Xz, Xs]
    refine wl_val (.int .i64 f) rfl (fun _ => rfl) ?_
    simp only [Act.put, Xa, Xz, Xs]
    refine wl_val (.int .i64 (-f)) rfl (fun w => run_neg rfl rfl Try.underlying2 (i64_in (by omega) (by omega)) w) ?_
    simp only [Act.put, Xa, Xz, Xs]
    refine wl_val (.bool (decide (Q < (-f)))) rfl (fun w => run_cmp rfl rfl rfl Try.underlying2 rfl w) ?_
    simp only [Act.put, Xa, Xz, Xs]
    refine wl_val (.bool (decide (Q < (-f)))) rfl (fun _ => rfl) ?_
    simp only [Act.put, Xa, Xz, Xs]
    refine wl_val (.bool (decide (Q < (-f)))) rfl (fun _ => rfl) ?_
    simp only [Act.put, Xa, Xz, Xs]
    refine wl_nil ?_
    refine we_then ?_
    refine wc_ret ?_
    refine we_ret1 (.bool (decide (Q < (-f)))) rfl rfl rfl (fun w1 hE => ?_)
    exact ⟨rfl, hE.below⟩
  · skip
    have p2 : f < P := of_decide_eq_true h2
    exact (by exfalso; omega)
theorem beyond_any (P Q f : Int) (w : World) (h1 : 0 ≤ f) (h2 : f ≤ 1073741824) :
    Calls Try.prog 14 #[.agg #[.int .i64 P, .int .i64 Q], .int .i64 f] w fun e w' => e = .returned (.bool (decide (f < P) || decide (Q < -f))) ∧ Below w.heap.size w w' := by
  by_cases k : f < P
  · rw [decide_eq_true k, Bool.true_or]; exact beyond_up P Q f w h1 h2 k
  · rw [decide_eq_false k, Bool.false_or]; exact beyond_down P Q f w h1 h2 k
set_option maxHeartbeats 2000000 in
theorem next_cmd (c : Cf) (an on st : Bool) (lo hi a b : Int) (w : World) :
    Calls Try.prog 9 #[.agg #[.bool an, .bool on, .int .i64 lo, .int .i64 hi], .agg #[.int .i64 c.pu, .int .i64 c.lo, .int .i64 c.hi, .int .i64 c.rb, .int .i64 c.rp, .int .i64 c.ae, .int .i64 c.ms, .int .i64 c.ma, .int .i64 c.an, .int .i64 c.st, .int .i64 c.ss, .int .i64 c.ro, .int .i64 c.ti, .int .i64 c.br], .bool st, .bool true, .agg #[.int .i64 a, .int .i64 b]] w fun e w' => e = .returned (.agg #[.bool false, .bool false, .int .i64 0, .int .i64 0]) ∧ Below w.heap.size w w' := by
  refine calls_sx Try.func9 rfl ?_
  simp only [Try.ntmps9, List.size_toArray, List.length_cons, List.length_nil, Nat.reduceAdd, Nat.reduceSub, Array.replicate_succ, Array.replicate_zero, List.push_toArray, List.append_toArray, List.nil_append, List.cons_append]
  refine wc_seq ?_
  refine wc_region ?_
  refine wl_new 31 (#[.bool an, .bool on, .int .i64 lo, .int .i64 hi]) rfl (fun _ => by go_simp) ?_
  intro g1
  simp only [Act.put, Xa, Xz, Xs]
  refine wl_new 23 (#[.int .i64 c.pu, .int .i64 c.lo, .int .i64 c.hi, .int .i64 c.rb, .int .i64 c.rp, .int .i64 c.ae, .int .i64 c.ms, .int .i64 c.ma, .int .i64 c.an, .int .i64 c.st, .int .i64 c.ss, .int .i64 c.ro, .int .i64 c.ti, .int .i64 c.br]) rfl (fun _ => by go_simp) ?_
  intro g2
  simp only [Act.put, Xa, Xz, Xs]
  refine wl_new 29 (#[.int .i64 a, .int .i64 b]) rfl (fun _ => by go_simp) ?_
  intro g3
  simp only [Act.put, Xa, Xz, Xs]
  refine wl_new 31 (#[.bool false, .bool false, .int .i64 0, .int .i64 0]) rfl (fun _ => by go_simp) ?_
  intro g4
  simp only [Act.put, Xa, Xz, Xs]
  refine wl_nil ?_
  refine we_then ?_
  refine wc_seq ?_
  refine wc_seq ?_
  refine wc_region ?_
  refine wl_val (.bool true) rfl (fun _ => rfl) ?_
  simp only [Act.put, Xa, Xz, Xs]
  refine wl_nil ?_
  refine we_then ?_
  refine wc_true rfl ?_
  refine wc_seq ?_
  refine wc_region ?_
  refine wl_val (.agg #[.bool false, .bool false, .int .i64 0, .int .i64 0]) rfl (fun _ => by go_simp) ?_
  simp only [Act.put, Xa, Xz, Xs]
  refine wl_store 0 31 (.tmp 10) (.tmp 14) (#[.bool false, .bool false, .int .i64 0, .int .i64 0]) rfl rfl rfl rfl rfl (by kernel_rfl) rfl (by simp [Value.oneCell']) ?_
  simp only [Act.put, List.set_cons_zero]
  refine wl_nil ?_
  refine we_then ?_
  refine wc_ret ?_
  refine we_then_ret ?_
  refine we_ret_cell (own_row 0 rfl) rfl rfl rfl Try.underlying31 rfl (by kernel_rfl) (fun w1 hE => ?_)
  exact ⟨rfl, hE.below⟩
set_option maxHeartbeats 2000000 in
theorem next_new (c : Cf) (an on st : Bool) (lo hi a b : Int) (w : World) :
    Calls Try.prog 9 #[.agg #[.bool false, .bool on, .int .i64 lo, .int .i64 hi], .agg #[.int .i64 c.pu, .int .i64 c.lo, .int .i64 c.hi, .int .i64 c.rb, .int .i64 c.rp, .int .i64 c.ae, .int .i64 c.ms, .int .i64 c.ma, .int .i64 c.an, .int .i64 c.st, .int .i64 c.ss, .int .i64 c.ro, .int .i64 c.ti, .int .i64 c.br], .bool st, .bool false, .agg #[.int .i64 a, .int .i64 b]] w fun e w' => e = .returned (.agg #[.bool st, .bool false, .int .i64 0, .int .i64 0]) ∧ Below w.heap.size w w' := by
  refine calls_sx Try.func9 rfl ?_
  simp only [Try.ntmps9, List.size_toArray, List.length_cons, List.length_nil, Nat.reduceAdd, Nat.reduceSub, Array.replicate_succ, Array.replicate_zero, List.push_toArray, List.append_toArray, List.nil_append, List.cons_append]
  refine wc_seq ?_
  refine wc_region ?_
  refine wl_new 31 (#[.bool false, .bool on, .int .i64 lo, .int .i64 hi]) rfl (fun _ => by go_simp) ?_
  intro g1
  simp only [Act.put, Xa, Xz, Xs]
  refine wl_new 23 (#[.int .i64 c.pu, .int .i64 c.lo, .int .i64 c.hi, .int .i64 c.rb, .int .i64 c.rp, .int .i64 c.ae, .int .i64 c.ms, .int .i64 c.ma, .int .i64 c.an, .int .i64 c.st, .int .i64 c.ss, .int .i64 c.ro, .int .i64 c.ti, .int .i64 c.br]) rfl (fun _ => by go_simp) ?_
  intro g2
  simp only [Act.put, Xa, Xz, Xs]
  refine wl_new 29 (#[.int .i64 a, .int .i64 b]) rfl (fun _ => by go_simp) ?_
  intro g3
  simp only [Act.put, Xa, Xz, Xs]
  refine wl_new 31 (#[.bool false, .bool false, .int .i64 0, .int .i64 0]) rfl (fun _ => by go_simp) ?_
  intro g4
  simp only [Act.put, Xa, Xz, Xs]
  refine wl_nil ?_
  refine we_then ?_
  refine wc_seq ?_
  refine wc_seq ?_
  refine wc_region ?_
  refine wl_val (.bool false) rfl (fun _ => rfl) ?_
  simp only [Act.put, Xa, Xz, Xs]
  refine wl_nil ?_
  refine we_then ?_
  refine wc_false rfl ?_
  refine wc_skip ?_
  refine we_then ?_
  refine wc_seq ?_
  refine wc_seq ?_
  refine wc_region ?_
  refine wl_val (.pointer (some ⟨g1, 0, none⟩)) rfl (fun _ => by go_simp) ?_
  simp only [Act.put, Xa, Xz, Xs]
  refine wl_cell 4 (.tmp 15) (.bool false) (own_row 3 rfl) rfl rfl rfl rfl Try.isAgg4 ?_
  simp only [Act.put, Xa, Xz, Xs]
  refine wl_val (.bool true) rfl (fun _ => by go_simp) ?_
  simp only [Act.put, Xa, Xz, Xs]
  refine wl_nil ?_
  refine we_then ?_
  refine wc_true rfl ?_
  refine wc_seq ?_
  refine wc_region ?_
  refine wl_val (.bool st) rfl (fun _ => rfl) ?_
  simp only [Act.put, Xa, Xz, Xs]
  refine wl_val (.agg #[.bool st, .bool false, .int .i64 0, .int .i64 0]) rfl (fun _ => by go_simp) ?_
  simp only [Act.put, Xa, Xz, Xs]
  refine wl_store 0 31 (.tmp 10) (.tmp 19) (#[.bool st, .bool false, .int .i64 0, .int .i64 0]) rfl rfl rfl rfl rfl (by kernel_rfl) rfl (by simp [Value.oneCell']) ?_
  simp only [Act.put, List.set_cons_zero]
  refine wl_nil ?_
  refine we_then ?_
  refine wc_ret ?_
  refine we_then_ret ?_
  refine we_ret_cell (own_row 0 rfl) rfl rfl rfl Try.underlying31 rfl (by kernel_rfl) (fun w1 hE => ?_)
  exact ⟨rfl, hE.below⟩
set_option maxHeartbeats 2000000 in
theorem next_on (c : Cf) (an on st : Bool) (lo hi a b : Int) (P Q : Int) (z : Bool) (w : World) (c1 : ∀ W, Calls Try.prog 13 #[.agg #[.int .i64 lo, .int .i64 hi], .agg #[.int .i64 a, .int .i64 b]] W fun e w' => e = .returned (.tuple #[.agg #[.int .i64 P, .int .i64 Q], .bool true]) ∧ Below W.heap.size W w')
    (c2 : ∀ W, Calls Try.prog 14 #[.agg #[.int .i64 P, .int .i64 Q], .int .i64 c.ro] W fun e w' => e = .returned (.bool z) ∧ Below W.heap.size W w') :
    Calls Try.prog 9 #[.agg #[.bool true, .bool true, .int .i64 lo, .int .i64 hi], .agg #[.int .i64 c.pu, .int .i64 c.lo, .int .i64 c.hi, .int .i64 c.rb, .int .i64 c.rp, .int .i64 c.ae, .int .i64 c.ms, .int .i64 c.ma, .int .i64 c.an, .int .i64 c.st, .int .i64 c.ss, .int .i64 c.ro, .int .i64 c.ti, .int .i64 c.br], .bool st, .bool false, .agg #[.int .i64 a, .int .i64 b]] w fun e w' => e = .returned (.agg #[.bool true, .bool true, .int .i64 P, .int .i64 Q]) ∧ Below w.heap.size w w' := by
  refine calls_sx Try.func9 rfl ?_
  simp only [Try.ntmps9, List.size_toArray, List.length_cons, List.length_nil, Nat.reduceAdd, Nat.reduceSub, Array.replicate_succ, Array.replicate_zero, List.push_toArray, List.append_toArray, List.nil_append, List.cons_append]
  refine wc_seq ?_
  refine wc_region ?_
  refine wl_new 31 (#[.bool true, .bool true, .int .i64 lo, .int .i64 hi]) rfl (fun _ => by go_simp) ?_
  intro g1
  simp only [Act.put, Xa, Xz, Xs]
  refine wl_new 23 (#[.int .i64 c.pu, .int .i64 c.lo, .int .i64 c.hi, .int .i64 c.rb, .int .i64 c.rp, .int .i64 c.ae, .int .i64 c.ms, .int .i64 c.ma, .int .i64 c.an, .int .i64 c.st, .int .i64 c.ss, .int .i64 c.ro, .int .i64 c.ti, .int .i64 c.br]) rfl (fun _ => by go_simp) ?_
  intro g2
  simp only [Act.put, Xa, Xz, Xs]
  refine wl_new 29 (#[.int .i64 a, .int .i64 b]) rfl (fun _ => by go_simp) ?_
  intro g3
  simp only [Act.put, Xa, Xz, Xs]
  refine wl_new 31 (#[.bool false, .bool false, .int .i64 0, .int .i64 0]) rfl (fun _ => by go_simp) ?_
  intro g4
  simp only [Act.put, Xa, Xz, Xs]
  refine wl_nil ?_
  refine we_then ?_
  refine wc_seq ?_
  refine wc_seq ?_
  refine wc_region ?_
  refine wl_val (.bool false) rfl (fun _ => rfl) ?_
  simp only [Act.put, Xa, Xz, Xs]
  refine wl_nil ?_
  refine we_then ?_
  refine wc_false rfl ?_
  refine wc_skip ?_
  refine we_then ?_
  refine wc_seq ?_
  refine wc_seq ?_
  refine wc_region ?_
  refine wl_val (.pointer (some ⟨g1, 0, none⟩)) rfl (fun _ => by go_simp) ?_
  simp only [Act.put, Xa, Xz, Xs]
  refine wl_cell 4 (.tmp 15) (.bool true) (own_row 3 rfl) rfl rfl rfl rfl Try.isAgg4 ?_
  simp only [Act.put, Xa, Xz, Xs]
  refine wl_val (.bool false) rfl (fun _ => by go_simp) ?_
  simp only [Act.put, Xa, Xz, Xs]
  refine wl_nil ?_
  refine we_then ?_
  refine wc_false rfl ?_
  refine wc_skip ?_
  refine we_then ?_
  refine wc_seq ?_
  refine wc_seq ?_
  refine wc_region ?_
  refine wl_val (.pointer (some ⟨g1, 2, none⟩)) rfl (fun _ => by go_simp) ?_
  simp only [Act.put, Xa, Xz, Xs]
  refine wl_part 29 (.tmp 21) [.int .i64 lo, .int .i64 hi] (own_row 3 rfl) rfl rfl rfl rfl Try.underlying29 rfl (by kernel_rfl) ?_
  simp only [Act.put, Xa, Xz, Xs]
  refine wl_load 29 (.tmp 9) (own_row 1 rfl) rfl rfl rfl Try.underlying29 rfl (by kernel_rfl) ?_
  simp only [Act.put, Xa, Xz, Xs]
  refine wl_call 13 #[.agg #[.int .i64 lo, .int .i64 hi], .agg #[.int .i64 a, .int .i64 b]] (.tuple #[.agg #[.int .i64 P, .int .i64 Q], .bool true]) rfl (fun _ => by go_simp) (fun W => c1 W) ?_
  simp only [Act.put, Xa, Xz, Xs]
  refine wl_val (.tuple #[.agg #[.int .i64 P, .int .i64 Q], .bool true]) rfl (fun _ => rfl) ?_
  simp only [Act.put, Xa, Xz, Xs]
  refine wl_val (.agg #[.int .i64 P, .int .i64 Q]) rfl (fun _ => by go_simp) ?_
  simp only [Act.put, Xa, Xz, Xs]
  refine wl_val (.bool true) rfl (fun _ => by go_simp) ?_
  simp only [Act.put, Xa, Xz, Xs]
  refine wl_new 29 (#[.int .i64 0, .int .i64 0]) rfl (fun _ => by go_simp) ?_
  intro g5
  simp only [Act.put, Xa, Xz, Xs]
  refine wl_store 0 29 (.tmp 11) (.tmp 25) (#[.int .i64 P, .int .i64 Q]) rfl rfl rfl rfl rfl (by kernel_rfl) rfl (by simp [Value.oneCell']) ?_
  simp only [Act.put, List.set_cons_zero]
  refine wl_val (.bool true) rfl (fun _ => rfl) ?_
  simp only [Act.put, Xa, Xz, Xs]
  refine wl_nil ?_
  refine we_then ?_
  refine wc_seq ?_
  refine wc_region ?_
  refine wl_val (.bool true) rfl (fun _ => rfl) ?_
  simp only [Act.put, Xa, Xz, Xs]
  refine wl_nil ?_
  refine we_then ?_
  refine wc_true rfl ?_
  refine wc_region ?_
  refine wl_load 29 (.tmp 11) (own_row 0 rfl) rfl rfl rfl Try.underlying29 rfl (by kernel_rfl) ?_
  simp only [Act.put, Xa, Xz, Xs]
  refine wl_val (.pointer (some ⟨g1, 2, none⟩)) rfl (fun _ => by go_simp) ?_
  simp only [Act.put, Xa, Xz, Xs]
  refine wl_store_part 4 29 (.tmp 29) (.tmp 28) [.int .i64 P, .int .i64 Q] rfl rfl rfl rfl rfl (by kernel_rfl) (Nat.le_of_ble_eq_true rfl) (by simp [Value.oneCell']) ?_
  simp only [putAt, Nat.reduceAdd, Act.put, List.set_cons_zero, List.set_cons_succ]
  refine wl_nil ?_
  refine we_then ?_
  refine wc_seq ?_
  refine wc_region ?_
  refine wl_val (.pointer (some ⟨g1, 1, none⟩)) rfl (fun _ => by go_simp) ?_
  simp only [Act.put, Xa, Xz, Xs]
  refine wl_cell 4 (.tmp 30) (.bool true) (own_row 4 rfl) rfl rfl rfl rfl Try.isAgg4 ?_
  simp only [Act.put, Xa, Xz, Xs]
  refine wl_val (.bool true) rfl (fun _ => rfl) ?_
  simp only [Act.put, Xa, Xz, Xs]
  refine wl_skip rfl ?_
  simp only [Act.put, Xa, Xz, Xs]
  refine wl_skip rfl ?_
  simp only [Act.put, Xa, Xz, Xs]
  refine wl_skip rfl ?_
  simp only [Act.put, Xa, Xz, Xs]
  refine wl_skip rfl ?_
  simp only [Act.put, Xa, Xz, Xs]
  refine wl_skip rfl ?_
  simp only [Act.put, Xa, Xz, Xs]
  refine wl_val (.bool true) rfl (fun _ => rfl) ?_
  simp only [Act.put, Xa, Xz, Xs]
  refine wl_val (.pointer (some ⟨g1, 1, none⟩)) rfl (fun _ => by go_simp) ?_
  simp only [Act.put, Xa, Xz, Xs]
  refine wl_store_cell 4 4 (.tmp 39) (.tmp 38) (.bool true) (.bool true) rfl rfl rfl rfl rfl rfl (by kernel_rfl) rfl ?_
  simp only [Act.put, List.set_cons_zero, List.set_cons_succ]
  refine wl_nil ?_
  refine we_then ?_
  refine wc_seq ?_
  refine wc_region ?_
  refine wl_load 31 (.tmp 5) (own_row 4 rfl) rfl rfl rfl Try.underlying31 rfl (by kernel_rfl) ?_
  simp only [Act.put, Xa, Xz, Xs]
  refine wl_store 1 31 (.tmp 10) (.tmp 40) (#[.bool true, .bool true, .int .i64 P, .int .i64 Q]) rfl rfl rfl rfl rfl (by kernel_rfl) rfl (by simp [Value.oneCell']) ?_
  simp only [Act.put, List.set_cons_zero, List.set_cons_succ]
  refine wl_nil ?_
  refine we_then ?_
  refine wc_ret ?_
  refine we_ret_cell (own_row 1 rfl) rfl rfl rfl Try.underlying31 rfl (by kernel_rfl) (fun w1 hE => ?_)
  exact ⟨rfl, hE.below⟩
set_option maxHeartbeats 2000000 in
theorem next_off (c : Cf) (an on st : Bool) (lo hi a b : Int) (P Q : Int) (z : Bool) (w : World) (c1 : ∀ W, Calls Try.prog 13 #[.agg #[.int .i64 lo, .int .i64 hi], .agg #[.int .i64 a, .int .i64 b]] W fun e w' => e = .returned (.tuple #[.agg #[.int .i64 P, .int .i64 Q], .bool true]) ∧ Below W.heap.size W w')
    (c2 : ∀ W, Calls Try.prog 14 #[.agg #[.int .i64 P, .int .i64 Q], .int .i64 c.ro] W fun e w' => e = .returned (.bool z) ∧ Below W.heap.size W w') :
    Calls Try.prog 9 #[.agg #[.bool true, .bool false, .int .i64 lo, .int .i64 hi], .agg #[.int .i64 c.pu, .int .i64 c.lo, .int .i64 c.hi, .int .i64 c.rb, .int .i64 c.rp, .int .i64 c.ae, .int .i64 c.ms, .int .i64 c.ma, .int .i64 c.an, .int .i64 c.st, .int .i64 c.ss, .int .i64 c.ro, .int .i64 c.ti, .int .i64 c.br], .bool st, .bool false, .agg #[.int .i64 a, .int .i64 b]] w fun e w' => e = .returned (.agg #[.bool true, .bool z, .int .i64 P, .int .i64 Q]) ∧ Below w.heap.size w w' := by
  refine calls_sx Try.func9 rfl ?_
  simp only [Try.ntmps9, List.size_toArray, List.length_cons, List.length_nil, Nat.reduceAdd, Nat.reduceSub, Array.replicate_succ, Array.replicate_zero, List.push_toArray, List.append_toArray, List.nil_append, List.cons_append]
  refine wc_seq ?_
  refine wc_region ?_
  refine wl_new 31 (#[.bool true, .bool false, .int .i64 lo, .int .i64 hi]) rfl (fun _ => by go_simp) ?_
  intro g1
  simp only [Act.put, Xa, Xz, Xs]
  refine wl_new 23 (#[.int .i64 c.pu, .int .i64 c.lo, .int .i64 c.hi, .int .i64 c.rb, .int .i64 c.rp, .int .i64 c.ae, .int .i64 c.ms, .int .i64 c.ma, .int .i64 c.an, .int .i64 c.st, .int .i64 c.ss, .int .i64 c.ro, .int .i64 c.ti, .int .i64 c.br]) rfl (fun _ => by go_simp) ?_
  intro g2
  simp only [Act.put, Xa, Xz, Xs]
  refine wl_new 29 (#[.int .i64 a, .int .i64 b]) rfl (fun _ => by go_simp) ?_
  intro g3
  simp only [Act.put, Xa, Xz, Xs]
  refine wl_new 31 (#[.bool false, .bool false, .int .i64 0, .int .i64 0]) rfl (fun _ => by go_simp) ?_
  intro g4
  simp only [Act.put, Xa, Xz, Xs]
  refine wl_nil ?_
  refine we_then ?_
  refine wc_seq ?_
  refine wc_seq ?_
  refine wc_region ?_
  refine wl_val (.bool false) rfl (fun _ => rfl) ?_
  simp only [Act.put, Xa, Xz, Xs]
  refine wl_nil ?_
  refine we_then ?_
  refine wc_false rfl ?_
  refine wc_skip ?_
  refine we_then ?_
  refine wc_seq ?_
  refine wc_seq ?_
  refine wc_region ?_
  refine wl_val (.pointer (some ⟨g1, 0, none⟩)) rfl (fun _ => by go_simp) ?_
  simp only [Act.put, Xa, Xz, Xs]
  refine wl_cell 4 (.tmp 15) (.bool true) (own_row 3 rfl) rfl rfl rfl rfl Try.isAgg4 ?_
  simp only [Act.put, Xa, Xz, Xs]
  refine wl_val (.bool false) rfl (fun _ => by go_simp) ?_
  simp only [Act.put, Xa, Xz, Xs]
  refine wl_nil ?_
  refine we_then ?_
  refine wc_false rfl ?_
  refine wc_skip ?_
  refine we_then ?_
  refine wc_seq ?_
  refine wc_seq ?_
  refine wc_region ?_
  refine wl_val (.pointer (some ⟨g1, 2, none⟩)) rfl (fun _ => by go_simp) ?_
  simp only [Act.put, Xa, Xz, Xs]
  refine wl_part 29 (.tmp 21) [.int .i64 lo, .int .i64 hi] (own_row 3 rfl) rfl rfl rfl rfl Try.underlying29 rfl (by kernel_rfl) ?_
  simp only [Act.put, Xa, Xz, Xs]
  refine wl_load 29 (.tmp 9) (own_row 1 rfl) rfl rfl rfl Try.underlying29 rfl (by kernel_rfl) ?_
  simp only [Act.put, Xa, Xz, Xs]
  refine wl_call 13 #[.agg #[.int .i64 lo, .int .i64 hi], .agg #[.int .i64 a, .int .i64 b]] (.tuple #[.agg #[.int .i64 P, .int .i64 Q], .bool true]) rfl (fun _ => by go_simp) (fun W => c1 W) ?_
  simp only [Act.put, Xa, Xz, Xs]
  refine wl_val (.tuple #[.agg #[.int .i64 P, .int .i64 Q], .bool true]) rfl (fun _ => rfl) ?_
  simp only [Act.put, Xa, Xz, Xs]
  refine wl_val (.agg #[.int .i64 P, .int .i64 Q]) rfl (fun _ => by go_simp) ?_
  simp only [Act.put, Xa, Xz, Xs]
  refine wl_val (.bool true) rfl (fun _ => by go_simp) ?_
  simp only [Act.put, Xa, Xz, Xs]
  refine wl_new 29 (#[.int .i64 0, .int .i64 0]) rfl (fun _ => by go_simp) ?_
  intro g5
  simp only [Act.put, Xa, Xz, Xs]
  refine wl_store 0 29 (.tmp 11) (.tmp 25) (#[.int .i64 P, .int .i64 Q]) rfl rfl rfl rfl rfl (by kernel_rfl) rfl (by simp [Value.oneCell']) ?_
  simp only [Act.put, List.set_cons_zero]
  refine wl_val (.bool true) rfl (fun _ => rfl) ?_
  simp only [Act.put, Xa, Xz, Xs]
  refine wl_nil ?_
  refine we_then ?_
  refine wc_seq ?_
  refine wc_region ?_
  refine wl_val (.bool true) rfl (fun _ => rfl) ?_
  simp only [Act.put, Xa, Xz, Xs]
  refine wl_nil ?_
  refine we_then ?_
  refine wc_true rfl ?_
  refine wc_region ?_
  refine wl_load 29 (.tmp 11) (own_row 0 rfl) rfl rfl rfl Try.underlying29 rfl (by kernel_rfl) ?_
  simp only [Act.put, Xa, Xz, Xs]
  refine wl_val (.pointer (some ⟨g1, 2, none⟩)) rfl (fun _ => by go_simp) ?_
  simp only [Act.put, Xa, Xz, Xs]
  refine wl_store_part 4 29 (.tmp 29) (.tmp 28) [.int .i64 P, .int .i64 Q] rfl rfl rfl rfl rfl (by kernel_rfl) (Nat.le_of_ble_eq_true rfl) (by simp [Value.oneCell']) ?_
  simp only [putAt, Nat.reduceAdd, Act.put, List.set_cons_zero, List.set_cons_succ]
  refine wl_nil ?_
  refine we_then ?_
  refine wc_seq ?_
  refine wc_region ?_
  refine wl_val (.pointer (some ⟨g1, 1, none⟩)) rfl (fun _ => by go_simp) ?_
  simp only [Act.put, Xa, Xz, Xs]
  refine wl_cell 4 (.tmp 30) (.bool false) (own_row 4 rfl) rfl rfl rfl rfl Try.isAgg4 ?_
  simp only [Act.put, Xa, Xz, Xs]
  refine wl_val (.bool false) rfl (fun _ => rfl) ?_
  simp only [Act.put, Xa, Xz, Xs]
  refine wl_val (.pointer (some ⟨g1, 2, none⟩)) rfl (fun _ => by go_simp) ?_
  simp only [Act.put, Xa, Xz, Xs]
  refine wl_part 29 (.tmp 33) [.int .i64 P, .int .i64 Q] (own_row 4 rfl) rfl rfl rfl rfl Try.underlying29 rfl (by kernel_rfl) ?_
  simp only [Act.put, Xa, Xz, Xs]
  refine wl_val (.pointer (some ⟨g2, 11, none⟩)) rfl (fun _ => by go_simp) ?_
  simp only [Act.put, Xa, Xz, Xs]
  refine wl_cell 2 (.tmp 35) (.int .i64 c.ro) (own_row 3 rfl) rfl rfl rfl rfl Try.isAgg2 ?_
  simp only [Act.put, Xa, Xz, Xs]
  refine wl_call 14 #[.agg #[.int .i64 P, .int .i64 Q], .int .i64 c.ro] (.bool z) rfl (fun _ => by go_simp) (fun W => c2 W) ?_
  simp only [Act.put, Xa, Xz, Xs]
  refine wl_val (.bool z) rfl (fun _ => rfl) ?_
  simp only [Act.put, Xa, Xz, Xs]
  refine wl_val (.pointer (some ⟨g1, 1, none⟩)) rfl (fun _ => by go_simp) ?_
  simp only [Act.put, Xa, Xz, Xs]
  refine wl_store_cell 4 4 (.tmp 39) (.tmp 38) (.bool false) (.bool z) rfl rfl rfl rfl rfl rfl (by kernel_rfl) rfl ?_
  simp only [Act.put, List.set_cons_zero, List.set_cons_succ]
  refine wl_nil ?_
  refine we_then ?_
  refine wc_seq ?_
  refine wc_region ?_
  refine wl_load 31 (.tmp 5) (own_row 4 rfl) rfl rfl rfl Try.underlying31 rfl (by kernel_rfl) ?_
  simp only [Act.put, Xa, Xz, Xs]
  refine wl_store 1 31 (.tmp 10) (.tmp 40) (#[.bool true, .bool z, .int .i64 P, .int .i64 Q]) rfl rfl rfl rfl rfl (by kernel_rfl) rfl (by simp [Value.oneCell']) ?_
  simp only [Act.put, List.set_cons_zero, List.set_cons_succ]
  refine wl_nil ?_
  refine we_then ?_
  refine wc_ret ?_
  refine we_ret_cell (own_row 1 rfl) rfl rfl rfl Try.underlying31 rfl (by kernel_rfl) (fun w1 hE => ?_)
  exact ⟨rfl, hE.below⟩
theorem next_any (c : Cf) (r : Rl) (st cm : Bool) (a b : Int) (w : World) (hc : Ok c) (hn : Near r a b) :
    Calls Try.prog 9 #[.agg #[.bool r.an, .bool r.on, .int .i64 r.lo, .int .i64 r.hi], .agg #[.int .i64 c.pu, .int .i64 c.lo, .int .i64 c.hi, .int .i64 c.rb, .int .i64 c.rp, .int .i64 c.ae, .int .i64 c.ms, .int .i64 c.ma, .int .i64 c.an, .int .i64 c.st, .int .i64 c.ss, .int .i64 c.ro, .int .i64 c.ti, .int .i64 c.br], .bool st, .bool cm, .agg #[.int .i64 a, .int .i64 b]] w fun e w' => e = .returned (.agg #[.bool (nx c r st cm a b).an, .bool (nx c r st cm a b).on, .int .i64 (nx c r st cm a b).lo, .int .i64 (nx c r st cm a b).hi]) ∧ Below w.heap.size w w' := by
  obtain ⟨an, on, lo, hi⟩ := r
  have r1 : -4611686018427387904 ≤ lo := hn.r1
  have r2 : lo ≤ hi := hn.r2
  have r3 : hi ≤ 4611686018427387904 := hn.r3
  have a1 := hn.a1
  have a2 := hn.a2
  have a3 := hn.a3
  cases cm with
  | true => exact next_cmd c an on st lo hi a b w
  | false =>
    cases an with
    | false => exact next_new c false on st lo hi a b w
    | true =>
      have c1 : ∀ W, Calls Try.prog 13 #[.agg #[.int .i64 lo, .int .i64 hi], .agg #[.int .i64 a, .int .i64 b]] W fun e w' => e = .returned (.tuple #[.agg #[.int .i64 (lo + a), .int .i64 (hi + b)], .bool true]) ∧ Below W.heap.size W w' := by
        intro W
        have h := Spo.add_any lo hi a b W (by unfold Num.Fits; omega) (by unfold Num.Fits; omega) (by unfold Num.Fits; omega) (by unfold Num.Fits; omega)
        rw [told_yes (r := decide (lo ≤ hi) && decide (a ≤ b)) (X := lo + a) (Y := hi + b) (by rw [decide_eq_true (by omega), decide_eq_true (by omega)]; rfl) (by omega) (by omega) (by omega)] at h
        exact h
      have c2 : ∀ W, _ := fun W => beyond_any (lo + a) (hi + b) c.ro W hc.ro1 hc.ro2
      cases on with
      | true =>
        have k := next_on c true true st lo hi a b _ _ _ w c1 c2
        exact k
      | false =>
        have k := next_off c true false st lo hi a b _ _ _ w c1 c2
        exact k
end Go.Proofs.Ytjpkcpoamkameaa.Rll
