/-
  Package still. Conditions: a configuration in order, a span with its ends in order, a count from 0 to Still.
-/
import Derived.Test.YtbacblnbmdomaaaStm
import Derived.Test.YtbacblnbmdomaaaSpn
import Derived.Test.YtbacblnbmdomaaaSk
namespace Go.Proofs.Ytbacblnbmdomaaa.Stl
open Go.ChangeShapes Go.WideShapes Go.ChangeAt Go.RowKit
open Arr Steady Sx Sw Sl Sb Sb Sc Si Sj Sk Vs Gr Tk Tkh Tkl Cf Stm
set_option linter.unusedVariables false
set_option linter.unusedSimpArgs false
set_option maxRecDepth 100000

set_option maxHeartbeats 2000000 in
theorem slow_core (c : Cf) (a b : Int) (o : Bool) (w : World) (h1 : 0 ≤ c.ss) (h2 : c.ss ≤ 16777216)
    (c1 : ∀ W, Calls Try.prog 13 #[.agg #[.int .i64 a, .int .i64 b], .agg #[.int .i64 (-c.ss), .int .i64 c.ss]] W fun e w' => e = .returned (.bool o) ∧ Below W.heap.size W w') :
    Calls Try.prog 8 #[.agg #[.int .i64 c.pu, .int .i64 c.lo, .int .i64 c.hi, .int .i64 c.rb, .int .i64 c.rp, .int .i64 c.ae, .int .i64 c.ms, .int .i64 c.ma, .int .i64 c.an, .int .i64 c.st, .int .i64 c.ss, .int .i64 c.ro, .int .i64 c.ti, .int .i64 c.br], .agg #[.int .i64 a, .int .i64 b]] w fun e w' => e = .returned (.bool o) ∧ Below w.heap.size w w' := by
  refine calls_sx Try.func8 rfl ?_
  simp only [Try.ntmps8, List.size_toArray, List.length_cons, List.length_nil, Nat.reduceAdd, Nat.reduceSub, Array.replicate_succ, Array.replicate_zero, List.push_toArray, List.append_toArray, List.nil_append, List.cons_append]
  refine wc_seq ?_
  refine wc_region ?_
  refine wl_new 23 (#[.int .i64 c.pu, .int .i64 c.lo, .int .i64 c.hi, .int .i64 c.rb, .int .i64 c.rp, .int .i64 c.ae, .int .i64 c.ms, .int .i64 c.ma, .int .i64 c.an, .int .i64 c.st, .int .i64 c.ss, .int .i64 c.ro, .int .i64 c.ti, .int .i64 c.br]) rfl (fun _ => by go_simp) ?_
  intro g1
  simp only [Act.put, Xa, Xz, Xs]
  refine wl_new 31 (#[.int .i64 a, .int .i64 b]) rfl (fun _ => by go_simp) ?_
  intro g2
  simp only [Act.put, Xa, Xz, Xs]
  refine wl_val (.bool false) rfl (fun _ => rfl) ?_
  simp only [Act.put, Xa, Xz, Xs]
  refine wl_nil ?_
  refine we_then ?_
  refine wc_seq ?_
  refine wc_region ?_
  refine wl_load 31 (.tmp 3) (own_row 0 rfl) rfl rfl rfl Try.underlying31 rfl (by kernel_rfl) ?_
  simp only [Act.put, Xa, Xz, Xs]
  refine wl_val (.pointer (some ⟨g1, 10, none⟩)) rfl (fun _ => by go_simp) ?_
  simp only [Act.put, Xa, Xz, Xs]
  refine wl_cell 2 (.tmp 6) (.int .i64 c.ss) (own_row 1 rfl) rfl rfl rfl rfl Try.isAgg2 ?_
  simp only [Act.put, Xa, Xz, Xs]
  refine wl_val (.int .i64 (-c.ss)) rfl (fun w => run_neg rfl rfl Try.underlying2 (i64_in (by omega) (by omega)) w) ?_
  simp only [Act.put, Xa, Xz, Xs]
  refine wl_val (.pointer (some ⟨g1, 10, none⟩)) rfl (fun _ => by go_simp) ?_
  simp only [Act.put, Xa, Xz, Xs]
  refine wl_cell 2 (.tmp 9) (.int .i64 c.ss) (own_row 1 rfl) rfl rfl rfl rfl Try.isAgg2 ?_
  simp only [Act.put, Xa, Xz, Xs]
  refine wl_val (.agg #[.int .i64 (-c.ss), .int .i64 c.ss]) rfl (fun _ => by go_simp) ?_
  simp only [Act.put, Xa, Xz, Xs]
  refine wl_call 13 #[.agg #[.int .i64 a, .int .i64 b], .agg #[.int .i64 (-c.ss), .int .i64 c.ss]] (.bool o) rfl (fun _ => by go_simp) (fun W => c1 W) ?_
  simp only [Act.put, Xa, Xz, Xs]
  refine wl_val (.bool o) rfl (fun _ => rfl) ?_
  simp only [Act.put, Xa, Xz, Xs]
  refine wl_nil ?_
  refine we_then ?_
  refine wc_ret ?_
  refine we_ret1 (.bool o) rfl rfl rfl (fun w1 hE => ?_)
  exact ⟨rfl, hE.below⟩
theorem slow_any (c : Cf) (a b : Int) (w : World) (hc : Ok c) (h : a ≤ b) :
    Calls Try.prog 8 #[.agg #[.int .i64 c.pu, .int .i64 c.lo, .int .i64 c.hi, .int .i64 c.rb, .int .i64 c.rp, .int .i64 c.ae, .int .i64 c.ms, .int .i64 c.ma, .int .i64 c.an, .int .i64 c.st, .int .i64 c.ss, .int .i64 c.ro, .int .i64 c.ti, .int .i64 c.br], .agg #[.int .i64 a, .int .i64 b]] w fun e w' => e = .returned (.bool (slowB c a b)) ∧ Below w.heap.size w w' := by
  have k := slow_core c a b _ w (by have := hc.ss2; have := hc.rb1; omega) hc.ss3 (fun W => Spn.in_any a b (-c.ss) c.ss W)
  have e : (!decide (a ≤ b) || decide (-c.ss ≤ a) && decide (b ≤ c.ss)) = slowB c a b := by
    rw [decide_eq_true h, Bool.not_true, Bool.false_or]
    by_cases k1 : -c.ss ≤ a
    · by_cases k2 : b ≤ c.ss
      · rw [decide_eq_true k1, decide_eq_true k2, slow_yes ⟨k1, k2⟩]; rfl
      · rw [decide_eq_false k2, Bool.and_false, slow_no (fun x => k2 x.2)]
    · rw [decide_eq_false k1, Bool.false_and, slow_no (fun x => k1 x.1)]
  rw [e] at k
  exact k
set_option maxHeartbeats 2000000 in
theorem next_off (c : Cf) (n : Int) (o : Bool) (a b f : Int) (w : World) (h0 : 0 ≤ n) (h1 : n ≤ c.st) (h2 : 1 ≤ c.st) (h3 : c.st ≤ 1000) 
    (c1 : ∀ W, Calls Try.prog 8 #[.agg #[.int .i64 c.pu, .int .i64 c.lo, .int .i64 c.hi, .int .i64 c.rb, .int .i64 c.rp, .int .i64 c.ae, .int .i64 c.ms, .int .i64 c.ma, .int .i64 c.an, .int .i64 c.st, .int .i64 c.ss, .int .i64 c.ro, .int .i64 c.ti, .int .i64 c.br], .agg #[.int .i64 a, .int .i64 b]] W fun e w' => e = .returned (.bool false) ∧ Below W.heap.size W w') :
    Calls Try.prog 9 #[.agg #[.int .i64 n, .bool o], .agg #[.int .i64 c.pu, .int .i64 c.lo, .int .i64 c.hi, .int .i64 c.rb, .int .i64 c.rp, .int .i64 c.ae, .int .i64 c.ms, .int .i64 c.ma, .int .i64 c.an, .int .i64 c.st, .int .i64 c.ss, .int .i64 c.ro, .int .i64 c.ti, .int .i64 c.br], .agg #[.int .i64 a, .int .i64 b], .int .i64 f] w fun e w' => e = .returned (.agg #[.int .i64 0, .bool false]) ∧ Below w.heap.size w w' := by
  refine calls_sx Try.func9 rfl ?_
  simp only [Try.ntmps9, List.size_toArray, List.length_cons, List.length_nil, Nat.reduceAdd, Nat.reduceSub, Array.replicate_succ, Array.replicate_zero, List.push_toArray, List.append_toArray, List.nil_append, List.cons_append]
  refine wc_seq ?_
  refine wc_region ?_
  refine wl_new 29 (#[.int .i64 n, .bool o]) rfl (fun _ => by go_simp) ?_
  intro g1
  simp only [Act.put, Xa, Xz, Xs]
  refine wl_new 23 (#[.int .i64 c.pu, .int .i64 c.lo, .int .i64 c.hi, .int .i64 c.rb, .int .i64 c.rp, .int .i64 c.ae, .int .i64 c.ms, .int .i64 c.ma, .int .i64 c.an, .int .i64 c.st, .int .i64 c.ss, .int .i64 c.ro, .int .i64 c.ti, .int .i64 c.br]) rfl (fun _ => by go_simp) ?_
  intro g2
  simp only [Act.put, Xa, Xz, Xs]
  refine wl_new 31 (#[.int .i64 a, .int .i64 b]) rfl (fun _ => by go_simp) ?_
  intro g3
  simp only [Act.put, Xa, Xz, Xs]
  refine wl_new 29 (#[.int .i64 0, .bool false]) rfl (fun _ => by go_simp) ?_
  intro g4
  simp only [Act.put, Xa, Xz, Xs]
  refine wl_nil ?_
  refine we_then ?_
  refine wc_seq ?_
  refine wc_seq ?_
  refine wc_region ?_
  refine wl_val (.int .i64 f) rfl (fun _ => rfl) ?_
  simp only [Act.put, Xa, Xz, Xs]
  refine wl_val (.bool (decide (f < 1))) rfl (fun w => run_cmp rfl rfl rfl Try.underlying3 rfl w) ?_
  simp only [Act.put, Xa, Xz, Xs]
  refine wl_val (.bool (decide (f < 1))) rfl (fun _ => rfl) ?_
  simp only [Act.put, Xa, Xz, Xs]
  cases h5 : (decide (f < 1))
  · skip
    have p5 : ¬ (f < 1) := of_decide_eq_false h5
    refine wl_load 23 (.tmp 5) (own_row 2 rfl) rfl rfl rfl Try.underlying23 rfl (by kernel_rfl) ?_
    simp only [Act.put, Xa, Xz, Xs]
    refine wl_load 31 (.tmp 6) (own_row 1 rfl) rfl rfl rfl Try.underlying31 rfl (by kernel_rfl) ?_
    simp only [Act.put, Xa, Xz, Xs]
    refine wl_call 8 #[.agg #[.int .i64 c.pu, .int .i64 c.lo, .int .i64 c.hi, .int .i64 c.rb, .int .i64 c.rp, .int .i64 c.ae, .int .i64 c.ms, .int .i64 c.ma, .int .i64 c.an, .int .i64 c.st, .int .i64 c.ss, .int .i64 c.ro, .int .i64 c.ti, .int .i64 c.br], .agg #[.int .i64 a, .int .i64 b]] (.bool false) rfl (fun _ => by go_simp) (fun W => c1 W) ?_
    simp only [Act.put, Xa, Xz, Xs]
    refine wl_val (.bool true) rfl (fun _ => by go_simp) ?_
    simp only [Act.put, Xa, Xz, Xs]
    refine wl_val (.bool true) rfl (fun _ => rfl) ?_
    simp only [Act.put, Xa, Xz, Xs]
    refine wl_nil ?_
    refine we_then ?_
    refine wc_true rfl ?_
    refine wc_seq ?_
    refine wc_region ?_
    refine wl_val (.agg #[.int .i64 0, .bool false]) rfl (fun _ => by go_simp) ?_
    simp only [Act.put, Xa, Xz, Xs]
    refine wl_store 0 29 (.tmp 8) (.tmp 18) (#[.int .i64 0, .bool false]) rfl rfl rfl rfl rfl (by kernel_rfl) rfl (by simp [Value.oneCell']) ?_
    simp only [Act.put, List.set_cons_zero]
    refine wl_nil ?_
    refine we_then ?_
    refine wc_ret ?_
    refine we_then_ret ?_
    refine we_ret_cell (own_row 0 rfl) rfl rfl rfl Try.underlying29 rfl (by kernel_rfl) (fun w1 hE => ?_)
    exact ⟨rfl, hE.below⟩
  · skip
    have p5 : f < 1 := of_decide_eq_true h5
    refine wl_skip rfl ?_
    simp only [Act.put, Xa, Xz, Xs]
    refine wl_skip rfl ?_
    simp only [Act.put, Xa, Xz, Xs]
    refine wl_skip rfl ?_
    simp only [Act.put, Xa, Xz, Xs]
    refine wl_skip rfl ?_
    simp only [Act.put, Xa, Xz, Xs]
    refine wl_val (.bool true) rfl (fun _ => rfl) ?_
    simp only [Act.put, Xa, Xz, Xs]
    refine wl_nil ?_
    refine we_then ?_
    refine wc_true rfl ?_
    refine wc_seq ?_
    refine wc_region ?_
    refine wl_val (.agg #[.int .i64 0, .bool false]) rfl (fun _ => by go_simp) ?_
    simp only [Act.put, Xa, Xz, Xs]
    refine wl_store 0 29 (.tmp 8) (.tmp 18) (#[.int .i64 0, .bool false]) rfl rfl rfl rfl rfl (by kernel_rfl) rfl (by simp [Value.oneCell']) ?_
    simp only [Act.put, List.set_cons_zero]
    refine wl_nil ?_
    refine we_then ?_
    refine wc_ret ?_
    refine we_then_ret ?_
    refine we_ret_cell (own_row 0 rfl) rfl rfl rfl Try.underlying29 rfl (by kernel_rfl) (fun w1 hE => ?_)
    exact ⟨rfl, hE.below⟩
set_option maxHeartbeats 2000000 in
theorem next_few (c : Cf) (n : Int) (o : Bool) (a b f : Int) (w : World) (h0 : 0 ≤ n) (h1 : n ≤ c.st) (h2 : 1 ≤ c.st) (h3 : c.st ≤ 1000) (h4 : f < 1)
    (c1 : ∀ W, Calls Try.prog 8 #[.agg #[.int .i64 c.pu, .int .i64 c.lo, .int .i64 c.hi, .int .i64 c.rb, .int .i64 c.rp, .int .i64 c.ae, .int .i64 c.ms, .int .i64 c.ma, .int .i64 c.an, .int .i64 c.st, .int .i64 c.ss, .int .i64 c.ro, .int .i64 c.ti, .int .i64 c.br], .agg #[.int .i64 a, .int .i64 b]] W fun e w' => e = .returned (.bool true) ∧ Below W.heap.size W w') :
    Calls Try.prog 9 #[.agg #[.int .i64 n, .bool o], .agg #[.int .i64 c.pu, .int .i64 c.lo, .int .i64 c.hi, .int .i64 c.rb, .int .i64 c.rp, .int .i64 c.ae, .int .i64 c.ms, .int .i64 c.ma, .int .i64 c.an, .int .i64 c.st, .int .i64 c.ss, .int .i64 c.ro, .int .i64 c.ti, .int .i64 c.br], .agg #[.int .i64 a, .int .i64 b], .int .i64 f] w fun e w' => e = .returned (.agg #[.int .i64 0, .bool false]) ∧ Below w.heap.size w w' := by
  refine calls_sx Try.func9 rfl ?_
  simp only [Try.ntmps9, List.size_toArray, List.length_cons, List.length_nil, Nat.reduceAdd, Nat.reduceSub, Array.replicate_succ, Array.replicate_zero, List.push_toArray, List.append_toArray, List.nil_append, List.cons_append]
  refine wc_seq ?_
  refine wc_region ?_
  refine wl_new 29 (#[.int .i64 n, .bool o]) rfl (fun _ => by go_simp) ?_
  intro g1
  simp only [Act.put, Xa, Xz, Xs]
  refine wl_new 23 (#[.int .i64 c.pu, .int .i64 c.lo, .int .i64 c.hi, .int .i64 c.rb, .int .i64 c.rp, .int .i64 c.ae, .int .i64 c.ms, .int .i64 c.ma, .int .i64 c.an, .int .i64 c.st, .int .i64 c.ss, .int .i64 c.ro, .int .i64 c.ti, .int .i64 c.br]) rfl (fun _ => by go_simp) ?_
  intro g2
  simp only [Act.put, Xa, Xz, Xs]
  refine wl_new 31 (#[.int .i64 a, .int .i64 b]) rfl (fun _ => by go_simp) ?_
  intro g3
  simp only [Act.put, Xa, Xz, Xs]
  refine wl_new 29 (#[.int .i64 0, .bool false]) rfl (fun _ => by go_simp) ?_
  intro g4
  simp only [Act.put, Xa, Xz, Xs]
  refine wl_nil ?_
  refine we_then ?_
  refine wc_seq ?_
  refine wc_seq ?_
  refine wc_region ?_
  refine wl_val (.int .i64 f) rfl (fun _ => rfl) ?_
  simp only [Act.put, Xa, Xz, Xs]
  refine wl_val (.bool (decide (f < 1))) rfl (fun w => run_cmp rfl rfl rfl Try.underlying3 rfl w) ?_
  simp only [Act.put, Xa, Xz, Xs]
  refine wl_val (.bool (decide (f < 1))) rfl (fun _ => rfl) ?_
  simp only [Act.put, Xa, Xz, Xs]
  cases h5 : (decide (f < 1))
  · skip
    have p5 : ¬ (f < 1) := of_decide_eq_false h5
    exact (by exfalso; omega)
  · skip
    have p5 : f < 1 := of_decide_eq_true h5
    refine wl_skip rfl ?_
    simp only [Act.put, Xa, Xz, Xs]
    refine wl_skip rfl ?_
    simp only [Act.put, Xa, Xz, Xs]
    refine wl_skip rfl ?_
    simp only [Act.put, Xa, Xz, Xs]
    refine wl_skip rfl ?_
    simp only [Act.put, Xa, Xz, Xs]
    refine wl_val (.bool true) rfl (fun _ => rfl) ?_
    simp only [Act.put, Xa, Xz, Xs]
    refine wl_nil ?_
    refine we_then ?_
    refine wc_true rfl ?_
    refine wc_seq ?_
    refine wc_region ?_
    refine wl_val (.agg #[.int .i64 0, .bool false]) rfl (fun _ => by go_simp) ?_
    simp only [Act.put, Xa, Xz, Xs]
    refine wl_store 0 29 (.tmp 8) (.tmp 18) (#[.int .i64 0, .bool false]) rfl rfl rfl rfl rfl (by kernel_rfl) rfl (by simp [Value.oneCell']) ?_
    simp only [Act.put, List.set_cons_zero]
    refine wl_nil ?_
    refine we_then ?_
    refine wc_ret ?_
    refine we_then_ret ?_
    refine we_ret_cell (own_row 0 rfl) rfl rfl rfl Try.underlying29 rfl (by kernel_rfl) (fun w1 hE => ?_)
    exact ⟨rfl, hE.below⟩
set_option maxHeartbeats 2000000 in
theorem next_on (c : Cf) (n : Int) (o : Bool) (a b f : Int) (w : World) (h0 : 0 ≤ n) (h1 : n ≤ c.st) (h2 : 1 ≤ c.st) (h3 : c.st ≤ 1000) (h4 : 1 ≤ f)
    (c1 : ∀ W, Calls Try.prog 8 #[.agg #[.int .i64 c.pu, .int .i64 c.lo, .int .i64 c.hi, .int .i64 c.rb, .int .i64 c.rp, .int .i64 c.ae, .int .i64 c.ms, .int .i64 c.ma, .int .i64 c.an, .int .i64 c.st, .int .i64 c.ss, .int .i64 c.ro, .int .i64 c.ti, .int .i64 c.br], .agg #[.int .i64 a, .int .i64 b]] W fun e w' => e = .returned (.bool true) ∧ Below W.heap.size W w') :
    Calls Try.prog 9 #[.agg #[.int .i64 n, .bool o], .agg #[.int .i64 c.pu, .int .i64 c.lo, .int .i64 c.hi, .int .i64 c.rb, .int .i64 c.rp, .int .i64 c.ae, .int .i64 c.ms, .int .i64 c.ma, .int .i64 c.an, .int .i64 c.st, .int .i64 c.ss, .int .i64 c.ro, .int .i64 c.ti, .int .i64 c.br], .agg #[.int .i64 a, .int .i64 b], .int .i64 f] w fun e w' => e = .returned (.agg #[.int .i64 (min (n + 1) c.st), .bool (decide (min (n + 1) c.st = c.st))]) ∧ Below w.heap.size w w' := by
  refine calls_sx Try.func9 rfl ?_
  simp only [Try.ntmps9, List.size_toArray, List.length_cons, List.length_nil, Nat.reduceAdd, Nat.reduceSub, Array.replicate_succ, Array.replicate_zero, List.push_toArray, List.append_toArray, List.nil_append, List.cons_append]
  refine wc_seq ?_
  refine wc_region ?_
  refine wl_new 29 (#[.int .i64 n, .bool o]) rfl (fun _ => by go_simp) ?_
  intro g1
  simp only [Act.put, Xa, Xz, Xs]
  refine wl_new 23 (#[.int .i64 c.pu, .int .i64 c.lo, .int .i64 c.hi, .int .i64 c.rb, .int .i64 c.rp, .int .i64 c.ae, .int .i64 c.ms, .int .i64 c.ma, .int .i64 c.an, .int .i64 c.st, .int .i64 c.ss, .int .i64 c.ro, .int .i64 c.ti, .int .i64 c.br]) rfl (fun _ => by go_simp) ?_
  intro g2
  simp only [Act.put, Xa, Xz, Xs]
  refine wl_new 31 (#[.int .i64 a, .int .i64 b]) rfl (fun _ => by go_simp) ?_
  intro g3
  simp only [Act.put, Xa, Xz, Xs]
  refine wl_new 29 (#[.int .i64 0, .bool false]) rfl (fun _ => by go_simp) ?_
  intro g4
  simp only [Act.put, Xa, Xz, Xs]
  refine wl_nil ?_
  refine we_then ?_
  refine wc_seq ?_
  refine wc_seq ?_
  refine wc_region ?_
  refine wl_val (.int .i64 f) rfl (fun _ => rfl) ?_
  simp only [Act.put, Xa, Xz, Xs]
  refine wl_val (.bool (decide (f < 1))) rfl (fun w => run_cmp rfl rfl rfl Try.underlying3 rfl w) ?_
  simp only [Act.put, Xa, Xz, Xs]
  refine wl_val (.bool (decide (f < 1))) rfl (fun _ => rfl) ?_
  simp only [Act.put, Xa, Xz, Xs]
  cases h5 : (decide (f < 1))
  · skip
    have p5 : ¬ (f < 1) := of_decide_eq_false h5
    refine wl_load 23 (.tmp 5) (own_row 2 rfl) rfl rfl rfl Try.underlying23 rfl (by kernel_rfl) ?_
    simp only [Act.put, Xa, Xz, Xs]
    refine wl_load 31 (.tmp 6) (own_row 1 rfl) rfl rfl rfl Try.underlying31 rfl (by kernel_rfl) ?_
    simp only [Act.put, Xa, Xz, Xs]
    refine wl_call 8 #[.agg #[.int .i64 c.pu, .int .i64 c.lo, .int .i64 c.hi, .int .i64 c.rb, .int .i64 c.rp, .int .i64 c.ae, .int .i64 c.ms, .int .i64 c.ma, .int .i64 c.an, .int .i64 c.st, .int .i64 c.ss, .int .i64 c.ro, .int .i64 c.ti, .int .i64 c.br], .agg #[.int .i64 a, .int .i64 b]] (.bool true) rfl (fun _ => by go_simp) (fun W => c1 W) ?_
    simp only [Act.put, Xa, Xz, Xs]
    refine wl_val (.bool false) rfl (fun _ => by go_simp) ?_
    simp only [Act.put, Xa, Xz, Xs]
    refine wl_val (.bool false) rfl (fun _ => rfl) ?_
    simp only [Act.put, Xa, Xz, Xs]
    refine wl_nil ?_
    refine we_then ?_
    refine wc_false rfl ?_
    refine wc_skip ?_
    refine we_then ?_
    refine wc_seq ?_
    refine wc_region ?_
    refine wl_val (.pointer (some ⟨g1, 0, none⟩)) rfl (fun _ => by go_simp) ?_
    simp only [Act.put, Xa, Xz, Xs]
    refine wl_cell 3 (.tmp 19) (.int .i64 n) (own_row 3 rfl) rfl rfl rfl rfl Try.isAgg3 ?_
    simp only [Act.put, Xa, Xz, Xs]
    refine wl_val (.int .i64 (n + 1)) rfl (fun w => run_arith (op := .add) rfl rfl rfl Try.underlying3 (congrArg some (i64_in (by omega) (by omega))) w) ?_
    simp only [Act.put, Xa, Xz, Xs]
    refine wl_val (.pointer (some ⟨g2, 9, none⟩)) rfl (fun _ => by go_simp) ?_
    simp only [Act.put, Xa, Xz, Xs]
    refine wl_cell 3 (.tmp 22) (.int .i64 c.st) (own_row 2 rfl) rfl rfl rfl rfl Try.isAgg3 ?_
    simp only [Act.put, Xa, Xz, Xs]
    refine wl_val (.int .i64 (min (n + 1) c.st)) rfl (fun w => by first | exact run_min2 rfl rfl rfl rfl w | exact run_minn2 rfl rfl rfl rfl w | go_simp) ?_
    simp only [Act.put, Xa, Xz, Xs]
    refine wl_val (.int .i64 (min (n + 1) c.st)) rfl (fun _ => rfl) ?_
    simp only [Act.put, Xa, Xz, Xs]
    refine wl_nil ?_
    refine we_then ?_
    refine wc_seq ?_
    refine wc_region ?_
    refine wl_val (.int .i64 (min (n + 1) c.st)) rfl (fun _ => rfl) ?_
    simp only [Act.put, Xa, Xz, Xs]
    refine wl_val (.int .i64 (min (n + 1) c.st)) rfl (fun _ => rfl) ?_
    simp only [Act.put, Xa, Xz, Xs]
    refine wl_val (.pointer (some ⟨g2, 9, none⟩)) rfl (fun _ => by go_simp) ?_
    simp only [Act.put, Xa, Xz, Xs]
    refine wl_cell 3 (.tmp 27) (.int .i64 c.st) (own_row 2 rfl) rfl rfl rfl rfl Try.isAgg3 ?_
    simp only [Act.put, Xa, Xz, Xs]
    refine wl_val (.bool ((min (n + 1) c.st) == c.st)) rfl (fun w => run_cmp rfl rfl rfl Try.underlying3 rfl w) ?_
    simp only [Act.put, Xa, Xz, Xs]
    refine wl_val (.agg #[.int .i64 (min (n + 1) c.st), .bool ((min (n + 1) c.st) == c.st)]) rfl (fun _ => by go_simp) ?_
    simp only [Act.put, Xa, Xz, Xs]
    refine wl_store 0 29 (.tmp 8) (.tmp 30) (#[.int .i64 (min (n + 1) c.st), .bool ((min (n + 1) c.st) == c.st)]) rfl rfl rfl rfl rfl (by kernel_rfl) rfl (by simp [Value.oneCell']) ?_
    simp only [Act.put, List.set_cons_zero]
    refine wl_nil ?_
    refine we_then ?_
    refine wc_ret ?_
    refine we_ret_cell (own_row 0 rfl) rfl rfl rfl Try.underlying29 rfl (by kernel_rfl) (fun w1 hE => ?_)
    exact ⟨rfl, hE.below⟩
  · skip
    have p5 : f < 1 := of_decide_eq_true h5
    exact (by exfalso; omega)
theorem next_any (c : Cf) (n : Int) (o : Bool) (a b f : Int) (w : World) (hc : Ok c) (h : a ≤ b) (h0 : 0 ≤ n) (h1 : n ≤ c.st) :
    Calls Try.prog 9 #[.agg #[.int .i64 n, .bool o], .agg #[.int .i64 c.pu, .int .i64 c.lo, .int .i64 c.hi, .int .i64 c.rb, .int .i64 c.rp, .int .i64 c.ae, .int .i64 c.ms, .int .i64 c.ma, .int .i64 c.an, .int .i64 c.st, .int .i64 c.ss, .int .i64 c.ro, .int .i64 c.ti, .int .i64 c.br], .agg #[.int .i64 a, .int .i64 b], .int .i64 f] w fun e w' => e = .returned (.agg #[.int .i64 (nxN c n a b f), .bool (nxO c n a b f)]) ∧ Below w.heap.size w w' := by
  have hs : ∀ W, _ := fun W => slow_any c a b W hc h
  by_cases k : -c.ss ≤ a ∧ b ≤ c.ss
  · rw [slow_yes k] at hs
    by_cases k1 : 1 ≤ f
    · have r := next_on c n o a b f w h0 h1 hc.st1 hc.st2 k1 hs
      rw [nxN_yes ⟨k, k1⟩, nxO_yes ⟨k, k1⟩]
      have e : decide (min (n + 1) c.st = c.st) = decide (c.st ≤ n + 1) := decide_eq_decide.2 (by omega)
      rw [e] at r
      exact r
    · rw [nxN_no (fun x => k1 x.2), nxO_no (fun x => k1 x.2)]
      exact next_few c n o a b f w h0 h1 hc.st1 hc.st2 (by omega) hs
  · rw [slow_no k] at hs
    rw [nxN_no (fun x => k x.1), nxO_no (fun x => k x.1)]
    exact next_off c n o a b f w h0 h1 hc.st1 hc.st2 hs
end Go.Proofs.Ytbacblnbmdomaaa.Stl
