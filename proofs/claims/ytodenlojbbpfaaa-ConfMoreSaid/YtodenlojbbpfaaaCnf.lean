/-
 Package conf. Conditions: at most 2^47 segments, groups (Fits); a configuration that may be (Error, Growth).
-/
import Derived.Test.YtodenlojbbpfaaaCf
import Derived.Test.YtodenlojbbpfaaaRatio
import Derived.Test.YtodenlojbbpfaaaTra
import Derived.Test.YtodenlojbbpfaaaFns
import Derived.Test.YtodenlojbbpfaaaSk
namespace Go.Proofs.Ytodenlojbbpfaaa.Cnf
open Go.ChangeShapes Go.WideShapes Go.ChangeAt Go.RowKit
open Arr Steady Sx Sw Sl Sb Sc Vs Gr Tk Tkh Tkl Cf Fns Sk
set_option linter.unusedVariables false
set_option linter.unusedSimpArgs false
set_option maxRecDepth 100000

theorem quo_up {a b : Int} (hb : 1 ≤ b) : Ratio.quo a b true = upq a b := by
 unfold Ratio.quo upq
 rw [if_pos rfl, Int.fdiv_eq_ediv_of_nonneg _ (by omega)]
 have h1 := Int.ediv_mul_le (a + b - 1) (b := b) (by omega)
 have h2 := Int.lt_ediv_add_one_mul_self (a + b - 1) (b := b) (by omega)
 rw [Int.add_mul] at h2
 have h3 : -((a + b - 1) / b) ≤ -a / b := (Int.le_ediv_iff_mul_le (by omega)).2 (by rw [Int.neg_mul]; omega)
 have h4 : -a / b < -((a + b - 1) / b) + 1 := (Int.ediv_lt_iff_lt_mul (by omega)).2 (by rw [Int.add_mul, Int.neg_mul]; omega)
 omega
theorem up_quo {a b : Int} (hb : 1 ≤ b) (h0 : 0 ≤ a) (h1 : a ≤ 1152921504606846976) : Ratio.quoV a b true = upq a b ∧ Ratio.quoE a b true = 0 := by
 have h2 := upq_pos hb h0
 have h3 := upq_self hb h0
 have h4 : Num.Fits (upq a b) := by unfold Num.Fits; omega
 unfold Ratio.quoV Ratio.quoE
 have h5 : ¬ b = 0 := by omega
 rw [quo_up hb, if_neg h5, if_neg h5, if_pos h4, if_pos h4]
 exact ⟨rfl, rfl⟩
theorem down_quo {a : Int} (h0 : 0 ≤ a) (h1 : a ≤ 1152921504606846976) : Ratio.quoV a 1048576 false = a / 1048576 ∧ Ratio.quoE a 1048576 false = 0 := by
 have h4 : Num.Fits (a / 1048576) := by unfold Num.Fits; omega
 have h5 : ¬ (1048576 : Int) = 0 := by decide
 unfold Ratio.quoV Ratio.quoE Ratio.quo
 rw [if_neg h5, if_neg h5, if_neg Bool.false_ne_true, Int.fdiv_eq_ediv_of_nonneg _ (by decide), if_pos h4, if_pos h4]
 exact ⟨rfl, rfl⟩
/-- Check's error. -/
def chkE (c : Cf) : Int := if wrong c = 0 then 0 else 50
theorem chkE_or (c : Cf) : (chkE c = 0 ∧ wrong c = 0) ∨ (chkE c = 50 ∧ wrong c ≠ 0) := by
 unfold chkE
 by_cases h : wrong c = 0
 ·
  rw [if_pos h]; exact .inl ⟨rfl, h⟩
 ·
  rw [if_neg h]; exact .inr ⟨rfl, h⟩
set_option maxHeartbeats 2000000 in
theorem within_any (x a b : Int) (w : World) :
  Calls Try.prog 27 #[.int .i64 x, .int .i64 a, .int .i64 b] w fun e w' => e = .returned (.bool (decide (a ≤ x ∧ x ≤ b))) ∧ Below w.heap.size w w' := by
 refine calls_sx Try.func27 rfl ?_
 simp only [Try.ntmps27, List.size_toArray, List.length_cons, List.length_nil, Nat.reduceAdd, Nat.reduceSub, Array.replicate_succ, Array.replicate_zero, List.push_toArray, List.append_toArray, List.nil_append, List.cons_append]
 refine wc_seq ?_
 refine wc_region ?_
 refine wl_val (.bool false) rfl (fun _ => rfl) ?_
 simp only [Act.put, Xa, Xz, Xs]
 refine wl_nil ?_
 refine we_then ?_
 refine wc_seq ?_
 refine wc_region ?_
 refine wl_val (.int .i64 a) rfl (fun _ => rfl) ?_
 simp only [Act.put, Xa, Xz, Xs]
 refine wl_val (.int .i64 x) rfl (fun _ => rfl) ?_
 simp only [Act.put, Xa, Xz, Xs]
 refine wl_val (.bool (decide (a ≤ x))) rfl (fun w => run_cmp rfl rfl rfl Try.underlying2 rfl w) ?_
 simp only [Act.put, Xa, Xz, Xs]
 refine wl_val (.bool (decide (a ≤ x))) rfl (fun _ => rfl) ?_
 simp only [Act.put, Xa, Xz, Xs]
 cases h1 : (decide (a ≤ x))
 ·
  skip
  have p1 : ¬ (a ≤ x) := of_decide_eq_false h1
  refine wl_skip rfl ?_
  simp only [Act.put, Xa, Xz, Xs]
  refine wl_skip rfl ?_
  simp only [Act.put, Xa, Xz, Xs]
  refine wl_skip rfl ?_
  simp only [Act.put, Xa, Xz, Xs]
  refine wl_val (.bool false) rfl (fun _ => rfl) ?_
  simp only [Act.put, Xa, Xz, Xs]
  refine wl_val (.bool false) rfl (fun _ => rfl) ?_
  simp only [Act.put, Xa, Xz, Xs]
  refine wl_nil ?_
  refine we_then ?_
  refine wc_ret ?_
  refine we_ret1 (.bool false) rfl rfl rfl (fun w1 hE => ?_)
  exact ⟨by rw [show decide (a ≤ x ∧ x ≤ b) = false from decide_eq_false (by omega)], hE.below⟩
 ·
  skip
  have p1 : a ≤ x := of_decide_eq_true h1
  refine wl_val (.int .i64 x) rfl (fun _ => rfl) ?_
  simp only [Act.put, Xa, Xz, Xs]
  refine wl_val (.int .i64 b) rfl (fun _ => rfl) ?_
  simp only [Act.put, Xa, Xz, Xs]
  refine wl_val (.bool (decide (x ≤ b))) rfl (fun w => run_cmp rfl rfl rfl Try.underlying2 rfl w) ?_
  simp only [Act.put, Xa, Xz, Xs]
  refine wl_val (.bool (decide (x ≤ b))) rfl (fun _ => rfl) ?_
  simp only [Act.put, Xa, Xz, Xs]
  refine wl_val (.bool (decide (x ≤ b))) rfl (fun _ => rfl) ?_
  simp only [Act.put, Xa, Xz, Xs]
  refine wl_nil ?_
  refine we_then ?_
  refine wc_ret ?_
  refine we_ret1 (.bool (decide (x ≤ b))) rfl rfl rfl (fun w1 hE => ?_)
  exact ⟨by rw [show decide (a ≤ x ∧ x ≤ b) = decide (x ≤ b) from decide_eq_decide.2 (by omega)], hE.below⟩
set_option maxHeartbeats 2000000 in
theorem pulse_any (c : Cf) (w : World) (h1 : 1 ≤ c.pu) (h2 : c.pu ≤ 1024) (h3 : 0 ≤ c.hi) (h4 : c.hi ≤ 8388608) :
  Calls Try.prog 24 #[.agg #[.int .i64 c.pu, .int .i64 c.lo, .int .i64 c.hi, .int .i64 c.rb, .int .i64 c.rp, .int .i64 c.ae, .int .i64 c.ms, .int .i64 c.ma, .int .i64 c.an, .int .i64 c.st, .int .i64 c.ss, .int .i64 c.ro, .int .i64 c.ti, .int .i64 c.br]] w fun e w' => e = .returned (.int .i64 (upq c.hi c.pu)) ∧ Below w.heap.size w w' := by
 refine calls_sx Try.func24 rfl ?_
 simp only [Try.ntmps24, List.size_toArray, List.length_cons, List.length_nil, Nat.reduceAdd, Nat.reduceSub, Array.replicate_succ, Array.replicate_zero, List.push_toArray, List.append_toArray, List.nil_append, List.cons_append]
 refine wc_seq ?_
 refine wc_region ?_
 refine wl_new 23 (#[.int .i64 c.pu, .int .i64 c.lo, .int .i64 c.hi, .int .i64 c.rb, .int .i64 c.rp, .int .i64 c.ae, .int .i64 c.ms, .int .i64 c.ma, .int .i64 c.an, .int .i64 c.st, .int .i64 c.ss, .int .i64 c.ro, .int .i64 c.ti, .int .i64 c.br]) rfl (fun _ => by go_simp) ?_
 intro g1
 simp only [Act.put, Xa, Xz, Xs]
 refine wl_val (.int .i64 0) rfl (fun _ => rfl) ?_
 simp only [Act.put, Xa, Xz, Xs]
 refine wl_nil ?_
 refine we_then ?_
 refine wc_seq ?_
 refine wc_region ?_
 refine wl_val (.pointer (some ⟨g1, 2, none⟩)) rfl (fun _ => by go_simp) ?_
 simp only [Act.put, Xa, Xz, Xs]
 refine wl_cell 2 (.tmp 6) (.int .i64 c.hi) (own_row 0 rfl) rfl rfl rfl rfl Try.isAgg2 ?_
 simp only [Act.put, Xa, Xz, Xs]
 refine wl_val (.pointer (some ⟨g1, 0, none⟩)) rfl (fun _ => by go_simp) ?_
 simp only [Act.put, Xa, Xz, Xs]
 refine wl_cell 2 (.tmp 8) (.int .i64 c.pu) (own_row 0 rfl) rfl rfl rfl rfl Try.isAgg2 ?_
 simp only [Act.put, Xa, Xz, Xs]
 refine wl_call 23 #[.int .i64 c.hi, .int .i64 1, .int .i64 c.pu] (.tuple #[.int .i64 (upq c.hi c.pu), .int .i64 0]) rfl (fun _ => by go_simp) (fun W => by have k := Ratio.ceil_any c.hi 1 c.pu W (by unfold Num.Fits; omega) (by unfold Num.Fits; omega) (by unfold Num.Fits; omega); rw [Int.mul_one] at k; rw [(up_quo (a := c.hi) (b := c.pu) (by omega) (by omega) (by omega)).1, (up_quo (a := c.hi) (b := c.pu) (by omega) (by omega) (by omega)).2] at k; exact k) ?_
 simp only [Act.put, Xa, Xz, Xs]
 refine wl_val (.tuple #[.int .i64 (upq c.hi c.pu), .int .i64 0]) rfl (fun _ => rfl) ?_
 simp only [Act.put, Xa, Xz, Xs]
 refine wl_val (.int .i64 (upq c.hi c.pu)) rfl (fun _ => by go_simp) ?_
 simp only [Act.put, Xa, Xz, Xs]
 refine wl_val (.int .i64 0) rfl (fun _ => by go_simp) ?_
 simp only [Act.put, Xa, Xz, Xs]
 refine wl_val (.int .i64 (upq c.hi c.pu)) rfl (fun _ => rfl) ?_
 simp only [Act.put, Xa, Xz, Xs]
 refine wl_val (.int .i64 0) rfl (fun _ => rfl) ?_
 simp only [Act.put, Xa, Xz, Xs]
 refine wl_nil ?_
 refine we_then ?_
 refine wc_seq ?_
 refine wc_region ?_
 refine wl_val (.int .i64 (upq c.hi c.pu)) rfl (fun _ => rfl) ?_
 simp only [Act.put, Xa, Xz, Xs]
 refine wl_val (.int .i64 (upq c.hi c.pu)) rfl (fun _ => rfl) ?_
 simp only [Act.put, Xa, Xz, Xs]
 refine wl_nil ?_
 refine we_then ?_
 refine wc_ret ?_
 refine we_ret1 (.int .i64 (upq c.hi c.pu)) rfl rfl rfl (fun w1 hE => ?_)
 exact ⟨rfl, hE.below⟩
set_option maxHeartbeats 2000000 in
theorem rule1_any (c : Cf) (b : Nat) (w : World) (hb : w.heap[b]? = some (.cells #[.int .i64 c.pu, .int .i64 c.lo, .int .i64 c.hi, .int .i64 c.rb, .int .i64 c.rp, .int .i64 c.ae, .int .i64 c.ms, .int .i64 c.ma, .int .i64 c.an, .int .i64 c.st, .int .i64 c.ss, .int .i64 c.ro, .int .i64 c.ti, .int .i64 c.br] 23 (0, 0)))  :
  Calls Try.prog 26 #[.pointer (some ⟨b, 0, none⟩)] w fun e w' => e = .returned (.bool (decide (1 ≤ c.pu ∧ c.pu ≤ 1024))) ∧ Below w.heap.size w w' := by
 refine calls_sx Try.func26 rfl ?_
 simp only [Try.ntmps26, List.size_toArray, List.length_cons, List.length_nil, Nat.reduceAdd, Nat.reduceSub, Array.replicate_succ, Array.replicate_zero, List.push_toArray, List.append_toArray, List.nil_append, List.cons_append]
 refine wc_seq ?_
 refine wc_region ?_
 refine wl_val (.bool false) rfl (fun _ => rfl) ?_
 simp only [Act.put, Xa, Xz, Xs]
 refine wl_nil ?_
 refine we_then ?_
 refine wc_seq ?_
 refine wc_region ?_
 refine wl_val (.pointer (some ⟨b, 0, none⟩)) rfl (fun _ => by go_simp) ?_
 simp only [Act.put, Xa, Xz, Xs]
 refine wl_cell 2 (.tmp 2) (.int .i64 c.pu) (old_row hb) rfl rfl rfl rfl Try.isAgg2 ?_
 simp only [Act.put, Xa, Xz, Xs]
 refine wl_call 27 #[.int .i64 c.pu, .int .i64 1, .int .i64 1024] (.bool (decide (1 ≤ c.pu ∧ c.pu ≤ 1024))) rfl (fun _ => by go_simp) (fun W => within_any c.pu 1 1024 W) ?_
 simp only [Act.put, Xa, Xz, Xs]
 refine wl_val (.bool (decide (1 ≤ c.pu ∧ c.pu ≤ 1024))) rfl (fun _ => rfl) ?_
 simp only [Act.put, Xa, Xz, Xs]
 refine wl_nil ?_
 refine we_then ?_
 refine wc_ret ?_
 refine we_ret1 (.bool (decide (1 ≤ c.pu ∧ c.pu ≤ 1024))) rfl rfl rfl (fun w1 hE => ?_)
 exact ⟨by rw [show decide (1 ≤ c.pu ∧ c.pu ≤ 1024) = decide (1 ≤ c.pu ∧ c.pu ≤ 1024) from decide_eq_decide.2 (by omega)], hE.below⟩
set_option maxHeartbeats 2000000 in
theorem rule2_any (c : Cf) (b : Nat) (w : World) (hb : w.heap[b]? = some (.cells #[.int .i64 c.pu, .int .i64 c.lo, .int .i64 c.hi, .int .i64 c.rb, .int .i64 c.rp, .int .i64 c.ae, .int .i64 c.ms, .int .i64 c.ma, .int .i64 c.an, .int .i64 c.st, .int .i64 c.ss, .int .i64 c.ro, .int .i64 c.ti, .int .i64 c.br] 23 (0, 0)))  :
  Calls Try.prog 28 #[.pointer (some ⟨b, 0, none⟩)] w fun e w' => e = .returned (.bool (decide ((131072 ≤ c.lo ∧ c.lo ≤ 8388608) ∧ c.lo ≤ c.hi ∧ c.hi ≤ 8388608))) ∧ Below w.heap.size w w' := by
 refine calls_sx Try.func28 rfl ?_
 simp only [Try.ntmps28, List.size_toArray, List.length_cons, List.length_nil, Nat.reduceAdd, Nat.reduceSub, Array.replicate_succ, Array.replicate_zero, List.push_toArray, List.append_toArray, List.nil_append, List.cons_append]
 refine wc_seq ?_
 refine wc_region ?_
 refine wl_val (.bool false) rfl (fun _ => rfl) ?_
 simp only [Act.put, Xa, Xz, Xs]
 refine wl_nil ?_
 refine we_then ?_
 refine wc_seq ?_
 refine wc_region ?_
 refine wl_val (.pointer (some ⟨b, 1, none⟩)) rfl (fun _ => by go_simp) ?_
 simp only [Act.put, Xa, Xz, Xs]
 refine wl_cell 2 (.tmp 2) (.int .i64 c.lo) (old_row hb) rfl rfl rfl rfl Try.isAgg2 ?_
 simp only [Act.put, Xa, Xz, Xs]
 refine wl_call 27 #[.int .i64 c.lo, .int .i64 131072, .int .i64 8388608] (.bool (decide (131072 ≤ c.lo ∧ c.lo ≤ 8388608))) rfl (fun _ => by go_simp) (fun W => within_any c.lo 131072 8388608 W) ?_
 simp only [Act.put, Xa, Xz, Xs]
 refine wl_val (.bool (decide (131072 ≤ c.lo ∧ c.lo ≤ 8388608))) rfl (fun _ => rfl) ?_
 simp only [Act.put, Xa, Xz, Xs]
 cases h1 : (decide (131072 ≤ c.lo ∧ c.lo ≤ 8388608))
 ·
  skip
  have p1 : ¬ (131072 ≤ c.lo ∧ c.lo ≤ 8388608) := of_decide_eq_false h1
  refine wl_skip rfl ?_
  simp only [Act.put, Xa, Xz, Xs]
  refine wl_skip rfl ?_
  simp only [Act.put, Xa, Xz, Xs]
  refine wl_skip rfl ?_
  simp only [Act.put, Xa, Xz, Xs]
  refine wl_skip rfl ?_
  simp only [Act.put, Xa, Xz, Xs]
  refine wl_skip rfl ?_
  simp only [Act.put, Xa, Xz, Xs]
  refine wl_val (.bool false) rfl (fun _ => rfl) ?_
  simp only [Act.put, Xa, Xz, Xs]
  refine wl_val (.bool false) rfl (fun _ => rfl) ?_
  simp only [Act.put, Xa, Xz, Xs]
  refine wl_nil ?_
  refine we_then ?_
  refine wc_ret ?_
  refine we_ret1 (.bool false) rfl rfl rfl (fun w1 hE => ?_)
  exact ⟨by rw [show decide ((131072 ≤ c.lo ∧ c.lo ≤ 8388608) ∧ c.lo ≤ c.hi ∧ c.hi ≤ 8388608) = false from decide_eq_false (by omega)], hE.below⟩
 ·
  skip
  have p1 : 131072 ≤ c.lo ∧ c.lo ≤ 8388608 := of_decide_eq_true h1
  refine wl_val (.pointer (some ⟨b, 2, none⟩)) rfl (fun _ => by go_simp) ?_
  simp only [Act.put, Xa, Xz, Xs]
  refine wl_cell 2 (.tmp 6) (.int .i64 c.hi) (old_row hb) rfl rfl rfl rfl Try.isAgg2 ?_
  simp only [Act.put, Xa, Xz, Xs]
  refine wl_val (.pointer (some ⟨b, 1, none⟩)) rfl (fun _ => by go_simp) ?_
  simp only [Act.put, Xa, Xz, Xs]
  refine wl_cell 2 (.tmp 8) (.int .i64 c.lo) (old_row hb) rfl rfl rfl rfl Try.isAgg2 ?_
  simp only [Act.put, Xa, Xz, Xs]
  refine wl_call 27 #[.int .i64 c.hi, .int .i64 c.lo, .int .i64 8388608] (.bool (decide (c.lo ≤ c.hi ∧ c.hi ≤ 8388608))) rfl (fun _ => by go_simp) (fun W => within_any c.hi c.lo 8388608 W) ?_
  simp only [Act.put, Xa, Xz, Xs]
  refine wl_val (.bool (decide (c.lo ≤ c.hi ∧ c.hi ≤ 8388608))) rfl (fun _ => rfl) ?_
  simp only [Act.put, Xa, Xz, Xs]
  refine wl_val (.bool (decide (c.lo ≤ c.hi ∧ c.hi ≤ 8388608))) rfl (fun _ => rfl) ?_
  simp only [Act.put, Xa, Xz, Xs]
  refine wl_nil ?_
  refine we_then ?_
  refine wc_ret ?_
  refine we_ret1 (.bool (decide (c.lo ≤ c.hi ∧ c.hi ≤ 8388608))) rfl rfl rfl (fun w1 hE => ?_)
  exact ⟨by rw [show decide ((131072 ≤ c.lo ∧ c.lo ≤ 8388608) ∧ c.lo ≤ c.hi ∧ c.hi ≤ 8388608) = decide (c.lo ≤ c.hi ∧ c.hi ≤ 8388608) from decide_eq_decide.2 (by omega)], hE.below⟩
set_option maxHeartbeats 2000000 in
theorem rule3_any (c : Cf) (b : Nat) (w : World) (hb : w.heap[b]? = some (.cells #[.int .i64 c.pu, .int .i64 c.lo, .int .i64 c.hi, .int .i64 c.rb, .int .i64 c.rp, .int .i64 c.ae, .int .i64 c.ms, .int .i64 c.ma, .int .i64 c.an, .int .i64 c.st, .int .i64 c.ss, .int .i64 c.ro, .int .i64 c.ti, .int .i64 c.br] 23 (0, 0))) (r2 : (131072 ≤ c.lo ∧ c.lo ≤ 8388608) ∧ c.lo ≤ c.hi ∧ c.hi ≤ 8388608) :
  Calls Try.prog 29 #[.pointer (some ⟨b, 0, none⟩)] w fun e w' => e = .returned (.bool (decide (16 * (c.hi - c.lo) ≤ c.lo))) ∧ Below w.heap.size w w' := by
 refine calls_sx Try.func29 rfl ?_
 simp only [Try.ntmps29, List.size_toArray, List.length_cons, List.length_nil, Nat.reduceAdd, Nat.reduceSub, Array.replicate_succ, Array.replicate_zero, List.push_toArray, List.append_toArray, List.nil_append, List.cons_append]
 refine wc_seq ?_
 refine wc_region ?_
 refine wl_val (.bool false) rfl (fun _ => rfl) ?_
 simp only [Act.put, Xa, Xz, Xs]
 refine wl_nil ?_
 refine we_then ?_
 refine wc_seq ?_
 refine wc_region ?_
 refine wl_val (.pointer (some ⟨b, 2, none⟩)) rfl (fun _ => by go_simp) ?_
 simp only [Act.put, Xa, Xz, Xs]
 refine wl_cell 2 (.tmp 2) (.int .i64 c.hi) (old_row hb) rfl rfl rfl rfl Try.isAgg2 ?_
 simp only [Act.put, Xa, Xz, Xs]
 refine wl_val (.pointer (some ⟨b, 1, none⟩)) rfl (fun _ => by go_simp) ?_
 simp only [Act.put, Xa, Xz, Xs]
 refine wl_cell 2 (.tmp 4) (.int .i64 c.lo) (old_row hb) rfl rfl rfl rfl Try.isAgg2 ?_
 simp only [Act.put, Xa, Xz, Xs]
 refine wl_val (.int .i64 (c.hi - c.lo)) rfl (fun w => run_arith (op := .sub) rfl rfl rfl Try.underlying2 (congrArg some (i64_in (by omega) (by omega))) w) ?_
 simp only [Act.put, Xa, Xz, Xs]
 refine wl_val (.int .i64 (16 * (c.hi - c.lo))) rfl (fun w => run_arith (op := .mul) rfl rfl rfl Try.underlying2 (congrArg some (i64_in (by omega) (by omega))) w) ?_
 simp only [Act.put, Xa, Xz, Xs]
 refine wl_val (.pointer (some ⟨b, 1, none⟩)) rfl (fun _ => by go_simp) ?_
 simp only [Act.put, Xa, Xz, Xs]
 refine wl_cell 2 (.tmp 8) (.int .i64 c.lo) (old_row hb) rfl rfl rfl rfl Try.isAgg2 ?_
 simp only [Act.put, Xa, Xz, Xs]
 refine wl_val (.bool (decide (16 * (c.hi - c.lo) ≤ c.lo))) rfl (fun w => run_cmp rfl rfl rfl Try.underlying2 rfl w) ?_
 simp only [Act.put, Xa, Xz, Xs]
 refine wl_val (.bool (decide (16 * (c.hi - c.lo) ≤ c.lo))) rfl (fun _ => rfl) ?_
 simp only [Act.put, Xa, Xz, Xs]
 refine wl_nil ?_
 refine we_then ?_
 refine wc_ret ?_
 refine we_ret1 (.bool (decide (16 * (c.hi - c.lo) ≤ c.lo))) rfl rfl rfl (fun w1 hE => ?_)
 exact ⟨by rw [show decide (16 * (c.hi - c.lo) ≤ c.lo) = decide (16 * (c.hi - c.lo) ≤ c.lo) from decide_eq_decide.2 (by omega)], hE.below⟩
set_option maxHeartbeats 2000000 in
theorem rule4_any (c : Cf) (b : Nat) (w : World) (hb : w.heap[b]? = some (.cells #[.int .i64 c.pu, .int .i64 c.lo, .int .i64 c.hi, .int .i64 c.rb, .int .i64 c.rp, .int .i64 c.ae, .int .i64 c.ms, .int .i64 c.ma, .int .i64 c.an, .int .i64 c.st, .int .i64 c.ss, .int .i64 c.ro, .int .i64 c.ti, .int .i64 c.br] 23 (0, 0)))  :
  Calls Try.prog 30 #[.pointer (some ⟨b, 0, none⟩)] w fun e w' => e = .returned (.bool (decide ((0 ≤ c.rb ∧ c.rb ≤ 1048576) ∧ 0 ≤ c.rp ∧ c.rp ≤ 65536))) ∧ Below w.heap.size w w' := by
 refine calls_sx Try.func30 rfl ?_
 simp only [Try.ntmps30, List.size_toArray, List.length_cons, List.length_nil, Nat.reduceAdd, Nat.reduceSub, Array.replicate_succ, Array.replicate_zero, List.push_toArray, List.append_toArray, List.nil_append, List.cons_append]
 refine wc_seq ?_
 refine wc_region ?_
 refine wl_val (.bool false) rfl (fun _ => rfl) ?_
 simp only [Act.put, Xa, Xz, Xs]
 refine wl_nil ?_
 refine we_then ?_
 refine wc_seq ?_
 refine wc_region ?_
 refine wl_val (.pointer (some ⟨b, 3, none⟩)) rfl (fun _ => by go_simp) ?_
 simp only [Act.put, Xa, Xz, Xs]
 refine wl_cell 2 (.tmp 2) (.int .i64 c.rb) (old_row hb) rfl rfl rfl rfl Try.isAgg2 ?_
 simp only [Act.put, Xa, Xz, Xs]
 refine wl_call 27 #[.int .i64 c.rb, .int .i64 0, .int .i64 1048576] (.bool (decide (0 ≤ c.rb ∧ c.rb ≤ 1048576))) rfl (fun _ => by go_simp) (fun W => within_any c.rb 0 1048576 W) ?_
 simp only [Act.put, Xa, Xz, Xs]
 refine wl_val (.bool (decide (0 ≤ c.rb ∧ c.rb ≤ 1048576))) rfl (fun _ => rfl) ?_
 simp only [Act.put, Xa, Xz, Xs]
 cases h1 : (decide (0 ≤ c.rb ∧ c.rb ≤ 1048576))
 ·
  skip
  have p1 : ¬ (0 ≤ c.rb ∧ c.rb ≤ 1048576) := of_decide_eq_false h1
  refine wl_skip rfl ?_
  simp only [Act.put, Xa, Xz, Xs]
  refine wl_skip rfl ?_
  simp only [Act.put, Xa, Xz, Xs]
  refine wl_skip rfl ?_
  simp only [Act.put, Xa, Xz, Xs]
  refine wl_val (.bool false) rfl (fun _ => rfl) ?_
  simp only [Act.put, Xa, Xz, Xs]
  refine wl_val (.bool false) rfl (fun _ => rfl) ?_
  simp only [Act.put, Xa, Xz, Xs]
  refine wl_nil ?_
  refine we_then ?_
  refine wc_ret ?_
  refine we_ret1 (.bool false) rfl rfl rfl (fun w1 hE => ?_)
  exact ⟨by rw [show decide ((0 ≤ c.rb ∧ c.rb ≤ 1048576) ∧ 0 ≤ c.rp ∧ c.rp ≤ 65536) = false from decide_eq_false (by omega)], hE.below⟩
 ·
  skip
  have p1 : 0 ≤ c.rb ∧ c.rb ≤ 1048576 := of_decide_eq_true h1
  refine wl_val (.pointer (some ⟨b, 4, none⟩)) rfl (fun _ => by go_simp) ?_
  simp only [Act.put, Xa, Xz, Xs]
  refine wl_cell 2 (.tmp 6) (.int .i64 c.rp) (old_row hb) rfl rfl rfl rfl Try.isAgg2 ?_
  simp only [Act.put, Xa, Xz, Xs]
  refine wl_call 27 #[.int .i64 c.rp, .int .i64 0, .int .i64 65536] (.bool (decide (0 ≤ c.rp ∧ c.rp ≤ 65536))) rfl (fun _ => by go_simp) (fun W => within_any c.rp 0 65536 W) ?_
  simp only [Act.put, Xa, Xz, Xs]
  refine wl_val (.bool (decide (0 ≤ c.rp ∧ c.rp ≤ 65536))) rfl (fun _ => rfl) ?_
  simp only [Act.put, Xa, Xz, Xs]
  refine wl_val (.bool (decide (0 ≤ c.rp ∧ c.rp ≤ 65536))) rfl (fun _ => rfl) ?_
  simp only [Act.put, Xa, Xz, Xs]
  refine wl_nil ?_
  refine we_then ?_
  refine wc_ret ?_
  refine we_ret1 (.bool (decide (0 ≤ c.rp ∧ c.rp ≤ 65536))) rfl rfl rfl (fun w1 hE => ?_)
  exact ⟨by rw [show decide ((0 ≤ c.rb ∧ c.rb ≤ 1048576) ∧ 0 ≤ c.rp ∧ c.rp ≤ 65536) = decide (0 ≤ c.rp ∧ c.rp ≤ 65536) from decide_eq_decide.2 (by omega)], hE.below⟩
set_option maxHeartbeats 2000000 in
theorem rule5_any (c : Cf) (b : Nat) (w : World) (hb : w.heap[b]? = some (.cells #[.int .i64 c.pu, .int .i64 c.lo, .int .i64 c.hi, .int .i64 c.rb, .int .i64 c.rp, .int .i64 c.ae, .int .i64 c.ms, .int .i64 c.ma, .int .i64 c.an, .int .i64 c.st, .int .i64 c.ss, .int .i64 c.ro, .int .i64 c.ti, .int .i64 c.br] 23 (0, 0)))  :
  Calls Try.prog 31 #[.pointer (some ⟨b, 0, none⟩)] w fun e w' => e = .returned (.bool (decide (0 ≤ c.ae ∧ c.ae ≤ 1048576))) ∧ Below w.heap.size w w' := by
 refine calls_sx Try.func31 rfl ?_
 simp only [Try.ntmps31, List.size_toArray, List.length_cons, List.length_nil, Nat.reduceAdd, Nat.reduceSub, Array.replicate_succ, Array.replicate_zero, List.push_toArray, List.append_toArray, List.nil_append, List.cons_append]
 refine wc_seq ?_
 refine wc_region ?_
 refine wl_val (.bool false) rfl (fun _ => rfl) ?_
 simp only [Act.put, Xa, Xz, Xs]
 refine wl_nil ?_
 refine we_then ?_
 refine wc_seq ?_
 refine wc_region ?_
 refine wl_val (.pointer (some ⟨b, 5, none⟩)) rfl (fun _ => by go_simp) ?_
 simp only [Act.put, Xa, Xz, Xs]
 refine wl_cell 2 (.tmp 2) (.int .i64 c.ae) (old_row hb) rfl rfl rfl rfl Try.isAgg2 ?_
 simp only [Act.put, Xa, Xz, Xs]
 refine wl_call 27 #[.int .i64 c.ae, .int .i64 0, .int .i64 1048576] (.bool (decide (0 ≤ c.ae ∧ c.ae ≤ 1048576))) rfl (fun _ => by go_simp) (fun W => within_any c.ae 0 1048576 W) ?_
 simp only [Act.put, Xa, Xz, Xs]
 refine wl_val (.bool (decide (0 ≤ c.ae ∧ c.ae ≤ 1048576))) rfl (fun _ => rfl) ?_
 simp only [Act.put, Xa, Xz, Xs]
 refine wl_nil ?_
 refine we_then ?_
 refine wc_ret ?_
 refine we_ret1 (.bool (decide (0 ≤ c.ae ∧ c.ae ≤ 1048576))) rfl rfl rfl (fun w1 hE => ?_)
 exact ⟨by rw [show decide (0 ≤ c.ae ∧ c.ae ≤ 1048576) = decide (0 ≤ c.ae ∧ c.ae ≤ 1048576) from decide_eq_decide.2 (by omega)], hE.below⟩
set_option maxHeartbeats 2000000 in
theorem rule6_any (c : Cf) (b : Nat) (w : World) (hb : w.heap[b]? = some (.cells #[.int .i64 c.pu, .int .i64 c.lo, .int .i64 c.hi, .int .i64 c.rb, .int .i64 c.rp, .int .i64 c.ae, .int .i64 c.ms, .int .i64 c.ma, .int .i64 c.an, .int .i64 c.st, .int .i64 c.ss, .int .i64 c.ro, .int .i64 c.ti, .int .i64 c.br] 23 (0, 0)))  :
  Calls Try.prog 32 #[.pointer (some ⟨b, 0, none⟩)] w fun e w' => e = .returned (.bool (decide ((1 ≤ c.ms ∧ c.ms ≤ 16777216) ∧ 1 ≤ c.ma ∧ c.ma ≤ 1048576))) ∧ Below w.heap.size w w' := by
 refine calls_sx Try.func32 rfl ?_
 simp only [Try.ntmps32, List.size_toArray, List.length_cons, List.length_nil, Nat.reduceAdd, Nat.reduceSub, Array.replicate_succ, Array.replicate_zero, List.push_toArray, List.append_toArray, List.nil_append, List.cons_append]
 refine wc_seq ?_
 refine wc_region ?_
 refine wl_val (.bool false) rfl (fun _ => rfl) ?_
 simp only [Act.put, Xa, Xz, Xs]
 refine wl_nil ?_
 refine we_then ?_
 refine wc_seq ?_
 refine wc_region ?_
 refine wl_val (.pointer (some ⟨b, 6, none⟩)) rfl (fun _ => by go_simp) ?_
 simp only [Act.put, Xa, Xz, Xs]
 refine wl_cell 2 (.tmp 2) (.int .i64 c.ms) (old_row hb) rfl rfl rfl rfl Try.isAgg2 ?_
 simp only [Act.put, Xa, Xz, Xs]
 refine wl_call 27 #[.int .i64 c.ms, .int .i64 1, .int .i64 16777216] (.bool (decide (1 ≤ c.ms ∧ c.ms ≤ 16777216))) rfl (fun _ => by go_simp) (fun W => within_any c.ms 1 16777216 W) ?_
 simp only [Act.put, Xa, Xz, Xs]
 refine wl_val (.bool (decide (1 ≤ c.ms ∧ c.ms ≤ 16777216))) rfl (fun _ => rfl) ?_
 simp only [Act.put, Xa, Xz, Xs]
 cases h1 : (decide (1 ≤ c.ms ∧ c.ms ≤ 16777216))
 ·
  skip
  have p1 : ¬ (1 ≤ c.ms ∧ c.ms ≤ 16777216) := of_decide_eq_false h1
  refine wl_skip rfl ?_
  simp only [Act.put, Xa, Xz, Xs]
  refine wl_skip rfl ?_
  simp only [Act.put, Xa, Xz, Xs]
  refine wl_skip rfl ?_
  simp only [Act.put, Xa, Xz, Xs]
  refine wl_val (.bool false) rfl (fun _ => rfl) ?_
  simp only [Act.put, Xa, Xz, Xs]
  refine wl_val (.bool false) rfl (fun _ => rfl) ?_
  simp only [Act.put, Xa, Xz, Xs]
  refine wl_nil ?_
  refine we_then ?_
  refine wc_ret ?_
  refine we_ret1 (.bool false) rfl rfl rfl (fun w1 hE => ?_)
  exact ⟨by rw [show decide ((1 ≤ c.ms ∧ c.ms ≤ 16777216) ∧ 1 ≤ c.ma ∧ c.ma ≤ 1048576) = false from decide_eq_false (by omega)], hE.below⟩
 ·
  skip
  have p1 : 1 ≤ c.ms ∧ c.ms ≤ 16777216 := of_decide_eq_true h1
  refine wl_val (.pointer (some ⟨b, 7, none⟩)) rfl (fun _ => by go_simp) ?_
  simp only [Act.put, Xa, Xz, Xs]
  refine wl_cell 2 (.tmp 6) (.int .i64 c.ma) (old_row hb) rfl rfl rfl rfl Try.isAgg2 ?_
  simp only [Act.put, Xa, Xz, Xs]
  refine wl_call 27 #[.int .i64 c.ma, .int .i64 1, .int .i64 1048576] (.bool (decide (1 ≤ c.ma ∧ c.ma ≤ 1048576))) rfl (fun _ => by go_simp) (fun W => within_any c.ma 1 1048576 W) ?_
  simp only [Act.put, Xa, Xz, Xs]
  refine wl_val (.bool (decide (1 ≤ c.ma ∧ c.ma ≤ 1048576))) rfl (fun _ => rfl) ?_
  simp only [Act.put, Xa, Xz, Xs]
  refine wl_val (.bool (decide (1 ≤ c.ma ∧ c.ma ≤ 1048576))) rfl (fun _ => rfl) ?_
  simp only [Act.put, Xa, Xz, Xs]
  refine wl_nil ?_
  refine we_then ?_
  refine wc_ret ?_
  refine we_ret1 (.bool (decide (1 ≤ c.ma ∧ c.ma ≤ 1048576))) rfl rfl rfl (fun w1 hE => ?_)
  exact ⟨by rw [show decide ((1 ≤ c.ms ∧ c.ms ≤ 16777216) ∧ 1 ≤ c.ma ∧ c.ma ≤ 1048576) = decide (1 ≤ c.ma ∧ c.ma ≤ 1048576) from decide_eq_decide.2 (by omega)], hE.below⟩
set_option maxHeartbeats 2000000 in
theorem rule7_any (c : Cf) (b : Nat) (w : World) (hb : w.heap[b]? = some (.cells #[.int .i64 c.pu, .int .i64 c.lo, .int .i64 c.hi, .int .i64 c.rb, .int .i64 c.rp, .int .i64 c.ae, .int .i64 c.ms, .int .i64 c.ma, .int .i64 c.an, .int .i64 c.st, .int .i64 c.ss, .int .i64 c.ro, .int .i64 c.ti, .int .i64 c.br] 23 (0, 0))) (r1 : 1 ≤ c.pu ∧ c.pu ≤ 1024) (r2 : (131072 ≤ c.lo ∧ c.lo ≤ 8388608) ∧ c.lo ≤ c.hi ∧ c.hi ≤ 8388608) (r6 : (1 ≤ c.ms ∧ c.ms ≤ 16777216) ∧ 1 ≤ c.ma ∧ c.ma ≤ 1048576) :
  Calls Try.prog 33 #[.pointer (some ⟨b, 0, none⟩)] w fun e w' => e = .returned (.bool (decide (c.ms * c.pu ≤ 32000 * c.lo))) ∧ Below w.heap.size w w' := by
 have m1 := mul_in (a := c.ms) (b := c.pu) 16777216 1024 (by omega) (by omega) (by omega) (by omega)
 refine calls_sx Try.func33 rfl ?_
 simp only [Try.ntmps33, List.size_toArray, List.length_cons, List.length_nil, Nat.reduceAdd, Nat.reduceSub, Array.replicate_succ, Array.replicate_zero, List.push_toArray, List.append_toArray, List.nil_append, List.cons_append]
 refine wc_seq ?_
 refine wc_region ?_
 refine wl_val (.bool false) rfl (fun _ => rfl) ?_
 simp only [Act.put, Xa, Xz, Xs]
 refine wl_nil ?_
 refine we_then ?_
 refine wc_seq ?_
 refine wc_region ?_
 refine wl_val (.pointer (some ⟨b, 6, none⟩)) rfl (fun _ => by go_simp) ?_
 simp only [Act.put, Xa, Xz, Xs]
 refine wl_cell 2 (.tmp 2) (.int .i64 c.ms) (old_row hb) rfl rfl rfl rfl Try.isAgg2 ?_
 simp only [Act.put, Xa, Xz, Xs]
 refine wl_val (.pointer (some ⟨b, 0, none⟩)) rfl (fun _ => by go_simp) ?_
 simp only [Act.put, Xa, Xz, Xs]
 refine wl_cell 2 (.tmp 4) (.int .i64 c.pu) (old_row hb) rfl rfl rfl rfl Try.isAgg2 ?_
 simp only [Act.put, Xa, Xz, Xs]
 refine wl_val (.int .i64 (c.ms * c.pu)) rfl (fun w => run_arith (op := .mul) rfl rfl rfl Try.underlying2 (congrArg some (i64_in (by omega) (by omega))) w) ?_
 simp only [Act.put, Xa, Xz, Xs]
 refine wl_val (.pointer (some ⟨b, 1, none⟩)) rfl (fun _ => by go_simp) ?_
 simp only [Act.put, Xa, Xz, Xs]
 refine wl_cell 2 (.tmp 7) (.int .i64 c.lo) (old_row hb) rfl rfl rfl rfl Try.isAgg2 ?_
 simp only [Act.put, Xa, Xz, Xs]
 refine wl_val (.int .i64 (32000 * c.lo)) rfl (fun w => run_arith (op := .mul) rfl rfl rfl Try.underlying2 (congrArg some (i64_in (by omega) (by omega))) w) ?_
 simp only [Act.put, Xa, Xz, Xs]
 refine wl_val (.bool (decide (c.ms * c.pu ≤ 32000 * c.lo))) rfl (fun w => run_cmp rfl rfl rfl Try.underlying2 rfl w) ?_
 simp only [Act.put, Xa, Xz, Xs]
 refine wl_val (.bool (decide (c.ms * c.pu ≤ 32000 * c.lo))) rfl (fun _ => rfl) ?_
 simp only [Act.put, Xa, Xz, Xs]
 refine wl_nil ?_
 refine we_then ?_
 refine wc_ret ?_
 refine we_ret1 (.bool (decide (c.ms * c.pu ≤ 32000 * c.lo))) rfl rfl rfl (fun w1 hE => ?_)
 exact ⟨by rw [show decide (c.ms * c.pu ≤ 32000 * c.lo) = decide (c.ms * c.pu ≤ 32000 * c.lo) from decide_eq_decide.2 (by omega)], hE.below⟩
set_option maxHeartbeats 2000000 in
theorem rule8_any (c : Cf) (b : Nat) (w : World) (hb : w.heap[b]? = some (.cells #[.int .i64 c.pu, .int .i64 c.lo, .int .i64 c.hi, .int .i64 c.rb, .int .i64 c.rp, .int .i64 c.ae, .int .i64 c.ms, .int .i64 c.ma, .int .i64 c.an, .int .i64 c.st, .int .i64 c.ss, .int .i64 c.ro, .int .i64 c.ti, .int .i64 c.br] 23 (0, 0)))  :
  Calls Try.prog 34 #[.pointer (some ⟨b, 0, none⟩)] w fun e w' => e = .returned (.bool (decide (0 ≤ c.an ∧ c.an ≤ 1048576))) ∧ Below w.heap.size w w' := by
 refine calls_sx Try.func34 rfl ?_
 simp only [Try.ntmps34, List.size_toArray, List.length_cons, List.length_nil, Nat.reduceAdd, Nat.reduceSub, Array.replicate_succ, Array.replicate_zero, List.push_toArray, List.append_toArray, List.nil_append, List.cons_append]
 refine wc_seq ?_
 refine wc_region ?_
 refine wl_val (.bool false) rfl (fun _ => rfl) ?_
 simp only [Act.put, Xa, Xz, Xs]
 refine wl_nil ?_
 refine we_then ?_
 refine wc_seq ?_
 refine wc_region ?_
 refine wl_val (.pointer (some ⟨b, 8, none⟩)) rfl (fun _ => by go_simp) ?_
 simp only [Act.put, Xa, Xz, Xs]
 refine wl_cell 2 (.tmp 2) (.int .i64 c.an) (old_row hb) rfl rfl rfl rfl Try.isAgg2 ?_
 simp only [Act.put, Xa, Xz, Xs]
 refine wl_call 27 #[.int .i64 c.an, .int .i64 0, .int .i64 1048576] (.bool (decide (0 ≤ c.an ∧ c.an ≤ 1048576))) rfl (fun _ => by go_simp) (fun W => within_any c.an 0 1048576 W) ?_
 simp only [Act.put, Xa, Xz, Xs]
 refine wl_val (.bool (decide (0 ≤ c.an ∧ c.an ≤ 1048576))) rfl (fun _ => rfl) ?_
 simp only [Act.put, Xa, Xz, Xs]
 refine wl_nil ?_
 refine we_then ?_
 refine wc_ret ?_
 refine we_ret1 (.bool (decide (0 ≤ c.an ∧ c.an ≤ 1048576))) rfl rfl rfl (fun w1 hE => ?_)
 exact ⟨by rw [show decide (0 ≤ c.an ∧ c.an ≤ 1048576) = decide (0 ≤ c.an ∧ c.an ≤ 1048576) from decide_eq_decide.2 (by omega)], hE.below⟩
set_option maxHeartbeats 2000000 in
theorem rule9_any (c : Cf) (b : Nat) (w : World) (hb : w.heap[b]? = some (.cells #[.int .i64 c.pu, .int .i64 c.lo, .int .i64 c.hi, .int .i64 c.rb, .int .i64 c.rp, .int .i64 c.ae, .int .i64 c.ms, .int .i64 c.ma, .int .i64 c.an, .int .i64 c.st, .int .i64 c.ss, .int .i64 c.ro, .int .i64 c.ti, .int .i64 c.br] 23 (0, 0)))  :
  Calls Try.prog 35 #[.pointer (some ⟨b, 0, none⟩)] w fun e w' => e = .returned (.bool (decide ((1 ≤ c.st ∧ c.st ≤ 1000) ∧ 1 ≤ c.ti ∧ c.ti ≤ 1000))) ∧ Below w.heap.size w w' := by
 refine calls_sx Try.func35 rfl ?_
 simp only [Try.ntmps35, List.size_toArray, List.length_cons, List.length_nil, Nat.reduceAdd, Nat.reduceSub, Array.replicate_succ, Array.replicate_zero, List.push_toArray, List.append_toArray, List.nil_append, List.cons_append]
 refine wc_seq ?_
 refine wc_region ?_
 refine wl_val (.bool false) rfl (fun _ => rfl) ?_
 simp only [Act.put, Xa, Xz, Xs]
 refine wl_nil ?_
 refine we_then ?_
 refine wc_seq ?_
 refine wc_region ?_
 refine wl_val (.pointer (some ⟨b, 9, none⟩)) rfl (fun _ => by go_simp) ?_
 simp only [Act.put, Xa, Xz, Xs]
 refine wl_cell 3 (.tmp 2) (.int .i64 c.st) (old_row hb) rfl rfl rfl rfl Try.isAgg3 ?_
 simp only [Act.put, Xa, Xz, Xs]
 refine wl_call 27 #[.int .i64 c.st, .int .i64 1, .int .i64 1000] (.bool (decide (1 ≤ c.st ∧ c.st ≤ 1000))) rfl (fun _ => by go_simp) (fun W => within_any c.st 1 1000 W) ?_
 simp only [Act.put, Xa, Xz, Xs]
 refine wl_val (.bool (decide (1 ≤ c.st ∧ c.st ≤ 1000))) rfl (fun _ => rfl) ?_
 simp only [Act.put, Xa, Xz, Xs]
 cases h1 : (decide (1 ≤ c.st ∧ c.st ≤ 1000))
 ·
  skip
  have p1 : ¬ (1 ≤ c.st ∧ c.st ≤ 1000) := of_decide_eq_false h1
  refine wl_skip rfl ?_
  simp only [Act.put, Xa, Xz, Xs]
  refine wl_skip rfl ?_
  simp only [Act.put, Xa, Xz, Xs]
  refine wl_skip rfl ?_
  simp only [Act.put, Xa, Xz, Xs]
  refine wl_val (.bool false) rfl (fun _ => rfl) ?_
  simp only [Act.put, Xa, Xz, Xs]
  refine wl_val (.bool false) rfl (fun _ => rfl) ?_
  simp only [Act.put, Xa, Xz, Xs]
  refine wl_nil ?_
  refine we_then ?_
  refine wc_ret ?_
  refine we_ret1 (.bool false) rfl rfl rfl (fun w1 hE => ?_)
  exact ⟨by rw [show decide ((1 ≤ c.st ∧ c.st ≤ 1000) ∧ 1 ≤ c.ti ∧ c.ti ≤ 1000) = false from decide_eq_false (by omega)], hE.below⟩
 ·
  skip
  have p1 : 1 ≤ c.st ∧ c.st ≤ 1000 := of_decide_eq_true h1
  refine wl_val (.pointer (some ⟨b, 12, none⟩)) rfl (fun _ => by go_simp) ?_
  simp only [Act.put, Xa, Xz, Xs]
  refine wl_cell 3 (.tmp 6) (.int .i64 c.ti) (old_row hb) rfl rfl rfl rfl Try.isAgg3 ?_
  simp only [Act.put, Xa, Xz, Xs]
  refine wl_call 27 #[.int .i64 c.ti, .int .i64 1, .int .i64 1000] (.bool (decide (1 ≤ c.ti ∧ c.ti ≤ 1000))) rfl (fun _ => by go_simp) (fun W => within_any c.ti 1 1000 W) ?_
  simp only [Act.put, Xa, Xz, Xs]
  refine wl_val (.bool (decide (1 ≤ c.ti ∧ c.ti ≤ 1000))) rfl (fun _ => rfl) ?_
  simp only [Act.put, Xa, Xz, Xs]
  refine wl_val (.bool (decide (1 ≤ c.ti ∧ c.ti ≤ 1000))) rfl (fun _ => rfl) ?_
  simp only [Act.put, Xa, Xz, Xs]
  refine wl_nil ?_
  refine we_then ?_
  refine wc_ret ?_
  refine we_ret1 (.bool (decide (1 ≤ c.ti ∧ c.ti ≤ 1000))) rfl rfl rfl (fun w1 hE => ?_)
  exact ⟨by rw [show decide ((1 ≤ c.st ∧ c.st ≤ 1000) ∧ 1 ≤ c.ti ∧ c.ti ≤ 1000) = decide (1 ≤ c.ti ∧ c.ti ≤ 1000) from decide_eq_decide.2 (by omega)], hE.below⟩
set_option maxHeartbeats 2000000 in
theorem rule10_any (c : Cf) (b : Nat) (w : World) (hb : w.heap[b]? = some (.cells #[.int .i64 c.pu, .int .i64 c.lo, .int .i64 c.hi, .int .i64 c.rb, .int .i64 c.rp, .int .i64 c.ae, .int .i64 c.ms, .int .i64 c.ma, .int .i64 c.an, .int .i64 c.st, .int .i64 c.ss, .int .i64 c.ro, .int .i64 c.ti, .int .i64 c.br] 23 (0, 0))) (r1 : 1 ≤ c.pu ∧ c.pu ≤ 1024) (r2 : (131072 ≤ c.lo ∧ c.lo ≤ 8388608) ∧ c.lo ≤ c.hi ∧ c.hi ≤ 8388608) (r4 : (0 ≤ c.rb ∧ c.rb ≤ 1048576) ∧ 0 ≤ c.rp ∧ c.rp ≤ 65536) :
  Calls Try.prog 36 #[.pointer (some ⟨b, 0, none⟩)] w fun e w' => e = .returned (.bool (decide (max (upq c.hi c.pu) (3 * c.rb) ≤ c.ss ∧ c.ss ≤ 16777216))) ∧ Below w.heap.size w w' := by
 have u1 := upq_pos (a := c.hi) (b := c.pu) (by omega) (by omega)
 have u2 := upq_self (a := c.hi) (b := c.pu) (by omega) (by omega)
 refine calls_sx Try.func36 rfl ?_
 simp only [Try.ntmps36, List.size_toArray, List.length_cons, List.length_nil, Nat.reduceAdd, Nat.reduceSub, Array.replicate_succ, Array.replicate_zero, List.push_toArray, List.append_toArray, List.nil_append, List.cons_append]
 refine wc_seq ?_
 refine wc_region ?_
 refine wl_val (.bool false) rfl (fun _ => rfl) ?_
 simp only [Act.put, Xa, Xz, Xs]
 refine wl_nil ?_
 refine we_then ?_
 refine wc_seq ?_
 refine wc_draw [.late, .plain, .plain, .plain, .late, .plain, .late, .late, .plain, .late] none [] 11 (by kernel_rfl) rfl (by kernel_rfl) (by kernel_rfl) ?_
 refine ws_late (.pointer (some ⟨b, 10, none⟩)) rfl rfl (fun _ => by go_simp) ?_
 simp only [Nat.reduceAdd, Act.put, Xa, Xz, Xs]
 refine ws_cell 2 (.tmp 2) (.int .i64 c.ss) (old_row hb) rfl rfl rfl rfl rfl Try.isAgg2 ?_
 simp only [Nat.reduceAdd, Act.put, Xa, Xz, Xs]
 refine ws_load 23 (.tmp 0) (old_row hb) rfl rfl rfl rfl Try.underlying23 rfl (by kernel_rfl) ?_
 simp only [Nat.reduceAdd, Act.put, Xa, Xz, Xs]
 refine ws_call 24 #[.agg #[.int .i64 c.pu, .int .i64 c.lo, .int .i64 c.hi, .int .i64 c.rb, .int .i64 c.rp, .int .i64 c.ae, .int .i64 c.ms, .int .i64 c.ma, .int .i64 c.an, .int .i64 c.st, .int .i64 c.ss, .int .i64 c.ro, .int .i64 c.ti, .int .i64 c.br]] (.int .i64 (upq c.hi c.pu)) rfl rfl (fun _ => by go_simp) (fun W => pulse_any c W (by omega) (by omega) (by omega) (by omega)) ?_
 simp only [Nat.reduceAdd, Act.put, Xa, Xz, Xs]
 refine ws_late (.pointer (some ⟨b, 3, none⟩)) rfl rfl (fun _ => by go_simp) ?_
 simp only [Nat.reduceAdd, Act.put, Xa, Xz, Xs]
 refine ws_cell 2 (.tmp 6) (.int .i64 c.rb) (old_row hb) rfl rfl rfl rfl rfl Try.isAgg2 ?_
 simp only [Nat.reduceAdd, Act.put, Xa, Xz, Xs]
 refine ws_late (.int .i64 (3 * c.rb)) rfl rfl (fun w => run_arith (op := .mul) rfl rfl rfl Try.underlying2 (congrArg some (i64_in (by omega) (by omega))) w) ?_
 simp only [Nat.reduceAdd, Act.put, Xa, Xz, Xs]
 refine ws_late (.int .i64 (max (upq c.hi c.pu) (3 * c.rb))) rfl rfl (fun w => by first | exact run_max2 rfl rfl rfl rfl w | exact run_maxn2 rfl rfl rfl rfl w | go_simp) ?_
 simp only [Nat.reduceAdd, Act.put, Xa, Xz, Xs]
 refine ws_call 27 #[.int .i64 c.ss, .int .i64 (max (upq c.hi c.pu) (3 * c.rb)), .int .i64 16777216] (.bool (decide ((max (upq c.hi c.pu) (3 * c.rb)) ≤ c.ss ∧ c.ss ≤ 16777216))) rfl rfl (fun _ => by go_simp) (fun W => within_any c.ss (max (upq c.hi c.pu) (3 * c.rb)) 16777216 W) ?_
 simp only [Nat.reduceAdd, Act.put, Xa, Xz, Xs]
 refine ws_late (.bool (decide ((max (upq c.hi c.pu) (3 * c.rb)) ≤ c.ss ∧ c.ss ≤ 16777216))) rfl rfl (fun _ => rfl) ?_
 simp only [Nat.reduceAdd, Act.put, Xa, Xz, Xs]
 refine ws_nil [] trivial (by simp) ?_
 intro ps1
 simp only [fin, List.foldl_nil, List.map, List.nil_append]
 refine we_then ?_
 refine wc_ret ?_
 refine we_ret1 (.bool (decide ((max (upq c.hi c.pu) (3 * c.rb)) ≤ c.ss ∧ c.ss ≤ 16777216))) rfl rfl rfl (fun w1 hE => ?_)
 exact ⟨by rw [show decide (max (upq c.hi c.pu) (3 * c.rb) ≤ c.ss ∧ c.ss ≤ 16777216) = decide ((max (upq c.hi c.pu) (3 * c.rb)) ≤ c.ss ∧ c.ss ≤ 16777216) from decide_eq_decide.2 (by omega)], hE.below⟩
set_option maxHeartbeats 2000000 in
theorem rule11_any (c : Cf) (b : Nat) (w : World) (hb : w.heap[b]? = some (.cells #[.int .i64 c.pu, .int .i64 c.lo, .int .i64 c.hi, .int .i64 c.rb, .int .i64 c.rp, .int .i64 c.ae, .int .i64 c.ms, .int .i64 c.ma, .int .i64 c.an, .int .i64 c.st, .int .i64 c.ss, .int .i64 c.ro, .int .i64 c.ti, .int .i64 c.br] 23 (0, 0)))  :
  Calls Try.prog 37 #[.pointer (some ⟨b, 0, none⟩)] w fun e w' => e = .returned (.bool (decide (0 ≤ c.ro ∧ c.ro ≤ 1073741824))) ∧ Below w.heap.size w w' := by
 refine calls_sx Try.func37 rfl ?_
 simp only [Try.ntmps37, List.size_toArray, List.length_cons, List.length_nil, Nat.reduceAdd, Nat.reduceSub, Array.replicate_succ, Array.replicate_zero, List.push_toArray, List.append_toArray, List.nil_append, List.cons_append]
 refine wc_seq ?_
 refine wc_region ?_
 refine wl_val (.bool false) rfl (fun _ => rfl) ?_
 simp only [Act.put, Xa, Xz, Xs]
 refine wl_nil ?_
 refine we_then ?_
 refine wc_seq ?_
 refine wc_region ?_
 refine wl_val (.pointer (some ⟨b, 11, none⟩)) rfl (fun _ => by go_simp) ?_
 simp only [Act.put, Xa, Xz, Xs]
 refine wl_cell 2 (.tmp 2) (.int .i64 c.ro) (old_row hb) rfl rfl rfl rfl Try.isAgg2 ?_
 simp only [Act.put, Xa, Xz, Xs]
 refine wl_call 27 #[.int .i64 c.ro, .int .i64 0, .int .i64 1073741824] (.bool (decide (0 ≤ c.ro ∧ c.ro ≤ 1073741824))) rfl (fun _ => by go_simp) (fun W => within_any c.ro 0 1073741824 W) ?_
 simp only [Act.put, Xa, Xz, Xs]
 refine wl_val (.bool (decide (0 ≤ c.ro ∧ c.ro ≤ 1073741824))) rfl (fun _ => rfl) ?_
 simp only [Act.put, Xa, Xz, Xs]
 refine wl_nil ?_
 refine we_then ?_
 refine wc_ret ?_
 refine we_ret1 (.bool (decide (0 ≤ c.ro ∧ c.ro ≤ 1073741824))) rfl rfl rfl (fun w1 hE => ?_)
 exact ⟨by rw [show decide (0 ≤ c.ro ∧ c.ro ≤ 1073741824) = decide (0 ≤ c.ro ∧ c.ro ≤ 1073741824) from decide_eq_decide.2 (by omega)], hE.below⟩
set_option maxHeartbeats 2000000 in
theorem rule12_any (c : Cf) (b : Nat) (w : World) (hb : w.heap[b]? = some (.cells #[.int .i64 c.pu, .int .i64 c.lo, .int .i64 c.hi, .int .i64 c.rb, .int .i64 c.rp, .int .i64 c.ae, .int .i64 c.ms, .int .i64 c.ma, .int .i64 c.an, .int .i64 c.st, .int .i64 c.ss, .int .i64 c.ro, .int .i64 c.ti, .int .i64 c.br] 23 (0, 0)))  :
  Calls Try.prog 38 #[.pointer (some ⟨b, 0, none⟩)] w fun e w' => e = .returned (.bool (decide (1 ≤ c.br ∧ c.br ≤ 1048576))) ∧ Below w.heap.size w w' := by
 refine calls_sx Try.func38 rfl ?_
 simp only [Try.ntmps38, List.size_toArray, List.length_cons, List.length_nil, Nat.reduceAdd, Nat.reduceSub, Array.replicate_succ, Array.replicate_zero, List.push_toArray, List.append_toArray, List.nil_append, List.cons_append]
 refine wc_seq ?_
 refine wc_region ?_
 refine wl_val (.bool false) rfl (fun _ => rfl) ?_
 simp only [Act.put, Xa, Xz, Xs]
 refine wl_nil ?_
 refine we_then ?_
 refine wc_seq ?_
 refine wc_region ?_
 refine wl_val (.pointer (some ⟨b, 13, none⟩)) rfl (fun _ => by go_simp) ?_
 simp only [Act.put, Xa, Xz, Xs]
 refine wl_cell 2 (.tmp 2) (.int .i64 c.br) (old_row hb) rfl rfl rfl rfl Try.isAgg2 ?_
 simp only [Act.put, Xa, Xz, Xs]
 refine wl_call 27 #[.int .i64 c.br, .int .i64 1, .int .i64 1048576] (.bool (decide (1 ≤ c.br ∧ c.br ≤ 1048576))) rfl (fun _ => by go_simp) (fun W => within_any c.br 1 1048576 W) ?_
 simp only [Act.put, Xa, Xz, Xs]
 refine wl_val (.bool (decide (1 ≤ c.br ∧ c.br ≤ 1048576))) rfl (fun _ => rfl) ?_
 simp only [Act.put, Xa, Xz, Xs]
 refine wl_nil ?_
 refine we_then ?_
 refine wc_ret ?_
 refine we_ret1 (.bool (decide (1 ≤ c.br ∧ c.br ≤ 1048576))) rfl rfl rfl (fun w1 hE => ?_)
 exact ⟨by rw [show decide (1 ≤ c.br ∧ c.br ≤ 1048576) = decide (1 ≤ c.br ∧ c.br ≤ 1048576) from decide_eq_decide.2 (by omega)], hE.below⟩
set_option maxHeartbeats 2000000 in
theorem rules_any (c : Cf) (w : World) :
  Calls Try.prog 18 #[.agg #[.int .i64 c.pu, .int .i64 c.lo, .int .i64 c.hi, .int .i64 c.rb, .int .i64 c.rp, .int .i64 c.ae, .int .i64 c.ms, .int .i64 c.ma, .int .i64 c.an, .int .i64 c.st, .int .i64 c.ss, .int .i64 c.ro, .int .i64 c.ti, .int .i64 c.br]] w fun e w' => ∃ z : Nat × Nat, True ∧ e = .returned (.slice (some ⟨z.1, 0, none⟩) 12 12) ∧ Env w w' [⟨z.1, #[.func (.func 26) #[] #[.pointer (some ⟨z.2, 0, none⟩)], .func (.func 28) #[] #[.pointer (some ⟨z.2, 0, none⟩)], .func (.func 29) #[] #[.pointer (some ⟨z.2, 0, none⟩)], .func (.func 30) #[] #[.pointer (some ⟨z.2, 0, none⟩)], .func (.func 31) #[] #[.pointer (some ⟨z.2, 0, none⟩)], .func (.func 32) #[] #[.pointer (some ⟨z.2, 0, none⟩)], .func (.func 33) #[] #[.pointer (some ⟨z.2, 0, none⟩)], .func (.func 34) #[] #[.pointer (some ⟨z.2, 0, none⟩)], .func (.func 35) #[] #[.pointer (some ⟨z.2, 0, none⟩)], .func (.func 36) #[] #[.pointer (some ⟨z.2, 0, none⟩)], .func (.func 37) #[] #[.pointer (some ⟨z.2, 0, none⟩)], .func (.func 38) #[] #[.pointer (some ⟨z.2, 0, none⟩)]], 24⟩, ⟨z.2, #[.int .i64 c.pu, .int .i64 c.lo, .int .i64 c.hi, .int .i64 c.rb, .int .i64 c.rp, .int .i64 c.ae, .int .i64 c.ms, .int .i64 c.ma, .int .i64 c.an, .int .i64 c.st, .int .i64 c.ss, .int .i64 c.ro, .int .i64 c.ti, .int .i64 c.br], 23⟩] := by
 refine calls_sx Try.func18 rfl ?_
 simp only [Try.ntmps18, List.size_toArray, List.length_cons, List.length_nil, Nat.reduceAdd, Nat.reduceSub, Array.replicate_succ, Array.replicate_zero, List.push_toArray, List.append_toArray, List.nil_append, List.cons_append]
 refine wc_seq ?_
 refine wc_region ?_
 refine wl_new 23 (#[.int .i64 c.pu, .int .i64 c.lo, .int .i64 c.hi, .int .i64 c.rb, .int .i64 c.rp, .int .i64 c.ae, .int .i64 c.ms, .int .i64 c.ma, .int .i64 c.an, .int .i64 c.st, .int .i64 c.ss, .int .i64 c.ro, .int .i64 c.ti, .int .i64 c.br]) rfl (fun _ => by go_simp) ?_
 intro g1
 simp only [Act.put, Xa, Xz, Xs]
 refine wl_val (.slice none 0 0) rfl (fun _ => rfl) ?_
 simp only [Act.put, Xa, Xz, Xs]
 refine wl_nil ?_
 refine we_then ?_
 refine wc_seq ?_
 refine wc_region ?_
 refine wl_val (.func (.func 26) #[] #[.pointer (some ⟨g1, 0, none⟩)]) rfl (fun _ => by go_simp) ?_
 simp only [Act.put, Xa, Xz, Xs]
 refine wl_val (.func (.func 28) #[] #[.pointer (some ⟨g1, 0, none⟩)]) rfl (fun _ => by go_simp) ?_
 simp only [Act.put, Xa, Xz, Xs]
 refine wl_val (.func (.func 29) #[] #[.pointer (some ⟨g1, 0, none⟩)]) rfl (fun _ => by go_simp) ?_
 simp only [Act.put, Xa, Xz, Xs]
 refine wl_val (.func (.func 30) #[] #[.pointer (some ⟨g1, 0, none⟩)]) rfl (fun _ => by go_simp) ?_
 simp only [Act.put, Xa, Xz, Xs]
 refine wl_val (.func (.func 31) #[] #[.pointer (some ⟨g1, 0, none⟩)]) rfl (fun _ => by go_simp) ?_
 simp only [Act.put, Xa, Xz, Xs]
 refine wl_val (.func (.func 32) #[] #[.pointer (some ⟨g1, 0, none⟩)]) rfl (fun _ => by go_simp) ?_
 simp only [Act.put, Xa, Xz, Xs]
 refine wl_val (.func (.func 33) #[] #[.pointer (some ⟨g1, 0, none⟩)]) rfl (fun _ => by go_simp) ?_
 simp only [Act.put, Xa, Xz, Xs]
 refine wl_val (.func (.func 34) #[] #[.pointer (some ⟨g1, 0, none⟩)]) rfl (fun _ => by go_simp) ?_
 simp only [Act.put, Xa, Xz, Xs]
 refine wl_val (.func (.func 35) #[] #[.pointer (some ⟨g1, 0, none⟩)]) rfl (fun _ => by go_simp) ?_
 simp only [Act.put, Xa, Xz, Xs]
 refine wl_val (.func (.func 36) #[] #[.pointer (some ⟨g1, 0, none⟩)]) rfl (fun _ => by go_simp) ?_
 simp only [Act.put, Xa, Xz, Xs]
 refine wl_val (.func (.func 37) #[] #[.pointer (some ⟨g1, 0, none⟩)]) rfl (fun _ => by go_simp) ?_
 simp only [Act.put, Xa, Xz, Xs]
 refine wl_val (.func (.func 38) #[] #[.pointer (some ⟨g1, 0, none⟩)]) rfl (fun _ => by go_simp) ?_
 simp only [Act.put, Xa, Xz, Xs]
 refine wl_lit (e := 24) #[.func (.func 26) #[] #[.pointer (some ⟨g1, 0, none⟩)], .func (.func 28) #[] #[.pointer (some ⟨g1, 0, none⟩)], .func (.func 29) #[] #[.pointer (some ⟨g1, 0, none⟩)], .func (.func 30) #[] #[.pointer (some ⟨g1, 0, none⟩)], .func (.func 31) #[] #[.pointer (some ⟨g1, 0, none⟩)], .func (.func 32) #[] #[.pointer (some ⟨g1, 0, none⟩)], .func (.func 33) #[] #[.pointer (some ⟨g1, 0, none⟩)], .func (.func 34) #[] #[.pointer (some ⟨g1, 0, none⟩)], .func (.func 35) #[] #[.pointer (some ⟨g1, 0, none⟩)], .func (.func 36) #[] #[.pointer (some ⟨g1, 0, none⟩)], .func (.func 37) #[] #[.pointer (some ⟨g1, 0, none⟩)], .func (.func 38) #[] #[.pointer (some ⟨g1, 0, none⟩)]] 12 rfl (fun _ => by go_simp) ?_
 intro g2
 simp only [Act.put, Xa, Xz, Xs]
 refine wl_val (.slice (some ⟨g2, 0, none⟩) 12 12) rfl (fun _ => rfl) ?_
 simp only [Act.put, Xa, Xz, Xs]
 refine wl_nil ?_
 refine we_then ?_
 refine wc_ret ?_
 refine we_ret1 (.slice (some ⟨g2, 0, none⟩) 12 12) rfl rfl rfl (fun w1 hE => ?_)
 exact ⟨(g2, g1), trivial, rfl, hE⟩
set_option maxHeartbeats 8000000 in
theorem check_core (c : Cf) (w : World) :
  Calls Try.prog 8 #[.agg #[.int .i64 c.pu, .int .i64 c.lo, .int .i64 c.hi, .int .i64 c.rb, .int .i64 c.rp, .int .i64 c.ae, .int .i64 c.ms, .int .i64 c.ma, .int .i64 c.an, .int .i64 c.st, .int .i64 c.ss, .int .i64 c.ro, .int .i64 c.ti, .int .i64 c.br]] w fun e w' => e = .returned (.tuple #[.int .i64 (chkE c), .int .i64 ((wrong c : Nat) : Int)]) ∧ Below w.heap.size w w' := by
 refine calls_sx Try.func8 rfl ?_
 simp only [Try.ntmps8, List.size_toArray, List.length_cons, List.length_nil, Nat.reduceAdd, Nat.reduceSub, Array.replicate_succ, Array.replicate_zero, List.push_toArray, List.append_toArray, List.nil_append, List.cons_append]
 refine wc_seq ?_
 refine wc_region ?_
 refine wl_new 23 (#[.int .i64 c.pu, .int .i64 c.lo, .int .i64 c.hi, .int .i64 c.rb, .int .i64 c.rp, .int .i64 c.ae, .int .i64 c.ms, .int .i64 c.ma, .int .i64 c.an, .int .i64 c.st, .int .i64 c.ss, .int .i64 c.ro, .int .i64 c.ti, .int .i64 c.br]) rfl (fun _ => by go_simp) ?_
 intro g1
 simp only [Act.put, Xa, Xz, Xs]
 refine wl_val (.int .i64 0) rfl (fun _ => rfl) ?_
 simp only [Act.put, Xa, Xz, Xs]
 refine wl_val (.int .i64 0) rfl (fun _ => rfl) ?_
 simp only [Act.put, Xa, Xz, Xs]
 refine wl_nil ?_
 refine we_then ?_
 refine wc_seq ?_
 refine wc_seq ?_
 refine wc_region ?_
 refine wl_load 23 (.tmp 1) (own_row 0 rfl) rfl rfl rfl Try.underlying23 rfl (by kernel_rfl) ?_
 simp only [Act.put, Xa, Xz, Xs]
 refine wl_call_env (ι := Nat × Nat) 18 #[.agg #[.int .i64 c.pu, .int .i64 c.lo, .int .i64 c.hi, .int .i64 c.rb, .int .i64 c.rp, .int .i64 c.ae, .int .i64 c.ms, .int .i64 c.ma, .int .i64 c.an, .int .i64 c.st, .int .i64 c.ss, .int .i64 c.ro, .int .i64 c.ti, .int .i64 c.br]] (fun z => .slice (some ⟨z.1, 0, none⟩) 12 12) (fun z => [⟨z.1, #[.func (.func 26) #[] #[.pointer (some ⟨z.2, 0, none⟩)], .func (.func 28) #[] #[.pointer (some ⟨z.2, 0, none⟩)], .func (.func 29) #[] #[.pointer (some ⟨z.2, 0, none⟩)], .func (.func 30) #[] #[.pointer (some ⟨z.2, 0, none⟩)], .func (.func 31) #[] #[.pointer (some ⟨z.2, 0, none⟩)], .func (.func 32) #[] #[.pointer (some ⟨z.2, 0, none⟩)], .func (.func 33) #[] #[.pointer (some ⟨z.2, 0, none⟩)], .func (.func 34) #[] #[.pointer (some ⟨z.2, 0, none⟩)], .func (.func 35) #[] #[.pointer (some ⟨z.2, 0, none⟩)], .func (.func 36) #[] #[.pointer (some ⟨z.2, 0, none⟩)], .func (.func 37) #[] #[.pointer (some ⟨z.2, 0, none⟩)], .func (.func 38) #[] #[.pointer (some ⟨z.2, 0, none⟩)]], 24⟩, ⟨z.2, #[.int .i64 c.pu, .int .i64 c.lo, .int .i64 c.hi, .int .i64 c.rb, .int .i64 c.rp, .int .i64 c.ae, .int .i64 c.ms, .int .i64 c.ma, .int .i64 c.an, .int .i64 c.st, .int .i64 c.ss, .int .i64 c.ro, .int .i64 c.ti, .int .i64 c.br], 23⟩]) (fun _ => True) rfl (fun _ => by go_simp) (fun W _ => rules_any c W) ?_
 rintro ⟨g2, g3⟩ -
 simp only [List.cons_append, List.nil_append, Act.put, Xa, Xz, Xs]
 refine wl_val (.int .i64 12) rfl (fun w => er_len rfl rfl Try.underlying51 w) ?_
 simp only [Act.put, Xa, Xz, Xs]
 refine wl_val (.int .i64 0) rfl (fun _ => rfl) ?_
 simp only [Act.put, Xa, Xz, Xs]
 refine wl_nil ?_
 refine we_then ?_
 refine wc_block ?_
 refine wr_start 13 ?_
 refine wr_round ?_
 refine wc_seq ?_
 refine wc_region ?_
 refine wl_val (.bool true) rfl (fun w => run_cmp rfl rfl rfl Try.underlying3 rfl w) ?_
 simp only [Act.put, Xa, Xz, Xs]
 refine wl_nil ?_
 refine we_then ?_
 refine wc_seq ?_
 refine wc_true rfl ?_
 refine wc_skip ?_
 refine we_then ?_
 refine wc_seq ?_
 refine wc_block ?_
 refine wc_seq ?_
 refine wc_region ?_
 refine wl_val (.int .i64 0) rfl (fun _ => rfl) ?_
 simp only [Act.put, Xa, Xz, Xs]
 refine wl_read (.pointer (some ⟨g2, 0, none⟩)) rfl (er_index 0 1 (sl_row 0 rfl) rfl rfl rfl rfl (by omega) rfl (by decide) Try.underlying51 (by kernel_rfl)) ?_
 simp only [Act.put, Xa, Xz, Xs]
 refine wl_cell 24 (.tmp 12) (.func (.func 26) #[] #[.pointer (some ⟨g3, 0, none⟩)]) (own_row 0 rfl) rfl rfl rfl rfl Try.isAgg24 ?_
 simp only [Act.put, Xa, Xz, Xs]
 refine wl_val (.int .i64 0) rfl (fun _ => rfl) ?_
 simp only [Act.put, Xa, Xz, Xs]
 refine wl_val (.func (.func 26) #[] #[.pointer (some ⟨g3, 0, none⟩)]) rfl (fun _ => rfl) ?_
 simp only [Act.put, Xa, Xz, Xs]
 refine wl_nil ?_
 refine we_then ?_
 refine wc_seq ?_
 refine wc_region ?_
 refine wl_val (.func (.func 26) #[] #[.pointer (some ⟨g3, 0, none⟩)]) rfl (fun _ => rfl) ?_
 simp only [Act.put, Xa, Xz, Xs]
 refine wl_call_at 26 #[.pointer (some ⟨g3, 0, none⟩)] (.bool (decide (1 ≤ c.pu ∧ c.pu ≤ 1024))) rfl (er_valuez (enters_of Try.func26 (by kernel_rfl) rfl) rfl rfl) (fun W hE => rule1_any c g3 W (own_row 1 rfl W hE)) ?_
 simp only [Act.put, Xa, Xz, Xs]
 refine wl_val (.bool (!(decide (1 ≤ c.pu ∧ c.pu ≤ 1024)))) rfl (fun _ => by go_simp) ?_
 simp only [Act.put, Xa, Xz, Xs]
 refine wl_nil ?_
 refine we_then ?_
 cases h4 : (decide (1 ≤ c.pu ∧ c.pu ≤ 1024))
 ·
  skip
  have p4 : ¬ (1 ≤ c.pu ∧ c.pu ≤ 1024) := of_decide_eq_false h4
  refine wc_true rfl ?_
  refine wc_seq ?_
  refine wc_region ?_
  refine wl_val (.int .i64 0) rfl (fun _ => rfl) ?_
  simp only [Act.put, Xa, Xz, Xs]
  refine wl_val (.int .i64 1) rfl (fun w => run_nat (X := 0) (Y := 1) (Z := 1) rfl rfl rfl rfl (by omega) w) ?_
  simp only [Act.put, Xa, Xz, Xs]
  refine wl_val (.int .i64 50) rfl (fun _ => rfl) ?_
  simp only [Act.put, Xa, Xz, Xs]
  refine wl_val (.int .i64 1) rfl (fun _ => rfl) ?_
  simp only [Act.put, Xa, Xz, Xs]
  refine wl_nil ?_
  refine we_then ?_
  refine wc_ret ?_
  refine we_in_ret ?_
  refine we_then_ret ?_
  refine we_then_ret ?_
  refine we_in_ret ?_
  refine we_then_ret ?_
  refine we_ret2 (.int .i64 50) (.int .i64 1) rfl rfl rfl rfl (fun w1 hE => ?_)
  have e0 : wrong c = 1 := by unfold wrong; rw [if_pos (by omega)]
  exact ⟨by unfold chkE; rw [e0]; rfl, hE.below⟩
 ·
  skip
  have p4 : 1 ≤ c.pu ∧ c.pu ≤ 1024 := of_decide_eq_true h4
  refine wc_false rfl ?_
  refine wc_skip ?_
  refine we_in ?_
  refine we_then ?_
  refine wc_region ?_
  refine wl_val (.int .i64 1) rfl (fun w => run_nat (X := 0) (Y := 1) (Z := 1) rfl rfl rfl rfl (by omega) w) ?_
  simp only [Act.put, Xa, Xz, Xs]
  refine wl_val (.int .i64 1) rfl (fun _ => rfl) ?_
  simp only [Act.put, Xa, Xz, Xs]
  refine wl_nil ?_
  refine we_round ?_
  refine wr_round ?_
  refine wc_seq ?_
  refine wc_region ?_
  refine wl_val (.bool true) rfl (fun w => run_cmp rfl rfl rfl Try.underlying3 rfl w) ?_
  simp only [Act.put, Xa, Xz, Xs]
  refine wl_nil ?_
  refine we_then ?_
  refine wc_seq ?_
  refine wc_true rfl ?_
  refine wc_skip ?_
  refine we_then ?_
  refine wc_seq ?_
  refine wc_block ?_
  refine wc_seq ?_
  refine wc_region ?_
  refine wl_val (.int .i64 1) rfl (fun _ => rfl) ?_
  simp only [Act.put, Xa, Xz, Xs]
  refine wl_read (.pointer (some ⟨g2, 1, none⟩)) rfl (er_index 1 1 (sl_row 0 rfl) rfl rfl rfl rfl (by omega) rfl (by decide) Try.underlying51 (by kernel_rfl)) ?_
  simp only [Act.put, Xa, Xz, Xs]
  refine wl_cell 24 (.tmp 12) (.func (.func 28) #[] #[.pointer (some ⟨g3, 0, none⟩)]) (own_row 0 rfl) rfl rfl rfl rfl Try.isAgg24 ?_
  simp only [Act.put, Xa, Xz, Xs]
  refine wl_val (.int .i64 1) rfl (fun _ => rfl) ?_
  simp only [Act.put, Xa, Xz, Xs]
  refine wl_val (.func (.func 28) #[] #[.pointer (some ⟨g3, 0, none⟩)]) rfl (fun _ => rfl) ?_
  simp only [Act.put, Xa, Xz, Xs]
  refine wl_nil ?_
  refine we_then ?_
  refine wc_seq ?_
  refine wc_region ?_
  refine wl_val (.func (.func 28) #[] #[.pointer (some ⟨g3, 0, none⟩)]) rfl (fun _ => rfl) ?_
  simp only [Act.put, Xa, Xz, Xs]
  refine wl_call_at 28 #[.pointer (some ⟨g3, 0, none⟩)] (.bool (decide ((131072 ≤ c.lo ∧ c.lo ≤ 8388608) ∧ c.lo ≤ c.hi ∧ c.hi ≤ 8388608))) rfl (er_valuez (enters_of Try.func28 (by kernel_rfl) rfl) rfl rfl) (fun W hE => rule2_any c g3 W (own_row 1 rfl W hE)) ?_
  simp only [Act.put, Xa, Xz, Xs]
  refine wl_val (.bool (!(decide ((131072 ≤ c.lo ∧ c.lo ≤ 8388608) ∧ c.lo ≤ c.hi ∧ c.hi ≤ 8388608)))) rfl (fun _ => by go_simp) ?_
  simp only [Act.put, Xa, Xz, Xs]
  refine wl_nil ?_
  refine we_then ?_
  cases h5 : (decide ((131072 ≤ c.lo ∧ c.lo ≤ 8388608) ∧ c.lo ≤ c.hi ∧ c.hi ≤ 8388608))
  ·
   skip
   have p5 : ¬ ((131072 ≤ c.lo ∧ c.lo ≤ 8388608) ∧ c.lo ≤ c.hi ∧ c.hi ≤ 8388608) := of_decide_eq_false h5
   refine wc_true rfl ?_
   refine wc_seq ?_
   refine wc_region ?_
   refine wl_val (.int .i64 1) rfl (fun _ => rfl) ?_
   simp only [Act.put, Xa, Xz, Xs]
   refine wl_val (.int .i64 2) rfl (fun w => run_nat (X := 1) (Y := 1) (Z := 2) rfl rfl rfl rfl (by omega) w) ?_
   simp only [Act.put, Xa, Xz, Xs]
   refine wl_val (.int .i64 50) rfl (fun _ => rfl) ?_
   simp only [Act.put, Xa, Xz, Xs]
   refine wl_val (.int .i64 2) rfl (fun _ => rfl) ?_
   simp only [Act.put, Xa, Xz, Xs]
   refine wl_nil ?_
   refine we_then ?_
   refine wc_ret ?_
   refine we_in_ret ?_
   refine we_then_ret ?_
   refine we_then_ret ?_
   refine we_in_ret ?_
   refine we_then_ret ?_
   refine we_ret2 (.int .i64 50) (.int .i64 2) rfl rfl rfl rfl (fun w1 hE => ?_)
   have e0 : wrong c = 2 := by unfold wrong; rw [if_neg (by omega), if_pos (by omega)]
   exact ⟨by unfold chkE; rw [e0]; rfl, hE.below⟩
  ·
   skip
   have p5 : (131072 ≤ c.lo ∧ c.lo ≤ 8388608) ∧ c.lo ≤ c.hi ∧ c.hi ≤ 8388608 := of_decide_eq_true h5
   refine wc_false rfl ?_
   refine wc_skip ?_
   refine we_in ?_
   refine we_then ?_
   refine wc_region ?_
   refine wl_val (.int .i64 2) rfl (fun w => run_nat (X := 1) (Y := 1) (Z := 2) rfl rfl rfl rfl (by omega) w) ?_
   simp only [Act.put, Xa, Xz, Xs]
   refine wl_val (.int .i64 2) rfl (fun _ => rfl) ?_
   simp only [Act.put, Xa, Xz, Xs]
   refine wl_nil ?_
   refine we_round ?_
   refine wr_round ?_
   refine wc_seq ?_
   refine wc_region ?_
   refine wl_val (.bool true) rfl (fun w => run_cmp rfl rfl rfl Try.underlying3 rfl w) ?_
   simp only [Act.put, Xa, Xz, Xs]
   refine wl_nil ?_
   refine we_then ?_
   refine wc_seq ?_
   refine wc_true rfl ?_
   refine wc_skip ?_
   refine we_then ?_
   refine wc_seq ?_
   refine wc_block ?_
   refine wc_seq ?_
   refine wc_region ?_
   refine wl_val (.int .i64 2) rfl (fun _ => rfl) ?_
   simp only [Act.put, Xa, Xz, Xs]
   refine wl_read (.pointer (some ⟨g2, 2, none⟩)) rfl (er_index 2 1 (sl_row 0 rfl) rfl rfl rfl rfl (by omega) rfl (by decide) Try.underlying51 (by kernel_rfl)) ?_
   simp only [Act.put, Xa, Xz, Xs]
   refine wl_cell 24 (.tmp 12) (.func (.func 29) #[] #[.pointer (some ⟨g3, 0, none⟩)]) (own_row 0 rfl) rfl rfl rfl rfl Try.isAgg24 ?_
   simp only [Act.put, Xa, Xz, Xs]
   refine wl_val (.int .i64 2) rfl (fun _ => rfl) ?_
   simp only [Act.put, Xa, Xz, Xs]
   refine wl_val (.func (.func 29) #[] #[.pointer (some ⟨g3, 0, none⟩)]) rfl (fun _ => rfl) ?_
   simp only [Act.put, Xa, Xz, Xs]
   refine wl_nil ?_
   refine we_then ?_
   refine wc_seq ?_
   refine wc_region ?_
   refine wl_val (.func (.func 29) #[] #[.pointer (some ⟨g3, 0, none⟩)]) rfl (fun _ => rfl) ?_
   simp only [Act.put, Xa, Xz, Xs]
   refine wl_call_at 29 #[.pointer (some ⟨g3, 0, none⟩)] (.bool (decide (16 * (c.hi - c.lo) ≤ c.lo))) rfl (er_valuez (enters_of Try.func29 (by kernel_rfl) rfl) rfl rfl) (fun W hE => rule3_any c g3 W (own_row 1 rfl W hE) (by omega)) ?_
   simp only [Act.put, Xa, Xz, Xs]
   refine wl_val (.bool (!(decide (16 * (c.hi - c.lo) ≤ c.lo)))) rfl (fun _ => by go_simp) ?_
   simp only [Act.put, Xa, Xz, Xs]
   refine wl_nil ?_
   refine we_then ?_
   cases h6 : (decide (16 * (c.hi - c.lo) ≤ c.lo))
   ·
    skip
    have p6 : ¬ (16 * (c.hi - c.lo) ≤ c.lo) := of_decide_eq_false h6
    refine wc_true rfl ?_
    refine wc_seq ?_
    refine wc_region ?_
    refine wl_val (.int .i64 2) rfl (fun _ => rfl) ?_
    simp only [Act.put, Xa, Xz, Xs]
    refine wl_val (.int .i64 3) rfl (fun w => run_nat (X := 2) (Y := 1) (Z := 3) rfl rfl rfl rfl (by omega) w) ?_
    simp only [Act.put, Xa, Xz, Xs]
    refine wl_val (.int .i64 50) rfl (fun _ => rfl) ?_
    simp only [Act.put, Xa, Xz, Xs]
    refine wl_val (.int .i64 3) rfl (fun _ => rfl) ?_
    simp only [Act.put, Xa, Xz, Xs]
    refine wl_nil ?_
    refine we_then ?_
    refine wc_ret ?_
    refine we_in_ret ?_
    refine we_then_ret ?_
    refine we_then_ret ?_
    refine we_in_ret ?_
    refine we_then_ret ?_
    refine we_ret2 (.int .i64 50) (.int .i64 3) rfl rfl rfl rfl (fun w1 hE => ?_)
    have e0 : wrong c = 3 := by unfold wrong; rw [if_neg (by omega), if_neg (by omega), if_pos (by omega)]
    exact ⟨by unfold chkE; rw [e0]; rfl, hE.below⟩
   ·
    skip
    have p6 : 16 * (c.hi - c.lo) ≤ c.lo := of_decide_eq_true h6
    refine wc_false rfl ?_
    refine wc_skip ?_
    refine we_in ?_
    refine we_then ?_
    refine wc_region ?_
    refine wl_val (.int .i64 3) rfl (fun w => run_nat (X := 2) (Y := 1) (Z := 3) rfl rfl rfl rfl (by omega) w) ?_
    simp only [Act.put, Xa, Xz, Xs]
    refine wl_val (.int .i64 3) rfl (fun _ => rfl) ?_
    simp only [Act.put, Xa, Xz, Xs]
    refine wl_nil ?_
    refine we_round ?_
    refine wr_round ?_
    refine wc_seq ?_
    refine wc_region ?_
    refine wl_val (.bool true) rfl (fun w => run_cmp rfl rfl rfl Try.underlying3 rfl w) ?_
    simp only [Act.put, Xa, Xz, Xs]
    refine wl_nil ?_
    refine we_then ?_
    refine wc_seq ?_
    refine wc_true rfl ?_
    refine wc_skip ?_
    refine we_then ?_
    refine wc_seq ?_
    refine wc_block ?_
    refine wc_seq ?_
    refine wc_region ?_
    refine wl_val (.int .i64 3) rfl (fun _ => rfl) ?_
    simp only [Act.put, Xa, Xz, Xs]
    refine wl_read (.pointer (some ⟨g2, 3, none⟩)) rfl (er_index 3 1 (sl_row 0 rfl) rfl rfl rfl rfl (by omega) rfl (by decide) Try.underlying51 (by kernel_rfl)) ?_
    simp only [Act.put, Xa, Xz, Xs]
    refine wl_cell 24 (.tmp 12) (.func (.func 30) #[] #[.pointer (some ⟨g3, 0, none⟩)]) (own_row 0 rfl) rfl rfl rfl rfl Try.isAgg24 ?_
    simp only [Act.put, Xa, Xz, Xs]
    refine wl_val (.int .i64 3) rfl (fun _ => rfl) ?_
    simp only [Act.put, Xa, Xz, Xs]
    refine wl_val (.func (.func 30) #[] #[.pointer (some ⟨g3, 0, none⟩)]) rfl (fun _ => rfl) ?_
    simp only [Act.put, Xa, Xz, Xs]
    refine wl_nil ?_
    refine we_then ?_
    refine wc_seq ?_
    refine wc_region ?_
    refine wl_val (.func (.func 30) #[] #[.pointer (some ⟨g3, 0, none⟩)]) rfl (fun _ => rfl) ?_
    simp only [Act.put, Xa, Xz, Xs]
    refine wl_call_at 30 #[.pointer (some ⟨g3, 0, none⟩)] (.bool (decide ((0 ≤ c.rb ∧ c.rb ≤ 1048576) ∧ 0 ≤ c.rp ∧ c.rp ≤ 65536))) rfl (er_valuez (enters_of Try.func30 (by kernel_rfl) rfl) rfl rfl) (fun W hE => rule4_any c g3 W (own_row 1 rfl W hE)) ?_
    simp only [Act.put, Xa, Xz, Xs]
    refine wl_val (.bool (!(decide ((0 ≤ c.rb ∧ c.rb ≤ 1048576) ∧ 0 ≤ c.rp ∧ c.rp ≤ 65536)))) rfl (fun _ => by go_simp) ?_
    simp only [Act.put, Xa, Xz, Xs]
    refine wl_nil ?_
    refine we_then ?_
    cases h7 : (decide ((0 ≤ c.rb ∧ c.rb ≤ 1048576) ∧ 0 ≤ c.rp ∧ c.rp ≤ 65536))
    ·
     skip
     have p7 : ¬ ((0 ≤ c.rb ∧ c.rb ≤ 1048576) ∧ 0 ≤ c.rp ∧ c.rp ≤ 65536) := of_decide_eq_false h7
     refine wc_true rfl ?_
     refine wc_seq ?_
     refine wc_region ?_
     refine wl_val (.int .i64 3) rfl (fun _ => rfl) ?_
     simp only [Act.put, Xa, Xz, Xs]
     refine wl_val (.int .i64 4) rfl (fun w => run_nat (X := 3) (Y := 1) (Z := 4) rfl rfl rfl rfl (by omega) w) ?_
     simp only [Act.put, Xa, Xz, Xs]
     refine wl_val (.int .i64 50) rfl (fun _ => rfl) ?_
     simp only [Act.put, Xa, Xz, Xs]
     refine wl_val (.int .i64 4) rfl (fun _ => rfl) ?_
     simp only [Act.put, Xa, Xz, Xs]
     refine wl_nil ?_
     refine we_then ?_
     refine wc_ret ?_
     refine we_in_ret ?_
     refine we_then_ret ?_
     refine we_then_ret ?_
     refine we_in_ret ?_
     refine we_then_ret ?_
     refine we_ret2 (.int .i64 50) (.int .i64 4) rfl rfl rfl rfl (fun w1 hE => ?_)
     have e0 : wrong c = 4 := by unfold wrong; rw [if_neg (by omega), if_neg (by omega), if_neg (by omega), if_pos (by omega)]
     exact ⟨by unfold chkE; rw [e0]; rfl, hE.below⟩
    ·
     skip
     have p7 : (0 ≤ c.rb ∧ c.rb ≤ 1048576) ∧ 0 ≤ c.rp ∧ c.rp ≤ 65536 := of_decide_eq_true h7
     refine wc_false rfl ?_
     refine wc_skip ?_
     refine we_in ?_
     refine we_then ?_
     refine wc_region ?_
     refine wl_val (.int .i64 4) rfl (fun w => run_nat (X := 3) (Y := 1) (Z := 4) rfl rfl rfl rfl (by omega) w) ?_
     simp only [Act.put, Xa, Xz, Xs]
     refine wl_val (.int .i64 4) rfl (fun _ => rfl) ?_
     simp only [Act.put, Xa, Xz, Xs]
     refine wl_nil ?_
     refine we_round ?_
     refine wr_round ?_
     refine wc_seq ?_
     refine wc_region ?_
     refine wl_val (.bool true) rfl (fun w => run_cmp rfl rfl rfl Try.underlying3 rfl w) ?_
     simp only [Act.put, Xa, Xz, Xs]
     refine wl_nil ?_
     refine we_then ?_
     refine wc_seq ?_
     refine wc_true rfl ?_
     refine wc_skip ?_
     refine we_then ?_
     refine wc_seq ?_
     refine wc_block ?_
     refine wc_seq ?_
     refine wc_region ?_
     refine wl_val (.int .i64 4) rfl (fun _ => rfl) ?_
     simp only [Act.put, Xa, Xz, Xs]
     refine wl_read (.pointer (some ⟨g2, 4, none⟩)) rfl (er_index 4 1 (sl_row 0 rfl) rfl rfl rfl rfl (by omega) rfl (by decide) Try.underlying51 (by kernel_rfl)) ?_
     simp only [Act.put, Xa, Xz, Xs]
     refine wl_cell 24 (.tmp 12) (.func (.func 31) #[] #[.pointer (some ⟨g3, 0, none⟩)]) (own_row 0 rfl) rfl rfl rfl rfl Try.isAgg24 ?_
     simp only [Act.put, Xa, Xz, Xs]
     refine wl_val (.int .i64 4) rfl (fun _ => rfl) ?_
     simp only [Act.put, Xa, Xz, Xs]
     refine wl_val (.func (.func 31) #[] #[.pointer (some ⟨g3, 0, none⟩)]) rfl (fun _ => rfl) ?_
     simp only [Act.put, Xa, Xz, Xs]
     refine wl_nil ?_
     refine we_then ?_
     refine wc_seq ?_
     refine wc_region ?_
     refine wl_val (.func (.func 31) #[] #[.pointer (some ⟨g3, 0, none⟩)]) rfl (fun _ => rfl) ?_
     simp only [Act.put, Xa, Xz, Xs]
     refine wl_call_at 31 #[.pointer (some ⟨g3, 0, none⟩)] (.bool (decide (0 ≤ c.ae ∧ c.ae ≤ 1048576))) rfl (er_valuez (enters_of Try.func31 (by kernel_rfl) rfl) rfl rfl) (fun W hE => rule5_any c g3 W (own_row 1 rfl W hE)) ?_
     simp only [Act.put, Xa, Xz, Xs]
     refine wl_val (.bool (!(decide (0 ≤ c.ae ∧ c.ae ≤ 1048576)))) rfl (fun _ => by go_simp) ?_
     simp only [Act.put, Xa, Xz, Xs]
     refine wl_nil ?_
     refine we_then ?_
     cases h8 : (decide (0 ≤ c.ae ∧ c.ae ≤ 1048576))
     ·
      skip
      have p8 : ¬ (0 ≤ c.ae ∧ c.ae ≤ 1048576) := of_decide_eq_false h8
      refine wc_true rfl ?_
      refine wc_seq ?_
      refine wc_region ?_
      refine wl_val (.int .i64 4) rfl (fun _ => rfl) ?_
      simp only [Act.put, Xa, Xz, Xs]
      refine wl_val (.int .i64 5) rfl (fun w => run_nat (X := 4) (Y := 1) (Z := 5) rfl rfl rfl rfl (by omega) w) ?_
      simp only [Act.put, Xa, Xz, Xs]
      refine wl_val (.int .i64 50) rfl (fun _ => rfl) ?_
      simp only [Act.put, Xa, Xz, Xs]
      refine wl_val (.int .i64 5) rfl (fun _ => rfl) ?_
      simp only [Act.put, Xa, Xz, Xs]
      refine wl_nil ?_
      refine we_then ?_
      refine wc_ret ?_
      refine we_in_ret ?_
      refine we_then_ret ?_
      refine we_then_ret ?_
      refine we_in_ret ?_
      refine we_then_ret ?_
      refine we_ret2 (.int .i64 50) (.int .i64 5) rfl rfl rfl rfl (fun w1 hE => ?_)
      have e0 : wrong c = 5 := by unfold wrong; rw [if_neg (by omega), if_neg (by omega), if_neg (by omega), if_neg (by omega), if_pos (by omega)]
      exact ⟨by unfold chkE; rw [e0]; rfl, hE.below⟩
     ·
      skip
      have p8 : 0 ≤ c.ae ∧ c.ae ≤ 1048576 := of_decide_eq_true h8
      refine wc_false rfl ?_
      refine wc_skip ?_
      refine we_in ?_
      refine we_then ?_
      refine wc_region ?_
      refine wl_val (.int .i64 5) rfl (fun w => run_nat (X := 4) (Y := 1) (Z := 5) rfl rfl rfl rfl (by omega) w) ?_
      simp only [Act.put, Xa, Xz, Xs]
      refine wl_val (.int .i64 5) rfl (fun _ => rfl) ?_
      simp only [Act.put, Xa, Xz, Xs]
      refine wl_nil ?_
      refine we_round ?_
      refine wr_round ?_
      refine wc_seq ?_
      refine wc_region ?_
      refine wl_val (.bool true) rfl (fun w => run_cmp rfl rfl rfl Try.underlying3 rfl w) ?_
      simp only [Act.put, Xa, Xz, Xs]
      refine wl_nil ?_
      refine we_then ?_
      refine wc_seq ?_
      refine wc_true rfl ?_
      refine wc_skip ?_
      refine we_then ?_
      refine wc_seq ?_
      refine wc_block ?_
      refine wc_seq ?_
      refine wc_region ?_
      refine wl_val (.int .i64 5) rfl (fun _ => rfl) ?_
      simp only [Act.put, Xa, Xz, Xs]
      refine wl_read (.pointer (some ⟨g2, 5, none⟩)) rfl (er_index 5 1 (sl_row 0 rfl) rfl rfl rfl rfl (by omega) rfl (by decide) Try.underlying51 (by kernel_rfl)) ?_
      simp only [Act.put, Xa, Xz, Xs]
      refine wl_cell 24 (.tmp 12) (.func (.func 32) #[] #[.pointer (some ⟨g3, 0, none⟩)]) (own_row 0 rfl) rfl rfl rfl rfl Try.isAgg24 ?_
      simp only [Act.put, Xa, Xz, Xs]
      refine wl_val (.int .i64 5) rfl (fun _ => rfl) ?_
      simp only [Act.put, Xa, Xz, Xs]
      refine wl_val (.func (.func 32) #[] #[.pointer (some ⟨g3, 0, none⟩)]) rfl (fun _ => rfl) ?_
      simp only [Act.put, Xa, Xz, Xs]
      refine wl_nil ?_
      refine we_then ?_
      refine wc_seq ?_
      refine wc_region ?_
      refine wl_val (.func (.func 32) #[] #[.pointer (some ⟨g3, 0, none⟩)]) rfl (fun _ => rfl) ?_
      simp only [Act.put, Xa, Xz, Xs]
      refine wl_call_at 32 #[.pointer (some ⟨g3, 0, none⟩)] (.bool (decide ((1 ≤ c.ms ∧ c.ms ≤ 16777216) ∧ 1 ≤ c.ma ∧ c.ma ≤ 1048576))) rfl (er_valuez (enters_of Try.func32 (by kernel_rfl) rfl) rfl rfl) (fun W hE => rule6_any c g3 W (own_row 1 rfl W hE)) ?_
      simp only [Act.put, Xa, Xz, Xs]
      refine wl_val (.bool (!(decide ((1 ≤ c.ms ∧ c.ms ≤ 16777216) ∧ 1 ≤ c.ma ∧ c.ma ≤ 1048576)))) rfl (fun _ => by go_simp) ?_
      simp only [Act.put, Xa, Xz, Xs]
      refine wl_nil ?_
      refine we_then ?_
      cases h9 : (decide ((1 ≤ c.ms ∧ c.ms ≤ 16777216) ∧ 1 ≤ c.ma ∧ c.ma ≤ 1048576))
      ·
       skip
       have p9 : ¬ ((1 ≤ c.ms ∧ c.ms ≤ 16777216) ∧ 1 ≤ c.ma ∧ c.ma ≤ 1048576) := of_decide_eq_false h9
       refine wc_true rfl ?_
       refine wc_seq ?_
       refine wc_region ?_
       refine wl_val (.int .i64 5) rfl (fun _ => rfl) ?_
       simp only [Act.put, Xa, Xz, Xs]
       refine wl_val (.int .i64 6) rfl (fun w => run_nat (X := 5) (Y := 1) (Z := 6) rfl rfl rfl rfl (by omega) w) ?_
       simp only [Act.put, Xa, Xz, Xs]
       refine wl_val (.int .i64 50) rfl (fun _ => rfl) ?_
       simp only [Act.put, Xa, Xz, Xs]
       refine wl_val (.int .i64 6) rfl (fun _ => rfl) ?_
       simp only [Act.put, Xa, Xz, Xs]
       refine wl_nil ?_
       refine we_then ?_
       refine wc_ret ?_
       refine we_in_ret ?_
       refine we_then_ret ?_
       refine we_then_ret ?_
       refine we_in_ret ?_
       refine we_then_ret ?_
       refine we_ret2 (.int .i64 50) (.int .i64 6) rfl rfl rfl rfl (fun w1 hE => ?_)
       have e0 : wrong c = 6 := by unfold wrong; rw [if_neg (by omega), if_neg (by omega), if_neg (by omega), if_neg (by omega), if_neg (by omega), if_pos (by omega)]
       exact ⟨by unfold chkE; rw [e0]; rfl, hE.below⟩
      ·
       skip
       have p9 : (1 ≤ c.ms ∧ c.ms ≤ 16777216) ∧ 1 ≤ c.ma ∧ c.ma ≤ 1048576 := of_decide_eq_true h9
       refine wc_false rfl ?_
       refine wc_skip ?_
       refine we_in ?_
       refine we_then ?_
       refine wc_region ?_
       refine wl_val (.int .i64 6) rfl (fun w => run_nat (X := 5) (Y := 1) (Z := 6) rfl rfl rfl rfl (by omega) w) ?_
       simp only [Act.put, Xa, Xz, Xs]
       refine wl_val (.int .i64 6) rfl (fun _ => rfl) ?_
       simp only [Act.put, Xa, Xz, Xs]
       refine wl_nil ?_
       refine we_round ?_
       refine wr_round ?_
       refine wc_seq ?_
       refine wc_region ?_
       refine wl_val (.bool true) rfl (fun w => run_cmp rfl rfl rfl Try.underlying3 rfl w) ?_
       simp only [Act.put, Xa, Xz, Xs]
       refine wl_nil ?_
       refine we_then ?_
       refine wc_seq ?_
       refine wc_true rfl ?_
       refine wc_skip ?_
       refine we_then ?_
       refine wc_seq ?_
       refine wc_block ?_
       refine wc_seq ?_
       refine wc_region ?_
       refine wl_val (.int .i64 6) rfl (fun _ => rfl) ?_
       simp only [Act.put, Xa, Xz, Xs]
       refine wl_read (.pointer (some ⟨g2, 6, none⟩)) rfl (er_index 6 1 (sl_row 0 rfl) rfl rfl rfl rfl (by omega) rfl (by decide) Try.underlying51 (by kernel_rfl)) ?_
       simp only [Act.put, Xa, Xz, Xs]
       refine wl_cell 24 (.tmp 12) (.func (.func 33) #[] #[.pointer (some ⟨g3, 0, none⟩)]) (own_row 0 rfl) rfl rfl rfl rfl Try.isAgg24 ?_
       simp only [Act.put, Xa, Xz, Xs]
       refine wl_val (.int .i64 6) rfl (fun _ => rfl) ?_
       simp only [Act.put, Xa, Xz, Xs]
       refine wl_val (.func (.func 33) #[] #[.pointer (some ⟨g3, 0, none⟩)]) rfl (fun _ => rfl) ?_
       simp only [Act.put, Xa, Xz, Xs]
       refine wl_nil ?_
       refine we_then ?_
       refine wc_seq ?_
       refine wc_region ?_
       refine wl_val (.func (.func 33) #[] #[.pointer (some ⟨g3, 0, none⟩)]) rfl (fun _ => rfl) ?_
       simp only [Act.put, Xa, Xz, Xs]
       refine wl_call_at 33 #[.pointer (some ⟨g3, 0, none⟩)] (.bool (decide (c.ms * c.pu ≤ 32000 * c.lo))) rfl (er_valuez (enters_of Try.func33 (by kernel_rfl) rfl) rfl rfl) (fun W hE => rule7_any c g3 W (own_row 1 rfl W hE) (by omega) (by omega) (by omega)) ?_
       simp only [Act.put, Xa, Xz, Xs]
       refine wl_val (.bool (!(decide (c.ms * c.pu ≤ 32000 * c.lo)))) rfl (fun _ => by go_simp) ?_
       simp only [Act.put, Xa, Xz, Xs]
       refine wl_nil ?_
       refine we_then ?_
       cases h10 : (decide (c.ms * c.pu ≤ 32000 * c.lo))
       ·
        skip
        have p10 : ¬ (c.ms * c.pu ≤ 32000 * c.lo) := of_decide_eq_false h10
        refine wc_true rfl ?_
        refine wc_seq ?_
        refine wc_region ?_
        refine wl_val (.int .i64 6) rfl (fun _ => rfl) ?_
        simp only [Act.put, Xa, Xz, Xs]
        refine wl_val (.int .i64 7) rfl (fun w => run_nat (X := 6) (Y := 1) (Z := 7) rfl rfl rfl rfl (by omega) w) ?_
        simp only [Act.put, Xa, Xz, Xs]
        refine wl_val (.int .i64 50) rfl (fun _ => rfl) ?_
        simp only [Act.put, Xa, Xz, Xs]
        refine wl_val (.int .i64 7) rfl (fun _ => rfl) ?_
        simp only [Act.put, Xa, Xz, Xs]
        refine wl_nil ?_
        refine we_then ?_
        refine wc_ret ?_
        refine we_in_ret ?_
        refine we_then_ret ?_
        refine we_then_ret ?_
        refine we_in_ret ?_
        refine we_then_ret ?_
        refine we_ret2 (.int .i64 50) (.int .i64 7) rfl rfl rfl rfl (fun w1 hE => ?_)
        have e0 : wrong c = 7 := by unfold wrong; rw [if_neg (by omega), if_neg (by omega), if_neg (by omega), if_neg (by omega), if_neg (by omega), if_neg (by omega), if_pos (by omega)]
        exact ⟨by unfold chkE; rw [e0]; rfl, hE.below⟩
       ·
        skip
        have p10 : c.ms * c.pu ≤ 32000 * c.lo := of_decide_eq_true h10
        refine wc_false rfl ?_
        refine wc_skip ?_
        refine we_in ?_
        refine we_then ?_
        refine wc_region ?_
        refine wl_val (.int .i64 7) rfl (fun w => run_nat (X := 6) (Y := 1) (Z := 7) rfl rfl rfl rfl (by omega) w) ?_
        simp only [Act.put, Xa, Xz, Xs]
        refine wl_val (.int .i64 7) rfl (fun _ => rfl) ?_
        simp only [Act.put, Xa, Xz, Xs]
        refine wl_nil ?_
        refine we_round ?_
        refine wr_round ?_
        refine wc_seq ?_
        refine wc_region ?_
        refine wl_val (.bool true) rfl (fun w => run_cmp rfl rfl rfl Try.underlying3 rfl w) ?_
        simp only [Act.put, Xa, Xz, Xs]
        refine wl_nil ?_
        refine we_then ?_
        refine wc_seq ?_
        refine wc_true rfl ?_
        refine wc_skip ?_
        refine we_then ?_
        refine wc_seq ?_
        refine wc_block ?_
        refine wc_seq ?_
        refine wc_region ?_
        refine wl_val (.int .i64 7) rfl (fun _ => rfl) ?_
        simp only [Act.put, Xa, Xz, Xs]
        refine wl_read (.pointer (some ⟨g2, 7, none⟩)) rfl (er_index 7 1 (sl_row 0 rfl) rfl rfl rfl rfl (by omega) rfl (by decide) Try.underlying51 (by kernel_rfl)) ?_
        simp only [Act.put, Xa, Xz, Xs]
        refine wl_cell 24 (.tmp 12) (.func (.func 34) #[] #[.pointer (some ⟨g3, 0, none⟩)]) (own_row 0 rfl) rfl rfl rfl rfl Try.isAgg24 ?_
        simp only [Act.put, Xa, Xz, Xs]
        refine wl_val (.int .i64 7) rfl (fun _ => rfl) ?_
        simp only [Act.put, Xa, Xz, Xs]
        refine wl_val (.func (.func 34) #[] #[.pointer (some ⟨g3, 0, none⟩)]) rfl (fun _ => rfl) ?_
        simp only [Act.put, Xa, Xz, Xs]
        refine wl_nil ?_
        refine we_then ?_
        refine wc_seq ?_
        refine wc_region ?_
        refine wl_val (.func (.func 34) #[] #[.pointer (some ⟨g3, 0, none⟩)]) rfl (fun _ => rfl) ?_
        simp only [Act.put, Xa, Xz, Xs]
        refine wl_call_at 34 #[.pointer (some ⟨g3, 0, none⟩)] (.bool (decide (0 ≤ c.an ∧ c.an ≤ 1048576))) rfl (er_valuez (enters_of Try.func34 (by kernel_rfl) rfl) rfl rfl) (fun W hE => rule8_any c g3 W (own_row 1 rfl W hE)) ?_
        simp only [Act.put, Xa, Xz, Xs]
        refine wl_val (.bool (!(decide (0 ≤ c.an ∧ c.an ≤ 1048576)))) rfl (fun _ => by go_simp) ?_
        simp only [Act.put, Xa, Xz, Xs]
        refine wl_nil ?_
        refine we_then ?_
        cases h11 : (decide (0 ≤ c.an ∧ c.an ≤ 1048576))
        ·
         skip
         have p11 : ¬ (0 ≤ c.an ∧ c.an ≤ 1048576) := of_decide_eq_false h11
         refine wc_true rfl ?_
         refine wc_seq ?_
         refine wc_region ?_
         refine wl_val (.int .i64 7) rfl (fun _ => rfl) ?_
         simp only [Act.put, Xa, Xz, Xs]
         refine wl_val (.int .i64 8) rfl (fun w => run_nat (X := 7) (Y := 1) (Z := 8) rfl rfl rfl rfl (by omega) w) ?_
         simp only [Act.put, Xa, Xz, Xs]
         refine wl_val (.int .i64 50) rfl (fun _ => rfl) ?_
         simp only [Act.put, Xa, Xz, Xs]
         refine wl_val (.int .i64 8) rfl (fun _ => rfl) ?_
         simp only [Act.put, Xa, Xz, Xs]
         refine wl_nil ?_
         refine we_then ?_
         refine wc_ret ?_
         refine we_in_ret ?_
         refine we_then_ret ?_
         refine we_then_ret ?_
         refine we_in_ret ?_
         refine we_then_ret ?_
         refine we_ret2 (.int .i64 50) (.int .i64 8) rfl rfl rfl rfl (fun w1 hE => ?_)
         have e0 : wrong c = 8 := by unfold wrong; rw [if_neg (by omega), if_neg (by omega), if_neg (by omega), if_neg (by omega), if_neg (by omega), if_neg (by omega), if_neg (by omega), if_pos (by omega)]
         exact ⟨by unfold chkE; rw [e0]; rfl, hE.below⟩
        ·
         skip
         have p11 : 0 ≤ c.an ∧ c.an ≤ 1048576 := of_decide_eq_true h11
         refine wc_false rfl ?_
         refine wc_skip ?_
         refine we_in ?_
         refine we_then ?_
         refine wc_region ?_
         refine wl_val (.int .i64 8) rfl (fun w => run_nat (X := 7) (Y := 1) (Z := 8) rfl rfl rfl rfl (by omega) w) ?_
         simp only [Act.put, Xa, Xz, Xs]
         refine wl_val (.int .i64 8) rfl (fun _ => rfl) ?_
         simp only [Act.put, Xa, Xz, Xs]
         refine wl_nil ?_
         refine we_round ?_
         refine wr_round ?_
         refine wc_seq ?_
         refine wc_region ?_
         refine wl_val (.bool true) rfl (fun w => run_cmp rfl rfl rfl Try.underlying3 rfl w) ?_
         simp only [Act.put, Xa, Xz, Xs]
         refine wl_nil ?_
         refine we_then ?_
         refine wc_seq ?_
         refine wc_true rfl ?_
         refine wc_skip ?_
         refine we_then ?_
         refine wc_seq ?_
         refine wc_block ?_
         refine wc_seq ?_
         refine wc_region ?_
         refine wl_val (.int .i64 8) rfl (fun _ => rfl) ?_
         simp only [Act.put, Xa, Xz, Xs]
         refine wl_read (.pointer (some ⟨g2, 8, none⟩)) rfl (er_index 8 1 (sl_row 0 rfl) rfl rfl rfl rfl (by omega) rfl (by decide) Try.underlying51 (by kernel_rfl)) ?_
         simp only [Act.put, Xa, Xz, Xs]
         refine wl_cell 24 (.tmp 12) (.func (.func 35) #[] #[.pointer (some ⟨g3, 0, none⟩)]) (own_row 0 rfl) rfl rfl rfl rfl Try.isAgg24 ?_
         simp only [Act.put, Xa, Xz, Xs]
         refine wl_val (.int .i64 8) rfl (fun _ => rfl) ?_
         simp only [Act.put, Xa, Xz, Xs]
         refine wl_val (.func (.func 35) #[] #[.pointer (some ⟨g3, 0, none⟩)]) rfl (fun _ => rfl) ?_
         simp only [Act.put, Xa, Xz, Xs]
         refine wl_nil ?_
         refine we_then ?_
         refine wc_seq ?_
         refine wc_region ?_
         refine wl_val (.func (.func 35) #[] #[.pointer (some ⟨g3, 0, none⟩)]) rfl (fun _ => rfl) ?_
         simp only [Act.put, Xa, Xz, Xs]
         refine wl_call_at 35 #[.pointer (some ⟨g3, 0, none⟩)] (.bool (decide ((1 ≤ c.st ∧ c.st ≤ 1000) ∧ 1 ≤ c.ti ∧ c.ti ≤ 1000))) rfl (er_valuez (enters_of Try.func35 (by kernel_rfl) rfl) rfl rfl) (fun W hE => rule9_any c g3 W (own_row 1 rfl W hE)) ?_
         simp only [Act.put, Xa, Xz, Xs]
         refine wl_val (.bool (!(decide ((1 ≤ c.st ∧ c.st ≤ 1000) ∧ 1 ≤ c.ti ∧ c.ti ≤ 1000)))) rfl (fun _ => by go_simp) ?_
         simp only [Act.put, Xa, Xz, Xs]
         refine wl_nil ?_
         refine we_then ?_
         cases h12 : (decide ((1 ≤ c.st ∧ c.st ≤ 1000) ∧ 1 ≤ c.ti ∧ c.ti ≤ 1000))
         ·
          skip
          have p12 : ¬ ((1 ≤ c.st ∧ c.st ≤ 1000) ∧ 1 ≤ c.ti ∧ c.ti ≤ 1000) := of_decide_eq_false h12
          refine wc_true rfl ?_
          refine wc_seq ?_
          refine wc_region ?_
          refine wl_val (.int .i64 8) rfl (fun _ => rfl) ?_
          simp only [Act.put, Xa, Xz, Xs]
          refine wl_val (.int .i64 9) rfl (fun w => run_nat (X := 8) (Y := 1) (Z := 9) rfl rfl rfl rfl (by omega) w) ?_
          simp only [Act.put, Xa, Xz, Xs]
          refine wl_val (.int .i64 50) rfl (fun _ => rfl) ?_
          simp only [Act.put, Xa, Xz, Xs]
          refine wl_val (.int .i64 9) rfl (fun _ => rfl) ?_
          simp only [Act.put, Xa, Xz, Xs]
          refine wl_nil ?_
          refine we_then ?_
          refine wc_ret ?_
          refine we_in_ret ?_
          refine we_then_ret ?_
          refine we_then_ret ?_
          refine we_in_ret ?_
          refine we_then_ret ?_
          refine we_ret2 (.int .i64 50) (.int .i64 9) rfl rfl rfl rfl (fun w1 hE => ?_)
          have e0 : wrong c = 9 := by unfold wrong; rw [if_neg (by omega), if_neg (by omega), if_neg (by omega), if_neg (by omega), if_neg (by omega), if_neg (by omega), if_neg (by omega), if_neg (by omega), if_pos (by omega)]
          exact ⟨by unfold chkE; rw [e0]; rfl, hE.below⟩
         ·
          skip
          have p12 : (1 ≤ c.st ∧ c.st ≤ 1000) ∧ 1 ≤ c.ti ∧ c.ti ≤ 1000 := of_decide_eq_true h12
          refine wc_false rfl ?_
          refine wc_skip ?_
          refine we_in ?_
          refine we_then ?_
          refine wc_region ?_
          refine wl_val (.int .i64 9) rfl (fun w => run_nat (X := 8) (Y := 1) (Z := 9) rfl rfl rfl rfl (by omega) w) ?_
          simp only [Act.put, Xa, Xz, Xs]
          refine wl_val (.int .i64 9) rfl (fun _ => rfl) ?_
          simp only [Act.put, Xa, Xz, Xs]
          refine wl_nil ?_
          refine we_round ?_
          refine wr_round ?_
          refine wc_seq ?_
          refine wc_region ?_
          refine wl_val (.bool true) rfl (fun w => run_cmp rfl rfl rfl Try.underlying3 rfl w) ?_
          simp only [Act.put, Xa, Xz, Xs]
          refine wl_nil ?_
          refine we_then ?_
          refine wc_seq ?_
          refine wc_true rfl ?_
          refine wc_skip ?_
          refine we_then ?_
          refine wc_seq ?_
          refine wc_block ?_
          refine wc_seq ?_
          refine wc_region ?_
          refine wl_val (.int .i64 9) rfl (fun _ => rfl) ?_
          simp only [Act.put, Xa, Xz, Xs]
          refine wl_read (.pointer (some ⟨g2, 9, none⟩)) rfl (er_index 9 1 (sl_row 0 rfl) rfl rfl rfl rfl (by omega) rfl (by decide) Try.underlying51 (by kernel_rfl)) ?_
          simp only [Act.put, Xa, Xz, Xs]
          refine wl_cell 24 (.tmp 12) (.func (.func 36) #[] #[.pointer (some ⟨g3, 0, none⟩)]) (own_row 0 rfl) rfl rfl rfl rfl Try.isAgg24 ?_
          simp only [Act.put, Xa, Xz, Xs]
          refine wl_val (.int .i64 9) rfl (fun _ => rfl) ?_
          simp only [Act.put, Xa, Xz, Xs]
          refine wl_val (.func (.func 36) #[] #[.pointer (some ⟨g3, 0, none⟩)]) rfl (fun _ => rfl) ?_
          simp only [Act.put, Xa, Xz, Xs]
          refine wl_nil ?_
          refine we_then ?_
          refine wc_seq ?_
          refine wc_region ?_
          refine wl_val (.func (.func 36) #[] #[.pointer (some ⟨g3, 0, none⟩)]) rfl (fun _ => rfl) ?_
          simp only [Act.put, Xa, Xz, Xs]
          refine wl_call_at 36 #[.pointer (some ⟨g3, 0, none⟩)] (.bool (decide (max (upq c.hi c.pu) (3 * c.rb) ≤ c.ss ∧ c.ss ≤ 16777216))) rfl (er_valuez (enters_of Try.func36 (by kernel_rfl) rfl) rfl rfl) (fun W hE => rule10_any c g3 W (own_row 1 rfl W hE) (by omega) (by omega) (by omega)) ?_
          simp only [Act.put, Xa, Xz, Xs]
          refine wl_val (.bool (!(decide (max (upq c.hi c.pu) (3 * c.rb) ≤ c.ss ∧ c.ss ≤ 16777216)))) rfl (fun _ => by go_simp) ?_
          simp only [Act.put, Xa, Xz, Xs]
          refine wl_nil ?_
          refine we_then ?_
          cases h13 : (decide (max (upq c.hi c.pu) (3 * c.rb) ≤ c.ss ∧ c.ss ≤ 16777216))
          ·
           skip
           have p13 : ¬ (max (upq c.hi c.pu) (3 * c.rb) ≤ c.ss ∧ c.ss ≤ 16777216) := of_decide_eq_false h13
           refine wc_true rfl ?_
           refine wc_seq ?_
           refine wc_region ?_
           refine wl_val (.int .i64 9) rfl (fun _ => rfl) ?_
           simp only [Act.put, Xa, Xz, Xs]
           refine wl_val (.int .i64 10) rfl (fun w => run_nat (X := 9) (Y := 1) (Z := 10) rfl rfl rfl rfl (by omega) w) ?_
           simp only [Act.put, Xa, Xz, Xs]
           refine wl_val (.int .i64 50) rfl (fun _ => rfl) ?_
           simp only [Act.put, Xa, Xz, Xs]
           refine wl_val (.int .i64 10) rfl (fun _ => rfl) ?_
           simp only [Act.put, Xa, Xz, Xs]
           refine wl_nil ?_
           refine we_then ?_
           refine wc_ret ?_
           refine we_in_ret ?_
           refine we_then_ret ?_
           refine we_then_ret ?_
           refine we_in_ret ?_
           refine we_then_ret ?_
           refine we_ret2 (.int .i64 50) (.int .i64 10) rfl rfl rfl rfl (fun w1 hE => ?_)
           have e0 : wrong c = 10 := by unfold wrong; rw [if_neg (by omega), if_neg (by omega), if_neg (by omega), if_neg (by omega), if_neg (by omega), if_neg (by omega), if_neg (by omega), if_neg (by omega), if_neg (by omega), if_pos (by omega)]
           exact ⟨by unfold chkE; rw [e0]; rfl, hE.below⟩
          ·
           skip
           have p13 : max (upq c.hi c.pu) (3 * c.rb) ≤ c.ss ∧ c.ss ≤ 16777216 := of_decide_eq_true h13
           refine wc_false rfl ?_
           refine wc_skip ?_
           refine we_in ?_
           refine we_then ?_
           refine wc_region ?_
           refine wl_val (.int .i64 10) rfl (fun w => run_nat (X := 9) (Y := 1) (Z := 10) rfl rfl rfl rfl (by omega) w) ?_
           simp only [Act.put, Xa, Xz, Xs]
           refine wl_val (.int .i64 10) rfl (fun _ => rfl) ?_
           simp only [Act.put, Xa, Xz, Xs]
           refine wl_nil ?_
           refine we_round ?_
           refine wr_round ?_
           refine wc_seq ?_
           refine wc_region ?_
           refine wl_val (.bool true) rfl (fun w => run_cmp rfl rfl rfl Try.underlying3 rfl w) ?_
           simp only [Act.put, Xa, Xz, Xs]
           refine wl_nil ?_
           refine we_then ?_
           refine wc_seq ?_
           refine wc_true rfl ?_
           refine wc_skip ?_
           refine we_then ?_
           refine wc_seq ?_
           refine wc_block ?_
           refine wc_seq ?_
           refine wc_region ?_
           refine wl_val (.int .i64 10) rfl (fun _ => rfl) ?_
           simp only [Act.put, Xa, Xz, Xs]
           refine wl_read (.pointer (some ⟨g2, 10, none⟩)) rfl (er_index 10 1 (sl_row 0 rfl) rfl rfl rfl rfl (by omega) rfl (by decide) Try.underlying51 (by kernel_rfl)) ?_
           simp only [Act.put, Xa, Xz, Xs]
           refine wl_cell 24 (.tmp 12) (.func (.func 37) #[] #[.pointer (some ⟨g3, 0, none⟩)]) (own_row 0 rfl) rfl rfl rfl rfl Try.isAgg24 ?_
           simp only [Act.put, Xa, Xz, Xs]
           refine wl_val (.int .i64 10) rfl (fun _ => rfl) ?_
           simp only [Act.put, Xa, Xz, Xs]
           refine wl_val (.func (.func 37) #[] #[.pointer (some ⟨g3, 0, none⟩)]) rfl (fun _ => rfl) ?_
           simp only [Act.put, Xa, Xz, Xs]
           refine wl_nil ?_
           refine we_then ?_
           refine wc_seq ?_
           refine wc_region ?_
           refine wl_val (.func (.func 37) #[] #[.pointer (some ⟨g3, 0, none⟩)]) rfl (fun _ => rfl) ?_
           simp only [Act.put, Xa, Xz, Xs]
           refine wl_call_at 37 #[.pointer (some ⟨g3, 0, none⟩)] (.bool (decide (0 ≤ c.ro ∧ c.ro ≤ 1073741824))) rfl (er_valuez (enters_of Try.func37 (by kernel_rfl) rfl) rfl rfl) (fun W hE => rule11_any c g3 W (own_row 1 rfl W hE)) ?_
           simp only [Act.put, Xa, Xz, Xs]
           refine wl_val (.bool (!(decide (0 ≤ c.ro ∧ c.ro ≤ 1073741824)))) rfl (fun _ => by go_simp) ?_
           simp only [Act.put, Xa, Xz, Xs]
           refine wl_nil ?_
           refine we_then ?_
           cases h14 : (decide (0 ≤ c.ro ∧ c.ro ≤ 1073741824))
           ·
            skip
            have p14 : ¬ (0 ≤ c.ro ∧ c.ro ≤ 1073741824) := of_decide_eq_false h14
            refine wc_true rfl ?_
            refine wc_seq ?_
            refine wc_region ?_
            refine wl_val (.int .i64 10) rfl (fun _ => rfl) ?_
            simp only [Act.put, Xa, Xz, Xs]
            refine wl_val (.int .i64 11) rfl (fun w => run_nat (X := 10) (Y := 1) (Z := 11) rfl rfl rfl rfl (by omega) w) ?_
            simp only [Act.put, Xa, Xz, Xs]
            refine wl_val (.int .i64 50) rfl (fun _ => rfl) ?_
            simp only [Act.put, Xa, Xz, Xs]
            refine wl_val (.int .i64 11) rfl (fun _ => rfl) ?_
            simp only [Act.put, Xa, Xz, Xs]
            refine wl_nil ?_
            refine we_then ?_
            refine wc_ret ?_
            refine we_in_ret ?_
            refine we_then_ret ?_
            refine we_then_ret ?_
            refine we_in_ret ?_
            refine we_then_ret ?_
            refine we_ret2 (.int .i64 50) (.int .i64 11) rfl rfl rfl rfl (fun w1 hE => ?_)
            have e0 : wrong c = 11 := by unfold wrong; rw [if_neg (by omega), if_neg (by omega), if_neg (by omega), if_neg (by omega), if_neg (by omega), if_neg (by omega), if_neg (by omega), if_neg (by omega), if_neg (by omega), if_neg (by omega), if_pos (by omega)]
            exact ⟨by unfold chkE; rw [e0]; rfl, hE.below⟩
           ·
            skip
            have p14 : 0 ≤ c.ro ∧ c.ro ≤ 1073741824 := of_decide_eq_true h14
            refine wc_false rfl ?_
            refine wc_skip ?_
            refine we_in ?_
            refine we_then ?_
            refine wc_region ?_
            refine wl_val (.int .i64 11) rfl (fun w => run_nat (X := 10) (Y := 1) (Z := 11) rfl rfl rfl rfl (by omega) w) ?_
            simp only [Act.put, Xa, Xz, Xs]
            refine wl_val (.int .i64 11) rfl (fun _ => rfl) ?_
            simp only [Act.put, Xa, Xz, Xs]
            refine wl_nil ?_
            refine we_round ?_
            refine wr_round ?_
            refine wc_seq ?_
            refine wc_region ?_
            refine wl_val (.bool true) rfl (fun w => run_cmp rfl rfl rfl Try.underlying3 rfl w) ?_
            simp only [Act.put, Xa, Xz, Xs]
            refine wl_nil ?_
            refine we_then ?_
            refine wc_seq ?_
            refine wc_true rfl ?_
            refine wc_skip ?_
            refine we_then ?_
            refine wc_seq ?_
            refine wc_block ?_
            refine wc_seq ?_
            refine wc_region ?_
            refine wl_val (.int .i64 11) rfl (fun _ => rfl) ?_
            simp only [Act.put, Xa, Xz, Xs]
            refine wl_read (.pointer (some ⟨g2, 11, none⟩)) rfl (er_index 11 1 (sl_row 0 rfl) rfl rfl rfl rfl (by omega) rfl (by decide) Try.underlying51 (by kernel_rfl)) ?_
            simp only [Act.put, Xa, Xz, Xs]
            refine wl_cell 24 (.tmp 12) (.func (.func 38) #[] #[.pointer (some ⟨g3, 0, none⟩)]) (own_row 0 rfl) rfl rfl rfl rfl Try.isAgg24 ?_
            simp only [Act.put, Xa, Xz, Xs]
            refine wl_val (.int .i64 11) rfl (fun _ => rfl) ?_
            simp only [Act.put, Xa, Xz, Xs]
            refine wl_val (.func (.func 38) #[] #[.pointer (some ⟨g3, 0, none⟩)]) rfl (fun _ => rfl) ?_
            simp only [Act.put, Xa, Xz, Xs]
            refine wl_nil ?_
            refine we_then ?_
            refine wc_seq ?_
            refine wc_region ?_
            refine wl_val (.func (.func 38) #[] #[.pointer (some ⟨g3, 0, none⟩)]) rfl (fun _ => rfl) ?_
            simp only [Act.put, Xa, Xz, Xs]
            refine wl_call_at 38 #[.pointer (some ⟨g3, 0, none⟩)] (.bool (decide (1 ≤ c.br ∧ c.br ≤ 1048576))) rfl (er_valuez (enters_of Try.func38 (by kernel_rfl) rfl) rfl rfl) (fun W hE => rule12_any c g3 W (own_row 1 rfl W hE)) ?_
            simp only [Act.put, Xa, Xz, Xs]
            refine wl_val (.bool (!(decide (1 ≤ c.br ∧ c.br ≤ 1048576)))) rfl (fun _ => by go_simp) ?_
            simp only [Act.put, Xa, Xz, Xs]
            refine wl_nil ?_
            refine we_then ?_
            cases h15 : (decide (1 ≤ c.br ∧ c.br ≤ 1048576))
            ·
             skip
             have p15 : ¬ (1 ≤ c.br ∧ c.br ≤ 1048576) := of_decide_eq_false h15
             refine wc_true rfl ?_
             refine wc_seq ?_
             refine wc_region ?_
             refine wl_val (.int .i64 11) rfl (fun _ => rfl) ?_
             simp only [Act.put, Xa, Xz, Xs]
             refine wl_val (.int .i64 12) rfl (fun w => run_nat (X := 11) (Y := 1) (Z := 12) rfl rfl rfl rfl (by omega) w) ?_
             simp only [Act.put, Xa, Xz, Xs]
             refine wl_val (.int .i64 50) rfl (fun _ => rfl) ?_
             simp only [Act.put, Xa, Xz, Xs]
             refine wl_val (.int .i64 12) rfl (fun _ => rfl) ?_
             simp only [Act.put, Xa, Xz, Xs]
             refine wl_nil ?_
             refine we_then ?_
             refine wc_ret ?_
             refine we_in_ret ?_
             refine we_then_ret ?_
             refine we_then_ret ?_
             refine we_in_ret ?_
             refine we_then_ret ?_
             refine we_ret2 (.int .i64 50) (.int .i64 12) rfl rfl rfl rfl (fun w1 hE => ?_)
             have e0 : wrong c = 12 := by unfold wrong; rw [if_neg (by omega), if_neg (by omega), if_neg (by omega), if_neg (by omega), if_neg (by omega), if_neg (by omega), if_neg (by omega), if_neg (by omega), if_neg (by omega), if_neg (by omega), if_neg (by omega), if_pos (by omega)]
             exact ⟨by unfold chkE; rw [e0]; rfl, hE.below⟩
            ·
             skip
             have p15 : 1 ≤ c.br ∧ c.br ≤ 1048576 := of_decide_eq_true h15
             refine wc_false rfl ?_
             refine wc_skip ?_
             refine we_in ?_
             refine we_then ?_
             refine wc_region ?_
             refine wl_val (.int .i64 12) rfl (fun w => run_nat (X := 11) (Y := 1) (Z := 12) rfl rfl rfl rfl (by omega) w) ?_
             simp only [Act.put, Xa, Xz, Xs]
             refine wl_val (.int .i64 12) rfl (fun _ => rfl) ?_
             simp only [Act.put, Xa, Xz, Xs]
             refine wl_nil ?_
             refine we_round ?_
             refine wr_round ?_
             refine wc_seq ?_
             refine wc_region ?_
             refine wl_val (.bool false) rfl (fun w => run_cmp rfl rfl rfl Try.underlying3 rfl w) ?_
             simp only [Act.put, Xa, Xz, Xs]
             refine wl_nil ?_
             refine we_then ?_
             refine wc_seq ?_
             refine wc_false rfl ?_
             refine wc_exit ?_
             refine we_then_exit ?_
             refine we_then_exit ?_
             refine we_in_here ?_
             refine we_then ?_
             refine wc_seq ?_
             refine wc_region ?_
             refine wl_val (.int .i64 0) rfl (fun _ => rfl) ?_
             simp only [Act.put, Xa, Xz, Xs]
             refine wl_val (.int .i64 0) rfl (fun _ => rfl) ?_
             simp only [Act.put, Xa, Xz, Xs]
             refine wl_nil ?_
             refine we_then ?_
             refine wc_ret ?_
             refine we_ret2 (.int .i64 0) (.int .i64 0) rfl rfl rfl rfl (fun w1 hE => ?_)
             have e0 : wrong c = 0 := by unfold wrong; rw [if_neg (by omega), if_neg (by omega), if_neg (by omega), if_neg (by omega), if_neg (by omega), if_neg (by omega), if_neg (by omega), if_neg (by omega), if_neg (by omega), if_neg (by omega), if_neg (by omega), if_neg (by omega)]
             exact ⟨by unfold chkE; rw [e0]; rfl, hE.below⟩
theorem check_yes (c : Cf) (w : World) (h : wrong c = 0) :
  Calls Try.prog 8 #[.agg #[.int .i64 c.pu, .int .i64 c.lo, .int .i64 c.hi, .int .i64 c.rb, .int .i64 c.rp, .int .i64 c.ae, .int .i64 c.ms, .int .i64 c.ma, .int .i64 c.an, .int .i64 c.st, .int .i64 c.ss, .int .i64 c.ro, .int .i64 c.ti, .int .i64 c.br]] w fun e w' => e = .returned (.tuple #[.int .i64 0, .int .i64 0]) ∧ Below w.heap.size w w' := by
 have k := check_core c w
 unfold chkE at k
 rw [h, if_pos rfl] at k
 exact k
theorem check_no (c : Cf) (w : World) (h : wrong c ≠ 0) :
  Calls Try.prog 8 #[.agg #[.int .i64 c.pu, .int .i64 c.lo, .int .i64 c.hi, .int .i64 c.rb, .int .i64 c.rp, .int .i64 c.ae, .int .i64 c.ms, .int .i64 c.ma, .int .i64 c.an, .int .i64 c.st, .int .i64 c.ss, .int .i64 c.ro, .int .i64 c.ti, .int .i64 c.br]] w fun e w' => e = .returned (.tuple #[.int .i64 50, .int .i64 ((wrong c : Nat) : Int)]) ∧ Below w.heap.size w w' := by
 have k := check_core c w
 unfold chkE at k
 rw [if_neg h] at k
 exact k
set_option maxHeartbeats 2000000 in
theorem error_any (c : Cf) (r : Int) (w : World) (hc : Ok c) (h1 : -2147483648 ≤ r) (h2 : r ≤ 2147483647) :
  Calls Try.prog 16 #[.agg #[.int .i64 c.pu, .int .i64 c.lo, .int .i64 c.hi, .int .i64 c.rb, .int .i64 c.rp, .int .i64 c.ae, .int .i64 c.ms, .int .i64 c.ma, .int .i64 c.an, .int .i64 c.st, .int .i64 c.ss, .int .i64 c.ro, .int .i64 c.ti, .int .i64 c.br], .int .i64 r] w fun e w' => e = .returned (.int .i64 (err c r)) ∧ Below w.heap.size w w' := by
 obtain ⟨p1, p2⟩ := err_part hc (r := r) (by omega) (by omega)
 obtain ⟨_, _, _, _, _, _, _, _, _, _, _, _, _, _, _, _, _, _, _, _, _, _, _, _, _, _, _, _, _, _, _⟩ := hc
 refine calls_sx Try.func16 rfl ?_
 simp only [Try.ntmps16, List.size_toArray, List.length_cons, List.length_nil, Nat.reduceAdd, Nat.reduceSub, Array.replicate_succ, Array.replicate_zero, List.push_toArray, List.append_toArray, List.nil_append, List.cons_append]
 refine wc_seq ?_
 refine wc_region ?_
 refine wl_new 23 (#[.int .i64 c.pu, .int .i64 c.lo, .int .i64 c.hi, .int .i64 c.rb, .int .i64 c.rp, .int .i64 c.ae, .int .i64 c.ms, .int .i64 c.ma, .int .i64 c.an, .int .i64 c.st, .int .i64 c.ss, .int .i64 c.ro, .int .i64 c.ti, .int .i64 c.br]) rfl (fun _ => by go_simp) ?_
 intro g1
 simp only [Act.put, Xa, Xz, Xs]
 refine wl_val (.int .i64 0) rfl (fun _ => rfl) ?_
 simp only [Act.put, Xa, Xz, Xs]
 refine wl_nil ?_
 refine we_then ?_
 refine wc_seq ?_
 refine wc_region ?_
 refine wl_val (.int .i64 r) rfl (fun _ => rfl) ?_
 simp only [Act.put, Xa, Xz, Xs]
 refine wl_val (.int .i64 r) rfl (fun _ => rfl) ?_
 simp only [Act.put, Xa, Xz, Xs]
 refine wl_val (.int .i64 (-r)) rfl (fun w => run_neg rfl rfl Try.underlying2 (i64_in (by omega) (by omega)) w) ?_
 simp only [Act.put, Xa, Xz, Xs]
 refine wl_val (.int .i64 (max r (-r))) rfl (fun w => by first | exact run_max2 rfl rfl rfl rfl w | exact run_maxn2 rfl rfl rfl rfl w | go_simp) ?_
 simp only [Act.put, Xa, Xz, Xs]
 refine wl_val (.pointer (some ⟨g1, 4, none⟩)) rfl (fun _ => by go_simp) ?_
 simp only [Act.put, Xa, Xz, Xs]
 refine wl_cell 2 (.tmp 12) (.int .i64 c.rp) (own_row 0 rfl) rfl rfl rfl rfl Try.isAgg2 ?_
 simp only [Act.put, Xa, Xz, Xs]
 refine wl_call 25 #[.int .i64 (max r (-r)), .int .i64 c.rp, .int .i64 1048576] (.tuple #[.int .i64 ((max r (-r)) * c.rp / 1048576), .int .i64 0]) rfl (fun _ => by go_simp) (fun W => by have k := Ratio.floor_any (max r (-r)) c.rp 1048576 W (by unfold Num.Fits; omega) (by unfold Num.Fits; omega) (by unfold Num.Fits; omega); rw [(down_quo (a := (max r (-r)) * c.rp) (by omega) (by omega)).1, (down_quo (a := (max r (-r)) * c.rp) (by omega) (by omega)).2] at k; exact k) ?_
 simp only [Act.put, Xa, Xz, Xs]
 refine wl_val (.tuple #[.int .i64 ((max r (-r)) * c.rp / 1048576), .int .i64 0]) rfl (fun _ => rfl) ?_
 simp only [Act.put, Xa, Xz, Xs]
 refine wl_val (.int .i64 ((max r (-r)) * c.rp / 1048576)) rfl (fun _ => by go_simp) ?_
 simp only [Act.put, Xa, Xz, Xs]
 refine wl_val (.int .i64 0) rfl (fun _ => by go_simp) ?_
 simp only [Act.put, Xa, Xz, Xs]
 refine wl_val (.int .i64 ((max r (-r)) * c.rp / 1048576)) rfl (fun _ => rfl) ?_
 simp only [Act.put, Xa, Xz, Xs]
 refine wl_val (.int .i64 0) rfl (fun _ => rfl) ?_
 simp only [Act.put, Xa, Xz, Xs]
 refine wl_nil ?_
 refine we_then ?_
 refine wc_seq ?_
 refine wc_region ?_
 refine wl_val (.pointer (some ⟨g1, 3, none⟩)) rfl (fun _ => by go_simp) ?_
 simp only [Act.put, Xa, Xz, Xs]
 refine wl_cell 2 (.tmp 17) (.int .i64 c.rb) (own_row 0 rfl) rfl rfl rfl rfl Try.isAgg2 ?_
 simp only [Act.put, Xa, Xz, Xs]
 refine wl_val (.int .i64 ((max r (-r)) * c.rp / 1048576)) rfl (fun _ => rfl) ?_
 simp only [Act.put, Xa, Xz, Xs]
 refine wl_val (.int .i64 (c.rb + ((max r (-r)) * c.rp / 1048576))) rfl (fun w => run_arith (op := .add) rfl rfl rfl Try.underlying2 (congrArg some (i64_in (by omega) (by omega))) w) ?_
 simp only [Act.put, Xa, Xz, Xs]
 refine wl_val (.int .i64 (c.rb + ((max r (-r)) * c.rp / 1048576))) rfl (fun _ => rfl) ?_
 simp only [Act.put, Xa, Xz, Xs]
 refine wl_nil ?_
 refine we_then ?_
 refine wc_ret ?_
 refine we_ret1 (.int .i64 (c.rb + ((max r (-r)) * c.rp / 1048576))) rfl rfl rfl (fun w1 hE => ?_)
 exact ⟨rfl, hE.below⟩
set_option maxHeartbeats 2000000 in
theorem growth_any (c : Cf) (w : World) (hc : Ok c) :
  Calls Try.prog 14 #[.agg #[.int .i64 c.pu, .int .i64 c.lo, .int .i64 c.hi, .int .i64 c.rb, .int .i64 c.rp, .int .i64 c.ae, .int .i64 c.ms, .int .i64 c.ma, .int .i64 c.an, .int .i64 c.st, .int .i64 c.ss, .int .i64 c.ro, .int .i64 c.ti, .int .i64 c.br]] w fun e w' => e = .returned (.tuple #[.int .i64 (gA c), .int .i64 (gB c)]) ∧ Below w.heap.size w w' := by
 obtain ⟨_, _, _, _, _, _, _, _, _, _, _, _, _, _, _, _, _, _, _, _, _, _, _, _, _, _, _, _, _, _, _⟩ := hc
 have u1 := upq_pos (a := 1048576 * (c.hi - c.lo)) (b := c.lo) (by omega) (by omega)
 have u2 := upq_le (a := 1048576 * (c.hi - c.lo)) (b := c.lo) 65536 (by omega) (by omega)
 have u3 := upq_pos (a := c.hi) (b := c.pu) (by omega) (by omega)
 have u4 := upq_self (a := c.hi) (b := c.pu) (by omega) (by omega)
 refine calls_sx Try.func14 rfl ?_
 simp only [Try.ntmps14, List.size_toArray, List.length_cons, List.length_nil, Nat.reduceAdd, Nat.reduceSub, Array.replicate_succ, Array.replicate_zero, List.push_toArray, List.append_toArray, List.nil_append, List.cons_append]
 refine wc_seq ?_
 refine wc_region ?_
 refine wl_new 23 (#[.int .i64 c.pu, .int .i64 c.lo, .int .i64 c.hi, .int .i64 c.rb, .int .i64 c.rp, .int .i64 c.ae, .int .i64 c.ms, .int .i64 c.ma, .int .i64 c.an, .int .i64 c.st, .int .i64 c.ss, .int .i64 c.ro, .int .i64 c.ti, .int .i64 c.br]) rfl (fun _ => by go_simp) ?_
 intro g1
 simp only [Act.put, Xa, Xz, Xs]
 refine wl_val (.int .i64 0) rfl (fun _ => rfl) ?_
 simp only [Act.put, Xa, Xz, Xs]
 refine wl_val (.int .i64 0) rfl (fun _ => rfl) ?_
 simp only [Act.put, Xa, Xz, Xs]
 refine wl_nil ?_
 refine we_then ?_
 refine wc_seq ?_
 refine wc_region ?_
 refine wl_val (.pointer (some ⟨g1, 2, none⟩)) rfl (fun _ => by go_simp) ?_
 simp only [Act.put, Xa, Xz, Xs]
 refine wl_cell 2 (.tmp 7) (.int .i64 c.hi) (own_row 0 rfl) rfl rfl rfl rfl Try.isAgg2 ?_
 simp only [Act.put, Xa, Xz, Xs]
 refine wl_val (.pointer (some ⟨g1, 1, none⟩)) rfl (fun _ => by go_simp) ?_
 simp only [Act.put, Xa, Xz, Xs]
 refine wl_cell 2 (.tmp 9) (.int .i64 c.lo) (own_row 0 rfl) rfl rfl rfl rfl Try.isAgg2 ?_
 simp only [Act.put, Xa, Xz, Xs]
 refine wl_val (.int .i64 (c.hi - c.lo)) rfl (fun w => run_arith (op := .sub) rfl rfl rfl Try.underlying2 (congrArg some (i64_in (by omega) (by omega))) w) ?_
 simp only [Act.put, Xa, Xz, Xs]
 refine wl_val (.pointer (some ⟨g1, 1, none⟩)) rfl (fun _ => by go_simp) ?_
 simp only [Act.put, Xa, Xz, Xs]
 refine wl_cell 2 (.tmp 12) (.int .i64 c.lo) (own_row 0 rfl) rfl rfl rfl rfl Try.isAgg2 ?_
 simp only [Act.put, Xa, Xz, Xs]
 refine wl_call 23 #[.int .i64 1048576, .int .i64 (c.hi - c.lo), .int .i64 c.lo] (.tuple #[.int .i64 (upq (1048576 * (c.hi - c.lo)) c.lo), .int .i64 0]) rfl (fun _ => by go_simp) (fun W => by have k := Ratio.ceil_any 1048576 (c.hi - c.lo) c.lo W (by unfold Num.Fits; omega) (by unfold Num.Fits; omega) (by unfold Num.Fits; omega); rw [(up_quo (a := 1048576 * (c.hi - c.lo)) (b := c.lo) (by omega) (by omega) (by omega)).1, (up_quo (a := 1048576 * (c.hi - c.lo)) (b := c.lo) (by omega) (by omega) (by omega)).2] at k; exact k) ?_
 simp only [Act.put, Xa, Xz, Xs]
 refine wl_val (.tuple #[.int .i64 (upq (1048576 * (c.hi - c.lo)) c.lo), .int .i64 0]) rfl (fun _ => rfl) ?_
 simp only [Act.put, Xa, Xz, Xs]
 refine wl_val (.int .i64 (upq (1048576 * (c.hi - c.lo)) c.lo)) rfl (fun _ => by go_simp) ?_
 simp only [Act.put, Xa, Xz, Xs]
 refine wl_val (.int .i64 0) rfl (fun _ => by go_simp) ?_
 simp only [Act.put, Xa, Xz, Xs]
 refine wl_val (.int .i64 (upq (1048576 * (c.hi - c.lo)) c.lo)) rfl (fun _ => rfl) ?_
 simp only [Act.put, Xa, Xz, Xs]
 refine wl_val (.int .i64 0) rfl (fun _ => rfl) ?_
 simp only [Act.put, Xa, Xz, Xs]
 refine wl_nil ?_
 refine we_then ?_
 refine wc_seq ?_
 refine wc_draw [.late, .late, .late, .plain, .late, .late, .plain, .plain, .late, .late, .plain, .late, .late, .late, .late, .late] none [] 31 (by kernel_rfl) rfl (by kernel_rfl) (by kernel_rfl) ?_
 refine ws_late (.int .i64 (upq (1048576 * (c.hi - c.lo)) c.lo)) rfl rfl (fun _ => rfl) ?_
 simp only [Nat.reduceAdd, Act.put, Xa, Xz, Xs]
 refine ws_late (.int .i64 (4 * (upq (1048576 * (c.hi - c.lo)) c.lo))) rfl rfl (fun w => run_arith (op := .mul) rfl rfl rfl Try.underlying2 (congrArg some (i64_in (by omega) (by omega))) w) ?_
 simp only [Nat.reduceAdd, Act.put, Xa, Xz, Xs]
 refine ws_late (.pointer (some ⟨g1, 4, none⟩)) rfl rfl (fun _ => by go_simp) ?_
 simp only [Nat.reduceAdd, Act.put, Xa, Xz, Xs]
 refine ws_cell 2 (.tmp 19) (.int .i64 c.rp) (own_row 0 rfl) rfl rfl rfl rfl rfl Try.isAgg2 ?_
 simp only [Nat.reduceAdd, Act.put, Xa, Xz, Xs]
 refine ws_late (.int .i64 (6 * c.rp)) rfl rfl (fun w => run_arith (op := .mul) rfl rfl rfl Try.underlying2 (congrArg some (i64_in (by omega) (by omega))) w) ?_
 simp only [Nat.reduceAdd, Act.put, Xa, Xz, Xs]
 refine ws_late (.int .i64 ((4 * (upq (1048576 * (c.hi - c.lo)) c.lo)) + (6 * c.rp))) rfl rfl (fun w => run_arith (op := .add) rfl rfl rfl Try.underlying2 (congrArg some (i64_in (by omega) (by omega))) w) ?_
 simp only [Nat.reduceAdd, Act.put, Xa, Xz, Xs]
 refine ws_load 23 (.tmp 1) (own_row 0 rfl) rfl rfl rfl rfl Try.underlying23 rfl (by kernel_rfl) ?_
 simp only [Nat.reduceAdd, Act.put, Xa, Xz, Xs]
 refine ws_call 24 #[.agg #[.int .i64 c.pu, .int .i64 c.lo, .int .i64 c.hi, .int .i64 c.rb, .int .i64 c.rp, .int .i64 c.ae, .int .i64 c.ms, .int .i64 c.ma, .int .i64 c.an, .int .i64 c.st, .int .i64 c.ss, .int .i64 c.ro, .int .i64 c.ti, .int .i64 c.br]] (.int .i64 (upq c.hi c.pu)) rfl rfl (fun _ => by go_simp) (fun W => pulse_any c W (by omega) (by omega) (by omega) (by omega)) ?_
 simp only [Nat.reduceAdd, Act.put, Xa, Xz, Xs]
 refine ws_late (.int .i64 (12 * (upq c.hi c.pu))) rfl rfl (fun w => run_arith (op := .mul) rfl rfl rfl Try.underlying2 (congrArg some (i64_in (by omega) (by omega))) w) ?_
 simp only [Nat.reduceAdd, Act.put, Xa, Xz, Xs]
 refine ws_late (.pointer (some ⟨g1, 3, none⟩)) rfl rfl (fun _ => by go_simp) ?_
 simp only [Nat.reduceAdd, Act.put, Xa, Xz, Xs]
 refine ws_cell 2 (.tmp 26) (.int .i64 c.rb) (own_row 0 rfl) rfl rfl rfl rfl rfl Try.isAgg2 ?_
 simp only [Nat.reduceAdd, Act.put, Xa, Xz, Xs]
 refine ws_late (.int .i64 (6 * c.rb)) rfl rfl (fun w => run_arith (op := .mul) rfl rfl rfl Try.underlying2 (congrArg some (i64_in (by omega) (by omega))) w) ?_
 simp only [Nat.reduceAdd, Act.put, Xa, Xz, Xs]
 refine ws_late (.int .i64 ((12 * (upq c.hi c.pu)) + (6 * c.rb))) rfl rfl (fun w => run_arith (op := .add) rfl rfl rfl Try.underlying2 (congrArg some (i64_in (by omega) (by omega))) w) ?_
 simp only [Nat.reduceAdd, Act.put, Xa, Xz, Xs]
 refine ws_late (.int .i64 (((12 * (upq c.hi c.pu)) + (6 * c.rb)) + 9)) rfl rfl (fun w => run_arith (op := .add) rfl rfl rfl Try.underlying2 (congrArg some (i64_in (by omega) (by omega))) w) ?_
 simp only [Nat.reduceAdd, Act.put, Xa, Xz, Xs]
 refine ws_late (.int .i64 ((4 * (upq (1048576 * (c.hi - c.lo)) c.lo)) + (6 * c.rp))) rfl rfl (fun _ => rfl) ?_
 simp only [Nat.reduceAdd, Act.put, Xa, Xz, Xs]
 refine ws_late (.int .i64 (((12 * (upq c.hi c.pu)) + (6 * c.rb)) + 9)) rfl rfl (fun _ => rfl) ?_
 simp only [Nat.reduceAdd, Act.put, Xa, Xz, Xs]
 refine ws_nil [] trivial (by simp) ?_
 intro ps2
 simp only [fin, List.foldl_nil, List.map, List.nil_append]
 refine we_then ?_
 refine wc_ret ?_
 refine we_ret2 (.int .i64 ((4 * (upq (1048576 * (c.hi - c.lo)) c.lo)) + (6 * c.rp))) (.int .i64 (((12 * (upq c.hi c.pu)) + (6 * c.rb)) + 9)) rfl rfl rfl rfl (fun w1 hE => ?_)
 exact ⟨rfl, hE.below⟩
set_option maxHeartbeats 2000000 in
theorem reach_any (c : Cf) (x : Gp) (w : World) (h1 : 0 ≤ x.acc) (h2 : x.acc ≤ 1048576) (h3 : 0 ≤ c.an) (h4 : c.an ≤ 1048576) (h5 : 0 ≤ c.ms) (h6 : c.ms ≤ 16777216) :
  Calls Try.prog 21 #[.agg #[.int .i64 c.pu, .int .i64 c.lo, .int .i64 c.hi, .int .i64 c.rb, .int .i64 c.rp, .int .i64 c.ae, .int .i64 c.ms, .int .i64 c.ma, .int .i64 c.an, .int .i64 c.st, .int .i64 c.ss, .int .i64 c.ro, .int .i64 c.ti, .int .i64 c.br], .agg #[.int .i64 x.id, .int .i64 x.seg, .int .i64 x.off, .int .i64 x.acc, .int .i64 x.slack]] w fun e w' => e = .returned (.int .i64 (x.acc + c.an + c.ms)) ∧ Below w.heap.size w w' := by
 refine calls_sx Try.func21 rfl ?_
 simp only [Try.ntmps21, List.size_toArray, List.length_cons, List.length_nil, Nat.reduceAdd, Nat.reduceSub, Array.replicate_succ, Array.replicate_zero, List.push_toArray, List.append_toArray, List.nil_append, List.cons_append]
 refine wc_seq ?_
 refine wc_region ?_
 refine wl_new 23 (#[.int .i64 c.pu, .int .i64 c.lo, .int .i64 c.hi, .int .i64 c.rb, .int .i64 c.rp, .int .i64 c.ae, .int .i64 c.ms, .int .i64 c.ma, .int .i64 c.an, .int .i64 c.st, .int .i64 c.ss, .int .i64 c.ro, .int .i64 c.ti, .int .i64 c.br]) rfl (fun _ => by go_simp) ?_
 intro g1
 simp only [Act.put, Xa, Xz, Xs]
 refine wl_new 59 (#[.int .i64 x.id, .int .i64 x.seg, .int .i64 x.off, .int .i64 x.acc, .int .i64 x.slack]) rfl (fun _ => by go_simp) ?_
 intro g2
 simp only [Act.put, Xa, Xz, Xs]
 refine wl_val (.int .i64 0) rfl (fun _ => rfl) ?_
 simp only [Act.put, Xa, Xz, Xs]
 refine wl_nil ?_
 refine we_then ?_
 refine wc_seq ?_
 refine wc_region ?_
 refine wl_val (.pointer (some ⟨g2, 3, none⟩)) rfl (fun _ => by go_simp) ?_
 simp only [Act.put, Xa, Xz, Xs]
 refine wl_cell 2 (.tmp 5) (.int .i64 x.acc) (own_row 0 rfl) rfl rfl rfl rfl Try.isAgg2 ?_
 simp only [Act.put, Xa, Xz, Xs]
 refine wl_val (.pointer (some ⟨g1, 8, none⟩)) rfl (fun _ => by go_simp) ?_
 simp only [Act.put, Xa, Xz, Xs]
 refine wl_cell 2 (.tmp 7) (.int .i64 c.an) (own_row 1 rfl) rfl rfl rfl rfl Try.isAgg2 ?_
 simp only [Act.put, Xa, Xz, Xs]
 refine wl_val (.int .i64 (x.acc + c.an)) rfl (fun w => run_arith (op := .add) rfl rfl rfl Try.underlying2 (congrArg some (i64_in (by omega) (by omega))) w) ?_
 simp only [Act.put, Xa, Xz, Xs]
 refine wl_val (.pointer (some ⟨g1, 6, none⟩)) rfl (fun _ => by go_simp) ?_
 simp only [Act.put, Xa, Xz, Xs]
 refine wl_cell 2 (.tmp 10) (.int .i64 c.ms) (own_row 1 rfl) rfl rfl rfl rfl Try.isAgg2 ?_
 simp only [Act.put, Xa, Xz, Xs]
 refine wl_val (.int .i64 ((x.acc + c.an) + c.ms)) rfl (fun w => run_arith (op := .add) rfl rfl rfl Try.underlying2 (congrArg some (i64_in (by omega) (by omega))) w) ?_
 simp only [Act.put, Xa, Xz, Xs]
 refine wl_val (.int .i64 ((x.acc + c.an) + c.ms)) rfl (fun _ => rfl) ?_
 simp only [Act.put, Xa, Xz, Xs]
 refine wl_nil ?_
 refine we_then ?_
 refine wc_ret ?_
 refine we_ret1 (.int .i64 ((x.acc + c.an) + c.ms)) rfl rfl rfl (fun w1 hE => ?_)
 exact ⟨rfl, hE.below⟩
set_option maxHeartbeats 4000000 in
theorem fits_any (k : Cf) (G : List Sg) (H : List Gp) (p q : Option Addr) (c d : Nat) (w : World) (hS : Reads w p (flat sg G)) (hG : OkS w G) (hH : Reads w q (flat gp H)) (hn : G.length ≤ 140737488355328) (hm : H.length ≤ 140737488355328) :
  Calls Try.prog 11 #[.agg #[.int .i64 k.pu, .int .i64 k.lo, .int .i64 k.hi, .int .i64 k.rb, .int .i64 k.rp, .int .i64 k.ae, .int .i64 k.ms, .int .i64 k.ma, .int .i64 k.an, .int .i64 k.st, .int .i64 k.ss, .int .i64 k.ro, .int .i64 k.ti, .int .i64 k.br], .agg #[.slice p G.length c, .slice q H.length d]] w fun e w' => e = .returned (.tuple #[.int .i64 (((fit k G H).1 : Nat) : Int), .int .i64 (((fit k G H).2 : Nat) : Int)]) ∧ Below w.heap.size w w' := by
 have hq := chkE_or k
 refine calls_sx Try.func11 rfl ?_
 simp only [Try.ntmps11, List.size_toArray, List.length_cons, List.length_nil, Nat.reduceAdd, Nat.reduceSub, Array.replicate_succ, Array.replicate_zero, List.push_toArray, List.append_toArray, List.nil_append, List.cons_append]
 refine wc_seq ?_
 refine wc_region ?_
 refine wl_new 23 (#[.int .i64 k.pu, .int .i64 k.lo, .int .i64 k.hi, .int .i64 k.rb, .int .i64 k.rp, .int .i64 k.ae, .int .i64 k.ms, .int .i64 k.ma, .int .i64 k.an, .int .i64 k.st, .int .i64 k.ss, .int .i64 k.ro, .int .i64 k.ti, .int .i64 k.br]) rfl (fun _ => by go_simp) ?_
 intro g1
 simp only [Act.put, Xa, Xz, Xs]
 refine wl_new 34 (#[.slice p G.length c, .slice q H.length d]) rfl (fun _ => by go_simp) ?_
 intro g2
 simp only [Act.put, Xa, Xz, Xs]
 refine wl_val (.int .i64 0) rfl (fun _ => rfl) ?_
 simp only [Act.put, Xa, Xz, Xs]
 refine wl_val (.int .i64 0) rfl (fun _ => rfl) ?_
 simp only [Act.put, Xa, Xz, Xs]
 refine wl_nil ?_
 refine we_then ?_
 refine wc_seq ?_
 refine wc_seq ?_
 refine wc_region ?_
 refine wl_load 23 (.tmp 2) (own_row 1 rfl) rfl rfl rfl Try.underlying23 rfl (by kernel_rfl) ?_
 simp only [Act.put, Xa, Xz, Xs]
 refine wl_call 8 #[.agg #[.int .i64 k.pu, .int .i64 k.lo, .int .i64 k.hi, .int .i64 k.rb, .int .i64 k.rp, .int .i64 k.ae, .int .i64 k.ms, .int .i64 k.ma, .int .i64 k.an, .int .i64 k.st, .int .i64 k.ss, .int .i64 k.ro, .int .i64 k.ti, .int .i64 k.br]] (.tuple #[.int .i64 (chkE k), .int .i64 ((wrong k : Nat) : Int)]) rfl (fun _ => by go_simp) (fun W => check_core k W) ?_
 simp only [Act.put, Xa, Xz, Xs]
 refine wl_val (.tuple #[.int .i64 (chkE k), .int .i64 ((wrong k : Nat) : Int)]) rfl (fun _ => rfl) ?_
 simp only [Act.put, Xa, Xz, Xs]
 refine wl_val (.int .i64 (chkE k)) rfl (fun _ => by go_simp) ?_
 simp only [Act.put, Xa, Xz, Xs]
 refine wl_val (.int .i64 ((wrong k : Nat) : Int)) rfl (fun _ => by go_simp) ?_
 simp only [Act.put, Xa, Xz, Xs]
 refine wl_val (.int .i64 (chkE k)) rfl (fun _ => rfl) ?_
 simp only [Act.put, Xa, Xz, Xs]
 refine wl_val (.int .i64 ((wrong k : Nat) : Int)) rfl (fun _ => rfl) ?_
 simp only [Act.put, Xa, Xz, Xs]
 refine wl_nil ?_
 refine we_then ?_
 refine wc_seq ?_
 refine wc_region ?_
 refine wl_val (.int .i64 (chkE k)) rfl (fun _ => rfl) ?_
 simp only [Act.put, Xa, Xz, Xs]
 refine wl_val (.bool ((chkE k) != 0)) rfl (fun w => run_cmp rfl rfl rfl Try.underlying25 rfl w) ?_
 simp only [Act.put, Xa, Xz, Xs]
 refine wl_nil ?_
 refine we_then ?_
 cases h3 : ((chkE k) != 0)
 ·
  skip
  have p3 : ¬ ((chkE k) ≠ 0) := by first | (simp; done) | (simp at h3; done) | simpa using h3
  refine wc_false rfl ?_
  refine wc_skip ?_
  refine we_then ?_
  refine wc_seq ?_
  refine wc_seq ?_
  refine wc_region ?_
  refine wl_load 34 (.tmp 3) (own_row 0 rfl) rfl rfl rfl Try.underlying34 rfl (by kernel_rfl) ?_
  simp only [Act.put, Xa, Xz, Xs]
  refine wl_call_at 20 #[.agg #[.slice p G.length c, .slice q H.length d]] (.tuple #[.int .i64 (((chk G H).1 : Nat) : Int), .int .i64 (((chk G H).2 : Nat) : Int)]) rfl (fun _ => by go_simp) (fun W hE => Tra.check_any G H _ _ _ _ W ((sl_old hS) W hE) (oks_below hG hE.below) ((sl_old hH) W hE) hn hm) ?_
  simp only [Act.put, Xa, Xz, Xs]
  refine wl_val (.tuple #[.int .i64 (((chk G H).1 : Nat) : Int), .int .i64 (((chk G H).2 : Nat) : Int)]) rfl (fun _ => rfl) ?_
  simp only [Act.put, Xa, Xz, Xs]
  refine wl_val (.int .i64 (((chk G H).1 : Nat) : Int)) rfl (fun _ => by go_simp) ?_
  simp only [Act.put, Xa, Xz, Xs]
  refine wl_val (.int .i64 (((chk G H).2 : Nat) : Int)) rfl (fun _ => by go_simp) ?_
  simp only [Act.put, Xa, Xz, Xs]
  refine wl_val (.int .i64 (((chk G H).1 : Nat) : Int)) rfl (fun _ => rfl) ?_
  simp only [Act.put, Xa, Xz, Xs]
  refine wl_val (.int .i64 (((chk G H).2 : Nat) : Int)) rfl (fun _ => rfl) ?_
  simp only [Act.put, Xa, Xz, Xs]
  refine wl_nil ?_
  refine we_then ?_
  refine wc_seq ?_
  refine wc_region ?_
  refine wl_val (.int .i64 (((chk G H).1 : Nat) : Int)) rfl (fun _ => rfl) ?_
  simp only [Act.put, Xa, Xz, Xs]
  refine wl_val (.bool ((((chk G H).1 : Nat) : Int) != 0)) rfl (fun w => run_cmp rfl rfl rfl Try.underlying25 rfl w) ?_
  simp only [Act.put, Xa, Xz, Xs]
  refine wl_nil ?_
  refine we_then ?_
  cases h4 : ((((chk G H).1 : Nat) : Int) != 0)
  ·
   skip
   have p4 : ¬ ((((chk G H).1 : Nat) : Int) ≠ 0) := by first | (simp; done) | (simp at h4; done) | simpa using h4
   refine wc_false rfl ?_
   refine wc_skip ?_
   refine we_then ?_
   refine wc_seq ?_
   refine wc_seq ?_
   have ck := ok_of (c := k) (by omega)
   have hM := may_of_chk (G := G) (H := H) (by omega)
   have k1 := ck.an1
   have k2 := ck.an2
   have k3 := ck.ms1
   have k4 := ck.ms2
   refine wc_region ?_
   refine wl_val (.pointer (some ⟨g2, 1, none⟩)) rfl (fun _ => by go_simp) ?_
   simp only [Act.put, Xa, Xz, Xs]
   refine wl_cell 32 (.tmp 26) (.slice q H.length d) (own_row 0 rfl) rfl rfl rfl rfl Try.isAgg32 ?_
   simp only [Act.put, Xa, Xz, Xs]
   refine wl_val (.int .i64 (H.length : Int)) rfl (fun w => er_len rfl rfl Try.underlying32 w) ?_
   simp only [Act.put, Xa, Xz, Xs]
   refine wl_val (.int .i64 0) rfl (fun _ => rfl) ?_
   simp only [Act.put, Xa, Xz, Xs]
   refine wl_nil ?_
   refine we_then ?_
   refine wc_block ?_
   refine wc_loop (fun (zz : Nat × Value × Value × Value × Value × Value × Value × Value × Value × Value × Value × Value × Value × Value × Value × Value × Value × Value × Value × Value × Value × Value × Value × Value × Value × Value × Value × Value) => match zz with | ⟨i, u4, u5, u10, u11, u30, u31, u32, u33, u34, u35, u36, u37, u38, u39, u40, u41, u42, u43, u44, u45, u46, u47, u48, u49, u50, u51, u52⟩ => ({ tmps := #[.agg #[.int .i64 k.pu, .int .i64 k.lo, .int .i64 k.hi, .int .i64 k.rb, .int .i64 k.rp, .int .i64 k.ae, .int .i64 k.ms, .int .i64 k.ma, .int .i64 k.an, .int .i64 k.st, .int .i64 k.ss, .int .i64 k.ro, .int .i64 k.ti, .int .i64 k.br], .agg #[.slice p G.length c, .slice q H.length d], .pointer (some ⟨g1, 0, none⟩), .pointer (some ⟨g2, 0, none⟩), u4, u5, .int .i64 (chkE k), .int .i64 ((wrong k : Nat) : Int), .int .i64 (((chk G H).1 : Nat) : Int), .int .i64 (((chk G H).2 : Nat) : Int), u10, u11, .tuple #[.int .i64 (chkE k), .int .i64 ((wrong k : Nat) : Int)], .agg #[.int .i64 k.pu, .int .i64 k.lo, .int .i64 k.hi, .int .i64 k.rb, .int .i64 k.rp, .int .i64 k.ae, .int .i64 k.ms, .int .i64 k.ma, .int .i64 k.an, .int .i64 k.st, .int .i64 k.ss, .int .i64 k.ro, .int .i64 k.ti, .int .i64 k.br], .tuple #[.int .i64 (chkE k), .int .i64 ((wrong k : Nat) : Int)], .int .i64 (chkE k), .int .i64 ((wrong k : Nat) : Int), .int .i64 (chkE k), .bool false, .tuple #[.int .i64 (((chk G H).1 : Nat) : Int), .int .i64 (((chk G H).2 : Nat) : Int)], .agg #[.slice p G.length c, .slice q H.length d], .tuple #[.int .i64 (((chk G H).1 : Nat) : Int), .int .i64 (((chk G H).2 : Nat) : Int)], .int .i64 (((chk G H).1 : Nat) : Int), .int .i64 (((chk G H).2 : Nat) : Int), .int .i64 (((chk G H).1 : Nat) : Int), .bool false, .pointer (some ⟨g2, 1, none⟩), .slice q H.length d, .int .i64 (H.length : Int), .int .i64 (i : Int), u30, u31, u32, u33, u34, u35, u36, u37, u38, u39, u40, u41, u42, u43, u44, u45, u46, u47, u48, u49, u50, u51, u52], defers := [] } : Act)) (fun (zz : Nat × Value × Value × Value × Value × Value × Value × Value × Value × Value × Value × Value × Value × Value × Value × Value × Value × Value × Value × Value × Value × Value × Value × Value × Value × Value × Value × Value) => match zz with | ⟨i, u4, u5, u10, u11, u30, u31, u32, u33, u34, u35, u36, u37, u38, u39, u40, u41, u42, u43, u44, u45, u46, u47, u48, u49, u50, u51, u52⟩ => [⟨g2, #[.slice p G.length c, .slice q H.length d], 34⟩, ⟨g1, #[.int .i64 k.pu, .int .i64 k.lo, .int .i64 k.hi, .int .i64 k.rb, .int .i64 k.rp, .int .i64 k.ae, .int .i64 k.ms, .int .i64 k.ma, .int .i64 k.an, .int .i64 k.st, .int .i64 k.ss, .int .i64 k.ro, .int .i64 k.ti, .int .i64 k.br], 23⟩]) (fun (zz : Nat × Value × Value × Value × Value × Value × Value × Value × Value × Value × Value × Value × Value × Value × Value × Value × Value × Value × Value × Value × Value × Value × Value × Value × Value × Value × Value × Value) => match zz with | ⟨i, u4, u5, u10, u11, u30, u31, u32, u33, u34, u35, u36, u37, u38, u39, u40, u41, u42, u43, u44, u45, u46, u47, u48, u49, u50, u51, u52⟩ => i ≤ H.length ∧ ∀ j, j < i → ¬ Bad k G H j) (fun (zz : Nat × Value × Value × Value × Value × Value × Value × Value × Value × Value × Value × Value × Value × Value × Value × Value × Value × Value × Value × Value × Value × Value × Value × Value × Value × Value × Value × Value) => match zz with | ⟨i, u4, u5, u10, u11, u30, u31, u32, u33, u34, u35, u36, u37, u38, u39, u40, u41, u42, u43, u44, u45, u46, u47, u48, u49, u50, u51, u52⟩ => H.length - i) ⟨0, _, _, _, _, _, _, _, _, _, _, _, _, _, _, _, _, _, _, _, _, _, _, _, _, _, _, _⟩ ⟨Nat.zero_le _, fun j hj => absurd hj (Nat.not_lt_zero j)⟩ rfl (List.Sublist.cons_cons _ (List.Sublist.cons_cons _ List.Sublist.slnil)) ?_
   rintro ⟨i, u4, u5, u10, u11, u30, u31, u32, u33, u34, u35, u36, u37, u38, u39, u40, u41, u42, u43, u44, u45, u46, u47, u48, u49, u50, u51, u52⟩ hφ
   (try dsimp only at hφ ⊢)
   obtain ⟨b1, b2⟩ := hφ
   refine wc_seq ?_
   refine wc_region ?_
   refine wl_val (.bool (decide ((i : Int) < (H.length : Int)))) rfl (fun w => run_cmp rfl rfl rfl Try.underlying3 rfl w) ?_
   simp only [Act.put, Xa, Xz, Xs]
   refine wl_nil ?_
   refine we_then ?_
   refine wc_seq ?_
   cases h5 : (decide ((i : Int) < (H.length : Int)))
   ·
    skip
    have p5 : ¬ ((i : Int) < (H.length : Int)) := of_decide_eq_false h5
    refine wc_false rfl ?_
    refine wc_exit ?_
    refine we_then_exit ?_
    refine we_then_exit ?_
    refine we_in_here ?_
    refine we_then ?_
    refine wc_seq ?_
    refine wc_region ?_
    refine wl_val (.int .i64 0) rfl (fun _ => rfl) ?_
    simp only [Act.put, Xa, Xz, Xs]
    refine wl_val (.int .i64 0) rfl (fun _ => rfl) ?_
    simp only [Act.put, Xa, Xz, Xs]
    refine wl_nil ?_
    refine we_then ?_
    refine wc_ret ?_
    refine we_ret2 (.int .i64 0) (.int .i64 0) rfl rfl rfl rfl (fun w1 hE => ?_)
    have e0 : fit k G H = (0, 0) := fit_eq (.inr (.inr (.inr ⟨by omega, by omega, fun j hj => b2 j (by omega), rfl⟩)))
    exact ⟨by rw [e0]; rfl, hE.below⟩
   ·
    skip
    have p5 : (i : Int) < (H.length : Int) := of_decide_eq_true h5
    refine wc_true rfl ?_
    refine wc_skip ?_
    refine we_then ?_
    refine wc_seq ?_
    refine wc_block ?_
    refine wc_seq ?_
    refine wc_region ?_
    refine wl_val (.int .i64 (i : Int)) rfl (fun _ => rfl) ?_
    simp only [Act.put, Xa, Xz, Xs]
    refine wl_read (eaddr q (i * 5)) rfl (er_index i 5 (sl_old hH) rfl rfl rfl rfl (by omega) (flat_length (enc := gp) (size := 5) (fun _ => rfl) _) (by decide) Try.underlying32 (by kernel_rfl)) ?_
    simp only [Act.put, Xa, Xz, Xs]
    refine wl_read (.agg #[.int .i64 ((H[i]!).id), .int .i64 ((H[i]!).seg), .int .i64 ((H[i]!).off), .int .i64 ((H[i]!).acc), .int .i64 ((H[i]!).slack)]) rfl (er_part (i * 5) [.int .i64 ((H[i]!).id), .int .i64 ((H[i]!).seg), .int .i64 ((H[i]!).off), .int .i64 ((H[i]!).acc), .int .i64 ((H[i]!).slack)] (sl_old hH) rfl rfl (flat_part (enc := gp) (fun _ => rfl) H i (by omega)) (Nat.zero_lt_succ _) Try.underlying59 rfl (by kernel_rfl)) ?_
    simp only [Act.put, Xa, Xz, Xs]
    refine wl_new 59 (#[.int .i64 0, .int .i64 0, .int .i64 0, .int .i64 0, .int .i64 0]) rfl (fun _ => by go_simp) ?_
    intro g6
    simp only [Act.put, Xa, Xz, Xs]
    refine wl_val (.int .i64 (i : Int)) rfl (fun _ => rfl) ?_
    simp only [Act.put, Xa, Xz, Xs]
    refine wl_store 0 59 (.tmp 11) (.tmp 33) (#[.int .i64 ((H[i]!).id), .int .i64 ((H[i]!).seg), .int .i64 ((H[i]!).off), .int .i64 ((H[i]!).acc), .int .i64 ((H[i]!).slack)]) rfl rfl rfl rfl rfl (by kernel_rfl) rfl (by simp [Value.oneCell']) ?_
    simp only [Act.put, List.set_cons_zero]
    refine wl_nil ?_
    refine we_then ?_
    refine wc_seq ?_
    have gk := hM.grps i (by omega)
    have q1 := gk.seg0
    have q2 := gk.segn
    have q3 := gk.off0
    have q4 := gk.offn
    have q5 := gk.acc0
    have q6 := gk.accn
    have sk := hM.segs (H[i]!).seg.toNat (by omega)
    have q7 := sk.high
    have q8 := sk.low
    refine wc_draw [.late, .plain, .late, .plain, .late, .plain, .plain, .plain, .plain, .late, .plain, .late, .late, .plain, .plain, .plain, .late] none [] 53 (by kernel_rfl) rfl (by kernel_rfl) (by kernel_rfl) ?_
    refine ws_late (.pointer (some ⟨g6, 2, none⟩)) rfl rfl (fun _ => by go_simp) ?_
    simp only [Nat.reduceAdd, Act.put, Xa, Xz, Xs]
    refine ws_cell 2 (.tmp 34) (.int .i64 ((H[i]!).off)) (own_row 0 rfl) rfl rfl rfl rfl rfl Try.isAgg2 ?_
    simp only [Nat.reduceAdd, Act.put, Xa, Xz, Xs]
    refine ws_late (.pointer (some ⟨g2, 0, none⟩)) rfl rfl (fun _ => by go_simp) ?_
    simp only [Nat.reduceAdd, Act.put, Xa, Xz, Xs]
    refine ws_cell 31 (.tmp 36) (.slice p G.length c) (own_row 1 rfl) rfl rfl rfl rfl rfl Try.isAgg31 ?_
    simp only [Nat.reduceAdd, Act.put, Xa, Xz, Xs]
    refine ws_late (.pointer (some ⟨g6, 1, none⟩)) rfl rfl (fun _ => by go_simp) ?_
    simp only [Nat.reduceAdd, Act.put, Xa, Xz, Xs]
    refine ws_cell 3 (.tmp 38) (.int .i64 ((H[i]!).seg)) (own_row 0 rfl) rfl rfl rfl rfl rfl Try.isAgg3 ?_
    simp only [Nat.reduceAdd, Act.put, Xa, Xz, Xs]
    refine ws_read (eaddr p (((H[i]!).seg.toNat) * 3)) rfl rfl (er_index ((H[i]!).seg.toNat) 3 (sl_old hS) rfl rfl rfl (by omega) (by omega) (flat_length (enc := sg) (size := 3) (fun _ => rfl) _) (by decide) Try.underlying31 (by kernel_rfl)) ?_
    simp only [Nat.reduceAdd, Act.put, Xa, Xz, Xs]
    refine ws_read (eaddr p (((H[i]!).seg.toNat) * 3 + 0)) rfl rfl (er_field (z := 0) (((H[i]!).seg.toNat) * 3) 0 0 (sl_old hS) rfl rfl (flat_lt (enc := sg) (fun _ => rfl) G ((H[i]!).seg.toNat) 0 (by omega) (by decide)) Try.underlying57 rfl rfl (by kernel_rfl)) ?_
    simp only [Nat.reduceAdd, Act.put, Xa, Xz, Xs]
    refine ws_read (.int .i64 ((G[(H[i]!).seg.toNat]!).len)) rfl rfl (er_cell (((H[i]!).seg.toNat) * 3 + 0) (.int .i64 ((G[(H[i]!).seg.toNat]!).len)) (sl_old hS) rfl rfl (flat_cell (enc := sg) (fun _ => rfl) G ((H[i]!).seg.toNat) 0 (by omega) (by decide)) Try.isAgg2) ?_
    simp only [Nat.reduceAdd, Act.put, Xa, Xz, Xs]
    refine ws_late (.pointer (some ⟨g6, 2, none⟩)) rfl rfl (fun _ => by go_simp) ?_
    simp only [Nat.reduceAdd, Act.put, Xa, Xz, Xs]
    refine ws_cell 2 (.tmp 43) (.int .i64 ((H[i]!).off)) (own_row 0 rfl) rfl rfl rfl rfl rfl Try.isAgg2 ?_
    simp only [Nat.reduceAdd, Act.put, Xa, Xz, Xs]
    refine ws_late (.int .i64 (((G[(H[i]!).seg.toNat]!).len) - ((H[i]!).off))) rfl rfl (fun w => run_arith (op := .sub) rfl rfl rfl Try.underlying2 (congrArg some (i64_in (by omega) (by omega))) w) ?_
    simp only [Nat.reduceAdd, Act.put, Xa, Xz, Xs]
    refine ws_late (.int .i64 (min ((H[i]!).off) (((G[(H[i]!).seg.toNat]!).len) - ((H[i]!).off)))) rfl rfl (fun w => by first | exact run_min2 rfl rfl rfl rfl w | exact run_minn2 rfl rfl rfl rfl w | go_simp) ?_
    simp only [Nat.reduceAdd, Act.put, Xa, Xz, Xs]
    refine ws_load 23 (.tmp 2) (own_row 2 rfl) rfl rfl rfl rfl Try.underlying23 rfl (by kernel_rfl) ?_
    simp only [Nat.reduceAdd, Act.put, Xa, Xz, Xs]
    refine ws_load 59 (.tmp 11) (own_row 0 rfl) rfl rfl rfl rfl Try.underlying59 rfl (by kernel_rfl) ?_
    simp only [Nat.reduceAdd, Act.put, Xa, Xz, Xs]
    refine ws_call 21 #[.agg #[.int .i64 k.pu, .int .i64 k.lo, .int .i64 k.hi, .int .i64 k.rb, .int .i64 k.rp, .int .i64 k.ae, .int .i64 k.ms, .int .i64 k.ma, .int .i64 k.an, .int .i64 k.st, .int .i64 k.ss, .int .i64 k.ro, .int .i64 k.ti, .int .i64 k.br], .agg #[.int .i64 ((H[i]!).id), .int .i64 ((H[i]!).seg), .int .i64 ((H[i]!).off), .int .i64 ((H[i]!).acc), .int .i64 ((H[i]!).slack)]] (.int .i64 ((H[i]!).acc + k.an + k.ms)) rfl rfl (fun _ => by go_simp) (fun W => reach_any k (H[i]!) W (by omega) (by omega) (by omega) (by omega) (by omega) (by omega)) ?_
    simp only [Nat.reduceAdd, Act.put, Xa, Xz, Xs]
    refine ws_late (.bool (decide (min ((H[i]!).off) (((G[(H[i]!).seg.toNat]!).len) - ((H[i]!).off)) < ((H[i]!).acc + k.an + k.ms)))) rfl rfl (fun w => run_cmp rfl rfl rfl Try.underlying2 rfl w) ?_
    simp only [Nat.reduceAdd, Act.put, Xa, Xz, Xs]
    refine ws_nil [] trivial (by simp) ?_
    intro ps7
    simp only [fin, List.foldl_nil, List.map, List.nil_append]
    refine we_then ?_
    cases h8 : (decide (min ((H[i]!).off) (((G[(H[i]!).seg.toNat]!).len) - ((H[i]!).off)) < ((H[i]!).acc + k.an + k.ms)))
    ·
     skip
     have p8 : ¬ (min ((H[i]!).off) (((G[(H[i]!).seg.toNat]!).len) - ((H[i]!).off)) < ((H[i]!).acc + k.an + k.ms)) := of_decide_eq_false h8
     refine wc_false rfl ?_
     refine wc_skip ?_
     refine we_in ?_
     refine we_then ?_
     refine wc_region ?_
     refine wl_val (.int .i64 ((i + 1 : Nat) : Int)) rfl (fun w => run_nat (X := i) (Y := 1) (Z := i + 1) rfl rfl rfl rfl (by omega) w) ?_
     simp only [Act.put, Xa, Xz, Xs]
     refine wl_val (.int .i64 ((i + 1 : Nat) : Int)) rfl (fun _ => rfl) ?_
     simp only [Act.put, Xa, Xz, Xs]
     refine wl_nil ?_
     exact we_meet ⟨(i + 1), _, _, _, _, _, _, _, _, _, _, _, _, _, _, _, _, _, _, _, _, _, _, _, _, _, _, _⟩ ⟨⟨by (try dsimp only); omega, fun j hj => by rcases Nat.lt_or_eq_of_le (Nat.le_of_lt_succ hj) with h | h; exact b2 j h; subst h; unfold Bad far; omega⟩, by (try dsimp only); omega⟩ rfl (List.Sublist.cons _ (List.Sublist.cons_cons _ (List.Sublist.cons_cons _ List.Sublist.slnil)))
    ·
     skip
     have p8 : min ((H[i]!).off) (((G[(H[i]!).seg.toNat]!).len) - ((H[i]!).off)) < ((H[i]!).acc + k.an + k.ms) := of_decide_eq_true h8
     refine wc_true rfl ?_
     refine wc_seq ?_
     refine wc_region ?_
     refine wl_val (.int .i64 (i : Int)) rfl (fun _ => rfl) ?_
     simp only [Act.put, Xa, Xz, Xs]
     refine wl_val (.int .i64 11) rfl (fun _ => rfl) ?_
     simp only [Act.put, Xa, Xz, Xs]
     refine wl_val (.int .i64 (i : Int)) rfl (fun _ => rfl) ?_
     simp only [Act.put, Xa, Xz, Xs]
     refine wl_nil ?_
     refine we_then ?_
     refine wc_ret ?_
     refine we_in_ret ?_
     refine we_then_ret ?_
     refine we_then_ret ?_
     refine we_in_ret ?_
     refine we_then_ret ?_
     refine we_ret2 (.int .i64 11) (.int .i64 (i : Int)) rfl rfl rfl rfl (fun w1 hE => ?_)
     have e0 : fit k G H = (11, i) := fit_eq (.inr (.inr (.inl ⟨by omega, by omega, rfl, (show i < H.length by omega), (show Bad k G H i by unfold Bad far; omega), b2⟩)))
     exact ⟨by rw [e0]; rfl, hE.below⟩
  ·
   skip
   have p4 : (((chk G H).1 : Nat) : Int) ≠ 0 := by first | (simp; done) | (simp at h4; done) | simpa using h4
   refine wc_true rfl ?_
   refine wc_seq ?_
   refine wc_region ?_
   refine wl_val (.int .i64 51) rfl (fun _ => rfl) ?_
   simp only [Act.put, Xa, Xz, Xs]
   refine wl_val (.int .i64 0) rfl (fun _ => rfl) ?_
   simp only [Act.put, Xa, Xz, Xs]
   refine wl_nil ?_
   refine we_then ?_
   refine wc_ret ?_
   refine we_then_ret ?_
   refine we_ret2 (.int .i64 51) (.int .i64 0) rfl rfl rfl rfl (fun w1 hE => ?_)
   have e0 : fit k G H = (51, 0) := fit_eq (.inr (.inl ⟨by omega, by omega, rfl⟩))
   exact ⟨by rw [e0]; rfl, hE.below⟩
 ·
  skip
  have p3 : (chkE k) ≠ 0 := by first | (simp; done) | (simp at h3; done) | simpa using h3
  refine wc_true rfl ?_
  refine wc_seq ?_
  refine wc_region ?_
  refine wl_val (.int .i64 50) rfl (fun _ => rfl) ?_
  simp only [Act.put, Xa, Xz, Xs]
  refine wl_val (.int .i64 0) rfl (fun _ => rfl) ?_
  simp only [Act.put, Xa, Xz, Xs]
  refine wl_nil ?_
  refine we_then ?_
  refine wc_ret ?_
  refine we_then_ret ?_
  refine we_ret2 (.int .i64 50) (.int .i64 0) rfl rfl rfl rfl (fun w1 hE => ?_)
  have e0 : fit k G H = (50, 0) := fit_eq (.inl ⟨by omega, rfl⟩)
  exact ⟨by rw [e0]; rfl, hE.below⟩
end Go.Proofs.Ytodenlojbbpfaaa.Cnf
