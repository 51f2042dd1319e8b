/-
  Package conf. Conditions: at most 2^47 segments, groups (Fits); a configuration that may be (Error, Growth).
-/
import Derived.Test.YtfohomkldpcbdaaCf
import Derived.Test.YtfohomkldpcbdaaRatio
import Derived.Test.YtfohomkldpcbdaaTra
import Derived.Test.YtfohomkldpcbdaaFns
import Derived.Test.YtfohomkldpcbdaaSk
namespace Go.Proofs.Ytfohomkldpcbdaa.Cnf
open Go.ChangeShapes Go.WideShapes Go.ChangeAt Go.RowKit
open Arr Steady Sx Sw Sl Sb Sc Vs Gr Tk Tkh Tkl Cf Fns Sk
set_option linter.unusedVariables false
set_option linter.unusedSimpArgs false
set_option maxRecDepth 100000

theorem down_quo {a : Int} (h0 : 0 ≤ a) (h1 : a ≤ 1152921504606846976) : Ratio.quoV a 1048576 false = a / 1048576 ∧ Ratio.quoE a 1048576 false = 0 := by
  have h4 : Num.Fits (a / 1048576) := by unfold Num.Fits; omega
  have h5 : ¬ (1048576 : Int) = 0 := by decide
  unfold Ratio.quoV Ratio.quoE Ratio.quo
  rw [if_neg h5, if_neg h5, if_neg Bool.false_ne_true, Int.fdiv_eq_ediv_of_nonneg _ (by decide), if_pos h4, if_pos h4]
  exact ⟨rfl, rfl⟩
set_option maxHeartbeats 2000000 in
theorem error_any (c : Cf) (r : Int) (w : World) (hc : Ok c) (h1 : -2147483648 ≤ r) (h2 : r ≤ 2147483647) :
    Calls Try.prog 29 #[.agg #[.int .i64 c.pu, .int .i64 c.lo, .int .i64 c.hi, .int .i64 c.rb, .int .i64 c.rp, .int .i64 c.ae, .int .i64 c.ms, .int .i64 c.ma, .int .i64 c.an, .int .i64 c.st, .int .i64 c.ss, .int .i64 c.ro, .int .i64 c.ti, .int .i64 c.br], .int .i64 r] w fun e w' => e = .returned (.int .i64 (err c r)) ∧ Below w.heap.size w w' := by
  obtain ⟨p1, p2⟩ := err_part hc (r := r) (by omega) (by omega)
  obtain ⟨_, _, _, _, _, _, _, _, _, _, _, _, _, _, _, _, _, _, _, _, _, _, _, _, _, _, _, _, _, _, _⟩ := hc
  refine calls_sx Try.func29 rfl ?_
  simp only [Try.ntmps29, List.size_toArray, List.length_cons, List.length_nil, Nat.reduceAdd, Nat.reduceSub, Array.replicate_succ, Array.replicate_zero, List.push_toArray, List.append_toArray, List.nil_append, List.cons_append]
  refine wc_seq ?_
  refine wc_region ?_
  refine wl_new 36 (#[.int .i64 c.pu, .int .i64 c.lo, .int .i64 c.hi, .int .i64 c.rb, .int .i64 c.rp, .int .i64 c.ae, .int .i64 c.ms, .int .i64 c.ma, .int .i64 c.an, .int .i64 c.st, .int .i64 c.ss, .int .i64 c.ro, .int .i64 c.ti, .int .i64 c.br]) rfl (fun _ => by go_simp) ?_
  intro g1
  simp only [Act.put, Xa, Xz, Xs]
  refine wl_val (.int .i64 0) rfl (fun _ => rfl) ?_
  simp only [Act.put, Xa, Xz, Xs]
  refine wl_nil ?_
  refine we_then ?_
  refine wc_seq ?_
  refine wc_region ?_
  refine wl_val (.int .i64 r) rfl (fun _ => rfl) ?_
  simp only [Act.put, Xa, Xz, Xs]
  refine wl_val (.int .i64 r) rfl (fun _ => rfl) ?_
  simp only [Act.put, Xa, Xz, Xs]
  refine wl_val (.int .i64 (-r)) rfl (fun w => run_neg rfl rfl Try.underlying2 (i64_in (by omega) (by omega)) w) ?_
  simp only [Act.put, Xa, Xz, Xs]
  refine wl_val (.int .i64 (max r (-r))) rfl (fun w => by first | exact run_max2 rfl rfl rfl rfl w | exact run_maxn2 rfl rfl rfl rfl w | go_simp) ?_
  simp only [Act.put, Xa, Xz, Xs]
  refine wl_val (.pointer (some ⟨g1, 4, none⟩)) rfl (fun _ => by go_simp) ?_
  simp only [Act.put, Xa, Xz, Xs]
  refine wl_cell 2 (.tmp 12) (.int .i64 c.rp) (own_row 0 rfl) rfl rfl rfl rfl Try.isAgg2 ?_
  simp only [Act.put, Xa, Xz, Xs]
  refine wl_call 37 #[.int .i64 (max r (-r)), .int .i64 c.rp, .int .i64 1048576] (.tuple #[.int .i64 ((max r (-r)) * c.rp / 1048576), .int .i64 0]) rfl (fun _ => by go_simp) (fun W => by have k := Ratio.floor_any (max r (-r)) c.rp 1048576 W (by unfold Num.Fits; omega) (by unfold Num.Fits; omega) (by unfold Num.Fits; omega); rw [(down_quo (a := (max r (-r)) * c.rp) (by omega) (by omega)).1, (down_quo (a := (max r (-r)) * c.rp) (by omega) (by omega)).2] at k; exact k) ?_
  simp only [Act.put, Xa, Xz, Xs]
  refine wl_val (.tuple #[.int .i64 ((max r (-r)) * c.rp / 1048576), .int .i64 0]) rfl (fun _ => rfl) ?_
  simp only [Act.put, Xa, Xz, Xs]
  refine wl_val (.int .i64 ((max r (-r)) * c.rp / 1048576)) rfl (fun _ => by go_simp) ?_
  simp only [Act.put, Xa, Xz, Xs]
  refine wl_val (.int .i64 0) rfl (fun _ => by go_simp) ?_
  simp only [Act.put, Xa, Xz, Xs]
  refine wl_val (.int .i64 ((max r (-r)) * c.rp / 1048576)) rfl (fun _ => rfl) ?_
  simp only [Act.put, Xa, Xz, Xs]
  refine wl_val (.int .i64 0) rfl (fun _ => rfl) ?_
  simp only [Act.put, Xa, Xz, Xs]
  refine wl_nil ?_
  refine we_then ?_
  refine wc_seq ?_
  refine wc_region ?_
  refine wl_val (.pointer (some ⟨g1, 3, none⟩)) rfl (fun _ => by go_simp) ?_
  simp only [Act.put, Xa, Xz, Xs]
  refine wl_cell 2 (.tmp 17) (.int .i64 c.rb) (own_row 0 rfl) rfl rfl rfl rfl Try.isAgg2 ?_
  simp only [Act.put, Xa, Xz, Xs]
  refine wl_val (.int .i64 ((max r (-r)) * c.rp / 1048576)) rfl (fun _ => rfl) ?_
  simp only [Act.put, Xa, Xz, Xs]
  refine wl_val (.int .i64 (c.rb + ((max r (-r)) * c.rp / 1048576))) rfl (fun w => run_arith (op := .add) rfl rfl rfl Try.underlying2 (congrArg some (i64_in (by omega) (by omega))) w) ?_
  simp only [Act.put, Xa, Xz, Xs]
  refine wl_val (.int .i64 (c.rb + ((max r (-r)) * c.rp / 1048576))) rfl (fun _ => rfl) ?_
  simp only [Act.put, Xa, Xz, Xs]
  refine wl_nil ?_
  refine we_then ?_
  refine wc_ret ?_
  refine we_ret1 (.int .i64 (c.rb + ((max r (-r)) * c.rp / 1048576))) rfl rfl rfl (fun w1 hE => ?_)
  exact ⟨rfl, hE.below⟩
end Go.Proofs.Ytfohomkldpcbdaa.Cnf
