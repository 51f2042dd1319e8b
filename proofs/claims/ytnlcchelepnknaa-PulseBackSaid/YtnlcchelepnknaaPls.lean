/-
  Package pulse. Conditions: counts from 0 to 65535, sums of 64 bits.
-/
import Derived.Test.YtnlcchelepnknaaPuref
import Derived.Test.YtnlcchelepnknaaSk
import Derived.Test.YtnlcchelepnknaaNum
namespace Go.Proofs.Ytnlcchelepnknaa.Pls
open Go.ChangeShapes Go.WideShapes Go.ChangeAt Go.RowKit
open Arr Steady Sx Sw Sl Sb Sc Si Sj Sk Pu Num
set_option linter.unusedVariables false
set_option linter.unusedSimpArgs false
set_option maxRecDepth 100000

theorem i16_dlt (f t : Int) : IntKind.i16.wrap ((t - f) % 65536) = dlt f t := by
  unfold dlt
  simp only [IntKind.wrap, IntKind.bits, IntKind.signed]
  simp
set_option maxHeartbeats 2000000 in
theorem delta_any (f t : Int) (w : World) (hf : 0 ≤ f ∧ f ≤ 65535) (ht : 0 ≤ t ∧ t ≤ 65535) :
    Calls Try.prog 8 #[.int .u16 f, .int .u16 t] w fun e w' => e = .returned (.int .i64 (dlt f t)) ∧ Below w.heap.size w w' := by
  have fd := dlt_is f t
  refine calls_sx Try.func8 rfl ?_
  simp only [Try.ntmps8, List.size_toArray, List.length_cons, List.length_nil, Nat.reduceAdd, Nat.reduceSub, Array.replicate_succ, Array.replicate_zero, List.push_toArray, List.append_toArray, List.nil_append, List.cons_append]
  refine wc_seq ?_
  refine wc_region ?_
  refine wl_val (.int .i64 0) rfl (fun _ => rfl) ?_
  simp only [Act.put, List.setIfInBounds_toArray, List.set_cons_zero, List.set_cons_succ]
  refine wl_nil ?_
  refine we_then ?_
  refine wc_seq ?_
  refine wc_region ?_
  refine wl_val (.int .u16 t) rfl (fun _ => rfl) ?_
  simp only [Act.put, List.setIfInBounds_toArray, List.set_cons_zero, List.set_cons_succ]
  refine wl_val (.int .u16 f) rfl (fun _ => rfl) ?_
  simp only [Act.put, List.setIfInBounds_toArray, List.set_cons_zero, List.set_cons_succ]
  refine wl_val (.int .u16 ((t - f) % 65536)) rfl (fun w => run_arith (op := .sub) rfl rfl rfl Try.underlying22 (congrArg some (u16_mod _)) w) ?_
  simp only [Act.put, List.setIfInBounds_toArray, List.set_cons_zero, List.set_cons_succ]
  refine wl_val (.int .i16 (dlt f t)) rfl (fun w => Sw.run_conv rfl rfl Try.underlying22 Try.underlying42 (i16_dlt f t) w) ?_
  simp only [Act.put, List.setIfInBounds_toArray, List.set_cons_zero, List.set_cons_succ]
  refine wl_val (.int .i64 (dlt f t)) rfl (fun w => Sw.run_conv rfl rfl Try.underlying42 Try.underlying2 (i64_in (by omega) (by omega)) w) ?_
  simp only [Act.put, List.setIfInBounds_toArray, List.set_cons_zero, List.set_cons_succ]
  refine wl_val (.int .i64 (dlt f t)) rfl (fun _ => rfl) ?_
  simp only [Act.put, List.setIfInBounds_toArray, List.set_cons_zero, List.set_cons_succ]
  refine wl_nil ?_
  refine we_then ?_
  refine wc_ret ?_
  refine we_ret1 (.int .i64 (dlt f t)) rfl rfl rfl (fun w1 hE => ?_)
  exact ⟨rfl, hE.below⟩
theorem addsat_b (a b : Int) (w : World) (ha : Fits a) (hb : Fits b) : Calls Try.prog 14 #[.int .i64 a, .int .i64 b] w fun e w' => e = .returned (.int .i64 (sat (a + b))) ∧ Below w.heap.size w w' := by
  refine (addsat_any a b w ha hb).mono ?_
  rintro e w' ⟨rfl, rfl⟩
  exact ⟨rfl, Below.refl _ _⟩
theorem fits_in {n : Int} (h : -9223372036854775808 ≤ n) (h' : n ≤ 9223372036854775807) : Fits n := ⟨h, h'⟩
theorem fits_dlt (f t : Int) : Fits (dlt f t) := by
  have := dlt_is f t
  unfold Fits
  omega
set_option maxHeartbeats 2000000 in
theorem next_none (k : Bool) (l s n : Int) (w : World) (hl : 0 ≤ l ∧ l ≤ 65535) (hs : Fits s) :
    Calls Try.prog 10 #[.agg #[.bool k, .int .u16 l, .int .i64 s], .int .i64 n, .bool false] w fun e w' => e = .returned (.tuple #[.agg #[.bool false, .int .u16 l, .int .i64 s], .int .i64 0, .bool false]) ∧ Below w.heap.size w w' := by
  refine calls_sx Try.func10 rfl ?_
  simp only [Try.ntmps10, List.size_toArray, List.length_cons, List.length_nil, Nat.reduceAdd, Nat.reduceSub, Array.replicate_succ, Array.replicate_zero, List.push_toArray, List.append_toArray, List.nil_append, List.cons_append]
  refine wc_seq ?_
  refine wc_region ?_
  refine wl_new 28 (#[.bool k, .int .u16 l, .int .i64 s]) rfl (fun _ => by go_simp) ?_
  intro g1
  simp only [Act.put, List.setIfInBounds_toArray, List.set_cons_zero, List.set_cons_succ]
  refine wl_new 28 (#[.bool false, .int .u16 0, .int .i64 0]) rfl (fun _ => by go_simp) ?_
  intro g2
  simp only [Act.put, List.setIfInBounds_toArray, List.set_cons_zero, List.set_cons_succ]
  refine wl_val (.int .i64 0) rfl (fun _ => rfl) ?_
  simp only [Act.put, List.setIfInBounds_toArray, List.set_cons_zero, List.set_cons_succ]
  refine wl_val (.bool false) rfl (fun _ => rfl) ?_
  simp only [Act.put, List.setIfInBounds_toArray, List.set_cons_zero, List.set_cons_succ]
  refine wl_nil ?_
  refine we_then ?_
  refine wc_seq ?_
  refine wc_seq ?_
  refine wc_region ?_
  refine wl_val (.bool false) rfl (fun _ => rfl) ?_
  simp only [Act.put, List.setIfInBounds_toArray, List.set_cons_zero, List.set_cons_succ]
  refine wl_val (.bool true) rfl (fun _ => by go_simp) ?_
  simp only [Act.put, List.setIfInBounds_toArray, List.set_cons_zero, List.set_cons_succ]
  refine wl_nil ?_
  refine we_then ?_
  refine wc_true rfl ?_
  refine wc_seq ?_
  refine wc_region ?_
  refine wl_val (.pointer (some ⟨g1, 0, none⟩)) rfl (fun _ => by go_simp) ?_
  simp only [Act.put, List.setIfInBounds_toArray, List.set_cons_zero, List.set_cons_succ]
  refine wl_store_cell 1 4 (.tmp 13) (.const (.bool false)) (.bool k) (.bool false) rfl rfl rfl rfl rfl rfl (by kernel_rfl) rfl ?_
  simp only [Act.put, List.set_cons_zero, List.set_cons_succ]
  refine wl_nil ?_
  refine we_then ?_
  refine wc_seq ?_
  refine wc_region ?_
  refine wl_load 28 (.tmp 3) (own_row 1 rfl) rfl rfl rfl Try.underlying28 rfl (by kernel_rfl) ?_
  simp only [Act.put, List.setIfInBounds_toArray, List.set_cons_zero, List.set_cons_succ]
  refine wl_store 0 28 (.tmp 6) (.tmp 14) (#[.bool false, .int .u16 l, .int .i64 s]) rfl rfl rfl rfl rfl (by kernel_rfl) rfl (by simp [Value.oneCell']) ?_
  simp only [Act.put, List.set_cons_zero]
  refine wl_val (.int .i64 0) rfl (fun _ => rfl) ?_
  simp only [Act.put, List.setIfInBounds_toArray, List.set_cons_zero, List.set_cons_succ]
  refine wl_val (.bool false) rfl (fun _ => rfl) ?_
  simp only [Act.put, List.setIfInBounds_toArray, List.set_cons_zero, List.set_cons_succ]
  refine wl_nil ?_
  refine we_then ?_
  refine wc_ret ?_
  refine we_then_ret ?_
  refine we_ret_cell_tmp2 (.int .i64 0) (.bool false) (own_row 0 rfl) rfl rfl rfl rfl rfl Try.underlying28 rfl (by kernel_rfl) (fun w1 hE => ?_)
  exact ⟨rfl, hE.below⟩
set_option maxHeartbeats 2000000 in
theorem next_new (l s n : Int) (w : World) (hl : 0 ≤ l ∧ l ≤ 65535) (hs : Fits s) :
    Calls Try.prog 10 #[.agg #[.bool false, .int .u16 l, .int .i64 s], .int .i64 n, .bool true] w fun e w' => e = .returned (.tuple #[.agg #[.bool true, .int .u16 (n % 65536), .int .i64 s], .int .i64 0, .bool false]) ∧ Below w.heap.size w w' := by
  refine calls_sx Try.func10 rfl ?_
  simp only [Try.ntmps10, List.size_toArray, List.length_cons, List.length_nil, Nat.reduceAdd, Nat.reduceSub, Array.replicate_succ, Array.replicate_zero, List.push_toArray, List.append_toArray, List.nil_append, List.cons_append]
  refine wc_seq ?_
  refine wc_region ?_
  refine wl_new 28 (#[.bool false, .int .u16 l, .int .i64 s]) rfl (fun _ => by go_simp) ?_
  intro g1
  simp only [Act.put, List.setIfInBounds_toArray, List.set_cons_zero, List.set_cons_succ]
  refine wl_new 28 (#[.bool false, .int .u16 0, .int .i64 0]) rfl (fun _ => by go_simp) ?_
  intro g2
  simp only [Act.put, List.setIfInBounds_toArray, List.set_cons_zero, List.set_cons_succ]
  refine wl_val (.int .i64 0) rfl (fun _ => rfl) ?_
  simp only [Act.put, List.setIfInBounds_toArray, List.set_cons_zero, List.set_cons_succ]
  refine wl_val (.bool false) rfl (fun _ => rfl) ?_
  simp only [Act.put, List.setIfInBounds_toArray, List.set_cons_zero, List.set_cons_succ]
  refine wl_nil ?_
  refine we_then ?_
  refine wc_seq ?_
  refine wc_seq ?_
  refine wc_region ?_
  refine wl_val (.bool true) rfl (fun _ => rfl) ?_
  simp only [Act.put, List.setIfInBounds_toArray, List.set_cons_zero, List.set_cons_succ]
  refine wl_val (.bool false) rfl (fun _ => by go_simp) ?_
  simp only [Act.put, List.setIfInBounds_toArray, List.set_cons_zero, List.set_cons_succ]
  refine wl_nil ?_
  refine we_then ?_
  refine wc_false rfl ?_
  refine wc_skip ?_
  refine we_then ?_
  refine wc_seq ?_
  refine wc_region ?_
  refine wl_val (.int .i64 n) rfl (fun _ => rfl) ?_
  simp only [Act.put, List.setIfInBounds_toArray, List.set_cons_zero, List.set_cons_succ]
  refine wl_val (.int .u16 (n % 65536)) rfl (fun w => Sw.run_conv (r := n % 65536) rfl rfl Try.underlying2 Try.underlying22 (u16_mod _) w) ?_
  simp only [Act.put, List.setIfInBounds_toArray, List.set_cons_zero, List.set_cons_succ]
  refine wl_val (.int .u16 (n % 65536)) rfl (fun _ => rfl) ?_
  simp only [Act.put, List.setIfInBounds_toArray, List.set_cons_zero, List.set_cons_succ]
  refine wl_nil ?_
  refine we_then ?_
  refine wc_seq ?_
  refine wc_seq ?_
  refine wc_region ?_
  refine wl_val (.pointer (some ⟨g1, 0, none⟩)) rfl (fun _ => by go_simp) ?_
  simp only [Act.put, List.setIfInBounds_toArray, List.set_cons_zero, List.set_cons_succ]
  refine wl_cell 4 (.tmp 17) (.bool false) (own_row 1 rfl) rfl rfl rfl rfl Try.isAgg4 ?_
  simp only [Act.put, List.setIfInBounds_toArray, List.set_cons_zero, List.set_cons_succ]
  refine wl_val (.bool true) rfl (fun _ => by go_simp) ?_
  simp only [Act.put, List.setIfInBounds_toArray, List.set_cons_zero, List.set_cons_succ]
  refine wl_nil ?_
  refine we_then ?_
  refine wc_true rfl ?_
  refine wc_seq ?_
  refine wc_region ?_
  refine wl_val (.int .u16 (n % 65536)) rfl (fun _ => rfl) ?_
  simp only [Act.put, List.setIfInBounds_toArray, List.set_cons_zero, List.set_cons_succ]
  refine wl_val (.pointer (some ⟨g1, 2, none⟩)) rfl (fun _ => by go_simp) ?_
  simp only [Act.put, List.setIfInBounds_toArray, List.set_cons_zero, List.set_cons_succ]
  refine wl_cell 2 (.tmp 21) (.int .i64 s) (own_row 1 rfl) rfl rfl rfl rfl Try.isAgg2 ?_
  simp only [Act.put, List.setIfInBounds_toArray, List.set_cons_zero, List.set_cons_succ]
  refine wl_val (.agg #[.bool true, .int .u16 (n % 65536), .int .i64 s]) rfl (fun _ => by go_simp) ?_
  simp only [Act.put, List.setIfInBounds_toArray, List.set_cons_zero, List.set_cons_succ]
  refine wl_store 0 28 (.tmp 6) (.tmp 23) (#[.bool true, .int .u16 (n % 65536), .int .i64 s]) rfl rfl rfl rfl rfl (by kernel_rfl) rfl (by simp [Value.oneCell']) ?_
  simp only [Act.put, List.set_cons_zero]
  refine wl_val (.int .i64 0) rfl (fun _ => rfl) ?_
  simp only [Act.put, List.setIfInBounds_toArray, List.set_cons_zero, List.set_cons_succ]
  refine wl_val (.bool false) rfl (fun _ => rfl) ?_
  simp only [Act.put, List.setIfInBounds_toArray, List.set_cons_zero, List.set_cons_succ]
  refine wl_nil ?_
  refine we_then ?_
  refine wc_ret ?_
  refine we_then_ret ?_
  refine we_ret_cell_tmp2 (.int .i64 0) (.bool false) (own_row 0 rfl) rfl rfl rfl rfl rfl Try.underlying28 rfl (by kernel_rfl) (fun w1 hE => ?_)
  exact ⟨rfl, hE.below⟩
set_option maxHeartbeats 2000000 in
theorem next_more (l s n : Int) (w : World) (hl : 0 ≤ l ∧ l ≤ 65535) (hs : Fits s) :
    Calls Try.prog 10 #[.agg #[.bool true, .int .u16 l, .int .i64 s], .int .i64 n, .bool true] w fun e w' => e = .returned (.tuple #[.agg #[.bool true, .int .u16 (n % 65536), .int .i64 (sat (s + dlt l (n % 65536)))], .int .i64 (dlt l (n % 65536)), .bool true]) ∧ Below w.heap.size w w' := by
  refine calls_sx Try.func10 rfl ?_
  simp only [Try.ntmps10, List.size_toArray, List.length_cons, List.length_nil, Nat.reduceAdd, Nat.reduceSub, Array.replicate_succ, Array.replicate_zero, List.push_toArray, List.append_toArray, List.nil_append, List.cons_append]
  refine wc_seq ?_
  refine wc_region ?_
  refine wl_new 28 (#[.bool true, .int .u16 l, .int .i64 s]) rfl (fun _ => by go_simp) ?_
  intro g1
  simp only [Act.put, List.setIfInBounds_toArray, List.set_cons_zero, List.set_cons_succ]
  refine wl_new 28 (#[.bool false, .int .u16 0, .int .i64 0]) rfl (fun _ => by go_simp) ?_
  intro g2
  simp only [Act.put, List.setIfInBounds_toArray, List.set_cons_zero, List.set_cons_succ]
  refine wl_val (.int .i64 0) rfl (fun _ => rfl) ?_
  simp only [Act.put, List.setIfInBounds_toArray, List.set_cons_zero, List.set_cons_succ]
  refine wl_val (.bool false) rfl (fun _ => rfl) ?_
  simp only [Act.put, List.setIfInBounds_toArray, List.set_cons_zero, List.set_cons_succ]
  refine wl_nil ?_
  refine we_then ?_
  refine wc_seq ?_
  refine wc_seq ?_
  refine wc_region ?_
  refine wl_val (.bool true) rfl (fun _ => rfl) ?_
  simp only [Act.put, List.setIfInBounds_toArray, List.set_cons_zero, List.set_cons_succ]
  refine wl_val (.bool false) rfl (fun _ => by go_simp) ?_
  simp only [Act.put, List.setIfInBounds_toArray, List.set_cons_zero, List.set_cons_succ]
  refine wl_nil ?_
  refine we_then ?_
  refine wc_false rfl ?_
  refine wc_skip ?_
  refine we_then ?_
  refine wc_seq ?_
  refine wc_region ?_
  refine wl_val (.int .i64 n) rfl (fun _ => rfl) ?_
  simp only [Act.put, List.setIfInBounds_toArray, List.set_cons_zero, List.set_cons_succ]
  refine wl_val (.int .u16 (n % 65536)) rfl (fun w => Sw.run_conv (r := n % 65536) rfl rfl Try.underlying2 Try.underlying22 (u16_mod _) w) ?_
  simp only [Act.put, List.setIfInBounds_toArray, List.set_cons_zero, List.set_cons_succ]
  refine wl_val (.int .u16 (n % 65536)) rfl (fun _ => rfl) ?_
  simp only [Act.put, List.setIfInBounds_toArray, List.set_cons_zero, List.set_cons_succ]
  refine wl_nil ?_
  refine we_then ?_
  refine wc_seq ?_
  refine wc_seq ?_
  refine wc_region ?_
  refine wl_val (.pointer (some ⟨g1, 0, none⟩)) rfl (fun _ => by go_simp) ?_
  simp only [Act.put, List.setIfInBounds_toArray, List.set_cons_zero, List.set_cons_succ]
  refine wl_cell 4 (.tmp 17) (.bool true) (own_row 1 rfl) rfl rfl rfl rfl Try.isAgg4 ?_
  simp only [Act.put, List.setIfInBounds_toArray, List.set_cons_zero, List.set_cons_succ]
  refine wl_val (.bool false) rfl (fun _ => by go_simp) ?_
  simp only [Act.put, List.setIfInBounds_toArray, List.set_cons_zero, List.set_cons_succ]
  refine wl_nil ?_
  refine we_then ?_
  refine wc_false rfl ?_
  refine wc_skip ?_
  refine we_then ?_
  refine wc_seq ?_
  refine wc_region ?_
  refine wl_val (.pointer (some ⟨g1, 1, none⟩)) rfl (fun _ => by go_simp) ?_
  simp only [Act.put, List.setIfInBounds_toArray, List.set_cons_zero, List.set_cons_succ]
  refine wl_cell 22 (.tmp 24) (.int .u16 l) (own_row 1 rfl) rfl rfl rfl rfl Try.isAgg22 ?_
  simp only [Act.put, List.setIfInBounds_toArray, List.set_cons_zero, List.set_cons_succ]
  refine wl_val (.int .u16 (n % 65536)) rfl (fun _ => rfl) ?_
  simp only [Act.put, List.setIfInBounds_toArray, List.set_cons_zero, List.set_cons_succ]
  refine wl_call 8 #[.int .u16 l, .int .u16 (n % 65536)] (.int .i64 (dlt l (n % 65536))) rfl (fun _ => by go_simp) (fun W => delta_any l (n % 65536) W (by omega) (by omega)) ?_
  simp only [Act.put, List.setIfInBounds_toArray, List.set_cons_zero, List.set_cons_succ]
  refine wl_val (.int .i64 (dlt l (n % 65536))) rfl (fun _ => rfl) ?_
  simp only [Act.put, List.setIfInBounds_toArray, List.set_cons_zero, List.set_cons_succ]
  refine wl_nil ?_
  refine we_then ?_
  refine wc_seq ?_
  refine wc_region ?_
  refine wl_val (.int .u16 (n % 65536)) rfl (fun _ => rfl) ?_
  simp only [Act.put, List.setIfInBounds_toArray, List.set_cons_zero, List.set_cons_succ]
  refine wl_val (.pointer (some ⟨g1, 2, none⟩)) rfl (fun _ => by go_simp) ?_
  simp only [Act.put, List.setIfInBounds_toArray, List.set_cons_zero, List.set_cons_succ]
  refine wl_cell 2 (.tmp 29) (.int .i64 s) (own_row 1 rfl) rfl rfl rfl rfl Try.isAgg2 ?_
  simp only [Act.put, List.setIfInBounds_toArray, List.set_cons_zero, List.set_cons_succ]
  refine wl_val (.int .i64 (dlt l (n % 65536))) rfl (fun _ => rfl) ?_
  simp only [Act.put, List.setIfInBounds_toArray, List.set_cons_zero, List.set_cons_succ]
  refine wl_call 14 #[.int .i64 s, .int .i64 (dlt l (n % 65536))] (.int .i64 (sat (s + (dlt l (n % 65536))))) rfl (fun _ => by go_simp) (fun W => addsat_b s (dlt l (n % 65536)) W hs (fits_dlt _ _)) ?_
  simp only [Act.put, List.setIfInBounds_toArray, List.set_cons_zero, List.set_cons_succ]
  refine wl_val (.agg #[.bool true, .int .u16 (n % 65536), .int .i64 (sat (s + (dlt l (n % 65536))))]) rfl (fun _ => by go_simp) ?_
  simp only [Act.put, List.setIfInBounds_toArray, List.set_cons_zero, List.set_cons_succ]
  refine wl_val (.int .i64 (dlt l (n % 65536))) rfl (fun _ => rfl) ?_
  simp only [Act.put, List.setIfInBounds_toArray, List.set_cons_zero, List.set_cons_succ]
  refine wl_store 0 28 (.tmp 6) (.tmp 33) (#[.bool true, .int .u16 (n % 65536), .int .i64 (sat (s + (dlt l (n % 65536))))]) rfl rfl rfl rfl rfl (by kernel_rfl) rfl (by simp [Value.oneCell']) ?_
  simp only [Act.put, List.set_cons_zero]
  refine wl_val (.int .i64 (dlt l (n % 65536))) rfl (fun _ => rfl) ?_
  simp only [Act.put, List.setIfInBounds_toArray, List.set_cons_zero, List.set_cons_succ]
  refine wl_val (.bool true) rfl (fun _ => rfl) ?_
  simp only [Act.put, List.setIfInBounds_toArray, List.set_cons_zero, List.set_cons_succ]
  refine wl_nil ?_
  refine we_then ?_
  refine wc_ret ?_
  refine we_ret_cell_tmp2 (.int .i64 (dlt l (n % 65536))) (.bool true) (own_row 0 rfl) rfl rfl rfl rfl rfl Try.underlying28 rfl (by kernel_rfl) (fun w1 hE => ?_)
  exact ⟨rfl, hE.below⟩
/-- A count behind a known one, told by how many pulses lie between. -/
theorem next_told (l s n d : Int) (w : World) (hl : 0 ≤ l ∧ l ≤ 65535) (hs : Fits s) (hd : dlt l (n % 65536) = d) (hf : Fits (s + d)) :
    Calls Try.prog 10 #[.agg #[.bool true, .int .u16 l, .int .i64 s], .int .i64 n, .bool true] w fun e w' => e = .returned (.tuple #[.agg #[.bool true, .int .u16 (n % 65536), .int .i64 (s + d)], .int .i64 d, .bool true]) ∧ Below w.heap.size w w' := by
  have h := next_more l s n w hl hs
  rwa [hd, sat_fits hf] at h
set_option maxHeartbeats 1000000 in
theorem anchor_any (w : World) : Calls Try.prog 7 #[] w fun e w' => e = .returned (.bool true) ∧ Below w.heap.size w w' := by
  refine calls_sx Try.func7 rfl ?_
  simp only [Try.ntmps7, List.size_toArray, List.length_nil, Nat.reduceSub, Array.replicate_succ, Array.replicate_zero, List.push_toArray, List.append_toArray, List.nil_append, List.cons_append]
  refine wc_seq ?_
  refine wc_region ?_
  refine wl_val (.bool false) rfl (fun _ => rfl) ?_
  simp only [Act.put, List.setIfInBounds_toArray, List.set_cons_zero]
  refine wl_nil ?_
  refine we_then ?_
  refine wc_seq ?_
  refine wc_region ?_
  refine wl_call 8 #[.int .u16 65530, .int .u16 4] (.int .i64 10) rfl (fun _ => by go_simp) (fun W => by have h := delta_any 65530 4 W (by decide) (by decide); rwa [show dlt 65530 4 = 10 from by decide] at h) ?_
  simp only [Act.put, List.setIfInBounds_toArray, List.set_cons_zero, List.set_cons_succ]
  refine wl_val (.bool true) rfl (fun w => run_cmp rfl rfl rfl Try.underlying2 rfl w) ?_
  simp only [Act.put, List.setIfInBounds_toArray, List.set_cons_zero, List.set_cons_succ]
  refine wl_val (.bool true) rfl (fun _ => rfl) ?_
  simp only [Act.put, List.setIfInBounds_toArray, List.set_cons_zero]
  refine wl_nil ?_
  refine we_then ?_
  refine wc_ret ?_
  refine we_ret1 (.bool true) rfl rfl rfl (fun w1 hE => ?_)
  exact ⟨rfl, hE.below⟩
end Go.Proofs.Ytnlcchelepnknaa.Pls
