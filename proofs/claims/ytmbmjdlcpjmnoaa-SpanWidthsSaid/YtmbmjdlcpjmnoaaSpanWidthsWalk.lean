/-
  The walk of SpanWidths: for any span it returns true. No condition.
-/
import Derived.Test.YtmbmjdlcpjmnoaaSpanTimes0
namespace Go.Proofs.Ytmbmjdlcpjmnoaa.Walks
open Go.ChangeShapes Go.WideShapes Go.ChangeAt Go.RowKit
open Num Ref Ratio RatioRef Arr Nmx Span SpanRef Steady Sx Sw
set_option linter.unusedVariables false
set_option maxRecDepth 100000

/-- Digits are held against a number of 64 bits. -/
theorem eq_two {o : Oper} {a : Act} {x y : Operand} (d : Nm) (n : Int) (hn : d.n = n) (h0 : 0 ≤ n) (h1 : n ≤ 18446744073709551615) (ho : o.op = .binOp .eql 26 x y 26)
    (hx : a.eval x = .agg #[.int .u64 (d.n % 4294967296), .int .u64 (d.n / 4294967296 % 4294967296), .int .u64 (d.n / 18446744073709551616 % 4294967296), .int .u64 (d.n / 79228162514264337593543950336)])
    (hy : a.eval y = .agg #[.int .u64 (n % 4294967296), .int .u64 (n / 4294967296), .int .u64 0, .int .u64 0]) (w : World) : (execOp a.eval o).run Try.prog w = .ok (.value (.bool true)) w := by
  refine run_eqR ho hx hy (fun _ => by go_simp) (fun w => ?_) w
  have h := run_equalIn_list (P := Try.prog) 9998 .u64 26 25 [d.n % 4294967296, d.n / 4294967296 % 4294967296, d.n / 18446744073709551616 % 4294967296, d.n / 79228162514264337593543950336] [n % 4294967296, n / 4294967296, 0, 0] rfl w (by kernel_rfl) (by kernel_rfl) (by kernel_rfl)
  have e : ([d.n % 4294967296, d.n / 4294967296 % 4294967296, d.n / 18446744073709551616 % 4294967296, d.n / 79228162514264337593543950336] == [n % 4294967296, n / 4294967296, 0, 0]) = true := by
    rw [beq_iff_eq, hn, show n / 4294967296 % 4294967296 = n / 4294967296 by omega, show n / 18446744073709551616 % 4294967296 = 0 by omega, show n / 79228162514264337593543950336 = 0 by omega]
  rw [← e]
  exact h
set_option maxHeartbeats 2000000 in
theorem spanWidths_core (a b : Int) (x y m d : Nm) (ha : Fits a) (hb : Fits b) (hd : d.n = b - a ∨ b < a)
    (c1 : ∀ W, Calls Try.prog 9 #[.int .i64 b] W fun e w' => e = .returned (.agg x.cs) ∧ Below W.heap.size W w')
    (c2 : ∀ W, Calls Try.prog 9 #[.int .i64 a] W fun e w' => e = .returned (.agg y.cs) ∧ Below W.heap.size W w')
    (c3 : ∀ W, Calls Try.prog 16 #[.agg y.cs] W fun e w' => e = .returned (.agg m.cs) ∧ Below W.heap.size W w')
    (c4 : ∀ W, Calls Try.prog 15 #[.agg x.cs, .agg m.cs] W fun e w' => e = .returned (.agg d.cs) ∧ Below W.heap.size W w') (w : World) :
    Calls Try.prog 5 #[.agg #[.int .i64 a, .int .i64 b]] w fun e w' => e = .returned (.bool true) ∧ Below w.heap.size w w' := by
  refine calls_sx Try.func5 rfl ?_
  simp only [Try.ntmps5, List.size_toArray, List.length_cons, List.length_nil, Nat.reduceAdd, Nat.reduceSub, Array.replicate_succ, Array.replicate_zero, List.push_toArray, List.append_toArray, List.nil_append, List.cons_append]
  refine wc_seq ?_
  refine wc_region ?_
  refine wl_new 23 (#[.int .i64 a, .int .i64 b]) rfl (fun _ => by go_simp) ?_
  intro g1
  simp only [Act.put, List.setIfInBounds_toArray, List.set_cons_zero, List.set_cons_succ]
  refine wl_val (.bool false) rfl (fun _ => rfl) ?_
  simp only [Act.put, List.setIfInBounds_toArray, List.set_cons_zero, List.set_cons_succ]
  refine wl_nil ?_
  refine we_then ?_
  refine wc_seq ?_
  refine wc_seq ?_
  refine wc_region ?_
  refine wl_call 8 #[] (.bool true) rfl (fun _ => by go_simp) anchor4 ?_
  simp only [Act.put, List.setIfInBounds_toArray, List.set_cons_zero, List.set_cons_succ]
  refine wl_val (.bool false) rfl (fun _ => by go_simp) ?_
  simp only [Act.put, List.setIfInBounds_toArray, List.set_cons_zero, List.set_cons_succ]
  refine wl_nil ?_
  refine we_then ?_
  refine wc_false rfl ?_
  refine wc_skip ?_
  refine we_then ?_
  refine wc_seq ?_
  refine wc_seq ?_
  refine wc_region ?_
  refine wl_val (.pointer (some ⟨g1, 0, none⟩)) rfl (fun _ => by go_simp) ?_
  simp only [Act.put, List.setIfInBounds_toArray, List.set_cons_zero, List.set_cons_succ]
  refine wl_cell 2 (.tmp 8) (.int .i64 a) (own_row 0 rfl) rfl rfl rfl rfl Try.isAgg2 ?_
  simp only [Act.put, List.setIfInBounds_toArray, List.set_cons_zero, List.set_cons_succ]
  refine wl_val (.pointer (some ⟨g1, 1, none⟩)) rfl (fun _ => by go_simp) ?_
  simp only [Act.put, List.setIfInBounds_toArray, List.set_cons_zero, List.set_cons_succ]
  refine wl_cell 2 (.tmp 10) (.int .i64 b) (own_row 0 rfl) rfl rfl rfl rfl Try.isAgg2 ?_
  simp only [Act.put, List.setIfInBounds_toArray, List.set_cons_zero, List.set_cons_succ]
  refine wl_val (.bool (decide (b < a))) rfl (fun w => run_cmp rfl rfl rfl Try.underlying2 rfl w) ?_
  simp only [Act.put, List.setIfInBounds_toArray, List.set_cons_zero, List.set_cons_succ]
  refine wl_nil ?_
  refine we_then ?_
  cases h2 : (decide (b < a))
  · skip
    have p2 : ¬ (b < a) := of_decide_eq_false h2
    refine wc_false rfl ?_
    refine wc_skip ?_
    refine we_then ?_
    refine wc_seq ?_
    refine wc_region ?_
    refine wl_load 23 (.tmp 1) (own_row 0 rfl) rfl rfl rfl Try.underlying23 rfl (by kernel_rfl) ?_
    simp only [Act.put, List.setIfInBounds_toArray, List.set_cons_zero, List.set_cons_succ]
    refine wl_call 24 #[.agg #[.int .i64 a, .int .i64 b]] (.int .i64 ((a + b) / 2)) rfl (fun _ => by go_simp) (fun W => Span.mid_any a b W ha hb) ?_
    simp only [Act.put, List.setIfInBounds_toArray, List.set_cons_zero, List.set_cons_succ]
    refine wl_val (.int .i64 ((a + b) / 2)) rfl (fun _ => rfl) ?_
    simp only [Act.put, List.setIfInBounds_toArray, List.set_cons_zero, List.set_cons_succ]
    refine wl_nil ?_
    refine we_then ?_
    refine wc_seq ?_
    refine wc_draw [.late, .plain, .plain, .late, .plain, .plain, .plain, .plain, .make 28 (#[.int .i64 0, .int .u64 0, .int .u64 0, .int .u64 0, .int .u64 0]) 9 (d.cs), .put 8] none [(8, 4)] 59 (by kernel_rfl) rfl (by kernel_rfl) (by kernel_rfl) ?_
    refine ws_late (.pointer (some ⟨g1, 1, none⟩)) rfl rfl (fun _ => by go_simp) ?_
    simp only [Nat.reduceAdd, Act.put, List.setIfInBounds_toArray, List.set_cons_zero, List.set_cons_succ]
    refine ws_cell 2 (.tmp 18) (.int .i64 b) (own_row 0 rfl) rfl rfl rfl rfl rfl Try.isAgg2 ?_
    simp only [Nat.reduceAdd, Act.put, List.setIfInBounds_toArray, List.set_cons_zero, List.set_cons_succ]
    refine ws_call 9 #[.int .i64 b] (.agg x.cs) rfl rfl (fun _ => by go_simp) c1 ?_
    simp only [Nat.reduceAdd, Act.put, List.setIfInBounds_toArray, List.set_cons_zero, List.set_cons_succ]
    refine ws_late (.pointer (some ⟨g1, 0, none⟩)) rfl rfl (fun _ => by go_simp) ?_
    simp only [Nat.reduceAdd, Act.put, List.setIfInBounds_toArray, List.set_cons_zero, List.set_cons_succ]
    refine ws_cell 2 (.tmp 21) (.int .i64 a) (own_row 0 rfl) rfl rfl rfl rfl rfl Try.isAgg2 ?_
    simp only [Nat.reduceAdd, Act.put, List.setIfInBounds_toArray, List.set_cons_zero, List.set_cons_succ]
    refine ws_call 9 #[.int .i64 a] (.agg y.cs) rfl rfl (fun _ => by go_simp) c2 ?_
    simp only [Nat.reduceAdd, Act.put, List.setIfInBounds_toArray, List.set_cons_zero, List.set_cons_succ]
    refine ws_call 16 #[.agg y.cs] (.agg m.cs) rfl rfl (fun _ => by go_simp) c3 ?_
    simp only [Nat.reduceAdd, Act.put, List.setIfInBounds_toArray, List.set_cons_zero, List.set_cons_succ]
    refine ws_call 15 #[.agg x.cs, .agg m.cs] (.agg d.cs) rfl rfl (fun _ => by go_simp) c4 ?_
    simp only [Nat.reduceAdd, Act.put, List.setIfInBounds_toArray, List.set_cons_zero, List.set_cons_succ]
    refine ws_make 28 (#[.int .i64 0, .int .u64 0, .int .u64 0, .int .u64 0, .int .u64 0]) 9 (d.cs) rfl rfl rfl (zero_of_info (n := 5) (by kernel_rfl)).1 ?_
    simp only [Nat.reduceAdd, Act.put, List.setIfInBounds_toArray, List.set_cons_zero, List.set_cons_succ]
    refine ws_put 8 28 4 (.tmp 25) _ _ _ rfl rfl rfl rfl (by simp) rfl rfl rfl (by kernel_rfl) rfl (Nm.one d) ?_
    simp only [Nat.reduceAdd]
    refine ws_nil [(8, d.cs, 28)] ⟨⟨by decide, _, _, _, rfl, .inl ⟨by decide, rfl⟩⟩, trivial⟩ (by simp) ?_
    intro ps3
    simp only [fin, List.foldl_cons, List.foldl_nil, List.map, rowOf, List.cons_append, List.nil_append, Act.put, List.setIfInBounds_toArray, List.set_cons_zero, List.set_cons_succ]
    refine we_then ?_
    refine wc_seq ?_
    refine wc_region ?_
    refine wl_load 23 (.tmp 1) (own_row 1 rfl) rfl rfl rfl Try.underlying23 rfl (by kernel_rfl) ?_
    simp only [Act.put, List.setIfInBounds_toArray, List.set_cons_zero, List.set_cons_succ]
    refine wl_call 23 #[.agg #[.int .i64 a, .int .i64 b]] (.int .u64 (b - a)) rfl (fun _ => by go_simp) (fun W => width_any a b W ha hb (by omega)) ?_
    simp only [Act.put, List.setIfInBounds_toArray, List.set_cons_zero, List.set_cons_succ]
    refine wl_val (.int .u64 (b - a)) rfl (fun _ => rfl) ?_
    simp only [Act.put, List.setIfInBounds_toArray, List.set_cons_zero, List.set_cons_succ]
    refine wl_nil ?_
    refine we_then ?_
    refine wc_seq ?_
    refine wc_region ?_
    refine wl_val (.pointer (some ⟨(ps3 8), 1, none⟩)) rfl (fun _ => by go_simp) ?_
    simp only [Act.put, List.setIfInBounds_toArray, List.set_cons_zero, List.set_cons_succ]
    refine wl_part 26 (.tmp 28) [.int .u64 (d.n % 4294967296), .int .u64 (d.n / 4294967296 % 4294967296), .int .u64 (d.n / 18446744073709551616 % 4294967296), .int .u64 (d.n / 79228162514264337593543950336)] (own_row 0 rfl) rfl rfl rfl rfl Try.underlying26 rfl (by kernel_rfl) ?_
    simp only [Act.put, List.setIfInBounds_toArray, List.set_cons_zero, List.set_cons_succ]
    refine wl_val (.int .u64 (b - a)) rfl (fun _ => rfl) ?_
    simp only [Act.put, List.setIfInBounds_toArray, List.set_cons_zero, List.set_cons_succ]
    refine wl_val (.int .u64 ((b - a) % 4294967296)) rfl (fun w => run_rem rfl rfl rfl Try.underlying25 (by omega) (by omega) w) ?_
    simp only [Act.put, List.setIfInBounds_toArray, List.set_cons_zero, List.set_cons_succ]
    refine wl_val (.int .u64 (b - a)) rfl (fun _ => rfl) ?_
    simp only [Act.put, List.setIfInBounds_toArray, List.set_cons_zero, List.set_cons_succ]
    refine wl_val (.int .u64 ((b - a) / 4294967296)) rfl (fun w => run_quo rfl rfl rfl Try.underlying25 (by omega) (by omega) (u64_in (by omega) (by unfold Fits at ha hb; omega)) w) ?_
    simp only [Act.put, List.setIfInBounds_toArray, List.set_cons_zero, List.set_cons_succ]
    refine wl_val (.agg #[.int .u64 ((b - a) % 4294967296), .int .u64 ((b - a) / 4294967296), .int .u64 0, .int .u64 0]) rfl (fun _ => by go_simp) ?_
    simp only [Act.put, List.setIfInBounds_toArray, List.set_cons_zero, List.set_cons_succ]
    refine wl_val (.bool true) rfl (fun w => eq_two d (b - a) (by omega) (by omega) (by unfold Fits at ha hb; omega) rfl rfl rfl w) ?_
    simp only [Act.put, List.setIfInBounds_toArray, List.set_cons_zero, List.set_cons_succ]
    refine wl_val (.bool true) rfl (fun _ => rfl) ?_
    simp only [Act.put, List.setIfInBounds_toArray, List.set_cons_zero, List.set_cons_succ]
    refine wl_val (.int .i64 ((a + b) / 2)) rfl (fun _ => rfl) ?_
    simp only [Act.put, List.setIfInBounds_toArray, List.set_cons_zero, List.set_cons_succ]
    refine wl_val (.pointer (some ⟨g1, 0, none⟩)) rfl (fun _ => by go_simp) ?_
    simp only [Act.put, List.setIfInBounds_toArray, List.set_cons_zero, List.set_cons_succ]
    refine wl_cell 2 (.tmp 38) (.int .i64 a) (own_row 1 rfl) rfl rfl rfl rfl Try.isAgg2 ?_
    simp only [Act.put, List.setIfInBounds_toArray, List.set_cons_zero, List.set_cons_succ]
    refine wl_val (.bool (decide (a ≤ ((a + b) / 2)))) rfl (fun w => run_cmp rfl rfl rfl Try.underlying2 rfl w) ?_
    simp only [Act.put, List.setIfInBounds_toArray, List.set_cons_zero, List.set_cons_succ]
    refine wl_val (.bool (decide (a ≤ ((a + b) / 2)))) rfl (fun _ => rfl) ?_
    simp only [Act.put, List.setIfInBounds_toArray, List.set_cons_zero, List.set_cons_succ]
    refine wl_val (.bool (decide (a ≤ ((a + b) / 2)))) rfl (fun _ => rfl) ?_
    simp only [Act.put, List.setIfInBounds_toArray, List.set_cons_zero, List.set_cons_succ]
    cases h4 : (decide (a ≤ ((a + b) / 2)))
    · skip
      have p4 : ¬ (a ≤ ((a + b) / 2)) := of_decide_eq_false h4
      exact (by exfalso; omega)
    · skip
      have p4 : a ≤ ((a + b) / 2) := of_decide_eq_true h4
      refine wl_val (.int .i64 ((a + b) / 2)) rfl (fun _ => rfl) ?_
      simp only [Act.put, List.setIfInBounds_toArray, List.set_cons_zero, List.set_cons_succ]
      refine wl_val (.pointer (some ⟨g1, 1, none⟩)) rfl (fun _ => by go_simp) ?_
      simp only [Act.put, List.setIfInBounds_toArray, List.set_cons_zero, List.set_cons_succ]
      refine wl_cell 2 (.tmp 44) (.int .i64 b) (own_row 1 rfl) rfl rfl rfl rfl Try.isAgg2 ?_
      simp only [Act.put, List.setIfInBounds_toArray, List.set_cons_zero, List.set_cons_succ]
      refine wl_val (.bool (decide (((a + b) / 2) ≤ b))) rfl (fun w => run_cmp rfl rfl rfl Try.underlying2 rfl w) ?_
      simp only [Act.put, List.setIfInBounds_toArray, List.set_cons_zero, List.set_cons_succ]
      refine wl_val (.bool (decide (((a + b) / 2) ≤ b))) rfl (fun _ => rfl) ?_
      simp only [Act.put, List.setIfInBounds_toArray, List.set_cons_zero, List.set_cons_succ]
      refine wl_val (.bool (decide (((a + b) / 2) ≤ b))) rfl (fun _ => rfl) ?_
      simp only [Act.put, List.setIfInBounds_toArray, List.set_cons_zero, List.set_cons_succ]
      cases h5 : (decide (((a + b) / 2) ≤ b))
      · skip
        have p5 : ¬ (((a + b) / 2) ≤ b) := of_decide_eq_false h5
        exact (by exfalso; omega)
      · skip
        have p5 : ((a + b) / 2) ≤ b := of_decide_eq_true h5
        refine wl_val (.int .i64 ((a + b) / 2)) rfl (fun _ => rfl) ?_
        simp only [Act.put, List.setIfInBounds_toArray, List.set_cons_zero, List.set_cons_succ]
        refine wl_val (.int .u64 (IntKind.u64.wrap ((a + b) / 2))) rfl (fun w => run_conv rfl rfl Try.underlying2 Try.underlying25 rfl w) ?_
        simp only [Act.put, List.setIfInBounds_toArray, List.set_cons_zero, List.set_cons_succ]
        refine wl_val (.pointer (some ⟨g1, 0, none⟩)) rfl (fun _ => by go_simp) ?_
        simp only [Act.put, List.setIfInBounds_toArray, List.set_cons_zero, List.set_cons_succ]
        refine wl_cell 2 (.tmp 51) (.int .i64 a) (own_row 1 rfl) rfl rfl rfl rfl Try.isAgg2 ?_
        simp only [Act.put, List.setIfInBounds_toArray, List.set_cons_zero, List.set_cons_succ]
        refine wl_val (.int .u64 (IntKind.u64.wrap a)) rfl (fun w => run_conv rfl rfl Try.underlying2 Try.underlying25 rfl w) ?_
        simp only [Act.put, List.setIfInBounds_toArray, List.set_cons_zero, List.set_cons_succ]
        refine wl_val (.int .u64 ((a + b) / 2 - a)) rfl (fun w => run_arith (op := .sub) rfl rfl rfl Try.underlying25 (congrArg some (width_wrap ha (by unfold Fits at ha hb ⊢; omega) (by omega))) w) ?_
        simp only [Act.put, List.setIfInBounds_toArray, List.set_cons_zero, List.set_cons_succ]
        refine wl_val (.int .u64 (b - a)) rfl (fun _ => rfl) ?_
        simp only [Act.put, List.setIfInBounds_toArray, List.set_cons_zero, List.set_cons_succ]
        refine wl_val (.int .u64 ((b - a) / 2)) rfl (fun w => run_quo rfl rfl rfl Try.underlying25 (by omega) (by omega) (u64_in (by omega) (by unfold Fits at ha hb; omega)) w) ?_
        simp only [Act.put, List.setIfInBounds_toArray, List.set_cons_zero, List.set_cons_succ]
        refine wl_val (.bool (((a + b) / 2 - a) == ((b - a) / 2))) rfl (fun w => run_cmp rfl rfl rfl Try.underlying25 rfl w) ?_
        simp only [Act.put, List.setIfInBounds_toArray, List.set_cons_zero, List.set_cons_succ]
        refine wl_val (.bool (((a + b) / 2 - a) == ((b - a) / 2))) rfl (fun _ => rfl) ?_
        simp only [Act.put, List.setIfInBounds_toArray, List.set_cons_zero, List.set_cons_succ]
        refine wl_val (.bool (((a + b) / 2 - a) == ((b - a) / 2))) rfl (fun _ => rfl) ?_
        simp only [Act.put, List.setIfInBounds_toArray, List.set_cons_zero, List.set_cons_succ]
        refine wl_nil ?_
        refine we_then ?_
        refine wc_ret ?_
        refine we_ret1 (.bool (((a + b) / 2 - a) == ((b - a) / 2))) rfl rfl rfl (fun w1 hE => ?_)
        exact ⟨by rw [show (((a + b) / 2 - a)) = (((b - a) / 2)) by omega]; simp, hE.below⟩
  · skip
    have p2 : b < a := of_decide_eq_true h2
    refine wc_true rfl ?_
    refine wc_seq ?_
    refine wc_region ?_
    refine wl_load 23 (.tmp 1) (own_row 0 rfl) rfl rfl rfl Try.underlying23 rfl (by kernel_rfl) ?_
    simp only [Act.put, List.setIfInBounds_toArray, List.set_cons_zero, List.set_cons_succ]
    refine wl_call 23 #[.agg #[.int .i64 a, .int .i64 b]] (.int .u64 0) rfl (fun _ => by go_simp) (fun W => width_none a b W (by omega)) ?_
    simp only [Act.put, List.setIfInBounds_toArray, List.set_cons_zero, List.set_cons_succ]
    refine wl_val (.bool true) rfl (fun w => run_cmp rfl rfl rfl Try.underlying25 rfl w) ?_
    simp only [Act.put, List.setIfInBounds_toArray, List.set_cons_zero, List.set_cons_succ]
    refine wl_val (.bool true) rfl (fun _ => rfl) ?_
    simp only [Act.put, List.setIfInBounds_toArray, List.set_cons_zero, List.set_cons_succ]
    refine wl_nil ?_
    refine we_then ?_
    refine wc_ret ?_
    refine we_then_ret ?_
    refine we_ret1 (.bool true) rfl rfl rfl (fun w1 hE => ?_)
    exact ⟨rfl, hE.below⟩
theorem spanWidths_walk (a : Int) (wa : (Lit.int .i64 a).wf = true) (b : Int) (wb : (Lit.int .i64 b).wf = true) (w : World) :
    Calls Try.prog 5 #[.agg #[.int .i64 a, .int .i64 b]] w fun e w' => e = .returned (.bool true) ∧ Below w.heap.size w w' := by
  have ha := fits_of_wf wa
  have hb := fits_of_wf wb
  have k1 := nof_ok b
  have k2 := nof_ok a
  have k3 := nneg_ok k2
  have k4 := nadd_ok k1 k3
  have hz := nadd_z k1 k3
  rw [nneg_z, nof_z, nof_z] at hz
  refine spanWidths_core a b _ _ _ _ ha hb ?_ (fun W => of_nm b W hb) (fun W => of_nm a W ha) (fun W => minor_nm _ W k2) (fun W => sum_nm _ _ W k1 k3 (nof_half hb) (nof_half ha)) w
  have h1 := nm_pos k4
  have h2 := nm_zero k4
  by_cases h : b < a
  · exact .inr h
  · left
    rcases k4.sign with e | e
    · unfold Nm.z at hz; rw [e] at hz; omega
    · unfold Nm.z at hz; rw [e] at hz; have := k4.pos; omega
end Go.Proofs.Ytmbmjdlcpjmnoaa.Walks
