/-
  The walk of SpanTimes: for any span and any two integers it returns true. No condition.
-/
import Derived.Test.YtmbmjdlcpjmnoaaSpanTimes0
namespace Go.Proofs.Ytmbmjdlcpjmnoaa.Walks
open Go.ChangeShapes Go.WideShapes Go.ChangeAt Go.RowKit
open Num Ref Ratio RatioRef Arr Nmx Span SpanRef Steady Sx Sw
set_option linter.unusedVariables false
set_option maxRecDepth 100000

set_option maxHeartbeats 2000000 in
theorem spanTimes_core (a b k n x y V1 V2 E A1 A2 q1 q2 C D : Int) (o1 o2 L : Bool) (p t m d t2 m2 d2 f : Nm) (hd : d.ok) (hd2 : 0 ≤ d2.n) (hab : a ≤ b) (hn : 1 ≤ n) (hx : (if k < 0 then b else a) = x) (hy : (if k < 0 then a else b) = y)
    (cT : ∀ W, Calls Try.prog 25 #[.agg #[.int .i64 a, .int .i64 b], .int .i64 k, .int .i64 n] W fun e w' => e = .returned (.tuple #[.agg #[.int .i64 V1, .int .i64 V2], .int .i64 E]) ∧ Below W.heap.size W w')
    (cq1 : ∀ W, Calls Try.prog 26 #[.int .i64 k, .int .i64 x, .int .i64 n] W fun e w' => e = .returned (.tuple #[.int .i64 A1, .bool o1]) ∧ Below W.heap.size W w')
    (cq2 : ∀ W, Calls Try.prog 26 #[.int .i64 k, .int .i64 y, .int .i64 n] W fun e w' => e = .returned (.tuple #[.int .i64 A2, .bool o2]) ∧ Below W.heap.size W w')
    (cp : ∀ W, Calls Try.prog 27 #[.int .i64 k, .int .i64 y] W fun e w' => e = .returned (.agg p.cs) ∧ Below W.heap.size W w')
    (ct : ∀ W, Calls Try.prog 27 #[.int .i64 A2, .int .i64 n] W fun e w' => e = .returned (.agg t.cs) ∧ Below W.heap.size W w')
    (cm : ∀ W, Calls Try.prog 16 #[.agg t.cs] W fun e w' => e = .returned (.agg m.cs) ∧ Below W.heap.size W w')
    (cd : ∀ W, Calls Try.prog 15 #[.agg p.cs, .agg m.cs] W fun e w' => e = .returned (.agg d.cs) ∧ Below W.heap.size W w')
    (ct2 : ∀ W, Calls Try.prog 27 #[.int .i64 (-9223372036854775808), .int .i64 n] W fun e w' => e = .returned (.agg t2.cs) ∧ Below W.heap.size W w')
    (cm2 : ∀ W, Calls Try.prog 16 #[.agg p.cs] W fun e w' => e = .returned (.agg m2.cs) ∧ Below W.heap.size W w')
    (cd2 : ∀ W, Calls Try.prog 15 #[.agg t2.cs, .agg m2.cs] W fun e w' => e = .returned (.agg d2.cs) ∧ Below W.heap.size W w')
    (cf : ∀ W, Calls Try.prog 9 #[.int .i64 n] W fun e w' => e = .returned (.agg f.cs) ∧ Below W.heap.size W w')
    (cl : ∀ W, Calls Try.prog 28 #[.agg #[.int .u64 (d2.n % 4294967296), .int .u64 (d2.n / 4294967296 % 4294967296), .int .u64 (d2.n / 18446744073709551616 % 4294967296), .int .u64 (d2.n / 79228162514264337593543950336)], .agg #[.int .u64 (f.n % 4294967296), .int .u64 (f.n / 4294967296 % 4294967296), .int .u64 (f.n / 18446744073709551616 % 4294967296), .int .u64 (f.n / 79228162514264337593543950336)]] W fun e w' => e = .returned (.bool L) ∧ Below W.heap.size W w')
    (HE : (E = 0 ∧ V1 = q1 ∧ V2 = C ∧ (-9223372036854775808 ≤ q1 ∧ q1 ≤ 9223372036854775807) ∧ (-9223372036854775808 ≤ C ∧ C ≤ 9223372036854775807)) ∨ (E = 20 ∧ V1 = 0 ∧ V2 = 0 ∧ (¬ (-9223372036854775808 ≤ q1 ∧ q1 ≤ 9223372036854775807) ∨ ¬ (-9223372036854775808 ≤ C ∧ C ≤ 9223372036854775807))))
    (H1 : o1 = true → A1 = q1 ∧ -9223372036854775808 ≤ q1 ∧ q1 ≤ 9223372036854775807) (G1 : o1 = false → ¬ (-9223372036854775808 ≤ q1 ∧ q1 ≤ 9223372036854775807))
    (H2 : o2 = true → A2 = q2 ∧ (-9223372036854775808 ≤ q2 ∧ q2 ≤ 9223372036854775807) ∧ ((d.n = 0 ∧ C = q2) ∨ (d.n ≠ 0 ∧ C = q2 + 1)))
    (G2 : o2 = false → ¬ (-9223372036854775808 ≤ q2 ∧ q2 ≤ 9223372036854775807) ∧ ((d2.s = 1 ∧ d2.n = D) ∨ (d2.s = -1 ∧ d2.n = -D)) ∧ ((0 < D ∧ D < n ∧ C = -9223372036854775808) ∨ (0 < D ∧ n ≤ D ∧ C < -9223372036854775808) ∨ (D < 0 ∧ 9223372036854775807 < C)))
    (HL : L = true ↔ d2.n < n) (w : World) :
    Calls Try.prog 6 #[.agg #[.int .i64 a, .int .i64 b], .int .i64 k, .int .i64 n] w fun e w' => e = .returned (.bool true) ∧ Below w.heap.size w w' := by
  refine calls_sx Try.func6 rfl ?_
  simp only [Try.ntmps6, List.size_toArray, List.length_cons, List.length_nil, Nat.reduceAdd, Nat.reduceSub, Array.replicate_succ, Array.replicate_zero, List.push_toArray, List.append_toArray, List.nil_append, List.cons_append]
  refine wc_seq ?_
  refine wc_region ?_
  refine wl_new 23 (#[.int .i64 a, .int .i64 b]) rfl (fun _ => by go_simp) ?_
  intro g1
  simp only [Act.put, List.setIfInBounds_toArray, List.set_cons_zero, List.set_cons_succ]
  refine wl_val (.bool false) rfl (fun _ => rfl) ?_
  simp only [Act.put, List.setIfInBounds_toArray, List.set_cons_zero, List.set_cons_succ]
  refine wl_nil ?_
  refine we_then ?_
  refine wc_seq ?_
  refine wc_seq ?_
  refine wc_region ?_
  refine wl_call 8 #[] (.bool true) rfl (fun _ => by go_simp) anchor4 ?_
  simp only [Act.put, List.setIfInBounds_toArray, List.set_cons_zero, List.set_cons_succ]
  refine wl_val (.bool false) rfl (fun _ => by go_simp) ?_
  simp only [Act.put, List.setIfInBounds_toArray, List.set_cons_zero, List.set_cons_succ]
  refine wl_nil ?_
  refine we_then ?_
  refine wc_false rfl ?_
  refine wc_skip ?_
  refine we_then ?_
  refine wc_seq ?_
  refine wc_region ?_
  refine wl_load 23 (.tmp 3) (own_row 0 rfl) rfl rfl rfl Try.underlying23 rfl (by kernel_rfl) ?_
  simp only [Act.put, List.setIfInBounds_toArray, List.set_cons_zero, List.set_cons_succ]
  refine wl_val (.int .i64 k) rfl (fun _ => rfl) ?_
  simp only [Act.put, List.setIfInBounds_toArray, List.set_cons_zero, List.set_cons_succ]
  refine wl_val (.int .i64 n) rfl (fun _ => rfl) ?_
  simp only [Act.put, List.setIfInBounds_toArray, List.set_cons_zero, List.set_cons_succ]
  refine wl_call 25 #[.agg #[.int .i64 a, .int .i64 b], .int .i64 k, .int .i64 n] (.tuple #[.agg #[.int .i64 V1, .int .i64 V2], .int .i64 E]) rfl (fun _ => by go_simp) cT ?_
  simp only [Act.put, List.setIfInBounds_toArray, List.set_cons_zero, List.set_cons_succ]
  refine wl_val (.tuple #[.agg #[.int .i64 V1, .int .i64 V2], .int .i64 E]) rfl (fun _ => rfl) ?_
  simp only [Act.put, List.setIfInBounds_toArray, List.set_cons_zero, List.set_cons_succ]
  refine wl_val (.agg #[.int .i64 V1, .int .i64 V2]) rfl (fun _ => by go_simp) ?_
  simp only [Act.put, List.setIfInBounds_toArray, List.set_cons_zero, List.set_cons_succ]
  refine wl_val (.int .i64 E) rfl (fun _ => by go_simp) ?_
  simp only [Act.put, List.setIfInBounds_toArray, List.set_cons_zero, List.set_cons_succ]
  refine wl_new 23 (#[.int .i64 0, .int .i64 0]) rfl (fun _ => by go_simp) ?_
  intro g2
  simp only [Act.put, List.setIfInBounds_toArray, List.set_cons_zero, List.set_cons_succ]
  refine wl_store 0 23 (.tmp 7) (.tmp 25) (#[.int .i64 V1, .int .i64 V2]) rfl rfl rfl rfl rfl (by kernel_rfl) rfl (by simp [Value.oneCell']) ?_
  simp only [Act.put, List.set_cons_zero]
  refine wl_val (.int .i64 E) rfl (fun _ => rfl) ?_
  simp only [Act.put, List.setIfInBounds_toArray, List.set_cons_zero, List.set_cons_succ]
  refine wl_nil ?_
  refine we_then ?_
  refine wc_seq ?_
  refine wc_seq ?_
  refine wc_region ?_
  refine wl_val (.pointer (some ⟨g1, 0, none⟩)) rfl (fun _ => by go_simp) ?_
  simp only [Act.put, List.setIfInBounds_toArray, List.set_cons_zero, List.set_cons_succ]
  refine wl_cell 2 (.tmp 27) (.int .i64 a) (own_row 1 rfl) rfl rfl rfl rfl Try.isAgg2 ?_
  simp only [Act.put, List.setIfInBounds_toArray, List.set_cons_zero, List.set_cons_succ]
  refine wl_val (.pointer (some ⟨g1, 1, none⟩)) rfl (fun _ => by go_simp) ?_
  simp only [Act.put, List.setIfInBounds_toArray, List.set_cons_zero, List.set_cons_succ]
  refine wl_cell 2 (.tmp 29) (.int .i64 b) (own_row 1 rfl) rfl rfl rfl rfl Try.isAgg2 ?_
  simp only [Act.put, List.setIfInBounds_toArray, List.set_cons_zero, List.set_cons_succ]
  refine wl_val (.bool (decide (b < a))) rfl (fun w => run_cmp rfl rfl rfl Try.underlying2 rfl w) ?_
  simp only [Act.put, List.setIfInBounds_toArray, List.set_cons_zero, List.set_cons_succ]
  refine wl_val (.bool (decide (b < a))) rfl (fun _ => rfl) ?_
  simp only [Act.put, List.setIfInBounds_toArray, List.set_cons_zero, List.set_cons_succ]
  cases h3 : (decide (b < a))
  · skip
    have p3 : ¬ (b < a) := of_decide_eq_false h3
    refine wl_val (.int .i64 n) rfl (fun _ => rfl) ?_
    simp only [Act.put, List.setIfInBounds_toArray, List.set_cons_zero, List.set_cons_succ]
    refine wl_val (.bool (decide (n < 1))) rfl (fun w => run_cmp rfl rfl rfl Try.underlying2 rfl w) ?_
    simp only [Act.put, List.setIfInBounds_toArray, List.set_cons_zero, List.set_cons_succ]
    refine wl_val (.bool (decide (n < 1))) rfl (fun _ => rfl) ?_
    simp only [Act.put, List.setIfInBounds_toArray, List.set_cons_zero, List.set_cons_succ]
    refine wl_nil ?_
    refine we_then ?_
    cases h4 : (decide (n < 1))
    · skip
      have p4 : ¬ (n < 1) := of_decide_eq_false h4
      refine wc_false rfl ?_
      refine wc_skip ?_
      refine we_then ?_
      refine wc_seq ?_
      refine wc_draw [.late, .plain, .late, .plain, .late, .late] none [] 127 (by kernel_rfl) rfl (by kernel_rfl) (by kernel_rfl) ?_
      refine ws_late (.pointer (some ⟨g1, 0, none⟩)) rfl rfl (fun _ => by go_simp) ?_
      simp only [Nat.reduceAdd, Act.put, List.setIfInBounds_toArray, List.set_cons_zero, List.set_cons_succ]
      refine ws_cell 2 (.tmp 43) (.int .i64 a) (own_row 1 rfl) rfl rfl rfl rfl rfl Try.isAgg2 ?_
      simp only [Nat.reduceAdd, Act.put, List.setIfInBounds_toArray, List.set_cons_zero, List.set_cons_succ]
      refine ws_late (.pointer (some ⟨g1, 1, none⟩)) rfl rfl (fun _ => by go_simp) ?_
      simp only [Nat.reduceAdd, Act.put, List.setIfInBounds_toArray, List.set_cons_zero, List.set_cons_succ]
      refine ws_cell 2 (.tmp 45) (.int .i64 b) (own_row 1 rfl) rfl rfl rfl rfl rfl Try.isAgg2 ?_
      simp only [Nat.reduceAdd, Act.put, List.setIfInBounds_toArray, List.set_cons_zero, List.set_cons_succ]
      refine ws_late (.int .i64 a) rfl rfl (fun _ => rfl) ?_
      simp only [Nat.reduceAdd, Act.put, List.setIfInBounds_toArray, List.set_cons_zero, List.set_cons_succ]
      refine ws_late (.int .i64 b) rfl rfl (fun _ => rfl) ?_
      simp only [Nat.reduceAdd, Act.put, List.setIfInBounds_toArray, List.set_cons_zero, List.set_cons_succ]
      refine ws_nil [] trivial (by simp) ?_
      intro ps5
      simp only [fin, List.foldl_nil, List.map, List.nil_append]
      refine we_then ?_
      refine wc_cut (fun (zz : Value × Value × Value × Value) => match zz with | ⟨u47, u48, u49, u50⟩ => ({ tmps := #[.agg #[.int .i64 a, .int .i64 b], .int .i64 k, .int .i64 n, .pointer (some ⟨g1, 0, none⟩), undef, undef, .bool false, .pointer (some ⟨g2, 0, none⟩), .int .i64 E, .int .i64 x, .int .i64 y, undef, undef, undef, undef, undef, undef, undef, .bool true, .bool false, .tuple #[.agg #[.int .i64 V1, .int .i64 V2], .int .i64 E], .agg #[.int .i64 a, .int .i64 b], .int .i64 k, .int .i64 n, .tuple #[.agg #[.int .i64 V1, .int .i64 V2], .int .i64 E], .agg #[.int .i64 V1, .int .i64 V2], .int .i64 E, .pointer (some ⟨g1, 0, none⟩), .int .i64 a, .pointer (some ⟨g1, 1, none⟩), .int .i64 b, .bool false, .bool false, .int .i64 n, .bool false, .bool false, undef, undef, undef, undef, undef, undef, undef, .pointer (some ⟨g1, 0, none⟩), .int .i64 a, .pointer (some ⟨g1, 1, none⟩), .int .i64 b, u47, u48, u49, u50, undef, undef, undef, undef, undef, undef, undef, undef, undef, undef, undef, undef, undef, undef, undef, undef, undef, undef, undef, undef, undef, undef, undef, undef, undef, undef, undef, undef, undef, undef, undef, undef, undef, undef, undef, undef, undef, undef, undef, undef, undef, undef, undef, undef, undef, undef, undef, undef, undef, undef, undef, undef, undef, undef, undef, undef, undef, undef, undef, undef, undef, undef, undef, undef, undef, undef, undef, undef, undef, undef, undef, undef, undef, undef, undef, undef], defers := [] } : Act)) (fun (zz : Value × Value × Value × Value) => match zz with | ⟨u47, u48, u49, u50⟩ => [⟨g2, #[.int .i64 V1, .int .i64 V2], 23⟩, ⟨g1, #[.int .i64 a, .int .i64 b], 23⟩]) (fun (zz : Value × Value × Value × Value) => match zz with | ⟨u47, u48, u49, u50⟩ => True) ?_ ?_
      · skip
        refine wc_seq ?_
        refine wc_region ?_
        refine wl_val (.int .i64 k) rfl (fun _ => rfl) ?_
        simp only [Act.put, List.setIfInBounds_toArray, List.set_cons_zero, List.set_cons_succ]
        refine wl_val (.bool (decide (k < 0))) rfl (fun w => run_cmp rfl rfl rfl Try.underlying2 rfl w) ?_
        simp only [Act.put, List.setIfInBounds_toArray, List.set_cons_zero, List.set_cons_succ]
        refine wl_nil ?_
        refine we_then ?_
        cases h6 : (decide (k < 0))
        · skip
          have p6 : ¬ (k < 0) := of_decide_eq_false h6
          refine wc_false rfl ?_
          refine wc_skip ?_
          rw [if_neg p6] at hx hy
          subst hx hy
          exact we_meet ⟨_, _, _, _⟩ True.intro rfl (List.Sublist.cons_cons _ (List.Sublist.cons_cons _ List.Sublist.slnil))
        · skip
          have p6 : k < 0 := of_decide_eq_true h6
          refine wc_true rfl ?_
          refine wc_region ?_
          refine wl_val (.int .i64 b) rfl (fun _ => rfl) ?_
          simp only [Act.put, List.setIfInBounds_toArray, List.set_cons_zero, List.set_cons_succ]
          refine wl_val (.int .i64 a) rfl (fun _ => rfl) ?_
          simp only [Act.put, List.setIfInBounds_toArray, List.set_cons_zero, List.set_cons_succ]
          refine wl_val (.int .i64 b) rfl (fun _ => rfl) ?_
          simp only [Act.put, List.setIfInBounds_toArray, List.set_cons_zero, List.set_cons_succ]
          refine wl_val (.int .i64 a) rfl (fun _ => rfl) ?_
          simp only [Act.put, List.setIfInBounds_toArray, List.set_cons_zero, List.set_cons_succ]
          refine wl_nil ?_
          rw [if_pos p6] at hx hy
          subst hx hy
          exact we_meet ⟨_, _, _, _⟩ True.intro rfl (List.Sublist.cons_cons _ (List.Sublist.cons_cons _ List.Sublist.slnil))
      · rintro ⟨u47, u48, u49, u50⟩ hφ
        (try dsimp only at hφ ⊢)
        refine wc_seq ?_
        refine wc_region ?_
        refine wl_val (.int .i64 k) rfl (fun _ => rfl) ?_
        simp only [Act.put, List.setIfInBounds_toArray, List.set_cons_zero, List.set_cons_succ]
        refine wl_val (.int .i64 x) rfl (fun _ => rfl) ?_
        simp only [Act.put, List.setIfInBounds_toArray, List.set_cons_zero, List.set_cons_succ]
        refine wl_val (.int .i64 n) rfl (fun _ => rfl) ?_
        simp only [Act.put, List.setIfInBounds_toArray, List.set_cons_zero, List.set_cons_succ]
        refine wl_call 26 #[.int .i64 k, .int .i64 x, .int .i64 n] (.tuple #[.int .i64 A1, .bool o1]) rfl (fun _ => by go_simp) cq1 ?_
        simp only [Act.put, List.setIfInBounds_toArray, List.set_cons_zero, List.set_cons_succ]
        refine wl_val (.tuple #[.int .i64 A1, .bool o1]) rfl (fun _ => rfl) ?_
        simp only [Act.put, List.setIfInBounds_toArray, List.set_cons_zero, List.set_cons_succ]
        refine wl_val (.int .i64 A1) rfl (fun _ => by go_simp) ?_
        simp only [Act.put, List.setIfInBounds_toArray, List.set_cons_zero, List.set_cons_succ]
        refine wl_val (.bool o1) rfl (fun _ => by go_simp) ?_
        simp only [Act.put, List.setIfInBounds_toArray, List.set_cons_zero, List.set_cons_succ]
        refine wl_val (.int .i64 A1) rfl (fun _ => rfl) ?_
        simp only [Act.put, List.setIfInBounds_toArray, List.set_cons_zero, List.set_cons_succ]
        refine wl_val (.bool o1) rfl (fun _ => rfl) ?_
        simp only [Act.put, List.setIfInBounds_toArray, List.set_cons_zero, List.set_cons_succ]
        refine wl_nil ?_
        refine we_then ?_
        refine wc_seq ?_
        refine wc_region ?_
        refine wl_val (.int .i64 k) rfl (fun _ => rfl) ?_
        simp only [Act.put, List.setIfInBounds_toArray, List.set_cons_zero, List.set_cons_succ]
        refine wl_val (.int .i64 y) rfl (fun _ => rfl) ?_
        simp only [Act.put, List.setIfInBounds_toArray, List.set_cons_zero, List.set_cons_succ]
        refine wl_val (.int .i64 n) rfl (fun _ => rfl) ?_
        simp only [Act.put, List.setIfInBounds_toArray, List.set_cons_zero, List.set_cons_succ]
        refine wl_call 26 #[.int .i64 k, .int .i64 y, .int .i64 n] (.tuple #[.int .i64 A2, .bool o2]) rfl (fun _ => by go_simp) cq2 ?_
        simp only [Act.put, List.setIfInBounds_toArray, List.set_cons_zero, List.set_cons_succ]
        refine wl_val (.tuple #[.int .i64 A2, .bool o2]) rfl (fun _ => rfl) ?_
        simp only [Act.put, List.setIfInBounds_toArray, List.set_cons_zero, List.set_cons_succ]
        refine wl_val (.int .i64 A2) rfl (fun _ => by go_simp) ?_
        simp only [Act.put, List.setIfInBounds_toArray, List.set_cons_zero, List.set_cons_succ]
        refine wl_val (.bool o2) rfl (fun _ => by go_simp) ?_
        simp only [Act.put, List.setIfInBounds_toArray, List.set_cons_zero, List.set_cons_succ]
        refine wl_val (.int .i64 A2) rfl (fun _ => rfl) ?_
        simp only [Act.put, List.setIfInBounds_toArray, List.set_cons_zero, List.set_cons_succ]
        refine wl_val (.bool o2) rfl (fun _ => rfl) ?_
        simp only [Act.put, List.setIfInBounds_toArray, List.set_cons_zero, List.set_cons_succ]
        refine wl_nil ?_
        refine we_then ?_
        refine wc_seq ?_
        refine wc_region ?_
        refine wl_val (.int .i64 k) rfl (fun _ => rfl) ?_
        simp only [Act.put, List.setIfInBounds_toArray, List.set_cons_zero, List.set_cons_succ]
        refine wl_val (.int .i64 y) rfl (fun _ => rfl) ?_
        simp only [Act.put, List.setIfInBounds_toArray, List.set_cons_zero, List.set_cons_succ]
        refine wl_call 27 #[.int .i64 k, .int .i64 y] (.agg p.cs) rfl (fun _ => by go_simp) cp ?_
        simp only [Act.put, List.setIfInBounds_toArray, List.set_cons_zero, List.set_cons_succ]
        refine wl_new 28 (#[.int .i64 0, .int .u64 0, .int .u64 0, .int .u64 0, .int .u64 0]) rfl (fun _ => by go_simp) ?_
        intro g7
        simp only [Act.put, List.setIfInBounds_toArray, List.set_cons_zero, List.set_cons_succ]
        refine wl_store 0 28 (.tmp 15) (.tmp 67) (p.cs) rfl rfl rfl rfl rfl (by kernel_rfl) rfl (Nm.one p) ?_
        simp only [Act.put, List.set_cons_zero]
        refine wl_nil ?_
        refine we_then ?_
        refine wc_cut (fun (zz : Int × Bool × Value × Value × Value × Value × Value × Value × Value × Value × Value × Value × Value × Value × Value × Value × Value × Value × Value × Value × Value × Value × Value × Value × Value × Value × Value × Value × Value × Value × Value × Value × Value × Value × Value × Value) => match zz with | ⟨z, mm, u16, u17, u68, u69, u70, u71, u72, u73, u74, u75, u76, u77, u78, u79, u80, u81, u82, u83, u84, u85, u86, u87, u88, u89, u90, u91, u92, u93, u94, u95, u96, u97, u98, u99⟩ => ({ tmps := #[.agg #[.int .i64 a, .int .i64 b], .int .i64 k, .int .i64 n, .pointer (some ⟨g1, 0, none⟩), undef, undef, .bool false, .pointer (some ⟨g2, 0, none⟩), .int .i64 E, .int .i64 x, .int .i64 y, .int .i64 A1, .bool o1, .int .i64 z, .bool mm, .pointer (some ⟨g7, 0, none⟩), u16, u17, .bool true, .bool false, .tuple #[.agg #[.int .i64 V1, .int .i64 V2], .int .i64 E], .agg #[.int .i64 a, .int .i64 b], .int .i64 k, .int .i64 n, .tuple #[.agg #[.int .i64 V1, .int .i64 V2], .int .i64 E], .agg #[.int .i64 V1, .int .i64 V2], .int .i64 E, .pointer (some ⟨g1, 0, none⟩), .int .i64 a, .pointer (some ⟨g1, 1, none⟩), .int .i64 b, .bool false, .bool false, .int .i64 n, .bool false, .bool false, undef, undef, undef, undef, undef, undef, undef, .pointer (some ⟨g1, 0, none⟩), .int .i64 a, .pointer (some ⟨g1, 1, none⟩), .int .i64 b, u47, u48, u49, u50, .tuple #[.int .i64 A1, .bool o1], .int .i64 k, .int .i64 x, .int .i64 n, .tuple #[.int .i64 A1, .bool o1], .int .i64 A1, .bool o1, .tuple #[.int .i64 A2, .bool o2], .int .i64 k, .int .i64 y, .int .i64 n, .tuple #[.int .i64 A2, .bool o2], .int .i64 A2, .bool o2, .int .i64 k, .int .i64 y, .agg p.cs, u68, u69, u70, u71, u72, u73, u74, u75, u76, u77, u78, u79, u80, u81, u82, u83, u84, u85, u86, u87, u88, u89, u90, u91, u92, u93, u94, u95, u96, u97, u98, u99, undef, undef, undef, undef, undef, undef, undef, undef, undef, undef, undef, undef, undef, undef, undef, undef, undef, undef, undef, undef, undef, undef, undef, undef, undef, undef, undef], defers := [] } : Act)) (fun (zz : Int × Bool × Value × Value × Value × Value × Value × Value × Value × Value × Value × Value × Value × Value × Value × Value × Value × Value × Value × Value × Value × Value × Value × Value × Value × Value × Value × Value × Value × Value × Value × Value × Value × Value × Value × Value) => match zz with | ⟨z, mm, u16, u17, u68, u69, u70, u71, u72, u73, u74, u75, u76, u77, u78, u79, u80, u81, u82, u83, u84, u85, u86, u87, u88, u89, u90, u91, u92, u93, u94, u95, u96, u97, u98, u99⟩ => [⟨g7, p.cs, 28⟩, ⟨g2, #[.int .i64 V1, .int .i64 V2], 23⟩, ⟨g1, #[.int .i64 a, .int .i64 b], 23⟩]) (fun (zz : Int × Bool × Value × Value × Value × Value × Value × Value × Value × Value × Value × Value × Value × Value × Value × Value × Value × Value × Value × Value × Value × Value × Value × Value × Value × Value × Value × Value × Value × Value × Value × Value × Value × Value × Value × Value) => match zz with | ⟨z, mm, u16, u17, u68, u69, u70, u71, u72, u73, u74, u75, u76, u77, u78, u79, u80, u81, u82, u83, u84, u85, u86, u87, u88, u89, u90, u91, u92, u93, u94, u95, u96, u97, u98, u99⟩ => (mm = true → z = C ∧ -9223372036854775808 ≤ C ∧ C ≤ 9223372036854775807) ∧ (mm = false → ¬ (-9223372036854775808 ≤ C ∧ C ≤ 9223372036854775807))) ?_ ?_
        · skip
          refine wc_seq ?_
          refine wc_region ?_
          refine wl_val (.bool o2) rfl (fun _ => rfl) ?_
          simp only [Act.put, List.setIfInBounds_toArray, List.set_cons_zero, List.set_cons_succ]
          refine wl_nil ?_
          refine we_then ?_
          cases h8 : (o2)
          · skip
            have K := G2 h8
            refine wc_false rfl ?_
            refine wc_seq ?_
            refine wc_draw [.late, .plain, .plain, .plain, .plain, .make 28 (#[.int .i64 0, .int .u64 0, .int .u64 0, .int .u64 0, .int .u64 0]) 6 (d2.cs), .put 5] none [(5, 17)] 127 (by kernel_rfl) rfl (by kernel_rfl) (by kernel_rfl) ?_
            refine ws_late (.int .i64 n) rfl rfl (fun _ => rfl) ?_
            simp only [Nat.reduceAdd, Act.put, List.setIfInBounds_toArray, List.set_cons_zero, List.set_cons_succ]
            refine ws_call 27 #[.int .i64 (-9223372036854775808), .int .i64 n] (.agg t2.cs) rfl rfl (fun _ => by go_simp) ct2 ?_
            simp only [Nat.reduceAdd, Act.put, List.setIfInBounds_toArray, List.set_cons_zero, List.set_cons_succ]
            refine ws_load 28 (.tmp 15) (own_row 0 rfl) rfl rfl rfl rfl Try.underlying28 rfl (by kernel_rfl) ?_
            simp only [Nat.reduceAdd, Act.put, List.setIfInBounds_toArray, List.set_cons_zero, List.set_cons_succ]
            refine ws_call 16 #[.agg p.cs] (.agg m2.cs) rfl rfl (fun _ => by go_simp) cm2 ?_
            simp only [Nat.reduceAdd, Act.put, List.setIfInBounds_toArray, List.set_cons_zero, List.set_cons_succ]
            refine ws_call 15 #[.agg t2.cs, .agg m2.cs] (.agg d2.cs) rfl rfl (fun _ => by go_simp) cd2 ?_
            simp only [Nat.reduceAdd, Act.put, List.setIfInBounds_toArray, List.set_cons_zero, List.set_cons_succ]
            refine ws_make 28 (#[.int .i64 0, .int .u64 0, .int .u64 0, .int .u64 0, .int .u64 0]) 6 (d2.cs) rfl rfl rfl (zero_of_info (n := 5) (by kernel_rfl)).1 ?_
            simp only [Nat.reduceAdd, Act.put, List.setIfInBounds_toArray, List.set_cons_zero, List.set_cons_succ]
            refine ws_put 5 28 17 (.tmp 88) _ _ _ rfl rfl rfl rfl (by simp) rfl rfl rfl (by kernel_rfl) rfl (Nm.one d2) ?_
            simp only [Nat.reduceAdd]
            refine ws_nil [(5, d2.cs, 28)] ⟨⟨by decide, _, _, _, rfl, .inl ⟨by decide, rfl⟩⟩, trivial⟩ (by simp) ?_
            intro ps9
            simp only [fin, List.foldl_cons, List.foldl_nil, List.map, rowOf, List.cons_append, List.nil_append, Act.put, List.setIfInBounds_toArray, List.set_cons_zero, List.set_cons_succ]
            refine we_then ?_
            refine wc_seq ?_
            refine wc_draw [.late, .plain, .late, .late, .late, .plain, .late, .plain, .late, .plain, .late] none [] 127 (by kernel_rfl) rfl (by kernel_rfl) (by kernel_rfl) ?_
            refine ws_late (.pointer (some ⟨(ps9 5), 0, none⟩)) rfl rfl (fun _ => by go_simp) ?_
            simp only [Nat.reduceAdd, Act.put, List.setIfInBounds_toArray, List.set_cons_zero, List.set_cons_succ]
            refine ws_cell 3 (.tmp 89) (.int .i64 d2.s) (own_row 0 rfl) rfl rfl rfl rfl rfl Try.isAgg3 ?_
            simp only [Nat.reduceAdd, Act.put, List.setIfInBounds_toArray, List.set_cons_zero, List.set_cons_succ]
            refine ws_late (.bool (decide (0 < d2.s))) rfl rfl (fun w => run_cmp rfl rfl rfl Try.underlying3 rfl w) ?_
            simp only [Nat.reduceAdd, Act.put, List.setIfInBounds_toArray, List.set_cons_zero, List.set_cons_succ]
            refine ws_late (.bool (decide (0 < d2.s))) rfl rfl (fun _ => rfl) ?_
            simp only [Nat.reduceAdd, Act.put, List.setIfInBounds_toArray, List.set_cons_zero, List.set_cons_succ]
            cases h10 : (decide (0 < d2.s))
            · skip
              have p10 : ¬ (0 < d2.s) := of_decide_eq_false h10
              refine ws_skip_late rfl rfl ?_
              simp only [Nat.reduceAdd, Act.put, List.setIfInBounds_toArray, List.set_cons_zero, List.set_cons_succ]
              refine ws_skip rfl rfl ?_
              simp only [Nat.reduceAdd, Act.put, List.setIfInBounds_toArray, List.set_cons_zero, List.set_cons_succ]
              refine ws_skip_late rfl rfl ?_
              simp only [Nat.reduceAdd, Act.put, List.setIfInBounds_toArray, List.set_cons_zero, List.set_cons_succ]
              refine ws_skip rfl rfl ?_
              simp only [Nat.reduceAdd, Act.put, List.setIfInBounds_toArray, List.set_cons_zero, List.set_cons_succ]
              refine ws_skip_late rfl rfl ?_
              simp only [Nat.reduceAdd, Act.put, List.setIfInBounds_toArray, List.set_cons_zero, List.set_cons_succ]
              refine ws_skip rfl rfl ?_
              simp only [Nat.reduceAdd, Act.put, List.setIfInBounds_toArray, List.set_cons_zero, List.set_cons_succ]
              refine ws_late (.bool false) rfl rfl (fun _ => rfl) ?_
              simp only [Nat.reduceAdd, Act.put, List.setIfInBounds_toArray, List.set_cons_zero, List.set_cons_succ]
              refine ws_nil [] trivial (by simp) ?_
              intro ps11
              simp only [fin, List.foldl_nil, List.map, List.nil_append]
              refine we_then ?_
              refine wc_false rfl ?_
              refine wc_skip ?_
              exact we_meet ⟨A2, false, _, _, _, _, _, _, _, _, _, _, _, _, _, _, _, _, _, _, _, _, _, _, _, _, _, _, _, _, _, _, _, _, _, _⟩ (by (try dsimp only); refine ⟨?_, ?_⟩ <;> intro k <;> simp at k <;> omega) rfl (List.Sublist.cons _ (List.Sublist.cons_cons _ (List.Sublist.cons_cons _ (List.Sublist.cons_cons _ List.Sublist.slnil))))
            · skip
              have p10 : 0 < d2.s := of_decide_eq_true h10
              refine ws_late (.pointer (some ⟨(ps9 5), 1, none⟩)) rfl rfl (fun _ => by go_simp) ?_
              simp only [Nat.reduceAdd, Act.put, List.setIfInBounds_toArray, List.set_cons_zero, List.set_cons_succ]
              refine ws_part 26 (.tmp 93) [.int .u64 (d2.n % 4294967296), .int .u64 (d2.n / 4294967296 % 4294967296), .int .u64 (d2.n / 18446744073709551616 % 4294967296), .int .u64 (d2.n / 79228162514264337593543950336)] (own_row 0 rfl) rfl rfl rfl rfl rfl Try.underlying26 rfl (by kernel_rfl) ?_
              simp only [Nat.reduceAdd, Act.put, List.setIfInBounds_toArray, List.set_cons_zero, List.set_cons_succ]
              refine ws_late (.int .i64 n) rfl rfl (fun _ => rfl) ?_
              simp only [Nat.reduceAdd, Act.put, List.setIfInBounds_toArray, List.set_cons_zero, List.set_cons_succ]
              refine ws_call 9 #[.int .i64 n] (.agg f.cs) rfl rfl (fun _ => by go_simp) cf ?_
              simp only [Nat.reduceAdd, Act.put, List.setIfInBounds_toArray, List.set_cons_zero, List.set_cons_succ]
              refine ws_late (.agg #[.int .u64 (f.n % 4294967296), .int .u64 (f.n / 4294967296 % 4294967296), .int .u64 (f.n / 18446744073709551616 % 4294967296), .int .u64 (f.n / 79228162514264337593543950336)]) rfl rfl (fun _ => by kernel_rfl) ?_
              simp only [Nat.reduceAdd, Act.put, List.setIfInBounds_toArray, List.set_cons_zero, List.set_cons_succ]
              refine ws_call 28 #[.agg #[.int .u64 (d2.n % 4294967296), .int .u64 (d2.n / 4294967296 % 4294967296), .int .u64 (d2.n / 18446744073709551616 % 4294967296), .int .u64 (d2.n / 79228162514264337593543950336)], .agg #[.int .u64 (f.n % 4294967296), .int .u64 (f.n / 4294967296 % 4294967296), .int .u64 (f.n / 18446744073709551616 % 4294967296), .int .u64 (f.n / 79228162514264337593543950336)]] (.bool L) rfl rfl (fun _ => by go_simp) cl ?_
              simp only [Nat.reduceAdd, Act.put, List.setIfInBounds_toArray, List.set_cons_zero, List.set_cons_succ]
              refine ws_late (.bool L) rfl rfl (fun _ => rfl) ?_
              simp only [Nat.reduceAdd, Act.put, List.setIfInBounds_toArray, List.set_cons_zero, List.set_cons_succ]
              refine ws_nil [] trivial (by simp) ?_
              intro ps12
              simp only [fin, List.foldl_nil, List.map, List.nil_append]
              refine we_then ?_
              cases h13 : (L)
              · skip
                have K := show ¬ d2.n < n from fun c => Bool.noConfusion (h13.symm.trans (HL.2 c))
                refine wc_false rfl ?_
                refine wc_skip ?_
                exact we_meet ⟨A2, false, _, _, _, _, _, _, _, _, _, _, _, _, _, _, _, _, _, _, _, _, _, _, _, _, _, _, _, _, _, _, _, _, _, _⟩ (by (try dsimp only); refine ⟨?_, ?_⟩ <;> intro k <;> simp at k <;> omega) rfl (List.Sublist.cons _ (List.Sublist.cons_cons _ (List.Sublist.cons_cons _ (List.Sublist.cons_cons _ List.Sublist.slnil))))
              · skip
                have K := HL.1 h13
                refine wc_true rfl ?_
                refine wc_region ?_
                refine wl_val (.int .i64 (-9223372036854775808)) rfl (fun _ => rfl) ?_
                simp only [Act.put, List.setIfInBounds_toArray, List.set_cons_zero, List.set_cons_succ]
                refine wl_val (.bool true) rfl (fun _ => rfl) ?_
                simp only [Act.put, List.setIfInBounds_toArray, List.set_cons_zero, List.set_cons_succ]
                refine wl_nil ?_
                exact we_meet ⟨(-9223372036854775808), true, _, _, _, _, _, _, _, _, _, _, _, _, _, _, _, _, _, _, _, _, _, _, _, _, _, _, _, _, _, _, _, _, _, _⟩ (by (try dsimp only); refine ⟨?_, ?_⟩ <;> intro k <;> simp at k <;> omega) rfl (List.Sublist.cons _ (List.Sublist.cons_cons _ (List.Sublist.cons_cons _ (List.Sublist.cons_cons _ List.Sublist.slnil))))
          · skip
            have K := H2 h8
            refine wc_true rfl ?_
            refine wc_seq ?_
            refine wc_draw [.plain, .late, .late, .plain, .plain, .plain, .make 28 (#[.int .i64 0, .int .u64 0, .int .u64 0, .int .u64 0, .int .u64 0]) 7 (d.cs), .put 6] none [(6, 16)] 127 (by kernel_rfl) rfl (by kernel_rfl) (by kernel_rfl) ?_
            refine ws_load 28 (.tmp 15) (own_row 0 rfl) rfl rfl rfl rfl Try.underlying28 rfl (by kernel_rfl) ?_
            simp only [Nat.reduceAdd, Act.put, List.setIfInBounds_toArray, List.set_cons_zero, List.set_cons_succ]
            refine ws_late (.int .i64 A2) rfl rfl (fun _ => rfl) ?_
            simp only [Nat.reduceAdd, Act.put, List.setIfInBounds_toArray, List.set_cons_zero, List.set_cons_succ]
            refine ws_late (.int .i64 n) rfl rfl (fun _ => rfl) ?_
            simp only [Nat.reduceAdd, Act.put, List.setIfInBounds_toArray, List.set_cons_zero, List.set_cons_succ]
            refine ws_call 27 #[.int .i64 A2, .int .i64 n] (.agg t.cs) rfl rfl (fun _ => by go_simp) ct ?_
            simp only [Nat.reduceAdd, Act.put, List.setIfInBounds_toArray, List.set_cons_zero, List.set_cons_succ]
            refine ws_call 16 #[.agg t.cs] (.agg m.cs) rfl rfl (fun _ => by go_simp) cm ?_
            simp only [Nat.reduceAdd, Act.put, List.setIfInBounds_toArray, List.set_cons_zero, List.set_cons_succ]
            refine ws_call 15 #[.agg p.cs, .agg m.cs] (.agg d.cs) rfl rfl (fun _ => by go_simp) cd ?_
            simp only [Nat.reduceAdd, Act.put, List.setIfInBounds_toArray, List.set_cons_zero, List.set_cons_succ]
            refine ws_make 28 (#[.int .i64 0, .int .u64 0, .int .u64 0, .int .u64 0, .int .u64 0]) 7 (d.cs) rfl rfl rfl (zero_of_info (n := 5) (by kernel_rfl)).1 ?_
            simp only [Nat.reduceAdd, Act.put, List.setIfInBounds_toArray, List.set_cons_zero, List.set_cons_succ]
            refine ws_put 6 28 16 (.tmp 74) _ _ _ rfl rfl rfl rfl (by simp) rfl rfl rfl (by kernel_rfl) rfl (Nm.one d) ?_
            simp only [Nat.reduceAdd]
            refine ws_nil [(6, d.cs, 28)] ⟨⟨by decide, _, _, _, rfl, .inl ⟨by decide, rfl⟩⟩, trivial⟩ (by simp) ?_
            intro ps14
            simp only [fin, List.foldl_cons, List.foldl_nil, List.map, rowOf, List.cons_append, List.nil_append, Act.put, List.setIfInBounds_toArray, List.set_cons_zero, List.set_cons_succ]
            refine we_then ?_
            refine wc_seq ?_
            refine wc_region ?_
            refine wl_val (.pointer (some ⟨(ps14 6), 1, none⟩)) rfl (fun _ => by go_simp) ?_
            simp only [Act.put, List.setIfInBounds_toArray, List.set_cons_zero, List.set_cons_succ]
            refine wl_part 26 (.tmp 75) [.int .u64 (d.n % 4294967296), .int .u64 (d.n / 4294967296 % 4294967296), .int .u64 (d.n / 18446744073709551616 % 4294967296), .int .u64 (d.n / 79228162514264337593543950336)] (own_row 0 rfl) rfl rfl rfl rfl Try.underlying26 rfl (by kernel_rfl) ?_
            simp only [Act.put, List.setIfInBounds_toArray, List.set_cons_zero, List.set_cons_succ]
            refine wl_val (.agg #[.int .u64 0, .int .u64 0, .int .u64 0, .int .u64 0]) rfl (fun _ => by go_simp) ?_
            simp only [Act.put, List.setIfInBounds_toArray, List.set_cons_zero, List.set_cons_succ]
            refine wl_val (.bool (decide (d.n ≠ 0))) rfl (fun w => ne_zero d hd rfl rfl rfl w) ?_
            simp only [Act.put, List.setIfInBounds_toArray, List.set_cons_zero, List.set_cons_succ]
            refine wl_nil ?_
            refine we_then ?_
            cases h15 : (decide (d.n ≠ 0))
            · skip
              have p15 : ¬ (d.n ≠ 0) := of_decide_eq_false h15
              refine wc_false rfl ?_
              refine wc_skip ?_
              exact we_meet ⟨A2, true, _, _, _, _, _, _, _, _, _, _, _, _, _, _, _, _, _, _, _, _, _, _, _, _, _, _, _, _, _, _, _, _, _, _⟩ (by (try dsimp only); refine ⟨?_, ?_⟩ <;> intro k <;> simp at k <;> omega) rfl (List.Sublist.cons _ (List.Sublist.cons_cons _ (List.Sublist.cons_cons _ (List.Sublist.cons_cons _ List.Sublist.slnil))))
            · skip
              have p15 : d.n ≠ 0 := of_decide_eq_true h15
              refine wc_true rfl ?_
              refine wc_seq ?_
              refine wc_region ?_
              refine wl_val (.int .i64 A2) rfl (fun _ => rfl) ?_
              simp only [Act.put, List.setIfInBounds_toArray, List.set_cons_zero, List.set_cons_succ]
              refine wl_val (.bool (A2 != 9223372036854775807)) rfl (fun w => run_cmp rfl rfl rfl Try.underlying2 rfl w) ?_
              simp only [Act.put, List.setIfInBounds_toArray, List.set_cons_zero, List.set_cons_succ]
              refine wl_val (.bool (A2 != 9223372036854775807)) rfl (fun _ => rfl) ?_
              simp only [Act.put, List.setIfInBounds_toArray, List.set_cons_zero, List.set_cons_succ]
              refine wl_nil ?_
              refine we_then ?_
              refine wc_seq ?_
              refine wc_region ?_
              refine wl_val (.bool (A2 != 9223372036854775807)) rfl (fun _ => rfl) ?_
              simp only [Act.put, List.setIfInBounds_toArray, List.set_cons_zero, List.set_cons_succ]
              refine wl_nil ?_
              refine we_then ?_
              cases h16 : (A2 != 9223372036854775807)
              · skip
                have p16 : ¬ (A2 ≠ 9223372036854775807) := by simpa using h16
                refine wc_false rfl ?_
                refine wc_skip ?_
                exact we_meet ⟨A2, false, _, _, _, _, _, _, _, _, _, _, _, _, _, _, _, _, _, _, _, _, _, _, _, _, _, _, _, _, _, _, _, _, _, _⟩ (by (try dsimp only); refine ⟨?_, ?_⟩ <;> intro k <;> simp at k <;> omega) rfl (List.Sublist.cons _ (List.Sublist.cons_cons _ (List.Sublist.cons_cons _ (List.Sublist.cons_cons _ List.Sublist.slnil))))
              · skip
                have p16 : A2 ≠ 9223372036854775807 := by simpa using h16
                refine wc_true rfl ?_
                refine wc_region ?_
                refine wl_val (.int .i64 A2) rfl (fun _ => rfl) ?_
                simp only [Act.put, List.setIfInBounds_toArray, List.set_cons_zero, List.set_cons_succ]
                refine wl_val (.int .i64 (A2 + 1)) rfl (fun w => run_arith (op := .add) rfl rfl rfl Try.underlying2 (congrArg some (i64_in (by omega) (by omega))) w) ?_
                simp only [Act.put, List.setIfInBounds_toArray, List.set_cons_zero, List.set_cons_succ]
                refine wl_val (.int .i64 (A2 + 1)) rfl (fun _ => rfl) ?_
                simp only [Act.put, List.setIfInBounds_toArray, List.set_cons_zero, List.set_cons_succ]
                refine wl_nil ?_
                exact we_meet ⟨(A2 + 1), true, _, _, _, _, _, _, _, _, _, _, _, _, _, _, _, _, _, _, _, _, _, _, _, _, _, _, _, _, _, _, _, _, _, _⟩ (by (try dsimp only); refine ⟨?_, ?_⟩ <;> intro k <;> simp at k <;> omega) rfl (List.Sublist.cons _ (List.Sublist.cons_cons _ (List.Sublist.cons_cons _ (List.Sublist.cons_cons _ List.Sublist.slnil))))
        · rintro ⟨z, mm, u16, u17, u68, u69, u70, u71, u72, u73, u74, u75, u76, u77, u78, u79, u80, u81, u82, u83, u84, u85, u86, u87, u88, u89, u90, u91, u92, u93, u94, u95, u96, u97, u98, u99⟩ hφ
          (try dsimp only at hφ ⊢)
          obtain ⟨f1, f2⟩ := hφ
          refine wc_seq ?_
          refine wc_seq ?_
          refine wc_region ?_
          refine wl_val (.bool o1) rfl (fun _ => rfl) ?_
          simp only [Act.put, List.setIfInBounds_toArray, List.set_cons_zero, List.set_cons_succ]
          refine wl_val (.bool (!o1)) rfl (fun _ => by go_simp) ?_
          simp only [Act.put, List.setIfInBounds_toArray, List.set_cons_zero, List.set_cons_succ]
          refine wl_val (.bool (!o1)) rfl (fun _ => rfl) ?_
          simp only [Act.put, List.setIfInBounds_toArray, List.set_cons_zero, List.set_cons_succ]
          cases h17 : (o1)
          · skip
            have K := G1 h17
            refine wl_skip rfl ?_
            simp only [Act.put, List.setIfInBounds_toArray, List.set_cons_zero, List.set_cons_succ]
            refine wl_skip rfl ?_
            simp only [Act.put, List.setIfInBounds_toArray, List.set_cons_zero, List.set_cons_succ]
            refine wl_val (.bool true) rfl (fun _ => rfl) ?_
            simp only [Act.put, List.setIfInBounds_toArray, List.set_cons_zero, List.set_cons_succ]
            refine wl_nil ?_
            refine we_then ?_
            refine wc_true rfl ?_
            refine wc_seq ?_
            refine wc_region ?_
            refine wl_val (.int .i64 E) rfl (fun _ => rfl) ?_
            simp only [Act.put, List.setIfInBounds_toArray, List.set_cons_zero, List.set_cons_succ]
            refine wl_val (.bool (E == 20)) rfl (fun w => run_cmp rfl rfl rfl Try.underlying44 rfl w) ?_
            simp only [Act.put, List.setIfInBounds_toArray, List.set_cons_zero, List.set_cons_succ]
            refine wl_val (.bool (E == 20)) rfl (fun _ => rfl) ?_
            simp only [Act.put, List.setIfInBounds_toArray, List.set_cons_zero, List.set_cons_succ]
            cases h18 : (E == 20)
            · skip
              have p18 : ¬ (E = 20) := by simpa using h18
              exact (by exfalso; omega)
            · skip
              have p18 : E = 20 := by simpa using h18
              refine wl_load 23 (.tmp 7) (own_row 1 rfl) rfl rfl rfl Try.underlying23 rfl (by kernel_rfl) ?_
              simp only [Act.put, List.setIfInBounds_toArray, List.set_cons_zero, List.set_cons_succ]
              refine wl_val (.agg #[.int .i64 0, .int .i64 0]) rfl (fun _ => by go_simp) ?_
              simp only [Act.put, List.setIfInBounds_toArray, List.set_cons_zero, List.set_cons_succ]
              refine wl_val (.bool (V1 == 0 && V2 == 0)) rfl (fun w => eq_span rfl rfl rfl w) ?_
              simp only [Act.put, List.setIfInBounds_toArray, List.set_cons_zero, List.set_cons_succ]
              refine wl_val (.bool (V1 == 0 && V2 == 0)) rfl (fun _ => rfl) ?_
              simp only [Act.put, List.setIfInBounds_toArray, List.set_cons_zero, List.set_cons_succ]
              refine wl_val (.bool (V1 == 0 && V2 == 0)) rfl (fun _ => rfl) ?_
              simp only [Act.put, List.setIfInBounds_toArray, List.set_cons_zero, List.set_cons_succ]
              refine wl_nil ?_
              refine we_then ?_
              refine wc_ret ?_
              refine we_then_ret ?_
              refine we_ret1 (.bool (V1 == 0 && V2 == 0)) rfl rfl rfl (fun w1 hE => ?_)
              exact ⟨by rw [show (V1) = (0) by omega, show (V2) = (0) by omega]; simp, hE.below⟩
          · skip
            have K := H1 h17
            refine wl_val (.bool mm) rfl (fun _ => rfl) ?_
            simp only [Act.put, List.setIfInBounds_toArray, List.set_cons_zero, List.set_cons_succ]
            refine wl_val (.bool (!mm)) rfl (fun _ => by go_simp) ?_
            simp only [Act.put, List.setIfInBounds_toArray, List.set_cons_zero, List.set_cons_succ]
            refine wl_val (.bool (!mm)) rfl (fun _ => rfl) ?_
            simp only [Act.put, List.setIfInBounds_toArray, List.set_cons_zero, List.set_cons_succ]
            refine wl_nil ?_
            refine we_then ?_
            cases h19 : (mm)
            · skip
              have K := f2 h19
              refine wc_true rfl ?_
              refine wc_seq ?_
              refine wc_region ?_
              refine wl_val (.int .i64 E) rfl (fun _ => rfl) ?_
              simp only [Act.put, List.setIfInBounds_toArray, List.set_cons_zero, List.set_cons_succ]
              refine wl_val (.bool (E == 20)) rfl (fun w => run_cmp rfl rfl rfl Try.underlying44 rfl w) ?_
              simp only [Act.put, List.setIfInBounds_toArray, List.set_cons_zero, List.set_cons_succ]
              refine wl_val (.bool (E == 20)) rfl (fun _ => rfl) ?_
              simp only [Act.put, List.setIfInBounds_toArray, List.set_cons_zero, List.set_cons_succ]
              cases h20 : (E == 20)
              · skip
                have p20 : ¬ (E = 20) := by simpa using h20
                exact (by exfalso; omega)
              · skip
                have p20 : E = 20 := by simpa using h20
                refine wl_load 23 (.tmp 7) (own_row 1 rfl) rfl rfl rfl Try.underlying23 rfl (by kernel_rfl) ?_
                simp only [Act.put, List.setIfInBounds_toArray, List.set_cons_zero, List.set_cons_succ]
                refine wl_val (.agg #[.int .i64 0, .int .i64 0]) rfl (fun _ => by go_simp) ?_
                simp only [Act.put, List.setIfInBounds_toArray, List.set_cons_zero, List.set_cons_succ]
                refine wl_val (.bool (V1 == 0 && V2 == 0)) rfl (fun w => eq_span rfl rfl rfl w) ?_
                simp only [Act.put, List.setIfInBounds_toArray, List.set_cons_zero, List.set_cons_succ]
                refine wl_val (.bool (V1 == 0 && V2 == 0)) rfl (fun _ => rfl) ?_
                simp only [Act.put, List.setIfInBounds_toArray, List.set_cons_zero, List.set_cons_succ]
                refine wl_val (.bool (V1 == 0 && V2 == 0)) rfl (fun _ => rfl) ?_
                simp only [Act.put, List.setIfInBounds_toArray, List.set_cons_zero, List.set_cons_succ]
                refine wl_nil ?_
                refine we_then ?_
                refine wc_ret ?_
                refine we_then_ret ?_
                refine we_ret1 (.bool (V1 == 0 && V2 == 0)) rfl rfl rfl (fun w1 hE => ?_)
                exact ⟨by rw [show (V1) = (0) by omega, show (V2) = (0) by omega]; simp, hE.below⟩
            · skip
              have K := f1 h19
              refine wc_false rfl ?_
              refine wc_skip ?_
              refine we_then ?_
              refine wc_seq ?_
              refine wc_region ?_
              refine wl_val (.int .i64 E) rfl (fun _ => rfl) ?_
              simp only [Act.put, List.setIfInBounds_toArray, List.set_cons_zero, List.set_cons_succ]
              refine wl_val (.bool (E == 0)) rfl (fun w => run_cmp rfl rfl rfl Try.underlying44 rfl w) ?_
              simp only [Act.put, List.setIfInBounds_toArray, List.set_cons_zero, List.set_cons_succ]
              refine wl_val (.bool (E == 0)) rfl (fun _ => rfl) ?_
              simp only [Act.put, List.setIfInBounds_toArray, List.set_cons_zero, List.set_cons_succ]
              cases h21 : (E == 0)
              · skip
                have p21 : ¬ (E = 0) := by simpa using h21
                exact (by exfalso; omega)
              · skip
                have p21 : E = 0 := by simpa using h21
                refine wl_val (.pointer (some ⟨g2, 0, none⟩)) rfl (fun _ => by go_simp) ?_
                simp only [Act.put, List.setIfInBounds_toArray, List.set_cons_zero, List.set_cons_succ]
                refine wl_cell 2 (.tmp 116) (.int .i64 V1) (own_row 1 rfl) rfl rfl rfl rfl Try.isAgg2 ?_
                simp only [Act.put, List.setIfInBounds_toArray, List.set_cons_zero, List.set_cons_succ]
                refine wl_val (.int .i64 A1) rfl (fun _ => rfl) ?_
                simp only [Act.put, List.setIfInBounds_toArray, List.set_cons_zero, List.set_cons_succ]
                refine wl_val (.bool (V1 == A1)) rfl (fun w => run_cmp rfl rfl rfl Try.underlying2 rfl w) ?_
                simp only [Act.put, List.setIfInBounds_toArray, List.set_cons_zero, List.set_cons_succ]
                refine wl_val (.bool (V1 == A1)) rfl (fun _ => rfl) ?_
                simp only [Act.put, List.setIfInBounds_toArray, List.set_cons_zero, List.set_cons_succ]
                refine wl_val (.bool (V1 == A1)) rfl (fun _ => rfl) ?_
                simp only [Act.put, List.setIfInBounds_toArray, List.set_cons_zero, List.set_cons_succ]
                cases h22 : (V1 == A1)
                · skip
                  have p22 : ¬ (V1 = A1) := by simpa using h22
                  exact (by exfalso; omega)
                · skip
                  have p22 : V1 = A1 := by simpa using h22
                  refine wl_val (.pointer (some ⟨g2, 1, none⟩)) rfl (fun _ => by go_simp) ?_
                  simp only [Act.put, List.setIfInBounds_toArray, List.set_cons_zero, List.set_cons_succ]
                  refine wl_cell 2 (.tmp 122) (.int .i64 V2) (own_row 1 rfl) rfl rfl rfl rfl Try.isAgg2 ?_
                  simp only [Act.put, List.setIfInBounds_toArray, List.set_cons_zero, List.set_cons_succ]
                  refine wl_val (.int .i64 z) rfl (fun _ => rfl) ?_
                  simp only [Act.put, List.setIfInBounds_toArray, List.set_cons_zero, List.set_cons_succ]
                  refine wl_val (.bool (V2 == z)) rfl (fun w => run_cmp rfl rfl rfl Try.underlying2 rfl w) ?_
                  simp only [Act.put, List.setIfInBounds_toArray, List.set_cons_zero, List.set_cons_succ]
                  refine wl_val (.bool (V2 == z)) rfl (fun _ => rfl) ?_
                  simp only [Act.put, List.setIfInBounds_toArray, List.set_cons_zero, List.set_cons_succ]
                  refine wl_val (.bool (V2 == z)) rfl (fun _ => rfl) ?_
                  simp only [Act.put, List.setIfInBounds_toArray, List.set_cons_zero, List.set_cons_succ]
                  refine wl_nil ?_
                  refine we_then ?_
                  refine wc_ret ?_
                  refine we_ret1 (.bool (V2 == z)) rfl rfl rfl (fun w1 hE => ?_)
                  exact ⟨by rw [show (V2) = (z) by omega]; simp, hE.below⟩
    · skip
      have p4 : n < 1 := of_decide_eq_true h4
      exact (by exfalso; omega)
  · skip
    have p3 : b < a := of_decide_eq_true h3
    exact (by exfalso; omega)
set_option maxHeartbeats 2000000 in
theorem spanTimes_refused (a b k n : Int) (h : b < a ∨ n < 1)
    (cT : ∀ W, Calls Try.prog 25 #[.agg #[.int .i64 a, .int .i64 b], .int .i64 k, .int .i64 n] W fun e w' => e = .returned (.tuple #[.agg #[.int .i64 0, .int .i64 0], .int .i64 10]) ∧ Below W.heap.size W w') (w : World) :
    Calls Try.prog 6 #[.agg #[.int .i64 a, .int .i64 b], .int .i64 k, .int .i64 n] w fun e w' => e = .returned (.bool true) ∧ Below w.heap.size w w' := by
  refine calls_sx Try.func6 rfl ?_
  simp only [Try.ntmps6, List.size_toArray, List.length_cons, List.length_nil, Nat.reduceAdd, Nat.reduceSub, Array.replicate_succ, Array.replicate_zero, List.push_toArray, List.append_toArray, List.nil_append, List.cons_append]
  refine wc_seq ?_
  refine wc_region ?_
  refine wl_new 23 (#[.int .i64 a, .int .i64 b]) rfl (fun _ => by go_simp) ?_
  intro g1
  simp only [Act.put, List.setIfInBounds_toArray, List.set_cons_zero, List.set_cons_succ]
  refine wl_val (.bool false) rfl (fun _ => rfl) ?_
  simp only [Act.put, List.setIfInBounds_toArray, List.set_cons_zero, List.set_cons_succ]
  refine wl_nil ?_
  refine we_then ?_
  refine wc_seq ?_
  refine wc_seq ?_
  refine wc_region ?_
  refine wl_call 8 #[] (.bool true) rfl (fun _ => by go_simp) anchor4 ?_
  simp only [Act.put, List.setIfInBounds_toArray, List.set_cons_zero, List.set_cons_succ]
  refine wl_val (.bool false) rfl (fun _ => by go_simp) ?_
  simp only [Act.put, List.setIfInBounds_toArray, List.set_cons_zero, List.set_cons_succ]
  refine wl_nil ?_
  refine we_then ?_
  refine wc_false rfl ?_
  refine wc_skip ?_
  refine we_then ?_
  refine wc_seq ?_
  refine wc_region ?_
  refine wl_load 23 (.tmp 3) (own_row 0 rfl) rfl rfl rfl Try.underlying23 rfl (by kernel_rfl) ?_
  simp only [Act.put, List.setIfInBounds_toArray, List.set_cons_zero, List.set_cons_succ]
  refine wl_val (.int .i64 k) rfl (fun _ => rfl) ?_
  simp only [Act.put, List.setIfInBounds_toArray, List.set_cons_zero, List.set_cons_succ]
  refine wl_val (.int .i64 n) rfl (fun _ => rfl) ?_
  simp only [Act.put, List.setIfInBounds_toArray, List.set_cons_zero, List.set_cons_succ]
  refine wl_call 25 #[.agg #[.int .i64 a, .int .i64 b], .int .i64 k, .int .i64 n] (.tuple #[.agg #[.int .i64 0, .int .i64 0], .int .i64 10]) rfl (fun _ => by go_simp) cT ?_
  simp only [Act.put, List.setIfInBounds_toArray, List.set_cons_zero, List.set_cons_succ]
  refine wl_val (.tuple #[.agg #[.int .i64 0, .int .i64 0], .int .i64 10]) rfl (fun _ => rfl) ?_
  simp only [Act.put, List.setIfInBounds_toArray, List.set_cons_zero, List.set_cons_succ]
  refine wl_val (.agg #[.int .i64 0, .int .i64 0]) rfl (fun _ => by go_simp) ?_
  simp only [Act.put, List.setIfInBounds_toArray, List.set_cons_zero, List.set_cons_succ]
  refine wl_val (.int .i64 10) rfl (fun _ => by go_simp) ?_
  simp only [Act.put, List.setIfInBounds_toArray, List.set_cons_zero, List.set_cons_succ]
  refine wl_new 23 (#[.int .i64 0, .int .i64 0]) rfl (fun _ => by go_simp) ?_
  intro g2
  simp only [Act.put, List.setIfInBounds_toArray, List.set_cons_zero, List.set_cons_succ]
  refine wl_store 0 23 (.tmp 7) (.tmp 25) (#[.int .i64 0, .int .i64 0]) rfl rfl rfl rfl rfl (by kernel_rfl) rfl (by simp [Value.oneCell']) ?_
  simp only [Act.put, List.set_cons_zero]
  refine wl_val (.int .i64 10) rfl (fun _ => rfl) ?_
  simp only [Act.put, List.setIfInBounds_toArray, List.set_cons_zero, List.set_cons_succ]
  refine wl_nil ?_
  refine we_then ?_
  refine wc_seq ?_
  refine wc_seq ?_
  refine wc_region ?_
  refine wl_val (.pointer (some ⟨g1, 0, none⟩)) rfl (fun _ => by go_simp) ?_
  simp only [Act.put, List.setIfInBounds_toArray, List.set_cons_zero, List.set_cons_succ]
  refine wl_cell 2 (.tmp 27) (.int .i64 a) (own_row 1 rfl) rfl rfl rfl rfl Try.isAgg2 ?_
  simp only [Act.put, List.setIfInBounds_toArray, List.set_cons_zero, List.set_cons_succ]
  refine wl_val (.pointer (some ⟨g1, 1, none⟩)) rfl (fun _ => by go_simp) ?_
  simp only [Act.put, List.setIfInBounds_toArray, List.set_cons_zero, List.set_cons_succ]
  refine wl_cell 2 (.tmp 29) (.int .i64 b) (own_row 1 rfl) rfl rfl rfl rfl Try.isAgg2 ?_
  simp only [Act.put, List.setIfInBounds_toArray, List.set_cons_zero, List.set_cons_succ]
  refine wl_val (.bool (decide (b < a))) rfl (fun w => run_cmp rfl rfl rfl Try.underlying2 rfl w) ?_
  simp only [Act.put, List.setIfInBounds_toArray, List.set_cons_zero, List.set_cons_succ]
  refine wl_val (.bool (decide (b < a))) rfl (fun _ => rfl) ?_
  simp only [Act.put, List.setIfInBounds_toArray, List.set_cons_zero, List.set_cons_succ]
  cases h3 : (decide (b < a))
  · skip
    have p3 : ¬ (b < a) := of_decide_eq_false h3
    refine wl_val (.int .i64 n) rfl (fun _ => rfl) ?_
    simp only [Act.put, List.setIfInBounds_toArray, List.set_cons_zero, List.set_cons_succ]
    refine wl_val (.bool (decide (n < 1))) rfl (fun w => run_cmp rfl rfl rfl Try.underlying2 rfl w) ?_
    simp only [Act.put, List.setIfInBounds_toArray, List.set_cons_zero, List.set_cons_succ]
    refine wl_val (.bool (decide (n < 1))) rfl (fun _ => rfl) ?_
    simp only [Act.put, List.setIfInBounds_toArray, List.set_cons_zero, List.set_cons_succ]
    refine wl_nil ?_
    refine we_then ?_
    cases h4 : (decide (n < 1))
    · skip
      have p4 : ¬ (n < 1) := of_decide_eq_false h4
      exact (by exfalso; omega)
    · skip
      have p4 : n < 1 := of_decide_eq_true h4
      refine wc_true rfl ?_
      refine wc_seq ?_
      refine wc_region ?_
      refine wl_val (.int .i64 10) rfl (fun _ => rfl) ?_
      simp only [Act.put, List.setIfInBounds_toArray, List.set_cons_zero, List.set_cons_succ]
      refine wl_val (.bool true) rfl (fun w => run_cmp rfl rfl rfl Try.underlying44 rfl w) ?_
      simp only [Act.put, List.setIfInBounds_toArray, List.set_cons_zero, List.set_cons_succ]
      refine wl_val (.bool true) rfl (fun _ => rfl) ?_
      simp only [Act.put, List.setIfInBounds_toArray, List.set_cons_zero, List.set_cons_succ]
      refine wl_load 23 (.tmp 7) (own_row 0 rfl) rfl rfl rfl Try.underlying23 rfl (by kernel_rfl) ?_
      simp only [Act.put, List.setIfInBounds_toArray, List.set_cons_zero, List.set_cons_succ]
      refine wl_val (.agg #[.int .i64 0, .int .i64 0]) rfl (fun _ => by go_simp) ?_
      simp only [Act.put, List.setIfInBounds_toArray, List.set_cons_zero, List.set_cons_succ]
      refine wl_val (.bool true) rfl (fun _ => by go_simp) ?_
      simp only [Act.put, List.setIfInBounds_toArray, List.set_cons_zero, List.set_cons_succ]
      refine wl_val (.bool true) rfl (fun _ => rfl) ?_
      simp only [Act.put, List.setIfInBounds_toArray, List.set_cons_zero, List.set_cons_succ]
      refine wl_val (.bool true) rfl (fun _ => rfl) ?_
      simp only [Act.put, List.setIfInBounds_toArray, List.set_cons_zero, List.set_cons_succ]
      refine wl_nil ?_
      refine we_then ?_
      refine wc_ret ?_
      refine we_then_ret ?_
      refine we_ret1 (.bool true) rfl rfl rfl (fun w1 hE => ?_)
      exact ⟨rfl, hE.below⟩
  · skip
    have p3 : b < a := of_decide_eq_true h3
    refine wl_skip rfl ?_
    simp only [Act.put, List.setIfInBounds_toArray, List.set_cons_zero, List.set_cons_succ]
    refine wl_skip rfl ?_
    simp only [Act.put, List.setIfInBounds_toArray, List.set_cons_zero, List.set_cons_succ]
    refine wl_val (.bool true) rfl (fun _ => rfl) ?_
    simp only [Act.put, List.setIfInBounds_toArray, List.set_cons_zero, List.set_cons_succ]
    refine wl_nil ?_
    refine we_then ?_
    refine wc_true rfl ?_
    refine wc_seq ?_
    refine wc_region ?_
    refine wl_val (.int .i64 10) rfl (fun _ => rfl) ?_
    simp only [Act.put, List.setIfInBounds_toArray, List.set_cons_zero, List.set_cons_succ]
    refine wl_val (.bool true) rfl (fun w => run_cmp rfl rfl rfl Try.underlying44 rfl w) ?_
    simp only [Act.put, List.setIfInBounds_toArray, List.set_cons_zero, List.set_cons_succ]
    refine wl_val (.bool true) rfl (fun _ => rfl) ?_
    simp only [Act.put, List.setIfInBounds_toArray, List.set_cons_zero, List.set_cons_succ]
    refine wl_load 23 (.tmp 7) (own_row 0 rfl) rfl rfl rfl Try.underlying23 rfl (by kernel_rfl) ?_
    simp only [Act.put, List.setIfInBounds_toArray, List.set_cons_zero, List.set_cons_succ]
    refine wl_val (.agg #[.int .i64 0, .int .i64 0]) rfl (fun _ => by go_simp) ?_
    simp only [Act.put, List.setIfInBounds_toArray, List.set_cons_zero, List.set_cons_succ]
    refine wl_val (.bool true) rfl (fun _ => by go_simp) ?_
    simp only [Act.put, List.setIfInBounds_toArray, List.set_cons_zero, List.set_cons_succ]
    refine wl_val (.bool true) rfl (fun _ => rfl) ?_
    simp only [Act.put, List.setIfInBounds_toArray, List.set_cons_zero, List.set_cons_succ]
    refine wl_val (.bool true) rfl (fun _ => rfl) ?_
    simp only [Act.put, List.setIfInBounds_toArray, List.set_cons_zero, List.set_cons_succ]
    refine wl_nil ?_
    refine we_then ?_
    refine wc_ret ?_
    refine we_then_ret ?_
    refine we_ret1 (.bool true) rfl rfl rfl (fun w1 hE => ?_)
    exact ⟨rfl, hE.below⟩
theorem fitB_iff (z : Int) : (fitB z = true → fitOr z = z ∧ -9223372036854775808 ≤ z ∧ z ≤ 9223372036854775807) ∧ (fitB z = false → ¬ (-9223372036854775808 ≤ z ∧ z ≤ 9223372036854775807)) := by
  unfold fitB fitOr
  refine ⟨fun h => ?_, fun h => ?_⟩
  · have h' := of_decide_eq_true h
    rw [if_pos h']
    exact ⟨rfl, h'⟩
  · exact of_decide_eq_false h
theorem spanTimes_walk (a : Int) (wa : (Lit.int .i64 a).wf = true) (b : Int) (wb : (Lit.int .i64 b).wf = true) (k : Int) (wk : (Lit.int .i64 k).wf = true) (n : Int) (wn : (Lit.int .i64 n).wf = true) (w : World) :
    Calls Try.prog 6 #[.agg #[.int .i64 a, .int .i64 b], .int .i64 k, .int .i64 n] w fun e w' => e = .returned (.bool true) ∧ Below w.heap.size w w' := by
  have ha := fits_of_wf wa
  have hb := fits_of_wf wb
  have hk := fits_of_wf wk
  have hn := fits_of_wf wn
  by_cases h : b < a ∨ n < 1
  · exact spanTimes_refused a b k n h (fun W => times_refused a b k n W (by omega)) w
  · have h1 : a ≤ b := by omega
    have h2 : 1 ≤ n := by omega
    obtain ⟨x, hx⟩ : ∃ x, (if k < 0 then b else a) = x := ⟨_, rfl⟩
    obtain ⟨y, hy⟩ : ∃ y, (if k < 0 then a else b) = y := ⟨_, rfl⟩
    have fx : Fits x := by rw [← hx]; split <;> assumption
    have fy : Fits y := by rw [← hy]; split <;> assumption
    obtain ⟨V1, V2, E, cT, hE⟩ := times_told a b k n x y ha hb hk hn h1 h2 hx hy
    have kp := nmul_ok k y
    have kt := nmul_ok (fitOr (k * y / n)) n
    have km := nneg_ok kt
    have kd := nadd_ok kp km
    have k2 := nmul_ok (-9223372036854775808) n
    have km2 := nneg_ok kp
    have kd2 := nadd_ok k2 km2
    have fo : ∀ z, Fits (fitOr z) := fun z => by
      unfold fitOr
      split
      · assumption
      · exact zero_fits
    have fl : Fits (-9223372036854775808) := by unfold Fits; omega
    have lp := nmul_le hk fy
    have lt := nmul_le (fo (k * y / n)) hn
    have l2 := nmul_le fl hn
    have zd := nadd_z kp km
    rw [nneg_z, nmul_z, nmul_z] at zd
    have zd2 := nadd_z k2 km2
    rw [nneg_z, nmul_z, nmul_z] at zd2
    have e1 := Int.mul_ediv_add_emod (k * y) n
    have e2 := Int.emod_nonneg (k * y) (show n ≠ 0 by omega)
    have e3 := Int.emod_lt_of_pos (k * y) (show 0 < n by omega)
    have eC : (k * y % n = 0 ∧ -(-(k * y) / n) = k * y / n) ∨ (k * y % n ≠ 0 ∧ -(-(k * y) / n) = k * y / n + 1) := by
      have e4 := Int.mul_ediv_add_emod (-(k * y)) n
      have e5 := Int.emod_nonneg (-(k * y)) (show n ≠ 0 by omega)
      have e6 := Int.emod_lt_of_pos (-(k * y)) (show 0 < n by omega)
      obtain ⟨u, hu⟩ : ∃ u, u = k * y / n := ⟨_, rfl⟩
      obtain ⟨v, hv⟩ : ∃ v, v = -(k * y) / n := ⟨_, rfl⟩
      rw [← hu] at e1 ⊢
      rw [← hv] at e4 ⊢
      have e7 : n * (u + v) = n * u + n * v := Int.mul_add _ _ _
      by_cases h0 : k * y % n = 0
      · left
        refine ⟨h0, ?_⟩
        have : u + v = 0 := by
          rcases Int.lt_trichotomy (u + v) 0 with c | c | c
          · have := Int.mul_le_mul_of_nonneg_left (show u + v ≤ -1 by omega) (show 0 ≤ n by omega); omega
          · exact c
          · have := Int.mul_le_mul_of_nonneg_left (show 1 ≤ u + v by omega) (show 0 ≤ n by omega); omega
        omega
      · right
        refine ⟨h0, ?_⟩
        have : u + v = -1 := by
          rcases Int.lt_trichotomy (u + v) (-1) with c | c | c
          · have := Int.mul_le_mul_of_nonneg_left (show u + v ≤ -2 by omega) (show 0 ≤ n by omega); omega
          · exact c
          · have := Int.mul_le_mul_of_nonneg_left (show 0 ≤ u + v by omega) (show 0 ≤ n by omega); omega
        omega
    have e8 : n * (k * y / n) = k * y / n * n := Int.mul_comm _ _
    refine spanTimes_core a b k n x y V1 V2 E _ _ (k * x / n) (k * y / n) (-(-(k * y) / n)) (-9223372036854775808 * n - k * y) _ _ _ (nmul k y) (nmul (fitOr (k * y / n)) n) _ _ (nmul (-9223372036854775808) n) _ _ (nof n) kd kd2.pos h1 h2 hx hy cT
      (fun W => quotient_any k x n W hk fx hn (by omega)) (fun W => quotient_any k y n W hk fy hn (by omega)) (fun W => times_nm k y W hk fy) (fun W => times_nm _ n W (fo _) hn) (fun W => minor_nm _ W kt)
      (fun W => sum_nm _ _ W kp km (by unfold Nm.half; omega) (by unfold Nm.half; rw [nneg_n]; omega))
      (fun W => times_nm _ n W fl hn) (fun W => minor_nm _ W kp) (fun W => sum_nm _ _ W k2 km2 (by unfold Nm.half; omega) (by unfold Nm.half; rw [nneg_n]; omega)) (fun W => of_nm n W hn)
      (fun W => less_any _ _ W) hE (fitB_iff _).1 (fitB_iff _).2 (fun h => ?_) (fun h => ?_) ?_ w
    · obtain ⟨g1, g2⟩ := (fitB_iff _).1 h
      refine ⟨g1, g2, ?_⟩
      rw [g1] at zd
      have n0 := nm_zero kd
      rw [g1] at n0
      rw [g1]
      rcases eC with ⟨c1, c2⟩ | ⟨c1, c2⟩
      · exact .inl ⟨n0.1 (by omega), c2⟩
      · exact .inr ⟨fun c => c1 (by have := n0.2 c; omega), c2⟩
    · have g := (fitB_iff _).2 h
      refine ⟨g, ?_, ?_⟩
      · have hp := kd2.pos
        unfold Nm.z at zd2
        rcases kd2.sign with c | c
        · left; rw [c] at zd2; exact ⟨c, by omega⟩
        · right; rw [c] at zd2; exact ⟨c, by omega⟩
      · obtain ⟨u, hu⟩ : ∃ u, u = k * y / n := ⟨_, rfl⟩
        rw [← hu] at e1 e8 eC g
        rcases Int.lt_trichotomy u (-9223372036854775808) with c | c | c
        · have m1 := Int.mul_le_mul_of_nonneg_right (show u ≤ -9223372036854775808 - 1 by omega) (show 0 ≤ n by omega)
          rw [Int.sub_mul] at m1
          by_cases hD : -9223372036854775808 * n - k * y < n
          · left
            refine ⟨by omega, hD, ?_⟩
            by_cases c2 : u = -9223372036854775808 - 1
            · rcases eC with ⟨c3, c4⟩ | ⟨c3, c4⟩
              · rw [c2] at e1; omega
              · omega
            · have m2 := Int.mul_le_mul_of_nonneg_right (show u ≤ -9223372036854775808 - 2 by omega) (show 0 ≤ n by omega)
              rw [Int.sub_mul] at m2
              omega
          · right; left
            refine ⟨by omega, by omega, ?_⟩
            by_cases c2 : u = -9223372036854775808 - 1
            · rcases eC with ⟨c3, c4⟩ | ⟨c3, c4⟩
              · omega
              · rw [c2] at e1; omega
            · omega
        · omega
        · right; right
          have m1 := Int.mul_le_mul_of_nonneg_right (show -9223372036854775808 + 1 ≤ u by omega) (show 0 ≤ n by omega)
          rw [Int.add_mul] at m1
          exact ⟨by omega, by omega⟩
    · have e : (nof n).n = n := by unfold nof abs; dsimp only; rw [if_neg (by omega)]
      rw [e, decide_eq_true_eq]
end Go.Proofs.Ytmbmjdlcpjmnoaa.Walks
