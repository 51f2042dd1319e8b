/-
  The walk of SpanSums: for any two spans and any integer it returns true. No condition.
-/
import Derived.Test.YtmbmjdlcpjmnoaaSpanTimes0
namespace Go.Proofs.Ytmbmjdlcpjmnoaa.Walks
open Go.ChangeShapes Go.WideShapes Go.ChangeAt Go.RowKit
open Num Ref Ratio RatioRef Arr Nmx Span SpanRef Steady Sx Sw
set_option linter.unusedVariables false
set_option maxRecDepth 100000

set_option maxHeartbeats 2000000 in
theorem spanSums_core (a b c d f p1 q1 p2 q2 p3 q3 p4 q4 : Int) (o1 o2 o3 o4 : Bool) (na nb nc nd nf md mc mf s1 s2 s3 s4 s5 s6 s7 : Nm)
    (cOa : ∀ W, Calls Try.prog 9 #[.int .i64 a] W fun e w' => e = .returned (.agg na.cs) ∧ Below W.heap.size W w')
    (cOb : ∀ W, Calls Try.prog 9 #[.int .i64 b] W fun e w' => e = .returned (.agg nb.cs) ∧ Below W.heap.size W w')
    (cOc : ∀ W, Calls Try.prog 9 #[.int .i64 c] W fun e w' => e = .returned (.agg nc.cs) ∧ Below W.heap.size W w')
    (cOd : ∀ W, Calls Try.prog 9 #[.int .i64 d] W fun e w' => e = .returned (.agg nd.cs) ∧ Below W.heap.size W w')
    (cOf : ∀ W, Calls Try.prog 9 #[.int .i64 f] W fun e w' => e = .returned (.agg nf.cs) ∧ Below W.heap.size W w')
    (c1 : ∀ W, Calls Try.prog 10 #[.agg #[.int .i64 a, .int .i64 b], .agg #[.int .i64 c, .int .i64 d]] W fun e w' => e = .returned (.tuple #[.agg #[.int .i64 p1, .int .i64 q1], .bool o1]) ∧ Below W.heap.size W w')
    (c2 : ∀ W, Calls Try.prog 11 #[.agg #[.int .i64 a, .int .i64 b], .agg #[.int .i64 c, .int .i64 d]] W fun e w' => e = .returned (.tuple #[.agg #[.int .i64 p2, .int .i64 q2], .bool o2]) ∧ Below W.heap.size W w')
    (c3 : ∀ W, Calls Try.prog 12 #[.agg #[.int .i64 a, .int .i64 b], .int .i64 f] W fun e w' => e = .returned (.tuple #[.agg #[.int .i64 p3, .int .i64 q3], .bool o3]) ∧ Below W.heap.size W w')
    (c4 : ∀ W, Calls Try.prog 13 #[.int .i64 a, .int .i64 f] W fun e w' => e = .returned (.tuple #[.agg #[.int .i64 p4, .int .i64 q4], .bool o4]) ∧ Below W.heap.size W w')
    (cMd : ∀ W, Calls Try.prog 16 #[.agg nd.cs] W fun e w' => e = .returned (.agg md.cs) ∧ Below W.heap.size W w')
    (cMc : ∀ W, Calls Try.prog 16 #[.agg nc.cs] W fun e w' => e = .returned (.agg mc.cs) ∧ Below W.heap.size W w')
    (cMf : ∀ W, Calls Try.prog 16 #[.agg nf.cs] W fun e w' => e = .returned (.agg mf.cs) ∧ Below W.heap.size W w')
    (cS0 : ∀ W, Calls Try.prog 15 #[.agg na.cs, .agg nc.cs] W fun e w' => e = .returned (.agg s1.cs) ∧ Below W.heap.size W w')
    (cS1 : ∀ W, Calls Try.prog 15 #[.agg nb.cs, .agg nd.cs] W fun e w' => e = .returned (.agg s2.cs) ∧ Below W.heap.size W w')
    (cS2 : ∀ W, Calls Try.prog 15 #[.agg na.cs, .agg md.cs] W fun e w' => e = .returned (.agg s3.cs) ∧ Below W.heap.size W w')
    (cS3 : ∀ W, Calls Try.prog 15 #[.agg nb.cs, .agg mc.cs] W fun e w' => e = .returned (.agg s4.cs) ∧ Below W.heap.size W w')
    (cS4 : ∀ W, Calls Try.prog 15 #[.agg na.cs, .agg mf.cs] W fun e w' => e = .returned (.agg s5.cs) ∧ Below W.heap.size W w')
    (cS5 : ∀ W, Calls Try.prog 15 #[.agg nb.cs, .agg nf.cs] W fun e w' => e = .returned (.agg s6.cs) ∧ Below W.heap.size W w')
    (cS6 : ∀ W, Calls Try.prog 15 #[.agg na.cs, .agg nf.cs] W fun e w' => e = .returned (.agg s7.cs) ∧ Below W.heap.size W w')
    (i1 : ∀ r, r = (decide (a ≤ b) && decide (c ≤ d)) → ∀ W, Calls Try.prog 14 #[.agg #[.int .i64 p1, .int .i64 q1], .bool o1, .bool r, .agg s1.cs, .agg s2.cs] W fun e w' => e = .returned (.bool true) ∧ Below W.heap.size W w')
    (i2 : ∀ r, r = (decide (a ≤ b) && decide (c ≤ d)) → ∀ W, Calls Try.prog 14 #[.agg #[.int .i64 p2, .int .i64 q2], .bool o2, .bool r, .agg s3.cs, .agg s4.cs] W fun e w' => e = .returned (.bool true) ∧ Below W.heap.size W w')
    (i3 : ∀ r, r = (decide (a ≤ b)) → ∀ W, Calls Try.prog 14 #[.agg #[.int .i64 p3, .int .i64 q3], .bool o3, .bool r, .agg s5.cs, .agg s6.cs] W fun e w' => e = .returned (.bool true) ∧ Below W.heap.size W w')
    (i4 : ∀ W, Calls Try.prog 14 #[.agg #[.int .i64 p4, .int .i64 q4], .bool o4, .bool true, .agg s5.cs, .agg s7.cs] W fun e w' => e = .returned (.bool true) ∧ Below W.heap.size W w') (w : World) :
    Calls Try.prog 3 #[.agg #[.int .i64 a, .int .i64 b], .agg #[.int .i64 c, .int .i64 d], .int .i64 f] w fun e w' => e = .returned (.bool true) ∧ Below w.heap.size w w' := by
  refine calls_sx Try.func3 rfl ?_
  simp only [Try.ntmps3, List.size_toArray, List.length_cons, List.length_nil, Nat.reduceAdd, Nat.reduceSub, Array.replicate_succ, Array.replicate_zero, List.push_toArray, List.append_toArray, List.nil_append, List.cons_append]
  refine wc_seq ?_
  refine wc_region ?_
  refine wl_new 23 (#[.int .i64 a, .int .i64 b]) rfl (fun _ => by go_simp) ?_
  intro g1
  simp only [Act.put, List.setIfInBounds_toArray, List.set_cons_zero, List.set_cons_succ]
  refine wl_new 23 (#[.int .i64 c, .int .i64 d]) rfl (fun _ => by go_simp) ?_
  intro g2
  simp only [Act.put, List.setIfInBounds_toArray, List.set_cons_zero, List.set_cons_succ]
  refine wl_val (.bool false) rfl (fun _ => rfl) ?_
  simp only [Act.put, List.setIfInBounds_toArray, List.set_cons_zero, List.set_cons_succ]
  refine wl_nil ?_
  refine we_then ?_
  refine wc_seq ?_
  refine wc_seq ?_
  refine wc_region ?_
  refine wl_call 8 #[] (.bool true) rfl (fun _ => by go_simp) anchor4 ?_
  simp only [Act.put, List.setIfInBounds_toArray, List.set_cons_zero, List.set_cons_succ]
  refine wl_val (.bool false) rfl (fun _ => by go_simp) ?_
  simp only [Act.put, List.setIfInBounds_toArray, List.set_cons_zero, List.set_cons_succ]
  refine wl_nil ?_
  refine we_then ?_
  refine wc_false rfl ?_
  refine wc_skip ?_
  refine we_then ?_
  refine wc_seq ?_
  refine wc_draw [.late, .plain, .plain, .late, .plain, .plain, .late, .plain, .plain, .late, .plain, .plain, .late, .plain, .make 28 (#[.int .i64 0, .int .u64 0, .int .u64 0, .int .u64 0, .int .u64 0]) 19 (na.cs), .make 28 (#[.int .i64 0, .int .u64 0, .int .u64 0, .int .u64 0, .int .u64 0]) 20 (nb.cs), .make 28 (#[.int .i64 0, .int .u64 0, .int .u64 0, .int .u64 0, .int .u64 0]) 21 (nc.cs), .make 28 (#[.int .i64 0, .int .u64 0, .int .u64 0, .int .u64 0, .int .u64 0]) 22 (nd.cs), .make 28 (#[.int .i64 0, .int .u64 0, .int .u64 0, .int .u64 0, .int .u64 0]) 23 (nf.cs), .put 14, .put 15, .put 16, .put 17, .put 18] none [(14, 7), (15, 8), (16, 9), (17, 10), (18, 11)] 127 (by kernel_rfl) rfl (by kernel_rfl) (by kernel_rfl) ?_
  refine ws_late (.pointer (some ⟨g1, 0, none⟩)) rfl rfl (fun _ => by go_simp) ?_
  simp only [Nat.reduceAdd, Act.put, List.setIfInBounds_toArray, List.set_cons_zero, List.set_cons_succ]
  refine ws_cell 2 (.tmp 23) (.int .i64 a) (own_row 1 rfl) rfl rfl rfl rfl rfl Try.isAgg2 ?_
  simp only [Nat.reduceAdd, Act.put, List.setIfInBounds_toArray, List.set_cons_zero, List.set_cons_succ]
  refine ws_call 9 #[.int .i64 a] (.agg na.cs) rfl rfl (fun _ => by go_simp) cOa ?_
  simp only [Nat.reduceAdd, Act.put, List.setIfInBounds_toArray, List.set_cons_zero, List.set_cons_succ]
  refine ws_late (.pointer (some ⟨g1, 1, none⟩)) rfl rfl (fun _ => by go_simp) ?_
  simp only [Nat.reduceAdd, Act.put, List.setIfInBounds_toArray, List.set_cons_zero, List.set_cons_succ]
  refine ws_cell 2 (.tmp 26) (.int .i64 b) (own_row 1 rfl) rfl rfl rfl rfl rfl Try.isAgg2 ?_
  simp only [Nat.reduceAdd, Act.put, List.setIfInBounds_toArray, List.set_cons_zero, List.set_cons_succ]
  refine ws_call 9 #[.int .i64 b] (.agg nb.cs) rfl rfl (fun _ => by go_simp) cOb ?_
  simp only [Nat.reduceAdd, Act.put, List.setIfInBounds_toArray, List.set_cons_zero, List.set_cons_succ]
  refine ws_late (.pointer (some ⟨g2, 0, none⟩)) rfl rfl (fun _ => by go_simp) ?_
  simp only [Nat.reduceAdd, Act.put, List.setIfInBounds_toArray, List.set_cons_zero, List.set_cons_succ]
  refine ws_cell 2 (.tmp 29) (.int .i64 c) (own_row 0 rfl) rfl rfl rfl rfl rfl Try.isAgg2 ?_
  simp only [Nat.reduceAdd, Act.put, List.setIfInBounds_toArray, List.set_cons_zero, List.set_cons_succ]
  refine ws_call 9 #[.int .i64 c] (.agg nc.cs) rfl rfl (fun _ => by go_simp) cOc ?_
  simp only [Nat.reduceAdd, Act.put, List.setIfInBounds_toArray, List.set_cons_zero, List.set_cons_succ]
  refine ws_late (.pointer (some ⟨g2, 1, none⟩)) rfl rfl (fun _ => by go_simp) ?_
  simp only [Nat.reduceAdd, Act.put, List.setIfInBounds_toArray, List.set_cons_zero, List.set_cons_succ]
  refine ws_cell 2 (.tmp 32) (.int .i64 d) (own_row 0 rfl) rfl rfl rfl rfl rfl Try.isAgg2 ?_
  simp only [Nat.reduceAdd, Act.put, List.setIfInBounds_toArray, List.set_cons_zero, List.set_cons_succ]
  refine ws_call 9 #[.int .i64 d] (.agg nd.cs) rfl rfl (fun _ => by go_simp) cOd ?_
  simp only [Nat.reduceAdd, Act.put, List.setIfInBounds_toArray, List.set_cons_zero, List.set_cons_succ]
  refine ws_late (.int .i64 f) rfl rfl (fun _ => rfl) ?_
  simp only [Nat.reduceAdd, Act.put, List.setIfInBounds_toArray, List.set_cons_zero, List.set_cons_succ]
  refine ws_call 9 #[.int .i64 f] (.agg nf.cs) rfl rfl (fun _ => by go_simp) cOf ?_
  simp only [Nat.reduceAdd, Act.put, List.setIfInBounds_toArray, List.set_cons_zero, List.set_cons_succ]
  refine ws_make 28 (#[.int .i64 0, .int .u64 0, .int .u64 0, .int .u64 0, .int .u64 0]) 19 (na.cs) rfl rfl rfl (zero_of_info (n := 5) (by kernel_rfl)).1 ?_
  simp only [Nat.reduceAdd, Act.put, List.setIfInBounds_toArray, List.set_cons_zero, List.set_cons_succ]
  refine ws_make 28 (#[.int .i64 0, .int .u64 0, .int .u64 0, .int .u64 0, .int .u64 0]) 20 (nb.cs) rfl rfl rfl (zero_of_info (n := 5) (by kernel_rfl)).1 ?_
  simp only [Nat.reduceAdd, Act.put, List.setIfInBounds_toArray, List.set_cons_zero, List.set_cons_succ]
  refine ws_make 28 (#[.int .i64 0, .int .u64 0, .int .u64 0, .int .u64 0, .int .u64 0]) 21 (nc.cs) rfl rfl rfl (zero_of_info (n := 5) (by kernel_rfl)).1 ?_
  simp only [Nat.reduceAdd, Act.put, List.setIfInBounds_toArray, List.set_cons_zero, List.set_cons_succ]
  refine ws_make 28 (#[.int .i64 0, .int .u64 0, .int .u64 0, .int .u64 0, .int .u64 0]) 22 (nd.cs) rfl rfl rfl (zero_of_info (n := 5) (by kernel_rfl)).1 ?_
  simp only [Nat.reduceAdd, Act.put, List.setIfInBounds_toArray, List.set_cons_zero, List.set_cons_succ]
  refine ws_make 28 (#[.int .i64 0, .int .u64 0, .int .u64 0, .int .u64 0, .int .u64 0]) 23 (nf.cs) rfl rfl rfl (zero_of_info (n := 5) (by kernel_rfl)).1 ?_
  simp only [Nat.reduceAdd, Act.put, List.setIfInBounds_toArray, List.set_cons_zero, List.set_cons_succ]
  refine ws_put 14 28 7 (.tmp 25) _ _ _ rfl rfl rfl rfl (by simp) rfl rfl rfl (by kernel_rfl) rfl (Nm.one na) ?_
  simp only [Nat.reduceAdd]
  refine ws_put 15 28 8 (.tmp 28) _ _ _ rfl rfl rfl rfl (by simp) rfl rfl rfl (by kernel_rfl) rfl (Nm.one nb) ?_
  simp only [Nat.reduceAdd]
  refine ws_put 16 28 9 (.tmp 31) _ _ _ rfl rfl rfl rfl (by simp) rfl rfl rfl (by kernel_rfl) rfl (Nm.one nc) ?_
  simp only [Nat.reduceAdd]
  refine ws_put 17 28 10 (.tmp 34) _ _ _ rfl rfl rfl rfl (by simp) rfl rfl rfl (by kernel_rfl) rfl (Nm.one nd) ?_
  simp only [Nat.reduceAdd]
  refine ws_put 18 28 11 (.tmp 36) _ _ _ rfl rfl rfl rfl (by simp) rfl rfl rfl (by kernel_rfl) rfl (Nm.one nf) ?_
  simp only [Nat.reduceAdd]
  refine ws_nil [(14, na.cs, 28), (15, nb.cs, 28), (16, nc.cs, 28), (17, nd.cs, 28), (18, nf.cs, 28)] ⟨⟨by decide, _, _, _, rfl, .inl ⟨by decide, rfl⟩⟩, ⟨⟨by decide, _, _, _, rfl, .inl ⟨by decide, rfl⟩⟩, ⟨⟨by decide, _, _, _, rfl, .inl ⟨by decide, rfl⟩⟩, ⟨⟨by decide, _, _, _, rfl, .inl ⟨by decide, rfl⟩⟩, ⟨⟨by decide, _, _, _, rfl, .inl ⟨by decide, rfl⟩⟩, trivial⟩⟩⟩⟩⟩ (by simp) ?_
  intro ps3
  simp only [fin, List.foldl_cons, List.foldl_nil, List.map, rowOf, List.cons_append, List.nil_append, Act.put, List.setIfInBounds_toArray, List.set_cons_zero, List.set_cons_succ]
  refine we_then ?_
  refine wc_seq ?_
  refine wc_region ?_
  refine wl_load 23 (.tmp 3) (own_row 6 rfl) rfl rfl rfl Try.underlying23 rfl (by kernel_rfl) ?_
  simp only [Act.put, List.setIfInBounds_toArray, List.set_cons_zero, List.set_cons_succ]
  refine wl_load 23 (.tmp 4) (own_row 5 rfl) rfl rfl rfl Try.underlying23 rfl (by kernel_rfl) ?_
  simp only [Act.put, List.setIfInBounds_toArray, List.set_cons_zero, List.set_cons_succ]
  refine wl_call 10 #[.agg #[.int .i64 a, .int .i64 b], .agg #[.int .i64 c, .int .i64 d]] (.tuple #[.agg #[.int .i64 p1, .int .i64 q1], .bool o1]) rfl (fun _ => by go_simp) c1 ?_
  simp only [Act.put, List.setIfInBounds_toArray, List.set_cons_zero, List.set_cons_succ]
  refine wl_val (.tuple #[.agg #[.int .i64 p1, .int .i64 q1], .bool o1]) rfl (fun _ => rfl) ?_
  simp only [Act.put, List.setIfInBounds_toArray, List.set_cons_zero, List.set_cons_succ]
  refine wl_val (.agg #[.int .i64 p1, .int .i64 q1]) rfl (fun _ => by go_simp) ?_
  simp only [Act.put, List.setIfInBounds_toArray, List.set_cons_zero, List.set_cons_succ]
  refine wl_val (.bool o1) rfl (fun _ => by go_simp) ?_
  simp only [Act.put, List.setIfInBounds_toArray, List.set_cons_zero, List.set_cons_succ]
  refine wl_new 23 (#[.int .i64 0, .int .i64 0]) rfl (fun _ => by go_simp) ?_
  intro g4
  simp only [Act.put, List.setIfInBounds_toArray, List.set_cons_zero, List.set_cons_succ]
  refine wl_store 0 23 (.tmp 12) (.tmp 41) (#[.int .i64 p1, .int .i64 q1]) rfl rfl rfl rfl rfl (by kernel_rfl) rfl (by simp [Value.oneCell']) ?_
  simp only [Act.put, List.set_cons_zero]
  refine wl_val (.bool o1) rfl (fun _ => rfl) ?_
  simp only [Act.put, List.setIfInBounds_toArray, List.set_cons_zero, List.set_cons_succ]
  refine wl_nil ?_
  refine we_then ?_
  refine wc_seq ?_
  refine wc_region ?_
  refine wl_load 23 (.tmp 3) (own_row 7 rfl) rfl rfl rfl Try.underlying23 rfl (by kernel_rfl) ?_
  simp only [Act.put, List.setIfInBounds_toArray, List.set_cons_zero, List.set_cons_succ]
  refine wl_load 23 (.tmp 4) (own_row 6 rfl) rfl rfl rfl Try.underlying23 rfl (by kernel_rfl) ?_
  simp only [Act.put, List.setIfInBounds_toArray, List.set_cons_zero, List.set_cons_succ]
  refine wl_call 11 #[.agg #[.int .i64 a, .int .i64 b], .agg #[.int .i64 c, .int .i64 d]] (.tuple #[.agg #[.int .i64 p2, .int .i64 q2], .bool o2]) rfl (fun _ => by go_simp) c2 ?_
  simp only [Act.put, List.setIfInBounds_toArray, List.set_cons_zero, List.set_cons_succ]
  refine wl_val (.tuple #[.agg #[.int .i64 p2, .int .i64 q2], .bool o2]) rfl (fun _ => rfl) ?_
  simp only [Act.put, List.setIfInBounds_toArray, List.set_cons_zero, List.set_cons_succ]
  refine wl_val (.agg #[.int .i64 p2, .int .i64 q2]) rfl (fun _ => by go_simp) ?_
  simp only [Act.put, List.setIfInBounds_toArray, List.set_cons_zero, List.set_cons_succ]
  refine wl_val (.bool o2) rfl (fun _ => by go_simp) ?_
  simp only [Act.put, List.setIfInBounds_toArray, List.set_cons_zero, List.set_cons_succ]
  refine wl_new 23 (#[.int .i64 0, .int .i64 0]) rfl (fun _ => by go_simp) ?_
  intro g5
  simp only [Act.put, List.setIfInBounds_toArray, List.set_cons_zero, List.set_cons_succ]
  refine wl_store 0 23 (.tmp 14) (.tmp 47) (#[.int .i64 p2, .int .i64 q2]) rfl rfl rfl rfl rfl (by kernel_rfl) rfl (by simp [Value.oneCell']) ?_
  simp only [Act.put, List.set_cons_zero]
  refine wl_val (.bool o2) rfl (fun _ => rfl) ?_
  simp only [Act.put, List.setIfInBounds_toArray, List.set_cons_zero, List.set_cons_succ]
  refine wl_nil ?_
  refine we_then ?_
  refine wc_seq ?_
  refine wc_region ?_
  refine wl_load 23 (.tmp 3) (own_row 8 rfl) rfl rfl rfl Try.underlying23 rfl (by kernel_rfl) ?_
  simp only [Act.put, List.setIfInBounds_toArray, List.set_cons_zero, List.set_cons_succ]
  refine wl_val (.int .i64 f) rfl (fun _ => rfl) ?_
  simp only [Act.put, List.setIfInBounds_toArray, List.set_cons_zero, List.set_cons_succ]
  refine wl_call 12 #[.agg #[.int .i64 a, .int .i64 b], .int .i64 f] (.tuple #[.agg #[.int .i64 p3, .int .i64 q3], .bool o3]) rfl (fun _ => by go_simp) c3 ?_
  simp only [Act.put, List.setIfInBounds_toArray, List.set_cons_zero, List.set_cons_succ]
  refine wl_val (.tuple #[.agg #[.int .i64 p3, .int .i64 q3], .bool o3]) rfl (fun _ => rfl) ?_
  simp only [Act.put, List.setIfInBounds_toArray, List.set_cons_zero, List.set_cons_succ]
  refine wl_val (.agg #[.int .i64 p3, .int .i64 q3]) rfl (fun _ => by go_simp) ?_
  simp only [Act.put, List.setIfInBounds_toArray, List.set_cons_zero, List.set_cons_succ]
  refine wl_val (.bool o3) rfl (fun _ => by go_simp) ?_
  simp only [Act.put, List.setIfInBounds_toArray, List.set_cons_zero, List.set_cons_succ]
  refine wl_new 23 (#[.int .i64 0, .int .i64 0]) rfl (fun _ => by go_simp) ?_
  intro g6
  simp only [Act.put, List.setIfInBounds_toArray, List.set_cons_zero, List.set_cons_succ]
  refine wl_store 0 23 (.tmp 16) (.tmp 53) (#[.int .i64 p3, .int .i64 q3]) rfl rfl rfl rfl rfl (by kernel_rfl) rfl (by simp [Value.oneCell']) ?_
  simp only [Act.put, List.set_cons_zero]
  refine wl_val (.bool o3) rfl (fun _ => rfl) ?_
  simp only [Act.put, List.setIfInBounds_toArray, List.set_cons_zero, List.set_cons_succ]
  refine wl_nil ?_
  refine we_then ?_
  refine wc_seq ?_
  refine wc_region ?_
  refine wl_val (.pointer (some ⟨g1, 0, none⟩)) rfl (fun _ => by go_simp) ?_
  simp only [Act.put, List.setIfInBounds_toArray, List.set_cons_zero, List.set_cons_succ]
  refine wl_cell 2 (.tmp 56) (.int .i64 a) (own_row 9 rfl) rfl rfl rfl rfl Try.isAgg2 ?_
  simp only [Act.put, List.setIfInBounds_toArray, List.set_cons_zero, List.set_cons_succ]
  refine wl_val (.int .i64 f) rfl (fun _ => rfl) ?_
  simp only [Act.put, List.setIfInBounds_toArray, List.set_cons_zero, List.set_cons_succ]
  refine wl_call 13 #[.int .i64 a, .int .i64 f] (.tuple #[.agg #[.int .i64 p4, .int .i64 q4], .bool o4]) rfl (fun _ => by go_simp) c4 ?_
  simp only [Act.put, List.setIfInBounds_toArray, List.set_cons_zero, List.set_cons_succ]
  refine wl_val (.tuple #[.agg #[.int .i64 p4, .int .i64 q4], .bool o4]) rfl (fun _ => rfl) ?_
  simp only [Act.put, List.setIfInBounds_toArray, List.set_cons_zero, List.set_cons_succ]
  refine wl_val (.agg #[.int .i64 p4, .int .i64 q4]) rfl (fun _ => by go_simp) ?_
  simp only [Act.put, List.setIfInBounds_toArray, List.set_cons_zero, List.set_cons_succ]
  refine wl_val (.bool o4) rfl (fun _ => by go_simp) ?_
  simp only [Act.put, List.setIfInBounds_toArray, List.set_cons_zero, List.set_cons_succ]
  refine wl_new 23 (#[.int .i64 0, .int .i64 0]) rfl (fun _ => by go_simp) ?_
  intro g7
  simp only [Act.put, List.setIfInBounds_toArray, List.set_cons_zero, List.set_cons_succ]
  refine wl_store 0 23 (.tmp 18) (.tmp 60) (#[.int .i64 p4, .int .i64 q4]) rfl rfl rfl rfl rfl (by kernel_rfl) rfl (by simp [Value.oneCell']) ?_
  simp only [Act.put, List.set_cons_zero]
  refine wl_val (.bool o4) rfl (fun _ => rfl) ?_
  simp only [Act.put, List.setIfInBounds_toArray, List.set_cons_zero, List.set_cons_succ]
  refine wl_nil ?_
  refine we_then ?_
  refine wc_seq ?_
  refine wc_region ?_
  refine wl_val (.pointer (some ⟨g1, 0, none⟩)) rfl (fun _ => by go_simp) ?_
  simp only [Act.put, List.setIfInBounds_toArray, List.set_cons_zero, List.set_cons_succ]
  refine wl_cell 2 (.tmp 62) (.int .i64 a) (own_row 10 rfl) rfl rfl rfl rfl Try.isAgg2 ?_
  simp only [Act.put, List.setIfInBounds_toArray, List.set_cons_zero, List.set_cons_succ]
  refine wl_val (.pointer (some ⟨g1, 1, none⟩)) rfl (fun _ => by go_simp) ?_
  simp only [Act.put, List.setIfInBounds_toArray, List.set_cons_zero, List.set_cons_succ]
  refine wl_cell 2 (.tmp 64) (.int .i64 b) (own_row 10 rfl) rfl rfl rfl rfl Try.isAgg2 ?_
  simp only [Act.put, List.setIfInBounds_toArray, List.set_cons_zero, List.set_cons_succ]
  refine wl_val (.bool (decide (a ≤ b))) rfl (fun w => run_cmp rfl rfl rfl Try.underlying2 rfl w) ?_
  simp only [Act.put, List.setIfInBounds_toArray, List.set_cons_zero, List.set_cons_succ]
  refine wl_val (.bool (decide (a ≤ b))) rfl (fun _ => rfl) ?_
  simp only [Act.put, List.setIfInBounds_toArray, List.set_cons_zero, List.set_cons_succ]
  cases h8 : (decide (a ≤ b))
  · skip
    have p8 : ¬ (a ≤ b) := of_decide_eq_false h8
    refine wl_skip rfl ?_
    simp only [Act.put, List.setIfInBounds_toArray, List.set_cons_zero, List.set_cons_succ]
    refine wl_skip rfl ?_
    simp only [Act.put, List.setIfInBounds_toArray, List.set_cons_zero, List.set_cons_succ]
    refine wl_skip rfl ?_
    simp only [Act.put, List.setIfInBounds_toArray, List.set_cons_zero, List.set_cons_succ]
    refine wl_skip rfl ?_
    simp only [Act.put, List.setIfInBounds_toArray, List.set_cons_zero, List.set_cons_succ]
    refine wl_skip rfl ?_
    simp only [Act.put, List.setIfInBounds_toArray, List.set_cons_zero, List.set_cons_succ]
    refine wl_val (.bool false) rfl (fun _ => rfl) ?_
    simp only [Act.put, List.setIfInBounds_toArray, List.set_cons_zero, List.set_cons_succ]
    refine wl_val (.bool false) rfl (fun _ => rfl) ?_
    simp only [Act.put, List.setIfInBounds_toArray, List.set_cons_zero, List.set_cons_succ]
    refine wl_nil ?_
    refine we_then ?_
    refine wc_seq ?_
    refine wc_draw [.plain, .late, .late, .plain, .plain, .plain, .plain, .plain, .plain, .plain, .late, .plain, .late, .late, .plain, .plain, .plain, .plain, .plain, .plain, .plain, .plain, .plain, .late, .late, .plain, .late, .late, .plain, .late, .plain, .late, .plain, .plain, .plain, .plain, .plain, .plain, .plain, .plain, .late, .late, .plain, .late, .plain, .plain, .plain, .plain, .plain, .plain, .plain, .plain, .late, .late] none [] 127 (by kernel_rfl) rfl (by kernel_rfl) (by kernel_rfl) ?_
    refine ws_load 23 (.tmp 12) (own_row 3 rfl) rfl rfl rfl rfl Try.underlying23 rfl (by kernel_rfl) ?_
    simp only [Nat.reduceAdd, Act.put, List.setIfInBounds_toArray, List.set_cons_zero, List.set_cons_succ]
    refine ws_late (.bool o1) rfl rfl (fun _ => rfl) ?_
    simp only [Nat.reduceAdd, Act.put, List.setIfInBounds_toArray, List.set_cons_zero, List.set_cons_succ]
    refine ws_late (.bool false) rfl rfl (fun _ => rfl) ?_
    simp only [Nat.reduceAdd, Act.put, List.setIfInBounds_toArray, List.set_cons_zero, List.set_cons_succ]
    refine ws_load 28 (.tmp 7) (own_row 4 rfl) rfl rfl rfl rfl Try.underlying28 rfl (by kernel_rfl) ?_
    simp only [Nat.reduceAdd, Act.put, List.setIfInBounds_toArray, List.set_cons_zero, List.set_cons_succ]
    refine ws_load 28 (.tmp 9) (own_row 6 rfl) rfl rfl rfl rfl Try.underlying28 rfl (by kernel_rfl) ?_
    simp only [Nat.reduceAdd, Act.put, List.setIfInBounds_toArray, List.set_cons_zero, List.set_cons_succ]
    refine ws_call 15 #[.agg na.cs, .agg nc.cs] (.agg s1.cs) rfl rfl (fun _ => by go_simp) cS0 ?_
    simp only [Nat.reduceAdd, Act.put, List.setIfInBounds_toArray, List.set_cons_zero, List.set_cons_succ]
    refine ws_load 28 (.tmp 8) (own_row 5 rfl) rfl rfl rfl rfl Try.underlying28 rfl (by kernel_rfl) ?_
    simp only [Nat.reduceAdd, Act.put, List.setIfInBounds_toArray, List.set_cons_zero, List.set_cons_succ]
    refine ws_load 28 (.tmp 10) (own_row 7 rfl) rfl rfl rfl rfl Try.underlying28 rfl (by kernel_rfl) ?_
    simp only [Nat.reduceAdd, Act.put, List.setIfInBounds_toArray, List.set_cons_zero, List.set_cons_succ]
    refine ws_call 15 #[.agg nb.cs, .agg nd.cs] (.agg s2.cs) rfl rfl (fun _ => by go_simp) cS1 ?_
    simp only [Nat.reduceAdd, Act.put, List.setIfInBounds_toArray, List.set_cons_zero, List.set_cons_succ]
    refine ws_call 14 #[.agg #[.int .i64 p1, .int .i64 q1], .bool o1, .bool false, .agg s1.cs, .agg s2.cs] (.bool true) rfl rfl (fun _ => by go_simp) (i1 false (by simp [*])) ?_
    simp only [Nat.reduceAdd, Act.put, List.setIfInBounds_toArray, List.set_cons_zero, List.set_cons_succ]
    refine ws_late (.bool true) rfl rfl (fun _ => rfl) ?_
    simp only [Nat.reduceAdd, Act.put, List.setIfInBounds_toArray, List.set_cons_zero, List.set_cons_succ]
    refine ws_load 23 (.tmp 14) (own_row 2 rfl) rfl rfl rfl rfl Try.underlying23 rfl (by kernel_rfl) ?_
    simp only [Nat.reduceAdd, Act.put, List.setIfInBounds_toArray, List.set_cons_zero, List.set_cons_succ]
    refine ws_late (.bool o2) rfl rfl (fun _ => rfl) ?_
    simp only [Nat.reduceAdd, Act.put, List.setIfInBounds_toArray, List.set_cons_zero, List.set_cons_succ]
    refine ws_late (.bool false) rfl rfl (fun _ => rfl) ?_
    simp only [Nat.reduceAdd, Act.put, List.setIfInBounds_toArray, List.set_cons_zero, List.set_cons_succ]
    refine ws_load 28 (.tmp 7) (own_row 4 rfl) rfl rfl rfl rfl Try.underlying28 rfl (by kernel_rfl) ?_
    simp only [Nat.reduceAdd, Act.put, List.setIfInBounds_toArray, List.set_cons_zero, List.set_cons_succ]
    refine ws_load 28 (.tmp 10) (own_row 7 rfl) rfl rfl rfl rfl Try.underlying28 rfl (by kernel_rfl) ?_
    simp only [Nat.reduceAdd, Act.put, List.setIfInBounds_toArray, List.set_cons_zero, List.set_cons_succ]
    refine ws_call 16 #[.agg nd.cs] (.agg md.cs) rfl rfl (fun _ => by go_simp) cMd ?_
    simp only [Nat.reduceAdd, Act.put, List.setIfInBounds_toArray, List.set_cons_zero, List.set_cons_succ]
    refine ws_call 15 #[.agg na.cs, .agg md.cs] (.agg s3.cs) rfl rfl (fun _ => by go_simp) cS2 ?_
    simp only [Nat.reduceAdd, Act.put, List.setIfInBounds_toArray, List.set_cons_zero, List.set_cons_succ]
    refine ws_load 28 (.tmp 8) (own_row 5 rfl) rfl rfl rfl rfl Try.underlying28 rfl (by kernel_rfl) ?_
    simp only [Nat.reduceAdd, Act.put, List.setIfInBounds_toArray, List.set_cons_zero, List.set_cons_succ]
    refine ws_load 28 (.tmp 9) (own_row 6 rfl) rfl rfl rfl rfl Try.underlying28 rfl (by kernel_rfl) ?_
    simp only [Nat.reduceAdd, Act.put, List.setIfInBounds_toArray, List.set_cons_zero, List.set_cons_succ]
    refine ws_call 16 #[.agg nc.cs] (.agg mc.cs) rfl rfl (fun _ => by go_simp) cMc ?_
    simp only [Nat.reduceAdd, Act.put, List.setIfInBounds_toArray, List.set_cons_zero, List.set_cons_succ]
    refine ws_call 15 #[.agg nb.cs, .agg mc.cs] (.agg s4.cs) rfl rfl (fun _ => by go_simp) cS3 ?_
    simp only [Nat.reduceAdd, Act.put, List.setIfInBounds_toArray, List.set_cons_zero, List.set_cons_succ]
    refine ws_call 14 #[.agg #[.int .i64 p2, .int .i64 q2], .bool o2, .bool false, .agg s3.cs, .agg s4.cs] (.bool true) rfl rfl (fun _ => by go_simp) (i2 false (by simp [*])) ?_
    simp only [Nat.reduceAdd, Act.put, List.setIfInBounds_toArray, List.set_cons_zero, List.set_cons_succ]
    refine ws_late (.bool true) rfl rfl (fun _ => rfl) ?_
    simp only [Nat.reduceAdd, Act.put, List.setIfInBounds_toArray, List.set_cons_zero, List.set_cons_succ]
    refine ws_late (.bool true) rfl rfl (fun _ => rfl) ?_
    simp only [Nat.reduceAdd, Act.put, List.setIfInBounds_toArray, List.set_cons_zero, List.set_cons_succ]
    refine ws_load 23 (.tmp 16) (own_row 1 rfl) rfl rfl rfl rfl Try.underlying23 rfl (by kernel_rfl) ?_
    simp only [Nat.reduceAdd, Act.put, List.setIfInBounds_toArray, List.set_cons_zero, List.set_cons_succ]
    refine ws_late (.bool o3) rfl rfl (fun _ => rfl) ?_
    simp only [Nat.reduceAdd, Act.put, List.setIfInBounds_toArray, List.set_cons_zero, List.set_cons_succ]
    refine ws_late (.pointer (some ⟨g1, 0, none⟩)) rfl rfl (fun _ => by go_simp) ?_
    simp only [Nat.reduceAdd, Act.put, List.setIfInBounds_toArray, List.set_cons_zero, List.set_cons_succ]
    refine ws_cell 2 (.tmp 101) (.int .i64 a) (own_row 10 rfl) rfl rfl rfl rfl rfl Try.isAgg2 ?_
    simp only [Nat.reduceAdd, Act.put, List.setIfInBounds_toArray, List.set_cons_zero, List.set_cons_succ]
    refine ws_late (.pointer (some ⟨g1, 1, none⟩)) rfl rfl (fun _ => by go_simp) ?_
    simp only [Nat.reduceAdd, Act.put, List.setIfInBounds_toArray, List.set_cons_zero, List.set_cons_succ]
    refine ws_cell 2 (.tmp 103) (.int .i64 b) (own_row 10 rfl) rfl rfl rfl rfl rfl Try.isAgg2 ?_
    simp only [Nat.reduceAdd, Act.put, List.setIfInBounds_toArray, List.set_cons_zero, List.set_cons_succ]
    refine ws_late (.bool (decide (a ≤ b))) rfl rfl (fun w => run_cmp rfl rfl rfl Try.underlying2 rfl w) ?_
    simp only [Nat.reduceAdd, Act.put, List.setIfInBounds_toArray, List.set_cons_zero, List.set_cons_succ]
    refine ws_load 28 (.tmp 7) (own_row 4 rfl) rfl rfl rfl rfl Try.underlying28 rfl (by kernel_rfl) ?_
    simp only [Nat.reduceAdd, Act.put, List.setIfInBounds_toArray, List.set_cons_zero, List.set_cons_succ]
    refine ws_load 28 (.tmp 11) (own_row 8 rfl) rfl rfl rfl rfl Try.underlying28 rfl (by kernel_rfl) ?_
    simp only [Nat.reduceAdd, Act.put, List.setIfInBounds_toArray, List.set_cons_zero, List.set_cons_succ]
    refine ws_call 16 #[.agg nf.cs] (.agg mf.cs) rfl rfl (fun _ => by go_simp) cMf ?_
    simp only [Nat.reduceAdd, Act.put, List.setIfInBounds_toArray, List.set_cons_zero, List.set_cons_succ]
    refine ws_call 15 #[.agg na.cs, .agg mf.cs] (.agg s5.cs) rfl rfl (fun _ => by go_simp) cS4 ?_
    simp only [Nat.reduceAdd, Act.put, List.setIfInBounds_toArray, List.set_cons_zero, List.set_cons_succ]
    refine ws_load 28 (.tmp 8) (own_row 5 rfl) rfl rfl rfl rfl Try.underlying28 rfl (by kernel_rfl) ?_
    simp only [Nat.reduceAdd, Act.put, List.setIfInBounds_toArray, List.set_cons_zero, List.set_cons_succ]
    refine ws_load 28 (.tmp 11) (own_row 8 rfl) rfl rfl rfl rfl Try.underlying28 rfl (by kernel_rfl) ?_
    simp only [Nat.reduceAdd, Act.put, List.setIfInBounds_toArray, List.set_cons_zero, List.set_cons_succ]
    refine ws_call 15 #[.agg nb.cs, .agg nf.cs] (.agg s6.cs) rfl rfl (fun _ => by go_simp) cS5 ?_
    simp only [Nat.reduceAdd, Act.put, List.setIfInBounds_toArray, List.set_cons_zero, List.set_cons_succ]
    refine ws_call 14 #[.agg #[.int .i64 p3, .int .i64 q3], .bool o3, .bool (decide (a ≤ b)), .agg s5.cs, .agg s6.cs] (.bool true) rfl rfl (fun _ => by go_simp) (i3 (decide (a ≤ b)) (by simp [*])) ?_
    simp only [Nat.reduceAdd, Act.put, List.setIfInBounds_toArray, List.set_cons_zero, List.set_cons_succ]
    refine ws_late (.bool true) rfl rfl (fun _ => rfl) ?_
    simp only [Nat.reduceAdd, Act.put, List.setIfInBounds_toArray, List.set_cons_zero, List.set_cons_succ]
    refine ws_late (.bool true) rfl rfl (fun _ => rfl) ?_
    simp only [Nat.reduceAdd, Act.put, List.setIfInBounds_toArray, List.set_cons_zero, List.set_cons_succ]
    refine ws_load 23 (.tmp 18) (own_row 0 rfl) rfl rfl rfl rfl Try.underlying23 rfl (by kernel_rfl) ?_
    simp only [Nat.reduceAdd, Act.put, List.setIfInBounds_toArray, List.set_cons_zero, List.set_cons_succ]
    refine ws_late (.bool o4) rfl rfl (fun _ => rfl) ?_
    simp only [Nat.reduceAdd, Act.put, List.setIfInBounds_toArray, List.set_cons_zero, List.set_cons_succ]
    refine ws_load 28 (.tmp 7) (own_row 4 rfl) rfl rfl rfl rfl Try.underlying28 rfl (by kernel_rfl) ?_
    simp only [Nat.reduceAdd, Act.put, List.setIfInBounds_toArray, List.set_cons_zero, List.set_cons_succ]
    refine ws_load 28 (.tmp 11) (own_row 8 rfl) rfl rfl rfl rfl Try.underlying28 rfl (by kernel_rfl) ?_
    simp only [Nat.reduceAdd, Act.put, List.setIfInBounds_toArray, List.set_cons_zero, List.set_cons_succ]
    refine ws_call 16 #[.agg nf.cs] (.agg mf.cs) rfl rfl (fun _ => by go_simp) cMf ?_
    simp only [Nat.reduceAdd, Act.put, List.setIfInBounds_toArray, List.set_cons_zero, List.set_cons_succ]
    refine ws_call 15 #[.agg na.cs, .agg mf.cs] (.agg s5.cs) rfl rfl (fun _ => by go_simp) cS4 ?_
    simp only [Nat.reduceAdd, Act.put, List.setIfInBounds_toArray, List.set_cons_zero, List.set_cons_succ]
    refine ws_load 28 (.tmp 7) (own_row 4 rfl) rfl rfl rfl rfl Try.underlying28 rfl (by kernel_rfl) ?_
    simp only [Nat.reduceAdd, Act.put, List.setIfInBounds_toArray, List.set_cons_zero, List.set_cons_succ]
    refine ws_load 28 (.tmp 11) (own_row 8 rfl) rfl rfl rfl rfl Try.underlying28 rfl (by kernel_rfl) ?_
    simp only [Nat.reduceAdd, Act.put, List.setIfInBounds_toArray, List.set_cons_zero, List.set_cons_succ]
    refine ws_call 15 #[.agg na.cs, .agg nf.cs] (.agg s7.cs) rfl rfl (fun _ => by go_simp) cS6 ?_
    simp only [Nat.reduceAdd, Act.put, List.setIfInBounds_toArray, List.set_cons_zero, List.set_cons_succ]
    refine ws_call 14 #[.agg #[.int .i64 p4, .int .i64 q4], .bool o4, .bool true, .agg s5.cs, .agg s7.cs] (.bool true) rfl rfl (fun _ => by go_simp) i4 ?_
    simp only [Nat.reduceAdd, Act.put, List.setIfInBounds_toArray, List.set_cons_zero, List.set_cons_succ]
    refine ws_late (.bool true) rfl rfl (fun _ => rfl) ?_
    simp only [Nat.reduceAdd, Act.put, List.setIfInBounds_toArray, List.set_cons_zero, List.set_cons_succ]
    refine ws_late (.bool true) rfl rfl (fun _ => rfl) ?_
    simp only [Nat.reduceAdd, Act.put, List.setIfInBounds_toArray, List.set_cons_zero, List.set_cons_succ]
    refine ws_nil [] trivial (by simp) ?_
    intro ps9
    simp only [fin, List.foldl_nil, List.map, List.nil_append]
    refine we_then ?_
    refine wc_ret ?_
    refine we_ret1 (.bool true) rfl rfl rfl (fun w1 hE => ?_)
    exact ⟨rfl, hE.below⟩
  · skip
    have p8 : a ≤ b := of_decide_eq_true h8
    refine wl_val (.pointer (some ⟨g2, 0, none⟩)) rfl (fun _ => by go_simp) ?_
    simp only [Act.put, List.setIfInBounds_toArray, List.set_cons_zero, List.set_cons_succ]
    refine wl_cell 2 (.tmp 68) (.int .i64 c) (own_row 9 rfl) rfl rfl rfl rfl Try.isAgg2 ?_
    simp only [Act.put, List.setIfInBounds_toArray, List.set_cons_zero, List.set_cons_succ]
    refine wl_val (.pointer (some ⟨g2, 1, none⟩)) rfl (fun _ => by go_simp) ?_
    simp only [Act.put, List.setIfInBounds_toArray, List.set_cons_zero, List.set_cons_succ]
    refine wl_cell 2 (.tmp 70) (.int .i64 d) (own_row 9 rfl) rfl rfl rfl rfl Try.isAgg2 ?_
    simp only [Act.put, List.setIfInBounds_toArray, List.set_cons_zero, List.set_cons_succ]
    refine wl_val (.bool (decide (c ≤ d))) rfl (fun w => run_cmp rfl rfl rfl Try.underlying2 rfl w) ?_
    simp only [Act.put, List.setIfInBounds_toArray, List.set_cons_zero, List.set_cons_succ]
    refine wl_val (.bool (decide (c ≤ d))) rfl (fun _ => rfl) ?_
    simp only [Act.put, List.setIfInBounds_toArray, List.set_cons_zero, List.set_cons_succ]
    refine wl_val (.bool (decide (c ≤ d))) rfl (fun _ => rfl) ?_
    simp only [Act.put, List.setIfInBounds_toArray, List.set_cons_zero, List.set_cons_succ]
    refine wl_nil ?_
    refine we_then ?_
    refine wc_seq ?_
    refine wc_draw [.plain, .late, .late, .plain, .plain, .plain, .plain, .plain, .plain, .plain, .late, .plain, .late, .late, .plain, .plain, .plain, .plain, .plain, .plain, .plain, .plain, .plain, .late, .late, .plain, .late, .late, .plain, .late, .plain, .late, .plain, .plain, .plain, .plain, .plain, .plain, .plain, .plain, .late, .late, .plain, .late, .plain, .plain, .plain, .plain, .plain, .plain, .plain, .plain, .late, .late] none [] 127 (by kernel_rfl) rfl (by kernel_rfl) (by kernel_rfl) ?_
    refine ws_load 23 (.tmp 12) (own_row 3 rfl) rfl rfl rfl rfl Try.underlying23 rfl (by kernel_rfl) ?_
    simp only [Nat.reduceAdd, Act.put, List.setIfInBounds_toArray, List.set_cons_zero, List.set_cons_succ]
    refine ws_late (.bool o1) rfl rfl (fun _ => rfl) ?_
    simp only [Nat.reduceAdd, Act.put, List.setIfInBounds_toArray, List.set_cons_zero, List.set_cons_succ]
    refine ws_late (.bool (decide (c ≤ d))) rfl rfl (fun _ => rfl) ?_
    simp only [Nat.reduceAdd, Act.put, List.setIfInBounds_toArray, List.set_cons_zero, List.set_cons_succ]
    refine ws_load 28 (.tmp 7) (own_row 4 rfl) rfl rfl rfl rfl Try.underlying28 rfl (by kernel_rfl) ?_
    simp only [Nat.reduceAdd, Act.put, List.setIfInBounds_toArray, List.set_cons_zero, List.set_cons_succ]
    refine ws_load 28 (.tmp 9) (own_row 6 rfl) rfl rfl rfl rfl Try.underlying28 rfl (by kernel_rfl) ?_
    simp only [Nat.reduceAdd, Act.put, List.setIfInBounds_toArray, List.set_cons_zero, List.set_cons_succ]
    refine ws_call 15 #[.agg na.cs, .agg nc.cs] (.agg s1.cs) rfl rfl (fun _ => by go_simp) cS0 ?_
    simp only [Nat.reduceAdd, Act.put, List.setIfInBounds_toArray, List.set_cons_zero, List.set_cons_succ]
    refine ws_load 28 (.tmp 8) (own_row 5 rfl) rfl rfl rfl rfl Try.underlying28 rfl (by kernel_rfl) ?_
    simp only [Nat.reduceAdd, Act.put, List.setIfInBounds_toArray, List.set_cons_zero, List.set_cons_succ]
    refine ws_load 28 (.tmp 10) (own_row 7 rfl) rfl rfl rfl rfl Try.underlying28 rfl (by kernel_rfl) ?_
    simp only [Nat.reduceAdd, Act.put, List.setIfInBounds_toArray, List.set_cons_zero, List.set_cons_succ]
    refine ws_call 15 #[.agg nb.cs, .agg nd.cs] (.agg s2.cs) rfl rfl (fun _ => by go_simp) cS1 ?_
    simp only [Nat.reduceAdd, Act.put, List.setIfInBounds_toArray, List.set_cons_zero, List.set_cons_succ]
    refine ws_call 14 #[.agg #[.int .i64 p1, .int .i64 q1], .bool o1, .bool (decide (c ≤ d)), .agg s1.cs, .agg s2.cs] (.bool true) rfl rfl (fun _ => by go_simp) (i1 (decide (c ≤ d)) (by simp [*])) ?_
    simp only [Nat.reduceAdd, Act.put, List.setIfInBounds_toArray, List.set_cons_zero, List.set_cons_succ]
    refine ws_late (.bool true) rfl rfl (fun _ => rfl) ?_
    simp only [Nat.reduceAdd, Act.put, List.setIfInBounds_toArray, List.set_cons_zero, List.set_cons_succ]
    refine ws_load 23 (.tmp 14) (own_row 2 rfl) rfl rfl rfl rfl Try.underlying23 rfl (by kernel_rfl) ?_
    simp only [Nat.reduceAdd, Act.put, List.setIfInBounds_toArray, List.set_cons_zero, List.set_cons_succ]
    refine ws_late (.bool o2) rfl rfl (fun _ => rfl) ?_
    simp only [Nat.reduceAdd, Act.put, List.setIfInBounds_toArray, List.set_cons_zero, List.set_cons_succ]
    refine ws_late (.bool (decide (c ≤ d))) rfl rfl (fun _ => rfl) ?_
    simp only [Nat.reduceAdd, Act.put, List.setIfInBounds_toArray, List.set_cons_zero, List.set_cons_succ]
    refine ws_load 28 (.tmp 7) (own_row 4 rfl) rfl rfl rfl rfl Try.underlying28 rfl (by kernel_rfl) ?_
    simp only [Nat.reduceAdd, Act.put, List.setIfInBounds_toArray, List.set_cons_zero, List.set_cons_succ]
    refine ws_load 28 (.tmp 10) (own_row 7 rfl) rfl rfl rfl rfl Try.underlying28 rfl (by kernel_rfl) ?_
    simp only [Nat.reduceAdd, Act.put, List.setIfInBounds_toArray, List.set_cons_zero, List.set_cons_succ]
    refine ws_call 16 #[.agg nd.cs] (.agg md.cs) rfl rfl (fun _ => by go_simp) cMd ?_
    simp only [Nat.reduceAdd, Act.put, List.setIfInBounds_toArray, List.set_cons_zero, List.set_cons_succ]
    refine ws_call 15 #[.agg na.cs, .agg md.cs] (.agg s3.cs) rfl rfl (fun _ => by go_simp) cS2 ?_
    simp only [Nat.reduceAdd, Act.put, List.setIfInBounds_toArray, List.set_cons_zero, List.set_cons_succ]
    refine ws_load 28 (.tmp 8) (own_row 5 rfl) rfl rfl rfl rfl Try.underlying28 rfl (by kernel_rfl) ?_
    simp only [Nat.reduceAdd, Act.put, List.setIfInBounds_toArray, List.set_cons_zero, List.set_cons_succ]
    refine ws_load 28 (.tmp 9) (own_row 6 rfl) rfl rfl rfl rfl Try.underlying28 rfl (by kernel_rfl) ?_
    simp only [Nat.reduceAdd, Act.put, List.setIfInBounds_toArray, List.set_cons_zero, List.set_cons_succ]
    refine ws_call 16 #[.agg nc.cs] (.agg mc.cs) rfl rfl (fun _ => by go_simp) cMc ?_
    simp only [Nat.reduceAdd, Act.put, List.setIfInBounds_toArray, List.set_cons_zero, List.set_cons_succ]
    refine ws_call 15 #[.agg nb.cs, .agg mc.cs] (.agg s4.cs) rfl rfl (fun _ => by go_simp) cS3 ?_
    simp only [Nat.reduceAdd, Act.put, List.setIfInBounds_toArray, List.set_cons_zero, List.set_cons_succ]
    refine ws_call 14 #[.agg #[.int .i64 p2, .int .i64 q2], .bool o2, .bool (decide (c ≤ d)), .agg s3.cs, .agg s4.cs] (.bool true) rfl rfl (fun _ => by go_simp) (i2 (decide (c ≤ d)) (by simp [*])) ?_
    simp only [Nat.reduceAdd, Act.put, List.setIfInBounds_toArray, List.set_cons_zero, List.set_cons_succ]
    refine ws_late (.bool true) rfl rfl (fun _ => rfl) ?_
    simp only [Nat.reduceAdd, Act.put, List.setIfInBounds_toArray, List.set_cons_zero, List.set_cons_succ]
    refine ws_late (.bool true) rfl rfl (fun _ => rfl) ?_
    simp only [Nat.reduceAdd, Act.put, List.setIfInBounds_toArray, List.set_cons_zero, List.set_cons_succ]
    refine ws_load 23 (.tmp 16) (own_row 1 rfl) rfl rfl rfl rfl Try.underlying23 rfl (by kernel_rfl) ?_
    simp only [Nat.reduceAdd, Act.put, List.setIfInBounds_toArray, List.set_cons_zero, List.set_cons_succ]
    refine ws_late (.bool o3) rfl rfl (fun _ => rfl) ?_
    simp only [Nat.reduceAdd, Act.put, List.setIfInBounds_toArray, List.set_cons_zero, List.set_cons_succ]
    refine ws_late (.pointer (some ⟨g1, 0, none⟩)) rfl rfl (fun _ => by go_simp) ?_
    simp only [Nat.reduceAdd, Act.put, List.setIfInBounds_toArray, List.set_cons_zero, List.set_cons_succ]
    refine ws_cell 2 (.tmp 101) (.int .i64 a) (own_row 10 rfl) rfl rfl rfl rfl rfl Try.isAgg2 ?_
    simp only [Nat.reduceAdd, Act.put, List.setIfInBounds_toArray, List.set_cons_zero, List.set_cons_succ]
    refine ws_late (.pointer (some ⟨g1, 1, none⟩)) rfl rfl (fun _ => by go_simp) ?_
    simp only [Nat.reduceAdd, Act.put, List.setIfInBounds_toArray, List.set_cons_zero, List.set_cons_succ]
    refine ws_cell 2 (.tmp 103) (.int .i64 b) (own_row 10 rfl) rfl rfl rfl rfl rfl Try.isAgg2 ?_
    simp only [Nat.reduceAdd, Act.put, List.setIfInBounds_toArray, List.set_cons_zero, List.set_cons_succ]
    refine ws_late (.bool (decide (a ≤ b))) rfl rfl (fun w => run_cmp rfl rfl rfl Try.underlying2 rfl w) ?_
    simp only [Nat.reduceAdd, Act.put, List.setIfInBounds_toArray, List.set_cons_zero, List.set_cons_succ]
    refine ws_load 28 (.tmp 7) (own_row 4 rfl) rfl rfl rfl rfl Try.underlying28 rfl (by kernel_rfl) ?_
    simp only [Nat.reduceAdd, Act.put, List.setIfInBounds_toArray, List.set_cons_zero, List.set_cons_succ]
    refine ws_load 28 (.tmp 11) (own_row 8 rfl) rfl rfl rfl rfl Try.underlying28 rfl (by kernel_rfl) ?_
    simp only [Nat.reduceAdd, Act.put, List.setIfInBounds_toArray, List.set_cons_zero, List.set_cons_succ]
    refine ws_call 16 #[.agg nf.cs] (.agg mf.cs) rfl rfl (fun _ => by go_simp) cMf ?_
    simp only [Nat.reduceAdd, Act.put, List.setIfInBounds_toArray, List.set_cons_zero, List.set_cons_succ]
    refine ws_call 15 #[.agg na.cs, .agg mf.cs] (.agg s5.cs) rfl rfl (fun _ => by go_simp) cS4 ?_
    simp only [Nat.reduceAdd, Act.put, List.setIfInBounds_toArray, List.set_cons_zero, List.set_cons_succ]
    refine ws_load 28 (.tmp 8) (own_row 5 rfl) rfl rfl rfl rfl Try.underlying28 rfl (by kernel_rfl) ?_
    simp only [Nat.reduceAdd, Act.put, List.setIfInBounds_toArray, List.set_cons_zero, List.set_cons_succ]
    refine ws_load 28 (.tmp 11) (own_row 8 rfl) rfl rfl rfl rfl Try.underlying28 rfl (by kernel_rfl) ?_
    simp only [Nat.reduceAdd, Act.put, List.setIfInBounds_toArray, List.set_cons_zero, List.set_cons_succ]
    refine ws_call 15 #[.agg nb.cs, .agg nf.cs] (.agg s6.cs) rfl rfl (fun _ => by go_simp) cS5 ?_
    simp only [Nat.reduceAdd, Act.put, List.setIfInBounds_toArray, List.set_cons_zero, List.set_cons_succ]
    refine ws_call 14 #[.agg #[.int .i64 p3, .int .i64 q3], .bool o3, .bool (decide (a ≤ b)), .agg s5.cs, .agg s6.cs] (.bool true) rfl rfl (fun _ => by go_simp) (i3 (decide (a ≤ b)) (by simp [*])) ?_
    simp only [Nat.reduceAdd, Act.put, List.setIfInBounds_toArray, List.set_cons_zero, List.set_cons_succ]
    refine ws_late (.bool true) rfl rfl (fun _ => rfl) ?_
    simp only [Nat.reduceAdd, Act.put, List.setIfInBounds_toArray, List.set_cons_zero, List.set_cons_succ]
    refine ws_late (.bool true) rfl rfl (fun _ => rfl) ?_
    simp only [Nat.reduceAdd, Act.put, List.setIfInBounds_toArray, List.set_cons_zero, List.set_cons_succ]
    refine ws_load 23 (.tmp 18) (own_row 0 rfl) rfl rfl rfl rfl Try.underlying23 rfl (by kernel_rfl) ?_
    simp only [Nat.reduceAdd, Act.put, List.setIfInBounds_toArray, List.set_cons_zero, List.set_cons_succ]
    refine ws_late (.bool o4) rfl rfl (fun _ => rfl) ?_
    simp only [Nat.reduceAdd, Act.put, List.setIfInBounds_toArray, List.set_cons_zero, List.set_cons_succ]
    refine ws_load 28 (.tmp 7) (own_row 4 rfl) rfl rfl rfl rfl Try.underlying28 rfl (by kernel_rfl) ?_
    simp only [Nat.reduceAdd, Act.put, List.setIfInBounds_toArray, List.set_cons_zero, List.set_cons_succ]
    refine ws_load 28 (.tmp 11) (own_row 8 rfl) rfl rfl rfl rfl Try.underlying28 rfl (by kernel_rfl) ?_
    simp only [Nat.reduceAdd, Act.put, List.setIfInBounds_toArray, List.set_cons_zero, List.set_cons_succ]
    refine ws_call 16 #[.agg nf.cs] (.agg mf.cs) rfl rfl (fun _ => by go_simp) cMf ?_
    simp only [Nat.reduceAdd, Act.put, List.setIfInBounds_toArray, List.set_cons_zero, List.set_cons_succ]
    refine ws_call 15 #[.agg na.cs, .agg mf.cs] (.agg s5.cs) rfl rfl (fun _ => by go_simp) cS4 ?_
    simp only [Nat.reduceAdd, Act.put, List.setIfInBounds_toArray, List.set_cons_zero, List.set_cons_succ]
    refine ws_load 28 (.tmp 7) (own_row 4 rfl) rfl rfl rfl rfl Try.underlying28 rfl (by kernel_rfl) ?_
    simp only [Nat.reduceAdd, Act.put, List.setIfInBounds_toArray, List.set_cons_zero, List.set_cons_succ]
    refine ws_load 28 (.tmp 11) (own_row 8 rfl) rfl rfl rfl rfl Try.underlying28 rfl (by kernel_rfl) ?_
    simp only [Nat.reduceAdd, Act.put, List.setIfInBounds_toArray, List.set_cons_zero, List.set_cons_succ]
    refine ws_call 15 #[.agg na.cs, .agg nf.cs] (.agg s7.cs) rfl rfl (fun _ => by go_simp) cS6 ?_
    simp only [Nat.reduceAdd, Act.put, List.setIfInBounds_toArray, List.set_cons_zero, List.set_cons_succ]
    refine ws_call 14 #[.agg #[.int .i64 p4, .int .i64 q4], .bool o4, .bool true, .agg s5.cs, .agg s7.cs] (.bool true) rfl rfl (fun _ => by go_simp) i4 ?_
    simp only [Nat.reduceAdd, Act.put, List.setIfInBounds_toArray, List.set_cons_zero, List.set_cons_succ]
    refine ws_late (.bool true) rfl rfl (fun _ => rfl) ?_
    simp only [Nat.reduceAdd, Act.put, List.setIfInBounds_toArray, List.set_cons_zero, List.set_cons_succ]
    refine ws_late (.bool true) rfl rfl (fun _ => rfl) ?_
    simp only [Nat.reduceAdd, Act.put, List.setIfInBounds_toArray, List.set_cons_zero, List.set_cons_succ]
    refine ws_nil [] trivial (by simp) ?_
    intro ps10
    simp only [fin, List.foldl_nil, List.map, List.nil_append]
    refine we_then ?_
    refine wc_ret ?_
    refine we_ret1 (.bool true) rfl rfl rfl (fun w1 hE => ?_)
    exact ⟨rfl, hE.below⟩
theorem spanSums_walk (a : Int) (wa : (Lit.int .i64 a).wf = true) (b : Int) (wb : (Lit.int .i64 b).wf = true) (c : Int) (wc : (Lit.int .i64 c).wf = true) (d : Int) (wd : (Lit.int .i64 d).wf = true) (f : Int) (wf : (Lit.int .i64 f).wf = true) (w : World) :
    Calls Try.prog 3 #[.agg #[.int .i64 a, .int .i64 b], .agg #[.int .i64 c, .int .i64 d], .int .i64 f] w fun e w' => e = .returned (.bool true) ∧ Below w.heap.size w w' := by
  have ha := fits_of_wf wa
  have hb := fits_of_wf wb
  have hc := fits_of_wf wc
  have hd := fits_of_wf wd
  have hf := fits_of_wf wf
  have ka := nof_ok a
  have kb := nof_ok b
  have kc := nof_ok c
  have kd := nof_ok d
  have kf := nof_ok f
  have jd := nneg_ok kd
  have jc := nneg_ok kc
  have jf := nneg_ok kf
  have z : ∀ {x y : Nm} {u v : Int}, x.ok → y.ok → x.z = u → y.z = v → (nadd x y).z = u + v := fun h k e f => by rw [nadd_z h k, e, f]
  have nz : ∀ u, (nneg (nof u)).z = -u := fun u => by rw [nneg_z, nof_z]
  exact spanSums_core a b c d f _ _ _ _ _ _ _ _ _ _ _ _ _ _ _ _ _ _ _ _ _ _ _ _ _ _ _
    (fun W => of_nm a W ha) (fun W => of_nm b W hb) (fun W => of_nm c W hc) (fun W => of_nm d W hd) (fun W => of_nm f W hf)
    (fun W => add_any a b c d W ha hb hc hd) (fun W => sub_any a b c d W ha hb hc hd) (fun W => grow_any a b f W ha hb hf) (fun W => around_any a f W ha hf)
    (fun W => minor_nm _ W kd) (fun W => minor_nm _ W kc) (fun W => minor_nm _ W kf)
    (fun W => sum_nm _ _ W ka kc (nof_half ha) (nof_half hc)) (fun W => sum_nm _ _ W kb kd (nof_half hb) (nof_half hd)) (fun W => sum_nm _ _ W ka jd (nof_half ha) (nof_half hd)) (fun W => sum_nm _ _ W kb jc (nof_half hb) (nof_half hc))
    (fun W => sum_nm _ _ W ka jf (nof_half ha) (nof_half hf)) (fun W => sum_nm _ _ W kb kf (nof_half hb) (nof_half hf)) (fun W => sum_nm _ _ W ka kf (nof_half ha) (nof_half hf))
    (fun r h W => by subst h; exact is_told _ _ _ _ _ W (nadd_ok ka kc) (nadd_ok kb kd) (z ka kc (nof_z a) (nof_z c)) (z kb kd (nof_z b) (nof_z d)))
    (fun r h W => by subst h; exact is_told _ _ _ _ _ W (nadd_ok ka jd) (nadd_ok kb jc) (z ka jd (nof_z a) (nz d)) (z kb jc (nof_z b) (nz c)))
    (fun r h W => by subst h; exact is_told _ _ _ _ _ W (nadd_ok ka jf) (nadd_ok kb kf) (z ka jf (nof_z a) (nz f)) (z kb kf (nof_z b) (nof_z f)))
    (fun W => is_told _ _ true _ _ W (nadd_ok ka jf) (nadd_ok ka kf) (z ka jf (nof_z a) (nz f)) (z ka kf (nof_z a) (nof_z f))) w
end Go.Proofs.Ytmbmjdlcpjmnoaa.Walks
