/-
  VoteSafe: the law's walk. No condition.
-/
import Derived.Test.YtppfkjbafbajgaaVlaw
namespace Go.Proofs.Ytppfkjbafbajgaa.Walks
open Go.ChangeShapes Go.WideShapes Go.ChangeAt Go.RowKit
open Arr Steady Sx Sw Sl Spn Vs Srt Vlo Vref Vvote Vlaw
set_option linter.unusedVariables false
set_option maxRecDepth 100000

theorem has_true (a b x : Int) (h1 : a ≤ x) (h2 : x ≤ b) (w : World) : Calls Try.prog 13 #[.agg #[.int .i64 a, .int .i64 b], .int .i64 x] w fun e w' => e = .returned (.bool true) ∧ Below w.heap.size w w' := by
  have := has_any a b x w
  rwa [decide_eq_true h1, decide_eq_true h2] at this
set_option maxHeartbeats 2000000 in
theorem voteSafe_walk (L : Spans) (p : Option Addr) (c : Nat) (q : Int) (wq : (Lit.int .i64 q).wf = true) (x : Int) (wx : (Lit.int .i64 x).wf = true) (w : World) (hL : Reads w p (flat enc2 L)) (hF : FitL L) :
    Calls Try.prog 4 #[.slice p L.length c, .int .i64 q, .int .i64 x] w fun e w' => e = .returned (.bool true) ∧ Below w.heap.size w w' := by
  refine calls_sx Try.func4 rfl ?_
  simp only [Try.ntmps4, List.size_toArray, List.length_cons, List.length_nil, Nat.reduceAdd, Nat.reduceSub, Array.replicate_succ, Array.replicate_zero, List.push_toArray, List.append_toArray, List.nil_append, List.cons_append]
  refine wc_seq ?_
  refine wc_region ?_
  refine wl_val (.bool false) rfl (fun _ => rfl) ?_
  simp only [Act.put, List.setIfInBounds_toArray, List.set_cons_zero, List.set_cons_succ]
  refine wl_nil ?_
  refine we_then ?_
  refine wc_seq ?_
  refine wc_seq ?_
  refine wc_region ?_
  refine wl_call 7 #[] (.bool true) rfl (fun _ => by go_simp) (fun W => anchor_any W) ?_
  simp only [Act.put, List.setIfInBounds_toArray, List.set_cons_zero, List.set_cons_succ]
  refine wl_val (.bool false) rfl (fun _ => by go_simp) ?_
  simp only [Act.put, List.setIfInBounds_toArray, List.set_cons_zero, List.set_cons_succ]
  refine wl_nil ?_
  refine we_then ?_
  refine wc_false rfl ?_
  refine wc_skip ?_
  refine we_then ?_
  refine wc_seq ?_
  refine wc_seq ?_
  refine wc_region ?_
  refine wl_val (.slice p L.length c) rfl (fun _ => rfl) ?_
  simp only [Act.put, List.setIfInBounds_toArray, List.set_cons_zero, List.set_cons_succ]
  refine wl_val (.int .i64 (L.length : Int)) rfl (fun w => er_len rfl rfl Try.underlying22 w) ?_
  simp only [Act.put, List.setIfInBounds_toArray, List.set_cons_zero, List.set_cons_succ]
  refine wl_val (.bool (decide ((L.length : Int) < 3))) rfl (fun w => run_cmp rfl rfl rfl Try.underlying3 rfl w) ?_
  simp only [Act.put, List.setIfInBounds_toArray, List.set_cons_zero, List.set_cons_succ]
  refine wl_val (.bool (decide ((L.length : Int) < 3))) rfl (fun _ => rfl) ?_
  simp only [Act.put, List.setIfInBounds_toArray, List.set_cons_zero, List.set_cons_succ]
  cases h1 : (decide ((L.length : Int) < 3))
  · skip
    have p1 : ¬ ((L.length : Int) < 3) := of_decide_eq_false h1
    refine wl_val (.slice p L.length c) rfl (fun _ => rfl) ?_
    simp only [Act.put, List.setIfInBounds_toArray, List.set_cons_zero, List.set_cons_succ]
    refine wl_val (.int .i64 (L.length : Int)) rfl (fun w => er_len rfl rfl Try.underlying22 w) ?_
    simp only [Act.put, List.setIfInBounds_toArray, List.set_cons_zero, List.set_cons_succ]
    refine wl_val (.bool (decide (40 < (L.length : Int)))) rfl (fun w => run_cmp rfl rfl rfl Try.underlying3 rfl w) ?_
    simp only [Act.put, List.setIfInBounds_toArray, List.set_cons_zero, List.set_cons_succ]
    refine wl_val (.bool (decide (40 < (L.length : Int)))) rfl (fun _ => rfl) ?_
    simp only [Act.put, List.setIfInBounds_toArray, List.set_cons_zero, List.set_cons_succ]
    refine wl_val (.bool (decide (40 < (L.length : Int)))) rfl (fun _ => rfl) ?_
    simp only [Act.put, List.setIfInBounds_toArray, List.set_cons_zero, List.set_cons_succ]
    cases h2 : (decide (40 < (L.length : Int)))
    · skip
      have p2 : ¬ (40 < (L.length : Int)) := of_decide_eq_false h2
      refine wl_val (.int .i64 q) rfl (fun _ => rfl) ?_
      simp only [Act.put, List.setIfInBounds_toArray, List.set_cons_zero, List.set_cons_succ]
      refine wl_val (.bool (decide (q < 0))) rfl (fun w => run_cmp rfl rfl rfl Try.underlying3 rfl w) ?_
      simp only [Act.put, List.setIfInBounds_toArray, List.set_cons_zero, List.set_cons_succ]
      refine wl_val (.bool (decide (q < 0))) rfl (fun _ => rfl) ?_
      simp only [Act.put, List.setIfInBounds_toArray, List.set_cons_zero, List.set_cons_succ]
      refine wl_val (.bool (decide (q < 0))) rfl (fun _ => rfl) ?_
      simp only [Act.put, List.setIfInBounds_toArray, List.set_cons_zero, List.set_cons_succ]
      cases h3 : (decide (q < 0))
      · skip
        have p3 : ¬ (q < 0) := of_decide_eq_false h3
        refine wl_val (.int .i64 q) rfl (fun _ => rfl) ?_
        simp only [Act.put, List.setIfInBounds_toArray, List.set_cons_zero, List.set_cons_succ]
        refine wl_val (.slice p L.length c) rfl (fun _ => rfl) ?_
        simp only [Act.put, List.setIfInBounds_toArray, List.set_cons_zero, List.set_cons_succ]
        refine wl_val (.int .i64 (L.length : Int)) rfl (fun w => er_len rfl rfl Try.underlying22 w) ?_
        simp only [Act.put, List.setIfInBounds_toArray, List.set_cons_zero, List.set_cons_succ]
        refine wl_val (.bool (decide ((L.length : Int) ≤ q))) rfl (fun w => run_cmp rfl rfl rfl Try.underlying3 rfl w) ?_
        simp only [Act.put, List.setIfInBounds_toArray, List.set_cons_zero, List.set_cons_succ]
        refine wl_val (.bool (decide ((L.length : Int) ≤ q))) rfl (fun _ => rfl) ?_
        simp only [Act.put, List.setIfInBounds_toArray, List.set_cons_zero, List.set_cons_succ]
        refine wl_nil ?_
        refine we_then ?_
        cases h4 : (decide ((L.length : Int) ≤ q))
        · skip
          have p4 : ¬ ((L.length : Int) ≤ q) := of_decide_eq_false h4
          refine wc_false rfl ?_
          refine wc_skip ?_
          refine we_then ?_
          refine wc_seq ?_
          refine wc_region ?_
          refine wl_val (.int .i64 0) rfl (fun _ => rfl) ?_
          simp only [Act.put, List.setIfInBounds_toArray, List.set_cons_zero, List.set_cons_succ]
          refine wl_val (.int .i64 0) rfl (fun _ => rfl) ?_
          simp only [Act.put, List.setIfInBounds_toArray, List.set_cons_zero, List.set_cons_succ]
          refine wl_nil ?_
          refine we_then ?_
          refine wc_seq ?_
          refine wc_seq ?_
          refine wc_region ?_
          refine wl_val (.slice p L.length c) rfl (fun _ => rfl) ?_
          simp only [Act.put, List.setIfInBounds_toArray, List.set_cons_zero, List.set_cons_succ]
          refine wl_val (.int .i64 (L.length : Int)) rfl (fun w => er_len rfl rfl Try.underlying22 w) ?_
          simp only [Act.put, List.setIfInBounds_toArray, List.set_cons_zero, List.set_cons_succ]
          refine wl_val (.int .i64 0) rfl (fun _ => rfl) ?_
          simp only [Act.put, List.setIfInBounds_toArray, List.set_cons_zero, List.set_cons_succ]
          refine wl_nil ?_
          refine we_then ?_
          refine wc_block ?_
          refine wc_loop (fun (zz : Nat × Value × Value × Value × Value × Value × Value × Value × Value × Value × Value × Value × Value × Value × Value × Value × Value × Value) => match zz with | ⟨i, u6, u9, u10, u39, u40, u41, u42, u43, u44, u45, u46, u47, u48, u49, u50, u51, u52⟩ => ({ tmps := #[.slice p L.length c, .int .i64 q, .int .i64 x, undef, undef, undef, u6, .int .i64 0, .int .i64 0, u9, u10, undef, undef, undef, undef, undef, .bool true, .bool false, .slice p L.length c, .int .i64 (L.length : Int), .bool false, .bool false, .slice p L.length c, .int .i64 (L.length : Int), .bool false, .bool false, .bool false, .int .i64 q, .bool false, .bool false, .bool false, .int .i64 q, .slice p L.length c, .int .i64 (L.length : Int), .bool false, .bool false, .slice p L.length c, .int .i64 (L.length : Int), .int .i64 (i : Int), u39, u40, u41, u42, u43, u44, u45, u46, u47, u48, u49, u50, u51, u52, undef, undef, undef, undef, undef, undef, undef, undef, undef, undef, undef, undef, undef, undef, undef, undef, undef, undef, undef, undef, undef, undef, undef, undef, undef, undef, undef, undef, undef, undef, undef, undef, undef, undef, undef, undef, undef, undef, undef, undef, undef, undef, undef, undef, undef, undef, undef], defers := [] } : Act)) (fun (zz : Nat × Value × Value × Value × Value × Value × Value × Value × Value × Value × Value × Value × Value × Value × Value × Value × Value × Value) => match zz with | ⟨i, u6, u9, u10, u39, u40, u41, u42, u43, u44, u45, u46, u47, u48, u49, u50, u51, u52⟩ => []) (fun (zz : Nat × Value × Value × Value × Value × Value × Value × Value × Value × Value × Value × Value × Value × Value × Value × Value × Value × Value) => match zz with | ⟨i, u6, u9, u10, u39, u40, u41, u42, u43, u44, u45, u46, u47, u48, u49, u50, u51, u52⟩ => i ≤ L.length ∧ ∀ k, k < i → (k : Int) ≠ q → hasB (L[k]!) x = true) (fun (zz : Nat × Value × Value × Value × Value × Value × Value × Value × Value × Value × Value × Value × Value × Value × Value × Value × Value × Value) => match zz with | ⟨i, u6, u9, u10, u39, u40, u41, u42, u43, u44, u45, u46, u47, u48, u49, u50, u51, u52⟩ => L.length - i) ⟨0, _, _, _, _, _, _, _, _, _, _, _, _, _, _, _, _, _⟩ (by (try dsimp only); exact ⟨by omega, fun k hk => by omega⟩) rfl List.Sublist.slnil ?_
          rintro ⟨i, u6, u9, u10, u39, u40, u41, u42, u43, u44, u45, u46, u47, u48, u49, u50, u51, u52⟩ hφ
          (try dsimp only at hφ ⊢)
          obtain ⟨b1, b2⟩ := hφ
          refine wc_seq ?_
          refine wc_region ?_
          refine wl_val (.bool (decide ((i : Int) < (L.length : Int)))) rfl (fun w => run_cmp rfl rfl rfl Try.underlying3 rfl w) ?_
          simp only [Act.put, List.setIfInBounds_toArray, List.set_cons_zero, List.set_cons_succ]
          refine wl_nil ?_
          refine we_then ?_
          refine wc_seq ?_
          cases h5 : (decide ((i : Int) < (L.length : Int)))
          · skip
            have p5 : ¬ ((i : Int) < (L.length : Int)) := of_decide_eq_false h5
            refine wc_false rfl ?_
            refine wc_exit ?_
            refine we_then_exit ?_
            refine we_then_exit ?_
            refine we_in_here ?_
            refine we_then ?_
            refine wc_seq ?_
            refine wc_region ?_
            refine wl_val (.bool true) rfl (fun _ => rfl) ?_
            simp only [Act.put, List.setIfInBounds_toArray, List.set_cons_zero, List.set_cons_succ]
            refine wl_nil ?_
            refine we_then ?_
            refine wc_seq ?_
            refine wc_seq ?_
            refine wc_region ?_
            refine wl_val (.slice p L.length c) rfl (fun _ => rfl) ?_
            simp only [Act.put, List.setIfInBounds_toArray, List.set_cons_zero, List.set_cons_succ]
            refine wl_val (.int .i64 (L.length : Int)) rfl (fun w => er_len rfl rfl Try.underlying22 w) ?_
            simp only [Act.put, List.setIfInBounds_toArray, List.set_cons_zero, List.set_cons_succ]
            refine wl_val (.int .i64 0) rfl (fun _ => rfl) ?_
            simp only [Act.put, List.setIfInBounds_toArray, List.set_cons_zero, List.set_cons_succ]
            refine wl_nil ?_
            refine we_then ?_
            refine wc_block ?_
            refine wc_loop (fun (zz : Nat × Bool × Int × Int × Value × Value × Value × Value × Value × Value × Value × Value × Value × Value × Value × Value × Value × Value × Value × Value × Value × Value × Value × Value × Value × Value × Value) => match zz with | ⟨j, f, lo, hi, u12, u13, u56, u57, u58, u59, u60, u61, u62, u63, u64, u65, u66, u67, u68, u69, u70, u71, u72, u73, u74, u75, u76⟩ => ({ tmps := #[.slice p L.length c, .int .i64 q, .int .i64 x, undef, undef, undef, u6, .int .i64 lo, .int .i64 hi, u9, u10, .bool f, u12, u13, undef, undef, .bool true, .bool false, .slice p L.length c, .int .i64 (L.length : Int), .bool false, .bool false, .slice p L.length c, .int .i64 (L.length : Int), .bool false, .bool false, .bool false, .int .i64 q, .bool false, .bool false, .bool false, .int .i64 q, .slice p L.length c, .int .i64 (L.length : Int), .bool false, .bool false, .slice p L.length c, .int .i64 (L.length : Int), .int .i64 (i : Int), .bool false, u40, u41, u42, u43, u44, u45, u46, u47, u48, u49, u50, u51, u52, .slice p L.length c, .int .i64 (L.length : Int), .int .i64 (j : Int), u56, u57, u58, u59, u60, u61, u62, u63, u64, u65, u66, u67, u68, u69, u70, u71, u72, u73, u74, u75, u76, undef, undef, undef, undef, undef, undef, undef, undef, undef, undef, undef, undef, undef, undef, undef, undef, undef, undef, undef, undef, undef, undef, undef], defers := [] } : Act)) (fun (zz : Nat × Bool × Int × Int × Value × Value × Value × Value × Value × Value × Value × Value × Value × Value × Value × Value × Value × Value × Value × Value × Value × Value × Value × Value × Value × Value × Value) => match zz with | ⟨j, f, lo, hi, u12, u13, u56, u57, u58, u59, u60, u61, u62, u63, u64, u65, u66, u67, u68, u69, u70, u71, u72, u73, u74, u75, u76⟩ => []) (fun (zz : Nat × Bool × Int × Int × Value × Value × Value × Value × Value × Value × Value × Value × Value × Value × Value × Value × Value × Value × Value × Value × Value × Value × Value × Value × Value × Value × Value) => match zz with | ⟨j, f, lo, hi, u12, u13, u56, u57, u58, u59, u60, u61, u62, u63, u64, u65, u66, u67, u68, u69, u70, u71, u72, u73, u74, u75, u76⟩ => j ≤ L.length ∧ ∀ k, k < j → (k : Int) ≠ q → f = false ∧ lo ≤ (L[k]!).1 ∧ (L[k]!).2 ≤ hi) (fun (zz : Nat × Bool × Int × Int × Value × Value × Value × Value × Value × Value × Value × Value × Value × Value × Value × Value × Value × Value × Value × Value × Value × Value × Value × Value × Value × Value × Value) => match zz with | ⟨j, f, lo, hi, u12, u13, u56, u57, u58, u59, u60, u61, u62, u63, u64, u65, u66, u67, u68, u69, u70, u71, u72, u73, u74, u75, u76⟩ => L.length - j) ⟨0, true, 0, 0, _, _, _, _, _, _, _, _, _, _, _, _, _, _, _, _, _, _, _, _, _, _, _⟩ (by (try dsimp only); exact ⟨by omega, fun k hk => by omega⟩) rfl List.Sublist.slnil ?_
            rintro ⟨j, f, lo, hi, u12, u13, u56, u57, u58, u59, u60, u61, u62, u63, u64, u65, u66, u67, u68, u69, u70, u71, u72, u73, u74, u75, u76⟩ hφ
            (try dsimp only at hφ ⊢)
            obtain ⟨b3, b4⟩ := hφ
            refine wc_seq ?_
            refine wc_region ?_
            refine wl_val (.bool (decide ((j : Int) < (L.length : Int)))) rfl (fun w => run_cmp rfl rfl rfl Try.underlying3 rfl w) ?_
            simp only [Act.put, List.setIfInBounds_toArray, List.set_cons_zero, List.set_cons_succ]
            refine wl_nil ?_
            refine we_then ?_
            refine wc_seq ?_
            cases h6 : (decide ((j : Int) < (L.length : Int)))
            · skip
              have p6 : ¬ ((j : Int) < (L.length : Int)) := of_decide_eq_false h6
              refine wc_false rfl ?_
              refine wc_exit ?_
              refine we_then_exit ?_
              refine we_then_exit ?_
              refine we_in_here ?_
              refine we_then ?_
              refine wc_seq ?_
              have S1 := safe_end (L := L) (w := q.toNat) (x := x) (lo := lo) (hi := hi) (by omega) (fun k hk hw => b2 k (by omega) (by omega)) (fun k hk hw => (b4 k (by omega) (by omega)).2)
              obtain ⟨S1, S2, S3, S4⟩ := S1
              refine wc_region ?_
              refine wl_val (.slice p L.length c) rfl (fun _ => rfl) ?_
              simp only [Act.put, List.setIfInBounds_toArray, List.set_cons_zero, List.set_cons_succ]
              refine wl_call_at 9 #[.slice p L.length c] (.tuple #[.agg #[.int .i64 ((byZ L 2).1), .int .i64 ((byZ L 2).2.1)], .bool true]) rfl (fun _ => by go_simp) (fun W hE => by have := two_any L p c W (sl_old (R := []) hL W (hE.sub (List.nil_sublist _))) (by omega); rwa [S1] at this) ?_
              simp only [Act.put, List.setIfInBounds_toArray, List.set_cons_zero, List.set_cons_succ]
              refine wl_val (.tuple #[.agg #[.int .i64 ((byZ L 2).1), .int .i64 ((byZ L 2).2.1)], .bool true]) rfl (fun _ => rfl) ?_
              simp only [Act.put, List.setIfInBounds_toArray, List.set_cons_zero, List.set_cons_succ]
              refine wl_val (.agg #[.int .i64 ((byZ L 2).1), .int .i64 ((byZ L 2).2.1)]) rfl (fun _ => by go_simp) ?_
              simp only [Act.put, List.setIfInBounds_toArray, List.set_cons_zero, List.set_cons_succ]
              refine wl_val (.bool true) rfl (fun _ => by go_simp) ?_
              simp only [Act.put, List.setIfInBounds_toArray, List.set_cons_zero, List.set_cons_succ]
              refine wl_new 25 (#[.int .i64 0, .int .i64 0]) rfl (fun _ => by go_simp) ?_
              intro g7
              simp only [Act.put, List.setIfInBounds_toArray, List.set_cons_zero, List.set_cons_succ]
              refine wl_store 0 25 (.tmp 14) (.tmp 80) (#[.int .i64 ((byZ L 2).1), .int .i64 ((byZ L 2).2.1)]) rfl rfl rfl rfl rfl (by kernel_rfl) rfl (by simp [Value.oneCell']) ?_
              simp only [Act.put, List.set_cons_zero]
              refine wl_val (.bool true) rfl (fun _ => rfl) ?_
              simp only [Act.put, List.setIfInBounds_toArray, List.set_cons_zero, List.set_cons_succ]
              refine wl_nil ?_
              refine we_then ?_
              refine wc_seq ?_
              refine wc_region ?_
              refine wl_val (.bool true) rfl (fun _ => rfl) ?_
              simp only [Act.put, List.setIfInBounds_toArray, List.set_cons_zero, List.set_cons_succ]
              refine wl_val (.bool true) rfl (fun _ => rfl) ?_
              simp only [Act.put, List.setIfInBounds_toArray, List.set_cons_zero, List.set_cons_succ]
              refine wl_load 25 (.tmp 14) (own_row 0 rfl) rfl rfl rfl Try.underlying25 rfl (by kernel_rfl) ?_
              simp only [Act.put, List.setIfInBounds_toArray, List.set_cons_zero, List.set_cons_succ]
              refine wl_val (.int .i64 x) rfl (fun _ => rfl) ?_
              simp only [Act.put, List.setIfInBounds_toArray, List.set_cons_zero, List.set_cons_succ]
              refine wl_call 13 #[.agg #[.int .i64 ((byZ L 2).1), .int .i64 ((byZ L 2).2.1)], .int .i64 x] (.bool true) rfl (fun _ => by go_simp) (fun W => has_true _ _ _ S2.1 S2.2 W) ?_
              simp only [Act.put, List.setIfInBounds_toArray, List.set_cons_zero, List.set_cons_succ]
              refine wl_val (.bool true) rfl (fun _ => rfl) ?_
              simp only [Act.put, List.setIfInBounds_toArray, List.set_cons_zero, List.set_cons_succ]
              refine wl_val (.bool true) rfl (fun _ => rfl) ?_
              simp only [Act.put, List.setIfInBounds_toArray, List.set_cons_zero, List.set_cons_succ]
              refine wl_val (.pointer (some ⟨g7, 0, none⟩)) rfl (fun _ => by go_simp) ?_
              simp only [Act.put, List.setIfInBounds_toArray, List.set_cons_zero, List.set_cons_succ]
              refine wl_cell 2 (.tmp 89) (.int .i64 ((byZ L 2).1)) (own_row 0 rfl) rfl rfl rfl rfl Try.isAgg2 ?_
              simp only [Act.put, List.setIfInBounds_toArray, List.set_cons_zero, List.set_cons_succ]
              refine wl_val (.int .i64 lo) rfl (fun _ => rfl) ?_
              simp only [Act.put, List.setIfInBounds_toArray, List.set_cons_zero, List.set_cons_succ]
              refine wl_val (.bool (decide (lo ≤ (byZ L 2).1))) rfl (fun w => run_cmp rfl rfl rfl Try.underlying2 rfl w) ?_
              simp only [Act.put, List.setIfInBounds_toArray, List.set_cons_zero, List.set_cons_succ]
              refine wl_val (.bool (decide (lo ≤ (byZ L 2).1))) rfl (fun _ => rfl) ?_
              simp only [Act.put, List.setIfInBounds_toArray, List.set_cons_zero, List.set_cons_succ]
              refine wl_val (.bool (decide (lo ≤ (byZ L 2).1))) rfl (fun _ => rfl) ?_
              simp only [Act.put, List.setIfInBounds_toArray, List.set_cons_zero, List.set_cons_succ]
              cases h8 : (decide (lo ≤ (byZ L 2).1))
              · skip
                have p8 : ¬ (lo ≤ (byZ L 2).1) := of_decide_eq_false h8
                exact (by exfalso; omega)
              · skip
                have p8 : lo ≤ (byZ L 2).1 := of_decide_eq_true h8
                refine wl_val (.pointer (some ⟨g7, 1, none⟩)) rfl (fun _ => by go_simp) ?_
                simp only [Act.put, List.setIfInBounds_toArray, List.set_cons_zero, List.set_cons_succ]
                refine wl_cell 2 (.tmp 95) (.int .i64 ((byZ L 2).2.1)) (own_row 0 rfl) rfl rfl rfl rfl Try.isAgg2 ?_
                simp only [Act.put, List.setIfInBounds_toArray, List.set_cons_zero, List.set_cons_succ]
                refine wl_val (.int .i64 hi) rfl (fun _ => rfl) ?_
                simp only [Act.put, List.setIfInBounds_toArray, List.set_cons_zero, List.set_cons_succ]
                refine wl_val (.bool (decide ((byZ L 2).2.1 ≤ hi))) rfl (fun w => run_cmp rfl rfl rfl Try.underlying2 rfl w) ?_
                simp only [Act.put, List.setIfInBounds_toArray, List.set_cons_zero, List.set_cons_succ]
                refine wl_val (.bool (decide ((byZ L 2).2.1 ≤ hi))) rfl (fun _ => rfl) ?_
                simp only [Act.put, List.setIfInBounds_toArray, List.set_cons_zero, List.set_cons_succ]
                refine wl_val (.bool (decide ((byZ L 2).2.1 ≤ hi))) rfl (fun _ => rfl) ?_
                simp only [Act.put, List.setIfInBounds_toArray, List.set_cons_zero, List.set_cons_succ]
                refine wl_nil ?_
                refine we_then ?_
                refine wc_ret ?_
                refine we_ret1 (.bool (decide ((byZ L 2).2.1 ≤ hi))) rfl rfl rfl (fun w1 hE => ?_)
                exact ⟨by rw [decide_eq_true S4], hE.below⟩
            · skip
              have p6 : (j : Int) < (L.length : Int) := of_decide_eq_true h6
              refine wc_true rfl ?_
              refine wc_skip ?_
              refine we_then ?_
              refine wc_seq ?_
              refine wc_block ?_
              refine wc_seq ?_
              refine wc_region ?_
              refine wl_val (.int .i64 (j : Int)) rfl (fun _ => rfl) ?_
              simp only [Act.put, List.setIfInBounds_toArray, List.set_cons_zero, List.set_cons_succ]
              refine wl_read (eaddr p (j * 2)) rfl (er_index j 2 (sl_old hL) rfl rfl rfl rfl (by omega) (flat_length (enc := enc2) (size := 2) (fun _ => rfl) _) (by decide) Try.underlying22 (by kernel_rfl)) ?_
              simp only [Act.put, List.setIfInBounds_toArray, List.set_cons_zero, List.set_cons_succ]
              refine wl_read (.agg #[.int .i64 ((L[j]!).1), .int .i64 ((L[j]!).2)]) rfl (er_part (j * 2) [.int .i64 ((L[j]!).1), .int .i64 ((L[j]!).2)] (sl_old hL) rfl rfl (flat_part (enc := enc2) (fun _ => rfl) L j (by omega)) (Nat.zero_lt_succ _) Try.underlying25 rfl (by kernel_rfl)) ?_
              simp only [Act.put, List.setIfInBounds_toArray, List.set_cons_zero, List.set_cons_succ]
              refine wl_new 25 (#[.int .i64 0, .int .i64 0]) rfl (fun _ => by go_simp) ?_
              intro g9
              simp only [Act.put, List.setIfInBounds_toArray, List.set_cons_zero, List.set_cons_succ]
              refine wl_val (.int .i64 (j : Int)) rfl (fun _ => rfl) ?_
              simp only [Act.put, List.setIfInBounds_toArray, List.set_cons_zero, List.set_cons_succ]
              refine wl_store 0 25 (.tmp 13) (.tmp 59) (#[.int .i64 ((L[j]!).1), .int .i64 ((L[j]!).2)]) rfl rfl rfl rfl rfl (by kernel_rfl) rfl (by simp [Value.oneCell']) ?_
              simp only [Act.put, List.set_cons_zero]
              refine wl_nil ?_
              refine we_then ?_
              refine wc_seq ?_
              refine wc_seq ?_
              refine wc_region ?_
              refine wl_val (.int .i64 (j : Int)) rfl (fun _ => rfl) ?_
              simp only [Act.put, List.setIfInBounds_toArray, List.set_cons_zero, List.set_cons_succ]
              refine wl_val (.int .i64 q) rfl (fun _ => rfl) ?_
              simp only [Act.put, List.setIfInBounds_toArray, List.set_cons_zero, List.set_cons_succ]
              refine wl_val (.bool ((j : Int) == q)) rfl (fun w => run_cmp rfl rfl rfl Try.underlying3 rfl w) ?_
              simp only [Act.put, List.setIfInBounds_toArray, List.set_cons_zero, List.set_cons_succ]
              refine wl_nil ?_
              refine we_then ?_
              cases h10 : ((j : Int) == q)
              · skip
                have p10 : ¬ ((j : Int) = q) := by simpa using h10
                refine wc_false rfl ?_
                refine wc_skip ?_
                refine we_then ?_
                refine wc_seq ?_
                refine wc_seq ?_
                refine wc_region ?_
                refine wl_val (.bool f) rfl (fun _ => rfl) ?_
                simp only [Act.put, List.setIfInBounds_toArray, List.set_cons_zero, List.set_cons_succ]
                refine wl_nil ?_
                refine we_then ?_
                cases h11 : (f)
                · skip
                  refine wc_false rfl ?_
                  refine wc_skip ?_
                  refine we_then ?_
                  refine wc_draw [.late, .late, .plain, .late, .late, .late, .plain, .late, .late, .late] none [] 100 (by kernel_rfl) rfl (by kernel_rfl) (by kernel_rfl) ?_
                  refine ws_late (.int .i64 lo) rfl rfl (fun _ => rfl) ?_
                  simp only [Nat.reduceAdd, Act.put, List.setIfInBounds_toArray, List.set_cons_zero, List.set_cons_succ]
                  refine ws_late (.pointer (some ⟨g9, 0, none⟩)) rfl rfl (fun _ => by go_simp) ?_
                  simp only [Nat.reduceAdd, Act.put, List.setIfInBounds_toArray, List.set_cons_zero, List.set_cons_succ]
                  refine ws_cell 2 (.tmp 69) (.int .i64 ((L[j]!).1)) (own_row 0 rfl) rfl rfl rfl rfl rfl Try.isAgg2 ?_
                  simp only [Nat.reduceAdd, Act.put, List.setIfInBounds_toArray, List.set_cons_zero, List.set_cons_succ]
                  refine ws_late (.int .i64 (min lo ((L[j]!).1))) rfl rfl (fun _ => by go_simp) ?_
                  simp only [Nat.reduceAdd, Act.put, List.setIfInBounds_toArray, List.set_cons_zero, List.set_cons_succ]
                  refine ws_late (.int .i64 hi) rfl rfl (fun _ => rfl) ?_
                  simp only [Nat.reduceAdd, Act.put, List.setIfInBounds_toArray, List.set_cons_zero, List.set_cons_succ]
                  refine ws_late (.pointer (some ⟨g9, 1, none⟩)) rfl rfl (fun _ => by go_simp) ?_
                  simp only [Nat.reduceAdd, Act.put, List.setIfInBounds_toArray, List.set_cons_zero, List.set_cons_succ]
                  refine ws_cell 2 (.tmp 73) (.int .i64 ((L[j]!).2)) (own_row 0 rfl) rfl rfl rfl rfl rfl Try.isAgg2 ?_
                  simp only [Nat.reduceAdd, Act.put, List.setIfInBounds_toArray, List.set_cons_zero, List.set_cons_succ]
                  refine ws_late (.int .i64 (max hi ((L[j]!).2))) rfl rfl (fun _ => by go_simp) ?_
                  simp only [Nat.reduceAdd, Act.put, List.setIfInBounds_toArray, List.set_cons_zero, List.set_cons_succ]
                  refine ws_late (.int .i64 (min lo ((L[j]!).1))) rfl rfl (fun _ => rfl) ?_
                  simp only [Nat.reduceAdd, Act.put, List.setIfInBounds_toArray, List.set_cons_zero, List.set_cons_succ]
                  refine ws_late (.int .i64 (max hi ((L[j]!).2))) rfl rfl (fun _ => rfl) ?_
                  simp only [Nat.reduceAdd, Act.put, List.setIfInBounds_toArray, List.set_cons_zero, List.set_cons_succ]
                  refine ws_nil [] trivial (by simp) ?_
                  intro ps12
                  simp only [fin, List.foldl_nil, List.map, List.nil_append]
                  refine we_in ?_
                  refine we_then ?_
                  refine wc_region ?_
                  refine wl_val (.int .i64 ((j : Int) + 1)) rfl (fun w => run_arith (op := .add) rfl rfl rfl Try.underlying3 (congrArg some (i64_in (by omega) (by omega))) w) ?_
                  simp only [Act.put, List.setIfInBounds_toArray, List.set_cons_zero, List.set_cons_succ]
                  refine wl_val (.int .i64 ((j : Int) + 1)) rfl (fun _ => rfl) ?_
                  simp only [Act.put, List.setIfInBounds_toArray, List.set_cons_zero, List.set_cons_succ]
                  refine wl_nil ?_
                  exact we_meet ⟨(j + 1), false, (min lo ((L[j]!).1)), (max hi ((L[j]!).2)), _, _, _, _, _, _, _, _, _, _, _, _, _, _, _, _, _, _, _, _, _, _, _⟩ (by (try dsimp only); refine ⟨⟨by omega, fun k hk hw => ?_⟩, by omega⟩; rcases Nat.lt_succ_iff_lt_or_eq.1 hk with hk | hk; (have c3 := (b4 k hk hw).2; exact ⟨rfl, by omega, by omega⟩); subst hk; exact ⟨rfl, by omega, by omega⟩) rfl (List.Sublist.cons _ List.Sublist.slnil)
                · skip
                  refine wc_true rfl ?_
                  refine wc_draw [.late, .plain, .late, .plain, .late, .late, .late] none [] 100 (by kernel_rfl) rfl (by kernel_rfl) (by kernel_rfl) ?_
                  refine ws_late (.pointer (some ⟨g9, 0, none⟩)) rfl rfl (fun _ => by go_simp) ?_
                  simp only [Nat.reduceAdd, Act.put, List.setIfInBounds_toArray, List.set_cons_zero, List.set_cons_succ]
                  refine ws_cell 2 (.tmp 64) (.int .i64 ((L[j]!).1)) (own_row 0 rfl) rfl rfl rfl rfl rfl Try.isAgg2 ?_
                  simp only [Nat.reduceAdd, Act.put, List.setIfInBounds_toArray, List.set_cons_zero, List.set_cons_succ]
                  refine ws_late (.pointer (some ⟨g9, 1, none⟩)) rfl rfl (fun _ => by go_simp) ?_
                  simp only [Nat.reduceAdd, Act.put, List.setIfInBounds_toArray, List.set_cons_zero, List.set_cons_succ]
                  refine ws_cell 2 (.tmp 66) (.int .i64 ((L[j]!).2)) (own_row 0 rfl) rfl rfl rfl rfl rfl Try.isAgg2 ?_
                  simp only [Nat.reduceAdd, Act.put, List.setIfInBounds_toArray, List.set_cons_zero, List.set_cons_succ]
                  refine ws_late (.int .i64 ((L[j]!).1)) rfl rfl (fun _ => rfl) ?_
                  simp only [Nat.reduceAdd, Act.put, List.setIfInBounds_toArray, List.set_cons_zero, List.set_cons_succ]
                  refine ws_late (.int .i64 ((L[j]!).2)) rfl rfl (fun _ => rfl) ?_
                  simp only [Nat.reduceAdd, Act.put, List.setIfInBounds_toArray, List.set_cons_zero, List.set_cons_succ]
                  refine ws_late (.bool false) rfl rfl (fun _ => rfl) ?_
                  simp only [Nat.reduceAdd, Act.put, List.setIfInBounds_toArray, List.set_cons_zero, List.set_cons_succ]
                  refine ws_nil [] trivial (by simp) ?_
                  intro ps13
                  simp only [fin, List.foldl_nil, List.map, List.nil_append]
                  refine we_then ?_
                  refine wc_draw [.late, .late, .plain, .late, .late, .late, .plain, .late, .late, .late] none [] 100 (by kernel_rfl) rfl (by kernel_rfl) (by kernel_rfl) ?_
                  refine ws_late (.int .i64 ((L[j]!).1)) rfl rfl (fun _ => rfl) ?_
                  simp only [Nat.reduceAdd, Act.put, List.setIfInBounds_toArray, List.set_cons_zero, List.set_cons_succ]
                  refine ws_late (.pointer (some ⟨g9, 0, none⟩)) rfl rfl (fun _ => by go_simp) ?_
                  simp only [Nat.reduceAdd, Act.put, List.setIfInBounds_toArray, List.set_cons_zero, List.set_cons_succ]
                  refine ws_cell 2 (.tmp 69) (.int .i64 ((L[j]!).1)) (own_row 0 rfl) rfl rfl rfl rfl rfl Try.isAgg2 ?_
                  simp only [Nat.reduceAdd, Act.put, List.setIfInBounds_toArray, List.set_cons_zero, List.set_cons_succ]
                  refine ws_late (.int .i64 (min ((L[j]!).1) ((L[j]!).1))) rfl rfl (fun _ => by go_simp) ?_
                  simp only [Nat.reduceAdd, Act.put, List.setIfInBounds_toArray, List.set_cons_zero, List.set_cons_succ]
                  refine ws_late (.int .i64 ((L[j]!).2)) rfl rfl (fun _ => rfl) ?_
                  simp only [Nat.reduceAdd, Act.put, List.setIfInBounds_toArray, List.set_cons_zero, List.set_cons_succ]
                  refine ws_late (.pointer (some ⟨g9, 1, none⟩)) rfl rfl (fun _ => by go_simp) ?_
                  simp only [Nat.reduceAdd, Act.put, List.setIfInBounds_toArray, List.set_cons_zero, List.set_cons_succ]
                  refine ws_cell 2 (.tmp 73) (.int .i64 ((L[j]!).2)) (own_row 0 rfl) rfl rfl rfl rfl rfl Try.isAgg2 ?_
                  simp only [Nat.reduceAdd, Act.put, List.setIfInBounds_toArray, List.set_cons_zero, List.set_cons_succ]
                  refine ws_late (.int .i64 (max ((L[j]!).2) ((L[j]!).2))) rfl rfl (fun _ => by go_simp) ?_
                  simp only [Nat.reduceAdd, Act.put, List.setIfInBounds_toArray, List.set_cons_zero, List.set_cons_succ]
                  refine ws_late (.int .i64 (min ((L[j]!).1) ((L[j]!).1))) rfl rfl (fun _ => rfl) ?_
                  simp only [Nat.reduceAdd, Act.put, List.setIfInBounds_toArray, List.set_cons_zero, List.set_cons_succ]
                  refine ws_late (.int .i64 (max ((L[j]!).2) ((L[j]!).2))) rfl rfl (fun _ => rfl) ?_
                  simp only [Nat.reduceAdd, Act.put, List.setIfInBounds_toArray, List.set_cons_zero, List.set_cons_succ]
                  refine ws_nil [] trivial (by simp) ?_
                  intro ps14
                  simp only [fin, List.foldl_nil, List.map, List.nil_append]
                  refine we_in ?_
                  refine we_then ?_
                  refine wc_region ?_
                  refine wl_val (.int .i64 ((j : Int) + 1)) rfl (fun w => run_arith (op := .add) rfl rfl rfl Try.underlying3 (congrArg some (i64_in (by omega) (by omega))) w) ?_
                  simp only [Act.put, List.setIfInBounds_toArray, List.set_cons_zero, List.set_cons_succ]
                  refine wl_val (.int .i64 ((j : Int) + 1)) rfl (fun _ => rfl) ?_
                  simp only [Act.put, List.setIfInBounds_toArray, List.set_cons_zero, List.set_cons_succ]
                  refine wl_nil ?_
                  exact we_meet ⟨(j + 1), false, (min ((L[j]!).1) ((L[j]!).1)), (max ((L[j]!).2) ((L[j]!).2)), _, _, _, _, _, _, _, _, _, _, _, _, _, _, _, _, _, _, _, _, _, _, _⟩ (by (try dsimp only); refine ⟨⟨by omega, fun k hk hw => ?_⟩, by omega⟩; rcases Nat.lt_succ_iff_lt_or_eq.1 hk with hk | hk; exact absurd (b4 k hk hw).1 (by rw [h11]; decide); subst hk; exact ⟨rfl, by omega, by omega⟩) rfl (List.Sublist.cons _ List.Sublist.slnil)
              · skip
                have p10 : (j : Int) = q := by simpa using h10
                refine wc_true rfl ?_
                refine wc_exit ?_
                refine we_then_exit ?_
                refine we_in_here ?_
                refine we_then ?_
                refine wc_region ?_
                refine wl_val (.int .i64 ((j : Int) + 1)) rfl (fun w => run_arith (op := .add) rfl rfl rfl Try.underlying3 (congrArg some (i64_in (by omega) (by omega))) w) ?_
                simp only [Act.put, List.setIfInBounds_toArray, List.set_cons_zero, List.set_cons_succ]
                refine wl_val (.int .i64 ((j : Int) + 1)) rfl (fun _ => rfl) ?_
                simp only [Act.put, List.setIfInBounds_toArray, List.set_cons_zero, List.set_cons_succ]
                refine wl_nil ?_
                exact we_meet ⟨(j + 1), f, lo, hi, _, _, _, _, _, _, _, _, _, _, _, _, _, _, _, _, _, _, _, _, _, _, _⟩ (by (try dsimp only); refine ⟨⟨by omega, fun k hk hw => ?_⟩, by omega⟩; rcases Nat.lt_succ_iff_lt_or_eq.1 hk with hk | hk; exact b4 k hk hw; subst hk; exact absurd (by simpa using h10) hw) rfl (List.Sublist.cons _ List.Sublist.slnil)
          · skip
            have p5 : (i : Int) < (L.length : Int) := of_decide_eq_true h5
            refine wc_true rfl ?_
            refine wc_skip ?_
            refine we_then ?_
            refine wc_seq ?_
            refine wc_block ?_
            refine wc_seq ?_
            refine wc_region ?_
            refine wl_val (.int .i64 (i : Int)) rfl (fun _ => rfl) ?_
            simp only [Act.put, List.setIfInBounds_toArray, List.set_cons_zero, List.set_cons_succ]
            refine wl_read (eaddr p (i * 2)) rfl (er_index i 2 (sl_old hL) rfl rfl rfl rfl (by omega) (flat_length (enc := enc2) (size := 2) (fun _ => rfl) _) (by decide) Try.underlying22 (by kernel_rfl)) ?_
            simp only [Act.put, List.setIfInBounds_toArray, List.set_cons_zero, List.set_cons_succ]
            refine wl_read (.agg #[.int .i64 ((L[i]!).1), .int .i64 ((L[i]!).2)]) rfl (er_part (i * 2) [.int .i64 ((L[i]!).1), .int .i64 ((L[i]!).2)] (sl_old hL) rfl rfl (flat_part (enc := enc2) (fun _ => rfl) L i (by omega)) (Nat.zero_lt_succ _) Try.underlying25 rfl (by kernel_rfl)) ?_
            simp only [Act.put, List.setIfInBounds_toArray, List.set_cons_zero, List.set_cons_succ]
            refine wl_new 25 (#[.int .i64 0, .int .i64 0]) rfl (fun _ => by go_simp) ?_
            intro g15
            simp only [Act.put, List.setIfInBounds_toArray, List.set_cons_zero, List.set_cons_succ]
            refine wl_val (.int .i64 (i : Int)) rfl (fun _ => rfl) ?_
            simp only [Act.put, List.setIfInBounds_toArray, List.set_cons_zero, List.set_cons_succ]
            refine wl_store 0 25 (.tmp 10) (.tmp 42) (#[.int .i64 ((L[i]!).1), .int .i64 ((L[i]!).2)]) rfl rfl rfl rfl rfl (by kernel_rfl) rfl (by simp [Value.oneCell']) ?_
            simp only [Act.put, List.set_cons_zero]
            refine wl_nil ?_
            refine we_then ?_
            refine wc_seq ?_
            refine wc_region ?_
            refine wl_val (.int .i64 (i : Int)) rfl (fun _ => rfl) ?_
            simp only [Act.put, List.setIfInBounds_toArray, List.set_cons_zero, List.set_cons_succ]
            refine wl_val (.int .i64 q) rfl (fun _ => rfl) ?_
            simp only [Act.put, List.setIfInBounds_toArray, List.set_cons_zero, List.set_cons_succ]
            refine wl_val (.bool ((i : Int) != q)) rfl (fun w => run_cmp rfl rfl rfl Try.underlying3 rfl w) ?_
            simp only [Act.put, List.setIfInBounds_toArray, List.set_cons_zero, List.set_cons_succ]
            refine wl_val (.bool ((i : Int) != q)) rfl (fun _ => rfl) ?_
            simp only [Act.put, List.setIfInBounds_toArray, List.set_cons_zero, List.set_cons_succ]
            cases h16 : ((i : Int) != q)
            · skip
              have p16 : ¬ ((i : Int) ≠ q) := by simpa using h16
              refine wl_skip rfl ?_
              simp only [Act.put, List.setIfInBounds_toArray, List.set_cons_zero, List.set_cons_succ]
              refine wl_skip rfl ?_
              simp only [Act.put, List.setIfInBounds_toArray, List.set_cons_zero, List.set_cons_succ]
              refine wl_skip rfl ?_
              simp only [Act.put, List.setIfInBounds_toArray, List.set_cons_zero, List.set_cons_succ]
              refine wl_skip rfl ?_
              simp only [Act.put, List.setIfInBounds_toArray, List.set_cons_zero, List.set_cons_succ]
              refine wl_val (.bool false) rfl (fun _ => rfl) ?_
              simp only [Act.put, List.setIfInBounds_toArray, List.set_cons_zero, List.set_cons_succ]
              refine wl_nil ?_
              refine we_then ?_
              refine wc_false rfl ?_
              refine wc_skip ?_
              refine we_in ?_
              refine we_then ?_
              refine wc_region ?_
              refine wl_val (.int .i64 ((i : Int) + 1)) rfl (fun w => run_arith (op := .add) rfl rfl rfl Try.underlying3 (congrArg some (i64_in (by omega) (by omega))) w) ?_
              simp only [Act.put, List.setIfInBounds_toArray, List.set_cons_zero, List.set_cons_succ]
              refine wl_val (.int .i64 ((i : Int) + 1)) rfl (fun _ => rfl) ?_
              simp only [Act.put, List.setIfInBounds_toArray, List.set_cons_zero, List.set_cons_succ]
              refine wl_nil ?_
              exact we_meet ⟨(i + 1), _, _, _, _, _, _, _, _, _, _, _, _, _, _, _, _, _⟩ (by (try dsimp only); refine ⟨⟨by omega, fun k hk hw => ?_⟩, by omega⟩; rcases Nat.lt_succ_iff_lt_or_eq.1 hk with hk | hk; exact b2 k hk hw; subst hk; exact absurd (by simpa using h16) hw) rfl (List.Sublist.cons _ List.Sublist.slnil)
            · skip
              have p16 : (i : Int) ≠ q := by simpa using h16
              refine wl_load 25 (.tmp 10) (own_row 0 rfl) rfl rfl rfl Try.underlying25 rfl (by kernel_rfl) ?_
              simp only [Act.put, List.setIfInBounds_toArray, List.set_cons_zero, List.set_cons_succ]
              refine wl_val (.int .i64 x) rfl (fun _ => rfl) ?_
              simp only [Act.put, List.setIfInBounds_toArray, List.set_cons_zero, List.set_cons_succ]
              refine wl_call 13 #[.agg #[.int .i64 ((L[i]!).1), .int .i64 ((L[i]!).2)], .int .i64 x] (.bool (hasB (L[i]!) x)) rfl (fun _ => by go_simp) (fun W => has_any ((L[i]!).1) ((L[i]!).2) x W) ?_
              simp only [Act.put, List.setIfInBounds_toArray, List.set_cons_zero, List.set_cons_succ]
              refine wl_val (.bool (!(hasB (L[i]!) x))) rfl (fun _ => by go_simp) ?_
              simp only [Act.put, List.setIfInBounds_toArray, List.set_cons_zero, List.set_cons_succ]
              refine wl_val (.bool (!(hasB (L[i]!) x))) rfl (fun _ => rfl) ?_
              simp only [Act.put, List.setIfInBounds_toArray, List.set_cons_zero, List.set_cons_succ]
              refine wl_nil ?_
              refine we_then ?_
              cases h17 : (hasB (L[i]!) x)
              · skip
                refine wc_true rfl ?_
                refine wc_seq ?_
                refine wc_region ?_
                refine wl_val (.bool true) rfl (fun _ => rfl) ?_
                simp only [Act.put, List.setIfInBounds_toArray, List.set_cons_zero, List.set_cons_succ]
                refine wl_nil ?_
                refine we_then ?_
                refine wc_ret ?_
                refine we_in_ret ?_
                refine we_then_ret ?_
                refine we_then_ret ?_
                refine we_in_ret ?_
                refine we_then_ret ?_
                refine we_ret1 (.bool true) rfl rfl rfl (fun w1 hE => ?_)
                exact ⟨rfl, hE.below⟩
              · skip
                refine wc_false rfl ?_
                refine wc_skip ?_
                refine we_in ?_
                refine we_then ?_
                refine wc_region ?_
                refine wl_val (.int .i64 ((i : Int) + 1)) rfl (fun w => run_arith (op := .add) rfl rfl rfl Try.underlying3 (congrArg some (i64_in (by omega) (by omega))) w) ?_
                simp only [Act.put, List.setIfInBounds_toArray, List.set_cons_zero, List.set_cons_succ]
                refine wl_val (.int .i64 ((i : Int) + 1)) rfl (fun _ => rfl) ?_
                simp only [Act.put, List.setIfInBounds_toArray, List.set_cons_zero, List.set_cons_succ]
                refine wl_nil ?_
                exact we_meet ⟨(i + 1), _, _, _, _, _, _, _, _, _, _, _, _, _, _, _, _, _⟩ (by (try dsimp only); refine ⟨⟨by omega, fun k hk hw => ?_⟩, by omega⟩; rcases Nat.lt_succ_iff_lt_or_eq.1 hk with hk | hk; exact b2 k hk hw; subst hk; exact h17) rfl (List.Sublist.cons _ List.Sublist.slnil)
        · skip
          have p4 : (L.length : Int) ≤ q := of_decide_eq_true h4
          refine wc_true rfl ?_
          refine wc_seq ?_
          refine wc_region ?_
          refine wl_val (.bool true) rfl (fun _ => rfl) ?_
          simp only [Act.put, List.setIfInBounds_toArray, List.set_cons_zero, List.set_cons_succ]
          refine wl_nil ?_
          refine we_then ?_
          refine wc_ret ?_
          refine we_then_ret ?_
          refine we_ret1 (.bool true) rfl rfl rfl (fun w1 hE => ?_)
          exact ⟨rfl, hE.below⟩
      · skip
        have p3 : q < 0 := of_decide_eq_true h3
        refine wl_skip rfl ?_
        simp only [Act.put, List.setIfInBounds_toArray, List.set_cons_zero, List.set_cons_succ]
        refine wl_skip rfl ?_
        simp only [Act.put, List.setIfInBounds_toArray, List.set_cons_zero, List.set_cons_succ]
        refine wl_skip rfl ?_
        simp only [Act.put, List.setIfInBounds_toArray, List.set_cons_zero, List.set_cons_succ]
        refine wl_skip rfl ?_
        simp only [Act.put, List.setIfInBounds_toArray, List.set_cons_zero, List.set_cons_succ]
        refine wl_val (.bool true) rfl (fun _ => rfl) ?_
        simp only [Act.put, List.setIfInBounds_toArray, List.set_cons_zero, List.set_cons_succ]
        refine wl_nil ?_
        refine we_then ?_
        refine wc_true rfl ?_
        refine wc_seq ?_
        refine wc_region ?_
        refine wl_val (.bool true) rfl (fun _ => rfl) ?_
        simp only [Act.put, List.setIfInBounds_toArray, List.set_cons_zero, List.set_cons_succ]
        refine wl_nil ?_
        refine we_then ?_
        refine wc_ret ?_
        refine we_then_ret ?_
        refine we_ret1 (.bool true) rfl rfl rfl (fun w1 hE => ?_)
        exact ⟨rfl, hE.below⟩
    · skip
      have p2 : 40 < (L.length : Int) := of_decide_eq_true h2
      refine wl_skip rfl ?_
      simp only [Act.put, List.setIfInBounds_toArray, List.set_cons_zero, List.set_cons_succ]
      refine wl_skip rfl ?_
      simp only [Act.put, List.setIfInBounds_toArray, List.set_cons_zero, List.set_cons_succ]
      refine wl_val (.bool true) rfl (fun _ => rfl) ?_
      simp only [Act.put, List.setIfInBounds_toArray, List.set_cons_zero, List.set_cons_succ]
      refine wl_val (.bool true) rfl (fun _ => rfl) ?_
      simp only [Act.put, List.setIfInBounds_toArray, List.set_cons_zero, List.set_cons_succ]
      refine wl_skip rfl ?_
      simp only [Act.put, List.setIfInBounds_toArray, List.set_cons_zero, List.set_cons_succ]
      refine wl_skip rfl ?_
      simp only [Act.put, List.setIfInBounds_toArray, List.set_cons_zero, List.set_cons_succ]
      refine wl_skip rfl ?_
      simp only [Act.put, List.setIfInBounds_toArray, List.set_cons_zero, List.set_cons_succ]
      refine wl_skip rfl ?_
      simp only [Act.put, List.setIfInBounds_toArray, List.set_cons_zero, List.set_cons_succ]
      refine wl_val (.bool true) rfl (fun _ => rfl) ?_
      simp only [Act.put, List.setIfInBounds_toArray, List.set_cons_zero, List.set_cons_succ]
      refine wl_nil ?_
      refine we_then ?_
      refine wc_true rfl ?_
      refine wc_seq ?_
      refine wc_region ?_
      refine wl_val (.bool true) rfl (fun _ => rfl) ?_
      simp only [Act.put, List.setIfInBounds_toArray, List.set_cons_zero, List.set_cons_succ]
      refine wl_nil ?_
      refine we_then ?_
      refine wc_ret ?_
      refine we_then_ret ?_
      refine we_ret1 (.bool true) rfl rfl rfl (fun w1 hE => ?_)
      exact ⟨rfl, hE.below⟩
  · skip
    have p1 : (L.length : Int) < 3 := of_decide_eq_true h1
    refine wl_skip rfl ?_
    simp only [Act.put, List.setIfInBounds_toArray, List.set_cons_zero, List.set_cons_succ]
    refine wl_skip rfl ?_
    simp only [Act.put, List.setIfInBounds_toArray, List.set_cons_zero, List.set_cons_succ]
    refine wl_skip rfl ?_
    simp only [Act.put, List.setIfInBounds_toArray, List.set_cons_zero, List.set_cons_succ]
    refine wl_val (.bool true) rfl (fun _ => rfl) ?_
    simp only [Act.put, List.setIfInBounds_toArray, List.set_cons_zero, List.set_cons_succ]
    refine wl_val (.bool true) rfl (fun _ => rfl) ?_
    simp only [Act.put, List.setIfInBounds_toArray, List.set_cons_zero, List.set_cons_succ]
    refine wl_skip rfl ?_
    simp only [Act.put, List.setIfInBounds_toArray, List.set_cons_zero, List.set_cons_succ]
    refine wl_skip rfl ?_
    simp only [Act.put, List.setIfInBounds_toArray, List.set_cons_zero, List.set_cons_succ]
    refine wl_val (.bool true) rfl (fun _ => rfl) ?_
    simp only [Act.put, List.setIfInBounds_toArray, List.set_cons_zero, List.set_cons_succ]
    refine wl_val (.bool true) rfl (fun _ => rfl) ?_
    simp only [Act.put, List.setIfInBounds_toArray, List.set_cons_zero, List.set_cons_succ]
    refine wl_skip rfl ?_
    simp only [Act.put, List.setIfInBounds_toArray, List.set_cons_zero, List.set_cons_succ]
    refine wl_skip rfl ?_
    simp only [Act.put, List.setIfInBounds_toArray, List.set_cons_zero, List.set_cons_succ]
    refine wl_skip rfl ?_
    simp only [Act.put, List.setIfInBounds_toArray, List.set_cons_zero, List.set_cons_succ]
    refine wl_skip rfl ?_
    simp only [Act.put, List.setIfInBounds_toArray, List.set_cons_zero, List.set_cons_succ]
    refine wl_val (.bool true) rfl (fun _ => rfl) ?_
    simp only [Act.put, List.setIfInBounds_toArray, List.set_cons_zero, List.set_cons_succ]
    refine wl_nil ?_
    refine we_then ?_
    refine wc_true rfl ?_
    refine wc_seq ?_
    refine wc_region ?_
    refine wl_val (.bool true) rfl (fun _ => rfl) ?_
    simp only [Act.put, List.setIfInBounds_toArray, List.set_cons_zero, List.set_cons_succ]
    refine wl_nil ?_
    refine we_then ?_
    refine wc_ret ?_
    refine we_then_ret ?_
    refine we_ret1 (.bool true) rfl rfl rfl (fun w1 hE => ?_)
    exact ⟨rfl, hE.below⟩
end Go.Proofs.Ytppfkjbafbajgaa.Walks
