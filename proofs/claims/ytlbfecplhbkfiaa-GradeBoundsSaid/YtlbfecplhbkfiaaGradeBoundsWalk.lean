/-
  GradeBounds: the law's walk. No condition.
-/
import Derived.Test.YtlbfecplhbkfiaaGlw
namespace Go.Proofs.Ytlbfecplhbkfiaa.Walks
open Go.ChangeShapes Go.WideShapes Go.ChangeAt Go.RowKit
open Arr Steady Sx Sw Sl Sb Sc Si Sj Sk Sh Vs Gr Gref Spn Gra Glw
set_option linter.unusedVariables false
set_option linter.unusedSimpArgs false
set_option maxRecDepth 100000

set_option maxHeartbeats 2000000 in
theorem gradeBounds_walk (L : Spans) (p : Option Addr) (c : Nat) (s1 : Int) (ws1 : (Lit.int .i64 s1).wf = true) (s2 : Int) (ws2 : (Lit.int .i64 s2).wf = true) (w : World) (hL : Reads w p (flat enc2 L)) (hF : FitL L) :
    Calls Try.prog 5 #[.slice p L.length c, .agg #[.int .i64 s1, .int .i64 s2]] w fun e w' => e = .returned (.bool true) ∧ Below w.heap.size w w' := by
  refine calls_sx Try.func5 rfl ?_
  simp only [Try.ntmps5, List.size_toArray, List.length_cons, List.length_nil, Nat.reduceAdd, Nat.reduceSub, Array.replicate_succ, Array.replicate_zero, List.push_toArray, List.append_toArray, List.nil_append, List.cons_append]
  refine wc_seq ?_
  refine wc_region ?_
  refine wl_new 31 (#[.int .i64 s1, .int .i64 s2]) rfl (fun _ => by go_simp) ?_
  intro g1
  simp only [Act.put, List.setIfInBounds_toArray, List.set_cons_zero, List.set_cons_succ]
  refine wl_val (.bool false) rfl (fun _ => rfl) ?_
  simp only [Act.put, List.setIfInBounds_toArray, List.set_cons_zero, List.set_cons_succ]
  refine wl_nil ?_
  refine we_then ?_
  refine wc_seq ?_
  refine wc_seq ?_
  refine wc_region ?_
  refine wl_call 7 #[] (.bool true) rfl (fun _ => by go_simp) (fun W => Glw.anchor_any W) ?_
  simp only [Act.put, List.setIfInBounds_toArray, List.set_cons_zero, List.set_cons_succ]
  refine wl_val (.bool false) rfl (fun _ => by go_simp) ?_
  simp only [Act.put, List.setIfInBounds_toArray, List.set_cons_zero, List.set_cons_succ]
  refine wl_nil ?_
  refine we_then ?_
  refine wc_false rfl ?_
  refine wc_skip ?_
  refine we_then ?_
  refine wc_seq ?_
  refine wc_seq ?_
  refine wc_region ?_
  refine wl_val (.slice p L.length c) rfl (fun _ => rfl) ?_
  simp only [Act.put, List.setIfInBounds_toArray, List.set_cons_zero, List.set_cons_succ]
  refine wl_val (.int .i64 (L.length : Int)) rfl (fun w => er_len rfl rfl Try.underlying22 w) ?_
  simp only [Act.put, List.setIfInBounds_toArray, List.set_cons_zero, List.set_cons_succ]
  refine wl_val (.bool (decide (200 < (L.length : Int)))) rfl (fun w => run_cmp rfl rfl rfl Try.underlying3 rfl w) ?_
  simp only [Act.put, List.setIfInBounds_toArray, List.set_cons_zero, List.set_cons_succ]
  refine wl_val (.bool (decide (200 < (L.length : Int)))) rfl (fun _ => rfl) ?_
  simp only [Act.put, List.setIfInBounds_toArray, List.set_cons_zero, List.set_cons_succ]
  cases h2 : (decide (200 < (L.length : Int)))
  · skip
    have p2 : ¬ (200 < (L.length : Int)) := of_decide_eq_false h2
    refine wl_val (.slice p L.length c) rfl (fun _ => rfl) ?_
    simp only [Act.put, List.setIfInBounds_toArray, List.set_cons_zero, List.set_cons_succ]
    refine wl_call_open (ι := Option Addr × Nat × List Rw) (fun zz => match zz with | ⟨pk3, ck3, Nk3⟩ => ⟨g1, #[.int .i64 s1, .int .i64 s2], 31⟩ :: Nk3) 10 #[.slice p L.length c] (fun zz => match zz with | ⟨pk3, ck3, Nk3⟩ => .slice pk3 L.length ck3) (fun zz => match zz with | ⟨pk3, ck3, Nk3⟩ => Nk3) (fun zz => match zz with | ⟨pk3, ck3, Nk3⟩ => Held Nk3 pk3 (flat enc2 L)) (by rintro ⟨pk3, ck3, Nk3⟩; simp) rfl (fun _ => by go_simp) (fun W hE => (Gref.refs_any L _ _ W ((sl_old hL) W hE) (by omega)).mono (fun e w1 ⟨s, k1, k2, k3⟩ => ⟨⟨s.ptr, s.cap, s.rows 45⟩, held_own k1, k2, k3⟩)) ?_
    rintro ⟨pk3, ck3, Nk3⟩ k3
    (try dsimp only)
    simp only [Act.put, List.setIfInBounds_toArray, List.set_cons_zero, List.set_cons_succ]
    refine wl_call_at 9 #[.slice pk3 L.length ck3, .int .i64 9223372036854775807] (.bool (mayB L 9223372036854775807)) rfl (fun _ => by go_simp) (fun W hE => Gref.may_any L _ _ 9223372036854775807 W ((sl_held k3 (List.Sublist.cons _ (List.Sublist.refl _))) W hE) (by omega)) ?_
    simp only [Act.put, List.setIfInBounds_toArray, List.set_cons_zero, List.set_cons_succ]
    refine wl_val (.bool (!(mayB L 9223372036854775807))) rfl (fun _ => by go_simp) ?_
    simp only [Act.put, List.setIfInBounds_toArray, List.set_cons_zero, List.set_cons_succ]
    refine wl_val (.bool (!(mayB L 9223372036854775807))) rfl (fun _ => rfl) ?_
    simp only [Act.put, List.setIfInBounds_toArray, List.set_cons_zero, List.set_cons_succ]
    refine wl_nil ?_
    refine we_then ?_
    cases h4 : (mayB L 9223372036854775807)
    · skip
      refine wc_true rfl ?_
      refine wc_seq ?_
      refine wc_region ?_
      refine wl_val (.bool true) rfl (fun _ => rfl) ?_
      simp only [Act.put, List.setIfInBounds_toArray, List.set_cons_zero, List.set_cons_succ]
      refine wl_nil ?_
      refine we_then ?_
      refine wc_ret ?_
      refine we_then_ret ?_
      refine we_ret1 (.bool true) rfl rfl rfl (fun w1 hE => ?_)
      exact ⟨rfl, hE.below⟩
    · skip
      refine wc_false rfl ?_
      refine wc_skip ?_
      refine we_then ?_
      refine wc_seq ?_
      refine wc_region ?_
      refine wl_val (.slice p L.length c) rfl (fun _ => rfl) ?_
      simp only [Act.put, List.setIfInBounds_toArray, List.set_cons_zero, List.set_cons_succ]
      refine wl_load 31 (.tmp 3) (own_row 0 rfl) rfl rfl rfl Try.underlying31 rfl (by kernel_rfl) ?_
      simp only [Act.put, List.setIfInBounds_toArray, List.set_cons_zero, List.set_cons_succ]
      cases h5 : (decide (s1 ≤ s2))
      · skip
        have p5 : ¬ (s1 ≤ s2) := of_decide_eq_false h5
        refine wl_call_at 12 #[.slice p L.length c, .agg #[.int .i64 s1, .int .i64 s2]] (.tuple #[.agg #[.int .i64 0, .int .i64 0], .bool false]) rfl (fun _ => by go_simp) (fun W hE => Gra.bounds_no L _ _ s1 s2 _ W ((sl_old hL) W hE) (may_of h4) (of_decide_eq_false h5)) ?_
        simp only [Act.put, List.setIfInBounds_toArray, List.set_cons_zero, List.set_cons_succ]
        refine wl_val (.tuple #[.agg #[.int .i64 0, .int .i64 0], .bool false]) rfl (fun _ => rfl) ?_
        simp only [Act.put, List.setIfInBounds_toArray, List.set_cons_zero, List.set_cons_succ]
        refine wl_val (.agg #[.int .i64 0, .int .i64 0]) rfl (fun _ => by go_simp) ?_
        simp only [Act.put, List.setIfInBounds_toArray, List.set_cons_zero, List.set_cons_succ]
        refine wl_val (.bool false) rfl (fun _ => by go_simp) ?_
        simp only [Act.put, List.setIfInBounds_toArray, List.set_cons_zero, List.set_cons_succ]
        refine wl_new 31 (#[.int .i64 0, .int .i64 0]) rfl (fun _ => by go_simp) ?_
        intro g6
        simp only [Act.put, List.setIfInBounds_toArray, List.set_cons_zero, List.set_cons_succ]
        refine wl_store 0 31 (.tmp 5) (.tmp 24) (#[.int .i64 0, .int .i64 0]) rfl rfl rfl rfl rfl (by kernel_rfl) rfl (by simp [Value.oneCell']) ?_
        simp only [Act.put, List.set_cons_zero]
        refine wl_val (.bool false) rfl (fun _ => rfl) ?_
        simp only [Act.put, List.setIfInBounds_toArray, List.set_cons_zero, List.set_cons_succ]
        refine wl_nil ?_
        refine we_then ?_
        refine wc_seq ?_
        refine wc_seq ?_
        refine wc_region ?_
        refine wl_val (.pointer (some ⟨g1, 0, none⟩)) rfl (fun _ => by go_simp) ?_
        simp only [Act.put, List.setIfInBounds_toArray, List.set_cons_zero, List.set_cons_succ]
        refine wl_cell 2 (.tmp 26) (.int .i64 s1) (own_row 1 rfl) rfl rfl rfl rfl Try.isAgg2 ?_
        simp only [Act.put, List.setIfInBounds_toArray, List.set_cons_zero, List.set_cons_succ]
        refine wl_val (.pointer (some ⟨g1, 1, none⟩)) rfl (fun _ => by go_simp) ?_
        simp only [Act.put, List.setIfInBounds_toArray, List.set_cons_zero, List.set_cons_succ]
        refine wl_cell 2 (.tmp 28) (.int .i64 s2) (own_row 1 rfl) rfl rfl rfl rfl Try.isAgg2 ?_
        simp only [Act.put, List.setIfInBounds_toArray, List.set_cons_zero, List.set_cons_succ]
        refine wl_val (.bool (decide (s2 < s1))) rfl (fun w => run_cmp rfl rfl rfl Try.underlying2 rfl w) ?_
        simp only [Act.put, List.setIfInBounds_toArray, List.set_cons_zero, List.set_cons_succ]
        refine wl_nil ?_
        refine we_then ?_
        cases h7 : (decide (s2 < s1))
        · skip
          have p7 : ¬ (s2 < s1) := of_decide_eq_false h7
          refine wc_false rfl ?_
          refine wc_skip ?_
          refine we_then ?_
          refine wc_seq ?_
          refine wc_draw_ghost (Γ := Option Addr × Nat × List Rw) 1 10 #[.slice p L.length c] (fun k => [false, true, false, false, false, false, true, true, true, true, true, true].getD k false) (fun k => [.slice p L.length c, undef, .pointer (some ⟨g1, 0, none⟩), .int .i64 s1, .pointer (some ⟨g1, 1, none⟩), .int .i64 s2, undef, undef, undef, undef, undef, undef].getD k undef) (fun zz => match zz with | ⟨pk8, ck8, Nk8⟩ => fun k => [undef, .slice pk8 L.length ck8, undef, undef, undef, undef, .tuple #[.int .i64 ((bnd L s1 s2 L.length).1), .int .i64 ((bnd L s1 s2 L.length).2)], .tuple #[.int .i64 ((bnd L s1 s2 L.length).1), .int .i64 ((bnd L s1 s2 L.length).2)], .int .i64 ((bnd L s1 s2 L.length).1), .int .i64 ((bnd L s1 s2 L.length).2), .int .i64 ((bnd L s1 s2 L.length).1), .int .i64 ((bnd L s1 s2 L.length).2)].getD k undef) (fun zz => match zz with | ⟨pk8, ck8, Nk8⟩ => Nk8) (fun zz => match zz with | ⟨pk8, ck8, Nk8⟩ => ⟨g6, #[.int .i64 0, .int .i64 0], 31⟩ :: ⟨g1, #[.int .i64 s1, .int .i64 s2], 31⟩ :: (Nk3 ++ Nk8)) (fun zz => match zz with | ⟨pk8, ck8, Nk8⟩ => Held Nk8 pk8 (flat enc2 L)) 61 (by kernel_rfl) rfl (by kernel_rfl) (by kernel_rfl) rfl (by decide) (by rintro ⟨pk8, ck8, Nk8⟩; simp) (fun W hE => (Gref.refs_any L _ _ W ((sl_old hL) W hE) (by omega)).mono (fun e w1 ⟨s, k1, k2, k3⟩ => ⟨⟨s.ptr, s.cap, s.rows 45⟩, held_own k1, k2, k3⟩)) ?_ ?_
          · intro z
            refine wg_val (.slice p L.length c) rfl rfl rfl (fun _ => rfl) ?_
            simp only [Nat.reduceAdd, Act.put, List.setIfInBounds_toArray, List.set_cons_zero, List.set_cons_succ]
            refine wg_own (z 1) rfl rfl rfl (fun _ => by go_simp) ?_
            simp only [Nat.reduceAdd, Act.put, List.setIfInBounds_toArray, List.set_cons_zero, List.set_cons_succ]
            refine wg_val (.pointer (some ⟨g1, 0, none⟩)) rfl rfl rfl (fun _ => by go_simp) ?_
            simp only [Nat.reduceAdd, Act.put, List.setIfInBounds_toArray, List.set_cons_zero, List.set_cons_succ]
            refine wg_cell 2 (.tmp 41) (.int .i64 s1) (own_row 1 rfl) rfl rfl rfl rfl rfl rfl Try.isAgg2 ?_
            simp only [Nat.reduceAdd, Act.put, List.setIfInBounds_toArray, List.set_cons_zero, List.set_cons_succ]
            refine wg_val (.pointer (some ⟨g1, 1, none⟩)) rfl rfl rfl (fun _ => by go_simp) ?_
            simp only [Nat.reduceAdd, Act.put, List.setIfInBounds_toArray, List.set_cons_zero, List.set_cons_succ]
            refine wg_cell 2 (.tmp 43) (.int .i64 s2) (own_row 1 rfl) rfl rfl rfl rfl rfl rfl Try.isAgg2 ?_
            simp only [Nat.reduceAdd, Act.put, List.setIfInBounds_toArray, List.set_cons_zero, List.set_cons_succ]
            refine wg_pass (z 6) rfl rfl rfl ?_
            simp only [Nat.reduceAdd, Act.put, List.setIfInBounds_toArray, List.set_cons_zero, List.set_cons_succ]
            refine wg_pass (z 7) rfl rfl rfl ?_
            simp only [Nat.reduceAdd, Act.put, List.setIfInBounds_toArray, List.set_cons_zero, List.set_cons_succ]
            refine wg_pass (z 8) rfl rfl rfl ?_
            simp only [Nat.reduceAdd, Act.put, List.setIfInBounds_toArray, List.set_cons_zero, List.set_cons_succ]
            refine wg_pass (z 9) rfl rfl rfl ?_
            simp only [Nat.reduceAdd, Act.put, List.setIfInBounds_toArray, List.set_cons_zero, List.set_cons_succ]
            refine wg_pass (z 10) rfl rfl rfl ?_
            simp only [Nat.reduceAdd, Act.put, List.setIfInBounds_toArray, List.set_cons_zero, List.set_cons_succ]
            refine wg_pass (z 11) rfl rfl rfl ?_
            simp only [Nat.reduceAdd, Act.put, List.setIfInBounds_toArray, List.set_cons_zero, List.set_cons_succ]
            exact wg_nil trivial
          · rintro ⟨pk8, ck8, Nk8⟩ k8
            (try dsimp only)
            refine wg_pass (.slice p L.length c) rfl rfl rfl ?_
            simp only [Nat.reduceAdd, Act.put, List.setIfInBounds_toArray, List.set_cons_zero, List.set_cons_succ]
            refine wg_own (.slice pk8 L.length ck8) rfl rfl rfl (fun _ => by go_simp) ?_
            simp only [Nat.reduceAdd, Act.put, List.setIfInBounds_toArray, List.set_cons_zero, List.set_cons_succ]
            refine wg_pass (.pointer (some ⟨g1, 0, none⟩)) rfl rfl rfl ?_
            simp only [Nat.reduceAdd, Act.put, List.setIfInBounds_toArray, List.set_cons_zero, List.set_cons_succ]
            refine wg_pass (.int .i64 s1) rfl rfl rfl ?_
            simp only [Nat.reduceAdd, Act.put, List.setIfInBounds_toArray, List.set_cons_zero, List.set_cons_succ]
            refine wg_pass (.pointer (some ⟨g1, 1, none⟩)) rfl rfl rfl ?_
            simp only [Nat.reduceAdd, Act.put, List.setIfInBounds_toArray, List.set_cons_zero, List.set_cons_succ]
            refine wg_pass (.int .i64 s2) rfl rfl rfl ?_
            simp only [Nat.reduceAdd, Act.put, List.setIfInBounds_toArray, List.set_cons_zero, List.set_cons_succ]
            refine wg_call_at 15 #[.slice pk8 L.length ck8, .int .i64 s1, .int .i64 s2] (.tuple #[.int .i64 ((bnd L s1 s2 L.length).1), .int .i64 ((bnd L s1 s2 L.length).2)]) rfl rfl rfl (fun _ => by go_simp) (fun W hE => Gref.bounds_any L _ _ s1 s2 W ((sl_held k8 (List.Sublist.cons _ (List.Sublist.cons _ (List.sublist_append_of_sublist_right (List.Sublist.refl _))))) W hE) (by omega)) ?_
            simp only [Nat.reduceAdd, Act.put, List.setIfInBounds_toArray, List.set_cons_zero, List.set_cons_succ]
            refine wg_val (.tuple #[.int .i64 ((bnd L s1 s2 L.length).1), .int .i64 ((bnd L s1 s2 L.length).2)]) rfl rfl rfl (fun _ => rfl) ?_
            simp only [Nat.reduceAdd, Act.put, List.setIfInBounds_toArray, List.set_cons_zero, List.set_cons_succ]
            refine wg_val (.int .i64 ((bnd L s1 s2 L.length).1)) rfl rfl rfl (fun _ => by go_simp) ?_
            simp only [Nat.reduceAdd, Act.put, List.setIfInBounds_toArray, List.set_cons_zero, List.set_cons_succ]
            refine wg_val (.int .i64 ((bnd L s1 s2 L.length).2)) rfl rfl rfl (fun _ => by go_simp) ?_
            simp only [Nat.reduceAdd, Act.put, List.setIfInBounds_toArray, List.set_cons_zero, List.set_cons_succ]
            refine wg_val (.int .i64 ((bnd L s1 s2 L.length).1)) rfl rfl rfl (fun _ => rfl) ?_
            simp only [Nat.reduceAdd, Act.put, List.setIfInBounds_toArray, List.set_cons_zero, List.set_cons_succ]
            refine wg_val (.int .i64 ((bnd L s1 s2 L.length).2)) rfl rfl rfl (fun _ => rfl) ?_
            simp only [Nat.reduceAdd, Act.put, List.setIfInBounds_toArray, List.set_cons_zero, List.set_cons_succ]
            refine wg_nil ?_
            refine we_then ?_
            refine wc_seq ?_
            refine wc_region ?_
            refine wl_val (.bool false) rfl (fun _ => rfl) ?_
            simp only [Act.put, List.setIfInBounds_toArray, List.set_cons_zero, List.set_cons_succ]
            refine wl_val (.bool false) rfl (fun _ => rfl) ?_
            simp only [Act.put, List.setIfInBounds_toArray, List.set_cons_zero, List.set_cons_succ]
            refine wl_skip rfl ?_
            simp only [Act.put, List.setIfInBounds_toArray, List.set_cons_zero, List.set_cons_succ]
            refine wl_skip rfl ?_
            simp only [Act.put, List.setIfInBounds_toArray, List.set_cons_zero, List.set_cons_succ]
            refine wl_skip rfl ?_
            simp only [Act.put, List.setIfInBounds_toArray, List.set_cons_zero, List.set_cons_succ]
            refine wl_skip rfl ?_
            simp only [Act.put, List.setIfInBounds_toArray, List.set_cons_zero, List.set_cons_succ]
            refine wl_val (.bool false) rfl (fun _ => rfl) ?_
            simp only [Act.put, List.setIfInBounds_toArray, List.set_cons_zero, List.set_cons_succ]
            refine wl_val (.bool false) rfl (fun _ => rfl) ?_
            simp only [Act.put, List.setIfInBounds_toArray, List.set_cons_zero, List.set_cons_succ]
            refine wl_skip rfl ?_
            simp only [Act.put, List.setIfInBounds_toArray, List.set_cons_zero, List.set_cons_succ]
            refine wl_skip rfl ?_
            simp only [Act.put, List.setIfInBounds_toArray, List.set_cons_zero, List.set_cons_succ]
            refine wl_skip rfl ?_
            simp only [Act.put, List.setIfInBounds_toArray, List.set_cons_zero, List.set_cons_succ]
            refine wl_skip rfl ?_
            simp only [Act.put, List.setIfInBounds_toArray, List.set_cons_zero, List.set_cons_succ]
            refine wl_val (.bool false) rfl (fun _ => rfl) ?_
            simp only [Act.put, List.setIfInBounds_toArray, List.set_cons_zero, List.set_cons_succ]
            refine wl_val (.bool false) rfl (fun _ => rfl) ?_
            simp only [Act.put, List.setIfInBounds_toArray, List.set_cons_zero, List.set_cons_succ]
            refine wl_nil ?_
            refine we_then ?_
            refine wc_ret ?_
            refine we_ret1 (.bool false) rfl rfl rfl (fun w1 hE => ?_)
            exact (by exfalso; omega)
        · skip
          have p7 : s2 < s1 := of_decide_eq_true h7
          refine wc_true rfl ?_
          refine wc_seq ?_
          refine wc_region ?_
          refine wl_val (.bool false) rfl (fun _ => rfl) ?_
          simp only [Act.put, List.setIfInBounds_toArray, List.set_cons_zero, List.set_cons_succ]
          refine wl_val (.bool true) rfl (fun _ => by go_simp) ?_
          simp only [Act.put, List.setIfInBounds_toArray, List.set_cons_zero, List.set_cons_succ]
          refine wl_val (.bool true) rfl (fun _ => rfl) ?_
          simp only [Act.put, List.setIfInBounds_toArray, List.set_cons_zero, List.set_cons_succ]
          refine wl_load 31 (.tmp 5) (own_row 0 rfl) rfl rfl rfl Try.underlying31 rfl (by kernel_rfl) ?_
          simp only [Act.put, List.setIfInBounds_toArray, List.set_cons_zero, List.set_cons_succ]
          refine wl_val (.agg #[.int .i64 0, .int .i64 0]) rfl (fun _ => by go_simp) ?_
          simp only [Act.put, List.setIfInBounds_toArray, List.set_cons_zero, List.set_cons_succ]
          refine wl_val (.bool true) rfl (fun _ => by go_simp) ?_
          simp only [Act.put, List.setIfInBounds_toArray, List.set_cons_zero, List.set_cons_succ]
          refine wl_val (.bool true) rfl (fun _ => rfl) ?_
          simp only [Act.put, List.setIfInBounds_toArray, List.set_cons_zero, List.set_cons_succ]
          refine wl_val (.bool true) rfl (fun _ => rfl) ?_
          simp only [Act.put, List.setIfInBounds_toArray, List.set_cons_zero, List.set_cons_succ]
          refine wl_nil ?_
          refine we_then ?_
          refine wc_ret ?_
          refine we_then_ret ?_
          refine we_ret1 (.bool true) rfl rfl rfl (fun w1 hE => ?_)
          exact ⟨rfl, hE.below⟩
      · skip
        have p5 : s1 ≤ s2 := of_decide_eq_true h5
        refine wl_call_at 12 #[.slice p L.length c, .agg #[.int .i64 s1, .int .i64 s2]] (.tuple #[.agg #[.int .i64 ((bnd L s1 s2 L.length).1), .int .i64 ((bnd L s1 s2 L.length).2)], .bool true]) rfl (fun _ => by go_simp) (fun W hE => Gra.bounds_yes L _ _ s1 s2 _ W ((sl_old hL) W hE) (may_of h4) (of_decide_eq_true h5)) ?_
        simp only [Act.put, List.setIfInBounds_toArray, List.set_cons_zero, List.set_cons_succ]
        refine wl_val (.tuple #[.agg #[.int .i64 ((bnd L s1 s2 L.length).1), .int .i64 ((bnd L s1 s2 L.length).2)], .bool true]) rfl (fun _ => rfl) ?_
        simp only [Act.put, List.setIfInBounds_toArray, List.set_cons_zero, List.set_cons_succ]
        refine wl_val (.agg #[.int .i64 ((bnd L s1 s2 L.length).1), .int .i64 ((bnd L s1 s2 L.length).2)]) rfl (fun _ => by go_simp) ?_
        simp only [Act.put, List.setIfInBounds_toArray, List.set_cons_zero, List.set_cons_succ]
        refine wl_val (.bool true) rfl (fun _ => by go_simp) ?_
        simp only [Act.put, List.setIfInBounds_toArray, List.set_cons_zero, List.set_cons_succ]
        refine wl_new 31 (#[.int .i64 0, .int .i64 0]) rfl (fun _ => by go_simp) ?_
        intro g8
        simp only [Act.put, List.setIfInBounds_toArray, List.set_cons_zero, List.set_cons_succ]
        refine wl_store 0 31 (.tmp 5) (.tmp 24) (#[.int .i64 ((bnd L s1 s2 L.length).1), .int .i64 ((bnd L s1 s2 L.length).2)]) rfl rfl rfl rfl rfl (by kernel_rfl) rfl (by simp [Value.oneCell']) ?_
        simp only [Act.put, List.set_cons_zero]
        refine wl_val (.bool true) rfl (fun _ => rfl) ?_
        simp only [Act.put, List.setIfInBounds_toArray, List.set_cons_zero, List.set_cons_succ]
        refine wl_nil ?_
        refine we_then ?_
        refine wc_seq ?_
        refine wc_seq ?_
        refine wc_region ?_
        refine wl_val (.pointer (some ⟨g1, 0, none⟩)) rfl (fun _ => by go_simp) ?_
        simp only [Act.put, List.setIfInBounds_toArray, List.set_cons_zero, List.set_cons_succ]
        refine wl_cell 2 (.tmp 26) (.int .i64 s1) (own_row 1 rfl) rfl rfl rfl rfl Try.isAgg2 ?_
        simp only [Act.put, List.setIfInBounds_toArray, List.set_cons_zero, List.set_cons_succ]
        refine wl_val (.pointer (some ⟨g1, 1, none⟩)) rfl (fun _ => by go_simp) ?_
        simp only [Act.put, List.setIfInBounds_toArray, List.set_cons_zero, List.set_cons_succ]
        refine wl_cell 2 (.tmp 28) (.int .i64 s2) (own_row 1 rfl) rfl rfl rfl rfl Try.isAgg2 ?_
        simp only [Act.put, List.setIfInBounds_toArray, List.set_cons_zero, List.set_cons_succ]
        refine wl_val (.bool (decide (s2 < s1))) rfl (fun w => run_cmp rfl rfl rfl Try.underlying2 rfl w) ?_
        simp only [Act.put, List.setIfInBounds_toArray, List.set_cons_zero, List.set_cons_succ]
        refine wl_nil ?_
        refine we_then ?_
        cases h9 : (decide (s2 < s1))
        · skip
          have p9 : ¬ (s2 < s1) := of_decide_eq_false h9
          refine wc_false rfl ?_
          refine wc_skip ?_
          refine we_then ?_
          refine wc_seq ?_
          refine wc_draw_ghost (Γ := Option Addr × Nat × List Rw) 1 10 #[.slice p L.length c] (fun k => [false, true, false, false, false, false, true, true, true, true, true, true].getD k false) (fun k => [.slice p L.length c, undef, .pointer (some ⟨g1, 0, none⟩), .int .i64 s1, .pointer (some ⟨g1, 1, none⟩), .int .i64 s2, undef, undef, undef, undef, undef, undef].getD k undef) (fun zz => match zz with | ⟨pk10, ck10, Nk10⟩ => fun k => [undef, .slice pk10 L.length ck10, undef, undef, undef, undef, .tuple #[.int .i64 ((bnd L s1 s2 L.length).1), .int .i64 ((bnd L s1 s2 L.length).2)], .tuple #[.int .i64 ((bnd L s1 s2 L.length).1), .int .i64 ((bnd L s1 s2 L.length).2)], .int .i64 ((bnd L s1 s2 L.length).1), .int .i64 ((bnd L s1 s2 L.length).2), .int .i64 ((bnd L s1 s2 L.length).1), .int .i64 ((bnd L s1 s2 L.length).2)].getD k undef) (fun zz => match zz with | ⟨pk10, ck10, Nk10⟩ => Nk10) (fun zz => match zz with | ⟨pk10, ck10, Nk10⟩ => ⟨g8, #[.int .i64 ((bnd L s1 s2 L.length).1), .int .i64 ((bnd L s1 s2 L.length).2)], 31⟩ :: ⟨g1, #[.int .i64 s1, .int .i64 s2], 31⟩ :: (Nk3 ++ Nk10)) (fun zz => match zz with | ⟨pk10, ck10, Nk10⟩ => Held Nk10 pk10 (flat enc2 L)) 61 (by kernel_rfl) rfl (by kernel_rfl) (by kernel_rfl) rfl (by decide) (by rintro ⟨pk10, ck10, Nk10⟩; simp) (fun W hE => (Gref.refs_any L _ _ W ((sl_old hL) W hE) (by omega)).mono (fun e w1 ⟨s, k1, k2, k3⟩ => ⟨⟨s.ptr, s.cap, s.rows 45⟩, held_own k1, k2, k3⟩)) ?_ ?_
          · intro z
            refine wg_val (.slice p L.length c) rfl rfl rfl (fun _ => rfl) ?_
            simp only [Nat.reduceAdd, Act.put, List.setIfInBounds_toArray, List.set_cons_zero, List.set_cons_succ]
            refine wg_own (z 1) rfl rfl rfl (fun _ => by go_simp) ?_
            simp only [Nat.reduceAdd, Act.put, List.setIfInBounds_toArray, List.set_cons_zero, List.set_cons_succ]
            refine wg_val (.pointer (some ⟨g1, 0, none⟩)) rfl rfl rfl (fun _ => by go_simp) ?_
            simp only [Nat.reduceAdd, Act.put, List.setIfInBounds_toArray, List.set_cons_zero, List.set_cons_succ]
            refine wg_cell 2 (.tmp 41) (.int .i64 s1) (own_row 1 rfl) rfl rfl rfl rfl rfl rfl Try.isAgg2 ?_
            simp only [Nat.reduceAdd, Act.put, List.setIfInBounds_toArray, List.set_cons_zero, List.set_cons_succ]
            refine wg_val (.pointer (some ⟨g1, 1, none⟩)) rfl rfl rfl (fun _ => by go_simp) ?_
            simp only [Nat.reduceAdd, Act.put, List.setIfInBounds_toArray, List.set_cons_zero, List.set_cons_succ]
            refine wg_cell 2 (.tmp 43) (.int .i64 s2) (own_row 1 rfl) rfl rfl rfl rfl rfl rfl Try.isAgg2 ?_
            simp only [Nat.reduceAdd, Act.put, List.setIfInBounds_toArray, List.set_cons_zero, List.set_cons_succ]
            refine wg_pass (z 6) rfl rfl rfl ?_
            simp only [Nat.reduceAdd, Act.put, List.setIfInBounds_toArray, List.set_cons_zero, List.set_cons_succ]
            refine wg_pass (z 7) rfl rfl rfl ?_
            simp only [Nat.reduceAdd, Act.put, List.setIfInBounds_toArray, List.set_cons_zero, List.set_cons_succ]
            refine wg_pass (z 8) rfl rfl rfl ?_
            simp only [Nat.reduceAdd, Act.put, List.setIfInBounds_toArray, List.set_cons_zero, List.set_cons_succ]
            refine wg_pass (z 9) rfl rfl rfl ?_
            simp only [Nat.reduceAdd, Act.put, List.setIfInBounds_toArray, List.set_cons_zero, List.set_cons_succ]
            refine wg_pass (z 10) rfl rfl rfl ?_
            simp only [Nat.reduceAdd, Act.put, List.setIfInBounds_toArray, List.set_cons_zero, List.set_cons_succ]
            refine wg_pass (z 11) rfl rfl rfl ?_
            simp only [Nat.reduceAdd, Act.put, List.setIfInBounds_toArray, List.set_cons_zero, List.set_cons_succ]
            exact wg_nil trivial
          · rintro ⟨pk10, ck10, Nk10⟩ k10
            (try dsimp only)
            refine wg_pass (.slice p L.length c) rfl rfl rfl ?_
            simp only [Nat.reduceAdd, Act.put, List.setIfInBounds_toArray, List.set_cons_zero, List.set_cons_succ]
            refine wg_own (.slice pk10 L.length ck10) rfl rfl rfl (fun _ => by go_simp) ?_
            simp only [Nat.reduceAdd, Act.put, List.setIfInBounds_toArray, List.set_cons_zero, List.set_cons_succ]
            refine wg_pass (.pointer (some ⟨g1, 0, none⟩)) rfl rfl rfl ?_
            simp only [Nat.reduceAdd, Act.put, List.setIfInBounds_toArray, List.set_cons_zero, List.set_cons_succ]
            refine wg_pass (.int .i64 s1) rfl rfl rfl ?_
            simp only [Nat.reduceAdd, Act.put, List.setIfInBounds_toArray, List.set_cons_zero, List.set_cons_succ]
            refine wg_pass (.pointer (some ⟨g1, 1, none⟩)) rfl rfl rfl ?_
            simp only [Nat.reduceAdd, Act.put, List.setIfInBounds_toArray, List.set_cons_zero, List.set_cons_succ]
            refine wg_pass (.int .i64 s2) rfl rfl rfl ?_
            simp only [Nat.reduceAdd, Act.put, List.setIfInBounds_toArray, List.set_cons_zero, List.set_cons_succ]
            refine wg_call_at 15 #[.slice pk10 L.length ck10, .int .i64 s1, .int .i64 s2] (.tuple #[.int .i64 ((bnd L s1 s2 L.length).1), .int .i64 ((bnd L s1 s2 L.length).2)]) rfl rfl rfl (fun _ => by go_simp) (fun W hE => Gref.bounds_any L _ _ s1 s2 W ((sl_held k10 (List.Sublist.cons _ (List.Sublist.cons _ (List.sublist_append_of_sublist_right (List.Sublist.refl _))))) W hE) (by omega)) ?_
            simp only [Nat.reduceAdd, Act.put, List.setIfInBounds_toArray, List.set_cons_zero, List.set_cons_succ]
            refine wg_val (.tuple #[.int .i64 ((bnd L s1 s2 L.length).1), .int .i64 ((bnd L s1 s2 L.length).2)]) rfl rfl rfl (fun _ => rfl) ?_
            simp only [Nat.reduceAdd, Act.put, List.setIfInBounds_toArray, List.set_cons_zero, List.set_cons_succ]
            refine wg_val (.int .i64 ((bnd L s1 s2 L.length).1)) rfl rfl rfl (fun _ => by go_simp) ?_
            simp only [Nat.reduceAdd, Act.put, List.setIfInBounds_toArray, List.set_cons_zero, List.set_cons_succ]
            refine wg_val (.int .i64 ((bnd L s1 s2 L.length).2)) rfl rfl rfl (fun _ => by go_simp) ?_
            simp only [Nat.reduceAdd, Act.put, List.setIfInBounds_toArray, List.set_cons_zero, List.set_cons_succ]
            refine wg_val (.int .i64 ((bnd L s1 s2 L.length).1)) rfl rfl rfl (fun _ => rfl) ?_
            simp only [Nat.reduceAdd, Act.put, List.setIfInBounds_toArray, List.set_cons_zero, List.set_cons_succ]
            refine wg_val (.int .i64 ((bnd L s1 s2 L.length).2)) rfl rfl rfl (fun _ => rfl) ?_
            simp only [Nat.reduceAdd, Act.put, List.setIfInBounds_toArray, List.set_cons_zero, List.set_cons_succ]
            refine wg_nil ?_
            refine we_then ?_
            refine wc_seq ?_
            refine wc_region ?_
            refine wl_val (.bool true) rfl (fun _ => rfl) ?_
            simp only [Act.put, List.setIfInBounds_toArray, List.set_cons_zero, List.set_cons_succ]
            refine wl_val (.bool true) rfl (fun _ => rfl) ?_
            simp only [Act.put, List.setIfInBounds_toArray, List.set_cons_zero, List.set_cons_succ]
            refine wl_val (.pointer (some ⟨g8, 0, none⟩)) rfl (fun _ => by go_simp) ?_
            simp only [Act.put, List.setIfInBounds_toArray, List.set_cons_zero, List.set_cons_succ]
            refine wl_cell 2 (.tmp 50) (.int .i64 ((bnd L s1 s2 L.length).1)) (own_row 0 rfl) rfl rfl rfl rfl Try.isAgg2 ?_
            simp only [Act.put, List.setIfInBounds_toArray, List.set_cons_zero, List.set_cons_succ]
            refine wl_val (.int .i64 ((bnd L s1 s2 L.length).1)) rfl (fun _ => rfl) ?_
            simp only [Act.put, List.setIfInBounds_toArray, List.set_cons_zero, List.set_cons_succ]
            refine wl_val (.bool true) rfl (fun w => run_cmp (b := true) rfl rfl rfl Try.underlying2 (by simp [cmpOf]) w) ?_
            simp only [Act.put, List.setIfInBounds_toArray, List.set_cons_zero, List.set_cons_succ]
            refine wl_val (.bool true) rfl (fun _ => rfl) ?_
            simp only [Act.put, List.setIfInBounds_toArray, List.set_cons_zero, List.set_cons_succ]
            refine wl_val (.bool true) rfl (fun _ => rfl) ?_
            simp only [Act.put, List.setIfInBounds_toArray, List.set_cons_zero, List.set_cons_succ]
            refine wl_val (.pointer (some ⟨g8, 1, none⟩)) rfl (fun _ => by go_simp) ?_
            simp only [Act.put, List.setIfInBounds_toArray, List.set_cons_zero, List.set_cons_succ]
            refine wl_cell 2 (.tmp 56) (.int .i64 ((bnd L s1 s2 L.length).2)) (own_row 0 rfl) rfl rfl rfl rfl Try.isAgg2 ?_
            simp only [Act.put, List.setIfInBounds_toArray, List.set_cons_zero, List.set_cons_succ]
            refine wl_val (.int .i64 ((bnd L s1 s2 L.length).2)) rfl (fun _ => rfl) ?_
            simp only [Act.put, List.setIfInBounds_toArray, List.set_cons_zero, List.set_cons_succ]
            refine wl_val (.bool true) rfl (fun w => run_cmp (b := true) rfl rfl rfl Try.underlying2 (by simp [cmpOf]) w) ?_
            simp only [Act.put, List.setIfInBounds_toArray, List.set_cons_zero, List.set_cons_succ]
            refine wl_val (.bool true) rfl (fun _ => rfl) ?_
            simp only [Act.put, List.setIfInBounds_toArray, List.set_cons_zero, List.set_cons_succ]
            refine wl_val (.bool true) rfl (fun _ => rfl) ?_
            simp only [Act.put, List.setIfInBounds_toArray, List.set_cons_zero, List.set_cons_succ]
            refine wl_nil ?_
            refine we_then ?_
            refine wc_ret ?_
            refine we_ret1 (.bool true) rfl rfl rfl (fun w1 hE => ?_)
            exact ⟨rfl, hE.below⟩
        · skip
          have p9 : s2 < s1 := of_decide_eq_true h9
          refine wc_true rfl ?_
          refine wc_seq ?_
          refine wc_region ?_
          refine wl_val (.bool true) rfl (fun _ => rfl) ?_
          simp only [Act.put, List.setIfInBounds_toArray, List.set_cons_zero, List.set_cons_succ]
          refine wl_val (.bool false) rfl (fun _ => by go_simp) ?_
          simp only [Act.put, List.setIfInBounds_toArray, List.set_cons_zero, List.set_cons_succ]
          refine wl_val (.bool false) rfl (fun _ => rfl) ?_
          simp only [Act.put, List.setIfInBounds_toArray, List.set_cons_zero, List.set_cons_succ]
          refine wl_skip rfl ?_
          simp only [Act.put, List.setIfInBounds_toArray, List.set_cons_zero, List.set_cons_succ]
          refine wl_skip rfl ?_
          simp only [Act.put, List.setIfInBounds_toArray, List.set_cons_zero, List.set_cons_succ]
          refine wl_skip rfl ?_
          simp only [Act.put, List.setIfInBounds_toArray, List.set_cons_zero, List.set_cons_succ]
          refine wl_val (.bool false) rfl (fun _ => rfl) ?_
          simp only [Act.put, List.setIfInBounds_toArray, List.set_cons_zero, List.set_cons_succ]
          refine wl_val (.bool false) rfl (fun _ => rfl) ?_
          simp only [Act.put, List.setIfInBounds_toArray, List.set_cons_zero, List.set_cons_succ]
          refine wl_nil ?_
          refine we_then ?_
          refine wc_ret ?_
          refine we_then_ret ?_
          refine we_ret1 (.bool false) rfl rfl rfl (fun w1 hE => ?_)
          exact (by exfalso; omega)
  · skip
    have p2 : 200 < (L.length : Int) := of_decide_eq_true h2
    refine wl_skip rfl ?_
    simp only [Act.put, List.setIfInBounds_toArray, List.set_cons_zero, List.set_cons_succ]
    refine wl_skip rfl ?_
    simp only [Act.put, List.setIfInBounds_toArray, List.set_cons_zero, List.set_cons_succ]
    refine wl_skip rfl ?_
    simp only [Act.put, List.setIfInBounds_toArray, List.set_cons_zero, List.set_cons_succ]
    refine wl_skip rfl ?_
    simp only [Act.put, List.setIfInBounds_toArray, List.set_cons_zero, List.set_cons_succ]
    refine wl_val (.bool true) rfl (fun _ => rfl) ?_
    simp only [Act.put, List.setIfInBounds_toArray, List.set_cons_zero, List.set_cons_succ]
    refine wl_nil ?_
    refine we_then ?_
    refine wc_true rfl ?_
    refine wc_seq ?_
    refine wc_region ?_
    refine wl_val (.bool true) rfl (fun _ => rfl) ?_
    simp only [Act.put, List.setIfInBounds_toArray, List.set_cons_zero, List.set_cons_succ]
    refine wl_nil ?_
    refine we_then ?_
    refine wc_ret ?_
    refine we_then_ret ?_
    refine we_ret1 (.bool true) rfl rfl rfl (fun w1 hE => ?_)
    exact ⟨rfl, hE.below⟩
end Go.Proofs.Ytlbfecplhbkfiaa.Walks
