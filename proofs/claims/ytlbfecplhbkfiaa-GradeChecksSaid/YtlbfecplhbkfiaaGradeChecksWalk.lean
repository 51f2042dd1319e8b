/-
  GradeChecks: the law's walk. No condition.
-/
import Derived.Test.YtlbfecplhbkfiaaGlw
namespace Go.Proofs.Ytlbfecplhbkfiaa.Walks
open Go.ChangeShapes Go.WideShapes Go.ChangeAt Go.RowKit
open Arr Steady Sx Sw Sl Sb Sc Si Sj Sk Sh Vs Gr Gref Spn Gra Glw
set_option linter.unusedVariables false
set_option linter.unusedSimpArgs false
set_option maxRecDepth 100000

set_option maxHeartbeats 2000000 in
theorem gradeChecks_walk (L : Spans) (p : Option Addr) (c : Nat) (n : Int) (wn : (Lit.int .i64 n).wf = true) (w : World) (hL : Reads w p (flat enc2 L)) (hF : FitL L) :
    Calls Try.prog 3 #[.slice p L.length c, .int .i64 n] w fun e w' => e = .returned (.bool true) ∧ Below w.heap.size w w' := by
  refine calls_sx Try.func3 rfl ?_
  simp only [Try.ntmps3, List.size_toArray, List.length_cons, List.length_nil, Nat.reduceAdd, Nat.reduceSub, Array.replicate_succ, Array.replicate_zero, List.push_toArray, List.append_toArray, List.nil_append, List.cons_append]
  refine wc_seq ?_
  refine wc_region ?_
  refine wl_val (.bool false) rfl (fun _ => rfl) ?_
  simp only [Act.put, List.setIfInBounds_toArray, List.set_cons_zero, List.set_cons_succ]
  refine wl_nil ?_
  refine we_then ?_
  refine wc_seq ?_
  refine wc_seq ?_
  refine wc_region ?_
  refine wl_call 7 #[] (.bool true) rfl (fun _ => by go_simp) (fun W => Glw.anchor_any W) ?_
  simp only [Act.put, List.setIfInBounds_toArray, List.set_cons_zero, List.set_cons_succ]
  refine wl_val (.bool false) rfl (fun _ => by go_simp) ?_
  simp only [Act.put, List.setIfInBounds_toArray, List.set_cons_zero, List.set_cons_succ]
  refine wl_nil ?_
  refine we_then ?_
  refine wc_false rfl ?_
  refine wc_skip ?_
  refine we_then ?_
  refine wc_seq ?_
  refine wc_seq ?_
  refine wc_region ?_
  refine wl_val (.slice p L.length c) rfl (fun _ => rfl) ?_
  simp only [Act.put, List.setIfInBounds_toArray, List.set_cons_zero, List.set_cons_succ]
  refine wl_val (.int .i64 (L.length : Int)) rfl (fun w => er_len rfl rfl Try.underlying22 w) ?_
  simp only [Act.put, List.setIfInBounds_toArray, List.set_cons_zero, List.set_cons_succ]
  refine wl_val (.bool (decide (200 < (L.length : Int)))) rfl (fun w => run_cmp rfl rfl rfl Try.underlying3 rfl w) ?_
  simp only [Act.put, List.setIfInBounds_toArray, List.set_cons_zero, List.set_cons_succ]
  refine wl_nil ?_
  refine we_then ?_
  cases h1 : (decide (200 < (L.length : Int)))
  · skip
    have p1 : ¬ (200 < (L.length : Int)) := of_decide_eq_false h1
    refine wc_false rfl ?_
    refine wc_skip ?_
    refine we_then ?_
    refine wc_seq ?_
    refine wc_region ?_
    refine wl_val (.slice p L.length c) rfl (fun _ => rfl) ?_
    simp only [Act.put, List.setIfInBounds_toArray, List.set_cons_zero, List.set_cons_succ]
    refine wl_val (.int .i64 n) rfl (fun _ => rfl) ?_
    simp only [Act.put, List.setIfInBounds_toArray, List.set_cons_zero, List.set_cons_succ]
    cases h2 : (mayB L n)
    · skip
      refine wl_call_at 8 #[.slice p L.length c, .int .i64 n] (.int .i64 11) rfl (fun _ => by go_simp) (fun W hE => check_no L _ _ n W ((sl_old hL) W hE) (by omega) h2) ?_
      simp only [Act.put, List.setIfInBounds_toArray, List.set_cons_zero, List.set_cons_succ]
      refine wl_val (.int .i64 11) rfl (fun _ => rfl) ?_
      simp only [Act.put, List.setIfInBounds_toArray, List.set_cons_zero, List.set_cons_succ]
      refine wl_nil ?_
      refine we_then ?_
      refine wc_seq ?_
      refine wc_seq ?_
      refine wc_region ?_
      refine wl_val (.slice p L.length c) rfl (fun _ => rfl) ?_
      simp only [Act.put, List.setIfInBounds_toArray, List.set_cons_zero, List.set_cons_succ]
      refine wl_call_open (ι := Option Addr × Nat × List Rw) (fun zz => match zz with | ⟨pk3, ck3, Nk3⟩ => Nk3) 10 #[.slice p L.length c] (fun zz => match zz with | ⟨pk3, ck3, Nk3⟩ => .slice pk3 L.length ck3) (fun zz => match zz with | ⟨pk3, ck3, Nk3⟩ => Nk3) (fun zz => match zz with | ⟨pk3, ck3, Nk3⟩ => Held Nk3 pk3 (flat enc2 L)) (by rintro ⟨pk3, ck3, Nk3⟩; simp) rfl (fun _ => by go_simp) (fun W hE => (Gref.refs_any L _ _ W ((sl_old hL) W hE) (by omega)).mono (fun e w1 ⟨s, k1, k2, k3⟩ => ⟨⟨s.ptr, s.cap, s.rows 45⟩, held_own k1, k2, k3⟩)) ?_
      rintro ⟨pk3, ck3, Nk3⟩ k3
      (try dsimp only)
      simp only [Act.put, List.setIfInBounds_toArray, List.set_cons_zero, List.set_cons_succ]
      refine wl_val (.int .i64 n) rfl (fun _ => rfl) ?_
      simp only [Act.put, List.setIfInBounds_toArray, List.set_cons_zero, List.set_cons_succ]
      refine wl_call_at 9 #[.slice pk3 L.length ck3, .int .i64 n] (.bool false) rfl (fun _ => by go_simp) (fun W hE => by have k := Gref.may_any L pk3 ck3 n W ((sl_held k3 (List.Sublist.refl _)) W hE) (by omega); rwa [h2] at k) ?_
      simp only [Act.put, List.setIfInBounds_toArray, List.set_cons_zero, List.set_cons_succ]
      refine wl_nil ?_
      refine we_then ?_
      refine wc_false rfl ?_
      refine wc_skip ?_
      refine we_then ?_
      refine wc_seq ?_
      refine wc_region ?_
      refine wl_val (.int .i64 11) rfl (fun _ => rfl) ?_
      simp only [Act.put, List.setIfInBounds_toArray, List.set_cons_zero, List.set_cons_succ]
      refine wl_val (.bool true) rfl (fun w => run_cmp rfl rfl rfl Try.underlying24 rfl w) ?_
      simp only [Act.put, List.setIfInBounds_toArray, List.set_cons_zero, List.set_cons_succ]
      refine wl_val (.bool true) rfl (fun _ => rfl) ?_
      simp only [Act.put, List.setIfInBounds_toArray, List.set_cons_zero, List.set_cons_succ]
      refine wl_nil ?_
      refine we_then ?_
      refine wc_ret ?_
      refine we_ret1 (.bool true) rfl rfl rfl (fun w1 hE => ?_)
      exact ⟨rfl, hE.below⟩
    · skip
      refine wl_call_at 8 #[.slice p L.length c, .int .i64 n] (.int .i64 0) rfl (fun _ => by go_simp) (fun W hE => check_yes L _ _ n W ((sl_old hL) W hE) (by omega) h2) ?_
      simp only [Act.put, List.setIfInBounds_toArray, List.set_cons_zero, List.set_cons_succ]
      refine wl_val (.int .i64 0) rfl (fun _ => rfl) ?_
      simp only [Act.put, List.setIfInBounds_toArray, List.set_cons_zero, List.set_cons_succ]
      refine wl_nil ?_
      refine we_then ?_
      refine wc_seq ?_
      refine wc_seq ?_
      refine wc_region ?_
      refine wl_val (.slice p L.length c) rfl (fun _ => rfl) ?_
      simp only [Act.put, List.setIfInBounds_toArray, List.set_cons_zero, List.set_cons_succ]
      refine wl_call_open (ι := Option Addr × Nat × List Rw) (fun zz => match zz with | ⟨pk4, ck4, Nk4⟩ => Nk4) 10 #[.slice p L.length c] (fun zz => match zz with | ⟨pk4, ck4, Nk4⟩ => .slice pk4 L.length ck4) (fun zz => match zz with | ⟨pk4, ck4, Nk4⟩ => Nk4) (fun zz => match zz with | ⟨pk4, ck4, Nk4⟩ => Held Nk4 pk4 (flat enc2 L)) (by rintro ⟨pk4, ck4, Nk4⟩; simp) rfl (fun _ => by go_simp) (fun W hE => (Gref.refs_any L _ _ W ((sl_old hL) W hE) (by omega)).mono (fun e w1 ⟨s, k1, k2, k3⟩ => ⟨⟨s.ptr, s.cap, s.rows 45⟩, held_own k1, k2, k3⟩)) ?_
      rintro ⟨pk4, ck4, Nk4⟩ k4
      (try dsimp only)
      simp only [Act.put, List.setIfInBounds_toArray, List.set_cons_zero, List.set_cons_succ]
      refine wl_val (.int .i64 n) rfl (fun _ => rfl) ?_
      simp only [Act.put, List.setIfInBounds_toArray, List.set_cons_zero, List.set_cons_succ]
      refine wl_call_at 9 #[.slice pk4 L.length ck4, .int .i64 n] (.bool true) rfl (fun _ => by go_simp) (fun W hE => by have k := Gref.may_any L pk4 ck4 n W ((sl_held k4 (List.Sublist.refl _)) W hE) (by omega); rwa [h2] at k) ?_
      simp only [Act.put, List.setIfInBounds_toArray, List.set_cons_zero, List.set_cons_succ]
      refine wl_nil ?_
      refine we_then ?_
      refine wc_true rfl ?_
      refine wc_seq ?_
      refine wc_region ?_
      refine wl_val (.int .i64 0) rfl (fun _ => rfl) ?_
      simp only [Act.put, List.setIfInBounds_toArray, List.set_cons_zero, List.set_cons_succ]
      refine wl_val (.bool true) rfl (fun w => run_cmp rfl rfl rfl Try.underlying24 rfl w) ?_
      simp only [Act.put, List.setIfInBounds_toArray, List.set_cons_zero, List.set_cons_succ]
      refine wl_val (.bool true) rfl (fun _ => rfl) ?_
      simp only [Act.put, List.setIfInBounds_toArray, List.set_cons_zero, List.set_cons_succ]
      refine wl_nil ?_
      refine we_then ?_
      refine wc_ret ?_
      refine we_then_ret ?_
      refine we_ret1 (.bool true) rfl rfl rfl (fun w1 hE => ?_)
      exact ⟨rfl, hE.below⟩
  · skip
    have p1 : 200 < (L.length : Int) := of_decide_eq_true h1
    refine wc_true rfl ?_
    refine wc_seq ?_
    refine wc_region ?_
    refine wl_val (.bool true) rfl (fun _ => rfl) ?_
    simp only [Act.put, List.setIfInBounds_toArray, List.set_cons_zero, List.set_cons_succ]
    refine wl_nil ?_
    refine we_then ?_
    refine wc_ret ?_
    refine we_then_ret ?_
    refine we_ret1 (.bool true) rfl rfl rfl (fun w1 hE => ?_)
    exact ⟨rfl, hE.below⟩
end Go.Proofs.Ytlbfecplhbkfiaa.Walks
