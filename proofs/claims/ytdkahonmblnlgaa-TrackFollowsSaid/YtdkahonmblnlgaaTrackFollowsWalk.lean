/-
  TrackFollows: the law's walk. No condition.
-/
import Derived.Test.YtdkahonmblnlgaaTlw
namespace Go.Proofs.Ytdkahonmblnlgaa.Walks
open Go.ChangeShapes Go.WideShapes Go.ChangeAt Go.RowKit
open Arr Steady Sx Sw Sl Sb Sc Si Sj Sk Sh Vs Gr Tk Tkh Tkl Tkref Tkrefs Tlw
set_option linter.unusedVariables false
set_option linter.unusedSimpArgs false
set_option maxRecDepth 100000

set_option maxHeartbeats 6000000 in
theorem trackFollows_walk (G : List Sg) (H : List Gp) (p q : Option Addr) (c d : Nat) (a : Int) (wa : (Lit.int .i64 a).wf = true) (b : Int) (wb : (Lit.int .i64 b).wf = true) (w : World) (hS : Reads w p (flat sg G)) (hG : OkS w G) (hH : Reads w q (flat gp H)) (hn : G.length ≤ 140737488355328) (hm : H.length ≤ 140737488355328) (hcc : G.length ≤ c) (hcd : H.length ≤ d) :
    Calls Try.prog 6 #[.agg #[.slice p G.length c, .slice q H.length d], .int .i64 a, .int .i64 b] w fun e w' => e = .returned (.bool true) ∧ Below w.heap.size w w' := by
  refine calls_sx Try.func6 rfl ?_
  simp only [Try.ntmps6, List.size_toArray, List.length_cons, List.length_nil, Nat.reduceAdd, Nat.reduceSub, Array.replicate_succ, Array.replicate_zero, List.push_toArray, List.append_toArray, List.nil_append, List.cons_append]
  refine wc_seq ?_
  refine wc_region ?_
  refine wl_new 25 (#[.slice p G.length c, .slice q H.length d]) rfl (fun _ => by go_simp) ?_
  intro g1
  simp only [Act.put, List.setIfInBounds_toArray, List.set_cons_zero, List.set_cons_succ]
  refine wl_val (.bool false) rfl (fun _ => rfl) ?_
  simp only [Act.put, List.setIfInBounds_toArray, List.set_cons_zero, List.set_cons_succ]
  refine wl_nil ?_
  refine we_then ?_
  refine wc_seq ?_
  refine wc_seq ?_
  refine wc_region ?_
  refine wl_call 8 #[] (.bool true) rfl (fun _ => by go_simp) (fun W => Tlw.anchor_any W) ?_
  simp only [Act.put, List.setIfInBounds_toArray, List.set_cons_zero, List.set_cons_succ]
  refine wl_val (.bool false) rfl (fun _ => by go_simp) ?_
  simp only [Act.put, List.setIfInBounds_toArray, List.set_cons_zero, List.set_cons_succ]
  refine wl_nil ?_
  refine we_then ?_
  refine wc_false rfl ?_
  refine wc_skip ?_
  refine we_then ?_
  refine wc_seq ?_
  cases h2 : (greatB G H)
  · skip
    refine wc_draw_ghost (Γ := Cp) 8 12 #[.agg #[.slice p G.length c, .slice q H.length d]] (fun k => [false, false, false, false, false, false, false, false, true, false, false, true, true, true, true].getD k false) (fun k => [.agg #[.slice p G.length c, .slice q H.length d], .bool false, .bool false, .agg #[.slice p G.length c, .slice q H.length d], .int .i64 a, .int .i64 b, .bool (folB G a b), .agg #[.slice p G.length c, .slice q H.length d], undef, .int .i64 a, .int .i64 b, undef, undef, undef, undef].getD k undef) (fun zz => match zz with | zk3 => fun k => [undef, undef, undef, undef, undef, undef, undef, undef, .agg #[.slice zk3.p zk3.K.length zk3.c, .slice zk3.q H.length zk3.d], undef, undef, .bool (folB G a b), .bool true, .bool true, .bool true].getD k undef) (fun zz => match zz with | zk3 => zk3.N) (fun zz => match zz with | zk3 => ⟨g1, #[.slice p G.length c, .slice q H.length d], 25⟩ :: zk3.N) (fun zz => match zz with | zk3 => CpOk G H zk3) 23 (by kernel_rfl) rfl (by kernel_rfl) (by kernel_rfl) rfl (by decide) (by rintro zk3; simp) (fun W hE => refs_open G H _ _ _ _ W ((sl_old hS) W hE) (oks_below hG hE.below) ((sl_old hH) W hE) h2) ?_ ?_
    · intro z
      refine wg_load 25 (.tmp 3) (own_row 0 rfl) rfl rfl rfl rfl rfl Try.underlying25 rfl (by kernel_rfl) ?_
      simp only [Nat.reduceAdd, Act.put, List.setIfInBounds_toArray, List.set_cons_zero, List.set_cons_succ]
      refine wg_call_at 9 #[.agg #[.slice p G.length c, .slice q H.length d]] (.bool false) rfl rfl rfl (fun _ => by go_simp) (fun W hE => by have x := great_any G H p q c d W ((sl_old hS) W hE) (oks_below hG hE.below) ((sl_old hH) W hE) hn hm; rwa [h2] at x) ?_
      simp only [Nat.reduceAdd, Act.put, List.setIfInBounds_toArray, List.set_cons_zero, List.set_cons_succ]
      refine wg_val (.bool false) rfl rfl rfl (fun _ => rfl) ?_
      simp only [Nat.reduceAdd, Act.put, List.setIfInBounds_toArray, List.set_cons_zero, List.set_cons_succ]
      refine wg_load 25 (.tmp 3) (own_row 0 rfl) rfl rfl rfl rfl rfl Try.underlying25 rfl (by kernel_rfl) ?_
      simp only [Nat.reduceAdd, Act.put, List.setIfInBounds_toArray, List.set_cons_zero, List.set_cons_succ]
      refine wg_val (.int .i64 a) rfl rfl rfl (fun _ => rfl) ?_
      simp only [Nat.reduceAdd, Act.put, List.setIfInBounds_toArray, List.set_cons_zero, List.set_cons_succ]
      refine wg_val (.int .i64 b) rfl rfl rfl (fun _ => rfl) ?_
      simp only [Nat.reduceAdd, Act.put, List.setIfInBounds_toArray, List.set_cons_zero, List.set_cons_succ]
      refine wg_call_at 16 #[.agg #[.slice p G.length c, .slice q H.length d], .int .i64 a, .int .i64 b] (.bool (folB G a b)) rfl rfl rfl (fun _ => by go_simp) (fun W hE => Tra.follows_any G H _ _ _ _ a b W ((sl_old hS) W hE) (oks_below hG hE.below) ((sl_old hH) W hE) hn hm) ?_
      simp only [Nat.reduceAdd, Act.put, List.setIfInBounds_toArray, List.set_cons_zero, List.set_cons_succ]
      refine wg_load 25 (.tmp 3) (own_row 0 rfl) rfl rfl rfl rfl rfl Try.underlying25 rfl (by kernel_rfl) ?_
      simp only [Nat.reduceAdd, Act.put, List.setIfInBounds_toArray, List.set_cons_zero, List.set_cons_succ]
      refine wg_own (z 8) rfl rfl rfl (fun _ => by go_simp) ?_
      simp only [Nat.reduceAdd, Act.put, List.setIfInBounds_toArray, List.set_cons_zero, List.set_cons_succ]
      refine wg_val (.int .i64 a) rfl rfl rfl (fun _ => rfl) ?_
      simp only [Nat.reduceAdd, Act.put, List.setIfInBounds_toArray, List.set_cons_zero, List.set_cons_succ]
      refine wg_val (.int .i64 b) rfl rfl rfl (fun _ => rfl) ?_
      simp only [Nat.reduceAdd, Act.put, List.setIfInBounds_toArray, List.set_cons_zero, List.set_cons_succ]
      refine wg_pass (z 11) rfl rfl rfl ?_
      simp only [Nat.reduceAdd, Act.put, List.setIfInBounds_toArray, List.set_cons_zero, List.set_cons_succ]
      refine wg_pass (z 12) rfl rfl rfl ?_
      simp only [Nat.reduceAdd, Act.put, List.setIfInBounds_toArray, List.set_cons_zero, List.set_cons_succ]
      refine wg_pass (z 13) rfl rfl rfl ?_
      simp only [Nat.reduceAdd, Act.put, List.setIfInBounds_toArray, List.set_cons_zero, List.set_cons_succ]
      refine wg_pass (z 14) rfl rfl rfl ?_
      simp only [Nat.reduceAdd, Act.put, List.setIfInBounds_toArray, List.set_cons_zero, List.set_cons_succ]
      exact wg_nil trivial
    · rintro zk3 k3
      (try dsimp only)
      refine wg_pass (.agg #[.slice p G.length c, .slice q H.length d]) rfl rfl rfl ?_
      simp only [Nat.reduceAdd, Act.put, List.setIfInBounds_toArray, List.set_cons_zero, List.set_cons_succ]
      refine wg_pass (.bool false) rfl rfl rfl ?_
      simp only [Nat.reduceAdd, Act.put, List.setIfInBounds_toArray, List.set_cons_zero, List.set_cons_succ]
      refine wg_pass (.bool false) rfl rfl rfl ?_
      simp only [Nat.reduceAdd, Act.put, List.setIfInBounds_toArray, List.set_cons_zero, List.set_cons_succ]
      refine wg_pass (.agg #[.slice p G.length c, .slice q H.length d]) rfl rfl rfl ?_
      simp only [Nat.reduceAdd, Act.put, List.setIfInBounds_toArray, List.set_cons_zero, List.set_cons_succ]
      refine wg_pass (.int .i64 a) rfl rfl rfl ?_
      simp only [Nat.reduceAdd, Act.put, List.setIfInBounds_toArray, List.set_cons_zero, List.set_cons_succ]
      refine wg_pass (.int .i64 b) rfl rfl rfl ?_
      simp only [Nat.reduceAdd, Act.put, List.setIfInBounds_toArray, List.set_cons_zero, List.set_cons_succ]
      refine wg_pass (.bool (folB G a b)) rfl rfl rfl ?_
      simp only [Nat.reduceAdd, Act.put, List.setIfInBounds_toArray, List.set_cons_zero, List.set_cons_succ]
      refine wg_pass (.agg #[.slice p G.length c, .slice q H.length d]) rfl rfl rfl ?_
      simp only [Nat.reduceAdd, Act.put, List.setIfInBounds_toArray, List.set_cons_zero, List.set_cons_succ]
      refine wg_own (.agg #[.slice zk3.p zk3.K.length zk3.c, .slice zk3.q H.length zk3.d]) rfl rfl rfl (fun _ => by go_simp) ?_
      simp only [Nat.reduceAdd, Act.put, List.setIfInBounds_toArray, List.set_cons_zero, List.set_cons_succ]
      refine wg_pass (.int .i64 a) rfl rfl rfl ?_
      simp only [Nat.reduceAdd, Act.put, List.setIfInBounds_toArray, List.set_cons_zero, List.set_cons_succ]
      refine wg_pass (.int .i64 b) rfl rfl rfl ?_
      simp only [Nat.reduceAdd, Act.put, List.setIfInBounds_toArray, List.set_cons_zero, List.set_cons_succ]
      refine wg_call_at 17 #[.agg #[.slice zk3.p zk3.K.length zk3.c, .slice zk3.q H.length zk3.d], .int .i64 a, .int .i64 b] (.bool (folB G a b)) rfl rfl rfl (fun _ => by go_simp) (fun W hE => by have x := Tkref.follows_any zk3.K H _ _ zk3.c zk3.d a b W (held_at k3.segs (List.Sublist.cons _ (List.Sublist.refl _)) hE) (k3.ok _ _ hG (hE.sub (List.Sublist.cons _ (List.Sublist.refl _)))) (held_at k3.grps (List.Sublist.cons _ (List.Sublist.refl _)) hE) (by rw [k3.same.length]; omega) (by omega); rwa [folB_same k3.same] at x) ?_
      simp only [Nat.reduceAdd, Act.put, List.setIfInBounds_toArray, List.set_cons_zero, List.set_cons_succ]
      refine wg_val (.bool true) rfl rfl rfl (fun w => run_beq rfl rfl rfl Try.underlying4 (by cases (folB G a b) <;> rfl) w) ?_
      simp only [Nat.reduceAdd, Act.put, List.setIfInBounds_toArray, List.set_cons_zero, List.set_cons_succ]
      refine wg_val (.bool true) rfl rfl rfl (fun _ => rfl) ?_
      simp only [Nat.reduceAdd, Act.put, List.setIfInBounds_toArray, List.set_cons_zero, List.set_cons_succ]
      refine wg_val (.bool true) rfl rfl rfl (fun _ => rfl) ?_
      simp only [Nat.reduceAdd, Act.put, List.setIfInBounds_toArray, List.set_cons_zero, List.set_cons_succ]
      refine wg_nil ?_
      refine we_then ?_
      refine wc_ret ?_
      refine we_ret1 (.bool true) rfl rfl rfl (fun w1 hE => ?_)
      exact ⟨rfl, hE.below⟩
  · skip
    refine wc_draw [.plain, .plain, .late, .plain, .late, .late, .plain, .plain, .plain, .late, .late, .plain, .late, .late, .late] none [] 23 (by kernel_rfl) rfl (by kernel_rfl) (by kernel_rfl) ?_
    refine ws_load 25 (.tmp 3) (own_row 0 rfl) rfl rfl rfl rfl Try.underlying25 rfl (by kernel_rfl) ?_
    simp only [Nat.reduceAdd, Act.put, List.setIfInBounds_toArray, List.set_cons_zero, List.set_cons_succ]
    refine ws_call_at 9 #[.agg #[.slice p G.length c, .slice q H.length d]] (.bool true) rfl rfl (fun _ => by go_simp) (fun W hE => by have x := great_any G H p q c d W ((sl_old hS) W hE) (oks_below hG hE.below) ((sl_old hH) W hE) hn hm; rwa [h2] at x) ?_
    simp only [Nat.reduceAdd, Act.put, List.setIfInBounds_toArray, List.set_cons_zero, List.set_cons_succ]
    refine ws_late (.bool true) rfl rfl (fun _ => rfl) ?_
    simp only [Nat.reduceAdd, Act.put, List.setIfInBounds_toArray, List.set_cons_zero, List.set_cons_succ]
    refine ws_skip rfl rfl ?_
    simp only [Nat.reduceAdd, Act.put, List.setIfInBounds_toArray, List.set_cons_zero, List.set_cons_succ]
    refine ws_skip_late rfl rfl ?_
    simp only [Nat.reduceAdd, Act.put, List.setIfInBounds_toArray, List.set_cons_zero, List.set_cons_succ]
    refine ws_skip_late rfl rfl ?_
    simp only [Nat.reduceAdd, Act.put, List.setIfInBounds_toArray, List.set_cons_zero, List.set_cons_succ]
    refine ws_skip rfl rfl ?_
    simp only [Nat.reduceAdd, Act.put, List.setIfInBounds_toArray, List.set_cons_zero, List.set_cons_succ]
    refine ws_skip rfl rfl ?_
    simp only [Nat.reduceAdd, Act.put, List.setIfInBounds_toArray, List.set_cons_zero, List.set_cons_succ]
    refine ws_skip rfl rfl ?_
    simp only [Nat.reduceAdd, Act.put, List.setIfInBounds_toArray, List.set_cons_zero, List.set_cons_succ]
    refine ws_skip_late rfl rfl ?_
    simp only [Nat.reduceAdd, Act.put, List.setIfInBounds_toArray, List.set_cons_zero, List.set_cons_succ]
    refine ws_skip_late rfl rfl ?_
    simp only [Nat.reduceAdd, Act.put, List.setIfInBounds_toArray, List.set_cons_zero, List.set_cons_succ]
    refine ws_skip rfl rfl ?_
    simp only [Nat.reduceAdd, Act.put, List.setIfInBounds_toArray, List.set_cons_zero, List.set_cons_succ]
    refine ws_skip_late rfl rfl ?_
    simp only [Nat.reduceAdd, Act.put, List.setIfInBounds_toArray, List.set_cons_zero, List.set_cons_succ]
    refine ws_late (.bool true) rfl rfl (fun _ => rfl) ?_
    simp only [Nat.reduceAdd, Act.put, List.setIfInBounds_toArray, List.set_cons_zero, List.set_cons_succ]
    refine ws_late (.bool true) rfl rfl (fun _ => rfl) ?_
    simp only [Nat.reduceAdd, Act.put, List.setIfInBounds_toArray, List.set_cons_zero, List.set_cons_succ]
    refine ws_nil [] trivial (by simp) ?_
    intro ps3
    simp only [fin, List.foldl_nil, List.map, List.nil_append]
    refine we_then ?_
    refine wc_ret ?_
    refine we_ret1 (.bool true) rfl rfl rfl (fun w1 hE => ?_)
    exact ⟨rfl, hE.below⟩
end Go.Proofs.Ytdkahonmblnlgaa.Walks
