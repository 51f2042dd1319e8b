/-
  TrackGrades: the law's walk. No condition.
-/
import Derived.Test.YtdkahonmblnlgaaTlw
namespace Go.Proofs.Ytdkahonmblnlgaa.Walks
open Go.ChangeShapes Go.WideShapes Go.ChangeAt Go.RowKit
open Arr Steady Sx Sw Sl Sb Sc Si Sj Sk Sh Vs Gr Tk Tkh Tkl Tkref Tkrefs Tlw
set_option linter.unusedVariables false
set_option linter.unusedSimpArgs false
set_option maxRecDepth 100000

set_option maxHeartbeats 6000000 in
theorem trackGrades_walk (G : List Sg) (H : List Gp) (p q : Option Addr) (c d : Nat) (w : World) (hS : Reads w p (flat sg G)) (hG : OkS w G) (hH : Reads w q (flat gp H)) (hn : G.length ≤ 140737488355328) (hm : H.length ≤ 140737488355328) (hcc : G.length ≤ c) (hcd : H.length ≤ d) :
    Calls Try.prog 5 #[.agg #[.slice p G.length c, .slice q H.length d]] w fun e w' => e = .returned (.bool true) ∧ Below w.heap.size w w' := by
  refine calls_sx Try.func5 rfl ?_
  simp only [Try.ntmps5, List.size_toArray, List.length_cons, List.length_nil, Nat.reduceAdd, Nat.reduceSub, Array.replicate_succ, Array.replicate_zero, List.push_toArray, List.append_toArray, List.nil_append, List.cons_append]
  refine wc_seq ?_
  refine wc_region ?_
  refine wl_new 25 (#[.slice p G.length c, .slice q H.length d]) rfl (fun _ => by go_simp) ?_
  intro g1
  simp only [Act.put, List.setIfInBounds_toArray, List.set_cons_zero, List.set_cons_succ]
  refine wl_val (.bool false) rfl (fun _ => rfl) ?_
  simp only [Act.put, List.setIfInBounds_toArray, List.set_cons_zero, List.set_cons_succ]
  refine wl_nil ?_
  refine we_then ?_
  refine wc_seq ?_
  refine wc_seq ?_
  refine wc_region ?_
  refine wl_call 8 #[] (.bool true) rfl (fun _ => by go_simp) (fun W => Tlw.anchor_any W) ?_
  simp only [Act.put, List.setIfInBounds_toArray, List.set_cons_zero, List.set_cons_succ]
  refine wl_val (.bool false) rfl (fun _ => by go_simp) ?_
  simp only [Act.put, List.setIfInBounds_toArray, List.set_cons_zero, List.set_cons_succ]
  refine wl_nil ?_
  refine we_then ?_
  refine wc_false rfl ?_
  refine wc_skip ?_
  refine we_then ?_
  refine wc_seq ?_
  refine wc_seq ?_
  refine wc_region ?_
  refine wl_load 25 (.tmp 1) (own_row 0 rfl) rfl rfl rfl Try.underlying25 rfl (by kernel_rfl) ?_
  simp only [Act.put, List.setIfInBounds_toArray, List.set_cons_zero, List.set_cons_succ]
  refine wl_call_at 9 #[.agg #[.slice p G.length c, .slice q H.length d]] (.bool (greatB G H)) rfl (fun _ => by go_simp) (fun W hE => great_any G H _ _ _ _ W ((sl_old hS) W hE) (oks_below hG hE.below) ((sl_old hH) W hE) hn hm) ?_
  simp only [Act.put, List.setIfInBounds_toArray, List.set_cons_zero, List.set_cons_succ]
  refine wl_nil ?_
  refine we_then ?_
  cases h2 : (greatB G H)
  · skip
    refine wc_false rfl ?_
    refine wc_skip ?_
    refine we_then ?_
    refine wc_seq ?_
    refine wc_region ?_
    refine wl_load 25 (.tmp 1) (own_row 0 rfl) rfl rfl rfl Try.underlying25 rfl (by kernel_rfl) ?_
    simp only [Act.put, List.setIfInBounds_toArray, List.set_cons_zero, List.set_cons_succ]
    refine wl_call_open (ι := Cp) (fun zz => match zz with | zk3 => ⟨g1, #[.slice p G.length c, .slice q H.length d], 25⟩ :: zk3.N) 12 #[.agg #[.slice p G.length c, .slice q H.length d]] (fun zz => match zz with | zk3 => .agg #[.slice zk3.p zk3.K.length zk3.c, .slice zk3.q H.length zk3.d]) (fun zz => match zz with | zk3 => zk3.N) (fun zz => match zz with | zk3 => CpOk G H zk3) (by rintro zk3; simp) rfl (fun _ => by go_simp) (fun W hE => refs_open G H _ _ _ _ W ((sl_old hS) W hE) (oks_below hG hE.below) ((sl_old hH) W hE) h2) ?_
    rintro zk3 k3
    (try dsimp only)
    simp only [Act.put, List.setIfInBounds_toArray, List.set_cons_zero, List.set_cons_succ]
    refine wl_new 36 (#[.slice none 0 0, .slice none 0 0]) rfl (fun _ => by go_simp) ?_
    intro g4
    simp only [Act.put, List.setIfInBounds_toArray, List.set_cons_zero, List.set_cons_succ]
    refine wl_store 0 36 (.tmp 3) (.tmp 14) (#[.slice zk3.p zk3.K.length zk3.c, .slice zk3.q H.length zk3.d]) rfl rfl rfl rfl rfl (by kernel_rfl) rfl (by simp [Value.oneCell']) ?_
    simp only [Act.put, List.set_cons_zero]
    refine wl_nil ?_
    refine we_then ?_
    refine wc_seq ?_
    refine wc_seq ?_
    refine wc_region ?_
    refine wl_load 36 (.tmp 3) (own_row 0 rfl) rfl rfl rfl Try.underlying36 rfl (by kernel_rfl) ?_
    simp only [Act.put, List.setIfInBounds_toArray, List.set_cons_zero, List.set_cons_succ]
    refine wl_call_at 11 #[.agg #[.slice zk3.p zk3.K.length zk3.c, .slice zk3.q H.length zk3.d]] (.tuple #[.int .i64 (((chk G H).1 : Nat) : Int), .int .i64 (((chk G H).2 : Nat) : Int)]) rfl (fun _ => by go_simp) (fun W hE => by have x := Tkref.check_any zk3.K H _ _ zk3.c zk3.d W (held_at k3.segs (List.Sublist.cons _ (List.Sublist.cons _ (List.Sublist.refl _))) hE) (k3.ok _ _ hG (hE.sub (List.Sublist.cons _ (List.Sublist.cons _ (List.Sublist.refl _))))) (held_at k3.grps (List.Sublist.cons _ (List.Sublist.cons _ (List.Sublist.refl _))) hE) (by rw [k3.same.length]; omega) (by omega); rwa [chk_same k3.same] at x) ?_
    simp only [Act.put, List.setIfInBounds_toArray, List.set_cons_zero, List.set_cons_succ]
    refine wl_val (.tuple #[.int .i64 (((chk G H).1 : Nat) : Int), .int .i64 (((chk G H).2 : Nat) : Int)]) rfl (fun _ => rfl) ?_
    simp only [Act.put, List.setIfInBounds_toArray, List.set_cons_zero, List.set_cons_succ]
    refine wl_val (.int .i64 (((chk G H).1 : Nat) : Int)) rfl (fun _ => by go_simp) ?_
    simp only [Act.put, List.setIfInBounds_toArray, List.set_cons_zero, List.set_cons_succ]
    refine wl_val (.int .i64 (((chk G H).2 : Nat) : Int)) rfl (fun _ => by go_simp) ?_
    simp only [Act.put, List.setIfInBounds_toArray, List.set_cons_zero, List.set_cons_succ]
    refine wl_val (.int .i64 (((chk G H).1 : Nat) : Int)) rfl (fun _ => rfl) ?_
    simp only [Act.put, List.setIfInBounds_toArray, List.set_cons_zero, List.set_cons_succ]
    refine wl_val (.int .i64 (((chk G H).2 : Nat) : Int)) rfl (fun _ => rfl) ?_
    simp only [Act.put, List.setIfInBounds_toArray, List.set_cons_zero, List.set_cons_succ]
    refine wl_nil ?_
    refine we_then ?_
    refine wc_seq ?_
    refine wc_region ?_
    refine wl_val (.int .i64 (((chk G H).1 : Nat) : Int)) rfl (fun _ => rfl) ?_
    simp only [Act.put, List.setIfInBounds_toArray, List.set_cons_zero, List.set_cons_succ]
    refine wl_val (.bool ((((chk G H).1 : Nat) : Int) != 0)) rfl (fun w => run_cmp rfl rfl rfl Try.underlying3 rfl w) ?_
    simp only [Act.put, List.setIfInBounds_toArray, List.set_cons_zero, List.set_cons_succ]
    refine wl_nil ?_
    refine we_then ?_
    cases h5 : ((((chk G H).1 : Nat) : Int) != 0)
    · skip
      have p5 : ¬ ((((chk G H).1 : Nat) : Int) ≠ 0) := by simpa using h5
      refine wc_false rfl ?_
      refine wc_skip ?_
      refine we_then ?_
      refine wc_seq ?_
      refine wc_region ?_
      refine wl_load 25 (.tmp 1) (own_row 1 rfl) rfl rfl rfl Try.underlying25 rfl (by kernel_rfl) ?_
      simp only [Act.put, List.setIfInBounds_toArray, List.set_cons_zero, List.set_cons_succ]
      refine wl_call_at 14 #[.agg #[.slice p G.length c, .slice q H.length d]] (.agg #[.int .i64 ((grd G).1), .int .i64 ((grd G).2)]) rfl (fun _ => by go_simp) (fun W hE => Tra.grades_any G H _ _ _ _ W ((sl_old hS) W hE) (oks_below hG hE.below) ((sl_old hH) W hE) (may_of_chk (G := G) (H := H) (by omega))) ?_
      simp only [Act.put, List.setIfInBounds_toArray, List.set_cons_zero, List.set_cons_succ]
      refine wl_new 44 (#[.int .i64 0, .int .i64 0]) rfl (fun _ => by go_simp) ?_
      intro g6
      simp only [Act.put, List.setIfInBounds_toArray, List.set_cons_zero, List.set_cons_succ]
      refine wl_store 0 44 (.tmp 6) (.tmp 23) (#[.int .i64 ((grd G).1), .int .i64 ((grd G).2)]) rfl rfl rfl rfl rfl (by kernel_rfl) rfl (by simp [Value.oneCell']) ?_
      simp only [Act.put, List.set_cons_zero]
      refine wl_nil ?_
      refine we_then ?_
      refine wc_seq ?_
      refine wc_region ?_
      refine wl_load 36 (.tmp 3) (own_row 1 rfl) rfl rfl rfl Try.underlying36 rfl (by kernel_rfl) ?_
      simp only [Act.put, List.setIfInBounds_toArray, List.set_cons_zero, List.set_cons_succ]
      refine wl_call_at 15 #[.agg #[.slice zk3.p zk3.K.length zk3.c, .slice zk3.q H.length zk3.d]] (.tuple #[.int .i64 ((grd G).1), .int .i64 ((grd G).2)]) rfl (fun _ => by go_simp) (fun W hE => by have x := Tkref.grades_any zk3.K H _ _ zk3.c zk3.d W (held_at k3.segs (List.Sublist.cons _ (List.Sublist.cons _ (List.Sublist.cons _ (List.Sublist.refl _)))) hE) (k3.ok _ _ hG (hE.sub (List.Sublist.cons _ (List.Sublist.cons _ (List.Sublist.cons _ (List.Sublist.refl _)))))) (held_at k3.grps (List.Sublist.cons _ (List.Sublist.cons _ (List.Sublist.cons _ (List.Sublist.refl _)))) hE) (by rw [k3.same.length]; omega) (by omega) (by rw [k3.same.length]; exact (may_of_chk (G := G) (H := H) (by omega)).sizes.1) (by rw [(k3.same.each 0 (may_of_chk (G := G) (H := H) (by omega)).sizes.1).2.1]; exact ((may_of_chk (G := G) (H := H) (by omega)).segs 0 (may_of_chk (G := G) (H := H) (by omega)).sizes.1).may.some); rwa [grd_same k3.same] at x) ?_
      simp only [Act.put, List.setIfInBounds_toArray, List.set_cons_zero, List.set_cons_succ]
      refine wl_val (.tuple #[.int .i64 ((grd G).1), .int .i64 ((grd G).2)]) rfl (fun _ => rfl) ?_
      simp only [Act.put, List.setIfInBounds_toArray, List.set_cons_zero, List.set_cons_succ]
      refine wl_val (.int .i64 ((grd G).1)) rfl (fun _ => by go_simp) ?_
      simp only [Act.put, List.setIfInBounds_toArray, List.set_cons_zero, List.set_cons_succ]
      refine wl_val (.int .i64 ((grd G).2)) rfl (fun _ => by go_simp) ?_
      simp only [Act.put, List.setIfInBounds_toArray, List.set_cons_zero, List.set_cons_succ]
      refine wl_val (.int .i64 ((grd G).1)) rfl (fun _ => rfl) ?_
      simp only [Act.put, List.setIfInBounds_toArray, List.set_cons_zero, List.set_cons_succ]
      refine wl_val (.int .i64 ((grd G).2)) rfl (fun _ => rfl) ?_
      simp only [Act.put, List.setIfInBounds_toArray, List.set_cons_zero, List.set_cons_succ]
      refine wl_nil ?_
      refine we_then ?_
      refine wc_seq ?_
      refine wc_region ?_
      refine wl_val (.pointer (some ⟨g6, 0, none⟩)) rfl (fun _ => by go_simp) ?_
      simp only [Act.put, List.setIfInBounds_toArray, List.set_cons_zero, List.set_cons_succ]
      refine wl_cell 2 (.tmp 29) (.int .i64 ((grd G).1)) (own_row 0 rfl) rfl rfl rfl rfl Try.isAgg2 ?_
      simp only [Act.put, List.setIfInBounds_toArray, List.set_cons_zero, List.set_cons_succ]
      refine wl_val (.int .i64 ((grd G).1)) rfl (fun _ => rfl) ?_
      simp only [Act.put, List.setIfInBounds_toArray, List.set_cons_zero, List.set_cons_succ]
      refine wl_val (.bool true) rfl (fun w => run_cmp (b := true) rfl rfl rfl Try.underlying2 (by simp [cmpOf]) w) ?_
      simp only [Act.put, List.setIfInBounds_toArray, List.set_cons_zero, List.set_cons_succ]
      refine wl_val (.bool true) rfl (fun _ => rfl) ?_
      simp only [Act.put, List.setIfInBounds_toArray, List.set_cons_zero, List.set_cons_succ]
      refine wl_val (.pointer (some ⟨g6, 1, none⟩)) rfl (fun _ => by go_simp) ?_
      simp only [Act.put, List.setIfInBounds_toArray, List.set_cons_zero, List.set_cons_succ]
      refine wl_cell 2 (.tmp 34) (.int .i64 ((grd G).2)) (own_row 0 rfl) rfl rfl rfl rfl Try.isAgg2 ?_
      simp only [Act.put, List.setIfInBounds_toArray, List.set_cons_zero, List.set_cons_succ]
      refine wl_val (.int .i64 ((grd G).2)) rfl (fun _ => rfl) ?_
      simp only [Act.put, List.setIfInBounds_toArray, List.set_cons_zero, List.set_cons_succ]
      refine wl_val (.bool true) rfl (fun w => run_cmp (b := true) rfl rfl rfl Try.underlying2 (by simp [cmpOf]) w) ?_
      simp only [Act.put, List.setIfInBounds_toArray, List.set_cons_zero, List.set_cons_succ]
      refine wl_val (.bool true) rfl (fun _ => rfl) ?_
      simp only [Act.put, List.setIfInBounds_toArray, List.set_cons_zero, List.set_cons_succ]
      refine wl_val (.bool true) rfl (fun _ => rfl) ?_
      simp only [Act.put, List.setIfInBounds_toArray, List.set_cons_zero, List.set_cons_succ]
      refine wl_nil ?_
      refine we_then ?_
      refine wc_ret ?_
      refine we_ret1 (.bool true) rfl rfl rfl (fun w1 hE => ?_)
      exact ⟨rfl, hE.below⟩
    · skip
      have p5 : (((chk G H).1 : Nat) : Int) ≠ 0 := by simpa using h5
      refine wc_true rfl ?_
      refine wc_seq ?_
      refine wc_region ?_
      refine wl_val (.bool true) rfl (fun _ => rfl) ?_
      simp only [Act.put, List.setIfInBounds_toArray, List.set_cons_zero, List.set_cons_succ]
      refine wl_nil ?_
      refine we_then ?_
      refine wc_ret ?_
      refine we_then_ret ?_
      refine we_ret1 (.bool true) rfl rfl rfl (fun w1 hE => ?_)
      exact ⟨rfl, hE.below⟩
  · skip
    refine wc_true rfl ?_
    refine wc_seq ?_
    refine wc_region ?_
    refine wl_val (.bool true) rfl (fun _ => rfl) ?_
    simp only [Act.put, List.setIfInBounds_toArray, List.set_cons_zero, List.set_cons_succ]
    refine wl_nil ?_
    refine we_then ?_
    refine wc_ret ?_
    refine we_then_ret ?_
    refine we_ret1 (.bool true) rfl rfl rfl (fun w1 hE => ?_)
    exact ⟨rfl, hE.below⟩
end Go.Proofs.Ytdkahonmblnlgaa.Walks
