/-
  VoteTurns: the law's walk. Condition: the ends fit in 64 bits.
-/
import Derived.Test.YtppfkjbafbajgaaVlaw
namespace Go.Proofs.Ytppfkjbafbajgaa.Walks
open Go.ChangeShapes Go.WideShapes Go.ChangeAt Go.RowKit
open Arr Steady Sx Sw Sl Spn Vs Srt Vlo Vref Vvote Vlaw
set_option linter.unusedVariables false
set_option maxRecDepth 100000

theorem rev_at (L : Spans) (i : Nat) (h : i < L.length) : L.reverse[i]! = L[L.length - 1 - i]! := by
  rw [getElem!_pos L.reverse i (by rw [List.length_reverse]; exact h), getElem!_pos L (L.length - 1 - i) (by omega), List.getElem_reverse]
theorem fit_rev {L : Spans} (h : FitL L) : FitL L.reverse := fun s hs => h s (List.mem_reverse.1 hs)
theorem common_rev (L : Spans) (p : Option Addr) (c m : Nat) (hm : m = L.length) (w : World) (hL : Reads w p (flat enc2 (L.reverse.take m))) (hn : L.length ≤ 1000000) (hF : FitL L) :
    Calls Try.prog 8 #[.slice p m c] w fun e w' => e = .returned (.tuple #[.agg #[.int .i64 (byZ L (max (L.length : Int) 1)).1, .int .i64 (byZ L (max (L.length : Int) 1)).2.1], .bool (byZ L (max (L.length : Int) 1)).2.2]) ∧ Below w.heap.size w w' := by
  have e1 : m = L.reverse.length := by rw [List.length_reverse]; exact hm
  subst e1
  rw [List.take_length] at hL
  have := common_any L.reverse p c w hL (by rw [List.length_reverse]; exact hn) (fit_rev hF)
  rw [List.length_reverse] at this ⊢
  rwa [byZ_perm (L := L.reverse) (M := L) (k := max (L.length : Int) 1) (by omega) (List.reverse_perm L)] at this
theorem two_rev (L : Spans) (p : Option Addr) (c m : Nat) (hm : m = L.length) (w : World) (hL : Reads w p (flat enc2 (L.reverse.take m))) (hn : L.length ≤ 1000000) :
    Calls Try.prog 9 #[.slice p m c] w fun e w' => e = .returned (.tuple #[.agg #[.int .i64 (byZ L 2).1, .int .i64 (byZ L 2).2.1], .bool (byZ L 2).2.2]) ∧ Below w.heap.size w w' := by
  have e1 : m = L.reverse.length := by rw [List.length_reverse]; exact hm
  subst e1
  rw [List.take_length] at hL
  have := two_any L.reverse p c w hL (by rw [List.length_reverse]; exact hn)
  rwa [byZ_perm (L := L.reverse) (M := L) (by omega) (List.reverse_perm L)] at this
theorem in_by (L : Spans) (h2 : 2 ≤ L.length) (h : (byZ L (max (L.length : Int) 1)).2.2 = true) :
    (!decide ((byZ L (max (L.length : Int) 1)).1 ≤ (byZ L (max (L.length : Int) 1)).2.1) || decide ((byZ L 2).1 ≤ (byZ L (max (L.length : Int) 1)).1) && decide ((byZ L (max (L.length : Int) 1)).2.1 ≤ (byZ L 2).2.1)) = true := by
  have hi := (byZ_is L (max (L.length : Int) 1) (by omega)).yes h
  have hj := byZ_is L 2 (by omega)
  have hok : (byZ L 2).2.2 = true := by
    cases hq : (byZ L 2).2.2
    · exact absurd (show (2 : Int) ≤ (cnt L (byZ L (max (L.length : Int) 1)).1 : Int) by omega) (hj.no hq _)
    · rfl
  have hy := hj.yes hok
  have q1 := hy.2.2 (byZ L (max (L.length : Int) 1)).1 (by omega)
  have q2 := hy.2.2 (byZ L (max (L.length : Int) 1)).2.1 (by omega)
  rw [decide_eq_true q1.1, decide_eq_true q2.2]
  simp
theorem in_true (a b c d : Int) (h : (!decide (a ≤ b) || decide (c ≤ a) && decide (b ≤ d)) = true) (w : World) :
    Calls Try.prog 15 #[.agg #[.int .i64 a, .int .i64 b], .agg #[.int .i64 c, .int .i64 d]] w fun e w' => e = .returned (.bool true) ∧ Below w.heap.size w w' := by
  have := in_any a b c d w
  rwa [h] at this
set_option maxHeartbeats 2000000 in
theorem voteTurns_walk (L : Spans) (p : Option Addr) (c : Nat) (w : World) (hL : Reads w p (flat enc2 L)) (hF : FitL L) :
    Calls Try.prog 6 #[.slice p L.length c] w fun e w' => e = .returned (.bool true) ∧ Below w.heap.size w w' := by
  refine calls_sx Try.func6 rfl ?_
  simp only [Try.ntmps6, List.size_toArray, List.length_cons, List.length_nil, Nat.reduceAdd, Nat.reduceSub, Array.replicate_succ, Array.replicate_zero, List.push_toArray, List.append_toArray, List.nil_append, List.cons_append]
  refine wc_seq ?_
  refine wc_region ?_
  refine wl_val (.bool false) rfl (fun _ => rfl) ?_
  simp only [Act.put, List.setIfInBounds_toArray, List.set_cons_zero, List.set_cons_succ]
  refine wl_nil ?_
  refine we_then ?_
  refine wc_seq ?_
  refine wc_seq ?_
  refine wc_region ?_
  refine wl_call 7 #[] (.bool true) rfl (fun _ => by go_simp) (fun W => anchor_any W) ?_
  simp only [Act.put, List.setIfInBounds_toArray, List.set_cons_zero, List.set_cons_succ]
  refine wl_val (.bool false) rfl (fun _ => by go_simp) ?_
  simp only [Act.put, List.setIfInBounds_toArray, List.set_cons_zero, List.set_cons_succ]
  refine wl_nil ?_
  refine we_then ?_
  refine wc_false rfl ?_
  refine wc_skip ?_
  refine we_then ?_
  refine wc_seq ?_
  refine wc_seq ?_
  refine wc_region ?_
  refine wl_val (.slice p L.length c) rfl (fun _ => rfl) ?_
  simp only [Act.put, List.setIfInBounds_toArray, List.set_cons_zero, List.set_cons_succ]
  refine wl_val (.int .i64 (L.length : Int)) rfl (fun w => er_len rfl rfl Try.underlying22 w) ?_
  simp only [Act.put, List.setIfInBounds_toArray, List.set_cons_zero, List.set_cons_succ]
  refine wl_val (.bool (decide (40 < (L.length : Int)))) rfl (fun w => run_cmp rfl rfl rfl Try.underlying3 rfl w) ?_
  simp only [Act.put, List.setIfInBounds_toArray, List.set_cons_zero, List.set_cons_succ]
  refine wl_nil ?_
  refine we_then ?_
  cases h1 : (decide (40 < (L.length : Int)))
  · skip
    have p1 : ¬ (40 < (L.length : Int)) := of_decide_eq_false h1
    refine wc_false rfl ?_
    refine wc_skip ?_
    refine we_then ?_
    refine wc_seq ?_
    refine wc_region ?_
    refine wl_val (.slice none 0 0) rfl (fun _ => rfl) ?_
    simp only [Act.put, List.setIfInBounds_toArray, List.set_cons_zero, List.set_cons_succ]
    refine wl_nil ?_
    refine we_then ?_
    refine wc_seq ?_
    refine wc_seq ?_
    refine wc_region ?_
    refine wl_val (.slice p L.length c) rfl (fun _ => rfl) ?_
    simp only [Act.put, List.setIfInBounds_toArray, List.set_cons_zero, List.set_cons_succ]
    refine wl_val (.int .i64 (L.length : Int)) rfl (fun w => er_len rfl rfl Try.underlying22 w) ?_
    simp only [Act.put, List.setIfInBounds_toArray, List.set_cons_zero, List.set_cons_succ]
    refine wl_val (.int .i64 0) rfl (fun _ => rfl) ?_
    simp only [Act.put, List.setIfInBounds_toArray, List.set_cons_zero, List.set_cons_succ]
    refine wl_nil ?_
    refine we_then ?_
    refine wc_block ?_
    refine wc_loop (fun (zz : Nat × Own × Value × Value × Value × Value × Value × Value × Value × Value × Value × Value × Value × Value × Value × Value × Value) => match zz with | ⟨i, s, u4, u21, u22, u23, u24, u25, u26, u27, u28, u29, u30, u31, u32, u33, u34⟩ => ({ tmps := #[.slice p L.length c, undef, .bool false, .slice s.ptr i s.cap, u4, undef, undef, undef, undef, undef, undef, undef, undef, .bool true, .bool false, .slice p L.length c, .int .i64 (L.length : Int), .bool false, .slice p L.length c, .int .i64 (L.length : Int), .int .i64 (i : Int), u21, u22, u23, u24, u25, u26, u27, u28, u29, u30, u31, u32, u33, u34, undef, undef, undef, undef, undef, undef, undef, undef, undef, undef, undef, undef, undef, undef, undef, undef, undef, undef, undef, undef, undef, undef, undef, undef, undef, undef, undef, undef, undef, undef, undef, undef, undef, undef, undef, undef, undef, undef, undef, undef, undef, undef, undef, undef, undef, undef, undef, undef, undef, undef, undef, undef], defers := [] } : Act)) (fun (zz : Nat × Own × Value × Value × Value × Value × Value × Value × Value × Value × Value × Value × Value × Value × Value × Value × Value) => match zz with | ⟨i, s, u4, u21, u22, u23, u24, u25, u26, u27, u28, u29, u30, u31, u32, u33, u34⟩ => (s.rows 25 ++ [])) (fun (zz : Nat × Own × Value × Value × Value × Value × Value × Value × Value × Value × Value × Value × Value × Value × Value × Value × Value) => match zz with | ⟨i, s, u4, u21, u22, u23, u24, u25, u26, u27, u28, u29, u30, u31, u32, u33, u34⟩ => i ≤ L.length ∧ s.Has 2 i (flat enc2 (L.reverse.take i))) (fun (zz : Nat × Own × Value × Value × Value × Value × Value × Value × Value × Value × Value × Value × Value × Value × Value × Value × Value) => match zz with | ⟨i, s, u4, u21, u22, u23, u24, u25, u26, u27, u28, u29, u30, u31, u32, u33, u34⟩ => L.length - i) ⟨0, Own.none, _, _, _, _, _, _, _, _, _, _, _, _, _, _, _⟩ (by (try dsimp only); exact ⟨by omega, Own.has_none 2⟩) rfl List.Sublist.slnil ?_
    rintro ⟨i, s, u4, u21, u22, u23, u24, u25, u26, u27, u28, u29, u30, u31, u32, u33, u34⟩ hφ
    (try dsimp only at hφ ⊢)
    obtain ⟨b1, b2⟩ := hφ
    refine wc_seq ?_
    refine wc_region ?_
    refine wl_val (.bool (decide ((i : Int) < (L.length : Int)))) rfl (fun w => run_cmp rfl rfl rfl Try.underlying3 rfl w) ?_
    simp only [Act.put, List.setIfInBounds_toArray, List.set_cons_zero, List.set_cons_succ]
    refine wl_nil ?_
    refine we_then ?_
    refine wc_seq ?_
    cases h2 : (decide ((i : Int) < (L.length : Int)))
    · skip
      have p2 : ¬ ((i : Int) < (L.length : Int)) := of_decide_eq_false h2
      refine wc_false rfl ?_
      refine wc_exit ?_
      refine we_then_exit ?_
      refine we_then_exit ?_
      refine we_in_here ?_
      refine we_then ?_
      refine wc_seq ?_
      refine wc_region ?_
      refine wl_val (.slice p L.length c) rfl (fun _ => rfl) ?_
      simp only [Act.put, List.setIfInBounds_toArray, List.set_cons_zero, List.set_cons_succ]
      refine wl_call_at 8 #[.slice p L.length c] (.tuple #[.agg #[.int .i64 ((byZ L (max (L.length : Int) 1)).1), .int .i64 ((byZ L (max (L.length : Int) 1)).2.1)], .bool ((byZ L (max (L.length : Int) 1)).2.2)]) rfl (fun _ => by go_simp) (fun W hE => common_any L p c W (sl_old (R := []) hL W (hE.sub (List.nil_sublist _))) (by omega) hF) ?_
      simp only [Act.put, List.setIfInBounds_toArray, List.set_cons_zero, List.set_cons_succ]
      refine wl_val (.tuple #[.agg #[.int .i64 ((byZ L (max (L.length : Int) 1)).1), .int .i64 ((byZ L (max (L.length : Int) 1)).2.1)], .bool ((byZ L (max (L.length : Int) 1)).2.2)]) rfl (fun _ => rfl) ?_
      simp only [Act.put, List.setIfInBounds_toArray, List.set_cons_zero, List.set_cons_succ]
      refine wl_val (.agg #[.int .i64 ((byZ L (max (L.length : Int) 1)).1), .int .i64 ((byZ L (max (L.length : Int) 1)).2.1)]) rfl (fun _ => by go_simp) ?_
      simp only [Act.put, List.setIfInBounds_toArray, List.set_cons_zero, List.set_cons_succ]
      refine wl_val (.bool ((byZ L (max (L.length : Int) 1)).2.2)) rfl (fun _ => by go_simp) ?_
      simp only [Act.put, List.setIfInBounds_toArray, List.set_cons_zero, List.set_cons_succ]
      refine wl_new 25 (#[.int .i64 0, .int .i64 0]) rfl (fun _ => by go_simp) ?_
      intro g3
      simp only [Act.put, List.setIfInBounds_toArray, List.set_cons_zero, List.set_cons_succ]
      refine wl_store 0 25 (.tmp 5) (.tmp 38) (#[.int .i64 ((byZ L (max (L.length : Int) 1)).1), .int .i64 ((byZ L (max (L.length : Int) 1)).2.1)]) rfl rfl rfl rfl rfl (by kernel_rfl) rfl (by simp [Value.oneCell']) ?_
      simp only [Act.put, List.set_cons_zero]
      refine wl_val (.bool ((byZ L (max (L.length : Int) 1)).2.2)) rfl (fun _ => rfl) ?_
      simp only [Act.put, List.setIfInBounds_toArray, List.set_cons_zero, List.set_cons_succ]
      refine wl_nil ?_
      refine we_then ?_
      refine wc_seq ?_
      refine wc_region ?_
      refine wl_val (.slice s.ptr i s.cap) rfl (fun _ => rfl) ?_
      simp only [Act.put, List.setIfInBounds_toArray, List.set_cons_zero, List.set_cons_succ]
      refine wl_call_at 8 #[.slice s.ptr i s.cap] (.tuple #[.agg #[.int .i64 ((byZ L (max (L.length : Int) 1)).1), .int .i64 ((byZ L (max (L.length : Int) 1)).2.1)], .bool ((byZ L (max (L.length : Int) 1)).2.2)]) rfl (fun _ => by go_simp) (fun W hE => common_rev L _ _ i (by omega) W ((sl_own [⟨g3, #[.int .i64 ((byZ L (max (L.length : Int) 1)).1), .int .i64 ((byZ L (max (L.length : Int) 1)).2.1)], 25⟩] [] b2 rfl) W hE) (by omega) hF) ?_
      simp only [Act.put, List.setIfInBounds_toArray, List.set_cons_zero, List.set_cons_succ]
      refine wl_val (.tuple #[.agg #[.int .i64 ((byZ L (max (L.length : Int) 1)).1), .int .i64 ((byZ L (max (L.length : Int) 1)).2.1)], .bool ((byZ L (max (L.length : Int) 1)).2.2)]) rfl (fun _ => rfl) ?_
      simp only [Act.put, List.setIfInBounds_toArray, List.set_cons_zero, List.set_cons_succ]
      refine wl_val (.agg #[.int .i64 ((byZ L (max (L.length : Int) 1)).1), .int .i64 ((byZ L (max (L.length : Int) 1)).2.1)]) rfl (fun _ => by go_simp) ?_
      simp only [Act.put, List.setIfInBounds_toArray, List.set_cons_zero, List.set_cons_succ]
      refine wl_val (.bool ((byZ L (max (L.length : Int) 1)).2.2)) rfl (fun _ => by go_simp) ?_
      simp only [Act.put, List.setIfInBounds_toArray, List.set_cons_zero, List.set_cons_succ]
      refine wl_new 25 (#[.int .i64 0, .int .i64 0]) rfl (fun _ => by go_simp) ?_
      intro g4
      simp only [Act.put, List.setIfInBounds_toArray, List.set_cons_zero, List.set_cons_succ]
      refine wl_store 0 25 (.tmp 7) (.tmp 43) (#[.int .i64 ((byZ L (max (L.length : Int) 1)).1), .int .i64 ((byZ L (max (L.length : Int) 1)).2.1)]) rfl rfl rfl rfl rfl (by kernel_rfl) rfl (by simp [Value.oneCell']) ?_
      simp only [Act.put, List.set_cons_zero]
      refine wl_val (.bool ((byZ L (max (L.length : Int) 1)).2.2)) rfl (fun _ => rfl) ?_
      simp only [Act.put, List.setIfInBounds_toArray, List.set_cons_zero, List.set_cons_succ]
      refine wl_nil ?_
      refine we_then ?_
      refine wc_seq ?_
      refine wc_region ?_
      refine wl_val (.slice p L.length c) rfl (fun _ => rfl) ?_
      simp only [Act.put, List.setIfInBounds_toArray, List.set_cons_zero, List.set_cons_succ]
      refine wl_call_at 9 #[.slice p L.length c] (.tuple #[.agg #[.int .i64 ((byZ L 2).1), .int .i64 ((byZ L 2).2.1)], .bool ((byZ L 2).2.2)]) rfl (fun _ => by go_simp) (fun W hE => two_any L p c W (sl_old (R := []) hL W (hE.sub (List.nil_sublist _))) (by omega)) ?_
      simp only [Act.put, List.setIfInBounds_toArray, List.set_cons_zero, List.set_cons_succ]
      refine wl_val (.tuple #[.agg #[.int .i64 ((byZ L 2).1), .int .i64 ((byZ L 2).2.1)], .bool ((byZ L 2).2.2)]) rfl (fun _ => rfl) ?_
      simp only [Act.put, List.setIfInBounds_toArray, List.set_cons_zero, List.set_cons_succ]
      refine wl_val (.agg #[.int .i64 ((byZ L 2).1), .int .i64 ((byZ L 2).2.1)]) rfl (fun _ => by go_simp) ?_
      simp only [Act.put, List.setIfInBounds_toArray, List.set_cons_zero, List.set_cons_succ]
      refine wl_val (.bool ((byZ L 2).2.2)) rfl (fun _ => by go_simp) ?_
      simp only [Act.put, List.setIfInBounds_toArray, List.set_cons_zero, List.set_cons_succ]
      refine wl_new 25 (#[.int .i64 0, .int .i64 0]) rfl (fun _ => by go_simp) ?_
      intro g5
      simp only [Act.put, List.setIfInBounds_toArray, List.set_cons_zero, List.set_cons_succ]
      refine wl_store 0 25 (.tmp 9) (.tmp 48) (#[.int .i64 ((byZ L 2).1), .int .i64 ((byZ L 2).2.1)]) rfl rfl rfl rfl rfl (by kernel_rfl) rfl (by simp [Value.oneCell']) ?_
      simp only [Act.put, List.set_cons_zero]
      refine wl_val (.bool ((byZ L 2).2.2)) rfl (fun _ => rfl) ?_
      simp only [Act.put, List.setIfInBounds_toArray, List.set_cons_zero, List.set_cons_succ]
      refine wl_nil ?_
      refine we_then ?_
      refine wc_seq ?_
      refine wc_region ?_
      refine wl_val (.slice s.ptr i s.cap) rfl (fun _ => rfl) ?_
      simp only [Act.put, List.setIfInBounds_toArray, List.set_cons_zero, List.set_cons_succ]
      refine wl_call_at 9 #[.slice s.ptr i s.cap] (.tuple #[.agg #[.int .i64 ((byZ L 2).1), .int .i64 ((byZ L 2).2.1)], .bool ((byZ L 2).2.2)]) rfl (fun _ => by go_simp) (fun W hE => two_rev L _ _ i (by omega) W ((sl_own [⟨g5, #[.int .i64 ((byZ L 2).1), .int .i64 ((byZ L 2).2.1)], 25⟩, ⟨g4, #[.int .i64 ((byZ L (max (L.length : Int) 1)).1), .int .i64 ((byZ L (max (L.length : Int) 1)).2.1)], 25⟩, ⟨g3, #[.int .i64 ((byZ L (max (L.length : Int) 1)).1), .int .i64 ((byZ L (max (L.length : Int) 1)).2.1)], 25⟩] [] b2 rfl) W hE) (by omega)) ?_
      simp only [Act.put, List.setIfInBounds_toArray, List.set_cons_zero, List.set_cons_succ]
      refine wl_val (.tuple #[.agg #[.int .i64 ((byZ L 2).1), .int .i64 ((byZ L 2).2.1)], .bool ((byZ L 2).2.2)]) rfl (fun _ => rfl) ?_
      simp only [Act.put, List.setIfInBounds_toArray, List.set_cons_zero, List.set_cons_succ]
      refine wl_val (.agg #[.int .i64 ((byZ L 2).1), .int .i64 ((byZ L 2).2.1)]) rfl (fun _ => by go_simp) ?_
      simp only [Act.put, List.setIfInBounds_toArray, List.set_cons_zero, List.set_cons_succ]
      refine wl_val (.bool ((byZ L 2).2.2)) rfl (fun _ => by go_simp) ?_
      simp only [Act.put, List.setIfInBounds_toArray, List.set_cons_zero, List.set_cons_succ]
      refine wl_new 25 (#[.int .i64 0, .int .i64 0]) rfl (fun _ => by go_simp) ?_
      intro g6
      simp only [Act.put, List.setIfInBounds_toArray, List.set_cons_zero, List.set_cons_succ]
      refine wl_store 0 25 (.tmp 11) (.tmp 53) (#[.int .i64 ((byZ L 2).1), .int .i64 ((byZ L 2).2.1)]) rfl rfl rfl rfl rfl (by kernel_rfl) rfl (by simp [Value.oneCell']) ?_
      simp only [Act.put, List.set_cons_zero]
      refine wl_val (.bool ((byZ L 2).2.2)) rfl (fun _ => rfl) ?_
      simp only [Act.put, List.setIfInBounds_toArray, List.set_cons_zero, List.set_cons_succ]
      refine wl_nil ?_
      refine we_then ?_
      refine wc_seq ?_
      refine wc_region ?_
      refine wl_load 25 (.tmp 5) (own_row 3 rfl) rfl rfl rfl Try.underlying25 rfl (by kernel_rfl) ?_
      simp only [Act.put, List.setIfInBounds_toArray, List.set_cons_zero, List.set_cons_succ]
      refine wl_load 25 (.tmp 7) (own_row 2 rfl) rfl rfl rfl Try.underlying25 rfl (by kernel_rfl) ?_
      simp only [Act.put, List.setIfInBounds_toArray, List.set_cons_zero, List.set_cons_succ]
      refine wl_val (.bool true) rfl (fun _ => by go_simp) ?_
      simp only [Act.put, List.setIfInBounds_toArray, List.set_cons_zero, List.set_cons_succ]
      refine wl_val (.bool true) rfl (fun _ => rfl) ?_
      simp only [Act.put, List.setIfInBounds_toArray, List.set_cons_zero, List.set_cons_succ]
      refine wl_val (.bool ((byZ L (max (L.length : Int) 1)).2.2)) rfl (fun _ => rfl) ?_
      simp only [Act.put, List.setIfInBounds_toArray, List.set_cons_zero, List.set_cons_succ]
      refine wl_val (.bool ((byZ L (max (L.length : Int) 1)).2.2)) rfl (fun _ => rfl) ?_
      simp only [Act.put, List.setIfInBounds_toArray, List.set_cons_zero, List.set_cons_succ]
      refine wl_val (.bool true) rfl (fun w => run_beq rfl rfl rfl Try.underlying4 (by cases ((byZ L (max (L.length : Int) 1)).2.2) <;> rfl) w) ?_
      simp only [Act.put, List.setIfInBounds_toArray, List.set_cons_zero, List.set_cons_succ]
      refine wl_val (.bool true) rfl (fun _ => rfl) ?_
      simp only [Act.put, List.setIfInBounds_toArray, List.set_cons_zero, List.set_cons_succ]
      refine wl_val (.bool true) rfl (fun _ => rfl) ?_
      simp only [Act.put, List.setIfInBounds_toArray, List.set_cons_zero, List.set_cons_succ]
      refine wl_load 25 (.tmp 9) (own_row 1 rfl) rfl rfl rfl Try.underlying25 rfl (by kernel_rfl) ?_
      simp only [Act.put, List.setIfInBounds_toArray, List.set_cons_zero, List.set_cons_succ]
      refine wl_load 25 (.tmp 11) (own_row 0 rfl) rfl rfl rfl Try.underlying25 rfl (by kernel_rfl) ?_
      simp only [Act.put, List.setIfInBounds_toArray, List.set_cons_zero, List.set_cons_succ]
      refine wl_val (.bool true) rfl (fun _ => by go_simp) ?_
      simp only [Act.put, List.setIfInBounds_toArray, List.set_cons_zero, List.set_cons_succ]
      refine wl_val (.bool true) rfl (fun _ => rfl) ?_
      simp only [Act.put, List.setIfInBounds_toArray, List.set_cons_zero, List.set_cons_succ]
      refine wl_val (.bool true) rfl (fun _ => rfl) ?_
      simp only [Act.put, List.setIfInBounds_toArray, List.set_cons_zero, List.set_cons_succ]
      refine wl_val (.bool ((byZ L 2).2.2)) rfl (fun _ => rfl) ?_
      simp only [Act.put, List.setIfInBounds_toArray, List.set_cons_zero, List.set_cons_succ]
      refine wl_val (.bool ((byZ L 2).2.2)) rfl (fun _ => rfl) ?_
      simp only [Act.put, List.setIfInBounds_toArray, List.set_cons_zero, List.set_cons_succ]
      refine wl_val (.bool true) rfl (fun w => run_beq rfl rfl rfl Try.underlying4 (by cases ((byZ L 2).2.2) <;> rfl) w) ?_
      simp only [Act.put, List.setIfInBounds_toArray, List.set_cons_zero, List.set_cons_succ]
      refine wl_val (.bool true) rfl (fun _ => rfl) ?_
      simp only [Act.put, List.setIfInBounds_toArray, List.set_cons_zero, List.set_cons_succ]
      refine wl_val (.bool true) rfl (fun _ => rfl) ?_
      simp only [Act.put, List.setIfInBounds_toArray, List.set_cons_zero, List.set_cons_succ]
      refine wl_val (.bool ((byZ L (max (L.length : Int) 1)).2.2)) rfl (fun _ => rfl) ?_
      simp only [Act.put, List.setIfInBounds_toArray, List.set_cons_zero, List.set_cons_succ]
      refine wl_val (.bool (!((byZ L (max (L.length : Int) 1)).2.2))) rfl (fun _ => by go_simp) ?_
      simp only [Act.put, List.setIfInBounds_toArray, List.set_cons_zero, List.set_cons_succ]
      refine wl_val (.bool (!((byZ L (max (L.length : Int) 1)).2.2))) rfl (fun _ => rfl) ?_
      simp only [Act.put, List.setIfInBounds_toArray, List.set_cons_zero, List.set_cons_succ]
      cases h7 : ((byZ L (max (L.length : Int) 1)).2.2)
      · skip
        refine wl_skip rfl ?_
        simp only [Act.put, List.setIfInBounds_toArray, List.set_cons_zero, List.set_cons_succ]
        refine wl_skip rfl ?_
        simp only [Act.put, List.setIfInBounds_toArray, List.set_cons_zero, List.set_cons_succ]
        refine wl_skip rfl ?_
        simp only [Act.put, List.setIfInBounds_toArray, List.set_cons_zero, List.set_cons_succ]
        refine wl_val (.bool true) rfl (fun _ => rfl) ?_
        simp only [Act.put, List.setIfInBounds_toArray, List.set_cons_zero, List.set_cons_succ]
        refine wl_val (.bool true) rfl (fun _ => rfl) ?_
        simp only [Act.put, List.setIfInBounds_toArray, List.set_cons_zero, List.set_cons_succ]
        refine wl_skip rfl ?_
        simp only [Act.put, List.setIfInBounds_toArray, List.set_cons_zero, List.set_cons_succ]
        refine wl_skip rfl ?_
        simp only [Act.put, List.setIfInBounds_toArray, List.set_cons_zero, List.set_cons_succ]
        refine wl_skip rfl ?_
        simp only [Act.put, List.setIfInBounds_toArray, List.set_cons_zero, List.set_cons_succ]
        refine wl_val (.bool true) rfl (fun _ => rfl) ?_
        simp only [Act.put, List.setIfInBounds_toArray, List.set_cons_zero, List.set_cons_succ]
        refine wl_val (.bool true) rfl (fun _ => rfl) ?_
        simp only [Act.put, List.setIfInBounds_toArray, List.set_cons_zero, List.set_cons_succ]
        refine wl_val (.bool true) rfl (fun _ => rfl) ?_
        simp only [Act.put, List.setIfInBounds_toArray, List.set_cons_zero, List.set_cons_succ]
        refine wl_nil ?_
        refine we_then ?_
        refine wc_ret ?_
        refine we_ret1 (.bool true) rfl rfl rfl (fun w1 hE => ?_)
        exact ⟨rfl, hE.below⟩
      · skip
        refine wl_val (.slice p L.length c) rfl (fun _ => rfl) ?_
        simp only [Act.put, List.setIfInBounds_toArray, List.set_cons_zero, List.set_cons_succ]
        refine wl_val (.int .i64 (L.length : Int)) rfl (fun w => er_len rfl rfl Try.underlying22 w) ?_
        simp only [Act.put, List.setIfInBounds_toArray, List.set_cons_zero, List.set_cons_succ]
        refine wl_val (.bool (decide ((L.length : Int) < 2))) rfl (fun w => run_cmp rfl rfl rfl Try.underlying3 rfl w) ?_
        simp only [Act.put, List.setIfInBounds_toArray, List.set_cons_zero, List.set_cons_succ]
        refine wl_val (.bool (decide ((L.length : Int) < 2))) rfl (fun _ => rfl) ?_
        simp only [Act.put, List.setIfInBounds_toArray, List.set_cons_zero, List.set_cons_succ]
        refine wl_val (.bool (decide ((L.length : Int) < 2))) rfl (fun _ => rfl) ?_
        simp only [Act.put, List.setIfInBounds_toArray, List.set_cons_zero, List.set_cons_succ]
        cases h8 : (decide ((L.length : Int) < 2))
        · skip
          have p8 : ¬ ((L.length : Int) < 2) := of_decide_eq_false h8
          refine wl_load 25 (.tmp 5) (own_row 3 rfl) rfl rfl rfl Try.underlying25 rfl (by kernel_rfl) ?_
          simp only [Act.put, List.setIfInBounds_toArray, List.set_cons_zero, List.set_cons_succ]
          refine wl_load 25 (.tmp 9) (own_row 1 rfl) rfl rfl rfl Try.underlying25 rfl (by kernel_rfl) ?_
          simp only [Act.put, List.setIfInBounds_toArray, List.set_cons_zero, List.set_cons_succ]
          refine wl_call 15 #[.agg #[.int .i64 ((byZ L (max (L.length : Int) 1)).1), .int .i64 ((byZ L (max (L.length : Int) 1)).2.1)], .agg #[.int .i64 ((byZ L 2).1), .int .i64 ((byZ L 2).2.1)]] (.bool true) rfl (fun _ => by go_simp) (fun W => in_true _ _ _ _ (in_by L (by omega) h7) W) ?_
          simp only [Act.put, List.setIfInBounds_toArray, List.set_cons_zero, List.set_cons_succ]
          refine wl_val (.bool true) rfl (fun _ => rfl) ?_
          simp only [Act.put, List.setIfInBounds_toArray, List.set_cons_zero, List.set_cons_succ]
          refine wl_val (.bool true) rfl (fun _ => rfl) ?_
          simp only [Act.put, List.setIfInBounds_toArray, List.set_cons_zero, List.set_cons_succ]
          refine wl_val (.bool true) rfl (fun _ => rfl) ?_
          simp only [Act.put, List.setIfInBounds_toArray, List.set_cons_zero, List.set_cons_succ]
          refine wl_nil ?_
          refine we_then ?_
          refine wc_ret ?_
          refine we_ret1 (.bool true) rfl rfl rfl (fun w1 hE => ?_)
          exact ⟨rfl, hE.below⟩
        · skip
          have p8 : (L.length : Int) < 2 := of_decide_eq_true h8
          refine wl_skip rfl ?_
          simp only [Act.put, List.setIfInBounds_toArray, List.set_cons_zero, List.set_cons_succ]
          refine wl_skip rfl ?_
          simp only [Act.put, List.setIfInBounds_toArray, List.set_cons_zero, List.set_cons_succ]
          refine wl_skip rfl ?_
          simp only [Act.put, List.setIfInBounds_toArray, List.set_cons_zero, List.set_cons_succ]
          refine wl_val (.bool true) rfl (fun _ => rfl) ?_
          simp only [Act.put, List.setIfInBounds_toArray, List.set_cons_zero, List.set_cons_succ]
          refine wl_val (.bool true) rfl (fun _ => rfl) ?_
          simp only [Act.put, List.setIfInBounds_toArray, List.set_cons_zero, List.set_cons_succ]
          refine wl_val (.bool true) rfl (fun _ => rfl) ?_
          simp only [Act.put, List.setIfInBounds_toArray, List.set_cons_zero, List.set_cons_succ]
          refine wl_nil ?_
          refine we_then ?_
          refine wc_ret ?_
          refine we_ret1 (.bool true) rfl rfl rfl (fun w1 hE => ?_)
          exact ⟨rfl, hE.below⟩
    · skip
      have p2 : (i : Int) < (L.length : Int) := of_decide_eq_true h2
      refine wc_true rfl ?_
      refine wc_skip ?_
      refine we_then ?_
      refine wc_seq ?_
      refine wc_block ?_
      refine wc_seq ?_
      refine wc_region ?_
      refine wl_val (.int .i64 (i : Int)) rfl (fun _ => rfl) ?_
      simp only [Act.put, List.setIfInBounds_toArray, List.set_cons_zero, List.set_cons_succ]
      refine wl_val (.int .i64 (i : Int)) rfl (fun _ => rfl) ?_
      simp only [Act.put, List.setIfInBounds_toArray, List.set_cons_zero, List.set_cons_succ]
      refine wl_nil ?_
      refine we_then ?_
      refine wc_region ?_
      refine wl_val (.slice s.ptr i s.cap) rfl (fun _ => rfl) ?_
      simp only [Act.put, List.setIfInBounds_toArray, List.set_cons_zero, List.set_cons_succ]
      refine wl_val (.slice p L.length c) rfl (fun _ => rfl) ?_
      simp only [Act.put, List.setIfInBounds_toArray, List.set_cons_zero, List.set_cons_succ]
      refine wl_val (.slice p L.length c) rfl (fun _ => rfl) ?_
      simp only [Act.put, List.setIfInBounds_toArray, List.set_cons_zero, List.set_cons_succ]
      refine wl_val (.int .i64 (L.length : Int)) rfl (fun w => er_len rfl rfl Try.underlying22 w) ?_
      simp only [Act.put, List.setIfInBounds_toArray, List.set_cons_zero, List.set_cons_succ]
      refine wl_val (.int .i64 ((L.length : Int) - 1)) rfl (fun w => run_arith (op := .sub) rfl rfl rfl Try.underlying3 (congrArg some (i64_in (by omega) (by omega))) w) ?_
      simp only [Act.put, List.setIfInBounds_toArray, List.set_cons_zero, List.set_cons_succ]
      refine wl_val (.int .i64 (i : Int)) rfl (fun _ => rfl) ?_
      simp only [Act.put, List.setIfInBounds_toArray, List.set_cons_zero, List.set_cons_succ]
      refine wl_val (.int .i64 (((L.length : Int) - 1) - (i : Int))) rfl (fun w => run_arith (op := .sub) rfl rfl rfl Try.underlying3 (congrArg some (i64_in (by omega) (by omega))) w) ?_
      simp only [Act.put, List.setIfInBounds_toArray, List.set_cons_zero, List.set_cons_succ]
      refine wl_read (eaddr p ((L.length - 1 - i) * 2)) rfl (er_index (L.length - 1 - i) 2 (sl_old hL) rfl rfl rfl (by omega) (by omega) (flat_length (enc := enc2) (size := 2) (fun _ => rfl) _) (by decide) Try.underlying22 (by kernel_rfl)) ?_
      simp only [Act.put, List.setIfInBounds_toArray, List.set_cons_zero, List.set_cons_succ]
      refine wl_read (.agg #[.int .i64 ((L[L.length - 1 - i]!).1), .int .i64 ((L[L.length - 1 - i]!).2)]) rfl (er_part ((L.length - 1 - i) * 2) [.int .i64 ((L[L.length - 1 - i]!).1), .int .i64 ((L[L.length - 1 - i]!).2)] (sl_old hL) rfl rfl (flat_part (enc := enc2) (fun _ => rfl) L (L.length - 1 - i) (by omega)) (Nat.zero_lt_succ _) Try.underlying25 rfl (by kernel_rfl)) ?_
      simp only [Act.put, List.setIfInBounds_toArray, List.set_cons_zero, List.set_cons_succ]
      refine wl_lit (e := 25) #[.int .i64 ((L[L.length - 1 - i]!).1), .int .i64 ((L[L.length - 1 - i]!).2)] 1 rfl (fun _ => by go_simp) ?_
      intro g9
      simp only [Act.put, List.setIfInBounds_toArray, List.set_cons_zero, List.set_cons_succ]
      refine wl_append (e := 25) (size := 2) (bytes := 16) [⟨g9, #[.int .i64 ((L[L.length - 1 - i]!).1), .int .i64 ((L[L.length - 1 - i]!).2)], 25⟩] [] s (ys := [.int .i64 ((L[L.length - 1 - i]!).1), .int .i64 ((L[L.length - 1 - i]!).2)]) rfl b2 (sl_row 0 rfl) rfl (by simp [Value.oneCell']) rfl rfl rfl rfl Try.underlying22 (by unfold Elem; kernel_rfl) (by decide) (by unfold maxLen; omega) (by omega) ?_
      intro s10 hs10
      simp only [List.cons_append, List.nil_append, Act.put, List.setIfInBounds_toArray, List.set_cons_zero, List.set_cons_succ]
      refine wl_val (.slice s10.ptr (i + 1) s10.cap) rfl (fun _ => rfl) ?_
      simp only [Act.put, List.setIfInBounds_toArray, List.set_cons_zero, List.set_cons_succ]
      refine wl_nil ?_
      refine we_in ?_
      refine we_then ?_
      refine wc_region ?_
      refine wl_val (.int .i64 ((i : Int) + 1)) rfl (fun w => run_arith (op := .add) rfl rfl rfl Try.underlying3 (congrArg some (i64_in (by omega) (by omega))) w) ?_
      simp only [Act.put, List.setIfInBounds_toArray, List.set_cons_zero, List.set_cons_succ]
      refine wl_val (.int .i64 ((i : Int) + 1)) rfl (fun _ => rfl) ?_
      simp only [Act.put, List.setIfInBounds_toArray, List.set_cons_zero, List.set_cons_succ]
      refine wl_nil ?_
      exact we_meet ⟨(i + 1), s10, _, _, _, _, _, _, _, _, _, _, _, _, _, _, _⟩ (by (try dsimp only); exact ⟨⟨by omega, by rw [take_snoc L.reverse i (by rw [List.length_reverse]; omega), rev_at L i (by omega)]; exact has_snoc hs10⟩, by omega⟩) rfl (List.Sublist.cons _ (List.Sublist.append_left List.Sublist.slnil _))
  · skip
    have p1 : 40 < (L.length : Int) := of_decide_eq_true h1
    refine wc_true rfl ?_
    refine wc_seq ?_
    refine wc_region ?_
    refine wl_val (.bool true) rfl (fun _ => rfl) ?_
    simp only [Act.put, List.setIfInBounds_toArray, List.set_cons_zero, List.set_cons_succ]
    refine wl_nil ?_
    refine we_then ?_
    refine wc_ret ?_
    refine we_then_ret ?_
    refine we_ret1 (.bool true) rfl rfl rfl (fun w1 hE => ?_)
    exact ⟨rfl, hE.below⟩
end Go.Proofs.Ytppfkjbafbajgaa.Walks
