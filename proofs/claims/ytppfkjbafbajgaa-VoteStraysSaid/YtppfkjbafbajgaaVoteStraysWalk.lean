/-
  VoteStrays: the law's walk. No condition.
-/
import Derived.Test.YtppfkjbafbajgaaVlaw
namespace Go.Proofs.Ytppfkjbafbajgaa.Walks
open Go.ChangeShapes Go.WideShapes Go.ChangeAt Go.RowKit
open Arr Steady Sx Sw Sl Spn Vs Srt Vlo Vref Vvote Vlaw
set_option linter.unusedVariables false
set_option maxRecDepth 100000

theorem strays_ex (L : Spans) (p : Option Addr) (c : Nat) (a b : Int) (w : World) (hL : Reads w p (flat enc2 L)) (hn : L.length ≤ 1000000) :
    Calls Try.prog 14 #[.agg #[.int .i64 a, .int .i64 b], .slice p L.length c] w fun e w' => ∃ j : List Int × Own, (j.1 = strS a b L L.length ∧ j.2.Has 1 j.1.length (flat enc1 j.1)) ∧ e = .returned (.slice j.2.ptr j.1.length j.2.cap) ∧ Env w w' (j.2.rows 3) := by
  refine (strays_any L p c a b w hL hn).mono ?_
  rintro e w' ⟨s, hs, he, hE⟩
  exact ⟨(strS a b L L.length, s), ⟨rfl, hs⟩, he, hE⟩
set_option maxHeartbeats 2000000 in
theorem voteStrays_walk (a : Int) (wa : (Lit.int .i64 a).wf = true) (b : Int) (wb : (Lit.int .i64 b).wf = true) (L : Spans) (p : Option Addr) (c : Nat) (w : World) (hL : Reads w p (flat enc2 L)) (hF : FitL L) :
    Calls Try.prog 5 #[.agg #[.int .i64 a, .int .i64 b], .slice p L.length c] w fun e w' => e = .returned (.bool true) ∧ Below w.heap.size w w' := by
  refine calls_sx Try.func5 rfl ?_
  simp only [Try.ntmps5, List.size_toArray, List.length_cons, List.length_nil, Nat.reduceAdd, Nat.reduceSub, Array.replicate_succ, Array.replicate_zero, List.push_toArray, List.append_toArray, List.nil_append, List.cons_append]
  refine wc_seq ?_
  refine wc_region ?_
  refine wl_new 25 (#[.int .i64 a, .int .i64 b]) rfl (fun _ => by go_simp) ?_
  intro g1
  simp only [Act.put, List.setIfInBounds_toArray, List.set_cons_zero, List.set_cons_succ]
  refine wl_val (.bool false) rfl (fun _ => rfl) ?_
  simp only [Act.put, List.setIfInBounds_toArray, List.set_cons_zero, List.set_cons_succ]
  refine wl_nil ?_
  refine we_then ?_
  refine wc_seq ?_
  refine wc_seq ?_
  refine wc_region ?_
  refine wl_call 7 #[] (.bool true) rfl (fun _ => by go_simp) (fun W => anchor_any W) ?_
  simp only [Act.put, List.setIfInBounds_toArray, List.set_cons_zero, List.set_cons_succ]
  refine wl_val (.bool false) rfl (fun _ => by go_simp) ?_
  simp only [Act.put, List.setIfInBounds_toArray, List.set_cons_zero, List.set_cons_succ]
  refine wl_nil ?_
  refine we_then ?_
  refine wc_false rfl ?_
  refine wc_skip ?_
  refine we_then ?_
  refine wc_seq ?_
  refine wc_seq ?_
  refine wc_region ?_
  refine wl_val (.slice p L.length c) rfl (fun _ => rfl) ?_
  simp only [Act.put, List.setIfInBounds_toArray, List.set_cons_zero, List.set_cons_succ]
  refine wl_val (.int .i64 (L.length : Int)) rfl (fun w => er_len rfl rfl Try.underlying22 w) ?_
  simp only [Act.put, List.setIfInBounds_toArray, List.set_cons_zero, List.set_cons_succ]
  refine wl_val (.bool (decide (40 < (L.length : Int)))) rfl (fun w => run_cmp rfl rfl rfl Try.underlying3 rfl w) ?_
  simp only [Act.put, List.setIfInBounds_toArray, List.set_cons_zero, List.set_cons_succ]
  refine wl_nil ?_
  refine we_then ?_
  cases h2 : (decide (40 < (L.length : Int)))
  · skip
    have p2 : ¬ (40 < (L.length : Int)) := of_decide_eq_false h2
    refine wc_false rfl ?_
    refine wc_skip ?_
    refine we_then ?_
    refine wc_seq ?_
    refine wc_region ?_
    refine wl_load 25 (.tmp 2) (own_row 0 rfl) rfl rfl rfl Try.underlying25 rfl (by kernel_rfl) ?_
    simp only [Act.put, List.setIfInBounds_toArray, List.set_cons_zero, List.set_cons_succ]
    refine wl_val (.slice p L.length c) rfl (fun _ => rfl) ?_
    simp only [Act.put, List.setIfInBounds_toArray, List.set_cons_zero, List.set_cons_succ]
    refine wl_call_own (ι := List Int × Own) (e := 3) [⟨g1, #[.int .i64 a, .int .i64 b], 25⟩] [] 14 #[.agg #[.int .i64 a, .int .i64 b], .slice p L.length c] (fun j => .slice j.2.ptr j.1.length j.2.cap) (fun j => j.2) (fun j => j.1 = strS a b L L.length ∧ j.2.Has 1 j.1.length (flat enc1 j.1)) rfl rfl (fun _ => by go_simp) (fun W hE => strays_ex L p c a b W (sl_old (R := []) hL W (hE.sub (List.nil_sublist _))) (by omega)) ?_
    rintro ⟨N, o⟩ ⟨hN, ho⟩
    simp only [List.cons_append, List.nil_append, Act.put, List.setIfInBounds_toArray, List.set_cons_zero, List.set_cons_succ]
    refine wl_val (.slice o.ptr N.length o.cap) rfl (fun _ => rfl) ?_
    simp only [Act.put, List.setIfInBounds_toArray, List.set_cons_zero, List.set_cons_succ]
    refine wl_nil ?_
    refine we_then ?_
    refine wc_seq ?_
    refine wc_region ?_
    refine wl_val (.int .i64 0) rfl (fun _ => rfl) ?_
    simp only [Act.put, List.setIfInBounds_toArray, List.set_cons_zero, List.set_cons_succ]
    refine wl_nil ?_
    refine we_then ?_
    refine wc_seq ?_
    refine wc_seq ?_
    refine wc_region ?_
    refine wl_val (.slice p L.length c) rfl (fun _ => rfl) ?_
    simp only [Act.put, List.setIfInBounds_toArray, List.set_cons_zero, List.set_cons_succ]
    refine wl_val (.int .i64 (L.length : Int)) rfl (fun w => er_len rfl rfl Try.underlying22 w) ?_
    simp only [Act.put, List.setIfInBounds_toArray, List.set_cons_zero, List.set_cons_succ]
    refine wl_val (.int .i64 0) rfl (fun _ => rfl) ?_
    simp only [Act.put, List.setIfInBounds_toArray, List.set_cons_zero, List.set_cons_succ]
    refine wl_nil ?_
    refine we_then ?_
    refine wc_block ?_
    (try dsimp only at hN ho)
    refine wc_loop (fun (zz : Nat × Nat × Value × Value × Value × Value × Value × Value × Value × Value × Value × Value × Value × Value × Value × Value × Value × Value × Value × Value × Value × Value × Value × Value × Value × Value × Value × Value × Value × Value × Value × Value × Value × Value × Value × Value × Value) => match zz with | ⟨i, m, u4, u7, u8, u9, u21, u22, u23, u24, u25, u26, u27, u28, u29, u30, u31, u32, u33, u34, u35, u36, u37, u38, u39, u40, u41, u42, u43, u44, u45, u46, u47, u48, u49, u50, u51⟩ => ({ tmps := #[.agg #[.int .i64 a, .int .i64 b], .slice p L.length c, .pointer (some ⟨g1, 0, none⟩), undef, u4, .slice o.ptr N.length o.cap, .int .i64 (m : Int), u7, u8, u9, .bool true, .bool false, .slice p L.length c, .int .i64 (L.length : Int), .bool false, .agg #[.int .i64 a, .int .i64 b], .slice p L.length c, .slice o.ptr N.length o.cap, .slice p L.length c, .int .i64 (L.length : Int), .int .i64 (i : Int), u21, u22, u23, u24, u25, u26, u27, u28, u29, u30, u31, u32, u33, u34, u35, u36, u37, u38, u39, u40, u41, u42, u43, u44, u45, u46, u47, u48, u49, u50, u51, undef, undef, undef, undef], defers := [] } : Act)) (fun (zz : Nat × Nat × Value × Value × Value × Value × Value × Value × Value × Value × Value × Value × Value × Value × Value × Value × Value × Value × Value × Value × Value × Value × Value × Value × Value × Value × Value × Value × Value × Value × Value × Value × Value × Value × Value × Value × Value) => match zz with | ⟨i, m, u4, u7, u8, u9, u21, u22, u23, u24, u25, u26, u27, u28, u29, u30, u31, u32, u33, u34, u35, u36, u37, u38, u39, u40, u41, u42, u43, u44, u45, u46, u47, u48, u49, u50, u51⟩ => ⟨g1, #[.int .i64 a, .int .i64 b], 25⟩ :: (o.rows 3 ++ [])) (fun (zz : Nat × Nat × Value × Value × Value × Value × Value × Value × Value × Value × Value × Value × Value × Value × Value × Value × Value × Value × Value × Value × Value × Value × Value × Value × Value × Value × Value × Value × Value × Value × Value × Value × Value × Value × Value × Value × Value) => match zz with | ⟨i, m, u4, u7, u8, u9, u21, u22, u23, u24, u25, u26, u27, u28, u29, u30, u31, u32, u33, u34, u35, u36, u37, u38, u39, u40, u41, u42, u43, u44, u45, u46, u47, u48, u49, u50, u51⟩ => i ≤ L.length ∧ m = (strS a b L i).length) (fun (zz : Nat × Nat × Value × Value × Value × Value × Value × Value × Value × Value × Value × Value × Value × Value × Value × Value × Value × Value × Value × Value × Value × Value × Value × Value × Value × Value × Value × Value × Value × Value × Value × Value × Value × Value × Value × Value × Value) => match zz with | ⟨i, m, u4, u7, u8, u9, u21, u22, u23, u24, u25, u26, u27, u28, u29, u30, u31, u32, u33, u34, u35, u36, u37, u38, u39, u40, u41, u42, u43, u44, u45, u46, u47, u48, u49, u50, u51⟩ => L.length - i) ⟨0, 0, _, _, _, _, _, _, _, _, _, _, _, _, _, _, _, _, _, _, _, _, _, _, _, _, _, _, _, _, _, _, _, _, _, _, _⟩ (by (try dsimp only); exact ⟨by omega, rfl⟩) rfl (List.Sublist.cons_cons _ (List.Sublist.append_left List.Sublist.slnil _)) ?_
    rintro ⟨i, m, u4, u7, u8, u9, u21, u22, u23, u24, u25, u26, u27, u28, u29, u30, u31, u32, u33, u34, u35, u36, u37, u38, u39, u40, u41, u42, u43, u44, u45, u46, u47, u48, u49, u50, u51⟩ hφ
    (try dsimp only at hφ ⊢)
    obtain ⟨b1, b2⟩ := hφ
    have b4 := str_le a b L i
    refine wc_seq ?_
    refine wc_region ?_
    refine wl_val (.bool (decide ((i : Int) < (L.length : Int)))) rfl (fun w => run_cmp rfl rfl rfl Try.underlying3 rfl w) ?_
    simp only [Act.put, List.setIfInBounds_toArray, List.set_cons_zero, List.set_cons_succ]
    refine wl_nil ?_
    refine we_then ?_
    refine wc_seq ?_
    cases h3 : (decide ((i : Int) < (L.length : Int)))
    · skip
      have p3 : ¬ ((i : Int) < (L.length : Int)) := of_decide_eq_false h3
      refine wc_false rfl ?_
      refine wc_exit ?_
      refine we_then_exit ?_
      refine we_then_exit ?_
      refine we_in_here ?_
      refine we_then ?_
      refine wc_seq ?_
      refine wc_region ?_
      refine wl_val (.int .i64 (m : Int)) rfl (fun _ => rfl) ?_
      simp only [Act.put, List.setIfInBounds_toArray, List.set_cons_zero, List.set_cons_succ]
      refine wl_val (.slice o.ptr N.length o.cap) rfl (fun _ => rfl) ?_
      simp only [Act.put, List.setIfInBounds_toArray, List.set_cons_zero, List.set_cons_succ]
      refine wl_val (.int .i64 (N.length : Int)) rfl (fun w => er_len rfl rfl Try.underlying37 w) ?_
      simp only [Act.put, List.setIfInBounds_toArray, List.set_cons_zero, List.set_cons_succ]
      refine wl_val (.bool ((m : Int) == (N.length : Int))) rfl (fun w => run_cmp rfl rfl rfl Try.underlying3 rfl w) ?_
      simp only [Act.put, List.setIfInBounds_toArray, List.set_cons_zero, List.set_cons_succ]
      refine wl_val (.bool ((m : Int) == (N.length : Int))) rfl (fun _ => rfl) ?_
      simp only [Act.put, List.setIfInBounds_toArray, List.set_cons_zero, List.set_cons_succ]
      refine wl_nil ?_
      refine we_then ?_
      refine wc_ret ?_
      refine we_ret1 (.bool ((m : Int) == (N.length : Int))) rfl rfl rfl (fun w1 hE => ?_)
      have e1 : i = L.length := by omega
      have e3 : m = N.length := by rw [hN, ← e1]; exact b2
      exact ⟨by rw [e3]; simp, hE.below⟩
    · skip
      have p3 : (i : Int) < (L.length : Int) := of_decide_eq_true h3
      refine wc_true rfl ?_
      refine wc_skip ?_
      refine we_then ?_
      refine wc_seq ?_
      refine wc_block ?_
      refine wc_seq ?_
      refine wc_region ?_
      refine wl_val (.int .i64 (i : Int)) rfl (fun _ => rfl) ?_
      simp only [Act.put, List.setIfInBounds_toArray, List.set_cons_zero, List.set_cons_succ]
      refine wl_read (eaddr p (i * 2)) rfl (er_index i 2 (sl_old hL) rfl rfl rfl rfl (by omega) (flat_length (enc := enc2) (size := 2) (fun _ => rfl) _) (by decide) Try.underlying22 (by kernel_rfl)) ?_
      simp only [Act.put, List.setIfInBounds_toArray, List.set_cons_zero, List.set_cons_succ]
      refine wl_read (.agg #[.int .i64 ((L[i]!).1), .int .i64 ((L[i]!).2)]) rfl (er_part (i * 2) [.int .i64 ((L[i]!).1), .int .i64 ((L[i]!).2)] (sl_old hL) rfl rfl (flat_part (enc := enc2) (fun _ => rfl) L i (by omega)) (Nat.zero_lt_succ _) Try.underlying25 rfl (by kernel_rfl)) ?_
      simp only [Act.put, List.setIfInBounds_toArray, List.set_cons_zero, List.set_cons_succ]
      refine wl_new 25 (#[.int .i64 0, .int .i64 0]) rfl (fun _ => by go_simp) ?_
      intro g4
      simp only [Act.put, List.setIfInBounds_toArray, List.set_cons_zero, List.set_cons_succ]
      refine wl_val (.int .i64 (i : Int)) rfl (fun _ => rfl) ?_
      simp only [Act.put, List.setIfInBounds_toArray, List.set_cons_zero, List.set_cons_succ]
      refine wl_store 0 25 (.tmp 8) (.tmp 24) (#[.int .i64 ((L[i]!).1), .int .i64 ((L[i]!).2)]) rfl rfl rfl rfl rfl (by kernel_rfl) rfl (by simp [Value.oneCell']) ?_
      simp only [Act.put, List.set_cons_zero]
      refine wl_nil ?_
      refine we_then ?_
      refine wc_seq ?_
      refine wc_region ?_
      refine wl_val (.pointer (some ⟨g4, 0, none⟩)) rfl (fun _ => by go_simp) ?_
      simp only [Act.put, List.setIfInBounds_toArray, List.set_cons_zero, List.set_cons_succ]
      refine wl_cell 2 (.tmp 25) (.int .i64 ((L[i]!).1)) (own_row 0 rfl) rfl rfl rfl rfl Try.isAgg2 ?_
      simp only [Act.put, List.setIfInBounds_toArray, List.set_cons_zero, List.set_cons_succ]
      refine wl_val (.pointer (some ⟨g1, 0, none⟩)) rfl (fun _ => by go_simp) ?_
      simp only [Act.put, List.setIfInBounds_toArray, List.set_cons_zero, List.set_cons_succ]
      refine wl_cell 2 (.tmp 27) (.int .i64 a) (own_row 1 rfl) rfl rfl rfl rfl Try.isAgg2 ?_
      simp only [Act.put, List.setIfInBounds_toArray, List.set_cons_zero, List.set_cons_succ]
      refine wl_val (.int .i64 (max ((L[i]!).1) a)) rfl (fun _ => by go_simp) ?_
      simp only [Act.put, List.setIfInBounds_toArray, List.set_cons_zero, List.set_cons_succ]
      refine wl_val (.pointer (some ⟨g4, 1, none⟩)) rfl (fun _ => by go_simp) ?_
      simp only [Act.put, List.setIfInBounds_toArray, List.set_cons_zero, List.set_cons_succ]
      refine wl_cell 2 (.tmp 30) (.int .i64 ((L[i]!).2)) (own_row 0 rfl) rfl rfl rfl rfl Try.isAgg2 ?_
      simp only [Act.put, List.setIfInBounds_toArray, List.set_cons_zero, List.set_cons_succ]
      refine wl_val (.pointer (some ⟨g1, 1, none⟩)) rfl (fun _ => by go_simp) ?_
      simp only [Act.put, List.setIfInBounds_toArray, List.set_cons_zero, List.set_cons_succ]
      refine wl_cell 2 (.tmp 32) (.int .i64 b) (own_row 1 rfl) rfl rfl rfl rfl Try.isAgg2 ?_
      simp only [Act.put, List.setIfInBounds_toArray, List.set_cons_zero, List.set_cons_succ]
      refine wl_val (.int .i64 (min ((L[i]!).2) b)) rfl (fun _ => by go_simp) ?_
      simp only [Act.put, List.setIfInBounds_toArray, List.set_cons_zero, List.set_cons_succ]
      refine wl_val (.bool (decide (max ((L[i]!).1) a ≤ min ((L[i]!).2) b))) rfl (fun w => run_cmp rfl rfl rfl Try.underlying2 rfl w) ?_
      simp only [Act.put, List.setIfInBounds_toArray, List.set_cons_zero, List.set_cons_succ]
      refine wl_val (.bool (decide (max ((L[i]!).1) a ≤ min ((L[i]!).2) b))) rfl (fun _ => rfl) ?_
      simp only [Act.put, List.setIfInBounds_toArray, List.set_cons_zero, List.set_cons_succ]
      refine wl_nil ?_
      refine we_then ?_
      refine wc_seq ?_
      refine wc_seq ?_
      refine wc_region ?_
      refine wl_val (.bool (decide (max ((L[i]!).1) a ≤ min ((L[i]!).2) b))) rfl (fun _ => rfl) ?_
      simp only [Act.put, List.setIfInBounds_toArray, List.set_cons_zero, List.set_cons_succ]
      refine wl_nil ?_
      refine we_then ?_
      cases h5 : (decide (max ((L[i]!).1) a ≤ min ((L[i]!).2) b))
      · skip
        have p5 : ¬ (max ((L[i]!).1) a ≤ min ((L[i]!).2) b) := of_decide_eq_false h5
        have k1 := str_at (n := L.length) (by omega) b2 (by rw [meetB_comm]; exact h5)
        rw [← hN] at k1
        have k2 := k1.1
        have k3 := k1.2
        refine wc_false rfl ?_
        refine wc_skip ?_
        refine we_then ?_
        refine wc_seq ?_
        refine wc_seq ?_
        refine wc_region ?_
        refine wl_val (.int .i64 (m : Int)) rfl (fun _ => rfl) ?_
        simp only [Act.put, List.setIfInBounds_toArray, List.set_cons_zero, List.set_cons_succ]
        refine wl_val (.slice o.ptr N.length o.cap) rfl (fun _ => rfl) ?_
        simp only [Act.put, List.setIfInBounds_toArray, List.set_cons_zero, List.set_cons_succ]
        refine wl_val (.int .i64 (N.length : Int)) rfl (fun w => er_len rfl rfl Try.underlying37 w) ?_
        simp only [Act.put, List.setIfInBounds_toArray, List.set_cons_zero, List.set_cons_succ]
        refine wl_val (.bool (decide ((N.length : Int) ≤ (m : Int)))) rfl (fun w => run_cmp rfl rfl rfl Try.underlying3 rfl w) ?_
        simp only [Act.put, List.setIfInBounds_toArray, List.set_cons_zero, List.set_cons_succ]
        refine wl_val (.bool (decide ((N.length : Int) ≤ (m : Int)))) rfl (fun _ => rfl) ?_
        simp only [Act.put, List.setIfInBounds_toArray, List.set_cons_zero, List.set_cons_succ]
        cases h6 : (decide ((N.length : Int) ≤ (m : Int)))
        · skip
          have p6 : ¬ ((N.length : Int) ≤ (m : Int)) := of_decide_eq_false h6
          refine wl_val (.slice o.ptr N.length o.cap) rfl (fun _ => rfl) ?_
          simp only [Act.put, List.setIfInBounds_toArray, List.set_cons_zero, List.set_cons_succ]
          refine wl_val (.int .i64 (m : Int)) rfl (fun _ => rfl) ?_
          simp only [Act.put, List.setIfInBounds_toArray, List.set_cons_zero, List.set_cons_succ]
          refine wl_read (eaddr o.ptr (m * 1)) rfl (er_index m 1 (sl_own [⟨g4, #[.int .i64 ((L[i]!).1), .int .i64 ((L[i]!).2)], 25⟩, ⟨g1, #[.int .i64 a, .int .i64 b], 25⟩] [] ho rfl) rfl rfl rfl rfl (by omega) (flat_length (enc := enc1) (size := 1) (fun _ => rfl) _) (by decide) Try.underlying37 (by kernel_rfl)) ?_
          simp only [Act.put, List.setIfInBounds_toArray, List.set_cons_zero, List.set_cons_succ]
          refine wl_read (.int .i64 (N[m]!)) rfl (er_cell (m * 1) (.int .i64 (N[m]!)) (sl_own [⟨g4, #[.int .i64 ((L[i]!).1), .int .i64 ((L[i]!).2)], 25⟩, ⟨g1, #[.int .i64 a, .int .i64 b], 25⟩] [] ho rfl) rfl rfl (flat_cell (enc := enc1) (fun _ => rfl) N m 0 (by omega) (by decide)) Try.isAgg3) ?_
          simp only [Act.put, List.setIfInBounds_toArray, List.set_cons_zero, List.set_cons_succ]
          refine wl_val (.int .i64 (i : Int)) rfl (fun _ => rfl) ?_
          simp only [Act.put, List.setIfInBounds_toArray, List.set_cons_zero, List.set_cons_succ]
          refine wl_val (.bool ((N[m]!) != (i : Int))) rfl (fun w => run_cmp rfl rfl rfl Try.underlying3 rfl w) ?_
          simp only [Act.put, List.setIfInBounds_toArray, List.set_cons_zero, List.set_cons_succ]
          refine wl_val (.bool ((N[m]!) != (i : Int))) rfl (fun _ => rfl) ?_
          simp only [Act.put, List.setIfInBounds_toArray, List.set_cons_zero, List.set_cons_succ]
          refine wl_nil ?_
          refine we_then ?_
          cases h7 : ((N[m]!) != (i : Int))
          · skip
            have p7 : ¬ ((N[m]!) ≠ (i : Int)) := by simpa using h7
            refine wc_false rfl ?_
            refine wc_skip ?_
            refine we_then ?_
            refine wc_region ?_
            refine wl_val (.int .i64 (m : Int)) rfl (fun _ => rfl) ?_
            simp only [Act.put, List.setIfInBounds_toArray, List.set_cons_zero, List.set_cons_succ]
            refine wl_val (.int .i64 ((m : Int) + 1)) rfl (fun w => run_arith (op := .add) rfl rfl rfl Try.underlying3 (congrArg some (i64_in (by omega) (by omega))) w) ?_
            simp only [Act.put, List.setIfInBounds_toArray, List.set_cons_zero, List.set_cons_succ]
            refine wl_val (.int .i64 ((m : Int) + 1)) rfl (fun _ => rfl) ?_
            simp only [Act.put, List.setIfInBounds_toArray, List.set_cons_zero, List.set_cons_succ]
            refine wl_nil ?_
            refine we_in ?_
            refine we_then ?_
            refine wc_region ?_
            refine wl_val (.int .i64 ((i : Int) + 1)) rfl (fun w => run_arith (op := .add) rfl rfl rfl Try.underlying3 (congrArg some (i64_in (by omega) (by omega))) w) ?_
            simp only [Act.put, List.setIfInBounds_toArray, List.set_cons_zero, List.set_cons_succ]
            refine wl_val (.int .i64 ((i : Int) + 1)) rfl (fun _ => rfl) ?_
            simp only [Act.put, List.setIfInBounds_toArray, List.set_cons_zero, List.set_cons_succ]
            refine wl_nil ?_
            exact we_meet ⟨(i + 1), (m + 1), _, _, _, _, _, _, _, _, _, _, _, _, _, _, _, _, _, _, _, _, _, _, _, _, _, _, _, _, _, _, _, _, _, _, _⟩ (by (try dsimp only); exact ⟨⟨by omega, by rw [str_yes (by rw [meetB_comm]; exact h5), List.length_append, ← b2]; rfl⟩, by omega⟩) rfl (List.Sublist.cons _ (List.Sublist.cons_cons _ (List.Sublist.append_left List.Sublist.slnil _)))
          · skip
            have p7 : (N[m]!) ≠ (i : Int) := by simpa using h7
            exact (by exfalso; omega)
        · skip
          have p6 : (N.length : Int) ≤ (m : Int) := of_decide_eq_true h6
          exact (by exfalso; omega)
      · skip
        have p5 : max ((L[i]!).1) a ≤ min ((L[i]!).2) b := of_decide_eq_true h5
        refine wc_true rfl ?_
        refine wc_exit ?_
        refine we_then_exit ?_
        refine we_in_here ?_
        refine we_then ?_
        refine wc_region ?_
        refine wl_val (.int .i64 ((i : Int) + 1)) rfl (fun w => run_arith (op := .add) rfl rfl rfl Try.underlying3 (congrArg some (i64_in (by omega) (by omega))) w) ?_
        simp only [Act.put, List.setIfInBounds_toArray, List.set_cons_zero, List.set_cons_succ]
        refine wl_val (.int .i64 ((i : Int) + 1)) rfl (fun _ => rfl) ?_
        simp only [Act.put, List.setIfInBounds_toArray, List.set_cons_zero, List.set_cons_succ]
        refine wl_nil ?_
        exact we_meet ⟨(i + 1), m, _, _, _, _, _, _, _, _, _, _, _, _, _, _, _, _, _, _, _, _, _, _, _, _, _, _, _, _, _, _, _, _, _, _, _⟩ (by (try dsimp only); exact ⟨⟨by omega, by rw [str_no (by rw [meetB_comm]; exact h5)]; exact b2⟩, by omega⟩) rfl (List.Sublist.cons _ (List.Sublist.cons_cons _ (List.Sublist.append_left List.Sublist.slnil _)))
  · skip
    have p2 : 40 < (L.length : Int) := of_decide_eq_true h2
    refine wc_true rfl ?_
    refine wc_seq ?_
    refine wc_region ?_
    refine wl_val (.bool true) rfl (fun _ => rfl) ?_
    simp only [Act.put, List.setIfInBounds_toArray, List.set_cons_zero, List.set_cons_succ]
    refine wl_nil ?_
    refine we_then ?_
    refine wc_ret ?_
    refine we_then_ret ?_
    refine we_ret1 (.bool true) rfl rfl rfl (fun w1 hE => ?_)
    exact ⟨rfl, hE.below⟩
end Go.Proofs.Ytppfkjbafbajgaa.Walks
