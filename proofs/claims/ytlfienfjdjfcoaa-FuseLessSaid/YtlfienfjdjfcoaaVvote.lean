/-
 Package vote: Common, Two and Strays. Conditions: at most a million spans; Common: their ends fit in 64 bits.
-/
import Derived.Test.YtlfienfjdjfcoaaVlo
import Derived.Test.YtlfienfjdjfcoaaVref
namespace Go.Proofs.Ytlfienfjdjfcoaa.Vvote
open Go.ChangeShapes Go.WideShapes Go.ChangeAt Go.RowKit
open Arr Steady Sx Sw Sl Spn Vs Srt Vlo Vref
set_option linter.unusedVariables false
set_option maxRecDepth 100000

theorem meet_b (a b c d : Int) (w : World) :
  Calls Try.prog 28 #[.agg #[.int .i64 a, .int .i64 b], .agg #[.int .i64 c, .int .i64 d]] w fun e w' => e = .returned (.tuple #[.agg #[.int .i64 (orZ (meetB a b c d) (max a c)), .int .i64 (orZ (meetB a b c d) (min b d))], .bool (meetB a b c d)]) ∧ Below w.heap.size w w' := meet_any a b c d w
set_option maxHeartbeats 2000000 in
theorem common_any (L : Spans) (p : Option Addr) (c : Nat) (w : World) (hL : Reads w p (flat enc2 L)) (hn : L.length ≤ 1000000) (hF : FitL L) :
  Calls Try.prog 19 #[.slice p L.length c] w fun e w' => e = .returned (.tuple #[.agg #[.int .i64 (byZ L (max (L.length : Int) 1)).1, .int .i64 (byZ L (max (L.length : Int) 1)).2.1], .bool (byZ L (max (L.length : Int) 1)).2.2]) ∧ Below w.heap.size w w' := by
 refine calls_sx Try.func19 rfl ?_
 simp only [Try.ntmps19, List.size_toArray, List.length_cons, List.length_nil, Nat.reduceAdd, Nat.reduceSub, Array.replicate_succ, Array.replicate_zero, List.push_toArray, List.append_toArray, List.nil_append, List.cons_append]
 refine wc_seq ?_
 refine wc_region ?_
 refine wl_new 23 (#[.int .i64 0, .int .i64 0]) rfl (fun _ => by go_simp) ?_
 intro g1
 simp only [Act.put, Xa, Xz, Xs]
 refine wl_val (.bool false) rfl (fun _ => rfl) ?_
 simp only [Act.put, Xa, Xz, Xs]
 refine wl_nil ?_
 refine we_then ?_
 refine wc_seq ?_
 refine wc_seq ?_
 refine wc_region ?_
 refine wl_val (.slice p L.length c) rfl (fun _ => rfl) ?_
 simp only [Act.put, Xa, Xz, Xs]
 refine wl_val (.int .i64 (L.length : Int)) rfl (fun w => er_len rfl rfl Try.underlying48 w) ?_
 simp only [Act.put, Xa, Xz, Xs]
 refine wl_val (.bool ((L.length : Int) == 0)) rfl (fun w => run_cmp rfl rfl rfl Try.underlying3 rfl w) ?_
 simp only [Act.put, Xa, Xz, Xs]
 refine wl_nil ?_
 refine we_then ?_
 cases h2 : ((L.length : Int) == 0)
 ·
  skip
  have p2 : ¬ ((L.length : Int) = 0) := by simpa using h2
  refine wc_false rfl ?_
  refine wc_skip ?_
  refine we_then ?_
  refine wc_seq ?_
  refine wc_region ?_
  refine wl_val (.agg #[.int .i64 (-9223372036854775808), .int .i64 9223372036854775807]) rfl (fun _ => by go_simp) ?_
  simp only [Act.put, Xa, Xz, Xs]
  refine wl_new 23 (#[.int .i64 0, .int .i64 0]) rfl (fun _ => by go_simp) ?_
  intro g3
  simp only [Act.put, Xa, Xz, Xs]
  refine wl_store 0 23 (.tmp 4) (.tmp 13) (#[.int .i64 (-9223372036854775808), .int .i64 9223372036854775807]) rfl rfl rfl rfl rfl (by kernel_rfl) rfl (by simp [Value.oneCell']) ?_
  simp only [Act.put, List.set_cons_zero]
  refine wl_nil ?_
  refine we_then ?_
  refine wc_seq ?_
  refine wc_seq ?_
  refine wc_region ?_
  refine wl_val (.slice p L.length c) rfl (fun _ => rfl) ?_
  simp only [Act.put, Xa, Xz, Xs]
  refine wl_val (.int .i64 (L.length : Int)) rfl (fun w => er_len rfl rfl Try.underlying48 w) ?_
  simp only [Act.put, Xa, Xz, Xs]
  refine wl_val (.int .i64 0) rfl (fun _ => rfl) ?_
  simp only [Act.put, Xa, Xz, Xs]
  refine wl_nil ?_
  refine we_then ?_
  refine wc_block ?_
  refine wc_loop (fun (zz : Nat × Int × Int × Value × Value × Value × Value × Value × Value × Value × Value × Value × Value × Value × Value × Value × Value × Value × Value × Value × Value) => match zz with | ⟨i, a, b, u3, u6, u7, u8, u17, u18, u19, u20, u21, u22, u23, u24, u25, u26, u27, u28, u29, u30⟩ => ({ tmps := #[.slice p L.length c, undef, .pointer (some ⟨g1, 0, none⟩), u3, .pointer (some ⟨g3, 0, none⟩), undef, u6, u7, u8, .slice p L.length c, .int .i64 (L.length : Int), .bool false, undef, .agg #[.int .i64 (-9223372036854775808), .int .i64 9223372036854775807], .slice p L.length c, .int .i64 (L.length : Int), .int .i64 (i : Int), u17, u18, u19, u20, u21, u22, u23, u24, u25, u26, u27, u28, u29, u30, undef], defers := [] } : Act)) (fun (zz : Nat × Int × Int × Value × Value × Value × Value × Value × Value × Value × Value × Value × Value × Value × Value × Value × Value × Value × Value × Value × Value) => match zz with | ⟨i, a, b, u3, u6, u7, u8, u17, u18, u19, u20, u21, u22, u23, u24, u25, u26, u27, u28, u29, u30⟩ => [⟨g3, #[.int .i64 a, .int .i64 b], 23⟩, ⟨g1, #[.int .i64 0, .int .i64 0], 23⟩]) (fun (zz : Nat × Int × Int × Value × Value × Value × Value × Value × Value × Value × Value × Value × Value × Value × Value × Value × Value × Value × Value × Value × Value) => match zz with | ⟨i, a, b, u3, u6, u7, u8, u17, u18, u19, u20, u21, u22, u23, u24, u25, u26, u27, u28, u29, u30⟩ => i ≤ L.length ∧ ComInv L i a b) (fun (zz : Nat × Int × Int × Value × Value × Value × Value × Value × Value × Value × Value × Value × Value × Value × Value × Value × Value × Value × Value × Value × Value) => match zz with | ⟨i, a, b, u3, u6, u7, u8, u17, u18, u19, u20, u21, u22, u23, u24, u25, u26, u27, u28, u29, u30⟩ => L.length - i) ⟨0, (-9223372036854775808), 9223372036854775807, _, _, _, _, _, _, _, _, _, _, _, _, _, _, _, _, _, _⟩ (by (try dsimp only); exact ⟨by omega, com_start L⟩) rfl (List.Sublist.cons_cons _ (List.Sublist.cons_cons _ List.Sublist.slnil)) ?_
  rintro ⟨i, a, b, u3, u6, u7, u8, u17, u18, u19, u20, u21, u22, u23, u24, u25, u26, u27, u28, u29, u30⟩ hφ
  (try dsimp only at hφ ⊢)
  obtain ⟨b1, b2⟩ := hφ
  refine wc_seq ?_
  refine wc_region ?_
  refine wl_val (.bool (decide ((i : Int) < (L.length : Int)))) rfl (fun w => run_cmp rfl rfl rfl Try.underlying3 rfl w) ?_
  simp only [Act.put, Xa, Xz, Xs]
  refine wl_nil ?_
  refine we_then ?_
  refine wc_seq ?_
  cases h4 : (decide ((i : Int) < (L.length : Int)))
  ·
   skip
   have p4 : ¬ ((i : Int) < (L.length : Int)) := of_decide_eq_false h4
   refine wc_false rfl ?_
   refine wc_exit ?_
   refine we_then_exit ?_
   refine we_then_exit ?_
   refine we_in_here ?_
   refine we_then ?_
   refine wc_seq ?_
   refine wc_region ?_
   refine wl_load 23 (.tmp 4) (own_row 0 rfl) rfl rfl rfl Try.underlying23 rfl (by kernel_rfl) ?_
   simp only [Act.put, Xa, Xz, Xs]
   refine wl_store 1 23 (.tmp 2) (.tmp 31) (#[.int .i64 a, .int .i64 b]) rfl rfl rfl rfl rfl (by kernel_rfl) rfl (by simp [Value.oneCell']) ?_
   simp only [Act.put, List.set_cons_zero, List.set_cons_succ]
   refine wl_val (.bool true) rfl (fun _ => rfl) ?_
   simp only [Act.put, Xa, Xz, Xs]
   refine wl_nil ?_
   refine we_then ?_
   refine wc_ret ?_
   refine we_ret_cell_tmp (.bool true) (own_row 1 rfl) rfl rfl rfl rfl Try.underlying23 rfl (by kernel_rfl) (fun w1 hE => ?_)
   have e1 : i = L.length := by omega
   subst e1
   exact ⟨by rw [com_end hF (by omega) b2], hE.below⟩
  ·
   skip
   have p4 : (i : Int) < (L.length : Int) := of_decide_eq_true h4
   refine wc_true rfl ?_
   refine wc_skip ?_
   refine we_then ?_
   refine wc_seq ?_
   refine wc_block ?_
   refine wc_seq ?_
   refine wc_region ?_
   refine wl_read (eaddr p (i * 2)) rfl (er_index i 2 (sl_old hL) rfl rfl rfl rfl (by omega) (flat_length (enc := enc2) (size := 2) (fun _ => rfl) _) (by decide) Try.underlying48 (by kernel_rfl)) ?_
   simp only [Act.put, Xa, Xz, Xs]
   refine wl_read (.agg #[.int .i64 ((L[i]!).1), .int .i64 ((L[i]!).2)]) rfl (er_part (i * 2) [.int .i64 ((L[i]!).1), .int .i64 ((L[i]!).2)] (sl_old hL) rfl rfl (flat_part (enc := enc2) (fun _ => rfl) L i (by omega)) (Nat.zero_lt_succ _) Try.underlying23 rfl (by kernel_rfl)) ?_
   simp only [Act.put, Xa, Xz, Xs]
   refine wl_new 23 (#[.int .i64 0, .int .i64 0]) rfl (fun _ => by go_simp) ?_
   intro g5
   simp only [Act.put, Xa, Xz, Xs]
   refine wl_store 0 23 (.tmp 6) (.tmp 19) (#[.int .i64 ((L[i]!).1), .int .i64 ((L[i]!).2)]) rfl rfl rfl rfl rfl (by kernel_rfl) rfl (by simp [Value.oneCell']) ?_
   simp only [Act.put, List.set_cons_zero]
   refine wl_nil ?_
   refine we_then ?_
   refine wc_seq ?_
   refine wc_region ?_
   refine wl_load 23 (.tmp 4) (own_row 1 rfl) rfl rfl rfl Try.underlying23 rfl (by kernel_rfl) ?_
   simp only [Act.put, Xa, Xz, Xs]
   refine wl_load 23 (.tmp 6) (own_row 0 rfl) rfl rfl rfl Try.underlying23 rfl (by kernel_rfl) ?_
   simp only [Act.put, Xa, Xz, Xs]
   refine wl_call 28 #[.agg #[.int .i64 a, .int .i64 b], .agg #[.int .i64 ((L[i]!).1), .int .i64 ((L[i]!).2)]] (.tuple #[.agg #[.int .i64 (orZ (meetB a b ((L[i]!).1) ((L[i]!).2)) (max a ((L[i]!).1))), .int .i64 (orZ (meetB a b ((L[i]!).1) ((L[i]!).2)) (min b ((L[i]!).2)))], .bool (meetB a b ((L[i]!).1) ((L[i]!).2))]) rfl (fun _ => by go_simp) (fun W => meet_b a b ((L[i]!).1) ((L[i]!).2) W) ?_
   simp only [Act.put, Xa, Xz, Xs]
   refine wl_val (.tuple #[.agg #[.int .i64 (orZ (meetB a b ((L[i]!).1) ((L[i]!).2)) (max a ((L[i]!).1))), .int .i64 (orZ (meetB a b ((L[i]!).1) ((L[i]!).2)) (min b ((L[i]!).2)))], .bool (meetB a b ((L[i]!).1) ((L[i]!).2))]) rfl (fun _ => rfl) ?_
   simp only [Act.put, Xa, Xz, Xs]
   refine wl_val (.agg #[.int .i64 (orZ (meetB a b ((L[i]!).1) ((L[i]!).2)) (max a ((L[i]!).1))), .int .i64 (orZ (meetB a b ((L[i]!).1) ((L[i]!).2)) (min b ((L[i]!).2)))]) rfl (fun _ => by go_simp) ?_
   simp only [Act.put, Xa, Xz, Xs]
   refine wl_val (.bool (meetB a b ((L[i]!).1) ((L[i]!).2))) rfl (fun _ => by go_simp) ?_
   simp only [Act.put, Xa, Xz, Xs]
   refine wl_new 23 (#[.int .i64 0, .int .i64 0]) rfl (fun _ => by go_simp) ?_
   intro g6
   simp only [Act.put, Xa, Xz, Xs]
   refine wl_store 0 23 (.tmp 7) (.tmp 24) (#[.int .i64 (orZ (meetB a b ((L[i]!).1) ((L[i]!).2)) (max a ((L[i]!).1))), .int .i64 (orZ (meetB a b ((L[i]!).1) ((L[i]!).2)) (min b ((L[i]!).2)))]) rfl rfl rfl rfl rfl (by kernel_rfl) rfl (by simp [Value.oneCell']) ?_
   simp only [Act.put, List.set_cons_zero]
   refine wl_val (.bool (meetB a b ((L[i]!).1) ((L[i]!).2))) rfl (fun _ => rfl) ?_
   simp only [Act.put, Xa, Xz, Xs]
   refine wl_nil ?_
   refine we_then ?_
   refine wc_seq ?_
   refine wc_seq ?_
   refine wc_region ?_
   refine wl_val (.bool (meetB a b ((L[i]!).1) ((L[i]!).2))) rfl (fun _ => rfl) ?_
   simp only [Act.put, Xa, Xz, Xs]
   refine wl_val (.bool (!(meetB a b ((L[i]!).1) ((L[i]!).2)))) rfl (fun _ => by go_simp) ?_
   simp only [Act.put, Xa, Xz, Xs]
   refine wl_nil ?_
   refine we_then ?_
   cases h7 : (meetB a b ((L[i]!).1) ((L[i]!).2))
   ·
    skip
    refine wc_true rfl ?_
    refine wc_seq ?_
    refine wc_region ?_
    refine wl_val (.agg #[.int .i64 0, .int .i64 0]) rfl (fun _ => by go_simp) ?_
    simp only [Act.put, Xa, Xz, Xs]
    refine wl_store 3 23 (.tmp 2) (.tmp 28) (#[.int .i64 0, .int .i64 0]) rfl rfl rfl rfl rfl (by kernel_rfl) rfl (by simp [Value.oneCell']) ?_
    simp only [Act.put, List.set_cons_zero, List.set_cons_succ]
    refine wl_val (.bool false) rfl (fun _ => rfl) ?_
    simp only [Act.put, Xa, Xz, Xs]
    refine wl_nil ?_
    refine we_then ?_
    refine wc_ret ?_
    refine we_then_ret ?_
    refine we_in_ret ?_
    refine we_then_ret ?_
    refine we_then_ret ?_
    refine we_in_ret ?_
    refine we_then_ret ?_
    refine we_ret_cell_tmp (.bool false) (own_row 3 rfl) rfl rfl rfl rfl Try.underlying23 rfl (by kernel_rfl) (fun w1 hE => ?_)
    exact ⟨by rw [com_fail hF (by omega) b2 h7], hE.below⟩
   ·
    skip
    refine wc_false rfl ?_
    refine wc_skip ?_
    refine we_then ?_
    refine wc_region ?_
    refine wl_load 23 (.tmp 7) (own_row 0 rfl) rfl rfl rfl Try.underlying23 rfl (by kernel_rfl) ?_
    simp only [Act.put, Xa, Xz, Xs]
    refine wl_store 2 23 (.tmp 4) (.tmp 29) (#[.int .i64 (orZ true (max a ((L[i]!).1))), .int .i64 (orZ true (min b ((L[i]!).2)))]) rfl rfl rfl rfl rfl (by kernel_rfl) rfl (by simp [Value.oneCell']) ?_
    simp only [Act.put, List.set_cons_zero, List.set_cons_succ]
    refine wl_nil ?_
    refine we_in ?_
    refine we_then ?_
    refine wc_region ?_
    refine wl_val (.int .i64 ((i : Int) + 1)) rfl (fun w => run_arith (op := .add) rfl rfl rfl Try.underlying3 (congrArg some (i64_in (by omega) (by omega))) w) ?_
    simp only [Act.put, Xa, Xz, Xs]
    refine wl_val (.int .i64 ((i : Int) + 1)) rfl (fun _ => rfl) ?_
    simp only [Act.put, Xa, Xz, Xs]
    refine wl_nil ?_
    exact we_meet ⟨(i + 1), (max a (L[i]!).1), (min b (L[i]!).2), _, _, _, _, _, _, _, _, _, _, _, _, _, _, _, _, _, _⟩ (by (try dsimp only); exact ⟨⟨by omega, com_step b2 h7⟩, by omega⟩) rfl (List.Sublist.cons _ (List.Sublist.cons _ (List.Sublist.cons_cons _ (List.Sublist.cons_cons _ List.Sublist.slnil))))
 ·
  skip
  have p2 : (L.length : Int) = 0 := by simpa using h2
  refine wc_true rfl ?_
  refine wc_seq ?_
  refine wc_region ?_
  refine wl_val (.agg #[.int .i64 0, .int .i64 0]) rfl (fun _ => by go_simp) ?_
  simp only [Act.put, Xa, Xz, Xs]
  refine wl_store 0 23 (.tmp 2) (.tmp 12) (#[.int .i64 0, .int .i64 0]) rfl rfl rfl rfl rfl (by kernel_rfl) rfl (by simp [Value.oneCell']) ?_
  simp only [Act.put, List.set_cons_zero]
  refine wl_val (.bool false) rfl (fun _ => rfl) ?_
  simp only [Act.put, Xa, Xz, Xs]
  refine wl_nil ?_
  refine we_then ?_
  refine wc_ret ?_
  refine we_then_ret ?_
  refine we_ret_cell_tmp (.bool false) (own_row 0 rfl) rfl rfl rfl rfl Try.underlying23 rfl (by kernel_rfl) (fun w1 hE => ?_)
  exact ⟨by rw [com_none (by omega)], hE.below⟩
set_option maxHeartbeats 2000000 in
theorem two_any (L : Spans) (p : Option Addr) (c : Nat) (w : World) (hL : Reads w p (flat enc2 L)) (hn : L.length ≤ 1000000) :
  Calls Try.prog 20 #[.slice p L.length c] w fun e w' => e = .returned (.tuple #[.agg #[.int .i64 (byZ L 2).1, .int .i64 (byZ L 2).2.1], .bool (byZ L 2).2.2]) ∧ Below w.heap.size w w' := by
 refine calls_sx Try.func20 rfl ?_
 simp only [Try.ntmps20, List.size_toArray, List.length_cons, List.length_nil, Nat.reduceAdd, Nat.reduceSub, Array.replicate_succ, Array.replicate_zero, List.push_toArray, List.append_toArray, List.nil_append, List.cons_append]
 refine wc_seq ?_
 refine wc_region ?_
 refine wl_new 23 (#[.int .i64 0, .int .i64 0]) rfl (fun _ => by go_simp) ?_
 intro g1
 simp only [Act.put, Xa, Xz, Xs]
 refine wl_val (.bool false) rfl (fun _ => rfl) ?_
 simp only [Act.put, Xa, Xz, Xs]
 refine wl_nil ?_
 refine we_then ?_
 refine wc_seq ?_
 refine wc_region ?_
 refine wl_val (.agg #[.int .i64 1, .int .i64 0]) rfl (fun _ => by go_simp) ?_
 simp only [Act.put, Xa, Xz, Xs]
 refine wl_new 23 (#[.int .i64 0, .int .i64 0]) rfl (fun _ => by go_simp) ?_
 intro g2
 simp only [Act.put, Xa, Xz, Xs]
 refine wl_store 0 23 (.tmp 4) (.tmp 11) (#[.int .i64 1, .int .i64 0]) rfl rfl rfl rfl rfl (by kernel_rfl) rfl (by simp [Value.oneCell']) ?_
 simp only [Act.put, List.set_cons_zero]
 refine wl_nil ?_
 refine we_then ?_
 refine wc_seq ?_
 refine wc_draw [.plain, .plain, .make 23 (#[.int .i64 0, .int .i64 0]) 4 (#[.int .i64 1, .int .i64 0]), .make 23 (#[.int .i64 0, .int .i64 0]) 5 (#[.int .i64 1, .int .i64 0]), .put 2, .put 3] none [(2, 5), (3, 6)] 40 (by kernel_rfl) rfl (by kernel_rfl) (by kernel_rfl) ?_
 refine ws_load 23 (.tmp 4) (own_row 0 rfl) rfl rfl rfl rfl Try.underlying23 rfl (by kernel_rfl) ?_
 simp only [Nat.reduceAdd, Act.put, Xa, Xz, Xs]
 refine ws_load 23 (.tmp 4) (own_row 0 rfl) rfl rfl rfl rfl Try.underlying23 rfl (by kernel_rfl) ?_
 simp only [Nat.reduceAdd, Act.put, Xa, Xz, Xs]
 refine ws_make 23 (#[.int .i64 0, .int .i64 0]) 4 (#[.int .i64 1, .int .i64 0]) rfl rfl rfl (zero_of_info (n := 2) (by kernel_rfl)).1 ?_
 simp only [Nat.reduceAdd, Act.put, Xa, Xz, Xs]
 refine ws_make 23 (#[.int .i64 0, .int .i64 0]) 5 (#[.int .i64 1, .int .i64 0]) rfl rfl rfl (zero_of_info (n := 2) (by kernel_rfl)).1 ?_
 simp only [Nat.reduceAdd, Act.put, Xa, Xz, Xs]
 refine ws_put 2 23 5 (.tmp 12) _ _ _ rfl rfl rfl rfl (by simp) rfl rfl rfl (by kernel_rfl) rfl (by simp [Value.oneCell']) ?_
 simp only [Nat.reduceAdd]
 refine ws_put 3 23 6 (.tmp 13) _ _ _ rfl rfl rfl rfl (by simp) rfl rfl rfl (by kernel_rfl) rfl (by simp [Value.oneCell']) ?_
 simp only [Nat.reduceAdd]
 refine ws_nil [(2, #[.int .i64 1, .int .i64 0], 23), (3, #[.int .i64 1, .int .i64 0], 23)] ⟨⟨by decide, _, _, _, rfl, .inl ⟨by decide, rfl⟩⟩, ⟨⟨by decide, _, _, _, rfl, .inl ⟨by decide, rfl⟩⟩, trivial⟩⟩ (by simp) ?_
 intro ps3
 simp only [fin, List.foldl_cons, List.foldl_nil, List.map, rowOf, List.cons_append, List.nil_append, Act.put, Xa, Xz, Xs]
 refine we_then ?_
 refine wc_seq ?_
 refine wc_seq ?_
 refine wc_region ?_
 refine wl_val (.slice p L.length c) rfl (fun _ => rfl) ?_
 simp only [Act.put, Xa, Xz, Xs]
 refine wl_call_own (ι := Spans × Own) (e := 23) [⟨(ps3 2), #[.int .i64 1, .int .i64 0], 23⟩, ⟨(ps3 3), #[.int .i64 1, .int .i64 0], 23⟩, ⟨g2, #[.int .i64 1, .int .i64 0], 23⟩, ⟨g1, #[.int .i64 0, .int .i64 0], 23⟩] [] 29 #[.slice p L.length c] (fun j => .slice j.2.ptr j.1.length j.2.cap) (fun j => j.2) (fun j => j.1.Perm L ∧ Ordered j.1 ∧ j.2.Has 2 j.1.length (flat enc2 j.1)) rfl rfl (fun _ => by go_simp) (fun W hE => byLo_any L p c W (sl_old (R := []) hL W (hE.sub (List.nil_sublist _))) hn) ?_
 rintro ⟨M, s1⟩ ⟨hp, ho, hs1⟩
 simp only [List.cons_append, List.nil_append, Act.put, Xa, Xz, Xs]
 refine wl_val (.int .i64 (M.length : Int)) rfl (fun w => er_len rfl rfl Try.underlying48 w) ?_
 simp only [Act.put, Xa, Xz, Xs]
 refine wl_val (.int .i64 0) rfl (fun _ => rfl) ?_
 simp only [Act.put, Xa, Xz, Xs]
 refine wl_nil ?_
 refine we_then ?_
 refine wc_block ?_
 (try dsimp only at hp ho hs1)
 have hl : M.length = L.length := hp.length_eq
 refine wc_loop (fun (zz : Nat × Int × Int × Int × Int × Value × Value × Value × Value × Value × Value × Value × Value × Value × Value × Value × Value × Value × Value × Value × Value × Value × Value × Value × Value) => match zz with | ⟨i, x1, x2, y1, y2, u8, u9, u10, u18, u19, u20, u21, u22, u23, u24, u25, u26, u27, u28, u29, u30, u31, u32, u33, u34⟩ => ({ tmps := #[.slice p L.length c, undef, .pointer (some ⟨g1, 0, none⟩), .bool false, .pointer (some ⟨g2, 0, none⟩), .pointer (some ⟨(ps3 2), 0, none⟩), .pointer (some ⟨(ps3 3), 0, none⟩), undef, u8, u9, u10, .agg #[.int .i64 1, .int .i64 0], .agg #[.int .i64 1, .int .i64 0], .agg #[.int .i64 1, .int .i64 0], .slice p L.length c, .slice s1.ptr M.length s1.cap, .int .i64 (M.length : Int), .int .i64 (i : Int), u18, u19, u20, u21, u22, u23, u24, u25, u26, u27, u28, u29, u30, u31, u32, u33, u34, undef, undef, undef, undef, undef], defers := [] } : Act)) (fun (zz : Nat × Int × Int × Int × Int × Value × Value × Value × Value × Value × Value × Value × Value × Value × Value × Value × Value × Value × Value × Value × Value × Value × Value × Value × Value) => match zz with | ⟨i, x1, x2, y1, y2, u8, u9, u10, u18, u19, u20, u21, u22, u23, u24, u25, u26, u27, u28, u29, u30, u31, u32, u33, u34⟩ => ⟨(ps3 2), #[.int .i64 x1, .int .i64 x2], 23⟩ :: ⟨(ps3 3), #[.int .i64 y1, .int .i64 y2], 23⟩ :: ⟨g2, #[.int .i64 1, .int .i64 0], 23⟩ :: ⟨g1, #[.int .i64 0, .int .i64 0], 23⟩ :: (s1.rows 23 ++ [])) (fun (zz : Nat × Int × Int × Int × Int × Value × Value × Value × Value × Value × Value × Value × Value × Value × Value × Value × Value × Value × Value × Value × Value × Value × Value × Value × Value) => match zz with | ⟨i, x1, x2, y1, y2, u8, u9, u10, u18, u19, u20, u21, u22, u23, u24, u25, u26, u27, u28, u29, u30, u31, u32, u33, u34⟩ => i ≤ M.length ∧ TwoInv M i x1 x2 y1 y2) (fun (zz : Nat × Int × Int × Int × Int × Value × Value × Value × Value × Value × Value × Value × Value × Value × Value × Value × Value × Value × Value × Value × Value × Value × Value × Value × Value) => match zz with | ⟨i, x1, x2, y1, y2, u8, u9, u10, u18, u19, u20, u21, u22, u23, u24, u25, u26, u27, u28, u29, u30, u31, u32, u33, u34⟩ => M.length - i) ⟨0, 1, 0, 1, 0, _, _, _, _, _, _, _, _, _, _, _, _, _, _, _, _, _, _, _, _⟩ (by (try dsimp only); exact ⟨by omega, two_start M⟩) rfl (List.Sublist.cons_cons _ (List.Sublist.cons_cons _ (List.Sublist.cons_cons _ (List.Sublist.cons_cons _ (List.Sublist.append_left List.Sublist.slnil _))))) ?_
 rintro ⟨i, x1, x2, y1, y2, u8, u9, u10, u18, u19, u20, u21, u22, u23, u24, u25, u26, u27, u28, u29, u30, u31, u32, u33, u34⟩ hφ
 (try dsimp only at hφ ⊢)
 obtain ⟨b1, b2⟩ := hφ
 refine wc_seq ?_
 refine wc_region ?_
 refine wl_val (.bool (decide ((i : Int) < (M.length : Int)))) rfl (fun w => run_cmp rfl rfl rfl Try.underlying3 rfl w) ?_
 simp only [Act.put, Xa, Xz, Xs]
 refine wl_nil ?_
 refine we_then ?_
 refine wc_seq ?_
 cases h4 : (decide ((i : Int) < (M.length : Int)))
 ·
  skip
  have p4 : ¬ ((i : Int) < (M.length : Int)) := of_decide_eq_false h4
  refine wc_false rfl ?_
  refine wc_exit ?_
  refine we_then_exit ?_
  refine we_then_exit ?_
  refine we_in_here ?_
  refine we_then ?_
  refine wc_seq ?_
  refine wc_seq ?_
  refine wc_region ?_
  refine wl_load 23 (.tmp 6) (own_row 1 rfl) rfl rfl rfl Try.underlying23 rfl (by kernel_rfl) ?_
  simp only [Act.put, Xa, Xz, Xs]
  refine wl_call 27 #[.agg #[.int .i64 y1, .int .i64 y2]] (.bool (decide (y1 ≤ y2))) rfl (fun _ => by go_simp) (fun W => right_any y1 y2 W) ?_
  simp only [Act.put, Xa, Xz, Xs]
  refine wl_val (.bool (!(decide (y1 ≤ y2)))) rfl (fun _ => by go_simp) ?_
  simp only [Act.put, Xa, Xz, Xs]
  refine wl_nil ?_
  refine we_then ?_
  cases h5 : (decide (y1 ≤ y2))
  ·
   skip
   have p5 : ¬ (y1 ≤ y2) := of_decide_eq_false h5
   refine wc_true rfl ?_
   refine wc_seq ?_
   refine wc_region ?_
   refine wl_val (.agg #[.int .i64 0, .int .i64 0]) rfl (fun _ => by go_simp) ?_
   simp only [Act.put, Xa, Xz, Xs]
   refine wl_store 3 23 (.tmp 2) (.tmp 38) (#[.int .i64 0, .int .i64 0]) rfl rfl rfl rfl rfl (by kernel_rfl) rfl (by simp [Value.oneCell']) ?_
   simp only [Act.put, List.set_cons_zero, List.set_cons_succ]
   refine wl_val (.bool false) rfl (fun _ => rfl) ?_
   simp only [Act.put, Xa, Xz, Xs]
   refine wl_nil ?_
   refine we_then ?_
   refine wc_ret ?_
   refine we_then_ret ?_
   refine we_ret_cell_tmp (.bool false) (own_row 3 rfl) rfl rfl rfl rfl Try.underlying23 rfl (by kernel_rfl) (fun w1 hE => ?_)
   have e1 : i = M.length := by omega
   subst e1
   exact ⟨by rw [two_none hp b2 h5], hE.below⟩
  ·
   skip
   have p5 : y1 ≤ y2 := of_decide_eq_true h5
   refine wc_false rfl ?_
   refine wc_skip ?_
   refine we_then ?_
   refine wc_seq ?_
   refine wc_region ?_
   refine wl_load 23 (.tmp 6) (own_row 1 rfl) rfl rfl rfl Try.underlying23 rfl (by kernel_rfl) ?_
   simp only [Act.put, Xa, Xz, Xs]
   refine wl_store 3 23 (.tmp 2) (.tmp 39) (#[.int .i64 y1, .int .i64 y2]) rfl rfl rfl rfl rfl (by kernel_rfl) rfl (by simp [Value.oneCell']) ?_
   simp only [Act.put, List.set_cons_zero, List.set_cons_succ]
   refine wl_val (.bool true) rfl (fun _ => rfl) ?_
   simp only [Act.put, Xa, Xz, Xs]
   refine wl_nil ?_
   refine we_then ?_
   refine wc_ret ?_
   refine we_ret_cell_tmp (.bool true) (own_row 3 rfl) rfl rfl rfl rfl Try.underlying23 rfl (by kernel_rfl) (fun w1 hE => ?_)
   have e1 : i = M.length := by omega
   subst e1
   exact ⟨by rw [two_end hp b2 h5], hE.below⟩
 ·
  skip
  have p4 : (i : Int) < (M.length : Int) := of_decide_eq_true h4
  refine wc_true rfl ?_
  refine wc_skip ?_
  refine we_then ?_
  refine wc_seq ?_
  refine wc_block ?_
  refine wc_seq ?_
  refine wc_region ?_
  refine wl_read (eaddr s1.ptr (i * 2)) rfl (er_index i 2 (sl_own [⟨(ps3 2), #[.int .i64 x1, .int .i64 x2], 23⟩, ⟨(ps3 3), #[.int .i64 y1, .int .i64 y2], 23⟩, ⟨g2, #[.int .i64 1, .int .i64 0], 23⟩, ⟨g1, #[.int .i64 0, .int .i64 0], 23⟩] [] hs1 rfl) rfl rfl rfl rfl (by omega) (flat_length (enc := enc2) (size := 2) (fun _ => rfl) _) (by decide) Try.underlying48 (by kernel_rfl)) ?_
  simp only [Act.put, Xa, Xz, Xs]
  refine wl_read (.agg #[.int .i64 ((M[i]!).1), .int .i64 ((M[i]!).2)]) rfl (er_part (i * 2) [.int .i64 ((M[i]!).1), .int .i64 ((M[i]!).2)] (sl_own [⟨(ps3 2), #[.int .i64 x1, .int .i64 x2], 23⟩, ⟨(ps3 3), #[.int .i64 y1, .int .i64 y2], 23⟩, ⟨g2, #[.int .i64 1, .int .i64 0], 23⟩, ⟨g1, #[.int .i64 0, .int .i64 0], 23⟩] [] hs1 rfl) rfl rfl (flat_part (enc := enc2) (fun _ => rfl) M i (by omega)) (Nat.zero_lt_succ _) Try.underlying23 rfl (by kernel_rfl)) ?_
  simp only [Act.put, Xa, Xz, Xs]
  refine wl_new 23 (#[.int .i64 0, .int .i64 0]) rfl (fun _ => by go_simp) ?_
  intro g6
  simp only [Act.put, Xa, Xz, Xs]
  refine wl_store 0 23 (.tmp 8) (.tmp 20) (#[.int .i64 ((M[i]!).1), .int .i64 ((M[i]!).2)]) rfl rfl rfl rfl rfl (by kernel_rfl) rfl (by simp [Value.oneCell']) ?_
  simp only [Act.put, List.set_cons_zero]
  refine wl_nil ?_
  refine we_then ?_
  refine wc_seq ?_
  refine wc_seq ?_
  refine wc_region ?_
  refine wl_load 23 (.tmp 8) (own_row 0 rfl) rfl rfl rfl Try.underlying23 rfl (by kernel_rfl) ?_
  simp only [Act.put, Xa, Xz, Xs]
  refine wl_load 23 (.tmp 5) (own_row 1 rfl) rfl rfl rfl Try.underlying23 rfl (by kernel_rfl) ?_
  simp only [Act.put, Xa, Xz, Xs]
  refine wl_call 28 #[.agg #[.int .i64 ((M[i]!).1), .int .i64 ((M[i]!).2)], .agg #[.int .i64 x1, .int .i64 x2]] (.tuple #[.agg #[.int .i64 (orZ (meetB ((M[i]!).1) ((M[i]!).2) x1 x2) (max ((M[i]!).1) x1)), .int .i64 (orZ (meetB ((M[i]!).1) ((M[i]!).2) x1 x2) (min ((M[i]!).2) x2))], .bool (meetB ((M[i]!).1) ((M[i]!).2) x1 x2)]) rfl (fun _ => by go_simp) (fun W => meet_b ((M[i]!).1) ((M[i]!).2) x1 x2 W) ?_
  simp only [Act.put, Xa, Xz, Xs]
  refine wl_val (.tuple #[.agg #[.int .i64 (orZ (meetB ((M[i]!).1) ((M[i]!).2) x1 x2) (max ((M[i]!).1) x1)), .int .i64 (orZ (meetB ((M[i]!).1) ((M[i]!).2) x1 x2) (min ((M[i]!).2) x2))], .bool (meetB ((M[i]!).1) ((M[i]!).2) x1 x2)]) rfl (fun _ => rfl) ?_
  simp only [Act.put, Xa, Xz, Xs]
  refine wl_val (.agg #[.int .i64 (orZ (meetB ((M[i]!).1) ((M[i]!).2) x1 x2) (max ((M[i]!).1) x1)), .int .i64 (orZ (meetB ((M[i]!).1) ((M[i]!).2) x1 x2) (min ((M[i]!).2) x2))]) rfl (fun _ => by go_simp) ?_
  simp only [Act.put, Xa, Xz, Xs]
  refine wl_val (.bool (meetB ((M[i]!).1) ((M[i]!).2) x1 x2)) rfl (fun _ => by go_simp) ?_
  simp only [Act.put, Xa, Xz, Xs]
  refine wl_new 23 (#[.int .i64 0, .int .i64 0]) rfl (fun _ => by go_simp) ?_
  intro g7
  simp only [Act.put, Xa, Xz, Xs]
  refine wl_store 0 23 (.tmp 9) (.tmp 25) (#[.int .i64 (orZ (meetB ((M[i]!).1) ((M[i]!).2) x1 x2) (max ((M[i]!).1) x1)), .int .i64 (orZ (meetB ((M[i]!).1) ((M[i]!).2) x1 x2) (min ((M[i]!).2) x2))]) rfl rfl rfl rfl rfl (by kernel_rfl) rfl (by simp [Value.oneCell']) ?_
  simp only [Act.put, List.set_cons_zero]
  refine wl_val (.bool (meetB ((M[i]!).1) ((M[i]!).2) x1 x2)) rfl (fun _ => rfl) ?_
  simp only [Act.put, Xa, Xz, Xs]
  refine wl_nil ?_
  refine we_then ?_
  refine wc_seq ?_
  refine wc_region ?_
  refine wl_val (.bool (meetB ((M[i]!).1) ((M[i]!).2) x1 x2)) rfl (fun _ => rfl) ?_
  simp only [Act.put, Xa, Xz, Xs]
  refine wl_nil ?_
  refine we_then ?_
  cases h8 : (meetB ((M[i]!).1) ((M[i]!).2) x1 x2)
  ·
   skip
   refine wc_false rfl ?_
   refine wc_skip ?_
   refine we_then ?_
   refine wc_region ?_
   refine wl_load 23 (.tmp 5) (own_row 2 rfl) rfl rfl rfl Try.underlying23 rfl (by kernel_rfl) ?_
   simp only [Act.put, Xa, Xz, Xs]
   refine wl_load 23 (.tmp 8) (own_row 1 rfl) rfl rfl rfl Try.underlying23 rfl (by kernel_rfl) ?_
   simp only [Act.put, Xa, Xz, Xs]
   refine wl_call 30 #[.agg #[.int .i64 x1, .int .i64 x2], .agg #[.int .i64 ((M[i]!).1), .int .i64 ((M[i]!).2)]] (.agg #[.int .i64 ((hullF x1 x2 ((M[i]!).1) ((M[i]!).2)).1), .int .i64 ((hullF x1 x2 ((M[i]!).1) ((M[i]!).2)).2)]) rfl (fun _ => by go_simp) (fun W => hull_any x1 x2 ((M[i]!).1) ((M[i]!).2) W) ?_
   simp only [Act.put, Xa, Xz, Xs]
   refine wl_store 2 23 (.tmp 5) (.tmp 33) (#[.int .i64 ((hullF x1 x2 ((M[i]!).1) ((M[i]!).2)).1), .int .i64 ((hullF x1 x2 ((M[i]!).1) ((M[i]!).2)).2)]) rfl rfl rfl rfl rfl (by kernel_rfl) rfl (by simp [Value.oneCell']) ?_
   simp only [Act.put, List.set_cons_zero, List.set_cons_succ]
   refine wl_nil ?_
   refine we_in ?_
   refine we_then ?_
   refine wc_region ?_
   refine wl_val (.int .i64 ((i : Int) + 1)) rfl (fun w => run_arith (op := .add) rfl rfl rfl Try.underlying3 (congrArg some (i64_in (by omega) (by omega))) w) ?_
   simp only [Act.put, Xa, Xz, Xs]
   refine wl_val (.int .i64 ((i : Int) + 1)) rfl (fun _ => rfl) ?_
   simp only [Act.put, Xa, Xz, Xs]
   refine wl_nil ?_
   exact we_meet ⟨(i + 1), (hullF x1 x2 (M[i]!).1 (M[i]!).2).1, (hullF x1 x2 (M[i]!).1 (M[i]!).2).2, y1, y2, _, _, _, _, _, _, _, _, _, _, _, _, _, _, _, _, _, _, _, _⟩ (by (try dsimp only); exact ⟨⟨by omega, two_skip ho (by omega) b2 h8⟩, by omega⟩) rfl (List.Sublist.cons _ (List.Sublist.cons _ (List.Sublist.cons_cons _ (List.Sublist.cons_cons _ (List.Sublist.cons_cons _ (List.Sublist.cons_cons _ (List.Sublist.append_left List.Sublist.slnil _)))))))
  ·
   skip
   refine wc_true rfl ?_
   refine wc_region ?_
   refine wl_load 23 (.tmp 6) (own_row 3 rfl) rfl rfl rfl Try.underlying23 rfl (by kernel_rfl) ?_
   simp only [Act.put, Xa, Xz, Xs]
   refine wl_load 23 (.tmp 9) (own_row 0 rfl) rfl rfl rfl Try.underlying23 rfl (by kernel_rfl) ?_
   simp only [Act.put, Xa, Xz, Xs]
   refine wl_call 30 #[.agg #[.int .i64 y1, .int .i64 y2], .agg #[.int .i64 (orZ true (max ((M[i]!).1) x1)), .int .i64 (orZ true (min ((M[i]!).2) x2))]] (.agg #[.int .i64 ((hullF y1 y2 (orZ true (max ((M[i]!).1) x1)) (orZ true (min ((M[i]!).2) x2))).1), .int .i64 ((hullF y1 y2 (orZ true (max ((M[i]!).1) x1)) (orZ true (min ((M[i]!).2) x2))).2)]) rfl (fun _ => by go_simp) (fun W => hull_any y1 y2 (orZ true (max ((M[i]!).1) x1)) (orZ true (min ((M[i]!).2) x2)) W) ?_
   simp only [Act.put, Xa, Xz, Xs]
   refine wl_store 3 23 (.tmp 6) (.tmp 30) (#[.int .i64 ((hullF y1 y2 (orZ true (max ((M[i]!).1) x1)) (orZ true (min ((M[i]!).2) x2))).1), .int .i64 ((hullF y1 y2 (orZ true (max ((M[i]!).1) x1)) (orZ true (min ((M[i]!).2) x2))).2)]) rfl rfl rfl rfl rfl (by kernel_rfl) rfl (by simp [Value.oneCell']) ?_
   simp only [Act.put, List.set_cons_zero, List.set_cons_succ]
   refine wl_nil ?_
   refine we_then ?_
   refine wc_region ?_
   refine wl_load 23 (.tmp 5) (own_row 2 rfl) rfl rfl rfl Try.underlying23 rfl (by kernel_rfl) ?_
   simp only [Act.put, Xa, Xz, Xs]
   refine wl_load 23 (.tmp 8) (own_row 1 rfl) rfl rfl rfl Try.underlying23 rfl (by kernel_rfl) ?_
   simp only [Act.put, Xa, Xz, Xs]
   refine wl_call 30 #[.agg #[.int .i64 x1, .int .i64 x2], .agg #[.int .i64 ((M[i]!).1), .int .i64 ((M[i]!).2)]] (.agg #[.int .i64 ((hullF x1 x2 ((M[i]!).1) ((M[i]!).2)).1), .int .i64 ((hullF x1 x2 ((M[i]!).1) ((M[i]!).2)).2)]) rfl (fun _ => by go_simp) (fun W => hull_any x1 x2 ((M[i]!).1) ((M[i]!).2) W) ?_
   simp only [Act.put, Xa, Xz, Xs]
   refine wl_store 2 23 (.tmp 5) (.tmp 33) (#[.int .i64 ((hullF x1 x2 ((M[i]!).1) ((M[i]!).2)).1), .int .i64 ((hullF x1 x2 ((M[i]!).1) ((M[i]!).2)).2)]) rfl rfl rfl rfl rfl (by kernel_rfl) rfl (by simp [Value.oneCell']) ?_
   simp only [Act.put, List.set_cons_zero, List.set_cons_succ]
   refine wl_nil ?_
   refine we_in ?_
   refine we_then ?_
   refine wc_region ?_
   refine wl_val (.int .i64 ((i : Int) + 1)) rfl (fun w => run_arith (op := .add) rfl rfl rfl Try.underlying3 (congrArg some (i64_in (by omega) (by omega))) w) ?_
   simp only [Act.put, Xa, Xz, Xs]
   refine wl_val (.int .i64 ((i : Int) + 1)) rfl (fun _ => rfl) ?_
   simp only [Act.put, Xa, Xz, Xs]
   refine wl_nil ?_
   exact we_meet ⟨(i + 1), (hullF x1 x2 (M[i]!).1 (M[i]!).2).1, (hullF x1 x2 (M[i]!).1 (M[i]!).2).2, (hullF y1 y2 (max (M[i]!).1 x1) (min (M[i]!).2 x2)).1, (hullF y1 y2 (max (M[i]!).1 x1) (min (M[i]!).2 x2)).2, _, _, _, _, _, _, _, _, _, _, _, _, _, _, _, _, _, _, _, _⟩ (by (try dsimp only); exact ⟨⟨by omega, two_step ho (by omega) b2⟩, by omega⟩) rfl (List.Sublist.cons _ (List.Sublist.cons _ (List.Sublist.cons_cons _ (List.Sublist.cons_cons _ (List.Sublist.cons_cons _ (List.Sublist.cons_cons _ (List.Sublist.append_left List.Sublist.slnil _)))))))
set_option maxHeartbeats 2000000 in
theorem strays_any (L : Spans) (p : Option Addr) (c : Nat) (a b : Int) (w : World) (hL : Reads w p (flat enc2 L)) (hn : L.length ≤ 1000000) :
  Calls Try.prog 31 #[.agg #[.int .i64 a, .int .i64 b], .slice p L.length c] w fun e w' => ∃ s : Own, s.Has 1 (strS a b L L.length).length (flat enc1 (strS a b L L.length)) ∧ e = .returned (s.val (strS a b L L.length).length) ∧ Env w w' (s.rows 3) := by
 refine calls_sx Try.func31 rfl ?_
 simp only [Try.ntmps31, List.size_toArray, List.length_cons, List.length_nil, Nat.reduceAdd, Nat.reduceSub, Array.replicate_succ, Array.replicate_zero, List.push_toArray, List.append_toArray, List.nil_append, List.cons_append]
 refine wc_seq ?_
 refine wc_region ?_
 refine wl_new 23 (#[.int .i64 a, .int .i64 b]) rfl (fun _ => by go_simp) ?_
 intro g1
 simp only [Act.put, Xa, Xz, Xs]
 refine wl_val (.slice none 0 0) rfl (fun _ => rfl) ?_
 simp only [Act.put, Xa, Xz, Xs]
 refine wl_nil ?_
 refine we_then ?_
 refine wc_seq ?_
 refine wc_region ?_
 refine wl_val (.slice none 0 0) rfl (fun _ => rfl) ?_
 simp only [Act.put, Xa, Xz, Xs]
 refine wl_nil ?_
 refine we_then ?_
 refine wc_seq ?_
 refine wc_seq ?_
 refine wc_region ?_
 refine wl_val (.slice p L.length c) rfl (fun _ => rfl) ?_
 simp only [Act.put, Xa, Xz, Xs]
 refine wl_val (.int .i64 (L.length : Int)) rfl (fun w => er_len rfl rfl Try.underlying48 w) ?_
 simp only [Act.put, Xa, Xz, Xs]
 refine wl_val (.int .i64 0) rfl (fun _ => rfl) ?_
 simp only [Act.put, Xa, Xz, Xs]
 refine wl_nil ?_
 refine we_then ?_
 refine wc_block ?_
 refine wc_loop (fun (zz : Nat × Nat × Own × Value × Value × Value × Value × Value × Value × Value × Value × Value × Value × Value × Value × Value × Value × Value × Value × Value × Value × Value × Value × Value) => match zz with | ⟨i, m, s, u6, u7, u8, u9, u13, u14, u15, u16, u17, u18, u19, u20, u21, u22, u23, u24, u25, u26, u27, u28, u29⟩ => ({ tmps := #[.agg #[.int .i64 a, .int .i64 b], .slice p L.length c, .pointer (some ⟨g1, 0, none⟩), undef, .slice none 0 0, .slice s.ptr m s.cap, u6, u7, u8, u9, .slice p L.length c, .int .i64 (L.length : Int), .int .i64 (i : Int), u13, u14, u15, u16, u17, u18, u19, u20, u21, u22, u23, u24, u25, u26, u27, u28, u29, undef], defers := [] } : Act)) (fun (zz : Nat × Nat × Own × Value × Value × Value × Value × Value × Value × Value × Value × Value × Value × Value × Value × Value × Value × Value × Value × Value × Value × Value × Value × Value) => match zz with | ⟨i, m, s, u6, u7, u8, u9, u13, u14, u15, u16, u17, u18, u19, u20, u21, u22, u23, u24, u25, u26, u27, u28, u29⟩ => ⟨g1, #[.int .i64 a, .int .i64 b], 23⟩ :: (s.rows 3 ++ [])) (fun (zz : Nat × Nat × Own × Value × Value × Value × Value × Value × Value × Value × Value × Value × Value × Value × Value × Value × Value × Value × Value × Value × Value × Value × Value × Value) => match zz with | ⟨i, m, s, u6, u7, u8, u9, u13, u14, u15, u16, u17, u18, u19, u20, u21, u22, u23, u24, u25, u26, u27, u28, u29⟩ => i ≤ L.length ∧ m = (strS a b L i).length ∧ s.Has 1 m (flat enc1 (strS a b L i))) (fun (zz : Nat × Nat × Own × Value × Value × Value × Value × Value × Value × Value × Value × Value × Value × Value × Value × Value × Value × Value × Value × Value × Value × Value × Value × Value) => match zz with | ⟨i, m, s, u6, u7, u8, u9, u13, u14, u15, u16, u17, u18, u19, u20, u21, u22, u23, u24, u25, u26, u27, u28, u29⟩ => L.length - i) ⟨0, 0, Own.none, _, _, _, _, _, _, _, _, _, _, _, _, _, _, _, _, _, _, _, _, _⟩ (by (try dsimp only); exact ⟨by omega, rfl, Own.has_none 1⟩) rfl (List.Sublist.cons_cons _ List.Sublist.slnil) ?_
 rintro ⟨i, m, s, u6, u7, u8, u9, u13, u14, u15, u16, u17, u18, u19, u20, u21, u22, u23, u24, u25, u26, u27, u28, u29⟩ hφ
 (try dsimp only at hφ ⊢)
 obtain ⟨b1, b2, b3⟩ := hφ
 have b4 := str_le a b L i
 refine wc_seq ?_
 refine wc_region ?_
 refine wl_val (.bool (decide ((i : Int) < (L.length : Int)))) rfl (fun w => run_cmp rfl rfl rfl Try.underlying3 rfl w) ?_
 simp only [Act.put, Xa, Xz, Xs]
 refine wl_nil ?_
 refine we_then ?_
 refine wc_seq ?_
 cases h2 : (decide ((i : Int) < (L.length : Int)))
 ·
  skip
  have p2 : ¬ ((i : Int) < (L.length : Int)) := of_decide_eq_false h2
  refine wc_false rfl ?_
  refine wc_exit ?_
  refine we_then_exit ?_
  refine we_then_exit ?_
  refine we_in_here ?_
  refine we_then ?_
  refine wc_seq ?_
  refine wc_region ?_
  refine wl_val (.slice s.ptr m s.cap) rfl (fun _ => rfl) ?_
  simp only [Act.put, Xa, Xz, Xs]
  refine wl_val (.slice s.ptr m s.cap) rfl (fun _ => rfl) ?_
  simp only [Act.put, Xa, Xz, Xs]
  refine wl_nil ?_
  refine we_then ?_
  refine wc_ret ?_
  refine we_ret1 (.slice s.ptr m s.cap) rfl rfl rfl (fun w1 hE => ?_)
  have e1 : i = L.length := by omega
  subst e1
  subst b2
  exact ⟨s, b3, rfl, Env.tail hE (List.Sublist.cons _ (List.Sublist.append_left List.Sublist.slnil _))⟩
 ·
  skip
  have p2 : (i : Int) < (L.length : Int) := of_decide_eq_true h2
  refine wc_true rfl ?_
  refine wc_skip ?_
  refine we_then ?_
  refine wc_seq ?_
  refine wc_block ?_
  refine wc_seq ?_
  refine wc_region ?_
  refine wl_val (.int .i64 (i : Int)) rfl (fun _ => rfl) ?_
  simp only [Act.put, Xa, Xz, Xs]
  refine wl_read (eaddr p (i * 2)) rfl (er_index i 2 (sl_old hL) rfl rfl rfl rfl (by omega) (flat_length (enc := enc2) (size := 2) (fun _ => rfl) _) (by decide) Try.underlying48 (by kernel_rfl)) ?_
  simp only [Act.put, Xa, Xz, Xs]
  refine wl_read (.agg #[.int .i64 ((L[i]!).1), .int .i64 ((L[i]!).2)]) rfl (er_part (i * 2) [.int .i64 ((L[i]!).1), .int .i64 ((L[i]!).2)] (sl_old hL) rfl rfl (flat_part (enc := enc2) (fun _ => rfl) L i (by omega)) (Nat.zero_lt_succ _) Try.underlying23 rfl (by kernel_rfl)) ?_
  simp only [Act.put, Xa, Xz, Xs]
  refine wl_new 23 (#[.int .i64 0, .int .i64 0]) rfl (fun _ => by go_simp) ?_
  intro g3
  simp only [Act.put, Xa, Xz, Xs]
  refine wl_val (.int .i64 (i : Int)) rfl (fun _ => rfl) ?_
  simp only [Act.put, Xa, Xz, Xs]
  refine wl_store 0 23 (.tmp 7) (.tmp 16) (#[.int .i64 ((L[i]!).1), .int .i64 ((L[i]!).2)]) rfl rfl rfl rfl rfl (by kernel_rfl) rfl (by simp [Value.oneCell']) ?_
  simp only [Act.put, List.set_cons_zero]
  refine wl_nil ?_
  refine we_then ?_
  refine wc_seq ?_
  refine wc_region ?_
  refine wl_load 23 (.tmp 2) (own_row 1 rfl) rfl rfl rfl Try.underlying23 rfl (by kernel_rfl) ?_
  simp only [Act.put, Xa, Xz, Xs]
  refine wl_load 23 (.tmp 7) (own_row 0 rfl) rfl rfl rfl Try.underlying23 rfl (by kernel_rfl) ?_
  simp only [Act.put, Xa, Xz, Xs]
  refine wl_call 28 #[.agg #[.int .i64 a, .int .i64 b], .agg #[.int .i64 ((L[i]!).1), .int .i64 ((L[i]!).2)]] (.tuple #[.agg #[.int .i64 (orZ (meetB a b ((L[i]!).1) ((L[i]!).2)) (max a ((L[i]!).1))), .int .i64 (orZ (meetB a b ((L[i]!).1) ((L[i]!).2)) (min b ((L[i]!).2)))], .bool (meetB a b ((L[i]!).1) ((L[i]!).2))]) rfl (fun _ => by go_simp) (fun W => meet_b a b ((L[i]!).1) ((L[i]!).2) W) ?_
  simp only [Act.put, Xa, Xz, Xs]
  refine wl_val (.tuple #[.agg #[.int .i64 (orZ (meetB a b ((L[i]!).1) ((L[i]!).2)) (max a ((L[i]!).1))), .int .i64 (orZ (meetB a b ((L[i]!).1) ((L[i]!).2)) (min b ((L[i]!).2)))], .bool (meetB a b ((L[i]!).1) ((L[i]!).2))]) rfl (fun _ => rfl) ?_
  simp only [Act.put, Xa, Xz, Xs]
  refine wl_val (.agg #[.int .i64 (orZ (meetB a b ((L[i]!).1) ((L[i]!).2)) (max a ((L[i]!).1))), .int .i64 (orZ (meetB a b ((L[i]!).1) ((L[i]!).2)) (min b ((L[i]!).2)))]) rfl (fun _ => by go_simp) ?_
  simp only [Act.put, Xa, Xz, Xs]
  refine wl_val (.bool (meetB a b ((L[i]!).1) ((L[i]!).2))) rfl (fun _ => by go_simp) ?_
  simp only [Act.put, Xa, Xz, Xs]
  refine wl_new 23 (#[.int .i64 0, .int .i64 0]) rfl (fun _ => by go_simp) ?_
  intro g4
  simp only [Act.put, Xa, Xz, Xs]
  refine wl_store 0 23 (.tmp 8) (.tmp 21) (#[.int .i64 (orZ (meetB a b ((L[i]!).1) ((L[i]!).2)) (max a ((L[i]!).1))), .int .i64 (orZ (meetB a b ((L[i]!).1) ((L[i]!).2)) (min b ((L[i]!).2)))]) rfl rfl rfl rfl rfl (by kernel_rfl) rfl (by simp [Value.oneCell']) ?_
  simp only [Act.put, List.set_cons_zero]
  refine wl_val (.bool (meetB a b ((L[i]!).1) ((L[i]!).2))) rfl (fun _ => rfl) ?_
  simp only [Act.put, Xa, Xz, Xs]
  refine wl_nil ?_
  refine we_then ?_
  refine wc_seq ?_
  refine wc_region ?_
  refine wl_val (.bool (meetB a b ((L[i]!).1) ((L[i]!).2))) rfl (fun _ => rfl) ?_
  simp only [Act.put, Xa, Xz, Xs]
  refine wl_val (.bool (!(meetB a b ((L[i]!).1) ((L[i]!).2)))) rfl (fun _ => by go_simp) ?_
  simp only [Act.put, Xa, Xz, Xs]
  refine wl_nil ?_
  refine we_then ?_
  cases h5 : (meetB a b ((L[i]!).1) ((L[i]!).2))
  ·
   skip
   refine wc_true rfl ?_
   refine wc_region ?_
   refine wl_val (.slice s.ptr m s.cap) rfl (fun _ => rfl) ?_
   simp only [Act.put, Xa, Xz, Xs]
   refine wl_val (.int .i64 (i : Int)) rfl (fun _ => rfl) ?_
   simp only [Act.put, Xa, Xz, Xs]
   refine wl_lit (e := 3) #[.int .i64 (i : Int)] 1 rfl (fun _ => by go_simp) ?_
   intro g6
   simp only [Act.put, Xa, Xz, Xs]
   refine wl_append (e := 3) (size := 1) (bytes := 8) [⟨g6, #[.int .i64 (i : Int)], 3⟩, ⟨g4, #[.int .i64 (orZ false (max a ((L[i]!).1))), .int .i64 (orZ false (min b ((L[i]!).2)))], 23⟩, ⟨g3, #[.int .i64 ((L[i]!).1), .int .i64 ((L[i]!).2)], 23⟩, ⟨g1, #[.int .i64 a, .int .i64 b], 23⟩] [] s (ys := [.int .i64 (i : Int)]) rfl b3 (sl_row 0 rfl) rfl (by simp [Value.oneCell']) rfl rfl rfl rfl Try.underlying63 (by unfold Elem; kernel_rfl) (by decide) (by unfold maxLen; omega) (by omega) ?_
   intro s7 hs7
   simp only [List.cons_append, List.nil_append, Act.put, Xa, Xz, Xs]
   refine wl_val (.slice s7.ptr (m + 1) s7.cap) rfl (fun _ => rfl) ?_
   simp only [Act.put, Xa, Xz, Xs]
   refine wl_nil ?_
   refine we_in ?_
   refine we_then ?_
   refine wc_region ?_
   refine wl_val (.int .i64 ((i : Int) + 1)) rfl (fun w => run_arith (op := .add) rfl rfl rfl Try.underlying3 (congrArg some (i64_in (by omega) (by omega))) w) ?_
   simp only [Act.put, Xa, Xz, Xs]
   refine wl_val (.int .i64 ((i : Int) + 1)) rfl (fun _ => rfl) ?_
   simp only [Act.put, Xa, Xz, Xs]
   refine wl_nil ?_
   exact we_meet ⟨(i + 1), (m + 1), s7, _, _, _, _, _, _, _, _, _, _, _, _, _, _, _, _, _, _, _, _, _⟩ (by (try dsimp only); exact ⟨⟨by omega, by rw [str_yes h5, List.length_append, ← b2]; rfl, by rw [str_yes h5]; exact has_snoc hs7⟩, by omega⟩) rfl (List.Sublist.cons _ (List.Sublist.cons _ (List.Sublist.cons _ (List.Sublist.cons_cons _ (List.Sublist.append_left List.Sublist.slnil _)))))
  ·
   skip
   refine wc_false rfl ?_
   refine wc_skip ?_
   refine we_in ?_
   refine we_then ?_
   refine wc_region ?_
   refine wl_val (.int .i64 ((i : Int) + 1)) rfl (fun w => run_arith (op := .add) rfl rfl rfl Try.underlying3 (congrArg some (i64_in (by omega) (by omega))) w) ?_
   simp only [Act.put, Xa, Xz, Xs]
   refine wl_val (.int .i64 ((i : Int) + 1)) rfl (fun _ => rfl) ?_
   simp only [Act.put, Xa, Xz, Xs]
   refine wl_nil ?_
   exact we_meet ⟨(i + 1), m, s, _, _, _, _, _, _, _, _, _, _, _, _, _, _, _, _, _, _, _, _, _⟩ (by (try dsimp only); exact ⟨⟨by omega, by rw [str_no h5]; exact b2, by rw [str_no h5]; exact b3⟩, by omega⟩) rfl (List.Sublist.cons _ (List.Sublist.cons _ (List.Sublist.cons_cons _ (List.Sublist.append_left List.Sublist.slnil _))))
end Go.Proofs.Ytlfienfjdjfcoaa.Vvote
