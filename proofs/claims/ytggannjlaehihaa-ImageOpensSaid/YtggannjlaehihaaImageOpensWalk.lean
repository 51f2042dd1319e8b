/-
  ImageOpens: the law's walk. No condition.
-/
import Derived.Test.YtggannjlaehihaaImlw
namespace Go.Proofs.Ytggannjlaehihaa.Walks
open Go.ChangeShapes Go.WideShapes Go.ChangeAt Go.RowKit
open Arr Steady Sx Sw Sl Sb Sc Si Sj Sk Sh Shh Cr Fr Vs Gr Tk Tkh Tkl Img Imp Imo Imref Imrefo Imput Imb Imsame Imc Tkrefs12 Imlw
set_option linter.unusedVariables false
set_option linter.unusedSimpArgs false
set_option maxRecDepth 100000

set_option maxHeartbeats 8000000 in
theorem imageOpens_walk (b : List UInt8) (q : Option Addr) (c : Nat) (w : World) (hb : Reads w q (flat ub b)) (hbc : b.length ≤ c) (hbm : c ≤ maxLen) :
    Calls Try.prog 4 #[.slice q b.length c] w fun e w' => e = .returned (.bool true) ∧ Below w.heap.size w w' := by
  refine calls_sx Try.func4 rfl ?_
  simp only [Try.ntmps4, List.size_toArray, List.length_cons, List.length_nil, Nat.reduceAdd, Nat.reduceSub, Array.replicate_succ, Array.replicate_zero, List.push_toArray, List.append_toArray, List.nil_append, List.cons_append]
  refine wc_seq ?_
  refine wc_region ?_
  refine wl_val (.bool false) rfl (fun _ => rfl) ?_
  simp only [Act.put, Xa, Xz, Xs]
  refine wl_nil ?_
  refine we_then ?_
  refine wc_seq ?_
  refine wc_seq ?_
  refine wc_region ?_
  refine wl_call 7 #[] (.bool true) rfl (fun _ => by go_simp) (fun W => Imlw.anchor_any W) ?_
  simp only [Act.put, Xa, Xz, Xs]
  refine wl_val (.bool false) rfl (fun _ => by go_simp) ?_
  simp only [Act.put, Xa, Xz, Xs]
  refine wl_nil ?_
  refine we_then ?_
  refine wc_false rfl ?_
  refine wc_skip ?_
  refine we_then ?_
  refine wc_seq ?_
  refine wc_seq ?_
  refine wc_region ?_
  refine wl_val (.slice q b.length c) rfl (fun _ => rfl) ?_
  simp only [Act.put, Xa, Xz, Xs]
  refine wl_val (.int .i64 (b.length : Int)) rfl (fun w => er_len rfl rfl Try.underlying28 w) ?_
  simp only [Act.put, Xa, Xz, Xs]
  refine wl_val (.bool (decide (5000 < (b.length : Int)))) rfl (fun w => run_cmp rfl rfl rfl Try.underlying3 rfl w) ?_
  simp only [Act.put, Xa, Xz, Xs]
  refine wl_nil ?_
  refine we_then ?_
  cases h1 : (decide (5000 < (b.length : Int)))
  · skip
    have p1 : ¬ (5000 < (b.length : Int)) := of_decide_eq_false h1
    refine wc_false rfl ?_
    refine wc_skip ?_
    refine we_then ?_
    refine wc_seq ?_
    refine wc_region ?_
    refine wl_val (.slice q b.length c) rfl (fun _ => rfl) ?_
    simp only [Act.put, Xa, Xz, Xs]
    cases h3 : (decide (opnE b = 0))
    · skip
      have p3 : ¬ (opnE b = 0) := of_decide_eq_false h3
      refine wl_call_open (ι := Ov) (fun zz => match zz with | zk4 => zk4.N) 12 #[.slice q b.length c] (fun zz => match zz with | zk4 => .tuple #[.agg #[.slice zk4.p 0 zk4.c, .slice zk4.q 0 zk4.d], .int .i64 ((opnE b : Nat) : Int)]) (fun zz => match zz with | zk4 => zk4.N) (fun zz => match zz with | zk4 => OvOk b zk4) (by rintro zk4; simp) rfl (fun _ => by go_simp) (fun W hE => open_no b _ _ W ((sl_old hb) W hE) (by omega) hbc (of_decide_eq_false h3)) ?_
      rintro zk4 k4
      (try dsimp only)
      simp only [Act.put, Xa, Xz, Xs]
      refine wl_val (.tuple #[.agg #[.slice zk4.p 0 zk4.c, .slice zk4.q 0 zk4.d], .int .i64 ((opnE b : Nat) : Int)]) rfl (fun _ => rfl) ?_
      simp only [Act.put, Xa, Xz, Xs]
      refine wl_val (.agg #[.slice zk4.p 0 zk4.c, .slice zk4.q 0 zk4.d]) rfl (fun _ => by go_simp) ?_
      simp only [Act.put, Xa, Xz, Xs]
      refine wl_val (.int .i64 ((opnE b : Nat) : Int)) rfl (fun _ => by go_simp) ?_
      simp only [Act.put, Xa, Xz, Xs]
      refine wl_new 25 (#[.slice none 0 0, .slice none 0 0]) rfl (fun _ => by go_simp) ?_
      intro g5
      simp only [Act.put, Xa, Xz, Xs]
      refine wl_store 0 25 (.tmp 3) (.tmp 17) (#[.slice zk4.p 0 zk4.c, .slice zk4.q 0 zk4.d]) rfl rfl rfl rfl rfl (by kernel_rfl) rfl (by simp [Value.oneCell']) ?_
      simp only [Act.put, List.set_cons_zero]
      refine wl_val (.int .i64 ((opnE b : Nat) : Int)) rfl (fun _ => rfl) ?_
      simp only [Act.put, Xa, Xz, Xs]
      refine wl_nil ?_
      refine we_then ?_
      refine wc_seq ?_
      refine wc_region ?_
      refine wl_val (.slice q b.length c) rfl (fun _ => rfl) ?_
      simp only [Act.put, Xa, Xz, Xs]
      refine wl_call_open (ι := Ov) (fun zz => match zz with | zk6 => ⟨g5, #[.slice zk4.p 0 zk4.c, .slice zk4.q 0 zk4.d], 25⟩ :: (zk4.N ++ zk6.N)) 15 #[.slice q b.length c] (fun zz => match zz with | zk6 => .tuple #[.agg #[.slice zk6.p 0 zk6.c, .slice zk6.q 0 zk6.d], .int .i64 ((opnE b : Nat) : Int)]) (fun zz => match zz with | zk6 => zk6.N) (fun zz => match zz with | zk6 => OvOk b zk6) (by rintro zk6; simp) rfl (fun _ => by go_simp) (fun W hE => ropen_no b _ _ W ((sl_old hb) W hE) (by omega) hbc (of_decide_eq_false h3)) ?_
      rintro zk6 k6
      (try dsimp only)
      simp only [Act.put, Xa, Xz, Xs]
      refine wl_val (.tuple #[.agg #[.slice zk6.p 0 zk6.c, .slice zk6.q 0 zk6.d], .int .i64 ((opnE b : Nat) : Int)]) rfl (fun _ => rfl) ?_
      simp only [Act.put, Xa, Xz, Xs]
      refine wl_val (.agg #[.slice zk6.p 0 zk6.c, .slice zk6.q 0 zk6.d]) rfl (fun _ => by go_simp) ?_
      simp only [Act.put, Xa, Xz, Xs]
      refine wl_val (.int .i64 ((opnE b : Nat) : Int)) rfl (fun _ => by go_simp) ?_
      simp only [Act.put, Xa, Xz, Xs]
      refine wl_new 37 (#[.slice none 0 0, .slice none 0 0]) rfl (fun _ => by go_simp) ?_
      intro g7
      simp only [Act.put, Xa, Xz, Xs]
      refine wl_store 0 37 (.tmp 5) (.tmp 22) (#[.slice zk6.p 0 zk6.c, .slice zk6.q 0 zk6.d]) rfl rfl rfl rfl rfl (by kernel_rfl) rfl (by simp [Value.oneCell']) ?_
      simp only [Act.put, List.set_cons_zero]
      refine wl_val (.int .i64 ((opnE b : Nat) : Int)) rfl (fun _ => rfl) ?_
      simp only [Act.put, Xa, Xz, Xs]
      refine wl_nil ?_
      refine we_then ?_
      refine wc_seq ?_
      refine wc_seq ?_
      refine wc_region ?_
      refine wl_val (.int .i64 ((opnE b : Nat) : Int)) rfl (fun _ => rfl) ?_
      simp only [Act.put, Xa, Xz, Xs]
      refine wl_val (.int .i64 ((opnE b : Nat) : Int)) rfl (fun _ => rfl) ?_
      simp only [Act.put, Xa, Xz, Xs]
      refine wl_val (.bool false) rfl (fun w => run_cmp (b := false) rfl rfl rfl Try.underlying3 (by simp [cmpOf]) w) ?_
      simp only [Act.put, Xa, Xz, Xs]
      refine wl_nil ?_
      refine we_then ?_
      refine wc_false rfl ?_
      refine wc_skip ?_
      refine we_then ?_
      refine wc_seq ?_
      refine wc_seq ?_
      refine wc_region ?_
      refine wl_val (.int .i64 ((opnE b : Nat) : Int)) rfl (fun _ => rfl) ?_
      simp only [Act.put, Xa, Xz, Xs]
      refine wl_val (.bool (((opnE b : Nat) : Int) != 0)) rfl (fun w => run_cmp rfl rfl rfl Try.underlying29 rfl w) ?_
      simp only [Act.put, Xa, Xz, Xs]
      refine wl_nil ?_
      refine we_then ?_
      cases h8 : (((opnE b : Nat) : Int) != 0)
      · skip
        have p8 : ¬ (((opnE b : Nat) : Int) ≠ 0) := by simpa using h8
        exact (by exfalso; omega)
      · skip
        have p8 : ((opnE b : Nat) : Int) ≠ 0 := by simpa using h8
        refine wc_true rfl ?_
        refine wc_seq ?_
        refine wc_region ?_
        refine wl_val (.pointer (some ⟨g5, 0, none⟩)) rfl (fun _ => by go_simp) ?_
        simp only [Act.put, Xa, Xz, Xs]
        refine wl_cell 22 (.tmp 29) (.slice zk4.p 0 zk4.c) (own_row 1 rfl) rfl rfl rfl rfl Try.isAgg22 ?_
        simp only [Act.put, Xa, Xz, Xs]
        refine wl_val (.int .i64 0) rfl (fun w => er_len rfl rfl Try.underlying22 w) ?_
        simp only [Act.put, Xa, Xz, Xs]
        refine wl_val (.bool true) rfl (fun w => run_cmp rfl rfl rfl Try.underlying3 rfl w) ?_
        simp only [Act.put, Xa, Xz, Xs]
        refine wl_val (.bool true) rfl (fun _ => rfl) ?_
        simp only [Act.put, Xa, Xz, Xs]
        refine wl_val (.pointer (some ⟨g5, 1, none⟩)) rfl (fun _ => by go_simp) ?_
        simp only [Act.put, Xa, Xz, Xs]
        refine wl_cell 23 (.tmp 34) (.slice zk4.q 0 zk4.d) (own_row 1 rfl) rfl rfl rfl rfl Try.isAgg23 ?_
        simp only [Act.put, Xa, Xz, Xs]
        refine wl_val (.int .i64 0) rfl (fun w => er_len rfl rfl Try.underlying23 w) ?_
        simp only [Act.put, Xa, Xz, Xs]
        refine wl_val (.bool true) rfl (fun w => run_cmp rfl rfl rfl Try.underlying3 rfl w) ?_
        simp only [Act.put, Xa, Xz, Xs]
        refine wl_val (.bool true) rfl (fun _ => rfl) ?_
        simp only [Act.put, Xa, Xz, Xs]
        refine wl_val (.bool true) rfl (fun _ => rfl) ?_
        simp only [Act.put, Xa, Xz, Xs]
        refine wl_nil ?_
        refine we_then ?_
        refine wc_ret ?_
        refine we_then_ret ?_
        refine we_ret1 (.bool true) rfl rfl rfl (fun w1 hE => ?_)
        exact ⟨rfl, hE.below⟩
    · skip
      have p3 : opnE b = 0 := of_decide_eq_true h3
      refine wl_call_open (ι := Ov) (fun zz => match zz with | zk9 => zk9.N) 12 #[.slice q b.length c] (fun zz => match zz with | zk9 => .tuple #[.agg #[.slice zk9.p zk9.K.length zk9.c, .slice zk9.q zk9.H.length zk9.d], .int .i64 0]) (fun zz => match zz with | zk9 => zk9.N) (fun zz => match zz with | zk9 => OvOk b zk9) (by rintro zk9; simp) rfl (fun _ => by go_simp) (fun W hE => open_yes b _ _ W ((sl_old hb) W hE) (by omega) hbc (of_decide_eq_true h3)) ?_
      rintro zk9 k9
      (try dsimp only)
      simp only [Act.put, Xa, Xz, Xs]
      refine wl_val (.tuple #[.agg #[.slice zk9.p zk9.K.length zk9.c, .slice zk9.q zk9.H.length zk9.d], .int .i64 0]) rfl (fun _ => rfl) ?_
      simp only [Act.put, Xa, Xz, Xs]
      refine wl_val (.agg #[.slice zk9.p zk9.K.length zk9.c, .slice zk9.q zk9.H.length zk9.d]) rfl (fun _ => by go_simp) ?_
      simp only [Act.put, Xa, Xz, Xs]
      refine wl_val (.int .i64 0) rfl (fun _ => by go_simp) ?_
      simp only [Act.put, Xa, Xz, Xs]
      refine wl_new 25 (#[.slice none 0 0, .slice none 0 0]) rfl (fun _ => by go_simp) ?_
      intro g10
      simp only [Act.put, Xa, Xz, Xs]
      refine wl_store 0 25 (.tmp 3) (.tmp 17) (#[.slice zk9.p zk9.K.length zk9.c, .slice zk9.q zk9.H.length zk9.d]) rfl rfl rfl rfl rfl (by kernel_rfl) rfl (by simp [Value.oneCell']) ?_
      simp only [Act.put, List.set_cons_zero]
      refine wl_val (.int .i64 0) rfl (fun _ => rfl) ?_
      simp only [Act.put, Xa, Xz, Xs]
      refine wl_nil ?_
      refine we_then ?_
      refine wc_seq ?_
      refine wc_region ?_
      refine wl_val (.slice q b.length c) rfl (fun _ => rfl) ?_
      simp only [Act.put, Xa, Xz, Xs]
      refine wl_call_open (ι := Ov) (fun zz => match zz with | zk11 => ⟨g10, #[.slice zk9.p zk9.K.length zk9.c, .slice zk9.q zk9.H.length zk9.d], 25⟩ :: (zk9.N ++ zk11.N)) 15 #[.slice q b.length c] (fun zz => match zz with | zk11 => .tuple #[.agg #[.slice zk11.p zk11.K.length zk11.c, .slice zk11.q zk11.H.length zk11.d], .int .i64 0]) (fun zz => match zz with | zk11 => zk11.N) (fun zz => match zz with | zk11 => OvOk b zk11) (by rintro zk11; simp) rfl (fun _ => by go_simp) (fun W hE => ropen_yes b _ _ W ((sl_old hb) W hE) (by omega) hbc (of_decide_eq_true h3)) ?_
      rintro zk11 k11
      (try dsimp only)
      simp only [Act.put, Xa, Xz, Xs]
      refine wl_val (.tuple #[.agg #[.slice zk11.p zk11.K.length zk11.c, .slice zk11.q zk11.H.length zk11.d], .int .i64 0]) rfl (fun _ => rfl) ?_
      simp only [Act.put, Xa, Xz, Xs]
      refine wl_val (.agg #[.slice zk11.p zk11.K.length zk11.c, .slice zk11.q zk11.H.length zk11.d]) rfl (fun _ => by go_simp) ?_
      simp only [Act.put, Xa, Xz, Xs]
      refine wl_val (.int .i64 0) rfl (fun _ => by go_simp) ?_
      simp only [Act.put, Xa, Xz, Xs]
      refine wl_new 37 (#[.slice none 0 0, .slice none 0 0]) rfl (fun _ => by go_simp) ?_
      intro g12
      simp only [Act.put, Xa, Xz, Xs]
      refine wl_store 0 37 (.tmp 5) (.tmp 22) (#[.slice zk11.p zk11.K.length zk11.c, .slice zk11.q zk11.H.length zk11.d]) rfl rfl rfl rfl rfl (by kernel_rfl) rfl (by simp [Value.oneCell']) ?_
      simp only [Act.put, List.set_cons_zero]
      refine wl_val (.int .i64 0) rfl (fun _ => rfl) ?_
      simp only [Act.put, Xa, Xz, Xs]
      refine wl_nil ?_
      refine we_then ?_
      refine wc_seq ?_
      refine wc_seq ?_
      refine wc_region ?_
      refine wl_val (.int .i64 0) rfl (fun _ => rfl) ?_
      simp only [Act.put, Xa, Xz, Xs]
      refine wl_val (.int .i64 0) rfl (fun _ => rfl) ?_
      simp only [Act.put, Xa, Xz, Xs]
      refine wl_val (.bool false) rfl (fun w => run_cmp rfl rfl rfl Try.underlying3 rfl w) ?_
      simp only [Act.put, Xa, Xz, Xs]
      refine wl_nil ?_
      refine we_then ?_
      refine wc_false rfl ?_
      refine wc_skip ?_
      refine we_then ?_
      refine wc_seq ?_
      refine wc_seq ?_
      refine wc_region ?_
      refine wl_val (.int .i64 0) rfl (fun _ => rfl) ?_
      simp only [Act.put, Xa, Xz, Xs]
      refine wl_val (.bool false) rfl (fun w => run_cmp rfl rfl rfl Try.underlying29 rfl w) ?_
      simp only [Act.put, Xa, Xz, Xs]
      refine wl_nil ?_
      refine we_then ?_
      refine wc_false rfl ?_
      refine wc_skip ?_
      refine we_then ?_
      refine wc_seq ?_
      refine wc_region ?_
      refine wl_load 25 (.tmp 3) (own_row 1 rfl) rfl rfl rfl Try.underlying25 rfl (by kernel_rfl) ?_
      simp only [Act.put, Xa, Xz, Xs]
      refine wl_call_open (ι := Bs) (fun zz => match zz with | zk13 => ⟨g12, #[.slice zk11.p zk11.K.length zk11.c, .slice zk11.q zk11.H.length zk11.d], 37⟩ :: ⟨g10, #[.slice zk9.p zk9.K.length zk9.c, .slice zk9.q zk9.H.length zk9.d], 25⟩ :: (zk9.N ++ (zk11.N ++ zk13.N))) 9 #[.agg #[.slice zk9.p zk9.K.length zk9.c, .slice zk9.q zk9.H.length zk9.d]] (fun zz => match zz with | zk13 => .tuple #[.slice zk13.p b.length zk13.c, .int .i64 0]) (fun zz => match zz with | zk13 => zk13.N) (fun zz => match zz with | zk13 => BsOk b zk13) (by rintro zk13; simp) rfl (fun _ => by go_simp) (fun W hE => by have f := ov_few (of_decide_eq_true h3) k9; have x := pack_yes zk9.K zk9.H zk9.p zk9.q zk9.c zk9.d W ((sl_held k9.segs (List.Sublist.cons _ (List.Sublist.cons _ (List.sublist_append_left _ _)))) W hE) (heldS_ok k9.ok (hE.sub (List.Sublist.cons _ (List.Sublist.cons _ (List.sublist_append_left _ _))))) ((sl_held k9.grps (List.Sublist.cons _ (List.Sublist.cons _ (List.sublist_append_left _ _)))) W hE) (by omega) (by omega) (ov_opn (of_decide_eq_true h3) k9).1; rw [(ov_opn (of_decide_eq_true h3) k9).2] at x; exact x) ?_
      rintro zk13 k13
      (try dsimp only)
      simp only [Act.put, Xa, Xz, Xs]
      refine wl_val (.tuple #[.slice zk13.p b.length zk13.c, .int .i64 0]) rfl (fun _ => rfl) ?_
      simp only [Act.put, Xa, Xz, Xs]
      refine wl_val (.slice zk13.p b.length zk13.c) rfl (fun _ => by go_simp) ?_
      simp only [Act.put, Xa, Xz, Xs]
      refine wl_val (.int .i64 0) rfl (fun _ => by go_simp) ?_
      simp only [Act.put, Xa, Xz, Xs]
      refine wl_val (.slice zk13.p b.length zk13.c) rfl (fun _ => rfl) ?_
      simp only [Act.put, Xa, Xz, Xs]
      refine wl_val (.int .i64 0) rfl (fun _ => rfl) ?_
      simp only [Act.put, Xa, Xz, Xs]
      refine wl_nil ?_
      refine we_then ?_
      refine wc_seq ?_
      refine wc_draw_ghost (Γ := Bs) 11 13 #[.agg #[.slice zk11.p zk11.K.length zk11.c, .slice zk11.q zk11.H.length zk11.d]] (fun k => [false, false, false, false, false, false, false, false, false, false, false, true, true, false, false, true, true, true].getD k false) (fun k => [.int .i64 0, .bool true, .bool true, .slice zk13.p b.length zk13.c, .string (str b), .slice q b.length c, .string (str b), .bool true, .bool true, .bool true, .agg #[.slice zk11.p zk11.K.length zk11.c, .slice zk11.q zk11.H.length zk11.d], undef, undef, .slice q b.length c, .string (str b), undef, undef, undef].getD k undef) (fun zz => match zz with | zk14 => fun k => [undef, undef, undef, undef, undef, undef, undef, undef, undef, undef, undef, .slice zk14.p ((b).length) zk14.c, .string (str b), undef, undef, .bool true, .bool true, .bool true].getD k undef) (fun zz => match zz with | zk14 => zk14.N) (fun zz => match zz with | zk14 => ⟨g12, #[.slice zk11.p zk11.K.length zk11.c, .slice zk11.q zk11.H.length zk11.d], 37⟩ :: ⟨g10, #[.slice zk9.p zk9.K.length zk9.c, .slice zk9.q zk9.H.length zk9.d], 25⟩ :: (zk9.N ++ (zk11.N ++ (zk13.N ++ zk14.N)))) (fun zz => match zz with | zk14 => Held zk14.N zk14.p (flat ub (b))) 61 (by kernel_rfl) rfl (by kernel_rfl) (by kernel_rfl) rfl (by decide) (by rintro zk14; simp) (fun W hE => rpack_open zk11.K zk11.H _ _ _ _ W (b) ((sl_held k11.segs (List.Sublist.cons _ (List.Sublist.cons _ (List.sublist_append_of_sublist_right (List.sublist_append_left _ _))))) W hE) (heldS_ok k11.ok (hE.sub (List.Sublist.cons _ (List.Sublist.cons _ (List.sublist_append_of_sublist_right (List.sublist_append_left _ _)))))) ((sl_held k11.grps (List.Sublist.cons _ (List.Sublist.cons _ (List.sublist_append_of_sublist_right (List.sublist_append_left _ _))))) W hE) (ov_opn (of_decide_eq_true h3) k11).1 (ov_opn (of_decide_eq_true h3) k11).2) ?_ ?_
      · intro z
        refine wg_val (.int .i64 0) rfl rfl rfl (fun _ => rfl) ?_
        simp only [Nat.reduceAdd, Act.put, Xa, Xz, Xs]
        refine wg_val (.bool true) rfl rfl rfl (fun w => run_cmp rfl rfl rfl Try.underlying29 rfl w) ?_
        simp only [Nat.reduceAdd, Act.put, Xa, Xz, Xs]
        refine wg_val (.bool true) rfl rfl rfl (fun _ => rfl) ?_
        simp only [Nat.reduceAdd, Act.put, Xa, Xz, Xs]
        refine wg_val (.slice zk13.p b.length zk13.c) rfl rfl rfl (fun _ => rfl) ?_
        simp only [Nat.reduceAdd, Act.put, Xa, Xz, Xs]
        refine wg_read (.string (str b)) rfl rfl rfl (er_string (L := b) (sl_held k13.held (List.Sublist.cons _ (List.Sublist.cons _ (List.sublist_append_of_sublist_right (List.sublist_append_of_sublist_right (List.Sublist.refl _)))))) rfl rfl rfl Try.underlying28 Try.underlying5 Try.underlying9) ?_
        simp only [Nat.reduceAdd, Act.put, Xa, Xz, Xs]
        refine wg_val (.slice q b.length c) rfl rfl rfl (fun _ => rfl) ?_
        simp only [Nat.reduceAdd, Act.put, Xa, Xz, Xs]
        refine wg_read (.string (str b)) rfl rfl rfl (er_string (L := b) (sl_old hb) rfl rfl rfl Try.underlying28 Try.underlying5 Try.underlying9) ?_
        simp only [Nat.reduceAdd, Act.put, Xa, Xz, Xs]
        refine wg_val (.bool true) rfl rfl rfl (fun w => run_streq rfl rfl rfl (by simp) w) ?_
        simp only [Nat.reduceAdd, Act.put, Xa, Xz, Xs]
        refine wg_val (.bool true) rfl rfl rfl (fun _ => rfl) ?_
        simp only [Nat.reduceAdd, Act.put, Xa, Xz, Xs]
        refine wg_val (.bool true) rfl rfl rfl (fun _ => rfl) ?_
        simp only [Nat.reduceAdd, Act.put, Xa, Xz, Xs]
        refine wg_load 37 (.tmp 5) (own_row 0 rfl) rfl rfl rfl rfl rfl Try.underlying37 rfl (by kernel_rfl) ?_
        simp only [Nat.reduceAdd, Act.put, Xa, Xz, Xs]
        refine wg_own (z 11) rfl rfl rfl (fun _ => by go_simp) ?_
        simp only [Nat.reduceAdd, Act.put, Xa, Xz, Xs]
        refine wg_pass (z 12) rfl rfl rfl ?_
        simp only [Nat.reduceAdd, Act.put, Xa, Xz, Xs]
        refine wg_val (.slice q b.length c) rfl rfl rfl (fun _ => rfl) ?_
        simp only [Nat.reduceAdd, Act.put, Xa, Xz, Xs]
        refine wg_read (.string (str b)) rfl rfl rfl (er_string (L := b) (sl_old hb) rfl rfl rfl Try.underlying28 Try.underlying5 Try.underlying9) ?_
        simp only [Nat.reduceAdd, Act.put, Xa, Xz, Xs]
        refine wg_pass (z 15) rfl rfl rfl ?_
        simp only [Nat.reduceAdd, Act.put, Xa, Xz, Xs]
        refine wg_pass (z 16) rfl rfl rfl ?_
        simp only [Nat.reduceAdd, Act.put, Xa, Xz, Xs]
        refine wg_pass (z 17) rfl rfl rfl ?_
        simp only [Nat.reduceAdd, Act.put, Xa, Xz, Xs]
        exact wg_nil trivial
      · rintro zk14 k14
        (try dsimp only)
        refine wg_pass (.int .i64 0) rfl rfl rfl ?_
        simp only [Nat.reduceAdd, Act.put, Xa, Xz, Xs]
        refine wg_pass (.bool true) rfl rfl rfl ?_
        simp only [Nat.reduceAdd, Act.put, Xa, Xz, Xs]
        refine wg_pass (.bool true) rfl rfl rfl ?_
        simp only [Nat.reduceAdd, Act.put, Xa, Xz, Xs]
        refine wg_pass (.slice zk13.p b.length zk13.c) rfl rfl rfl ?_
        simp only [Nat.reduceAdd, Act.put, Xa, Xz, Xs]
        refine wg_pass (.string (str b)) rfl rfl rfl ?_
        simp only [Nat.reduceAdd, Act.put, Xa, Xz, Xs]
        refine wg_pass (.slice q b.length c) rfl rfl rfl ?_
        simp only [Nat.reduceAdd, Act.put, Xa, Xz, Xs]
        refine wg_pass (.string (str b)) rfl rfl rfl ?_
        simp only [Nat.reduceAdd, Act.put, Xa, Xz, Xs]
        refine wg_pass (.bool true) rfl rfl rfl ?_
        simp only [Nat.reduceAdd, Act.put, Xa, Xz, Xs]
        refine wg_pass (.bool true) rfl rfl rfl ?_
        simp only [Nat.reduceAdd, Act.put, Xa, Xz, Xs]
        refine wg_pass (.bool true) rfl rfl rfl ?_
        simp only [Nat.reduceAdd, Act.put, Xa, Xz, Xs]
        refine wg_pass (.agg #[.slice zk11.p zk11.K.length zk11.c, .slice zk11.q zk11.H.length zk11.d]) rfl rfl rfl ?_
        simp only [Nat.reduceAdd, Act.put, Xa, Xz, Xs]
        refine wg_own (.slice zk14.p ((b).length) zk14.c) rfl rfl rfl (fun _ => by go_simp) ?_
        simp only [Nat.reduceAdd, Act.put, Xa, Xz, Xs]
        refine wg_read (.string (str b)) rfl rfl rfl (er_string (L := b) (sl_held k14 (List.Sublist.cons _ (List.Sublist.cons _ (List.sublist_append_of_sublist_right (List.sublist_append_of_sublist_right (List.sublist_append_of_sublist_right (List.Sublist.refl _))))))) rfl rfl rfl Try.underlying28 Try.underlying5 Try.underlying9) ?_
        simp only [Nat.reduceAdd, Act.put, Xa, Xz, Xs]
        refine wg_pass (.slice q b.length c) rfl rfl rfl ?_
        simp only [Nat.reduceAdd, Act.put, Xa, Xz, Xs]
        refine wg_pass (.string (str b)) rfl rfl rfl ?_
        simp only [Nat.reduceAdd, Act.put, Xa, Xz, Xs]
        refine wg_val (.bool true) rfl rfl rfl (fun w => run_streq rfl rfl rfl (by simp) w) ?_
        simp only [Nat.reduceAdd, Act.put, Xa, Xz, Xs]
        refine wg_val (.bool true) rfl rfl rfl (fun _ => rfl) ?_
        simp only [Nat.reduceAdd, Act.put, Xa, Xz, Xs]
        refine wg_val (.bool true) rfl rfl rfl (fun _ => rfl) ?_
        simp only [Nat.reduceAdd, Act.put, Xa, Xz, Xs]
        refine wg_nil ?_
        refine we_then ?_
        refine wc_ret ?_
        refine we_ret1 (.bool true) rfl rfl rfl (fun w1 hE => ?_)
        exact ⟨rfl, hE.below⟩
  · skip
    have p1 : 5000 < (b.length : Int) := of_decide_eq_true h1
    refine wc_true rfl ?_
    refine wc_seq ?_
    refine wc_region ?_
    refine wl_val (.bool true) rfl (fun _ => rfl) ?_
    simp only [Act.put, Xa, Xz, Xs]
    refine wl_nil ?_
    refine we_then ?_
    refine wc_ret ?_
    refine we_then_ret ?_
    refine we_ret1 (.bool true) rfl rfl rfl (fun w1 hE => ?_)
    exact ⟨rfl, hE.below⟩
end Go.Proofs.Ytggannjlaehihaa.Walks
