/-
  TrackFinds: the law's walk. No condition.
-/
import Derived.Test.YtdkahonmblnlgaaTlw
namespace Go.Proofs.Ytdkahonmblnlgaa.Walks
open Go.ChangeShapes Go.WideShapes Go.ChangeAt Go.RowKit
open Arr Steady Sx Sw Sl Sb Sc Si Sj Sk Sh Vs Gr Tk Tkh Tkl Tkref Tkrefs Tlw
set_option linter.unusedVariables false
set_option linter.unusedSimpArgs false
set_option maxRecDepth 100000

set_option maxHeartbeats 6000000 in
theorem trackFinds_walk (G : List Sg) (H : List Gp) (p q : Option Addr) (c d : Nat) (x : Int) (wx : (Lit.int .i64 x).wf = true) (w : World) (hS : Reads w p (flat sg G)) (hG : OkS w G) (hH : Reads w q (flat gp H)) (hn : G.length ≤ 140737488355328) (hm : H.length ≤ 140737488355328) (hcc : G.length ≤ c) (hcd : H.length ≤ d) :
    Calls Try.prog 4 #[.agg #[.slice p G.length c, .slice q H.length d], .int .i64 x] w fun e w' => e = .returned (.bool true) ∧ Below w.heap.size w w' := by
  refine calls_sx Try.func4 rfl ?_
  simp only [Try.ntmps4, List.size_toArray, List.length_cons, List.length_nil, Nat.reduceAdd, Nat.reduceSub, Array.replicate_succ, Array.replicate_zero, List.push_toArray, List.append_toArray, List.nil_append, List.cons_append]
  refine wc_seq ?_
  refine wc_region ?_
  refine wl_new 25 (#[.slice p G.length c, .slice q H.length d]) rfl (fun _ => by go_simp) ?_
  intro g1
  simp only [Act.put, List.setIfInBounds_toArray, List.set_cons_zero, List.set_cons_succ]
  refine wl_val (.bool false) rfl (fun _ => rfl) ?_
  simp only [Act.put, List.setIfInBounds_toArray, List.set_cons_zero, List.set_cons_succ]
  refine wl_nil ?_
  refine we_then ?_
  refine wc_seq ?_
  refine wc_seq ?_
  refine wc_region ?_
  refine wl_call 8 #[] (.bool true) rfl (fun _ => by go_simp) (fun W => Tlw.anchor_any W) ?_
  simp only [Act.put, List.setIfInBounds_toArray, List.set_cons_zero, List.set_cons_succ]
  refine wl_val (.bool false) rfl (fun _ => by go_simp) ?_
  simp only [Act.put, List.setIfInBounds_toArray, List.set_cons_zero, List.set_cons_succ]
  refine wl_nil ?_
  refine we_then ?_
  refine wc_false rfl ?_
  refine wc_skip ?_
  refine we_then ?_
  refine wc_seq ?_
  refine wc_seq ?_
  refine wc_region ?_
  refine wl_load 25 (.tmp 2) (own_row 0 rfl) rfl rfl rfl Try.underlying25 rfl (by kernel_rfl) ?_
  simp only [Act.put, List.setIfInBounds_toArray, List.set_cons_zero, List.set_cons_succ]
  refine wl_call_at 9 #[.agg #[.slice p G.length c, .slice q H.length d]] (.bool (greatB G H)) rfl (fun _ => by go_simp) (fun W hE => great_any G H _ _ _ _ W ((sl_old hS) W hE) (oks_below hG hE.below) ((sl_old hH) W hE) hn hm) ?_
  simp only [Act.put, List.setIfInBounds_toArray, List.set_cons_zero, List.set_cons_succ]
  refine wl_nil ?_
  refine we_then ?_
  cases h2 : (greatB G H)
  · skip
    refine wc_false rfl ?_
    refine wc_skip ?_
    refine we_then ?_
    refine wc_seq ?_
    refine wc_seq ?_
    refine wc_region ?_
    refine wl_load 25 (.tmp 2) (own_row 0 rfl) rfl rfl rfl Try.underlying25 rfl (by kernel_rfl) ?_
    simp only [Act.put, List.setIfInBounds_toArray, List.set_cons_zero, List.set_cons_succ]
    refine wl_call_open (ι := Cp) (fun zz => match zz with | zk3 => ⟨g1, #[.slice p G.length c, .slice q H.length d], 25⟩ :: zk3.N) 12 #[.agg #[.slice p G.length c, .slice q H.length d]] (fun zz => match zz with | zk3 => .agg #[.slice zk3.p zk3.K.length zk3.c, .slice zk3.q H.length zk3.d]) (fun zz => match zz with | zk3 => zk3.N) (fun zz => match zz with | zk3 => CpOk G H zk3) (by rintro zk3; simp) rfl (fun _ => by go_simp) (fun W hE => refs_open G H _ _ _ _ W ((sl_old hS) W hE) (oks_below hG hE.below) ((sl_old hH) W hE) h2) ?_
    rintro zk3 k3
    (try dsimp only)
    simp only [Act.put, List.setIfInBounds_toArray, List.set_cons_zero, List.set_cons_succ]
    refine wl_call_at 11 #[.agg #[.slice zk3.p zk3.K.length zk3.c, .slice zk3.q H.length zk3.d]] (.tuple #[.int .i64 (((chk G H).1 : Nat) : Int), .int .i64 (((chk G H).2 : Nat) : Int)]) rfl (fun _ => by go_simp) (fun W hE => by have x := Tkref.check_any zk3.K H _ _ zk3.c zk3.d W (held_at k3.segs (List.Sublist.cons _ (List.Sublist.refl _)) hE) (k3.ok _ _ hG (hE.sub (List.Sublist.cons _ (List.Sublist.refl _)))) (held_at k3.grps (List.Sublist.cons _ (List.Sublist.refl _)) hE) (by rw [k3.same.length]; omega) (by omega); rwa [chk_same k3.same] at x) ?_
    simp only [Act.put, List.setIfInBounds_toArray, List.set_cons_zero, List.set_cons_succ]
    refine wl_val (.tuple #[.int .i64 (((chk G H).1 : Nat) : Int), .int .i64 (((chk G H).2 : Nat) : Int)]) rfl (fun _ => rfl) ?_
    simp only [Act.put, List.setIfInBounds_toArray, List.set_cons_zero, List.set_cons_succ]
    refine wl_val (.int .i64 (((chk G H).1 : Nat) : Int)) rfl (fun _ => by go_simp) ?_
    simp only [Act.put, List.setIfInBounds_toArray, List.set_cons_zero, List.set_cons_succ]
    refine wl_val (.int .i64 (((chk G H).2 : Nat) : Int)) rfl (fun _ => by go_simp) ?_
    simp only [Act.put, List.setIfInBounds_toArray, List.set_cons_zero, List.set_cons_succ]
    refine wl_val (.int .i64 (((chk G H).1 : Nat) : Int)) rfl (fun _ => rfl) ?_
    simp only [Act.put, List.setIfInBounds_toArray, List.set_cons_zero, List.set_cons_succ]
    refine wl_val (.int .i64 (((chk G H).2 : Nat) : Int)) rfl (fun _ => rfl) ?_
    simp only [Act.put, List.setIfInBounds_toArray, List.set_cons_zero, List.set_cons_succ]
    refine wl_nil ?_
    refine we_then ?_
    refine wc_seq ?_
    refine wc_region ?_
    refine wl_val (.int .i64 (((chk G H).1 : Nat) : Int)) rfl (fun _ => rfl) ?_
    simp only [Act.put, List.setIfInBounds_toArray, List.set_cons_zero, List.set_cons_succ]
    refine wl_val (.bool ((((chk G H).1 : Nat) : Int) != 0)) rfl (fun w => run_cmp rfl rfl rfl Try.underlying3 rfl w) ?_
    simp only [Act.put, List.setIfInBounds_toArray, List.set_cons_zero, List.set_cons_succ]
    refine wl_nil ?_
    refine we_then ?_
    cases h4 : ((((chk G H).1 : Nat) : Int) != 0)
    · skip
      have p4 : ¬ ((((chk G H).1 : Nat) : Int) ≠ 0) := by simpa using h4
      refine wc_false rfl ?_
      refine wc_skip ?_
      refine we_then ?_
      refine wc_seq ?_
      refine wc_region ?_
      refine wl_load 25 (.tmp 2) (own_row 0 rfl) rfl rfl rfl Try.underlying25 rfl (by kernel_rfl) ?_
      simp only [Act.put, List.setIfInBounds_toArray, List.set_cons_zero, List.set_cons_succ]
      refine wl_val (.int .i64 x) rfl (fun _ => rfl) ?_
      simp only [Act.put, List.setIfInBounds_toArray, List.set_cons_zero, List.set_cons_succ]
      refine wl_call_at 13 #[.agg #[.slice p G.length c, .slice q H.length d], .int .i64 x] (.tuple #[.int .i64 ((cntId H x H.length : Nat) : Int), .bool (hasId H x H.length)]) rfl (fun _ => by go_simp) (fun W hE => Tra.find_any G H _ _ _ _ x W ((sl_old hS) W hE) (oks_below hG hE.below) ((sl_old hH) W hE) (may_of_chk (G := G) (H := H) (by omega))) ?_
      simp only [Act.put, List.setIfInBounds_toArray, List.set_cons_zero, List.set_cons_succ]
      refine wl_val (.tuple #[.int .i64 ((cntId H x H.length : Nat) : Int), .bool (hasId H x H.length)]) rfl (fun _ => rfl) ?_
      simp only [Act.put, List.setIfInBounds_toArray, List.set_cons_zero, List.set_cons_succ]
      refine wl_val (.int .i64 ((cntId H x H.length : Nat) : Int)) rfl (fun _ => by go_simp) ?_
      simp only [Act.put, List.setIfInBounds_toArray, List.set_cons_zero, List.set_cons_succ]
      refine wl_val (.bool (hasId H x H.length)) rfl (fun _ => by go_simp) ?_
      simp only [Act.put, List.setIfInBounds_toArray, List.set_cons_zero, List.set_cons_succ]
      refine wl_val (.int .i64 ((cntId H x H.length : Nat) : Int)) rfl (fun _ => rfl) ?_
      simp only [Act.put, List.setIfInBounds_toArray, List.set_cons_zero, List.set_cons_succ]
      refine wl_val (.bool (hasId H x H.length)) rfl (fun _ => rfl) ?_
      simp only [Act.put, List.setIfInBounds_toArray, List.set_cons_zero, List.set_cons_succ]
      refine wl_nil ?_
      refine we_then ?_
      refine wc_seq ?_
      refine wc_region ?_
      refine wl_val (.int .i64 0) rfl (fun _ => rfl) ?_
      simp only [Act.put, List.setIfInBounds_toArray, List.set_cons_zero, List.set_cons_succ]
      refine wl_val (.bool false) rfl (fun _ => rfl) ?_
      simp only [Act.put, List.setIfInBounds_toArray, List.set_cons_zero, List.set_cons_succ]
      refine wl_nil ?_
      refine we_then ?_
      refine wc_seq ?_
      refine wc_seq ?_
      refine wc_region ?_
      refine wl_val (.pointer (some ⟨g1, 1, none⟩)) rfl (fun _ => by go_simp) ?_
      simp only [Act.put, List.setIfInBounds_toArray, List.set_cons_zero, List.set_cons_succ]
      refine wl_cell 23 (.tmp 31) (.slice q H.length d) (own_row 0 rfl) rfl rfl rfl rfl Try.isAgg23 ?_
      simp only [Act.put, List.setIfInBounds_toArray, List.set_cons_zero, List.set_cons_succ]
      refine wl_val (.int .i64 (H.length : Int)) rfl (fun w => er_len rfl rfl Try.underlying23 w) ?_
      simp only [Act.put, List.setIfInBounds_toArray, List.set_cons_zero, List.set_cons_succ]
      refine wl_val (.int .i64 0) rfl (fun _ => rfl) ?_
      simp only [Act.put, List.setIfInBounds_toArray, List.set_cons_zero, List.set_cons_succ]
      refine wl_nil ?_
      refine we_then ?_
      refine wc_block ?_
      refine wc_loop (fun (zz : Nat × Nat × Bool × Value × Value × Value × Value × Value × Value × Value × Value × Value × Value × Value × Value × Value × Value × Value × Value × Value × Value) => match zz with | ⟨i, n, f, u12, u35, u36, u37, u38, u39, u40, u41, u42, u43, u44, u45, u46, u47, u48, u49, u50, u51⟩ => ({ tmps := #[.agg #[.slice p G.length c, .slice q H.length d], .int .i64 x, .pointer (some ⟨g1, 0, none⟩), undef, .bool false, .int .i64 (((chk G H).1 : Nat) : Int), .int .i64 (((chk G H).2 : Nat) : Int), .int .i64 ((cntId H x H.length : Nat) : Int), .bool (hasId H x H.length), .int .i64 (n : Int), .bool f, undef, u12, .bool true, .bool false, .agg #[.slice p G.length c, .slice q H.length d], .bool false, .tuple #[.int .i64 (((chk G H).1 : Nat) : Int), .int .i64 (((chk G H).2 : Nat) : Int)], .agg #[.slice p G.length c, .slice q H.length d], .agg #[.slice zk3.p zk3.K.length zk3.c, .slice zk3.q H.length zk3.d], .tuple #[.int .i64 (((chk G H).1 : Nat) : Int), .int .i64 (((chk G H).2 : Nat) : Int)], .int .i64 (((chk G H).1 : Nat) : Int), .int .i64 (((chk G H).2 : Nat) : Int), .int .i64 (((chk G H).1 : Nat) : Int), .bool false, .tuple #[.int .i64 ((cntId H x H.length : Nat) : Int), .bool (hasId H x H.length)], .agg #[.slice p G.length c, .slice q H.length d], .int .i64 x, .tuple #[.int .i64 ((cntId H x H.length : Nat) : Int), .bool (hasId H x H.length)], .int .i64 ((cntId H x H.length : Nat) : Int), .bool (hasId H x H.length), .pointer (some ⟨g1, 1, none⟩), .slice q H.length d, .int .i64 (H.length : Int), .int .i64 (i : Int), u35, u36, u37, u38, u39, u40, u41, u42, u43, u44, u45, u46, u47, u48, u49, u50, u51, undef, undef, undef, undef, undef, undef, undef, undef], defers := [] } : Act)) (fun (zz : Nat × Nat × Bool × Value × Value × Value × Value × Value × Value × Value × Value × Value × Value × Value × Value × Value × Value × Value × Value × Value × Value) => match zz with | ⟨i, n, f, u12, u35, u36, u37, u38, u39, u40, u41, u42, u43, u44, u45, u46, u47, u48, u49, u50, u51⟩ => ⟨g1, #[.slice p G.length c, .slice q H.length d], 25⟩ :: zk3.N) (fun (zz : Nat × Nat × Bool × Value × Value × Value × Value × Value × Value × Value × Value × Value × Value × Value × Value × Value × Value × Value × Value × Value × Value) => match zz with | ⟨i, n, f, u12, u35, u36, u37, u38, u39, u40, u41, u42, u43, u44, u45, u46, u47, u48, u49, u50, u51⟩ => i ≤ H.length ∧ n = cntId H x i ∧ f = hasId H x i) (fun (zz : Nat × Nat × Bool × Value × Value × Value × Value × Value × Value × Value × Value × Value × Value × Value × Value × Value × Value × Value × Value × Value × Value) => match zz with | ⟨i, n, f, u12, u35, u36, u37, u38, u39, u40, u41, u42, u43, u44, u45, u46, u47, u48, u49, u50, u51⟩ => H.length - i) ⟨0, 0, false, _, _, _, _, _, _, _, _, _, _, _, _, _, _, _, _, _, _⟩ ⟨Nat.zero_le _, rfl, rfl⟩ rfl (List.Sublist.cons_cons _ (List.Sublist.refl _)) ?_
      rintro ⟨i, n, f, u12, u35, u36, u37, u38, u39, u40, u41, u42, u43, u44, u45, u46, u47, u48, u49, u50, u51⟩ hφ
      (try dsimp only at hφ ⊢)
      obtain ⟨b1, b2, b3⟩ := hφ
      have b4 := cnt_le H x i
      refine wc_seq ?_
      refine wc_region ?_
      refine wl_val (.bool (decide ((i : Int) < (H.length : Int)))) rfl (fun w => run_cmp rfl rfl rfl Try.underlying3 rfl w) ?_
      simp only [Act.put, List.setIfInBounds_toArray, List.set_cons_zero, List.set_cons_succ]
      refine wl_nil ?_
      refine we_then ?_
      refine wc_seq ?_
      cases h5 : (decide ((i : Int) < (H.length : Int)))
      · skip
        have p5 : ¬ ((i : Int) < (H.length : Int)) := of_decide_eq_false h5
        refine wc_false rfl ?_
        refine wc_exit ?_
        refine we_then_exit ?_
        refine we_then_exit ?_
        refine we_in_here ?_
        refine we_then ?_
        refine wc_seq ?_
        have e1 : i = H.length := by omega
        subst e1
        subst b2
        subst b3
        refine wc_region ?_
        refine wl_val (.int .i64 ((cntId H x H.length : Nat) : Int)) rfl (fun _ => rfl) ?_
        simp only [Act.put, List.setIfInBounds_toArray, List.set_cons_zero, List.set_cons_succ]
        refine wl_val (.int .i64 ((cntId H x H.length : Nat) : Int)) rfl (fun _ => rfl) ?_
        simp only [Act.put, List.setIfInBounds_toArray, List.set_cons_zero, List.set_cons_succ]
        refine wl_val (.bool true) rfl (fun w => run_cmp (b := true) rfl rfl rfl Try.underlying3 (by simp [cmpOf]) w) ?_
        simp only [Act.put, List.setIfInBounds_toArray, List.set_cons_zero, List.set_cons_succ]
        refine wl_val (.bool true) rfl (fun _ => rfl) ?_
        simp only [Act.put, List.setIfInBounds_toArray, List.set_cons_zero, List.set_cons_succ]
        refine wl_val (.bool (hasId H x H.length)) rfl (fun _ => rfl) ?_
        simp only [Act.put, List.setIfInBounds_toArray, List.set_cons_zero, List.set_cons_succ]
        refine wl_val (.bool (hasId H x H.length)) rfl (fun _ => rfl) ?_
        simp only [Act.put, List.setIfInBounds_toArray, List.set_cons_zero, List.set_cons_succ]
        refine wl_val (.bool true) rfl (fun w => run_beq rfl rfl rfl Try.underlying4 (by cases (hasId H x H.length) <;> rfl) w) ?_
        simp only [Act.put, List.setIfInBounds_toArray, List.set_cons_zero, List.set_cons_succ]
        refine wl_val (.bool true) rfl (fun _ => rfl) ?_
        simp only [Act.put, List.setIfInBounds_toArray, List.set_cons_zero, List.set_cons_succ]
        refine wl_val (.bool true) rfl (fun _ => rfl) ?_
        simp only [Act.put, List.setIfInBounds_toArray, List.set_cons_zero, List.set_cons_succ]
        refine wl_nil ?_
        refine we_then ?_
        refine wc_ret ?_
        refine we_ret1 (.bool true) rfl rfl rfl (fun w1 hE => ?_)
        exact ⟨rfl, hE.below⟩
      · skip
        have p5 : (i : Int) < (H.length : Int) := of_decide_eq_true h5
        refine wc_true rfl ?_
        refine wc_skip ?_
        refine we_then ?_
        refine wc_seq ?_
        refine wc_block ?_
        refine wc_seq ?_
        refine wc_region ?_
        refine wl_read (eaddr q (i * 5)) rfl (er_index i 5 (sl_old hH) rfl rfl rfl rfl (by omega) (flat_length (enc := gp) (size := 5) (fun _ => rfl) _) (by decide) Try.underlying23 (by kernel_rfl)) ?_
        simp only [Act.put, List.setIfInBounds_toArray, List.set_cons_zero, List.set_cons_succ]
        refine wl_read (.agg #[.int .i64 ((H[i]!).id), .int .i64 ((H[i]!).seg), .int .i64 ((H[i]!).off), .int .i64 ((H[i]!).acc), .int .i64 ((H[i]!).slack)]) rfl (er_part (i * 5) [.int .i64 ((H[i]!).id), .int .i64 ((H[i]!).seg), .int .i64 ((H[i]!).off), .int .i64 ((H[i]!).acc), .int .i64 ((H[i]!).slack)] (sl_old hH) rfl rfl (flat_part (enc := gp) (fun _ => rfl) H i (by omega)) (Nat.zero_lt_succ _) Try.underlying41 rfl (by kernel_rfl)) ?_
        simp only [Act.put, List.setIfInBounds_toArray, List.set_cons_zero, List.set_cons_succ]
        refine wl_new 41 (#[.int .i64 0, .int .i64 0, .int .i64 0, .int .i64 0, .int .i64 0]) rfl (fun _ => by go_simp) ?_
        intro g6
        simp only [Act.put, List.setIfInBounds_toArray, List.set_cons_zero, List.set_cons_succ]
        refine wl_store 0 41 (.tmp 12) (.tmp 37) (#[.int .i64 ((H[i]!).id), .int .i64 ((H[i]!).seg), .int .i64 ((H[i]!).off), .int .i64 ((H[i]!).acc), .int .i64 ((H[i]!).slack)]) rfl rfl rfl rfl rfl (by kernel_rfl) rfl (by simp [Value.oneCell']) ?_
        simp only [Act.put, List.set_cons_zero]
        refine wl_nil ?_
        refine we_then ?_
        refine wc_seq ?_
        refine wc_seq ?_
        refine wc_region ?_
        refine wl_val (.pointer (some ⟨g6, 0, none⟩)) rfl (fun _ => by go_simp) ?_
        simp only [Act.put, List.setIfInBounds_toArray, List.set_cons_zero, List.set_cons_succ]
        refine wl_cell 3 (.tmp 38) (.int .i64 ((H[i]!).id)) (own_row 0 rfl) rfl rfl rfl rfl Try.isAgg3 ?_
        simp only [Act.put, List.setIfInBounds_toArray, List.set_cons_zero, List.set_cons_succ]
        refine wl_val (.int .i64 x) rfl (fun _ => rfl) ?_
        simp only [Act.put, List.setIfInBounds_toArray, List.set_cons_zero, List.set_cons_succ]
        refine wl_val (.bool (decide ((H[i]!).id < x))) rfl (fun w => run_cmp rfl rfl rfl Try.underlying3 rfl w) ?_
        simp only [Act.put, List.setIfInBounds_toArray, List.set_cons_zero, List.set_cons_succ]
        refine wl_nil ?_
        refine we_then ?_
        cases h7 : (decide ((H[i]!).id < x))
        · skip
          have p7 : ¬ ((H[i]!).id < x) := of_decide_eq_false h7
          refine wc_false rfl ?_
          refine wc_skip ?_
          refine we_then ?_
          refine wc_region ?_
          refine wl_val (.bool f) rfl (fun _ => rfl) ?_
          simp only [Act.put, List.setIfInBounds_toArray, List.set_cons_zero, List.set_cons_succ]
          refine wl_val (.bool f) rfl (fun _ => rfl) ?_
          simp only [Act.put, List.setIfInBounds_toArray, List.set_cons_zero, List.set_cons_succ]
          cases h8 : (f)
          · skip
            refine wl_val (.pointer (some ⟨g6, 0, none⟩)) rfl (fun _ => by go_simp) ?_
            simp only [Act.put, List.setIfInBounds_toArray, List.set_cons_zero, List.set_cons_succ]
            refine wl_cell 3 (.tmp 46) (.int .i64 ((H[i]!).id)) (own_row 0 rfl) rfl rfl rfl rfl Try.isAgg3 ?_
            simp only [Act.put, List.setIfInBounds_toArray, List.set_cons_zero, List.set_cons_succ]
            refine wl_val (.int .i64 x) rfl (fun _ => rfl) ?_
            simp only [Act.put, List.setIfInBounds_toArray, List.set_cons_zero, List.set_cons_succ]
            refine wl_val (.bool (((H[i]!).id) == x)) rfl (fun w => run_cmp rfl rfl rfl Try.underlying3 rfl w) ?_
            simp only [Act.put, List.setIfInBounds_toArray, List.set_cons_zero, List.set_cons_succ]
            refine wl_val (.bool (((H[i]!).id) == x)) rfl (fun _ => rfl) ?_
            simp only [Act.put, List.setIfInBounds_toArray, List.set_cons_zero, List.set_cons_succ]
            refine wl_val (.bool (((H[i]!).id) == x)) rfl (fun _ => rfl) ?_
            simp only [Act.put, List.setIfInBounds_toArray, List.set_cons_zero, List.set_cons_succ]
            refine wl_nil ?_
            refine we_in ?_
            refine we_then ?_
            refine wc_region ?_
            refine wl_val (.int .i64 ((i + 1 : Nat) : Int)) rfl (fun w => run_nat (X := i) (Y := 1) (Z := i + 1) rfl rfl rfl rfl (by omega) w) ?_
            simp only [Act.put, List.setIfInBounds_toArray, List.set_cons_zero, List.set_cons_succ]
            refine wl_val (.int .i64 ((i + 1 : Nat) : Int)) rfl (fun _ => rfl) ?_
            simp only [Act.put, List.setIfInBounds_toArray, List.set_cons_zero, List.set_cons_succ]
            refine wl_nil ?_
            exact we_meet ⟨(i + 1), n, ((H[i]!).id == x), _, _, _, _, _, _, _, _, _, _, _, _, _, _, _, _, _, _⟩ (by (try dsimp only); exact ⟨⟨by omega, cnt_no b2 (by omega), has_no b3 h8⟩, by omega⟩) rfl (List.Sublist.cons _ (List.Sublist.cons_cons _ (List.Sublist.refl _)))
          · skip
            refine wl_skip rfl ?_
            simp only [Act.put, List.setIfInBounds_toArray, List.set_cons_zero, List.set_cons_succ]
            refine wl_skip rfl ?_
            simp only [Act.put, List.setIfInBounds_toArray, List.set_cons_zero, List.set_cons_succ]
            refine wl_skip rfl ?_
            simp only [Act.put, List.setIfInBounds_toArray, List.set_cons_zero, List.set_cons_succ]
            refine wl_skip rfl ?_
            simp only [Act.put, List.setIfInBounds_toArray, List.set_cons_zero, List.set_cons_succ]
            refine wl_val (.bool true) rfl (fun _ => rfl) ?_
            simp only [Act.put, List.setIfInBounds_toArray, List.set_cons_zero, List.set_cons_succ]
            refine wl_val (.bool true) rfl (fun _ => rfl) ?_
            simp only [Act.put, List.setIfInBounds_toArray, List.set_cons_zero, List.set_cons_succ]
            refine wl_nil ?_
            refine we_in ?_
            refine we_then ?_
            refine wc_region ?_
            refine wl_val (.int .i64 ((i + 1 : Nat) : Int)) rfl (fun w => run_nat (X := i) (Y := 1) (Z := i + 1) rfl rfl rfl rfl (by omega) w) ?_
            simp only [Act.put, List.setIfInBounds_toArray, List.set_cons_zero, List.set_cons_succ]
            refine wl_val (.int .i64 ((i + 1 : Nat) : Int)) rfl (fun _ => rfl) ?_
            simp only [Act.put, List.setIfInBounds_toArray, List.set_cons_zero, List.set_cons_succ]
            refine wl_nil ?_
            exact we_meet ⟨(i + 1), n, true, _, _, _, _, _, _, _, _, _, _, _, _, _, _, _, _, _, _⟩ (by (try dsimp only); exact ⟨⟨by omega, cnt_no b2 (by omega), has_yes b3 h8⟩, by omega⟩) rfl (List.Sublist.cons _ (List.Sublist.cons_cons _ (List.Sublist.refl _)))
        · skip
          have p7 : (H[i]!).id < x := of_decide_eq_true h7
          refine wc_true rfl ?_
          refine wc_region ?_
          refine wl_val (.int .i64 (n : Int)) rfl (fun _ => rfl) ?_
          simp only [Act.put, List.setIfInBounds_toArray, List.set_cons_zero, List.set_cons_succ]
          refine wl_val (.int .i64 ((n + 1 : Nat) : Int)) rfl (fun w => run_nat (X := n) (Y := 1) (Z := n + 1) rfl rfl rfl rfl (by omega) w) ?_
          simp only [Act.put, List.setIfInBounds_toArray, List.set_cons_zero, List.set_cons_succ]
          refine wl_val (.int .i64 ((n + 1 : Nat) : Int)) rfl (fun _ => rfl) ?_
          simp only [Act.put, List.setIfInBounds_toArray, List.set_cons_zero, List.set_cons_succ]
          refine wl_nil ?_
          refine we_then ?_
          refine wc_region ?_
          refine wl_val (.bool f) rfl (fun _ => rfl) ?_
          simp only [Act.put, List.setIfInBounds_toArray, List.set_cons_zero, List.set_cons_succ]
          refine wl_val (.bool f) rfl (fun _ => rfl) ?_
          simp only [Act.put, List.setIfInBounds_toArray, List.set_cons_zero, List.set_cons_succ]
          cases h9 : (f)
          · skip
            refine wl_val (.pointer (some ⟨g6, 0, none⟩)) rfl (fun _ => by go_simp) ?_
            simp only [Act.put, List.setIfInBounds_toArray, List.set_cons_zero, List.set_cons_succ]
            refine wl_cell 3 (.tmp 46) (.int .i64 ((H[i]!).id)) (own_row 0 rfl) rfl rfl rfl rfl Try.isAgg3 ?_
            simp only [Act.put, List.setIfInBounds_toArray, List.set_cons_zero, List.set_cons_succ]
            refine wl_val (.int .i64 x) rfl (fun _ => rfl) ?_
            simp only [Act.put, List.setIfInBounds_toArray, List.set_cons_zero, List.set_cons_succ]
            refine wl_val (.bool (((H[i]!).id) == x)) rfl (fun w => run_cmp rfl rfl rfl Try.underlying3 rfl w) ?_
            simp only [Act.put, List.setIfInBounds_toArray, List.set_cons_zero, List.set_cons_succ]
            refine wl_val (.bool (((H[i]!).id) == x)) rfl (fun _ => rfl) ?_
            simp only [Act.put, List.setIfInBounds_toArray, List.set_cons_zero, List.set_cons_succ]
            refine wl_val (.bool (((H[i]!).id) == x)) rfl (fun _ => rfl) ?_
            simp only [Act.put, List.setIfInBounds_toArray, List.set_cons_zero, List.set_cons_succ]
            refine wl_nil ?_
            refine we_in ?_
            refine we_then ?_
            refine wc_region ?_
            refine wl_val (.int .i64 ((i + 1 : Nat) : Int)) rfl (fun w => run_nat (X := i) (Y := 1) (Z := i + 1) rfl rfl rfl rfl (by omega) w) ?_
            simp only [Act.put, List.setIfInBounds_toArray, List.set_cons_zero, List.set_cons_succ]
            refine wl_val (.int .i64 ((i + 1 : Nat) : Int)) rfl (fun _ => rfl) ?_
            simp only [Act.put, List.setIfInBounds_toArray, List.set_cons_zero, List.set_cons_succ]
            refine wl_nil ?_
            exact we_meet ⟨(i + 1), (n + 1), ((H[i]!).id == x), _, _, _, _, _, _, _, _, _, _, _, _, _, _, _, _, _, _⟩ (by (try dsimp only); exact ⟨⟨by omega, cnt_yes b2 (by omega), has_no b3 h9⟩, by omega⟩) rfl (List.Sublist.cons _ (List.Sublist.cons_cons _ (List.Sublist.refl _)))
          · skip
            refine wl_skip rfl ?_
            simp only [Act.put, List.setIfInBounds_toArray, List.set_cons_zero, List.set_cons_succ]
            refine wl_skip rfl ?_
            simp only [Act.put, List.setIfInBounds_toArray, List.set_cons_zero, List.set_cons_succ]
            refine wl_skip rfl ?_
            simp only [Act.put, List.setIfInBounds_toArray, List.set_cons_zero, List.set_cons_succ]
            refine wl_skip rfl ?_
            simp only [Act.put, List.setIfInBounds_toArray, List.set_cons_zero, List.set_cons_succ]
            refine wl_val (.bool true) rfl (fun _ => rfl) ?_
            simp only [Act.put, List.setIfInBounds_toArray, List.set_cons_zero, List.set_cons_succ]
            refine wl_val (.bool true) rfl (fun _ => rfl) ?_
            simp only [Act.put, List.setIfInBounds_toArray, List.set_cons_zero, List.set_cons_succ]
            refine wl_nil ?_
            refine we_in ?_
            refine we_then ?_
            refine wc_region ?_
            refine wl_val (.int .i64 ((i + 1 : Nat) : Int)) rfl (fun w => run_nat (X := i) (Y := 1) (Z := i + 1) rfl rfl rfl rfl (by omega) w) ?_
            simp only [Act.put, List.setIfInBounds_toArray, List.set_cons_zero, List.set_cons_succ]
            refine wl_val (.int .i64 ((i + 1 : Nat) : Int)) rfl (fun _ => rfl) ?_
            simp only [Act.put, List.setIfInBounds_toArray, List.set_cons_zero, List.set_cons_succ]
            refine wl_nil ?_
            exact we_meet ⟨(i + 1), (n + 1), true, _, _, _, _, _, _, _, _, _, _, _, _, _, _, _, _, _, _⟩ (by (try dsimp only); exact ⟨⟨by omega, cnt_yes b2 (by omega), has_yes b3 h9⟩, by omega⟩) rfl (List.Sublist.cons _ (List.Sublist.cons_cons _ (List.Sublist.refl _)))
    · skip
      have p4 : (((chk G H).1 : Nat) : Int) ≠ 0 := by simpa using h4
      refine wc_true rfl ?_
      refine wc_seq ?_
      refine wc_region ?_
      refine wl_val (.bool true) rfl (fun _ => rfl) ?_
      simp only [Act.put, List.setIfInBounds_toArray, List.set_cons_zero, List.set_cons_succ]
      refine wl_nil ?_
      refine we_then ?_
      refine wc_ret ?_
      refine we_then_ret ?_
      refine we_ret1 (.bool true) rfl rfl rfl (fun w1 hE => ?_)
      exact ⟨rfl, hE.below⟩
  · skip
    refine wc_true rfl ?_
    refine wc_seq ?_
    refine wc_region ?_
    refine wl_val (.bool true) rfl (fun _ => rfl) ?_
    simp only [Act.put, List.setIfInBounds_toArray, List.set_cons_zero, List.set_cons_succ]
    refine wl_nil ?_
    refine we_then ?_
    refine wc_ret ?_
    refine we_then_ret ?_
    refine we_ret1 (.bool true) rfl rfl rfl (fun w1 hE => ?_)
    exact ⟨rfl, hE.below⟩
end Go.Proofs.Ytdkahonmblnlgaa.Walks
