/-
  RouteGrows: the law's walk. No condition.
-/
import Derived.Test.YtkbaponpebkpiaaRtlw
namespace Go.Proofs.Ytkbaponpebkpiaa.Walks
open Go.ChangeShapes Go.WideShapes Go.ChangeAt Go.RowKit
open Arr Steady Sx Sw Sl Sb Sc Si Sj Sk Sh Vs Gr Tk Tkh Tkl Rt Rtm Rtg Rtp Rtk Rts Tkrefs14 Rtla Rtsm Shh Sfn Rtlb Rtlc
set_option linter.unusedVariables false
set_option linter.unusedSimpArgs false
set_option maxRecDepth 100000

set_option maxHeartbeats 8000000 in
theorem routeGrows_walk (G : List Sg) (H : List Gp) (p q : Option Addr) (c d : Nat) (s : Int) (ws : (Lit.int .i64 s).wf = true) (f : Int) (wf : (Lit.int .i64 f).wf = true) (L : Spans) (lp : Option Addr) (lc : Nat) (w : World) (hS : Reads w p (flat sg G)) (hG : OkS w G) (hH : Reads w q (flat gp H)) (hn : G.length ≤ 140737488355328) (hm : H.length ≤ 140737488355328) (hcc : G.length ≤ c) (hcd : H.length ≤ d) (hC : ∀ s ∈ G, s.X.length ≤ s.nc) (hL : Reads w lp (flat enc2 L)) (hF : FitL L) :
    Calls Try.prog 3 #[.agg #[.slice p G.length c, .slice q H.length d], .int .i64 s, .int .i64 f, .slice lp L.length lc] w fun e w' => e = .returned (.bool true) ∧ Below w.heap.size w w' := by
  refine calls_sx Try.func3 rfl ?_
  simp only [Try.ntmps3, List.size_toArray, List.length_cons, List.length_nil, Nat.reduceAdd, Nat.reduceSub, Array.replicate_succ, Array.replicate_zero, List.push_toArray, List.append_toArray, List.nil_append, List.cons_append]
  refine wc_seq ?_
  refine wc_region ?_
  refine wl_new 25 (#[.slice p G.length c, .slice q H.length d]) rfl (fun _ => by go_simp) ?_
  intro g1
  simp only [Act.put, Xa, Xz, Xs]
  refine wl_val (.bool false) rfl (fun _ => rfl) ?_
  simp only [Act.put, Xa, Xz, Xs]
  refine wl_nil ?_
  refine we_then ?_
  refine wc_seq ?_
  refine wc_seq ?_
  refine wc_region ?_
  refine wl_call 7 #[] (.bool true) rfl (fun _ => by go_simp) (fun W => Rtlw.anchor_any W) ?_
  simp only [Act.put, Xa, Xz, Xs]
  refine wl_val (.bool false) rfl (fun _ => by go_simp) ?_
  simp only [Act.put, Xa, Xz, Xs]
  refine wl_nil ?_
  refine we_then ?_
  refine wc_false rfl ?_
  refine wc_skip ?_
  refine we_then ?_
  refine wc_seq ?_
  refine wc_seq ?_
  refine wc_region ?_
  refine wl_load 25 (.tmp 4) (own_row 0 rfl) rfl rfl rfl Try.underlying25 rfl (by kernel_rfl) ?_
  simp only [Act.put, Xa, Xz, Xs]
  refine wl_val (.int .i64 s) rfl (fun _ => rfl) ?_
  simp only [Act.put, Xa, Xz, Xs]
  refine wl_val (.int .i64 f) rfl (fun _ => rfl) ?_
  simp only [Act.put, Xa, Xz, Xs]
  refine wl_call_at 8 #[.agg #[.slice p G.length c, .slice q H.length d], .int .i64 s, .int .i64 f] (.bool (mayT G H s f)) rfl (fun _ => by go_simp) (fun W hE => may_any s f G H _ _ _ _ W ((sl_old hS) W hE) (oks_below hG hE.below) ((sl_old hH) W hE) hn hm) ?_
  simp only [Act.put, Xa, Xz, Xs]
  refine wl_val (.bool (!(mayT G H s f))) rfl (fun _ => by go_simp) ?_
  simp only [Act.put, Xa, Xz, Xs]
  refine wl_val (.bool (!(mayT G H s f))) rfl (fun _ => rfl) ?_
  simp only [Act.put, Xa, Xz, Xs]
  cases h2 : (mayT G H s f)
  · skip
    refine wl_skip rfl ?_
    simp only [Act.put, Xa, Xz, Xs]
    refine wl_skip rfl ?_
    simp only [Act.put, Xa, Xz, Xs]
    refine wl_skip rfl ?_
    simp only [Act.put, Xa, Xz, Xs]
    refine wl_val (.bool true) rfl (fun _ => rfl) ?_
    simp only [Act.put, Xa, Xz, Xs]
    refine wl_nil ?_
    refine we_then ?_
    refine wc_true rfl ?_
    refine wc_seq ?_
    refine wc_region ?_
    refine wl_val (.bool true) rfl (fun _ => rfl) ?_
    simp only [Act.put, Xa, Xz, Xs]
    refine wl_nil ?_
    refine we_then ?_
    refine wc_ret ?_
    refine we_then_ret ?_
    refine we_ret1 (.bool true) rfl rfl rfl (fun w1 hE => ?_)
    exact ⟨rfl, hE.below⟩
  · skip
    refine wl_val (.slice lp L.length lc) rfl (fun _ => rfl) ?_
    simp only [Act.put, Xa, Xz, Xs]
    refine wl_val (.int .i64 (L.length : Int)) rfl (fun w => er_len rfl rfl Try.underlying26 w) ?_
    simp only [Act.put, Xa, Xz, Xs]
    refine wl_val (.bool (decide (20 < (L.length : Int)))) rfl (fun w => run_cmp rfl rfl rfl Try.underlying3 rfl w) ?_
    simp only [Act.put, Xa, Xz, Xs]
    refine wl_val (.bool (decide (20 < (L.length : Int)))) rfl (fun _ => rfl) ?_
    simp only [Act.put, Xa, Xz, Xs]
    refine wl_nil ?_
    refine we_then ?_
    cases h3 : (decide (20 < (L.length : Int)))
    · skip
      have p3 : ¬ (20 < (L.length : Int)) := of_decide_eq_false h3
      refine wc_false rfl ?_
      refine wc_skip ?_
      refine we_then ?_
      refine wc_seq ?_
      have hmt := mayT_of h2
      have hM := hmt.1
      have hs := hmt.2.1
      have hf := hmt.2.2
      have hlen := (hM.segs s.toNat (by omega)).high
      refine wc_region ?_
      refine wl_load 25 (.tmp 4) (own_row 0 rfl) rfl rfl rfl Try.underlying25 rfl (by kernel_rfl) ?_
      simp only [Act.put, Xa, Xz, Xs]
      refine wl_val (.int .i64 s) rfl (fun _ => rfl) ?_
      simp only [Act.put, Xa, Xz, Xs]
      refine wl_val (.int .i64 f) rfl (fun _ => rfl) ?_
      simp only [Act.put, Xa, Xz, Xs]
      refine wl_val (.slice lp L.length lc) rfl (fun _ => rfl) ?_
      simp only [Act.put, Xa, Xz, Xs]
      refine wl_call_open (ι := Stz) (fun zz => match zz with | zk4 => ⟨g1, #[.slice p G.length c, .slice q H.length d], 25⟩ :: zk4.N) 9 #[.agg #[.slice p G.length c, .slice q H.length d], .int .i64 s, .int .i64 f, .slice lp L.length lc] (fun zz => match zz with | zk4 => .tuple #[.agg #[.int .i64 f, .slice zk4.pp zk4.O.length zk4.pc], .agg #[.int .i64 f, .slice zk4.tp zk4.O.length zk4.tc], .bool true]) (fun zz => match zz with | zk4 => zk4.N) (fun zz => match zz with | zk4 => StzOk G s f zk4) (by rintro zk4; simp) rfl (fun _ => by go_simp) (fun W hE => steps_any s f L _ _ G H _ _ _ _ W ((sl_old hS) W hE) (oks_below hG hE.below) ((sl_old hH) W hE) hn hm hM hs hf ((sl_old hL) W hE) hF (by omega) hC) ?_
      rintro zk4 k4
      (try dsimp only)
      have ok9 := k4.set
      have ok8 : zk4.O.length ≤ 16 := by have := ok9.few; rwa [xs_len] at this
      simp only [Act.put, Xa, Xz, Xs]
      refine wl_val (.tuple #[.agg #[.int .i64 f, .slice zk4.pp zk4.O.length zk4.pc], .agg #[.int .i64 f, .slice zk4.tp zk4.O.length zk4.tc], .bool true]) rfl (fun _ => rfl) ?_
      simp only [Act.put, Xa, Xz, Xs]
      refine wl_val (.agg #[.int .i64 f, .slice zk4.pp zk4.O.length zk4.pc]) rfl (fun _ => by go_simp) ?_
      simp only [Act.put, Xa, Xz, Xs]
      refine wl_val (.agg #[.int .i64 f, .slice zk4.tp zk4.O.length zk4.tc]) rfl (fun _ => by go_simp) ?_
      simp only [Act.put, Xa, Xz, Xs]
      refine wl_val (.bool true) rfl (fun _ => by go_simp) ?_
      simp only [Act.put, Xa, Xz, Xs]
      refine wl_new 31 (#[.int .i64 0, .slice none 0 0]) rfl (fun _ => by go_simp) ?_
      intro g5
      simp only [Act.put, Xa, Xz, Xs]
      refine wl_new 34 (#[.int .i64 0, .slice none 0 0]) rfl (fun _ => by go_simp) ?_
      intro g6
      simp only [Act.put, Xa, Xz, Xs]
      refine wl_store 1 31 (.tmp 9) (.tmp 32) (#[.int .i64 f, .slice zk4.pp zk4.O.length zk4.pc]) rfl rfl rfl rfl rfl (by kernel_rfl) rfl (by simp [Value.oneCell']) ?_
      simp only [Act.put, List.set_cons_zero, List.set_cons_succ]
      refine wl_store 0 34 (.tmp 10) (.tmp 33) (#[.int .i64 f, .slice zk4.tp zk4.O.length zk4.tc]) rfl rfl rfl rfl rfl (by kernel_rfl) rfl (by simp [Value.oneCell']) ?_
      simp only [Act.put, List.set_cons_zero]
      refine wl_val (.bool true) rfl (fun _ => rfl) ?_
      simp only [Act.put, Xa, Xz, Xs]
      refine wl_nil ?_
      refine we_then ?_
      refine wc_seq ?_
      refine wc_seq ?_
      refine wc_region ?_
      refine wl_val (.bool true) rfl (fun _ => rfl) ?_
      simp only [Act.put, Xa, Xz, Xs]
      refine wl_val (.bool false) rfl (fun _ => by go_simp) ?_
      simp only [Act.put, Xa, Xz, Xs]
      refine wl_nil ?_
      refine we_then ?_
      refine wc_false rfl ?_
      refine wc_skip ?_
      refine we_then ?_
      refine wc_seq ?_
      refine wc_seq ?_
      refine wc_region ?_
      refine wl_val (.pointer (some ⟨g5, 1, none⟩)) rfl (fun _ => by go_simp) ?_
      simp only [Act.put, Xa, Xz, Xs]
      refine wl_cell 29 (.tmp 37) (.slice zk4.pp zk4.O.length zk4.pc) (own_row 1 rfl) rfl rfl rfl rfl Try.isAgg29 ?_
      simp only [Act.put, Xa, Xz, Xs]
      refine wl_val (.int .i64 (zk4.O.length : Int)) rfl (fun w => er_len rfl rfl Try.underlying29 w) ?_
      simp only [Act.put, Xa, Xz, Xs]
      refine wl_val (.int .i64 0) rfl (fun _ => rfl) ?_
      simp only [Act.put, Xa, Xz, Xs]
      refine wl_nil ?_
      refine we_then ?_
      refine wc_block ?_
      refine wc_loop (fun (zz : Nat × Value × Value × Value × Value × Value × Value × Value × Value × Value × Value × Value × Value × Value × Value × Value × Value × Value × Value × Value × Value × Value × Value) => match zz with | ⟨i, u8, u12, u13, u41, u42, u43, u44, u45, u46, u47, u48, u49, u50, u51, u52, u53, u54, u55, u56, u57, u58, u59⟩ => ({ tmps := #[.agg #[.slice p G.length c, .slice q H.length d], .int .i64 s, .int .i64 f, .slice lp L.length lc, .pointer (some ⟨g1, 0, none⟩), undef, undef, undef, u8, .pointer (some ⟨g5, 0, none⟩), .pointer (some ⟨g6, 0, none⟩), .bool true, u12, u13, .bool true, .bool false, .agg #[.slice p G.length c, .slice q H.length d], .int .i64 s, .int .i64 f, .bool true, .bool false, .bool false, .slice lp L.length lc, .int .i64 (L.length : Int), .bool false, .bool false, .tuple #[.agg #[.int .i64 f, .slice zk4.pp zk4.O.length zk4.pc], .agg #[.int .i64 f, .slice zk4.tp zk4.O.length zk4.tc], .bool true], .agg #[.slice p G.length c, .slice q H.length d], .int .i64 s, .int .i64 f, .slice lp L.length lc, .tuple #[.agg #[.int .i64 f, .slice zk4.pp zk4.O.length zk4.pc], .agg #[.int .i64 f, .slice zk4.tp zk4.O.length zk4.tc], .bool true], .agg #[.int .i64 f, .slice zk4.pp zk4.O.length zk4.pc], .agg #[.int .i64 f, .slice zk4.tp zk4.O.length zk4.tc], .bool true, .bool true, .bool false, .pointer (some ⟨g5, 1, none⟩), .slice zk4.pp zk4.O.length zk4.pc, .int .i64 (zk4.O.length : Int), .int .i64 (i : Int), u41, u42, u43, u44, u45, u46, u47, u48, u49, u50, u51, u52, u53, u54, u55, u56, u57, u58, u59], defers := [] } : Act)) (fun (zz : Nat × Value × Value × Value × Value × Value × Value × Value × Value × Value × Value × Value × Value × Value × Value × Value × Value × Value × Value × Value × Value × Value × Value) => match zz with | ⟨i, u8, u12, u13, u41, u42, u43, u44, u45, u46, u47, u48, u49, u50, u51, u52, u53, u54, u55, u56, u57, u58, u59⟩ => ⟨g6, #[.int .i64 f, .slice zk4.tp zk4.O.length zk4.tc], 34⟩ :: ⟨g5, #[.int .i64 f, .slice zk4.pp zk4.O.length zk4.pc], 31⟩ :: ⟨g1, #[.slice p G.length c, .slice q H.length d], 25⟩ :: zk4.N) (fun (zz : Nat × Value × Value × Value × Value × Value × Value × Value × Value × Value × Value × Value × Value × Value × Value × Value × Value × Value × Value × Value × Value × Value × Value) => match zz with | ⟨i, u8, u12, u13, u41, u42, u43, u44, u45, u46, u47, u48, u49, u50, u51, u52, u53, u54, u55, u56, u57, u58, u59⟩ => i ≤ zk4.O.length) (fun (zz : Nat × Value × Value × Value × Value × Value × Value × Value × Value × Value × Value × Value × Value × Value × Value × Value × Value × Value × Value × Value × Value × Value × Value) => match zz with | ⟨i, u8, u12, u13, u41, u42, u43, u44, u45, u46, u47, u48, u49, u50, u51, u52, u53, u54, u55, u56, u57, u58, u59⟩ => zk4.O.length - i) ⟨0, _, _, _, _, _, _, _, _, _, _, _, _, _, _, _, _, _, _, _, _, _, _⟩ (by (try dsimp only); exact Nat.zero_le _) rfl (List.Sublist.cons_cons _ (List.Sublist.cons_cons _ (List.Sublist.cons_cons _ (List.Sublist.refl _)))) ?_
      rintro ⟨i, u8, u12, u13, u41, u42, u43, u44, u45, u46, u47, u48, u49, u50, u51, u52, u53, u54, u55, u56, u57, u58, u59⟩ hφ
      (try dsimp only at hφ ⊢)
      refine wc_seq ?_
      refine wc_region ?_
      refine wl_val (.bool (decide ((i : Int) < (zk4.O.length : Int)))) rfl (fun w => run_cmp rfl rfl rfl Try.underlying3 rfl w) ?_
      simp only [Act.put, Xa, Xz, Xs]
      refine wl_nil ?_
      refine we_then ?_
      refine wc_seq ?_
      cases h7 : (decide ((i : Int) < (zk4.O.length : Int)))
      · skip
        have p7 : ¬ ((i : Int) < (zk4.O.length : Int)) := of_decide_eq_false h7
        refine wc_false rfl ?_
        refine wc_exit ?_
        refine we_then_exit ?_
        refine we_then_exit ?_
        refine we_in_here ?_
        refine we_then ?_
        refine wc_seq ?_
        refine wc_region ?_
        refine wl_val (.bool true) rfl (fun _ => rfl) ?_
        simp only [Act.put, Xa, Xz, Xs]
        refine wl_nil ?_
        refine we_then ?_
        refine wc_ret ?_
        refine we_ret1 (.bool true) rfl rfl rfl (fun w1 hE => ?_)
        exact ⟨rfl, hE.below⟩
      · skip
        have p7 : (i : Int) < (zk4.O.length : Int) := of_decide_eq_true h7
        refine wc_true rfl ?_
        refine wc_skip ?_
        refine we_then ?_
        refine wc_seq ?_
        refine wc_block ?_
        refine wc_seq ?_
        refine wc_region ?_
        refine wl_val (.int .i64 (i : Int)) rfl (fun _ => rfl) ?_
        simp only [Act.put, Xa, Xz, Xs]
        refine wl_read (eaddr zk4.pp (i * 13)) rfl (er_index i 13 (sl_held k4.prog (List.Sublist.cons _ (List.Sublist.cons _ (List.Sublist.cons _ (List.Sublist.refl _))))) rfl rfl rfl rfl (by omega) (flat_length (enc := rti) (size := 13) (fun _ => rfl) _) (by decide) Try.underlying29 (by kernel_rfl)) ?_
        simp only [Act.put, Xa, Xz, Xs]
        refine wl_read (.agg #[.int .i64 (((zk4.O[i]!).X.length : Nat) : Int), .int .i64 (pad (zk4.O[i]!).X 0), .int .i64 (pad (zk4.O[i]!).X 1), .int .i64 (pad (zk4.O[i]!).X 2), .int .i64 (pad (zk4.O[i]!).X 3), .int .i64 (pad (zk4.O[i]!).X 4), .int .i64 (pad (zk4.O[i]!).X 5), .int .i64 (pad (zk4.O[i]!).X 6), .int .i64 (pad (zk4.O[i]!).X 7), .int .i64 (pad (zk4.O[i]!).X 8), .int .i64 (pad (zk4.O[i]!).X 9), .int .i64 (pad (zk4.O[i]!).X 10), .int .i64 (pad (zk4.O[i]!).X 11)]) rfl (er_part (i * 13) [.int .i64 (((zk4.O[i]!).X.length : Nat) : Int), .int .i64 (pad (zk4.O[i]!).X 0), .int .i64 (pad (zk4.O[i]!).X 1), .int .i64 (pad (zk4.O[i]!).X 2), .int .i64 (pad (zk4.O[i]!).X 3), .int .i64 (pad (zk4.O[i]!).X 4), .int .i64 (pad (zk4.O[i]!).X 5), .int .i64 (pad (zk4.O[i]!).X 6), .int .i64 (pad (zk4.O[i]!).X 7), .int .i64 (pad (zk4.O[i]!).X 8), .int .i64 (pad (zk4.O[i]!).X 9), .int .i64 (pad (zk4.O[i]!).X 10), .int .i64 (pad (zk4.O[i]!).X 11)] (sl_held k4.prog (List.Sublist.cons _ (List.Sublist.cons _ (List.Sublist.cons _ (List.Sublist.refl _))))) rfl rfl (flat_part (enc := rti) (fun _ => rfl) zk4.O i (by omega)) (Nat.zero_lt_succ _) Try.underlying39 rfl (by kernel_rfl)) ?_
        simp only [Act.put, Xa, Xz, Xs]
        refine wl_new 39 (#[.int .i64 0, .int .i64 0, .int .i64 0, .int .i64 0, .int .i64 0, .int .i64 0, .int .i64 0, .int .i64 0, .int .i64 0, .int .i64 0, .int .i64 0, .int .i64 0, .int .i64 0]) rfl (fun _ => by go_simp) ?_
        intro g8
        simp only [Act.put, Xa, Xz, Xs]
        refine wl_val (.int .i64 (i : Int)) rfl (fun _ => rfl) ?_
        simp only [Act.put, Xa, Xz, Xs]
        refine wl_store 0 39 (.tmp 13) (.tmp 44) (#[.int .i64 (((zk4.O[i]!).X.length : Nat) : Int), .int .i64 (pad (zk4.O[i]!).X 0), .int .i64 (pad (zk4.O[i]!).X 1), .int .i64 (pad (zk4.O[i]!).X 2), .int .i64 (pad (zk4.O[i]!).X 3), .int .i64 (pad (zk4.O[i]!).X 4), .int .i64 (pad (zk4.O[i]!).X 5), .int .i64 (pad (zk4.O[i]!).X 6), .int .i64 (pad (zk4.O[i]!).X 7), .int .i64 (pad (zk4.O[i]!).X 8), .int .i64 (pad (zk4.O[i]!).X 9), .int .i64 (pad (zk4.O[i]!).X 10), .int .i64 (pad (zk4.O[i]!).X 11)]) rfl rfl rfl rfl rfl (by kernel_rfl) rfl (by simp [Value.oneCell']) ?_
        simp only [Act.put, List.set_cons_zero]
        refine wl_nil ?_
        refine we_then ?_
        refine wc_seq ?_
        refine wc_draw_ghost (Γ := Cp) 5 12 #[.agg #[.slice p G.length c, .slice q H.length d]] (fun j9 => [false, false, false, false, false, true, false, false, false, false, false, false, true, true].getD j9 false) (fun j9 => [.agg #[.int .i64 f, .slice zk4.pp zk4.O.length zk4.pc], .agg #[.slice p G.length c, .slice q H.length d], .agg #[.int .i64 (((zk4.O[i]!).X.length : Nat) : Int), .int .i64 (pad (zk4.O[i]!).X 0), .int .i64 (pad (zk4.O[i]!).X 1), .int .i64 (pad (zk4.O[i]!).X 2), .int .i64 (pad (zk4.O[i]!).X 3), .int .i64 (pad (zk4.O[i]!).X 4), .int .i64 (pad (zk4.O[i]!).X 5), .int .i64 (pad (zk4.O[i]!).X 6), .int .i64 (pad (zk4.O[i]!).X 7), .int .i64 (pad (zk4.O[i]!).X 8), .int .i64 (pad (zk4.O[i]!).X 9), .int .i64 (pad (zk4.O[i]!).X 10), .int .i64 (pad (zk4.O[i]!).X 11)], .int .i64 (endR G f (zk4.O[i]!).X), .agg #[.slice p G.length c, .slice q H.length d], undef, .int .i64 f, .pointer (some ⟨g6, 1, none⟩), .slice zk4.tp zk4.O.length zk4.tc, .int .i64 (i : Int), eaddr zk4.tp (i * 1), .slice ((zk4.O[i]!).p) ((zk4.O[i]!).X.length) ((zk4.O[i]!).c), undef, undef].getD j9 undef) (fun zz => match zz with | zk9 => fun j9 => [undef, undef, undef, undef, undef, .agg #[.slice zk9.p zk9.K.length zk9.c, .slice zk9.q H.length zk9.d], undef, undef, undef, undef, undef, undef, .int .i64 (endR G f (zk4.O[i]!).X), .bool false].getD j9 undef) (fun zz => match zz with | zk9 => zk9.N) (fun zz => match zz with | zk9 => ⟨g8, #[.int .i64 (((zk4.O[i]!).X.length : Nat) : Int), .int .i64 (pad (zk4.O[i]!).X 0), .int .i64 (pad (zk4.O[i]!).X 1), .int .i64 (pad (zk4.O[i]!).X 2), .int .i64 (pad (zk4.O[i]!).X 3), .int .i64 (pad (zk4.O[i]!).X 4), .int .i64 (pad (zk4.O[i]!).X 5), .int .i64 (pad (zk4.O[i]!).X 6), .int .i64 (pad (zk4.O[i]!).X 7), .int .i64 (pad (zk4.O[i]!).X 8), .int .i64 (pad (zk4.O[i]!).X 9), .int .i64 (pad (zk4.O[i]!).X 10), .int .i64 (pad (zk4.O[i]!).X 11)], 39⟩ :: ⟨g6, #[.int .i64 f, .slice zk4.tp zk4.O.length zk4.tc], 34⟩ :: ⟨g5, #[.int .i64 f, .slice zk4.pp zk4.O.length zk4.pc], 31⟩ :: ⟨g1, #[.slice p G.length c, .slice q H.length d], 25⟩ :: (zk4.N ++ zk9.N)) (fun zz => match zz with | zk9 => CpOk G H zk9) 60 (by kernel_rfl) rfl (by kernel_rfl) (by kernel_rfl) rfl (by decide) (by rintro zk9; simp) (fun W hE => refs_open G H _ _ _ _ W ((sl_old hS) W hE) (oks_below hG hE.below) ((sl_old hH) W hE) (may_few hM).1 (may_few hM).2) ?_ ?_
        · intro z
          refine wg_load 31 (.tmp 9) (own_row 2 rfl) rfl rfl rfl rfl rfl Try.underlying31 rfl (by kernel_rfl) ?_
          simp only [Nat.reduceAdd, Act.put, Xa, Xz, Xs]
          refine wg_load 25 (.tmp 4) (own_row 3 rfl) rfl rfl rfl rfl rfl Try.underlying25 rfl (by kernel_rfl) ?_
          simp only [Nat.reduceAdd, Act.put, Xa, Xz, Xs]
          refine wg_load 39 (.tmp 13) (own_row 0 rfl) rfl rfl rfl rfl rfl Try.underlying39 rfl (by kernel_rfl) ?_
          simp only [Nat.reduceAdd, Act.put, Xa, Xz, Xs]
          refine wg_call_at 10 #[.agg #[.int .i64 f, .slice zk4.pp zk4.O.length zk4.pc], .agg #[.slice p G.length c, .slice q H.length d], .agg #[.int .i64 (((zk4.O[i]!).X.length : Nat) : Int), .int .i64 (pad (zk4.O[i]!).X 0), .int .i64 (pad (zk4.O[i]!).X 1), .int .i64 (pad (zk4.O[i]!).X 2), .int .i64 (pad (zk4.O[i]!).X 3), .int .i64 (pad (zk4.O[i]!).X 4), .int .i64 (pad (zk4.O[i]!).X 5), .int .i64 (pad (zk4.O[i]!).X 6), .int .i64 (pad (zk4.O[i]!).X 7), .int .i64 (pad (zk4.O[i]!).X 8), .int .i64 (pad (zk4.O[i]!).X 9), .int .i64 (pad (zk4.O[i]!).X 10), .int .i64 (pad (zk4.O[i]!).X 11)]] (.int .i64 (endR G f (zk4.O[i]!).X)) rfl rfl rfl (fun _ => by go_simp) (fun W hE => end_len G H _ _ _ _ s f zk4.O _ _ i W ((sl_old hS) W hE) (oks_below hG hE.below) ((sl_old hH) W hE) hM ok9 ((sl_held k4.prog (List.Sublist.cons _ (List.Sublist.cons _ (List.Sublist.cons _ (List.Sublist.cons _ (List.Sublist.refl _)))))) W hE) (by omega)) ?_
          simp only [Nat.reduceAdd, Act.put, Xa, Xz, Xs]
          refine wg_load 25 (.tmp 4) (own_row 3 rfl) rfl rfl rfl rfl rfl Try.underlying25 rfl (by kernel_rfl) ?_
          simp only [Nat.reduceAdd, Act.put, Xa, Xz, Xs]
          refine wg_own (z 5) rfl rfl rfl (fun _ => by go_simp) ?_
          simp only [Nat.reduceAdd, Act.put, Xa, Xz, Xs]
          refine wg_val (.int .i64 f) rfl rfl rfl (fun _ => rfl) ?_
          simp only [Nat.reduceAdd, Act.put, Xa, Xz, Xs]
          refine wg_val (.pointer (some ⟨g6, 1, none⟩)) rfl rfl rfl (fun _ => by go_simp) ?_
          simp only [Nat.reduceAdd, Act.put, Xa, Xz, Xs]
          refine wg_cell 32 (.tmp 52) (.slice zk4.tp zk4.O.length zk4.tc) (own_row 1 rfl) rfl rfl rfl rfl rfl rfl Try.isAgg32 ?_
          simp only [Nat.reduceAdd, Act.put, Xa, Xz, Xs]
          refine wg_val (.int .i64 (i : Int)) rfl rfl rfl (fun _ => rfl) ?_
          simp only [Nat.reduceAdd, Act.put, Xa, Xz, Xs]
          refine wg_read (eaddr zk4.tp (i * 1)) rfl rfl rfl (er_index i 1 (sl_held k4.ref (List.Sublist.cons _ (List.Sublist.cons _ (List.Sublist.cons _ (List.Sublist.cons _ (List.Sublist.refl _)))))) rfl rfl rfl rfl (by omega) (flat_length (enc := ix) (size := 1) (fun _ => rfl) _) (by decide) Try.underlying32 (by kernel_rfl)) ?_
          simp only [Nat.reduceAdd, Act.put, Xa, Xz, Xs]
          refine wg_read (.slice ((zk4.O[i]!).p) ((zk4.O[i]!).X.length) ((zk4.O[i]!).c)) rfl rfl rfl (er_cell (i * 1) (.slice ((zk4.O[i]!).p) ((zk4.O[i]!).X.length) ((zk4.O[i]!).c)) (sl_held k4.ref (List.Sublist.cons _ (List.Sublist.cons _ (List.Sublist.cons _ (List.Sublist.cons _ (List.Sublist.refl _)))))) rfl rfl (flat_cell (enc := ix) (fun _ => rfl) zk4.O i 0 (by omega) (by decide)) Try.isAgg47) ?_
          simp only [Nat.reduceAdd, Act.put, Xa, Xz, Xs]
          refine wg_pass (z 12) rfl rfl rfl ?_
          simp only [Nat.reduceAdd, Act.put, Xa, Xz, Xs]
          refine wg_pass (z 13) rfl rfl rfl ?_
          simp only [Nat.reduceAdd, Act.put, Xa, Xz, Xs]
          exact wg_nil trivial
        · rintro zk9 k9
          (try dsimp only)
          refine wg_pass (.agg #[.int .i64 f, .slice zk4.pp zk4.O.length zk4.pc]) rfl rfl rfl ?_
          simp only [Nat.reduceAdd, Act.put, Xa, Xz, Xs]
          refine wg_pass (.agg #[.slice p G.length c, .slice q H.length d]) rfl rfl rfl ?_
          simp only [Nat.reduceAdd, Act.put, Xa, Xz, Xs]
          refine wg_pass (.agg #[.int .i64 (((zk4.O[i]!).X.length : Nat) : Int), .int .i64 (pad (zk4.O[i]!).X 0), .int .i64 (pad (zk4.O[i]!).X 1), .int .i64 (pad (zk4.O[i]!).X 2), .int .i64 (pad (zk4.O[i]!).X 3), .int .i64 (pad (zk4.O[i]!).X 4), .int .i64 (pad (zk4.O[i]!).X 5), .int .i64 (pad (zk4.O[i]!).X 6), .int .i64 (pad (zk4.O[i]!).X 7), .int .i64 (pad (zk4.O[i]!).X 8), .int .i64 (pad (zk4.O[i]!).X 9), .int .i64 (pad (zk4.O[i]!).X 10), .int .i64 (pad (zk4.O[i]!).X 11)]) rfl rfl rfl ?_
          simp only [Nat.reduceAdd, Act.put, Xa, Xz, Xs]
          refine wg_pass (.int .i64 (endR G f (zk4.O[i]!).X)) rfl rfl rfl ?_
          simp only [Nat.reduceAdd, Act.put, Xa, Xz, Xs]
          refine wg_pass (.agg #[.slice p G.length c, .slice q H.length d]) rfl rfl rfl ?_
          simp only [Nat.reduceAdd, Act.put, Xa, Xz, Xs]
          refine wg_own (.agg #[.slice zk9.p zk9.K.length zk9.c, .slice zk9.q H.length zk9.d]) rfl rfl rfl (fun _ => by go_simp) ?_
          simp only [Nat.reduceAdd, Act.put, Xa, Xz, Xs]
          refine wg_pass (.int .i64 f) rfl rfl rfl ?_
          simp only [Nat.reduceAdd, Act.put, Xa, Xz, Xs]
          refine wg_pass (.pointer (some ⟨g6, 1, none⟩)) rfl rfl rfl ?_
          simp only [Nat.reduceAdd, Act.put, Xa, Xz, Xs]
          refine wg_pass (.slice zk4.tp zk4.O.length zk4.tc) rfl rfl rfl ?_
          simp only [Nat.reduceAdd, Act.put, Xa, Xz, Xs]
          refine wg_pass (.int .i64 (i : Int)) rfl rfl rfl ?_
          simp only [Nat.reduceAdd, Act.put, Xa, Xz, Xs]
          refine wg_pass (eaddr zk4.tp (i * 1)) rfl rfl rfl ?_
          simp only [Nat.reduceAdd, Act.put, Xa, Xz, Xs]
          refine wg_pass (.slice ((zk4.O[i]!).p) ((zk4.O[i]!).X.length) ((zk4.O[i]!).c)) rfl rfl rfl ?_
          simp only [Nat.reduceAdd, Act.put, Xa, Xz, Xs]
          refine wg_call_at 11 #[.agg #[.slice zk9.p zk9.K.length zk9.c, .slice zk9.q H.length zk9.d], .int .i64 f, .slice ((zk4.O[i]!).p) ((zk4.O[i]!).X.length) ((zk4.O[i]!).c)] (.int .i64 (endR G f (zk4.O[i]!).X)) rfl rfl rfl (fun _ => by go_simp) (fun W hE => by have x9 := Rtref.end_any f (zk4.O[i]!).X _ ((zk4.O[i]!).c) zk9.K H _ _ zk9.c zk9.d W (held_at k9.segs (List.Sublist.cons _ (List.Sublist.cons _ (List.Sublist.cons _ (List.Sublist.cons _ (List.sublist_append_of_sublist_right (List.Sublist.refl _)))))) hE) (k9.ok _ _ hG (hE.sub (List.Sublist.cons _ (List.Sublist.cons _ (List.Sublist.cons _ (List.Sublist.cons _ (List.sublist_append_of_sublist_right (List.Sublist.refl _)))))))) (held_at k9.grps (List.Sublist.cons _ (List.Sublist.cons _ (List.Sublist.cons _ (List.Sublist.cons _ (List.sublist_append_of_sublist_right (List.Sublist.refl _)))))) hE) (by rw [k9.same.length]; omega) (by omega) (segs_same k9.same hM.segs) ⟨hf.1, by omega⟩ ((sl_held (heldi_at k4.each (i := i) (by omega)) (List.Sublist.cons _ (List.Sublist.cons _ (List.Sublist.cons _ (List.Sublist.cons _ (List.sublist_append_left _ _)))))) W hE) (rtok_same k9.same (set_rt ok9 _ (get_mem (i := i) (by omega)))); rwa [endR_same k9.same] at x9) ?_
          simp only [Nat.reduceAdd, Act.put, Xa, Xz, Xs]
          refine wg_val (.bool false) rfl rfl rfl (fun w => run_cmp (b := false) rfl rfl rfl Try.underlying2 (by simp [cmpOf]) w) ?_
          simp only [Nat.reduceAdd, Act.put, Xa, Xz, Xs]
          refine wg_nil ?_
          refine we_then ?_
          refine wc_false rfl ?_
          refine wc_skip ?_
          refine we_in ?_
          refine we_then ?_
          refine wc_region ?_
          refine wl_val (.int .i64 ((i + 1 : Nat) : Int)) rfl (fun w => run_nat (X := i) (Y := 1) (Z := i + 1) rfl rfl rfl rfl (by omega) w) ?_
          simp only [Act.put, Xa, Xz, Xs]
          refine wl_val (.int .i64 ((i + 1 : Nat) : Int)) rfl (fun _ => rfl) ?_
          simp only [Act.put, Xa, Xz, Xs]
          refine wl_nil ?_
          exact we_meet ⟨(i + 1), _, _, _, _, _, _, _, _, _, _, _, _, _, _, _, _, _, _, _, _, _, _⟩ ⟨by (try dsimp only); omega, by (try dsimp only); omega⟩ rfl (List.Sublist.cons _ (List.Sublist.cons_cons _ (List.Sublist.cons_cons _ (List.Sublist.cons_cons _ (List.sublist_append_left _ _)))))
    · skip
      have p3 : 20 < (L.length : Int) := of_decide_eq_true h3
      refine wc_true rfl ?_
      refine wc_seq ?_
      refine wc_region ?_
      refine wl_val (.bool true) rfl (fun _ => rfl) ?_
      simp only [Act.put, Xa, Xz, Xs]
      refine wl_nil ?_
      refine we_then ?_
      refine wc_ret ?_
      refine we_then_ret ?_
      refine we_ret1 (.bool true) rfl rfl rfl (fun w1 hE => ?_)
      exact ⟨rfl, hE.below⟩
end Go.Proofs.Ytkbaponpebkpiaa.Walks
