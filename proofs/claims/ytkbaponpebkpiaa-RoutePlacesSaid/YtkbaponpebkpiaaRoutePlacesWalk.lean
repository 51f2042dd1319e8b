/-
 RoutePlaces: the law's walk. No condition.
-/
import Derived.Test.YtkbaponpebkpiaaRtlw
namespace Go.Proofs.Ytkbaponpebkpiaa.Walks
open Go.ChangeShapes Go.WideShapes Go.ChangeAt Go.RowKit
open Arr Steady Sx Sw Sl Sb Sc Si Sj Sk Sh Vs Gr Tk Tkh Tkl Rt Rtm Rtg Rtp Rtk Rts Tkrefs14 Rtla Rtsm Shh Sfn Rtlb Rtlc
set_option linter.unusedVariables false
set_option linter.unusedSimpArgs false
set_option maxRecDepth 100000

set_option maxHeartbeats 16000000 in
theorem routePlaces_walk (G : List Sg) (H : List Gp) (p q : Option Addr) (c d : Nat) (s : Int) (ws : (Lit.int .i64 s).wf = true) (f : Int) (wf : (Lit.int .i64 f).wf = true) (L : Spans) (lp : Option Addr) (lc : Nat) (gi : Int) (wgi : (Lit.int .i64 gi).wf = true) (w : World) (hS : Reads w p (flat sg G)) (hG : OkS w G) (hH : Reads w q (flat gp H)) (hn : G.length ≤ 140737488355328) (hm : H.length ≤ 140737488355328) (hcc : G.length ≤ c) (hcd : H.length ≤ d) (hC : ∀ s ∈ G, s.X.length ≤ s.nc) (hL : Reads w lp (flat enc2 L)) (hF : FitL L) :
  Calls Try.prog 4 #[.agg #[.slice p G.length c, .slice q H.length d], .int .i64 s, .int .i64 f, .slice lp L.length lc, .int .i64 gi] w fun e w' => e = .returned (.bool true) ∧ Below w.heap.size w w' := by
 refine calls_sx Try.func4 rfl ?_
 simp only [Try.ntmps4, List.size_toArray, List.length_cons, List.length_nil, Nat.reduceAdd, Nat.reduceSub, Array.replicate_succ, Array.replicate_zero, List.push_toArray, List.append_toArray, List.nil_append, List.cons_append]
 refine wc_seq ?_
 refine wc_region ?_
 refine wl_new 25 (#[.slice p G.length c, .slice q H.length d]) rfl (fun _ => by go_simp) ?_
 intro g1
 simp only [Act.put, Xa, Xz, Xs]
 refine wl_val (.bool false) rfl (fun _ => rfl) ?_
 simp only [Act.put, Xa, Xz, Xs]
 refine wl_nil ?_
 refine we_then ?_
 refine wc_seq ?_
 refine wc_seq ?_
 refine wc_region ?_
 refine wl_call 7 #[] (.bool true) rfl (fun _ => by go_simp) (fun W => Rtlw.anchor_any W) ?_
 simp only [Act.put, Xa, Xz, Xs]
 refine wl_val (.bool false) rfl (fun _ => by go_simp) ?_
 simp only [Act.put, Xa, Xz, Xs]
 refine wl_nil ?_
 refine we_then ?_
 refine wc_false rfl ?_
 refine wc_skip ?_
 refine we_then ?_
 refine wc_seq ?_
 refine wc_seq ?_
 refine wc_region ?_
 refine wl_load 25 (.tmp 5) (own_row 0 rfl) rfl rfl rfl Try.underlying25 rfl (by kernel_rfl) ?_
 simp only [Act.put, Xa, Xz, Xs]
 refine wl_val (.int .i64 s) rfl (fun _ => rfl) ?_
 simp only [Act.put, Xa, Xz, Xs]
 refine wl_val (.int .i64 f) rfl (fun _ => rfl) ?_
 simp only [Act.put, Xa, Xz, Xs]
 refine wl_call_at 8 #[.agg #[.slice p G.length c, .slice q H.length d], .int .i64 s, .int .i64 f] (.bool (mayT G H s f)) rfl (fun _ => by go_simp) (fun W hE => may_any s f G H _ _ _ _ W ((sl_old hS) W hE) (oks_below hG hE.below) ((sl_old hH) W hE) hn hm) ?_
 simp only [Act.put, Xa, Xz, Xs]
 refine wl_val (.bool (!(mayT G H s f))) rfl (fun _ => by go_simp) ?_
 simp only [Act.put, Xa, Xz, Xs]
 refine wl_val (.bool (!(mayT G H s f))) rfl (fun _ => rfl) ?_
 simp only [Act.put, Xa, Xz, Xs]
 cases h2 : (mayT G H s f)
 ·
  skip
  refine wl_skip rfl ?_
  simp only [Act.put, Xa, Xz, Xs]
  refine wl_skip rfl ?_
  simp only [Act.put, Xa, Xz, Xs]
  refine wl_skip rfl ?_
  simp only [Act.put, Xa, Xz, Xs]
  refine wl_val (.bool true) rfl (fun _ => rfl) ?_
  simp only [Act.put, Xa, Xz, Xs]
  refine wl_val (.bool true) rfl (fun _ => rfl) ?_
  simp only [Act.put, Xa, Xz, Xs]
  refine wl_skip rfl ?_
  simp only [Act.put, Xa, Xz, Xs]
  refine wl_skip rfl ?_
  simp only [Act.put, Xa, Xz, Xs]
  refine wl_skip rfl ?_
  simp only [Act.put, Xa, Xz, Xs]
  refine wl_val (.bool true) rfl (fun _ => rfl) ?_
  simp only [Act.put, Xa, Xz, Xs]
  refine wl_nil ?_
  refine we_then ?_
  refine wc_true rfl ?_
  refine wc_seq ?_
  refine wc_region ?_
  refine wl_val (.bool true) rfl (fun _ => rfl) ?_
  simp only [Act.put, Xa, Xz, Xs]
  refine wl_nil ?_
  refine we_then ?_
  refine wc_ret ?_
  refine we_then_ret ?_
  refine we_ret1 (.bool true) rfl rfl rfl (fun w1 hE => ?_)
  exact ⟨rfl, hE.below⟩
 ·
  skip
  refine wl_val (.slice lp L.length lc) rfl (fun _ => rfl) ?_
  simp only [Act.put, Xa, Xz, Xs]
  refine wl_val (.int .i64 (L.length : Int)) rfl (fun w => er_len rfl rfl Try.underlying26 w) ?_
  simp only [Act.put, Xa, Xz, Xs]
  refine wl_val (.bool (decide (20 < (L.length : Int)))) rfl (fun w => run_cmp rfl rfl rfl Try.underlying3 rfl w) ?_
  simp only [Act.put, Xa, Xz, Xs]
  refine wl_val (.bool (decide (20 < (L.length : Int)))) rfl (fun _ => rfl) ?_
  simp only [Act.put, Xa, Xz, Xs]
  refine wl_val (.bool (decide (20 < (L.length : Int)))) rfl (fun _ => rfl) ?_
  simp only [Act.put, Xa, Xz, Xs]
  cases h3 : (decide (20 < (L.length : Int)))
  ·
   skip
   have p3 : ¬ (20 < (L.length : Int)) := of_decide_eq_false h3
   refine wl_val (.slice lp L.length lc) rfl (fun _ => rfl) ?_
   simp only [Act.put, Xa, Xz, Xs]
   refine wl_val (.int .i64 (L.length : Int)) rfl (fun w => er_len rfl rfl Try.underlying26 w) ?_
   simp only [Act.put, Xa, Xz, Xs]
   refine wl_val (.bool ((L.length : Int) == 0)) rfl (fun w => run_cmp rfl rfl rfl Try.underlying3 rfl w) ?_
   simp only [Act.put, Xa, Xz, Xs]
   refine wl_val (.bool ((L.length : Int) == 0)) rfl (fun _ => rfl) ?_
   simp only [Act.put, Xa, Xz, Xs]
   refine wl_nil ?_
   refine we_then ?_
   cases h4 : ((L.length : Int) == 0)
   ·
    skip
    have p4 : ¬ ((L.length : Int) = 0) := by first | (simp; done) | (simp at h4; done) | simpa using h4
    refine wc_false rfl ?_
    refine wc_skip ?_
    refine we_then ?_
    refine wc_seq ?_
    have hmt := mayT_of h2
    have hM := hmt.1
    have hs := hmt.2.1
    have hf := hmt.2.2
    have hlen := (hM.segs s.toNat (by omega)).high
    have hgi := i64_of_wf wgi
    refine wc_region ?_
    refine wl_load 25 (.tmp 5) (own_row 0 rfl) rfl rfl rfl Try.underlying25 rfl (by kernel_rfl) ?_
    simp only [Act.put, Xa, Xz, Xs]
    refine wl_val (.int .i64 s) rfl (fun _ => rfl) ?_
    simp only [Act.put, Xa, Xz, Xs]
    refine wl_val (.int .i64 f) rfl (fun _ => rfl) ?_
    simp only [Act.put, Xa, Xz, Xs]
    refine wl_val (.slice lp L.length lc) rfl (fun _ => rfl) ?_
    simp only [Act.put, Xa, Xz, Xs]
    refine wl_call_open (ι := Stz) (fun zz => match zz with | zk5 => ⟨g1, #[.slice p G.length c, .slice q H.length d], 25⟩ :: zk5.N) 9 #[.agg #[.slice p G.length c, .slice q H.length d], .int .i64 s, .int .i64 f, .slice lp L.length lc] (fun zz => match zz with | zk5 => .tuple #[.agg #[.int .i64 f, .slice zk5.pp zk5.O.length zk5.pc], .agg #[.int .i64 f, .slice zk5.tp zk5.O.length zk5.tc], .bool true]) (fun zz => match zz with | zk5 => zk5.N) (fun zz => match zz with | zk5 => StzOk G s f zk5) (by rintro zk5; simp) rfl (fun _ => by go_simp) (fun W hE => steps_any s f L _ _ G H _ _ _ _ W ((sl_old hS) W hE) (oks_below hG hE.below) ((sl_old hH) W hE) hn hm hM hs hf ((sl_old hL) W hE) hF (by omega) hC) ?_
    rintro zk5 k5
    (try dsimp only)
    have ok9 := k5.set
    have ok8 : zk5.O.length ≤ 16 := by have := ok9.few; rwa [xs_len] at this
    simp only [Act.put, Xa, Xz, Xs]
    refine wl_val (.tuple #[.agg #[.int .i64 f, .slice zk5.pp zk5.O.length zk5.pc], .agg #[.int .i64 f, .slice zk5.tp zk5.O.length zk5.tc], .bool true]) rfl (fun _ => rfl) ?_
    simp only [Act.put, Xa, Xz, Xs]
    refine wl_val (.agg #[.int .i64 f, .slice zk5.pp zk5.O.length zk5.pc]) rfl (fun _ => by go_simp) ?_
    simp only [Act.put, Xa, Xz, Xs]
    refine wl_val (.agg #[.int .i64 f, .slice zk5.tp zk5.O.length zk5.tc]) rfl (fun _ => by go_simp) ?_
    simp only [Act.put, Xa, Xz, Xs]
    refine wl_val (.bool true) rfl (fun _ => by go_simp) ?_
    simp only [Act.put, Xa, Xz, Xs]
    refine wl_new 31 (#[.int .i64 0, .slice none 0 0]) rfl (fun _ => by go_simp) ?_
    intro g6
    simp only [Act.put, Xa, Xz, Xs]
    refine wl_new 34 (#[.int .i64 0, .slice none 0 0]) rfl (fun _ => by go_simp) ?_
    intro g7
    simp only [Act.put, Xa, Xz, Xs]
    refine wl_store 1 31 (.tmp 11) (.tmp 46) (#[.int .i64 f, .slice zk5.pp zk5.O.length zk5.pc]) rfl rfl rfl rfl rfl (by kernel_rfl) rfl (by simp [Value.oneCell']) ?_
    simp only [Act.put, List.set_cons_zero, List.set_cons_succ]
    refine wl_store 0 34 (.tmp 12) (.tmp 47) (#[.int .i64 f, .slice zk5.tp zk5.O.length zk5.tc]) rfl rfl rfl rfl rfl (by kernel_rfl) rfl (by simp [Value.oneCell']) ?_
    simp only [Act.put, List.set_cons_zero]
    refine wl_val (.bool true) rfl (fun _ => rfl) ?_
    simp only [Act.put, Xa, Xz, Xs]
    refine wl_nil ?_
    refine we_then ?_
    refine wc_seq ?_
    refine wc_seq ?_
    refine wc_region ?_
    refine wl_val (.bool true) rfl (fun _ => rfl) ?_
    simp only [Act.put, Xa, Xz, Xs]
    refine wl_val (.bool false) rfl (fun _ => by go_simp) ?_
    simp only [Act.put, Xa, Xz, Xs]
    refine wl_nil ?_
    refine we_then ?_
    refine wc_false rfl ?_
    refine wc_skip ?_
    refine we_then ?_
    refine wc_seq ?_
    refine wc_region ?_
    refine wl_load 31 (.tmp 11) (own_row 1 rfl) rfl rfl rfl Try.underlying31 rfl (by kernel_rfl) ?_
    simp only [Act.put, Xa, Xz, Xs]
    refine wl_load 25 (.tmp 5) (own_row 2 rfl) rfl rfl rfl Try.underlying25 rfl (by kernel_rfl) ?_
    simp only [Act.put, Xa, Xz, Xs]
    refine wl_val (.int .i64 gi) rfl (fun _ => rfl) ?_
    simp only [Act.put, Xa, Xz, Xs]
    cases h8 : (decide (gi < 0))
    ·
     skip
     have p8 : ¬ (gi < 0) := of_decide_eq_false h8
     cases h9 : (decide ((H.length : Int) ≤ gi))
     ·
      skip
      have p9 : ¬ ((H.length : Int) ≤ gi) := of_decide_eq_false h9
      refine wl_call_open (ι := Pz) (fun zz => match zz with | zk10 => ⟨g7, #[.int .i64 f, .slice zk5.tp zk5.O.length zk5.tc], 34⟩ :: ⟨g6, #[.int .i64 f, .slice zk5.pp zk5.O.length zk5.pc], 31⟩ :: ⟨g1, #[.slice p G.length c, .slice q H.length d], 25⟩ :: (zk5.N ++ zk10.N)) 13 #[.agg #[.int .i64 f, .slice zk5.pp zk5.O.length zk5.pc], .agg #[.slice p G.length c, .slice q H.length d], .int .i64 gi] (fun zz => match zz with | zk10 => .slice zk10.p ((plc G f (H[gi.toNat]!).seg (H[gi.toNat]!).off (xs zk5.O) zk5.O.length).length) zk10.c) (fun zz => match zz with | zk10 => zk10.N) (fun zz => match zz with | zk10 => Held zk10.N zk10.p (flat enc1 (plc G f (H[gi.toNat]!).seg (H[gi.toNat]!).off (xs zk5.O) zk5.O.length))) (by rintro zk10; simp) rfl (fun _ => by go_simp) (fun W hE => places_in gi G H _ _ _ _ s f zk5.O _ _ W ((sl_old hS) W hE) (oks_below hG hE.below) ((sl_old hH) W hE) hM ok9 ((sl_held k5.prog (List.Sublist.cons _ (List.Sublist.cons _ (List.Sublist.cons _ (List.Sublist.refl _))))) W hE) (by omega) hgi.2) ?_
      rintro zk10 k10
      (try dsimp only)
      simp only [Act.put, Xa, Xz, Xs]
      refine wl_val (.slice zk10.p ((plc G f (H[gi.toNat]!).seg (H[gi.toNat]!).off (xs zk5.O) zk5.O.length).length) zk10.c) rfl (fun _ => rfl) ?_
      simp only [Act.put, Xa, Xz, Xs]
      refine wl_nil ?_
      refine we_then ?_
      refine wc_seq ?_
      refine wc_seq ?_
      refine wc_region ?_
      refine wl_val (.int .i64 gi) rfl (fun _ => rfl) ?_
      simp only [Act.put, Xa, Xz, Xs]
      refine wl_val (.bool false) rfl (fun w => run_cmp (b := false) rfl rfl rfl Try.underlying3 (by exact congrArg some h8) w) ?_
      simp only [Act.put, Xa, Xz, Xs]
      refine wl_val (.bool false) rfl (fun _ => rfl) ?_
      simp only [Act.put, Xa, Xz, Xs]
      refine wl_val (.int .i64 gi) rfl (fun _ => rfl) ?_
      simp only [Act.put, Xa, Xz, Xs]
      refine wl_val (.pointer (some ⟨g1, 1, none⟩)) rfl (fun _ => by go_simp) ?_
      simp only [Act.put, Xa, Xz, Xs]
      refine wl_cell 23 (.tmp 59) (.slice q H.length d) (own_row 2 rfl) rfl rfl rfl rfl Try.isAgg23 ?_
      simp only [Act.put, Xa, Xz, Xs]
      refine wl_val (.int .i64 (H.length : Int)) rfl (fun w => er_len rfl rfl Try.underlying23 w) ?_
      simp only [Act.put, Xa, Xz, Xs]
      refine wl_val (.bool false) rfl (fun w => run_cmp (b := false) rfl rfl rfl Try.underlying3 (by exact congrArg some h9) w) ?_
      simp only [Act.put, Xa, Xz, Xs]
      refine wl_val (.bool false) rfl (fun _ => rfl) ?_
      simp only [Act.put, Xa, Xz, Xs]
      refine wl_nil ?_
      refine we_then ?_
      refine wc_false rfl ?_
      refine wc_skip ?_
      refine we_then ?_
      refine wc_seq ?_
      refine wc_draw_ghost2 (Γ0 := Cp) (Γ1 := Pz) 1 4 12 14 #[.agg #[.slice p G.length c, .slice q H.length d]] (fun zz => match zz with | zk11 => #[.agg #[.slice zk11.p zk11.K.length zk11.c, .slice zk11.q H.length zk11.d], .agg #[.int .i64 f, .slice zk5.tp zk5.O.length zk5.tc], .int .i64 gi]) (fun j9 => [0, 1, 0, 0, 2, 2].getD j9 0) (fun j9 => [.agg #[.slice p G.length c, .slice q H.length d], undef, .agg #[.int .i64 f, .slice zk5.tp zk5.O.length zk5.tc], .int .i64 gi, undef, undef].getD j9 undef) (fun zz => match zz with | zk11 => fun j9 => [undef, .agg #[.slice zk11.p zk11.K.length zk11.c, .slice zk11.q H.length zk11.d], undef, undef, undef, undef].getD j9 undef) (fun zz yy => match zz, yy with | zk11, zk12 => fun j9 => [undef, undef, undef, undef, .slice zk12.p ((plc G f (H[gi.toNat]!).seg (H[gi.toNat]!).off (xs zk5.O) zk5.O.length).length) zk12.c, .slice zk12.p ((plc G f (H[gi.toNat]!).seg (H[gi.toNat]!).off (xs zk5.O) zk5.O.length).length) zk12.c].getD j9 undef) (fun zz => match zz with | zk11 => zk11.N) (fun zz yy => match zz, yy with | zk11, zk12 => zk12.N) (fun zz => match zz with | zk11 => ⟨g7, #[.int .i64 f, .slice zk5.tp zk5.O.length zk5.tc], 34⟩ :: ⟨g6, #[.int .i64 f, .slice zk5.pp zk5.O.length zk5.pc], 31⟩ :: ⟨g1, #[.slice p G.length c, .slice q H.length d], 25⟩ :: (zk5.N ++ (zk10.N ++ zk11.N))) (fun zz yy => match zz, yy with | zk11, zk12 => ⟨g7, #[.int .i64 f, .slice zk5.tp zk5.O.length zk5.tc], 34⟩ :: ⟨g6, #[.int .i64 f, .slice zk5.pp zk5.O.length zk5.pc], 31⟩ :: ⟨g1, #[.slice p G.length c, .slice q H.length d], 25⟩ :: (zk5.N ++ (zk10.N ++ (zk11.N ++ zk12.N)))) (fun zz => match zz with | zk11 => CpOk G H zk11) (fun zz yy => match zz, yy with | zk11, zk12 => Held zk12.N zk12.p (flat enc1 (plc G f (H[gi.toNat]!).seg (H[gi.toNat]!).off (xs zk5.O) zk5.O.length))) 141 (by kernel_rfl) rfl (by kernel_rfl) (by kernel_rfl) (by kernel_rfl) rfl rfl (by kernel_rfl) (by decide) (by decide) (by rintro zk11; simp) (by rintro zk11 zk12; simp) (fun W hE => refs_open G H _ _ _ _ W ((sl_old hS) W hE) (oks_below hG hE.below) ((sl_old hH) W hE) (may_few hM).1 (may_few hM).2) (by rintro zk11 k11; exact (fun W hE => places_ref gi G H _ _ zk11.c zk11.d zk11.K s f zk5.O _ _ W (held_at k11.segs (List.Sublist.cons _ (List.Sublist.cons _ (List.Sublist.cons _ (List.sublist_append_of_sublist_right (List.sublist_append_of_sublist_right (List.Sublist.refl _)))))) hE) (k11.ok _ _ hG (hE.sub (List.Sublist.cons _ (List.Sublist.cons _ (List.Sublist.cons _ (List.sublist_append_of_sublist_right (List.sublist_append_of_sublist_right (List.Sublist.refl _)))))))) (held_at k11.grps (List.Sublist.cons _ (List.Sublist.cons _ (List.Sublist.cons _ (List.sublist_append_of_sublist_right (List.sublist_append_of_sublist_right (List.Sublist.refl _)))))) hE) hM k11.same ok9 ((sl_held k5.ref (List.Sublist.cons _ (List.Sublist.cons _ (List.Sublist.cons _ (List.sublist_append_left _ _))))) W hE) (heldi_ok k5.each ok9 (List.Sublist.cons _ (List.Sublist.cons _ (List.Sublist.cons _ (List.sublist_append_left _ _)))) hE) ⟨by omega, by omega⟩)) ?_ ?_ ?_
      ·
       intro y z
       refine wg_load 25 (.tmp 5) (own_row 2 rfl) rfl rfl rfl rfl rfl Try.underlying25 rfl (by kernel_rfl) ?_
       simp only [Nat.reduceAdd, Act.put, Xa, Xz, Xs]
       refine wg_own (y 1) rfl rfl rfl (fun _ => by go_simp) ?_
       simp only [Nat.reduceAdd, Act.put, Xa, Xz, Xs]
       refine wg_load 34 (.tmp 12) (own_row 0 rfl) rfl rfl rfl rfl rfl Try.underlying34 rfl (by kernel_rfl) ?_
       simp only [Nat.reduceAdd, Act.put, Xa, Xz, Xs]
       refine wg_val (.int .i64 gi) rfl rfl rfl (fun _ => rfl) ?_
       simp only [Nat.reduceAdd, Act.put, Xa, Xz, Xs]
       refine wg_pass (z 4) rfl rfl rfl ?_
       simp only [Nat.reduceAdd, Act.put, Xa, Xz, Xs]
       refine wg_pass (z 5) rfl rfl rfl ?_
       simp only [Nat.reduceAdd, Act.put, Xa, Xz, Xs]
       exact wg_nil trivial
      ·
       rintro zk11 k11 z
       (try dsimp only)
       refine wg_pass (.agg #[.slice p G.length c, .slice q H.length d]) rfl rfl rfl ?_
       simp only [Nat.reduceAdd, Act.put, Xa, Xz, Xs]
       refine wg_pass (.agg #[.slice zk11.p zk11.K.length zk11.c, .slice zk11.q H.length zk11.d]) rfl rfl rfl ?_
       simp only [Nat.reduceAdd, Act.put, Xa, Xz, Xs]
       refine wg_pass (.agg #[.int .i64 f, .slice zk5.tp zk5.O.length zk5.tc]) rfl rfl rfl ?_
       simp only [Nat.reduceAdd, Act.put, Xa, Xz, Xs]
       refine wg_pass (.int .i64 gi) rfl rfl rfl ?_
       simp only [Nat.reduceAdd, Act.put, Xa, Xz, Xs]
       refine wg_own (z 4) rfl rfl rfl (fun _ => by go_simp) ?_
       simp only [Nat.reduceAdd, Act.put, Xa, Xz, Xs]
       refine wg_pass (z 5) rfl rfl rfl ?_
       simp only [Nat.reduceAdd, Act.put, Xa, Xz, Xs]
       exact wg_nil trivial
      ·
       rintro zk11 zk12 k11 k12
       (try dsimp only)
       refine wg_pass (.agg #[.slice p G.length c, .slice q H.length d]) rfl rfl rfl ?_
       simp only [Nat.reduceAdd, Act.put, Xa, Xz, Xs]
       refine wg_pass (.agg #[.slice zk11.p zk11.K.length zk11.c, .slice zk11.q H.length zk11.d]) rfl rfl rfl ?_
       simp only [Nat.reduceAdd, Act.put, Xa, Xz, Xs]
       refine wg_pass (.agg #[.int .i64 f, .slice zk5.tp zk5.O.length zk5.tc]) rfl rfl rfl ?_
       simp only [Nat.reduceAdd, Act.put, Xa, Xz, Xs]
       refine wg_pass (.int .i64 gi) rfl rfl rfl ?_
       simp only [Nat.reduceAdd, Act.put, Xa, Xz, Xs]
       refine wg_own (.slice zk12.p ((plc G f (H[gi.toNat]!).seg (H[gi.toNat]!).off (xs zk5.O) zk5.O.length).length) zk12.c) rfl rfl rfl (fun _ => by go_simp) ?_
       simp only [Nat.reduceAdd, Act.put, Xa, Xz, Xs]
       refine wg_val (.slice zk12.p ((plc G f (H[gi.toNat]!).seg (H[gi.toNat]!).off (xs zk5.O) zk5.O.length).length) zk12.c) rfl rfl rfl (fun _ => rfl) ?_
       simp only [Nat.reduceAdd, Act.put, Xa, Xz, Xs]
       refine wg_nil ?_
       refine we_then ?_
       refine wc_seq ?_
       refine wc_seq ?_
       refine wc_region ?_
       refine wl_val (.slice zk10.p ((plc G f (H[gi.toNat]!).seg (H[gi.toNat]!).off (xs zk5.O) zk5.O.length).length) zk10.c) rfl (fun _ => rfl) ?_
       simp only [Act.put, Xa, Xz, Xs]
       refine wl_val (.int .i64 (((plc G f (H[gi.toNat]!).seg (H[gi.toNat]!).off (xs zk5.O) zk5.O.length).length : Nat) : Int)) rfl (fun w => er_len rfl rfl Try.underlying49 w) ?_
       simp only [Act.put, Xa, Xz, Xs]
       refine wl_val (.slice zk12.p ((plc G f (H[gi.toNat]!).seg (H[gi.toNat]!).off (xs zk5.O) zk5.O.length).length) zk12.c) rfl (fun _ => rfl) ?_
       simp only [Act.put, Xa, Xz, Xs]
       refine wl_val (.int .i64 (((plc G f (H[gi.toNat]!).seg (H[gi.toNat]!).off (xs zk5.O) zk5.O.length).length : Nat) : Int)) rfl (fun w => er_len rfl rfl Try.underlying49 w) ?_
       simp only [Act.put, Xa, Xz, Xs]
       refine wl_val (.bool false) rfl (fun w => run_cmp (b := false) rfl rfl rfl Try.underlying3 (by simp [cmpOf]) w) ?_
       simp only [Act.put, Xa, Xz, Xs]
       refine wl_nil ?_
       refine we_then ?_
       refine wc_false rfl ?_
       refine wc_skip ?_
       refine we_then ?_
       refine wc_seq ?_
       refine wc_seq ?_
       have pl9 := plc_len G f (H[gi.toNat]!).seg (H[gi.toNat]!).off (xs zk5.O) (fun i hi => (ok9.wf _ (get_memr hi)).ok.few) zk5.O.length (by rw [xs_len]; exact Nat.le_refl _)
       refine wc_region ?_
       refine wl_val (.slice zk10.p ((plc G f (H[gi.toNat]!).seg (H[gi.toNat]!).off (xs zk5.O) zk5.O.length).length) zk10.c) rfl (fun _ => rfl) ?_
       simp only [Act.put, Xa, Xz, Xs]
       refine wl_val (.int .i64 (((plc G f (H[gi.toNat]!).seg (H[gi.toNat]!).off (xs zk5.O) zk5.O.length).length : Nat) : Int)) rfl (fun w => er_len rfl rfl Try.underlying49 w) ?_
       simp only [Act.put, Xa, Xz, Xs]
       refine wl_val (.int .i64 0) rfl (fun _ => rfl) ?_
       simp only [Act.put, Xa, Xz, Xs]
       refine wl_nil ?_
       refine we_then ?_
       refine wc_block ?_
       refine wc_loop (fun (zz : Nat × Value × Value × Value × Value × Value × Value × Value × Value × Value × Value × Value × Value × Value × Value) => match zz with | ⟨i, u10, u16, u80, u81, u82, u83, u84, u85, u86, u87, u88, u89, u90, u91⟩ => ({ tmps := #[.agg #[.slice p G.length c, .slice q H.length d], .int .i64 s, .int .i64 f, .slice lp L.length lc, .int .i64 gi, .pointer (some ⟨g1, 0, none⟩), undef, undef, undef, undef, u10, .pointer (some ⟨g6, 0, none⟩), .pointer (some ⟨g7, 0, none⟩), .bool true, .slice zk10.p ((plc G f (H[gi.toNat]!).seg (H[gi.toNat]!).off (xs zk5.O) zk5.O.length).length) zk10.c, .slice zk12.p ((plc G f (H[gi.toNat]!).seg (H[gi.toNat]!).off (xs zk5.O) zk5.O.length).length) zk12.c, u16, undef, undef, undef, undef, undef, undef, .bool true, .bool false, .agg #[.slice p G.length c, .slice q H.length d], .int .i64 s, .int .i64 f, .bool true, .bool false, .bool false, .slice lp L.length lc, .int .i64 (L.length : Int), .bool false, .bool false, .bool false, .slice lp L.length lc, .int .i64 (L.length : Int), .bool false, .bool false, .tuple #[.agg #[.int .i64 f, .slice zk5.pp zk5.O.length zk5.pc], .agg #[.int .i64 f, .slice zk5.tp zk5.O.length zk5.tc], .bool true], .agg #[.slice p G.length c, .slice q H.length d], .int .i64 s, .int .i64 f, .slice lp L.length lc, .tuple #[.agg #[.int .i64 f, .slice zk5.pp zk5.O.length zk5.pc], .agg #[.int .i64 f, .slice zk5.tp zk5.O.length zk5.tc], .bool true], .agg #[.int .i64 f, .slice zk5.pp zk5.O.length zk5.pc], .agg #[.int .i64 f, .slice zk5.tp zk5.O.length zk5.tc], .bool true, .bool true, .bool false, .agg #[.int .i64 f, .slice zk5.pp zk5.O.length zk5.pc], .agg #[.slice p G.length c, .slice q H.length d], .int .i64 gi, .slice zk10.p ((plc G f (H[gi.toNat]!).seg (H[gi.toNat]!).off (xs zk5.O) zk5.O.length).length) zk10.c, .int .i64 gi, .bool false, .bool false, .int .i64 gi, .pointer (some ⟨g1, 1, none⟩), .slice q H.length d, .int .i64 (H.length : Int), .bool false, .bool false, undef, undef, undef, .agg #[.slice p G.length c, .slice q H.length d], .agg #[.slice zk11.p zk11.K.length zk11.c, .slice zk11.q H.length zk11.d], .agg #[.int .i64 f, .slice zk5.tp zk5.O.length zk5.tc], .int .i64 gi, .slice zk12.p ((plc G f (H[gi.toNat]!).seg (H[gi.toNat]!).off (xs zk5.O) zk5.O.length).length) zk12.c, .slice zk10.p ((plc G f (H[gi.toNat]!).seg (H[gi.toNat]!).off (xs zk5.O) zk5.O.length).length) zk10.c, .int .i64 (((plc G f (H[gi.toNat]!).seg (H[gi.toNat]!).off (xs zk5.O) zk5.O.length).length : Nat) : Int), .slice zk12.p ((plc G f (H[gi.toNat]!).seg (H[gi.toNat]!).off (xs zk5.O) zk5.O.length).length) zk12.c, .int .i64 (((plc G f (H[gi.toNat]!).seg (H[gi.toNat]!).off (xs zk5.O) zk5.O.length).length : Nat) : Int), .bool false, .slice zk10.p ((plc G f (H[gi.toNat]!).seg (H[gi.toNat]!).off (xs zk5.O) zk5.O.length).length) zk10.c, .int .i64 (((plc G f (H[gi.toNat]!).seg (H[gi.toNat]!).off (xs zk5.O) zk5.O.length).length : Nat) : Int), .int .i64 (i : Int), u80, u81, u82, u83, u84, u85, u86, u87, u88, u89, u90, u91, undef, undef, undef, undef, undef, undef, undef, undef, undef, undef, undef, undef, undef, undef, undef, undef, undef, undef, undef, undef, undef, undef, undef, undef, undef, undef, undef, undef, undef, undef, undef, undef, undef, undef, undef, undef, undef, undef, undef, undef, undef, undef, undef, undef, undef, undef, undef, undef, undef], defers := [] } : Act)) (fun (zz : Nat × Value × Value × Value × Value × Value × Value × Value × Value × Value × Value × Value × Value × Value × Value) => match zz with | ⟨i, u10, u16, u80, u81, u82, u83, u84, u85, u86, u87, u88, u89, u90, u91⟩ => ⟨g7, #[.int .i64 f, .slice zk5.tp zk5.O.length zk5.tc], 34⟩ :: ⟨g6, #[.int .i64 f, .slice zk5.pp zk5.O.length zk5.pc], 31⟩ :: ⟨g1, #[.slice p G.length c, .slice q H.length d], 25⟩ :: (zk5.N ++ (zk10.N ++ (zk11.N ++ zk12.N)))) (fun (zz : Nat × Value × Value × Value × Value × Value × Value × Value × Value × Value × Value × Value × Value × Value × Value) => match zz with | ⟨i, u10, u16, u80, u81, u82, u83, u84, u85, u86, u87, u88, u89, u90, u91⟩ => i ≤ (plc G f (H[gi.toNat]!).seg (H[gi.toNat]!).off (xs zk5.O) zk5.O.length).length) (fun (zz : Nat × Value × Value × Value × Value × Value × Value × Value × Value × Value × Value × Value × Value × Value × Value) => match zz with | ⟨i, u10, u16, u80, u81, u82, u83, u84, u85, u86, u87, u88, u89, u90, u91⟩ => (plc G f (H[gi.toNat]!).seg (H[gi.toNat]!).off (xs zk5.O) zk5.O.length).length - i) ⟨0, _, _, _, _, _, _, _, _, _, _, _, _, _, _⟩ (by (try dsimp only); exact Nat.zero_le _) rfl (List.Sublist.cons_cons _ (List.Sublist.cons_cons _ (List.Sublist.cons_cons _ (List.Sublist.refl _)))) ?_
       rintro ⟨i, u10, u16, u80, u81, u82, u83, u84, u85, u86, u87, u88, u89, u90, u91⟩ hφ
       (try dsimp only at hφ ⊢)
       refine wc_seq ?_
       refine wc_region ?_
       refine wl_val (.bool (decide ((i : Int) < (((plc G f (H[gi.toNat]!).seg (H[gi.toNat]!).off (xs zk5.O) zk5.O.length).length : Nat) : Int)))) rfl (fun w => run_cmp rfl rfl rfl Try.underlying3 rfl w) ?_
       simp only [Act.put, Xa, Xz, Xs]
       refine wl_nil ?_
       refine we_then ?_
       refine wc_seq ?_
       cases h13 : (decide ((i : Int) < (((plc G f (H[gi.toNat]!).seg (H[gi.toNat]!).off (xs zk5.O) zk5.O.length).length : Nat) : Int)))
       ·
        skip
        have p13 : ¬ ((i : Int) < (((plc G f (H[gi.toNat]!).seg (H[gi.toNat]!).off (xs zk5.O) zk5.O.length).length : Nat) : Int)) := of_decide_eq_false h13
        refine wc_false rfl ?_
        refine wc_exit ?_
        refine we_then_exit ?_
        refine we_then_exit ?_
        refine we_in_here ?_
        refine we_then ?_
        refine wc_seq ?_
        refine wc_region ?_
        refine wl_val (.slice lp L.length lc) rfl (fun _ => rfl) ?_
        simp only [Act.put, Xa, Xz, Xs]
        refine wl_read (eaddr lp (0 * 2)) rfl (er_index 0 2 (sl_old hL) rfl rfl rfl rfl (by omega) (flat_length (enc := enc2) (size := 2) (fun _ => rfl) _) (by decide) Try.underlying26 (by kernel_rfl)) ?_
        simp only [Act.put, Xa, Xz, Xs]
        refine wl_read (.agg #[.int .i64 ((L[0]!).1), .int .i64 ((L[0]!).2)]) rfl (er_part (0 * 2) [.int .i64 ((L[0]!).1), .int .i64 ((L[0]!).2)] (sl_old hL) rfl rfl (flat_part (enc := enc2) (fun _ => rfl) L 0 (by omega)) (Nat.zero_lt_succ _) Try.underlying53 rfl (by kernel_rfl)) ?_
        simp only [Act.put, Xa, Xz, Xs]
        refine wl_new 53 (#[.int .i64 0, .int .i64 0]) rfl (fun _ => by go_simp) ?_
        intro g14
        simp only [Act.put, Xa, Xz, Xs]
        refine wl_store 0 53 (.tmp 17) (.tmp 94) (#[.int .i64 ((L[0]!).1), .int .i64 ((L[0]!).2)]) rfl rfl rfl rfl rfl (by kernel_rfl) rfl (by simp [Value.oneCell']) ?_
        simp only [Act.put, List.set_cons_zero]
        refine wl_nil ?_
        refine we_then ?_
        refine wc_seq ?_
        refine wc_region ?_
        refine wl_load 31 (.tmp 11) (own_row 2 rfl) rfl rfl rfl Try.underlying31 rfl (by kernel_rfl) ?_
        simp only [Act.put, Xa, Xz, Xs]
        refine wl_load 25 (.tmp 5) (own_row 3 rfl) rfl rfl rfl Try.underlying25 rfl (by kernel_rfl) ?_
        simp only [Act.put, Xa, Xz, Xs]
        refine wl_load 53 (.tmp 17) (own_row 0 rfl) rfl rfl rfl Try.underlying53 rfl (by kernel_rfl) ?_
        simp only [Act.put, Xa, Xz, Xs]
        refine wl_call_at 15 #[.agg #[.int .i64 f, .slice zk5.pp zk5.O.length zk5.pc], .agg #[.slice p G.length c, .slice q H.length d], .agg #[.int .i64 ((L[0]!).1), .int .i64 ((L[0]!).2)]] (.tuple #[.agg #[.int .i64 ((gra G f (L[0]!).1 (L[0]!).2 (xs zk5.O) zk5.O.length).1), .int .i64 ((gra G f (L[0]!).1 (L[0]!).2 (xs zk5.O) zk5.O.length).2.1)], .bool ((gra G f (L[0]!).1 (L[0]!).2 (xs zk5.O) zk5.O.length).2.2)]) rfl (fun _ => by go_simp) (fun W hE => grades_prog (L[0]!).1 (L[0]!).2 G H _ _ _ _ s f zk5.O _ _ W ((sl_old hS) W hE) (oks_below hG hE.below) ((sl_old hH) W hE) hM ok9 ((sl_held k5.prog (List.Sublist.cons _ (List.Sublist.cons _ (List.Sublist.cons _ (List.Sublist.cons _ (List.sublist_append_left _ _)))))) W hE) (fit_at hF (by omega)).1 (fit_at hF (by omega)).2) ?_
        simp only [Act.put, Xa, Xz, Xs]
        refine wl_val (.tuple #[.agg #[.int .i64 ((gra G f (L[0]!).1 (L[0]!).2 (xs zk5.O) zk5.O.length).1), .int .i64 ((gra G f (L[0]!).1 (L[0]!).2 (xs zk5.O) zk5.O.length).2.1)], .bool ((gra G f (L[0]!).1 (L[0]!).2 (xs zk5.O) zk5.O.length).2.2)]) rfl (fun _ => rfl) ?_
        simp only [Act.put, Xa, Xz, Xs]
        refine wl_val (.agg #[.int .i64 ((gra G f (L[0]!).1 (L[0]!).2 (xs zk5.O) zk5.O.length).1), .int .i64 ((gra G f (L[0]!).1 (L[0]!).2 (xs zk5.O) zk5.O.length).2.1)]) rfl (fun _ => by go_simp) ?_
        simp only [Act.put, Xa, Xz, Xs]
        refine wl_val (.bool ((gra G f (L[0]!).1 (L[0]!).2 (xs zk5.O) zk5.O.length).2.2)) rfl (fun _ => by go_simp) ?_
        simp only [Act.put, Xa, Xz, Xs]
        refine wl_new 53 (#[.int .i64 0, .int .i64 0]) rfl (fun _ => by go_simp) ?_
        intro g15
        simp only [Act.put, Xa, Xz, Xs]
        refine wl_store 0 53 (.tmp 18) (.tmp 100) (#[.int .i64 ((gra G f (L[0]!).1 (L[0]!).2 (xs zk5.O) zk5.O.length).1), .int .i64 ((gra G f (L[0]!).1 (L[0]!).2 (xs zk5.O) zk5.O.length).2.1)]) rfl rfl rfl rfl rfl (by kernel_rfl) rfl (by simp [Value.oneCell']) ?_
        simp only [Act.put, List.set_cons_zero]
        refine wl_val (.bool ((gra G f (L[0]!).1 (L[0]!).2 (xs zk5.O) zk5.O.length).2.2)) rfl (fun _ => rfl) ?_
        simp only [Act.put, Xa, Xz, Xs]
        refine wl_nil ?_
        refine we_then ?_
        refine wc_seq ?_
        refine wc_draw_ghost (Γ := Cp) 1 12 #[.agg #[.slice p G.length c, .slice q H.length d]] (fun j9 => [false, true, false, false, false, false, false, true, true, true, true, true, true, true, true].getD j9 false) (fun j9 => [.agg #[.slice p G.length c, .slice q H.length d], undef, .agg #[.int .i64 f, .slice zk5.tp zk5.O.length zk5.tc], .pointer (some ⟨g14, 0, none⟩), .int .i64 ((L[0]!).1), .pointer (some ⟨g14, 1, none⟩), .int .i64 ((L[0]!).2), undef, undef, undef, undef, undef, undef, undef, undef].getD j9 undef) (fun zz => match zz with | zk16 => fun j9 => [undef, .agg #[.slice zk16.p zk16.K.length zk16.c, .slice zk16.q H.length zk16.d], undef, undef, undef, undef, undef, .tuple #[.int .i64 ((gra G f (L[0]!).1 (L[0]!).2 (xs zk5.O) zk5.O.length).1), .int .i64 ((gra G f (L[0]!).1 (L[0]!).2 (xs zk5.O) zk5.O.length).2.1), .bool ((gra G f (L[0]!).1 (L[0]!).2 (xs zk5.O) zk5.O.length).2.2)], .tuple #[.int .i64 ((gra G f (L[0]!).1 (L[0]!).2 (xs zk5.O) zk5.O.length).1), .int .i64 ((gra G f (L[0]!).1 (L[0]!).2 (xs zk5.O) zk5.O.length).2.1), .bool ((gra G f (L[0]!).1 (L[0]!).2 (xs zk5.O) zk5.O.length).2.2)], .int .i64 ((gra G f (L[0]!).1 (L[0]!).2 (xs zk5.O) zk5.O.length).1), .int .i64 ((gra G f (L[0]!).1 (L[0]!).2 (xs zk5.O) zk5.O.length).2.1), .bool ((gra G f (L[0]!).1 (L[0]!).2 (xs zk5.O) zk5.O.length).2.2), .int .i64 ((gra G f (L[0]!).1 (L[0]!).2 (xs zk5.O) zk5.O.length).1), .int .i64 ((gra G f (L[0]!).1 (L[0]!).2 (xs zk5.O) zk5.O.length).2.1), .bool ((gra G f (L[0]!).1 (L[0]!).2 (xs zk5.O) zk5.O.length).2.2)].getD j9 undef) (fun zz => match zz with | zk16 => zk16.N) (fun zz => match zz with | zk16 => ⟨g15, #[.int .i64 ((gra G f (L[0]!).1 (L[0]!).2 (xs zk5.O) zk5.O.length).1), .int .i64 ((gra G f (L[0]!).1 (L[0]!).2 (xs zk5.O) zk5.O.length).2.1)], 53⟩ :: ⟨g14, #[.int .i64 ((L[0]!).1), .int .i64 ((L[0]!).2)], 53⟩ :: ⟨g7, #[.int .i64 f, .slice zk5.tp zk5.O.length zk5.tc], 34⟩ :: ⟨g6, #[.int .i64 f, .slice zk5.pp zk5.O.length zk5.pc], 31⟩ :: ⟨g1, #[.slice p G.length c, .slice q H.length d], 25⟩ :: (zk5.N ++ (zk10.N ++ (zk11.N ++ (zk12.N ++ zk16.N))))) (fun zz => match zz with | zk16 => CpOk G H zk16) 141 (by kernel_rfl) rfl (by kernel_rfl) (by kernel_rfl) rfl (by decide) (by rintro zk16; simp) (fun W hE => refs_open G H _ _ _ _ W ((sl_old hS) W hE) (oks_below hG hE.below) ((sl_old hH) W hE) (may_few hM).1 (may_few hM).2) ?_ ?_
        ·
         intro z
         refine wg_load 25 (.tmp 5) (own_row 4 rfl) rfl rfl rfl rfl rfl Try.underlying25 rfl (by kernel_rfl) ?_
         simp only [Nat.reduceAdd, Act.put, Xa, Xz, Xs]
         refine wg_own (z 1) rfl rfl rfl (fun _ => by go_simp) ?_
         simp only [Nat.reduceAdd, Act.put, Xa, Xz, Xs]
         refine wg_load 34 (.tmp 12) (own_row 2 rfl) rfl rfl rfl rfl rfl Try.underlying34 rfl (by kernel_rfl) ?_
         simp only [Nat.reduceAdd, Act.put, Xa, Xz, Xs]
         refine wg_val (.pointer (some ⟨g14, 0, none⟩)) rfl rfl rfl (fun _ => by go_simp) ?_
         simp only [Nat.reduceAdd, Act.put, Xa, Xz, Xs]
         refine wg_cell 2 (.tmp 106) (.int .i64 ((L[0]!).1)) (own_row 1 rfl) rfl rfl rfl rfl rfl rfl Try.isAgg2 ?_
         simp only [Nat.reduceAdd, Act.put, Xa, Xz, Xs]
         refine wg_val (.pointer (some ⟨g14, 1, none⟩)) rfl rfl rfl (fun _ => by go_simp) ?_
         simp only [Nat.reduceAdd, Act.put, Xa, Xz, Xs]
         refine wg_cell 2 (.tmp 108) (.int .i64 ((L[0]!).2)) (own_row 1 rfl) rfl rfl rfl rfl rfl rfl Try.isAgg2 ?_
         simp only [Nat.reduceAdd, Act.put, Xa, Xz, Xs]
         refine wg_pass (z 7) rfl rfl rfl ?_
         simp only [Nat.reduceAdd, Act.put, Xa, Xz, Xs]
         refine wg_pass (z 8) rfl rfl rfl ?_
         simp only [Nat.reduceAdd, Act.put, Xa, Xz, Xs]
         refine wg_pass (z 9) rfl rfl rfl ?_
         simp only [Nat.reduceAdd, Act.put, Xa, Xz, Xs]
         refine wg_pass (z 10) rfl rfl rfl ?_
         simp only [Nat.reduceAdd, Act.put, Xa, Xz, Xs]
         refine wg_pass (z 11) rfl rfl rfl ?_
         simp only [Nat.reduceAdd, Act.put, Xa, Xz, Xs]
         refine wg_pass (z 12) rfl rfl rfl ?_
         simp only [Nat.reduceAdd, Act.put, Xa, Xz, Xs]
         refine wg_pass (z 13) rfl rfl rfl ?_
         simp only [Nat.reduceAdd, Act.put, Xa, Xz, Xs]
         refine wg_pass (z 14) rfl rfl rfl ?_
         simp only [Nat.reduceAdd, Act.put, Xa, Xz, Xs]
         exact wg_nil trivial
        ·
         rintro zk16 k16
         (try dsimp only)
         refine wg_pass (.agg #[.slice p G.length c, .slice q H.length d]) rfl rfl rfl ?_
         simp only [Nat.reduceAdd, Act.put, Xa, Xz, Xs]
         refine wg_own (.agg #[.slice zk16.p zk16.K.length zk16.c, .slice zk16.q H.length zk16.d]) rfl rfl rfl (fun _ => by go_simp) ?_
         simp only [Nat.reduceAdd, Act.put, Xa, Xz, Xs]
         refine wg_pass (.agg #[.int .i64 f, .slice zk5.tp zk5.O.length zk5.tc]) rfl rfl rfl ?_
         simp only [Nat.reduceAdd, Act.put, Xa, Xz, Xs]
         refine wg_pass (.pointer (some ⟨g14, 0, none⟩)) rfl rfl rfl ?_
         simp only [Nat.reduceAdd, Act.put, Xa, Xz, Xs]
         refine wg_pass (.int .i64 ((L[0]!).1)) rfl rfl rfl ?_
         simp only [Nat.reduceAdd, Act.put, Xa, Xz, Xs]
         refine wg_pass (.pointer (some ⟨g14, 1, none⟩)) rfl rfl rfl ?_
         simp only [Nat.reduceAdd, Act.put, Xa, Xz, Xs]
         refine wg_pass (.int .i64 ((L[0]!).2)) rfl rfl rfl ?_
         simp only [Nat.reduceAdd, Act.put, Xa, Xz, Xs]
         refine wg_call_at 16 #[.agg #[.slice zk16.p zk16.K.length zk16.c, .slice zk16.q H.length zk16.d], .agg #[.int .i64 f, .slice zk5.tp zk5.O.length zk5.tc], .int .i64 ((L[0]!).1), .int .i64 ((L[0]!).2)] (.tuple #[.int .i64 ((gra G f (L[0]!).1 (L[0]!).2 (xs zk5.O) zk5.O.length).1), .int .i64 ((gra G f (L[0]!).1 (L[0]!).2 (xs zk5.O) zk5.O.length).2.1), .bool ((gra G f (L[0]!).1 (L[0]!).2 (xs zk5.O) zk5.O.length).2.2)]) rfl rfl rfl (fun _ => by go_simp) (fun W hE => grades_ref (L[0]!).1 (L[0]!).2 G H _ _ zk16.c zk16.d zk16.K s f zk5.O _ _ W (held_at k16.segs (List.Sublist.cons _ (List.Sublist.cons _ (List.Sublist.cons _ (List.Sublist.cons _ (List.Sublist.cons _ (List.sublist_append_of_sublist_right (List.sublist_append_of_sublist_right (List.sublist_append_of_sublist_right (List.sublist_append_of_sublist_right (List.Sublist.refl _)))))))))) hE) (k16.ok _ _ hG (hE.sub (List.Sublist.cons _ (List.Sublist.cons _ (List.Sublist.cons _ (List.Sublist.cons _ (List.Sublist.cons _ (List.sublist_append_of_sublist_right (List.sublist_append_of_sublist_right (List.sublist_append_of_sublist_right (List.sublist_append_of_sublist_right (List.Sublist.refl _)))))))))))) (held_at k16.grps (List.Sublist.cons _ (List.Sublist.cons _ (List.Sublist.cons _ (List.Sublist.cons _ (List.Sublist.cons _ (List.sublist_append_of_sublist_right (List.sublist_append_of_sublist_right (List.sublist_append_of_sublist_right (List.sublist_append_of_sublist_right (List.Sublist.refl _)))))))))) hE) hM k16.same ok9 ((sl_held k5.ref (List.Sublist.cons _ (List.Sublist.cons _ (List.Sublist.cons _ (List.Sublist.cons _ (List.Sublist.cons _ (List.sublist_append_left _ _))))))) W hE) (heldi_ok k5.each ok9 (List.Sublist.cons _ (List.Sublist.cons _ (List.Sublist.cons _ (List.Sublist.cons _ (List.Sublist.cons _ (List.sublist_append_left _ _)))))) hE) (fit_at hF (by omega)).1 (fit_at hF (by omega)).2) ?_
         simp only [Nat.reduceAdd, Act.put, Xa, Xz, Xs]
         refine wg_val (.tuple #[.int .i64 ((gra G f (L[0]!).1 (L[0]!).2 (xs zk5.O) zk5.O.length).1), .int .i64 ((gra G f (L[0]!).1 (L[0]!).2 (xs zk5.O) zk5.O.length).2.1), .bool ((gra G f (L[0]!).1 (L[0]!).2 (xs zk5.O) zk5.O.length).2.2)]) rfl rfl rfl (fun _ => rfl) ?_
         simp only [Nat.reduceAdd, Act.put, Xa, Xz, Xs]
         refine wg_val (.int .i64 ((gra G f (L[0]!).1 (L[0]!).2 (xs zk5.O) zk5.O.length).1)) rfl rfl rfl (fun _ => by go_simp) ?_
         simp only [Nat.reduceAdd, Act.put, Xa, Xz, Xs]
         refine wg_val (.int .i64 ((gra G f (L[0]!).1 (L[0]!).2 (xs zk5.O) zk5.O.length).2.1)) rfl rfl rfl (fun _ => by go_simp) ?_
         simp only [Nat.reduceAdd, Act.put, Xa, Xz, Xs]
         refine wg_val (.bool ((gra G f (L[0]!).1 (L[0]!).2 (xs zk5.O) zk5.O.length).2.2)) rfl rfl rfl (fun _ => by go_simp) ?_
         simp only [Nat.reduceAdd, Act.put, Xa, Xz, Xs]
         refine wg_val (.int .i64 ((gra G f (L[0]!).1 (L[0]!).2 (xs zk5.O) zk5.O.length).1)) rfl rfl rfl (fun _ => rfl) ?_
         simp only [Nat.reduceAdd, Act.put, Xa, Xz, Xs]
         refine wg_val (.int .i64 ((gra G f (L[0]!).1 (L[0]!).2 (xs zk5.O) zk5.O.length).2.1)) rfl rfl rfl (fun _ => rfl) ?_
         simp only [Nat.reduceAdd, Act.put, Xa, Xz, Xs]
         refine wg_val (.bool ((gra G f (L[0]!).1 (L[0]!).2 (xs zk5.O) zk5.O.length).2.2)) rfl rfl rfl (fun _ => rfl) ?_
         simp only [Nat.reduceAdd, Act.put, Xa, Xz, Xs]
         refine wg_nil ?_
         refine we_then ?_
         refine wc_seq ?_
         refine wc_region ?_
         refine wl_val (.bool ((gra G f (L[0]!).1 (L[0]!).2 (xs zk5.O) zk5.O.length).2.2)) rfl (fun _ => rfl) ?_
         simp only [Act.put, Xa, Xz, Xs]
         refine wl_val (.bool ((gra G f (L[0]!).1 (L[0]!).2 (xs zk5.O) zk5.O.length).2.2)) rfl (fun _ => rfl) ?_
         simp only [Act.put, Xa, Xz, Xs]
         refine wl_val (.bool true) rfl (fun w => run_beq rfl rfl rfl Try.underlying4 (by cases ((gra G f (L[0]!).1 (L[0]!).2 (xs zk5.O) zk5.O.length).2.2) <;> rfl) w) ?_
         simp only [Act.put, Xa, Xz, Xs]
         refine wl_val (.bool true) rfl (fun _ => rfl) ?_
         simp only [Act.put, Xa, Xz, Xs]
         refine wl_val (.bool ((gra G f (L[0]!).1 (L[0]!).2 (xs zk5.O) zk5.O.length).2.2)) rfl (fun _ => rfl) ?_
         simp only [Act.put, Xa, Xz, Xs]
         refine wl_val (.bool ((gra G f (L[0]!).1 (L[0]!).2 (xs zk5.O) zk5.O.length).2.2)) rfl (fun _ => rfl) ?_
         simp only [Act.put, Xa, Xz, Xs]
         cases h17 : ((gra G f (L[0]!).1 (L[0]!).2 (xs zk5.O) zk5.O.length).2.2)
         ·
          skip
          refine wl_skip rfl ?_
          simp only [Act.put, Xa, Xz, Xs]
          refine wl_skip rfl ?_
          simp only [Act.put, Xa, Xz, Xs]
          refine wl_skip rfl ?_
          simp only [Act.put, Xa, Xz, Xs]
          refine wl_skip rfl ?_
          simp only [Act.put, Xa, Xz, Xs]
          refine wl_val (.bool false) rfl (fun _ => rfl) ?_
          simp only [Act.put, Xa, Xz, Xs]
          refine wl_val (.bool false) rfl (fun _ => rfl) ?_
          simp only [Act.put, Xa, Xz, Xs]
          refine wl_skip rfl ?_
          simp only [Act.put, Xa, Xz, Xs]
          refine wl_skip rfl ?_
          simp only [Act.put, Xa, Xz, Xs]
          refine wl_skip rfl ?_
          simp only [Act.put, Xa, Xz, Xs]
          refine wl_skip rfl ?_
          simp only [Act.put, Xa, Xz, Xs]
          refine wl_val (.bool false) rfl (fun _ => rfl) ?_
          simp only [Act.put, Xa, Xz, Xs]
          refine wl_val (.bool false) rfl (fun _ => rfl) ?_
          simp only [Act.put, Xa, Xz, Xs]
          refine wl_val (.bool false) rfl (fun _ => rfl) ?_
          simp only [Act.put, Xa, Xz, Xs]
          refine wl_val (.bool true) rfl (fun _ => by go_simp) ?_
          simp only [Act.put, Xa, Xz, Xs]
          refine wl_val (.bool true) rfl (fun _ => rfl) ?_
          simp only [Act.put, Xa, Xz, Xs]
          refine wl_load 53 (.tmp 18) (own_row 0 rfl) rfl rfl rfl Try.underlying53 rfl (by kernel_rfl) ?_
          simp only [Act.put, Xa, Xz, Xs]
          refine wl_val (.agg #[.int .i64 0, .int .i64 0]) rfl (fun _ => by go_simp) ?_
          simp only [Act.put, Xa, Xz, Xs]
          refine wl_val (.bool (((gra G f (L[0]!).1 (L[0]!).2 (xs zk5.O) zk5.O.length).1) == 0 && ((gra G f (L[0]!).1 (L[0]!).2 (xs zk5.O) zk5.O.length).2.1) == 0)) rfl (fun w => eq_spn rfl rfl rfl w) ?_
          simp only [Act.put, Xa, Xz, Xs]
          refine wl_val (.bool (((gra G f (L[0]!).1 (L[0]!).2 (xs zk5.O) zk5.O.length).1) == 0 && ((gra G f (L[0]!).1 (L[0]!).2 (xs zk5.O) zk5.O.length).2.1) == 0)) rfl (fun _ => rfl) ?_
          simp only [Act.put, Xa, Xz, Xs]
          refine wl_val (.bool (((gra G f (L[0]!).1 (L[0]!).2 (xs zk5.O) zk5.O.length).1) == 0 && ((gra G f (L[0]!).1 (L[0]!).2 (xs zk5.O) zk5.O.length).2.1) == 0)) rfl (fun _ => rfl) ?_
          simp only [Act.put, Xa, Xz, Xs]
          refine wl_val (.bool (((gra G f (L[0]!).1 (L[0]!).2 (xs zk5.O) zk5.O.length).1) == 0 && ((gra G f (L[0]!).1 (L[0]!).2 (xs zk5.O) zk5.O.length).2.1) == 0)) rfl (fun _ => rfl) ?_
          simp only [Act.put, Xa, Xz, Xs]
          refine wl_val (.bool (((gra G f (L[0]!).1 (L[0]!).2 (xs zk5.O) zk5.O.length).1) == 0 && ((gra G f (L[0]!).1 (L[0]!).2 (xs zk5.O) zk5.O.length).2.1) == 0)) rfl (fun _ => rfl) ?_
          simp only [Act.put, Xa, Xz, Xs]
          refine wl_nil ?_
          refine we_then ?_
          refine wc_ret ?_
          refine we_ret1 (.bool (((gra G f (L[0]!).1 (L[0]!).2 (xs zk5.O) zk5.O.length).1) == 0 && ((gra G f (L[0]!).1 (L[0]!).2 (xs zk5.O) zk5.O.length).2.1) == 0)) rfl rfl rfl (fun w1 hE => ?_)
          have gn := gra_none _ h17
          exact ⟨by rw [show (((gra G f (L[0]!).1 (L[0]!).2 (xs zk5.O) zk5.O.length).1) == 0 && ((gra G f (L[0]!).1 (L[0]!).2 (xs zk5.O) zk5.O.length).2.1) == 0) = true from by rw [gn]; rfl], hE.below⟩
         ·
          skip
          refine wl_val (.pointer (some ⟨g15, 0, none⟩)) rfl (fun _ => by go_simp) ?_
          simp only [Act.put, Xa, Xz, Xs]
          refine wl_cell 2 (.tmp 120) (.int .i64 ((gra G f (L[0]!).1 (L[0]!).2 (xs zk5.O) zk5.O.length).1)) (own_row 0 rfl) rfl rfl rfl rfl Try.isAgg2 ?_
          simp only [Act.put, Xa, Xz, Xs]
          refine wl_val (.int .i64 ((gra G f (L[0]!).1 (L[0]!).2 (xs zk5.O) zk5.O.length).1)) rfl (fun _ => rfl) ?_
          simp only [Act.put, Xa, Xz, Xs]
          refine wl_val (.bool true) rfl (fun w => run_cmp (b := true) rfl rfl rfl Try.underlying2 (by simp [cmpOf]) w) ?_
          simp only [Act.put, Xa, Xz, Xs]
          refine wl_val (.bool true) rfl (fun _ => rfl) ?_
          simp only [Act.put, Xa, Xz, Xs]
          refine wl_val (.bool true) rfl (fun _ => rfl) ?_
          simp only [Act.put, Xa, Xz, Xs]
          refine wl_val (.pointer (some ⟨g15, 1, none⟩)) rfl (fun _ => by go_simp) ?_
          simp only [Act.put, Xa, Xz, Xs]
          refine wl_cell 2 (.tmp 126) (.int .i64 ((gra G f (L[0]!).1 (L[0]!).2 (xs zk5.O) zk5.O.length).2.1)) (own_row 0 rfl) rfl rfl rfl rfl Try.isAgg2 ?_
          simp only [Act.put, Xa, Xz, Xs]
          refine wl_val (.int .i64 ((gra G f (L[0]!).1 (L[0]!).2 (xs zk5.O) zk5.O.length).2.1)) rfl (fun _ => rfl) ?_
          simp only [Act.put, Xa, Xz, Xs]
          refine wl_val (.bool true) rfl (fun w => run_cmp (b := true) rfl rfl rfl Try.underlying2 (by simp [cmpOf]) w) ?_
          simp only [Act.put, Xa, Xz, Xs]
          refine wl_val (.bool true) rfl (fun _ => rfl) ?_
          simp only [Act.put, Xa, Xz, Xs]
          refine wl_val (.bool true) rfl (fun _ => rfl) ?_
          simp only [Act.put, Xa, Xz, Xs]
          refine wl_skip rfl ?_
          simp only [Act.put, Xa, Xz, Xs]
          refine wl_skip rfl ?_
          simp only [Act.put, Xa, Xz, Xs]
          refine wl_skip rfl ?_
          simp only [Act.put, Xa, Xz, Xs]
          refine wl_skip rfl ?_
          simp only [Act.put, Xa, Xz, Xs]
          refine wl_skip rfl ?_
          simp only [Act.put, Xa, Xz, Xs]
          refine wl_skip rfl ?_
          simp only [Act.put, Xa, Xz, Xs]
          refine wl_skip rfl ?_
          simp only [Act.put, Xa, Xz, Xs]
          refine wl_val (.bool true) rfl (fun _ => rfl) ?_
          simp only [Act.put, Xa, Xz, Xs]
          refine wl_val (.bool true) rfl (fun _ => rfl) ?_
          simp only [Act.put, Xa, Xz, Xs]
          refine wl_val (.bool true) rfl (fun _ => rfl) ?_
          simp only [Act.put, Xa, Xz, Xs]
          refine wl_nil ?_
          refine we_then ?_
          refine wc_ret ?_
          refine we_ret1 (.bool true) rfl rfl rfl (fun w1 hE => ?_)
          exact ⟨rfl, hE.below⟩
       ·
        skip
        have p13 : (i : Int) < (((plc G f (H[gi.toNat]!).seg (H[gi.toNat]!).off (xs zk5.O) zk5.O.length).length : Nat) : Int) := of_decide_eq_true h13
        refine wc_true rfl ?_
        refine wc_skip ?_
        refine we_then ?_
        refine wc_seq ?_
        refine wc_block ?_
        refine wc_seq ?_
        refine wc_region ?_
        refine wl_val (.int .i64 (i : Int)) rfl (fun _ => rfl) ?_
        simp only [Act.put, Xa, Xz, Xs]
        refine wl_val (.int .i64 (i : Int)) rfl (fun _ => rfl) ?_
        simp only [Act.put, Xa, Xz, Xs]
        refine wl_nil ?_
        refine we_then ?_
        refine wc_seq ?_
        refine wc_draw [.late, .late, .plain, .plain, .late, .late, .plain, .plain, .late] none [] 141 (by kernel_rfl) rfl (by kernel_rfl) (by kernel_rfl) ?_
        refine ws_late (.slice zk10.p ((plc G f (H[gi.toNat]!).seg (H[gi.toNat]!).off (xs zk5.O) zk5.O.length).length) zk10.c) rfl rfl (fun _ => rfl) ?_
        simp only [Nat.reduceAdd, Act.put, Xa, Xz, Xs]
        refine ws_late (.int .i64 (i : Int)) rfl rfl (fun _ => rfl) ?_
        simp only [Nat.reduceAdd, Act.put, Xa, Xz, Xs]
        refine ws_read (eaddr zk10.p (i * 1)) rfl rfl (er_index i 1 (sl_held k10 (List.Sublist.cons _ (List.Sublist.cons _ (List.Sublist.cons _ (List.sublist_append_of_sublist_right (List.sublist_append_left _ _)))))) rfl rfl rfl rfl (by omega) (flat_length (enc := enc1) (size := 1) (fun _ => rfl) _) (by decide) Try.underlying49 (by kernel_rfl)) ?_
        simp only [Nat.reduceAdd, Act.put, Xa, Xz, Xs]
        refine ws_read (.int .i64 ((plc G f (H[gi.toNat]!).seg (H[gi.toNat]!).off (xs zk5.O) zk5.O.length)[i]!)) rfl rfl (er_cell (i * 1) (.int .i64 ((plc G f (H[gi.toNat]!).seg (H[gi.toNat]!).off (xs zk5.O) zk5.O.length)[i]!)) (sl_held k10 (List.Sublist.cons _ (List.Sublist.cons _ (List.Sublist.cons _ (List.sublist_append_of_sublist_right (List.sublist_append_left _ _)))))) rfl rfl (flat_cell (enc := enc1) (fun _ => rfl) (plc G f (H[gi.toNat]!).seg (H[gi.toNat]!).off (xs zk5.O) zk5.O.length) i 0 (by omega) (by decide)) Try.isAgg2) ?_
        simp only [Nat.reduceAdd, Act.put, Xa, Xz, Xs]
        refine ws_late (.slice zk12.p ((plc G f (H[gi.toNat]!).seg (H[gi.toNat]!).off (xs zk5.O) zk5.O.length).length) zk12.c) rfl rfl (fun _ => rfl) ?_
        simp only [Nat.reduceAdd, Act.put, Xa, Xz, Xs]
        refine ws_late (.int .i64 (i : Int)) rfl rfl (fun _ => rfl) ?_
        simp only [Nat.reduceAdd, Act.put, Xa, Xz, Xs]
        refine ws_read (eaddr zk12.p (i * 1)) rfl rfl (er_index i 1 (sl_held k12 (List.Sublist.cons _ (List.Sublist.cons _ (List.Sublist.cons _ (List.sublist_append_of_sublist_right (List.sublist_append_of_sublist_right (List.sublist_append_of_sublist_right (List.Sublist.refl _)))))))) rfl rfl rfl rfl (by omega) (flat_length (enc := enc1) (size := 1) (fun _ => rfl) _) (by decide) Try.underlying49 (by kernel_rfl)) ?_
        simp only [Nat.reduceAdd, Act.put, Xa, Xz, Xs]
        refine ws_read (.int .i64 ((plc G f (H[gi.toNat]!).seg (H[gi.toNat]!).off (xs zk5.O) zk5.O.length)[i]!)) rfl rfl (er_cell (i * 1) (.int .i64 ((plc G f (H[gi.toNat]!).seg (H[gi.toNat]!).off (xs zk5.O) zk5.O.length)[i]!)) (sl_held k12 (List.Sublist.cons _ (List.Sublist.cons _ (List.Sublist.cons _ (List.sublist_append_of_sublist_right (List.sublist_append_of_sublist_right (List.sublist_append_of_sublist_right (List.Sublist.refl _)))))))) rfl rfl (flat_cell (enc := enc1) (fun _ => rfl) (plc G f (H[gi.toNat]!).seg (H[gi.toNat]!).off (xs zk5.O) zk5.O.length) i 0 (by omega) (by decide)) Try.isAgg2) ?_
        simp only [Nat.reduceAdd, Act.put, Xa, Xz, Xs]
        refine ws_late (.bool false) rfl rfl (fun w => run_cmp (b := false) rfl rfl rfl Try.underlying2 (by simp [cmpOf]) w) ?_
        simp only [Nat.reduceAdd, Act.put, Xa, Xz, Xs]
        refine ws_nil [] trivial (by simp) ?_
        intro ps18
        simp only [fin, List.foldl_nil, List.map, List.nil_append]
        refine we_then ?_
        refine wc_false rfl ?_
        refine wc_skip ?_
        refine we_in ?_
        refine we_then ?_
        refine wc_region ?_
        refine wl_val (.int .i64 ((i + 1 : Nat) : Int)) rfl (fun w => run_nat (X := i) (Y := 1) (Z := i + 1) rfl rfl rfl rfl (by omega) w) ?_
        simp only [Act.put, Xa, Xz, Xs]
        refine wl_val (.int .i64 ((i + 1 : Nat) : Int)) rfl (fun _ => rfl) ?_
        simp only [Act.put, Xa, Xz, Xs]
        refine wl_nil ?_
        exact we_meet ⟨(i + 1), _, _, _, _, _, _, _, _, _, _, _, _, _, _⟩ ⟨by (try dsimp only); omega, by (try dsimp only); omega⟩ rfl (List.Sublist.cons_cons _ (List.Sublist.cons_cons _ (List.Sublist.cons_cons _ (List.Sublist.refl _))))
     ·
      skip
      have p9 : (H.length : Int) ≤ gi := of_decide_eq_true h9
      refine wl_call_open (ι := Pz) (fun zz => match zz with | zk19 => ⟨g7, #[.int .i64 f, .slice zk5.tp zk5.O.length zk5.tc], 34⟩ :: ⟨g6, #[.int .i64 f, .slice zk5.pp zk5.O.length zk5.pc], 31⟩ :: ⟨g1, #[.slice p G.length c, .slice q H.length d], 25⟩ :: (zk5.N ++ zk19.N)) 13 #[.agg #[.int .i64 f, .slice zk5.pp zk5.O.length zk5.pc], .agg #[.slice p G.length c, .slice q H.length d], .int .i64 gi] (fun zz => match zz with | zk19 => .slice zk19.p 0 zk19.c) (fun zz => match zz with | zk19 => zk19.N) (fun zz => match zz with | zk19 => Held zk19.N zk19.p (flat enc1 [])) (by rintro zk19; simp) rfl (fun _ => by go_simp) (fun W hE => places_out gi G H _ _ _ _ s f zk5.O _ _ W ((sl_old hS) W hE) (oks_below hG hE.below) ((sl_old hH) W hE) hM ok9 ((sl_held k5.prog (List.Sublist.cons _ (List.Sublist.cons _ (List.Sublist.cons _ (List.Sublist.refl _))))) W hE) (by omega) hgi) ?_
      rintro zk19 k19
      (try dsimp only)
      simp only [Act.put, Xa, Xz, Xs]
      refine wl_val (.slice zk19.p 0 zk19.c) rfl (fun _ => rfl) ?_
      simp only [Act.put, Xa, Xz, Xs]
      refine wl_nil ?_
      refine we_then ?_
      refine wc_seq ?_
      refine wc_seq ?_
      refine wc_region ?_
      refine wl_val (.int .i64 gi) rfl (fun _ => rfl) ?_
      simp only [Act.put, Xa, Xz, Xs]
      refine wl_val (.bool false) rfl (fun w => run_cmp (b := false) rfl rfl rfl Try.underlying3 (by exact congrArg some h8) w) ?_
      simp only [Act.put, Xa, Xz, Xs]
      refine wl_val (.bool false) rfl (fun _ => rfl) ?_
      simp only [Act.put, Xa, Xz, Xs]
      refine wl_val (.int .i64 gi) rfl (fun _ => rfl) ?_
      simp only [Act.put, Xa, Xz, Xs]
      refine wl_val (.pointer (some ⟨g1, 1, none⟩)) rfl (fun _ => by go_simp) ?_
      simp only [Act.put, Xa, Xz, Xs]
      refine wl_cell 23 (.tmp 59) (.slice q H.length d) (own_row 2 rfl) rfl rfl rfl rfl Try.isAgg23 ?_
      simp only [Act.put, Xa, Xz, Xs]
      refine wl_val (.int .i64 (H.length : Int)) rfl (fun w => er_len rfl rfl Try.underlying23 w) ?_
      simp only [Act.put, Xa, Xz, Xs]
      refine wl_val (.bool true) rfl (fun w => run_cmp (b := true) rfl rfl rfl Try.underlying3 (by exact congrArg some h9) w) ?_
      simp only [Act.put, Xa, Xz, Xs]
      refine wl_val (.bool true) rfl (fun _ => rfl) ?_
      simp only [Act.put, Xa, Xz, Xs]
      refine wl_nil ?_
      refine we_then ?_
      refine wc_true rfl ?_
      refine wc_seq ?_
      refine wc_region ?_
      refine wl_val (.slice zk19.p 0 zk19.c) rfl (fun _ => rfl) ?_
      simp only [Act.put, Xa, Xz, Xs]
      refine wl_val (.int .i64 0) rfl (fun w => er_len rfl rfl Try.underlying49 w) ?_
      simp only [Act.put, Xa, Xz, Xs]
      refine wl_val (.bool true) rfl (fun w => run_cmp rfl rfl rfl Try.underlying3 rfl w) ?_
      simp only [Act.put, Xa, Xz, Xs]
      refine wl_val (.bool true) rfl (fun _ => rfl) ?_
      simp only [Act.put, Xa, Xz, Xs]
      refine wl_nil ?_
      refine we_then ?_
      refine wc_ret ?_
      refine we_then_ret ?_
      refine we_ret1 (.bool true) rfl rfl rfl (fun w1 hE => ?_)
      exact ⟨rfl, hE.below⟩
    ·
     skip
     have p8 : gi < 0 := of_decide_eq_true h8
     refine wl_call_open (ι := Pz) (fun zz => match zz with | zk20 => ⟨g7, #[.int .i64 f, .slice zk5.tp zk5.O.length zk5.tc], 34⟩ :: ⟨g6, #[.int .i64 f, .slice zk5.pp zk5.O.length zk5.pc], 31⟩ :: ⟨g1, #[.slice p G.length c, .slice q H.length d], 25⟩ :: (zk5.N ++ zk20.N)) 13 #[.agg #[.int .i64 f, .slice zk5.pp zk5.O.length zk5.pc], .agg #[.slice p G.length c, .slice q H.length d], .int .i64 gi] (fun zz => match zz with | zk20 => .slice zk20.p 0 zk20.c) (fun zz => match zz with | zk20 => zk20.N) (fun zz => match zz with | zk20 => Held zk20.N zk20.p (flat enc1 [])) (by rintro zk20; simp) rfl (fun _ => by go_simp) (fun W hE => places_out gi G H _ _ _ _ s f zk5.O _ _ W ((sl_old hS) W hE) (oks_below hG hE.below) ((sl_old hH) W hE) hM ok9 ((sl_held k5.prog (List.Sublist.cons _ (List.Sublist.cons _ (List.Sublist.cons _ (List.Sublist.refl _))))) W hE) (by omega) hgi) ?_
     rintro zk20 k20
     (try dsimp only)
     simp only [Act.put, Xa, Xz, Xs]
     refine wl_val (.slice zk20.p 0 zk20.c) rfl (fun _ => rfl) ?_
     simp only [Act.put, Xa, Xz, Xs]
     refine wl_nil ?_
     refine we_then ?_
     refine wc_seq ?_
     refine wc_seq ?_
     refine wc_region ?_
     refine wl_val (.int .i64 gi) rfl (fun _ => rfl) ?_
     simp only [Act.put, Xa, Xz, Xs]
     refine wl_val (.bool true) rfl (fun w => run_cmp (b := true) rfl rfl rfl Try.underlying3 (by exact congrArg some h8) w) ?_
     simp only [Act.put, Xa, Xz, Xs]
     refine wl_val (.bool true) rfl (fun _ => rfl) ?_
     simp only [Act.put, Xa, Xz, Xs]
     refine wl_skip rfl ?_
     simp only [Act.put, Xa, Xz, Xs]
     refine wl_skip rfl ?_
     simp only [Act.put, Xa, Xz, Xs]
     refine wl_skip rfl ?_
     simp only [Act.put, Xa, Xz, Xs]
     refine wl_skip rfl ?_
     simp only [Act.put, Xa, Xz, Xs]
     refine wl_skip rfl ?_
     simp only [Act.put, Xa, Xz, Xs]
     refine wl_val (.bool true) rfl (fun _ => rfl) ?_
     simp only [Act.put, Xa, Xz, Xs]
     refine wl_nil ?_
     refine we_then ?_
     refine wc_true rfl ?_
     refine wc_seq ?_
     refine wc_region ?_
     refine wl_val (.slice zk20.p 0 zk20.c) rfl (fun _ => rfl) ?_
     simp only [Act.put, Xa, Xz, Xs]
     refine wl_val (.int .i64 0) rfl (fun w => er_len rfl rfl Try.underlying49 w) ?_
     simp only [Act.put, Xa, Xz, Xs]
     refine wl_val (.bool true) rfl (fun w => run_cmp rfl rfl rfl Try.underlying3 rfl w) ?_
     simp only [Act.put, Xa, Xz, Xs]
     refine wl_val (.bool true) rfl (fun _ => rfl) ?_
     simp only [Act.put, Xa, Xz, Xs]
     refine wl_nil ?_
     refine we_then ?_
     refine wc_ret ?_
     refine we_then_ret ?_
     refine we_ret1 (.bool true) rfl rfl rfl (fun w1 hE => ?_)
     exact ⟨rfl, hE.below⟩
   ·
    skip
    have p4 : (L.length : Int) = 0 := by first | (simp; done) | (simp at h4; done) | simpa using h4
    refine wc_true rfl ?_
    refine wc_seq ?_
    refine wc_region ?_
    refine wl_val (.bool true) rfl (fun _ => rfl) ?_
    simp only [Act.put, Xa, Xz, Xs]
    refine wl_nil ?_
    refine we_then ?_
    refine wc_ret ?_
    refine we_then_ret ?_
    refine we_ret1 (.bool true) rfl rfl rfl (fun w1 hE => ?_)
    exact ⟨rfl, hE.below⟩
  ·
   skip
   have p3 : 20 < (L.length : Int) := of_decide_eq_true h3
   refine wl_skip rfl ?_
   simp only [Act.put, Xa, Xz, Xs]
   refine wl_skip rfl ?_
   simp only [Act.put, Xa, Xz, Xs]
   refine wl_skip rfl ?_
   simp only [Act.put, Xa, Xz, Xs]
   refine wl_val (.bool true) rfl (fun _ => rfl) ?_
   simp only [Act.put, Xa, Xz, Xs]
   refine wl_nil ?_
   refine we_then ?_
   refine wc_true rfl ?_
   refine wc_seq ?_
   refine wc_region ?_
   refine wl_val (.bool true) rfl (fun _ => rfl) ?_
   simp only [Act.put, Xa, Xz, Xs]
   refine wl_nil ?_
   refine we_then ?_
   refine wc_ret ?_
   refine we_then_ret ?_
   refine we_ret1 (.bool true) rfl rfl rfl (fun w1 hE => ?_)
   exact ⟨rfl, hE.below⟩
end Go.Proofs.Ytkbaponpebkpiaa.Walks
