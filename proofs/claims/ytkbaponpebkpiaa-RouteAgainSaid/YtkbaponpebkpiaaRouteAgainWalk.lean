/-
 RouteAgain: the law's walk. No condition.
-/
import Derived.Test.YtkbaponpebkpiaaRtlw
namespace Go.Proofs.Ytkbaponpebkpiaa.Walks
open Go.ChangeShapes Go.WideShapes Go.ChangeAt Go.RowKit
open Arr Steady Sx Sw Sl Sb Sc Si Sj Sk Sh Vs Gr Tk Tkh Tkl Rt Rtm Rtg Rtp Rtk Rts Tkrefs14 Rtla Rtsm Shh Sfn Rtlb Rtlc
set_option linter.unusedVariables false
set_option linter.unusedSimpArgs false
set_option maxRecDepth 100000

set_option maxHeartbeats 8000000 in
theorem routeAgain_walk (G : List Sg) (H : List Gp) (p q : Option Addr) (c d : Nat) (s : Int) (ws : (Lit.int .i64 s).wf = true) (f : Int) (wf : (Lit.int .i64 f).wf = true) (lo : Int) (wlo : (Lit.int .i64 lo).wf = true) (hi : Int) (whi : (Lit.int .i64 hi).wf = true) (l2 : Int) (wl2 : (Lit.int .i64 l2).wf = true) (h2 : Int) (wh2 : (Lit.int .i64 h2).wf = true) (w : World) (hS : Reads w p (flat sg G)) (hG : OkS w G) (hH : Reads w q (flat gp H)) (hn : G.length ≤ 140737488355328) (hm : H.length ≤ 140737488355328) (hcc : G.length ≤ c) (hcd : H.length ≤ d) (hC : ∀ s ∈ G, s.X.length ≤ s.nc) :
  Calls Try.prog 6 #[.agg #[.slice p G.length c, .slice q H.length d], .int .i64 s, .int .i64 f, .agg #[.int .i64 lo, .int .i64 hi], .agg #[.int .i64 l2, .int .i64 h2]] w fun e w' => e = .returned (.bool true) ∧ Below w.heap.size w w' := by
 refine calls_sx Try.func6 rfl ?_
 simp only [Try.ntmps6, List.size_toArray, List.length_cons, List.length_nil, Nat.reduceAdd, Nat.reduceSub, Array.replicate_succ, Array.replicate_zero, List.push_toArray, List.append_toArray, List.nil_append, List.cons_append]
 refine wc_seq ?_
 refine wc_region ?_
 refine wl_new 25 (#[.slice p G.length c, .slice q H.length d]) rfl (fun _ => by go_simp) ?_
 intro g1
 simp only [Act.put, Xa, Xz, Xs]
 refine wl_new 53 (#[.int .i64 lo, .int .i64 hi]) rfl (fun _ => by go_simp) ?_
 intro g2
 simp only [Act.put, Xa, Xz, Xs]
 refine wl_new 53 (#[.int .i64 l2, .int .i64 h2]) rfl (fun _ => by go_simp) ?_
 intro g3
 simp only [Act.put, Xa, Xz, Xs]
 refine wl_val (.bool false) rfl (fun _ => rfl) ?_
 simp only [Act.put, Xa, Xz, Xs]
 refine wl_nil ?_
 refine we_then ?_
 refine wc_seq ?_
 refine wc_seq ?_
 refine wc_region ?_
 refine wl_call 7 #[] (.bool true) rfl (fun _ => by go_simp) (fun W => Rtlw.anchor_any W) ?_
 simp only [Act.put, Xa, Xz, Xs]
 refine wl_val (.bool false) rfl (fun _ => by go_simp) ?_
 simp only [Act.put, Xa, Xz, Xs]
 refine wl_nil ?_
 refine we_then ?_
 refine wc_false rfl ?_
 refine wc_skip ?_
 refine we_then ?_
 refine wc_seq ?_
 refine wc_seq ?_
 refine wc_region ?_
 refine wl_load 25 (.tmp 5) (own_row 2 rfl) rfl rfl rfl Try.underlying25 rfl (by kernel_rfl) ?_
 simp only [Act.put, Xa, Xz, Xs]
 refine wl_val (.int .i64 s) rfl (fun _ => rfl) ?_
 simp only [Act.put, Xa, Xz, Xs]
 refine wl_val (.int .i64 f) rfl (fun _ => rfl) ?_
 simp only [Act.put, Xa, Xz, Xs]
 refine wl_call_at 8 #[.agg #[.slice p G.length c, .slice q H.length d], .int .i64 s, .int .i64 f] (.bool (mayT G H s f)) rfl (fun _ => by go_simp) (fun W hE => may_any s f G H _ _ _ _ W ((sl_old hS) W hE) (oks_below hG hE.below) ((sl_old hH) W hE) hn hm) ?_
 simp only [Act.put, Xa, Xz, Xs]
 refine wl_val (.bool (!(mayT G H s f))) rfl (fun _ => by go_simp) ?_
 simp only [Act.put, Xa, Xz, Xs]
 refine wl_nil ?_
 refine we_then ?_
 cases h4 : (mayT G H s f)
 ·
  skip
  refine wc_true rfl ?_
  refine wc_seq ?_
  refine wc_region ?_
  refine wl_val (.bool true) rfl (fun _ => rfl) ?_
  simp only [Act.put, Xa, Xz, Xs]
  refine wl_nil ?_
  refine we_then ?_
  refine wc_ret ?_
  refine we_then_ret ?_
  refine we_ret1 (.bool true) rfl rfl rfl (fun w1 hE => ?_)
  exact ⟨rfl, hE.below⟩
 ·
  skip
  refine wc_false rfl ?_
  refine wc_skip ?_
  refine we_then ?_
  refine wc_seq ?_
  have hmt := mayT_of h4
  have hM := hmt.1
  have hs := hmt.2.1
  have hf := hmt.2.2
  have hlen := (hM.segs s.toNat (by omega)).high
  have hlo := i64_of_wf wlo
  have hhi := i64_of_wf whi
  have hl2 := i64_of_wf wl2
  have hh2 := i64_of_wf wh2
  refine wc_draw_fin (Γ := Pz × Gp2 × Nat) (fun γ9 j9 => [.int .i64 s, .int .i64 f, .agg #[.int .i64 f, .slice γ9.1.p 1 γ9.1.c], .agg #[.slice p G.length c, .slice q H.length d], .agg #[.int .i64 lo, .int .i64 hi], .tuple #[.agg #[.int .i64 γ9.2.1.F, .slice γ9.2.1.p γ9.2.1.X.length γ9.2.1.c], .int .i64 (γ9.2.1.e : Int)], .tuple #[.agg #[.int .i64 γ9.2.1.F, .slice γ9.2.1.p γ9.2.1.X.length γ9.2.1.c], .int .i64 (γ9.2.1.e : Int)], .agg #[.int .i64 γ9.2.1.F, .slice γ9.2.1.p γ9.2.1.X.length γ9.2.1.c], .int .i64 (γ9.2.1.e : Int), .pointer (some ⟨γ9.2.2, 0, none⟩), undef, .int .i64 (γ9.2.1.e : Int)].getD j9 undef) (fun ld γ9 => ((if ld 9 = true then [⟨γ9.2.2, if ld 10 = true then #[.int .i64 γ9.2.1.F, .slice γ9.2.1.p γ9.2.1.X.length γ9.2.1.c] else #[.int .i64 0, .slice none 0 0], 31⟩] else []) ++ ((if ld 5 = true then γ9.2.1.N else []) ++ ((if ld 2 = true then γ9.1.N else []) ++ [⟨g3, #[.int .i64 l2, .int .i64 h2], 53⟩, ⟨g2, #[.int .i64 lo, .int .i64 hi], 53⟩, ⟨g1, #[.slice p G.length c, .slice q H.length d], 25⟩])))) (fun ld γ9 => (ld 2 = true → Held γ9.1.N γ9.1.p (flat rt [[s]])) ∧ (ld 5 = true → Gp2Ok G f hi lo [[s]] γ9.2.1) ∧ True) ((⟨none, 0, []⟩, ⟨0, 0, none, [], 0, []⟩, 0)) 116 (fun γ9 => ({ tmps := #[.agg #[.slice p G.length c, .slice q H.length d], .int .i64 s, .int .i64 f, .agg #[.int .i64 lo, .int .i64 hi], .agg #[.int .i64 l2, .int .i64 h2], .pointer (some ⟨g1, 0, none⟩), undef, undef, .pointer (some ⟨g2, 0, none⟩), .pointer (some ⟨g3, 0, none⟩), .bool false, .pointer (some ⟨γ9.2.2, 0, none⟩), .int .i64 (γ9.2.1.e : Int), undef, undef, undef, undef, undef, .bool true, .bool false, .agg #[.slice p G.length c, .slice q H.length d], .int .i64 s, .int .i64 f, .bool true, .bool false, .tuple #[.agg #[.int .i64 γ9.2.1.F, .slice γ9.2.1.p γ9.2.1.X.length γ9.2.1.c], .int .i64 (γ9.2.1.e : Int)], .int .i64 s, .int .i64 f, .agg #[.int .i64 f, .slice γ9.1.p 1 γ9.1.c], .agg #[.slice p G.length c, .slice q H.length d], .agg #[.int .i64 lo, .int .i64 hi], .tuple #[.agg #[.int .i64 γ9.2.1.F, .slice γ9.2.1.p γ9.2.1.X.length γ9.2.1.c], .int .i64 (γ9.2.1.e : Int)], .agg #[.int .i64 γ9.2.1.F, .slice γ9.2.1.p γ9.2.1.X.length γ9.2.1.c], .int .i64 (γ9.2.1.e : Int), undef, undef, undef, undef, undef, undef, undef, undef, undef, undef, undef, undef, undef, undef, undef, undef, undef, undef, undef, undef, undef, undef, undef, undef, undef, undef, undef, undef, undef, undef, undef, undef, undef, undef, undef, undef, undef, undef, undef, undef, undef, undef, undef, undef, undef, undef, undef, undef, undef, undef, undef, undef, undef, undef, undef, undef, undef, undef, undef, undef, undef, undef, undef, undef, undef, undef, undef, undef, undef, undef, undef, undef, undef, undef, undef, undef, undef, undef, undef, undef, undef, undef], defers := [] } : Act)) (fun γ9 => ([⟨γ9.2.2, #[.int .i64 γ9.2.1.F, .slice γ9.2.1.p γ9.2.1.X.length γ9.2.1.c], 31⟩] ++ (γ9.2.1.N ++ (γ9.1.N ++ [⟨g3, #[.int .i64 l2, .int .i64 h2], 53⟩, ⟨g2, #[.int .i64 lo, .int .i64 hi], 53⟩, ⟨g1, #[.slice p G.length c, .slice q H.length d], 25⟩])))) (by kernel_rfl) rfl (by kernel_rfl) rfl (by simp) (fun _ => by kernel_rfl) (fun _ => rfl) ?_ ?_
  ·
   skip
   refine sps_cons (sp_valg (fun γ9 => .int .i64 s) rfl (fun _ => rfl) (fun _ _ h => h) (fun _ _ => rfl) (fun ld γ9 a9 w9 h9 hF9 hE9 => by obtain ⟨zk5, zk6, g7⟩ := γ9; exact run_moveg (by rfl) (h9.out (by kernel_rfl) rfl))) ?_
   refine sps_cons (sp_valg (fun γ9 => .int .i64 f) rfl (fun _ => rfl) (fun _ _ h => h) (fun _ _ => rfl) (fun ld γ9 a9 w9 h9 hF9 hE9 => by obtain ⟨zk5, zk6, g7⟩ := γ9; exact run_moveg (by rfl) (h9.out (by kernel_rfl) rfl))) ?_
   refine sps_cons (sp_open 17 (fun (zk5 : Pz) => .agg #[.int .i64 f, .slice zk5.p 1 zk5.c]) (fun (zk5 : Pz) => zk5.N) (fun (zk5 : Pz) => Held zk5.N zk5.p (flat rt [[s]])) rfl (fun ld γ9 a9 w9 h9 hF9 hE9 => ?_)) ?_
   ·
    obtain ⟨yy, zk6, g7⟩ := γ9
    have dl2 : ld 2 = false := h9.off
    have dl5 : ld 5 = false := h9.non (by kernel_rfl)
    have dl10 : ld 10 = false := h9.non (by kernel_rfl)
    have hS9 := hE9
    dsimp only at hS9
    simp only [dl2, dl5, dl10, if_true, if_false, Bool.false_eq_true, List.nil_append] at hS9
    have hE0 : Env w w9 ([⟨g3, #[.int .i64 l2, .int .i64 h2], 53⟩, ⟨g2, #[.int .i64 lo, .int .i64 hi], 53⟩, ⟨g1, #[.slice p G.length c, .slice q H.length d], 25⟩]) := (hS9.sub (List.sublist_append_right _ _))
    have e0 : a9.eval (.tmp 26) = .int .i64 s := (h9.tmp 0 rfl (h9.dep (by kernel_rfl)))
    have e1 : a9.eval (.tmp 27) = .int .i64 f := (h9.tmp 1 rfl (h9.dep (by kernel_rfl)))
    refine ⟨#[.int .i64 s, .int .i64 f], er_callg (enters_of Try.func17 (by kernel_rfl) rfl) rfl (by simp only [List.map_toArray, List.map_cons, List.map_nil, e0, e1]) w9, (Rou.begin_any s f w9), fun zk5 k5 => ?_⟩
    refine ⟨(zk5, zk6, g7), rfl, ?_, ?_, ?_⟩
    ·
     intro k hk
     have hk2 : k < 12 := h9.within k hk
     have hb : k = 0 ∨ k = 1 ∨ k = 2 ∨ k = 3 ∨ k = 4 ∨ k = 5 ∨ k = 6 ∨ k = 7 ∨ k = 8 ∨ k = 9 ∨ k = 10 ∨ k = 11 := by omega
     rcases hb with rfl | rfl | rfl | rfl | rfl | rfl | rfl | rfl | rfl | rfl | rfl | rfl
     ·
      rfl
     ·
      rfl
     ·
      rw [dl2] at hk; cases hk
     ·
      rfl
     ·
      rfl
     ·
      rfl
     ·
      rfl
     ·
      rfl
     ·
      rfl
     ·
      rfl
     ·
      rfl
     ·
      rfl
    ·
     exact ⟨fun _ => k5, (fun e => by (have e1 : ld 5 = true := e); rw [dl5] at e1; cases e1), trivial⟩
    ·
     skip
     have od2 : Si.one ld 2 2 = true := rfl
     have od5 : Si.one ld 2 5 = ld 5 := rfl
     have od9 : Si.one ld 2 9 = ld 9 := rfl
     have od10 : Si.one ld 2 10 = ld 10 := rfl
     dsimp only
     simp only [od2, od5, od9, od10, dl5, dl10, dl2, if_true, if_false, Bool.false_eq_true, List.nil_append]
     exact pin1 _ _ _
   refine sps_cons (sp_valg (fun γ9 => .agg #[.slice p G.length c, .slice q H.length d]) rfl (fun _ => rfl) (fun _ _ h => h) (fun _ _ => rfl) (fun ld γ9 a9 w9 h9 hF9 hE9 => by obtain ⟨zk5, zk6, g7⟩ := γ9; exact load_row (hE9.row ⟨g1, #[.slice p G.length c, .slice q H.length d], 25⟩ (List.mem_append_right _ (List.mem_append_right _ (List.mem_append_right _ (mem_of_at (i := 2) rfl))))) rfl (h9.out (by kernel_rfl) rfl) Try.underlying25 rfl (by kernel_rfl))) ?_
   refine sps_cons (sp_valg (fun γ9 => .agg #[.int .i64 lo, .int .i64 hi]) rfl (fun _ => rfl) (fun _ _ h => h) (fun _ _ => rfl) (fun ld γ9 a9 w9 h9 hF9 hE9 => by obtain ⟨zk5, zk6, g7⟩ := γ9; exact load_row (hE9.row ⟨g2, #[.int .i64 lo, .int .i64 hi], 53⟩ (List.mem_append_right _ (List.mem_append_right _ (List.mem_append_right _ (mem_of_at (i := 1) rfl))))) rfl (h9.out (by kernel_rfl) rfl) Try.underlying53 rfl (by kernel_rfl))) ?_
   refine sps_cons (sp_open 18 (fun (zk6 : Gp2) => .tuple #[.agg #[.int .i64 zk6.F, .slice zk6.p zk6.X.length zk6.c], .int .i64 (zk6.e : Int)]) (fun (zk6 : Gp2) => zk6.N) (fun (zk6 : Gp2) => Gp2Ok G f hi lo [[s]] zk6) rfl (fun ld γ9 a9 w9 h9 hF9 hE9 => ?_)) ?_
   ·
    obtain ⟨zk5, yy, g7⟩ := γ9
    have dl5 : ld 5 = false := h9.off
    have dl2 : ld 2 = true := h9.dep (by kernel_rfl)
    have dl10 : ld 10 = false := h9.non (by kernel_rfl)
    have k5 := hF9.1 dl2
    have hS9 := hE9
    dsimp only at hS9
    simp only [dl2, dl5, dl10, if_true, if_false, Bool.false_eq_true, List.nil_append] at hS9
    have hE0 : Env w w9 (⟨g3, #[.int .i64 l2, .int .i64 h2], 53⟩ :: ⟨g2, #[.int .i64 lo, .int .i64 hi], 53⟩ :: ⟨g1, #[.slice p G.length c, .slice q H.length d], 25⟩ :: zk5.N) := Env.perm (hS9.sub (List.sublist_append_right _ _)) ((pf1 [] _ _).trans (List.Perm.of_eq (by first | rfl | simp only [List.append_assoc, List.cons_append, List.nil_append])))
    have e0 : a9.eval (.tmp 28) = .agg #[.int .i64 f, .slice zk5.p 1 zk5.c] := (h9.tmp 2 rfl (h9.dep (by kernel_rfl)))
    have e1 : a9.eval (.tmp 29) = .agg #[.slice p G.length c, .slice q H.length d] := (h9.tmp 3 rfl (h9.dep (by kernel_rfl)))
    have e2 : a9.eval (.tmp 30) = .agg #[.int .i64 lo, .int .i64 hi] := (h9.tmp 4 rfl (h9.dep (by kernel_rfl)))
    refine ⟨#[.agg #[.int .i64 f, .slice zk5.p 1 zk5.c], .agg #[.slice p G.length c, .slice q H.length d], .agg #[.int .i64 lo, .int .i64 hi]], er_callg (enters_of Try.func18 (by kernel_rfl) rfl) rfl (by simp only [List.map_toArray, List.map_cons, List.map_nil, e0, e1, e2]) w9, (grow_gen lo hi G H _ _ _ _ s f f [[s]] 1 _ _ w9 ((sl_old hS) w9 hE0) (oks_below hG hE0.below) ((sl_old hH) w9 hE0) hM rfl rfl (begin_ok hs hf) ((sl_held k5 (List.Sublist.cons _ (List.Sublist.cons _ (List.Sublist.cons _ (List.Sublist.refl _))))) w9 hE0) hlo hhi hC), fun zk6 k6 => ?_⟩
    refine ⟨(zk5, zk6, g7), rfl, ?_, ?_, ?_⟩
    have dl6 : ld 6 = false := h9.non (by kernel_rfl)
    have dl7 : ld 7 = false := h9.non2 6 dl6 (by kernel_rfl)
    have dl8 : ld 8 = false := h9.non2 6 dl6 (by kernel_rfl)
    have dl11 : ld 11 = false := h9.non (by kernel_rfl)
    ·
     intro k hk
     have hk2 : k < 12 := h9.within k hk
     have hb : k = 0 ∨ k = 1 ∨ k = 2 ∨ k = 3 ∨ k = 4 ∨ k = 5 ∨ k = 6 ∨ k = 7 ∨ k = 8 ∨ k = 9 ∨ k = 10 ∨ k = 11 := by omega
     rcases hb with rfl | rfl | rfl | rfl | rfl | rfl | rfl | rfl | rfl | rfl | rfl | rfl
     ·
      rfl
     ·
      rfl
     ·
      rfl
     ·
      rfl
     ·
      rfl
     ·
      rw [dl5] at hk; cases hk
     ·
      rw [dl6] at hk; cases hk
     ·
      rw [dl7] at hk; cases hk
     ·
      rw [dl8] at hk; cases hk
     ·
      rfl
     ·
      rfl
     ·
      rw [dl11] at hk; cases hk
    ·
     exact ⟨fun _ => k5, fun _ => k6, trivial⟩
    ·
     skip
     have od2 : Si.one ld 5 2 = ld 2 := rfl
     have od5 : Si.one ld 5 5 = true := rfl
     have od9 : Si.one ld 5 9 = ld 9 := rfl
     have od10 : Si.one ld 5 10 = ld 10 := rfl
     dsimp only
     simp only [od2, od5, od9, od10, dl2, dl10, dl5, if_true, if_false, Bool.false_eq_true, List.nil_append]
     exact pin1 _ _ _
   refine sps_cons (sp_valg (fun γ9 => .tuple #[.agg #[.int .i64 γ9.2.1.F, .slice γ9.2.1.p γ9.2.1.X.length γ9.2.1.c], .int .i64 (γ9.2.1.e : Int)]) rfl (fun _ => rfl) (fun _ _ h => h) (fun _ _ => rfl) (fun ld γ9 a9 w9 h9 hF9 hE9 => by obtain ⟨zk5, zk6, g7⟩ := γ9; exact run_moveg (by rfl) (h9.tmp 5 rfl (h9.dep (by kernel_rfl))))) ?_
   refine sps_cons (sp_valg (fun γ9 => .agg #[.int .i64 γ9.2.1.F, .slice γ9.2.1.p γ9.2.1.X.length γ9.2.1.c]) rfl (fun _ => rfl) (fun _ _ h => h) (fun _ _ => rfl) (fun ld γ9 a9 w9 h9 hF9 hE9 => by obtain ⟨zk5, zk6, g7⟩ := γ9; exact run_extractg (by rfl) (h9.tmp 6 rfl (h9.dep (by kernel_rfl))) rfl)) ?_
   refine sps_cons (sp_valg (fun γ9 => .int .i64 (γ9.2.1.e : Int)) rfl (fun _ => rfl) (fun _ _ h => h) (fun _ _ => rfl) (fun ld γ9 a9 w9 h9 hF9 hE9 => by obtain ⟨zk5, zk6, g7⟩ := γ9; exact run_extractg (by rfl) (h9.tmp 6 rfl (h9.dep (by kernel_rfl))) rfl)) ?_
   refine sps_cons (sp_alloc (#[.int .i64 0, .slice none 0 0]) 31 rfl (fun a9 w9 => by go_simp) (fun ld γ9 a9 n9 h9 hF9 => ?_)) ?_
   ·
    obtain ⟨zk5, zk6, yy⟩ := γ9
    have dl9 : ld 9 = false := h9.off
    have dl10 : ld 10 = false := h9.non (by kernel_rfl)
    refine ⟨(zk5, zk6, n9), rfl, ?_, hF9, ?_⟩
    ·
     intro k hk
     have hk2 : k < 12 := h9.within k hk
     have hb : k = 0 ∨ k = 1 ∨ k = 2 ∨ k = 3 ∨ k = 4 ∨ k = 5 ∨ k = 6 ∨ k = 7 ∨ k = 8 ∨ k = 9 ∨ k = 10 ∨ k = 11 := by omega
     rcases hb with rfl | rfl | rfl | rfl | rfl | rfl | rfl | rfl | rfl | rfl | rfl | rfl
     ·
      rfl
     ·
      rfl
     ·
      rfl
     ·
      rfl
     ·
      rfl
     ·
      rfl
     ·
      rfl
     ·
      rfl
     ·
      rfl
     ·
      rw [dl9] at hk; cases hk
     ·
      rfl
     ·
      rfl
    ·
     skip
     have od2 : Si.one ld 9 2 = ld 2 := rfl
     have od5 : Si.one ld 9 5 = ld 5 := rfl
     have od9 : Si.one ld 9 9 = true := rfl
     have od10 : Si.one ld 9 10 = ld 10 := rfl
     dsimp only
     simp only [od2, od5, od9, od10, dl10, dl9, if_true, if_false, Bool.false_eq_true, List.nil_append]
     exact pin0 [_] _
   refine sps_cons (sp_put 31 (.tmp 11) (.tmp 32) rfl rfl (fun ld γ9 a9 h9 hF9 => ?_)) ?_
   ·
    obtain ⟨zk5, zk6, g7⟩ := γ9
    have dl10 : ld 10 = false := h9.off
    have dl9 : ld 9 = true := h9.dep (by kernel_rfl)
    have dl2 : ld 2 = true := h9.dep (by kernel_rfl)
    have dl5 : ld 5 = true := h9.dep (by kernel_rfl)
    refine ⟨g7, #[.int .i64 zk6.F, .slice zk6.p zk6.X.length zk6.c], #[.int .i64 0, .slice none 0 0], 31, ((if ld 5 = true then zk6.N else []) ++ ((if ld 2 = true then zk5.N else []) ++ [⟨g3, #[.int .i64 l2, .int .i64 h2], 53⟩, ⟨g2, #[.int .i64 lo, .int .i64 hi], 53⟩, ⟨g1, #[.slice p G.length c, .slice q H.length d], 25⟩])), (h9.tmp 9 rfl (h9.dep (by kernel_rfl))), (h9.tmp 7 rfl (h9.dep (by kernel_rfl))), (by kernel_rfl), rfl, (by simp [Value.oneCell']), ?_, rfl, hF9, ?_⟩
    ·
     dsimp only
     simp only [dl9, dl10, if_true, if_false, Bool.false_eq_true]
     exact (pin0 [_] _).symm
    ·
     skip
     have od2 : Si.one ld 10 2 = ld 2 := rfl
     have od5 : Si.one ld 10 5 = ld 5 := rfl
     have od9 : Si.one ld 10 9 = ld 9 := rfl
     have od10 : Si.one ld 10 10 = true := rfl
     dsimp only
     simp only [od2, od5, od9, od10, dl2, dl5, dl9, dl10, if_true, if_false, Bool.false_eq_true, List.nil_append]
     exact pin0 [_] _
   refine sps_cons (sp_valg (fun γ9 => .int .i64 (γ9.2.1.e : Int)) rfl (fun _ => rfl) (fun _ _ h => h) (fun _ _ => rfl) (fun ld γ9 a9 w9 h9 hF9 hE9 => by obtain ⟨zk5, zk6, g7⟩ := γ9; exact run_assigng (by rfl) (h9.tmp 8 rfl (h9.dep (by kernel_rfl))))) ?_
   exact sps_nil
  rintro ⟨zk5, zk6, g7⟩ ⟨k5, k6, -⟩
  replace k5 := k5 (by decide)
  (try dsimp only at k5)
  replace k6 := k6 (by decide)
  (try dsimp only at k6)
  (try dsimp only)
  refine we_perm (R' := ⟨g7, #[.int .i64 zk6.F, .slice zk6.p zk6.X.length zk6.c], 31⟩ :: ⟨g3, #[.int .i64 l2, .int .i64 h2], 53⟩ :: ⟨g2, #[.int .i64 lo, .int .i64 hi], 53⟩ :: ⟨g1, #[.slice p G.length c, .slice q H.length d], 25⟩ :: (zk5.N ++ zk6.N)) ((pf2 [⟨g7, #[.int .i64 zk6.F, .slice zk6.p zk6.X.length zk6.c], 31⟩] _ _ _).trans (List.Perm.of_eq (by first | rfl | simp only [List.append_assoc, List.cons_append, List.nil_append]))) ?_
  have fw1 : zk6.e = 0 → zk6.F = f := k6.frm
  refine we_then ?_
  refine wc_seq ?_
  refine wc_seq ?_
  refine wc_region ?_
  refine wl_val (.int .i64 (zk6.e : Int)) rfl (fun _ => rfl) ?_
  simp only [Act.put, Xa, Xz, Xs]
  refine wl_val (.bool ((zk6.e : Int) != 0)) rfl (fun w => run_cmp rfl rfl rfl Try.underlying64 rfl w) ?_
  simp only [Act.put, Xa, Xz, Xs]
  refine wl_nil ?_
  refine we_then ?_
  cases h8 : ((zk6.e : Int) != 0)
  ·
   skip
   have p8 : ¬ ((zk6.e : Int) ≠ 0) := by first | (simp; done) | (simp at h8; done) | simpa using h8
   refine wc_false rfl ?_
   refine wc_skip ?_
   refine we_then ?_
   refine wc_seq ?_
   have gw1 : growS G f hi [[s]] lo = (0, zk6.X) := by have x := k6.is; rwa [show zk6.e = 0 by omega] at x
   have gw0 := (grow_yes hM.segs (begin_ok hs hf).wf gw1).1
   have okX := grow_ok hM.segs (begin_ok hs hf) gw1
   have cw1 := okX.few
   refine wc_region ?_
   refine wl_load 31 (.tmp 11) (own_row 0 rfl) rfl rfl rfl Try.underlying31 rfl (by kernel_rfl) ?_
   simp only [Act.put, Xa, Xz, Xs]
   refine wl_load 25 (.tmp 5) (own_row 3 rfl) rfl rfl rfl Try.underlying25 rfl (by kernel_rfl) ?_
   simp only [Act.put, Xa, Xz, Xs]
   refine wl_load 53 (.tmp 8) (own_row 2 rfl) rfl rfl rfl Try.underlying53 rfl (by kernel_rfl) ?_
   simp only [Act.put, Xa, Xz, Xs]
   refine wl_call_open (ι := Pz) (fun zz => match zz with | zk9 => ⟨g7, #[.int .i64 zk6.F, .slice zk6.p zk6.X.length zk6.c], 31⟩ :: ⟨g3, #[.int .i64 l2, .int .i64 h2], 53⟩ :: ⟨g2, #[.int .i64 lo, .int .i64 hi], 53⟩ :: ⟨g1, #[.slice p G.length c, .slice q H.length d], 25⟩ :: (zk5.N ++ (zk6.N ++ zk9.N))) 18 #[.agg #[.int .i64 zk6.F, .slice zk6.p zk6.X.length zk6.c], .agg #[.slice p G.length c, .slice q H.length d], .agg #[.int .i64 lo, .int .i64 hi]] (fun zz => match zz with | zk9 => .tuple #[.agg #[.int .i64 f, .slice zk9.p zk6.X.length zk9.c], .int .i64 0]) (fun zz => match zz with | zk9 => zk9.N) (fun zz => match zz with | zk9 => Held zk9.N zk9.p (flat rt zk6.X)) (by rintro zk9; simp) rfl (fun _ => by go_simp) (fun W hE => again_any lo hi G H _ _ _ _ s f zk6.F zk6.X zk6.X.length _ _ W ((sl_old hS) W hE) (oks_below hG hE.below) ((sl_old hH) W hE) hM (fw1 (by omega)) rfl okX ((sl_held k6.held (List.Sublist.cons _ (List.Sublist.cons _ (List.Sublist.cons _ (List.Sublist.cons _ (List.sublist_append_of_sublist_right (List.Sublist.refl _))))))) W hE) hlo hhi (again_same hM.segs (begin_ok hs hf) gw1 (Int.le_refl _) (by omega)) hC) ?_
   rintro zk9 k9
   (try dsimp only)
   simp only [Act.put, Xa, Xz, Xs]
   refine wl_val (.tuple #[.agg #[.int .i64 f, .slice zk9.p zk6.X.length zk9.c], .int .i64 0]) rfl (fun _ => rfl) ?_
   simp only [Act.put, Xa, Xz, Xs]
   refine wl_val (.agg #[.int .i64 f, .slice zk9.p zk6.X.length zk9.c]) rfl (fun _ => by go_simp) ?_
   simp only [Act.put, Xa, Xz, Xs]
   refine wl_val (.int .i64 0) rfl (fun _ => by go_simp) ?_
   simp only [Act.put, Xa, Xz, Xs]
   refine wl_new 31 (#[.int .i64 0, .slice none 0 0]) rfl (fun _ => by go_simp) ?_
   intro g10
   simp only [Act.put, Xa, Xz, Xs]
   refine wl_store 0 31 (.tmp 13) (.tmp 41) (#[.int .i64 f, .slice zk9.p zk6.X.length zk9.c]) rfl rfl rfl rfl rfl (by kernel_rfl) rfl (by simp [Value.oneCell']) ?_
   simp only [Act.put, List.set_cons_zero]
   refine wl_val (.int .i64 0) rfl (fun _ => rfl) ?_
   simp only [Act.put, Xa, Xz, Xs]
   refine wl_nil ?_
   refine we_then ?_
   refine wc_seq ?_
   refine wc_seq ?_
   refine wc_region ?_
   refine wl_val (.int .i64 0) rfl (fun _ => rfl) ?_
   simp only [Act.put, Xa, Xz, Xs]
   refine wl_val (.bool false) rfl (fun w => run_cmp rfl rfl rfl Try.underlying64 rfl w) ?_
   simp only [Act.put, Xa, Xz, Xs]
   refine wl_val (.bool false) rfl (fun _ => rfl) ?_
   simp only [Act.put, Xa, Xz, Xs]
   refine wl_val (.pointer (some ⟨g10, 1, none⟩)) rfl (fun _ => by go_simp) ?_
   simp only [Act.put, Xa, Xz, Xs]
   refine wl_cell 29 (.tmp 46) (.slice zk9.p zk6.X.length zk9.c) (own_row 0 rfl) rfl rfl rfl rfl Try.isAgg29 ?_
   simp only [Act.put, Xa, Xz, Xs]
   refine wl_val (.int .i64 (zk6.X.length : Int)) rfl (fun w => er_len rfl rfl Try.underlying29 w) ?_
   simp only [Act.put, Xa, Xz, Xs]
   refine wl_val (.pointer (some ⟨g7, 1, none⟩)) rfl (fun _ => by go_simp) ?_
   simp only [Act.put, Xa, Xz, Xs]
   refine wl_cell 29 (.tmp 49) (.slice zk6.p zk6.X.length zk6.c) (own_row 1 rfl) rfl rfl rfl rfl Try.isAgg29 ?_
   simp only [Act.put, Xa, Xz, Xs]
   refine wl_val (.int .i64 (zk6.X.length : Int)) rfl (fun w => er_len rfl rfl Try.underlying29 w) ?_
   simp only [Act.put, Xa, Xz, Xs]
   refine wl_val (.bool false) rfl (fun w => run_cmp (b := false) rfl rfl rfl Try.underlying3 (by simp [cmpOf]) w) ?_
   simp only [Act.put, Xa, Xz, Xs]
   refine wl_val (.bool false) rfl (fun _ => rfl) ?_
   simp only [Act.put, Xa, Xz, Xs]
   refine wl_val (.bool false) rfl (fun _ => rfl) ?_
   simp only [Act.put, Xa, Xz, Xs]
   refine wl_val (.pointer (some ⟨g10, 0, none⟩)) rfl (fun _ => by go_simp) ?_
   simp only [Act.put, Xa, Xz, Xs]
   refine wl_cell 2 (.tmp 55) (.int .i64 f) (own_row 0 rfl) rfl rfl rfl rfl Try.isAgg2 ?_
   simp only [Act.put, Xa, Xz, Xs]
   refine wl_val (.pointer (some ⟨g7, 0, none⟩)) rfl (fun _ => by go_simp) ?_
   simp only [Act.put, Xa, Xz, Xs]
   refine wl_cell 2 (.tmp 57) (.int .i64 zk6.F) (own_row 1 rfl) rfl rfl rfl rfl Try.isAgg2 ?_
   simp only [Act.put, Xa, Xz, Xs]
   refine wl_val (.bool (f != zk6.F)) rfl (fun w => run_cmp rfl rfl rfl Try.underlying2 rfl w) ?_
   simp only [Act.put, Xa, Xz, Xs]
   refine wl_val (.bool (f != zk6.F)) rfl (fun _ => rfl) ?_
   simp only [Act.put, Xa, Xz, Xs]
   refine wl_nil ?_
   refine we_then ?_
   cases h11 : (f != zk6.F)
   ·
    skip
    have p11 : ¬ (f ≠ zk6.F) := by first | (simp; done) | (simp at h11; done) | simpa using h11
    refine wc_false rfl ?_
    refine wc_skip ?_
    refine we_then ?_
    refine wc_seq ?_
    refine wc_seq ?_
    refine wc_region ?_
    refine wl_val (.pointer (some ⟨g10, 1, none⟩)) rfl (fun _ => by go_simp) ?_
    simp only [Act.put, Xa, Xz, Xs]
    refine wl_cell 29 (.tmp 61) (.slice zk9.p zk6.X.length zk9.c) (own_row 0 rfl) rfl rfl rfl rfl Try.isAgg29 ?_
    simp only [Act.put, Xa, Xz, Xs]
    refine wl_val (.int .i64 (zk6.X.length : Int)) rfl (fun w => er_len rfl rfl Try.underlying29 w) ?_
    simp only [Act.put, Xa, Xz, Xs]
    refine wl_val (.int .i64 0) rfl (fun _ => rfl) ?_
    simp only [Act.put, Xa, Xz, Xs]
    refine wl_nil ?_
    refine we_then ?_
    refine wc_block ?_
    refine wc_loop (fun (zz : Nat × Value × Value × Value × Value × Value × Value × Value × Value × Value × Value × Value × Value × Value × Value × Value × Value) => match zz with | ⟨i, u10, u15, u65, u66, u67, u68, u69, u70, u71, u72, u73, u74, u75, u76, u77, u78⟩ => ({ tmps := #[.agg #[.slice p G.length c, .slice q H.length d], .int .i64 s, .int .i64 f, .agg #[.int .i64 lo, .int .i64 hi], .agg #[.int .i64 l2, .int .i64 h2], .pointer (some ⟨g1, 0, none⟩), undef, undef, .pointer (some ⟨g2, 0, none⟩), .pointer (some ⟨g3, 0, none⟩), u10, .pointer (some ⟨g7, 0, none⟩), .int .i64 (zk6.e : Int), .pointer (some ⟨g10, 0, none⟩), .int .i64 0, u15, undef, undef, .bool true, .bool false, .agg #[.slice p G.length c, .slice q H.length d], .int .i64 s, .int .i64 f, .bool true, .bool false, .tuple #[.agg #[.int .i64 zk6.F, .slice zk6.p zk6.X.length zk6.c], .int .i64 (zk6.e : Int)], .int .i64 s, .int .i64 f, .agg #[.int .i64 f, .slice zk5.p 1 zk5.c], .agg #[.slice p G.length c, .slice q H.length d], .agg #[.int .i64 lo, .int .i64 hi], .tuple #[.agg #[.int .i64 zk6.F, .slice zk6.p zk6.X.length zk6.c], .int .i64 (zk6.e : Int)], .agg #[.int .i64 zk6.F, .slice zk6.p zk6.X.length zk6.c], .int .i64 (zk6.e : Int), .int .i64 (zk6.e : Int), .bool false, .tuple #[.agg #[.int .i64 f, .slice zk9.p zk6.X.length zk9.c], .int .i64 0], .agg #[.int .i64 zk6.F, .slice zk6.p zk6.X.length zk6.c], .agg #[.slice p G.length c, .slice q H.length d], .agg #[.int .i64 lo, .int .i64 hi], .tuple #[.agg #[.int .i64 f, .slice zk9.p zk6.X.length zk9.c], .int .i64 0], .agg #[.int .i64 f, .slice zk9.p zk6.X.length zk9.c], .int .i64 0, .int .i64 0, .bool false, .bool false, .pointer (some ⟨g10, 1, none⟩), .slice zk9.p zk6.X.length zk9.c, .int .i64 (zk6.X.length : Int), .pointer (some ⟨g7, 1, none⟩), .slice zk6.p zk6.X.length zk6.c, .int .i64 (zk6.X.length : Int), .bool false, .bool false, .bool false, .pointer (some ⟨g10, 0, none⟩), .int .i64 f, .pointer (some ⟨g7, 0, none⟩), .int .i64 zk6.F, .bool false, .bool false, .pointer (some ⟨g10, 1, none⟩), .slice zk9.p zk6.X.length zk9.c, .int .i64 (zk6.X.length : Int), .int .i64 (i : Int), u65, u66, u67, u68, u69, u70, u71, u72, u73, u74, u75, u76, u77, u78, undef, undef, undef, undef, undef, undef, undef, undef, undef, undef, undef, undef, undef, undef, undef, undef, undef, undef, undef, undef, undef, undef, undef, undef, undef, undef, undef, undef, undef, undef, undef, undef, undef, undef, undef, undef, undef], defers := [] } : Act)) (fun (zz : Nat × Value × Value × Value × Value × Value × Value × Value × Value × Value × Value × Value × Value × Value × Value × Value × Value) => match zz with | ⟨i, u10, u15, u65, u66, u67, u68, u69, u70, u71, u72, u73, u74, u75, u76, u77, u78⟩ => ⟨g10, #[.int .i64 f, .slice zk9.p zk6.X.length zk9.c], 31⟩ :: ⟨g7, #[.int .i64 zk6.F, .slice zk6.p zk6.X.length zk6.c], 31⟩ :: ⟨g3, #[.int .i64 l2, .int .i64 h2], 53⟩ :: ⟨g2, #[.int .i64 lo, .int .i64 hi], 53⟩ :: ⟨g1, #[.slice p G.length c, .slice q H.length d], 25⟩ :: (zk5.N ++ (zk6.N ++ zk9.N))) (fun (zz : Nat × Value × Value × Value × Value × Value × Value × Value × Value × Value × Value × Value × Value × Value × Value × Value × Value) => match zz with | ⟨i, u10, u15, u65, u66, u67, u68, u69, u70, u71, u72, u73, u74, u75, u76, u77, u78⟩ => i ≤ zk6.X.length) (fun (zz : Nat × Value × Value × Value × Value × Value × Value × Value × Value × Value × Value × Value × Value × Value × Value × Value × Value) => match zz with | ⟨i, u10, u15, u65, u66, u67, u68, u69, u70, u71, u72, u73, u74, u75, u76, u77, u78⟩ => zk6.X.length - i) ⟨0, _, _, _, _, _, _, _, _, _, _, _, _, _, _, _, _⟩ (by (try dsimp only); exact Nat.zero_le _) rfl (List.Sublist.cons_cons _ (List.Sublist.cons_cons _ (List.Sublist.cons_cons _ (List.Sublist.cons_cons _ (List.Sublist.cons_cons _ (List.Sublist.refl _)))))) ?_
    rintro ⟨i, u10, u15, u65, u66, u67, u68, u69, u70, u71, u72, u73, u74, u75, u76, u77, u78⟩ hφ
    (try dsimp only at hφ ⊢)
    refine wc_seq ?_
    refine wc_region ?_
    refine wl_val (.bool (decide ((i : Int) < (zk6.X.length : Int)))) rfl (fun w => run_cmp rfl rfl rfl Try.underlying3 rfl w) ?_
    simp only [Act.put, Xa, Xz, Xs]
    refine wl_nil ?_
    refine we_then ?_
    refine wc_seq ?_
    cases h12 : (decide ((i : Int) < (zk6.X.length : Int)))
    ·
     skip
     have p12 : ¬ ((i : Int) < (zk6.X.length : Int)) := of_decide_eq_false h12
     refine wc_false rfl ?_
     refine wc_exit ?_
     refine we_then_exit ?_
     refine we_then_exit ?_
     refine we_in_here ?_
     refine we_then ?_
     refine wc_seq ?_
     refine wc_seq ?_
     refine wc_region ?_
     refine wl_val (.pointer (some ⟨g3, 0, none⟩)) rfl (fun _ => by go_simp) ?_
     simp only [Act.put, Xa, Xz, Xs]
     refine wl_cell 2 (.tmp 79) (.int .i64 l2) (own_row 2 rfl) rfl rfl rfl rfl Try.isAgg2 ?_
     simp only [Act.put, Xa, Xz, Xs]
     refine wl_val (.pointer (some ⟨g2, 0, none⟩)) rfl (fun _ => by go_simp) ?_
     simp only [Act.put, Xa, Xz, Xs]
     refine wl_cell 2 (.tmp 81) (.int .i64 lo) (own_row 3 rfl) rfl rfl rfl rfl Try.isAgg2 ?_
     simp only [Act.put, Xa, Xz, Xs]
     refine wl_val (.bool (l2 != lo)) rfl (fun w => run_cmp rfl rfl rfl Try.underlying2 rfl w) ?_
     simp only [Act.put, Xa, Xz, Xs]
     refine wl_val (.bool (l2 != lo)) rfl (fun _ => rfl) ?_
     simp only [Act.put, Xa, Xz, Xs]
     cases h13 : (l2 != lo)
     ·
      skip
      have p13 : ¬ (l2 ≠ lo) := by first | (simp; done) | (simp at h13; done) | simpa using h13
      refine wl_val (.pointer (some ⟨g3, 1, none⟩)) rfl (fun _ => by go_simp) ?_
      simp only [Act.put, Xa, Xz, Xs]
      refine wl_cell 2 (.tmp 85) (.int .i64 h2) (own_row 2 rfl) rfl rfl rfl rfl Try.isAgg2 ?_
      simp only [Act.put, Xa, Xz, Xs]
      refine wl_val (.pointer (some ⟨g2, 1, none⟩)) rfl (fun _ => by go_simp) ?_
      simp only [Act.put, Xa, Xz, Xs]
      refine wl_cell 2 (.tmp 87) (.int .i64 hi) (own_row 3 rfl) rfl rfl rfl rfl Try.isAgg2 ?_
      simp only [Act.put, Xa, Xz, Xs]
      refine wl_val (.bool (decide (hi < h2))) rfl (fun w => run_cmp rfl rfl rfl Try.underlying2 rfl w) ?_
      simp only [Act.put, Xa, Xz, Xs]
      refine wl_val (.bool (decide (hi < h2))) rfl (fun _ => rfl) ?_
      simp only [Act.put, Xa, Xz, Xs]
      refine wl_val (.bool (decide (hi < h2))) rfl (fun _ => rfl) ?_
      simp only [Act.put, Xa, Xz, Xs]
      cases h14 : (decide (hi < h2))
      ·
       skip
       have p14 : ¬ (hi < h2) := of_decide_eq_false h14
       refine wl_val (.pointer (some ⟨g3, 0, none⟩)) rfl (fun _ => by go_simp) ?_
       simp only [Act.put, Xa, Xz, Xs]
       refine wl_cell 2 (.tmp 92) (.int .i64 l2) (own_row 2 rfl) rfl rfl rfl rfl Try.isAgg2 ?_
       simp only [Act.put, Xa, Xz, Xs]
       refine wl_val (.pointer (some ⟨g3, 1, none⟩)) rfl (fun _ => by go_simp) ?_
       simp only [Act.put, Xa, Xz, Xs]
       refine wl_cell 2 (.tmp 94) (.int .i64 h2) (own_row 2 rfl) rfl rfl rfl rfl Try.isAgg2 ?_
       simp only [Act.put, Xa, Xz, Xs]
       refine wl_val (.bool (decide (h2 < l2))) rfl (fun w => run_cmp rfl rfl rfl Try.underlying2 rfl w) ?_
       simp only [Act.put, Xa, Xz, Xs]
       refine wl_val (.bool (decide (h2 < l2))) rfl (fun _ => rfl) ?_
       simp only [Act.put, Xa, Xz, Xs]
       refine wl_nil ?_
       refine we_then ?_
       cases h15 : (decide (h2 < l2))
       ·
        skip
        have p15 : ¬ (h2 < l2) := of_decide_eq_false h15
        refine wc_false rfl ?_
        refine wc_skip ?_
        refine we_then ?_
        refine wc_seq ?_
        refine wc_region ?_
        refine wl_load 31 (.tmp 11) (own_row 1 rfl) rfl rfl rfl Try.underlying31 rfl (by kernel_rfl) ?_
        simp only [Act.put, Xa, Xz, Xs]
        refine wl_load 25 (.tmp 5) (own_row 4 rfl) rfl rfl rfl Try.underlying25 rfl (by kernel_rfl) ?_
        simp only [Act.put, Xa, Xz, Xs]
        refine wl_load 53 (.tmp 9) (own_row 2 rfl) rfl rfl rfl Try.underlying53 rfl (by kernel_rfl) ?_
        simp only [Act.put, Xa, Xz, Xs]
        refine wl_call_open (ι := Pz) (fun zz => match zz with | zk16 => ⟨g10, #[.int .i64 f, .slice zk9.p zk6.X.length zk9.c], 31⟩ :: ⟨g7, #[.int .i64 zk6.F, .slice zk6.p zk6.X.length zk6.c], 31⟩ :: ⟨g3, #[.int .i64 l2, .int .i64 h2], 53⟩ :: ⟨g2, #[.int .i64 lo, .int .i64 hi], 53⟩ :: ⟨g1, #[.slice p G.length c, .slice q H.length d], 25⟩ :: (zk5.N ++ (zk6.N ++ (zk9.N ++ zk16.N)))) 18 #[.agg #[.int .i64 zk6.F, .slice zk6.p zk6.X.length zk6.c], .agg #[.slice p G.length c, .slice q H.length d], .agg #[.int .i64 l2, .int .i64 h2]] (fun zz => match zz with | zk16 => .tuple #[.agg #[.int .i64 f, .slice zk16.p zk6.X.length zk16.c], .int .i64 0]) (fun zz => match zz with | zk16 => zk16.N) (fun zz => match zz with | zk16 => Held zk16.N zk16.p (flat rt zk6.X)) (by rintro zk16; simp) rfl (fun _ => by go_simp) (fun W hE => again_any l2 h2 G H _ _ _ _ s f zk6.F zk6.X zk6.X.length _ _ W ((sl_old hS) W hE) (oks_below hG hE.below) ((sl_old hH) W hE) hM (fw1 (by omega)) rfl okX ((sl_held k6.held (List.Sublist.cons _ (List.Sublist.cons _ (List.Sublist.cons _ (List.Sublist.cons _ (List.Sublist.cons _ (List.sublist_append_of_sublist_right (List.sublist_append_left _ _)))))))) W hE) hl2 hh2 (again_same hM.segs (begin_ok hs hf) (by rw [show l2 = lo by omega]; exact gw1) (by omega) (by omega)) hC) ?_
        rintro zk16 k16
        (try dsimp only)
        simp only [Act.put, Xa, Xz, Xs]
        refine wl_val (.tuple #[.agg #[.int .i64 f, .slice zk16.p zk6.X.length zk16.c], .int .i64 0]) rfl (fun _ => rfl) ?_
        simp only [Act.put, Xa, Xz, Xs]
        refine wl_val (.agg #[.int .i64 f, .slice zk16.p zk6.X.length zk16.c]) rfl (fun _ => by go_simp) ?_
        simp only [Act.put, Xa, Xz, Xs]
        refine wl_val (.int .i64 0) rfl (fun _ => by go_simp) ?_
        simp only [Act.put, Xa, Xz, Xs]
        refine wl_new 31 (#[.int .i64 0, .slice none 0 0]) rfl (fun _ => by go_simp) ?_
        intro g17
        simp only [Act.put, Xa, Xz, Xs]
        refine wl_store 0 31 (.tmp 16) (.tmp 103) (#[.int .i64 f, .slice zk16.p zk6.X.length zk16.c]) rfl rfl rfl rfl rfl (by kernel_rfl) rfl (by simp [Value.oneCell']) ?_
        simp only [Act.put, List.set_cons_zero]
        refine wl_val (.int .i64 0) rfl (fun _ => rfl) ?_
        simp only [Act.put, Xa, Xz, Xs]
        refine wl_nil ?_
        refine we_then ?_
        refine wc_seq ?_
        refine wc_region ?_
        refine wl_val (.int .i64 0) rfl (fun _ => rfl) ?_
        simp only [Act.put, Xa, Xz, Xs]
        refine wl_val (.bool true) rfl (fun w => run_cmp rfl rfl rfl Try.underlying64 rfl w) ?_
        simp only [Act.put, Xa, Xz, Xs]
        refine wl_val (.bool true) rfl (fun _ => rfl) ?_
        simp only [Act.put, Xa, Xz, Xs]
        refine wl_val (.pointer (some ⟨g17, 1, none⟩)) rfl (fun _ => by go_simp) ?_
        simp only [Act.put, Xa, Xz, Xs]
        refine wl_cell 29 (.tmp 108) (.slice zk16.p zk6.X.length zk16.c) (own_row 0 rfl) rfl rfl rfl rfl Try.isAgg29 ?_
        simp only [Act.put, Xa, Xz, Xs]
        refine wl_val (.int .i64 (zk6.X.length : Int)) rfl (fun w => er_len rfl rfl Try.underlying29 w) ?_
        simp only [Act.put, Xa, Xz, Xs]
        refine wl_val (.pointer (some ⟨g7, 1, none⟩)) rfl (fun _ => by go_simp) ?_
        simp only [Act.put, Xa, Xz, Xs]
        refine wl_cell 29 (.tmp 111) (.slice zk6.p zk6.X.length zk6.c) (own_row 2 rfl) rfl rfl rfl rfl Try.isAgg29 ?_
        simp only [Act.put, Xa, Xz, Xs]
        refine wl_val (.int .i64 (zk6.X.length : Int)) rfl (fun w => er_len rfl rfl Try.underlying29 w) ?_
        simp only [Act.put, Xa, Xz, Xs]
        refine wl_val (.bool true) rfl (fun w => run_cmp (b := true) rfl rfl rfl Try.underlying3 (by simp [cmpOf]) w) ?_
        simp only [Act.put, Xa, Xz, Xs]
        refine wl_val (.bool true) rfl (fun _ => rfl) ?_
        simp only [Act.put, Xa, Xz, Xs]
        refine wl_val (.bool true) rfl (fun _ => rfl) ?_
        simp only [Act.put, Xa, Xz, Xs]
        refine wl_nil ?_
        refine we_then ?_
        refine wc_ret ?_
        refine we_ret1 (.bool true) rfl rfl rfl (fun w1 hE => ?_)
        exact ⟨rfl, hE.below⟩
       ·
        skip
        have p15 : h2 < l2 := of_decide_eq_true h15
        refine wc_true rfl ?_
        refine wc_seq ?_
        refine wc_region ?_
        refine wl_val (.bool true) rfl (fun _ => rfl) ?_
        simp only [Act.put, Xa, Xz, Xs]
        refine wl_nil ?_
        refine we_then ?_
        refine wc_ret ?_
        refine we_then_ret ?_
        refine we_ret1 (.bool true) rfl rfl rfl (fun w1 hE => ?_)
        exact ⟨rfl, hE.below⟩
      ·
       skip
       have p14 : hi < h2 := of_decide_eq_true h14
       refine wl_skip rfl ?_
       simp only [Act.put, Xa, Xz, Xs]
       refine wl_skip rfl ?_
       simp only [Act.put, Xa, Xz, Xs]
       refine wl_skip rfl ?_
       simp only [Act.put, Xa, Xz, Xs]
       refine wl_skip rfl ?_
       simp only [Act.put, Xa, Xz, Xs]
       refine wl_skip rfl ?_
       simp only [Act.put, Xa, Xz, Xs]
       refine wl_val (.bool true) rfl (fun _ => rfl) ?_
       simp only [Act.put, Xa, Xz, Xs]
       refine wl_nil ?_
       refine we_then ?_
       refine wc_true rfl ?_
       refine wc_seq ?_
       refine wc_region ?_
       refine wl_val (.bool true) rfl (fun _ => rfl) ?_
       simp only [Act.put, Xa, Xz, Xs]
       refine wl_nil ?_
       refine we_then ?_
       refine wc_ret ?_
       refine we_then_ret ?_
       refine we_ret1 (.bool true) rfl rfl rfl (fun w1 hE => ?_)
       exact ⟨rfl, hE.below⟩
     ·
      skip
      have p13 : l2 ≠ lo := by first | (simp; done) | (simp at h13; done) | simpa using h13
      refine wl_skip rfl ?_
      simp only [Act.put, Xa, Xz, Xs]
      refine wl_skip rfl ?_
      simp only [Act.put, Xa, Xz, Xs]
      refine wl_skip rfl ?_
      simp only [Act.put, Xa, Xz, Xs]
      refine wl_skip rfl ?_
      simp only [Act.put, Xa, Xz, Xs]
      refine wl_skip rfl ?_
      simp only [Act.put, Xa, Xz, Xs]
      refine wl_val (.bool true) rfl (fun _ => rfl) ?_
      simp only [Act.put, Xa, Xz, Xs]
      refine wl_val (.bool true) rfl (fun _ => rfl) ?_
      simp only [Act.put, Xa, Xz, Xs]
      refine wl_skip rfl ?_
      simp only [Act.put, Xa, Xz, Xs]
      refine wl_skip rfl ?_
      simp only [Act.put, Xa, Xz, Xs]
      refine wl_skip rfl ?_
      simp only [Act.put, Xa, Xz, Xs]
      refine wl_skip rfl ?_
      simp only [Act.put, Xa, Xz, Xs]
      refine wl_skip rfl ?_
      simp only [Act.put, Xa, Xz, Xs]
      refine wl_val (.bool true) rfl (fun _ => rfl) ?_
      simp only [Act.put, Xa, Xz, Xs]
      refine wl_nil ?_
      refine we_then ?_
      refine wc_true rfl ?_
      refine wc_seq ?_
      refine wc_region ?_
      refine wl_val (.bool true) rfl (fun _ => rfl) ?_
      simp only [Act.put, Xa, Xz, Xs]
      refine wl_nil ?_
      refine we_then ?_
      refine wc_ret ?_
      refine we_then_ret ?_
      refine we_ret1 (.bool true) rfl rfl rfl (fun w1 hE => ?_)
      exact ⟨rfl, hE.below⟩
    ·
     skip
     have p12 : (i : Int) < (zk6.X.length : Int) := of_decide_eq_true h12
     refine wc_true rfl ?_
     refine wc_skip ?_
     refine we_then ?_
     refine wc_seq ?_
     refine wc_block ?_
     refine wc_seq ?_
     refine wc_region ?_
     refine wl_val (.int .i64 (i : Int)) rfl (fun _ => rfl) ?_
     simp only [Act.put, Xa, Xz, Xs]
     refine wl_val (.int .i64 (i : Int)) rfl (fun _ => rfl) ?_
     simp only [Act.put, Xa, Xz, Xs]
     refine wl_nil ?_
     refine we_then ?_
     refine wc_seq ?_
     refine wc_draw [.late, .plain, .late, .plain, .plain, .late, .plain, .late, .plain, .plain, .late] none [] 116 (by kernel_rfl) rfl (by kernel_rfl) (by kernel_rfl) ?_
     refine ws_late (.pointer (some ⟨g10, 1, none⟩)) rfl rfl (fun _ => by go_simp) ?_
     simp only [Nat.reduceAdd, Act.put, Xa, Xz, Xs]
     refine ws_cell 29 (.tmp 67) (.slice zk9.p zk6.X.length zk9.c) (own_row 0 rfl) rfl rfl rfl rfl rfl Try.isAgg29 ?_
     simp only [Nat.reduceAdd, Act.put, Xa, Xz, Xs]
     refine ws_late (.int .i64 (i : Int)) rfl rfl (fun _ => rfl) ?_
     simp only [Nat.reduceAdd, Act.put, Xa, Xz, Xs]
     refine ws_read (eaddr zk9.p (i * 13)) rfl rfl (er_index i 13 (sl_held k9 (List.Sublist.cons _ (List.Sublist.cons _ (List.Sublist.cons _ (List.Sublist.cons _ (List.Sublist.cons _ (List.sublist_append_of_sublist_right (List.sublist_append_of_sublist_right (List.Sublist.refl _))))))))) rfl rfl rfl rfl (by omega) (flat_length (enc := rt) (size := 13) (fun _ => rfl) _) (by decide) Try.underlying29 (by kernel_rfl)) ?_
     simp only [Nat.reduceAdd, Act.put, Xa, Xz, Xs]
     refine ws_read (.agg #[.int .i64 (((zk6.X[i]!).length : Nat) : Int), .int .i64 (pad (zk6.X[i]!) 0), .int .i64 (pad (zk6.X[i]!) 1), .int .i64 (pad (zk6.X[i]!) 2), .int .i64 (pad (zk6.X[i]!) 3), .int .i64 (pad (zk6.X[i]!) 4), .int .i64 (pad (zk6.X[i]!) 5), .int .i64 (pad (zk6.X[i]!) 6), .int .i64 (pad (zk6.X[i]!) 7), .int .i64 (pad (zk6.X[i]!) 8), .int .i64 (pad (zk6.X[i]!) 9), .int .i64 (pad (zk6.X[i]!) 10), .int .i64 (pad (zk6.X[i]!) 11)]) rfl rfl (er_part (i * 13) [.int .i64 (((zk6.X[i]!).length : Nat) : Int), .int .i64 (pad (zk6.X[i]!) 0), .int .i64 (pad (zk6.X[i]!) 1), .int .i64 (pad (zk6.X[i]!) 2), .int .i64 (pad (zk6.X[i]!) 3), .int .i64 (pad (zk6.X[i]!) 4), .int .i64 (pad (zk6.X[i]!) 5), .int .i64 (pad (zk6.X[i]!) 6), .int .i64 (pad (zk6.X[i]!) 7), .int .i64 (pad (zk6.X[i]!) 8), .int .i64 (pad (zk6.X[i]!) 9), .int .i64 (pad (zk6.X[i]!) 10), .int .i64 (pad (zk6.X[i]!) 11)] (sl_held k9 (List.Sublist.cons _ (List.Sublist.cons _ (List.Sublist.cons _ (List.Sublist.cons _ (List.Sublist.cons _ (List.sublist_append_of_sublist_right (List.sublist_append_of_sublist_right (List.Sublist.refl _))))))))) rfl rfl (flat_part (enc := rt) (fun _ => rfl) zk6.X i (by omega)) (Nat.zero_lt_succ _) Try.underlying39 rfl (by kernel_rfl)) ?_
     simp only [Nat.reduceAdd, Act.put, Xa, Xz, Xs]
     refine ws_late (.pointer (some ⟨g7, 1, none⟩)) rfl rfl (fun _ => by go_simp) ?_
     simp only [Nat.reduceAdd, Act.put, Xa, Xz, Xs]
     refine ws_cell 29 (.tmp 72) (.slice zk6.p zk6.X.length zk6.c) (own_row 1 rfl) rfl rfl rfl rfl rfl Try.isAgg29 ?_
     simp only [Nat.reduceAdd, Act.put, Xa, Xz, Xs]
     refine ws_late (.int .i64 (i : Int)) rfl rfl (fun _ => rfl) ?_
     simp only [Nat.reduceAdd, Act.put, Xa, Xz, Xs]
     refine ws_read (eaddr zk6.p (i * 13)) rfl rfl (er_index i 13 (sl_held k6.held (List.Sublist.cons _ (List.Sublist.cons _ (List.Sublist.cons _ (List.Sublist.cons _ (List.Sublist.cons _ (List.sublist_append_of_sublist_right (List.sublist_append_left _ _)))))))) rfl rfl rfl rfl (by omega) (flat_length (enc := rt) (size := 13) (fun _ => rfl) _) (by decide) Try.underlying29 (by kernel_rfl)) ?_
     simp only [Nat.reduceAdd, Act.put, Xa, Xz, Xs]
     refine ws_read (.agg #[.int .i64 (((zk6.X[i]!).length : Nat) : Int), .int .i64 (pad (zk6.X[i]!) 0), .int .i64 (pad (zk6.X[i]!) 1), .int .i64 (pad (zk6.X[i]!) 2), .int .i64 (pad (zk6.X[i]!) 3), .int .i64 (pad (zk6.X[i]!) 4), .int .i64 (pad (zk6.X[i]!) 5), .int .i64 (pad (zk6.X[i]!) 6), .int .i64 (pad (zk6.X[i]!) 7), .int .i64 (pad (zk6.X[i]!) 8), .int .i64 (pad (zk6.X[i]!) 9), .int .i64 (pad (zk6.X[i]!) 10), .int .i64 (pad (zk6.X[i]!) 11)]) rfl rfl (er_part (i * 13) [.int .i64 (((zk6.X[i]!).length : Nat) : Int), .int .i64 (pad (zk6.X[i]!) 0), .int .i64 (pad (zk6.X[i]!) 1), .int .i64 (pad (zk6.X[i]!) 2), .int .i64 (pad (zk6.X[i]!) 3), .int .i64 (pad (zk6.X[i]!) 4), .int .i64 (pad (zk6.X[i]!) 5), .int .i64 (pad (zk6.X[i]!) 6), .int .i64 (pad (zk6.X[i]!) 7), .int .i64 (pad (zk6.X[i]!) 8), .int .i64 (pad (zk6.X[i]!) 9), .int .i64 (pad (zk6.X[i]!) 10), .int .i64 (pad (zk6.X[i]!) 11)] (sl_held k6.held (List.Sublist.cons _ (List.Sublist.cons _ (List.Sublist.cons _ (List.Sublist.cons _ (List.Sublist.cons _ (List.sublist_append_of_sublist_right (List.sublist_append_left _ _)))))))) rfl rfl (flat_part (enc := rt) (fun _ => rfl) zk6.X i (by omega)) (Nat.zero_lt_succ _) Try.underlying39 rfl (by kernel_rfl)) ?_
     simp only [Nat.reduceAdd, Act.put, Xa, Xz, Xs]
     refine ws_late (.bool false) rfl rfl (fun w => rt_ne rfl rfl rfl w) ?_
     simp only [Nat.reduceAdd, Act.put, Xa, Xz, Xs]
     refine ws_nil [] trivial (by simp) ?_
     intro ps18
     simp only [fin, List.foldl_nil, List.map, List.nil_append]
     refine we_then ?_
     refine wc_false rfl ?_
     refine wc_skip ?_
     refine we_in ?_
     refine we_then ?_
     refine wc_region ?_
     refine wl_val (.int .i64 ((i + 1 : Nat) : Int)) rfl (fun w => run_nat (X := i) (Y := 1) (Z := i + 1) rfl rfl rfl rfl (by omega) w) ?_
     simp only [Act.put, Xa, Xz, Xs]
     refine wl_val (.int .i64 ((i + 1 : Nat) : Int)) rfl (fun _ => rfl) ?_
     simp only [Act.put, Xa, Xz, Xs]
     refine wl_nil ?_
     exact we_meet ⟨(i + 1), _, _, _, _, _, _, _, _, _, _, _, _, _, _, _, _⟩ ⟨by (try dsimp only); omega, by (try dsimp only); omega⟩ rfl (List.Sublist.cons_cons _ (List.Sublist.cons_cons _ (List.Sublist.cons_cons _ (List.Sublist.cons_cons _ (List.Sublist.cons_cons _ (List.Sublist.refl _))))))
   ·
    skip
    have p11 : f ≠ zk6.F := by first | (simp; done) | (simp at h11; done) | simpa using h11
    refine wc_true rfl ?_
    refine wc_seq ?_
    refine wc_region ?_
    refine wl_val (.bool false) rfl (fun _ => rfl) ?_
    simp only [Act.put, Xa, Xz, Xs]
    refine wl_nil ?_
    refine we_then ?_
    refine wc_ret ?_
    refine we_then_ret ?_
    refine we_ret1 (.bool false) rfl rfl rfl (fun w1 hE => ?_)
    exact (by exfalso; omega)
  ·
   skip
   have p8 : (zk6.e : Int) ≠ 0 := by first | (simp; done) | (simp at h8; done) | simpa using h8
   refine wc_true rfl ?_
   refine wc_seq ?_
   refine wc_region ?_
   refine wl_val (.bool true) rfl (fun _ => rfl) ?_
   simp only [Act.put, Xa, Xz, Xs]
   refine wl_nil ?_
   refine we_then ?_
   refine wc_ret ?_
   refine we_then_ret ?_
   refine we_ret1 (.bool true) rfl rfl rfl (fun w1 hE => ?_)
   exact ⟨rfl, hE.below⟩
end Go.Proofs.Ytkbaponpebkpiaa.Walks
