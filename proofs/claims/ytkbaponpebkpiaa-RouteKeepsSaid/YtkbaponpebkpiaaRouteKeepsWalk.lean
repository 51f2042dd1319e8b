/-
 RouteKeeps: the law's walk. No condition.
-/
import Derived.Test.YtkbaponpebkpiaaRtlw
namespace Go.Proofs.Ytkbaponpebkpiaa.Walks
open Go.ChangeShapes Go.WideShapes Go.ChangeAt Go.RowKit
open Arr Steady Sx Sw Sl Sb Sc Si Sj Sk Sh Vs Gr Tk Tkh Tkl Rt Rtm Rtg Rtp Rtk Rts Tkrefs14 Rtla Rtsm Shh Sfn Rtlb Rtlc
set_option linter.unusedVariables false
set_option linter.unusedSimpArgs false
set_option maxRecDepth 100000

set_option maxHeartbeats 16000000 in
theorem routeKeeps_walk (G : List Sg) (H : List Gp) (p q : Option Addr) (c d : Nat) (s : Int) (ws : (Lit.int .i64 s).wf = true) (f : Int) (wf : (Lit.int .i64 f).wf = true) (B : List Bool) (bp : Option Addr) (bc : Nat) (L : Spans) (lp : Option Addr) (lc : Nat) (w : World) (hS : Reads w p (flat sg G)) (hG : OkS w G) (hH : Reads w q (flat gp H)) (hn : G.length ≤ 140737488355328) (hm : H.length ≤ 140737488355328) (hcc : G.length ≤ c) (hcd : H.length ≤ d) (hC : ∀ s ∈ G, s.X.length ≤ s.nc) (hB : Reads w bp (flat encb B)) (hL : Reads w lp (flat enc2 L)) (hF : FitL L) :
  Calls Try.prog 5 #[.agg #[.slice p G.length c, .slice q H.length d], .int .i64 s, .int .i64 f, .slice bp B.length bc, .slice lp L.length lc] w fun e w' => e = .returned (.bool true) ∧ Below w.heap.size w w' := by
 refine calls_sx Try.func5 rfl ?_
 simp only [Try.ntmps5, List.size_toArray, List.length_cons, List.length_nil, Nat.reduceAdd, Nat.reduceSub, Array.replicate_succ, Array.replicate_zero, List.push_toArray, List.append_toArray, List.nil_append, List.cons_append]
 refine wc_seq ?_
 refine wc_region ?_
 refine wl_new 25 (#[.slice p G.length c, .slice q H.length d]) rfl (fun _ => by go_simp) ?_
 intro g1
 simp only [Act.put, Xa, Xz, Xs]
 refine wl_val (.bool false) rfl (fun _ => rfl) ?_
 simp only [Act.put, Xa, Xz, Xs]
 refine wl_nil ?_
 refine we_then ?_
 refine wc_seq ?_
 refine wc_seq ?_
 refine wc_region ?_
 refine wl_call 7 #[] (.bool true) rfl (fun _ => by go_simp) (fun W => Rtlw.anchor_any W) ?_
 simp only [Act.put, Xa, Xz, Xs]
 refine wl_val (.bool false) rfl (fun _ => by go_simp) ?_
 simp only [Act.put, Xa, Xz, Xs]
 refine wl_nil ?_
 refine we_then ?_
 refine wc_false rfl ?_
 refine wc_skip ?_
 refine we_then ?_
 refine wc_seq ?_
 refine wc_seq ?_
 refine wc_region ?_
 refine wl_load 25 (.tmp 5) (own_row 0 rfl) rfl rfl rfl Try.underlying25 rfl (by kernel_rfl) ?_
 simp only [Act.put, Xa, Xz, Xs]
 refine wl_val (.int .i64 s) rfl (fun _ => rfl) ?_
 simp only [Act.put, Xa, Xz, Xs]
 refine wl_val (.int .i64 f) rfl (fun _ => rfl) ?_
 simp only [Act.put, Xa, Xz, Xs]
 refine wl_call_at 8 #[.agg #[.slice p G.length c, .slice q H.length d], .int .i64 s, .int .i64 f] (.bool (mayT G H s f)) rfl (fun _ => by go_simp) (fun W hE => may_any s f G H _ _ _ _ W ((sl_old hS) W hE) (oks_below hG hE.below) ((sl_old hH) W hE) hn hm) ?_
 simp only [Act.put, Xa, Xz, Xs]
 refine wl_val (.bool (!(mayT G H s f))) rfl (fun _ => by go_simp) ?_
 simp only [Act.put, Xa, Xz, Xs]
 refine wl_val (.bool (!(mayT G H s f))) rfl (fun _ => rfl) ?_
 simp only [Act.put, Xa, Xz, Xs]
 cases h2 : (mayT G H s f)
 ·
  skip
  refine wl_skip rfl ?_
  simp only [Act.put, Xa, Xz, Xs]
  refine wl_skip rfl ?_
  simp only [Act.put, Xa, Xz, Xs]
  refine wl_skip rfl ?_
  simp only [Act.put, Xa, Xz, Xs]
  refine wl_val (.bool true) rfl (fun _ => rfl) ?_
  simp only [Act.put, Xa, Xz, Xs]
  refine wl_val (.bool true) rfl (fun _ => rfl) ?_
  simp only [Act.put, Xa, Xz, Xs]
  refine wl_skip rfl ?_
  simp only [Act.put, Xa, Xz, Xs]
  refine wl_skip rfl ?_
  simp only [Act.put, Xa, Xz, Xs]
  refine wl_skip rfl ?_
  simp only [Act.put, Xa, Xz, Xs]
  refine wl_val (.bool true) rfl (fun _ => rfl) ?_
  simp only [Act.put, Xa, Xz, Xs]
  refine wl_nil ?_
  refine we_then ?_
  refine wc_true rfl ?_
  refine wc_seq ?_
  refine wc_region ?_
  refine wl_val (.bool true) rfl (fun _ => rfl) ?_
  simp only [Act.put, Xa, Xz, Xs]
  refine wl_nil ?_
  refine we_then ?_
  refine wc_ret ?_
  refine we_then_ret ?_
  refine we_ret1 (.bool true) rfl rfl rfl (fun w1 hE => ?_)
  exact ⟨rfl, hE.below⟩
 ·
  skip
  refine wl_val (.slice bp B.length bc) rfl (fun _ => rfl) ?_
  simp only [Act.put, Xa, Xz, Xs]
  refine wl_val (.int .i64 (B.length : Int)) rfl (fun w => er_len rfl rfl Try.underlying59 w) ?_
  simp only [Act.put, Xa, Xz, Xs]
  refine wl_val (.bool (decide (11 < (B.length : Int)))) rfl (fun w => run_cmp rfl rfl rfl Try.underlying3 rfl w) ?_
  simp only [Act.put, Xa, Xz, Xs]
  refine wl_val (.bool (decide (11 < (B.length : Int)))) rfl (fun _ => rfl) ?_
  simp only [Act.put, Xa, Xz, Xs]
  refine wl_val (.bool (decide (11 < (B.length : Int)))) rfl (fun _ => rfl) ?_
  simp only [Act.put, Xa, Xz, Xs]
  cases h3 : (decide (11 < (B.length : Int)))
  ·
   skip
   have p3 : ¬ (11 < (B.length : Int)) := of_decide_eq_false h3
   refine wl_val (.slice lp L.length lc) rfl (fun _ => rfl) ?_
   simp only [Act.put, Xa, Xz, Xs]
   refine wl_val (.int .i64 (L.length : Int)) rfl (fun w => er_len rfl rfl Try.underlying26 w) ?_
   simp only [Act.put, Xa, Xz, Xs]
   refine wl_val (.bool (decide (20 < (L.length : Int)))) rfl (fun w => run_cmp rfl rfl rfl Try.underlying3 rfl w) ?_
   simp only [Act.put, Xa, Xz, Xs]
   refine wl_val (.bool (decide (20 < (L.length : Int)))) rfl (fun _ => rfl) ?_
   simp only [Act.put, Xa, Xz, Xs]
   refine wl_nil ?_
   refine we_then ?_
   cases h4 : (decide (20 < (L.length : Int)))
   ·
    skip
    have p4 : ¬ (20 < (L.length : Int)) := of_decide_eq_false h4
    refine wc_false rfl ?_
    refine wc_skip ?_
    refine we_then ?_
    refine wc_seq ?_
    have hmt := mayT_of h2
    have hM := hmt.1
    have hs := hmt.2.1
    have hf := hmt.2.2
    have hlen := (hM.segs s.toNat (by omega)).high
    refine wc_region ?_
    refine wl_val (.int .i64 s) rfl (fun _ => rfl) ?_
    simp only [Act.put, Xa, Xz, Xs]
    refine wl_lit (e := 3) #[.int .i64 s] 1 rfl (fun _ => by go_simp) ?_
    intro g5
    simp only [Act.put, Xa, Xz, Xs]
    refine wl_val (.slice (some ⟨g5, 0, none⟩) 1 1) rfl (fun _ => rfl) ?_
    simp only [Act.put, Xa, Xz, Xs]
    refine wl_nil ?_
    refine we_then ?_
    refine wc_seq ?_
    refine wc_seq ?_
    refine wc_perm (R' := [⟨g1, #[.slice p G.length c, .slice q H.length d], 25⟩, ⟨g5, #[.int .i64 s], 3⟩]) (show ([⟨g5, #[.int .i64 s], 3⟩] ++ [⟨g1, #[.slice p G.length c, .slice q H.length d], 25⟩] : List Rw).Perm ([⟨g1, #[.slice p G.length c, .slice q H.length d], 25⟩] ++ [⟨g5, #[.int .i64 s], 3⟩]) from List.perm_append_comm) ?_
    refine wc_region ?_
    refine wl_val (.slice bp B.length bc) rfl (fun _ => rfl) ?_
    simp only [Act.put, Xa, Xz, Xs]
    refine wl_val (.int .i64 (B.length : Int)) rfl (fun w => er_len rfl rfl Try.underlying59 w) ?_
    simp only [Act.put, Xa, Xz, Xs]
    refine wl_val (.int .i64 0) rfl (fun _ => rfl) ?_
    simp only [Act.put, Xa, Xz, Xs]
    refine wl_nil ?_
    refine we_then ?_
    refine wc_block ?_
    refine wc_loop (fun (zz : Nat × Own × List Int × Nat × Value × Value × Value × Value × Value × Value × Value × Value × Value × Value × Value × Value × Value × Value × Value × Value × Value × Value × Value × Value × Value × Value × Value × Value × Value × Value × Value × Value × Value × Value × Value × Value × Value × Value) => match zz with | ⟨i, pw, Pl, pn, u13, u14, u15, u44, u45, u46, u47, u48, u49, u50, u51, u52, u53, u54, u55, u56, u57, u58, u59, u60, u61, u62, u63, u64, u65, u66, u67, u68, u69, u70, u71, u72, u73, u74⟩ => ({ tmps := #[.agg #[.slice p G.length c, .slice q H.length d], .int .i64 s, .int .i64 f, .slice bp B.length bc, .slice lp L.length lc, .pointer (some ⟨g1, 0, none⟩), undef, undef, undef, undef, .bool false, .slice pw.ptr pn pw.cap, undef, u13, u14, u15, undef, undef, undef, undef, undef, undef, .bool true, .bool false, .agg #[.slice p G.length c, .slice q H.length d], .int .i64 s, .int .i64 f, .bool true, .bool false, .bool false, .slice bp B.length bc, .int .i64 (B.length : Int), .bool false, .bool false, .bool false, .slice lp L.length lc, .int .i64 (L.length : Int), .bool false, .bool false, .int .i64 s, .slice ((Own.row g5 1 #[.int .i64 s]).ptr) 1 ((Own.row g5 1 #[.int .i64 s]).cap), .slice bp B.length bc, .int .i64 (B.length : Int), .int .i64 (i : Int), u44, u45, u46, u47, u48, u49, u50, u51, u52, u53, u54, u55, u56, u57, u58, u59, u60, u61, u62, u63, u64, u65, u66, u67, u68, u69, u70, u71, u72, u73, u74, undef, undef, undef, undef, undef, undef, undef, undef, undef, undef, undef, undef, undef, undef, undef, undef, undef, undef, undef, undef, undef, undef, undef, undef, undef, undef, undef, undef, undef, undef, undef, undef, undef, undef, undef, undef, undef, undef, undef, undef, undef, undef, undef, undef, undef, undef, undef, undef, undef, undef, undef, undef, undef, undef], defers := [] } : Act)) (fun (zz : Nat × Own × List Int × Nat × Value × Value × Value × Value × Value × Value × Value × Value × Value × Value × Value × Value × Value × Value × Value × Value × Value × Value × Value × Value × Value × Value × Value × Value × Value × Value × Value × Value × Value × Value × Value × Value × Value × Value) => match zz with | ⟨i, pw, Pl, pn, u13, u14, u15, u44, u45, u46, u47, u48, u49, u50, u51, u52, u53, u54, u55, u56, u57, u58, u59, u60, u61, u62, u63, u64, u65, u66, u67, u68, u69, u70, u71, u72, u73, u74⟩ => ⟨g1, #[.slice p G.length c, .slice q H.length d], 25⟩ :: (pw.rows 3 ++ [])) (fun (zz : Nat × Own × List Int × Nat × Value × Value × Value × Value × Value × Value × Value × Value × Value × Value × Value × Value × Value × Value × Value × Value × Value × Value × Value × Value × Value × Value × Value × Value × Value × Value × Value × Value × Value × Value × Value × Value × Value × Value) => match zz with | ⟨i, pw, Pl, pn, u13, u14, u15, u44, u45, u46, u47, u48, u49, u50, u51, u52, u53, u54, u55, u56, u57, u58, u59, u60, u61, u62, u63, u64, u65, u66, u67, u68, u69, u70, u71, u72, u73, u74⟩ => i ≤ B.length ∧ Pl.length = pn ∧ pw.Has 1 pn (flat enc1 Pl) ∧ RtWf G s Pl ∧ pn ≤ i + 1) (fun (zz : Nat × Own × List Int × Nat × Value × Value × Value × Value × Value × Value × Value × Value × Value × Value × Value × Value × Value × Value × Value × Value × Value × Value × Value × Value × Value × Value × Value × Value × Value × Value × Value × Value × Value × Value × Value × Value × Value × Value) => match zz with | ⟨i, pw, Pl, pn, u13, u14, u15, u44, u45, u46, u47, u48, u49, u50, u51, u52, u53, u54, u55, u56, u57, u58, u59, u60, u61, u62, u63, u64, u65, u66, u67, u68, u69, u70, u71, u72, u73, u74⟩ => B.length - i) ⟨0, (Own.row g5 1 #[.int .i64 s]), [s], 1, _, _, _, _, _, _, _, _, _, _, _, _, _, _, _, _, _, _, _, _, _, _, _, _, _, _, _, _, _, _, _, _, _, _⟩ ⟨Nat.zero_le _, rfl, Own.has_lit g5 1 1 #[.int .i64 s] (by decide) rfl, ((begin_ok hs hf).wf [s] (List.mem_singleton.2 rfl)), by omega⟩ rfl (List.Sublist.cons_cons _ (List.Sublist.append_left List.Sublist.slnil _)) ?_
    rintro ⟨i, pw, Pl, pn, u13, u14, u15, u44, u45, u46, u47, u48, u49, u50, u51, u52, u53, u54, u55, u56, u57, u58, u59, u60, u61, u62, u63, u64, u65, u66, u67, u68, u69, u70, u71, u72, u73, u74⟩ hφ
    (try dsimp only at hφ ⊢)
    obtain ⟨b1, b2, b3, b4, b5⟩ := hφ
    have b6 := b4.ok.some
    have b7 := b4.ok.few
    have b8 := b4.ok.each (pn - 1) (by omega)
    refine wc_seq ?_
    refine wc_region ?_
    refine wl_val (.bool (decide ((i : Int) < (B.length : Int)))) rfl (fun w => run_cmp rfl rfl rfl Try.underlying3 rfl w) ?_
    simp only [Act.put, Xa, Xz, Xs]
    refine wl_nil ?_
    refine we_then ?_
    refine wc_seq ?_
    cases h6 : (decide ((i : Int) < (B.length : Int)))
    ·
     skip
     have p6 : ¬ ((i : Int) < (B.length : Int)) := of_decide_eq_false h6
     refine wc_false rfl ?_
     refine wc_exit ?_
     refine we_then_exit ?_
     refine we_then_exit ?_
     refine we_in_here ?_
     refine we_then ?_
     refine wc_seq ?_
     refine wc_region ?_
     refine wl_load 25 (.tmp 5) (own_row 0 rfl) rfl rfl rfl Try.underlying25 rfl (by kernel_rfl) ?_
     simp only [Act.put, Xa, Xz, Xs]
     refine wl_call_open (ι := Cp) (fun zz => match zz with | zk7 => ⟨g1, #[.slice p G.length c, .slice q H.length d], 25⟩ :: (pw.rows 3 ++ zk7.N)) 12 #[.agg #[.slice p G.length c, .slice q H.length d]] (fun zz => match zz with | zk7 => .agg #[.slice zk7.p zk7.K.length zk7.c, .slice zk7.q H.length zk7.d]) (fun zz => match zz with | zk7 => zk7.N) (fun zz => match zz with | zk7 => CpOk G H zk7) (by rintro zk7; simp) rfl (fun _ => by go_simp) (fun W hE => refs_open G H _ _ _ _ W ((sl_old hS) W hE) (oks_below hG hE.below) ((sl_old hH) W hE) (may_few hM).1 (may_few hM).2) ?_
     rintro zk7 k7
     (try dsimp only)
     simp only [Act.put, Xa, Xz, Xs]
     refine wl_val (.int .i64 f) rfl (fun _ => rfl) ?_
     simp only [Act.put, Xa, Xz, Xs]
     refine wl_val (.slice pw.ptr pn pw.cap) rfl (fun _ => rfl) ?_
     simp only [Act.put, Xa, Xz, Xs]
     refine wl_call_at 11 #[.agg #[.slice zk7.p zk7.K.length zk7.c, .slice zk7.q H.length zk7.d], .int .i64 f, .slice pw.ptr pn pw.cap] (.int .i64 (endR G f Pl)) rfl (fun _ => by go_simp) (fun W hE => end_lenr f Pl _ _ zk7.K H _ _ zk7.c zk7.d pn W (held_at k7.segs (List.Sublist.cons _ (List.sublist_append_of_sublist_right (List.Sublist.refl _))) hE) (k7.ok _ _ hG (hE.sub (List.Sublist.cons _ (List.sublist_append_of_sublist_right (List.Sublist.refl _))))) (held_at k7.grps (List.Sublist.cons _ (List.sublist_append_of_sublist_right (List.Sublist.refl _))) hE) (by rw [k7.same.length]; omega) (by omega) (segs_same k7.same hM.segs) ⟨hf.1, by omega⟩ ((sl_own [⟨g1, #[.slice p G.length c, .slice q H.length d], 25⟩] zk7.N b3 rfl) W hE) (rtok_same k7.same b4.ok) b2 (endR_same k7.same)) ?_
     simp only [Act.put, Xa, Xz, Xs]
     refine wl_val (.int .i64 (endR G f Pl)) rfl (fun _ => rfl) ?_
     simp only [Act.put, Xa, Xz, Xs]
     refine wl_nil ?_
     refine we_then ?_
     refine wc_seq ?_
     refine wc_region ?_
     refine wl_val (.int .i64 s) rfl (fun _ => rfl) ?_
     simp only [Act.put, Xa, Xz, Xs]
     refine wl_val (.int .i64 f) rfl (fun _ => rfl) ?_
     simp only [Act.put, Xa, Xz, Xs]
     refine wl_call_open (ι := Pz) (fun zz => match zz with | zk8 => ⟨g1, #[.slice p G.length c, .slice q H.length d], 25⟩ :: (pw.rows 3 ++ (zk7.N ++ zk8.N))) 17 #[.int .i64 s, .int .i64 f] (fun zz => match zz with | zk8 => .agg #[.int .i64 f, .slice zk8.p 1 zk8.c]) (fun zz => match zz with | zk8 => zk8.N) (fun zz => match zz with | zk8 => Held zk8.N zk8.p (flat rt [[s]])) (by rintro zk8; simp) rfl (fun _ => by go_simp) (fun W hE => Rou.begin_any s f W) ?_
     rintro zk8 k8
     (try dsimp only)
     simp only [Act.put, Xa, Xz, Xs]
     refine wl_new 31 (#[.int .i64 0, .slice none 0 0]) rfl (fun _ => by go_simp) ?_
     intro g9
     simp only [Act.put, Xa, Xz, Xs]
     refine wl_store 0 31 (.tmp 17) (.tmp 82) (#[.int .i64 f, .slice zk8.p 1 zk8.c]) rfl rfl rfl rfl rfl (by kernel_rfl) rfl (by simp [Value.oneCell']) ?_
     simp only [Act.put, List.set_cons_zero]
     refine wl_nil ?_
     refine we_then ?_
     refine wc_seq ?_
     refine wc_seq ?_
     refine wc_region ?_
     refine wl_val (.slice lp L.length lc) rfl (fun _ => rfl) ?_
     simp only [Act.put, Xa, Xz, Xs]
     refine wl_val (.int .i64 (L.length : Int)) rfl (fun w => er_len rfl rfl Try.underlying26 w) ?_
     simp only [Act.put, Xa, Xz, Xs]
     refine wl_val (.int .i64 0) rfl (fun _ => rfl) ?_
     simp only [Act.put, Xa, Xz, Xs]
     refine wl_nil ?_
     refine we_then ?_
     refine wc_block ?_
     refine wc_loop (fun (zz : Nat × List Ro × Option Addr × Nat × List Rw × Value × Value × Value × Value × Value × Value × Value × Value × Value × Value × Value × Value × Value × Value × Value × Value × Value × Value × Value × Value × Value × Value × Value × Value × Value × Value × Value × Value × Value × Value × Value × Value × Value × Value × Value × Value × Value × Value × Value × Value × Value × Value × Value × Value) => match zz with | ⟨j, X, xp, xc, N, u10, u19, u20, u21, u86, u87, u88, u89, u90, u91, u92, u93, u94, u95, u96, u97, u98, u99, u100, u101, u102, u103, u104, u105, u106, u107, u108, u109, u110, u111, u112, u113, u114, u115, u116, u117, u118, u119, u120, u121, u122, u123, u124, u125⟩ => ({ tmps := #[.agg #[.slice p G.length c, .slice q H.length d], .int .i64 s, .int .i64 f, .slice bp B.length bc, .slice lp L.length lc, .pointer (some ⟨g1, 0, none⟩), undef, undef, undef, undef, u10, .slice pw.ptr pn pw.cap, undef, u13, u14, u15, .int .i64 (endR G f Pl), .pointer (some ⟨g9, 0, none⟩), undef, u19, u20, u21, .bool true, .bool false, .agg #[.slice p G.length c, .slice q H.length d], .int .i64 s, .int .i64 f, .bool true, .bool false, .bool false, .slice bp B.length bc, .int .i64 (B.length : Int), .bool false, .bool false, .bool false, .slice lp L.length lc, .int .i64 (L.length : Int), .bool false, .bool false, .int .i64 s, .slice ((Own.row g5 1 #[.int .i64 s]).ptr) 1 ((Own.row g5 1 #[.int .i64 s]).cap), .slice bp B.length bc, .int .i64 (B.length : Int), .int .i64 (i : Int), .bool false, u45, u46, u47, u48, u49, u50, u51, u52, u53, u54, u55, u56, u57, u58, u59, u60, u61, u62, u63, u64, u65, u66, u67, u68, u69, u70, u71, u72, u73, u74, .agg #[.slice p G.length c, .slice q H.length d], .agg #[.slice zk7.p zk7.K.length zk7.c, .slice zk7.q H.length zk7.d], .int .i64 f, .slice pw.ptr pn pw.cap, .int .i64 (endR G f Pl), .int .i64 s, .int .i64 f, .agg #[.int .i64 f, .slice zk8.p 1 zk8.c], .slice lp L.length lc, .int .i64 (L.length : Int), .int .i64 (j : Int), u86, u87, u88, u89, u90, u91, u92, u93, u94, u95, u96, u97, u98, u99, u100, u101, u102, u103, u104, u105, u106, u107, u108, u109, u110, u111, u112, u113, u114, u115, u116, u117, u118, u119, u120, u121, u122, u123, u124, u125, undef, undef, undef], defers := [] } : Act)) (fun (zz : Nat × List Ro × Option Addr × Nat × List Rw × Value × Value × Value × Value × Value × Value × Value × Value × Value × Value × Value × Value × Value × Value × Value × Value × Value × Value × Value × Value × Value × Value × Value × Value × Value × Value × Value × Value × Value × Value × Value × Value × Value × Value × Value × Value × Value × Value × Value × Value × Value × Value × Value × Value) => match zz with | ⟨j, X, xp, xc, N, u10, u19, u20, u21, u86, u87, u88, u89, u90, u91, u92, u93, u94, u95, u96, u97, u98, u99, u100, u101, u102, u103, u104, u105, u106, u107, u108, u109, u110, u111, u112, u113, u114, u115, u116, u117, u118, u119, u120, u121, u122, u123, u124, u125⟩ => ⟨g9, #[.int .i64 f, .slice xp X.length xc], 31⟩ :: ⟨g1, #[.slice p G.length c, .slice q H.length d], 25⟩ :: (pw.rows 3 ++ N)) (fun (zz : Nat × List Ro × Option Addr × Nat × List Rw × Value × Value × Value × Value × Value × Value × Value × Value × Value × Value × Value × Value × Value × Value × Value × Value × Value × Value × Value × Value × Value × Value × Value × Value × Value × Value × Value × Value × Value × Value × Value × Value × Value × Value × Value × Value × Value × Value × Value × Value × Value × Value × Value × Value) => match zz with | ⟨j, X, xp, xc, N, u10, u19, u20, u21, u86, u87, u88, u89, u90, u91, u92, u93, u94, u95, u96, u97, u98, u99, u100, u101, u102, u103, u104, u105, u106, u107, u108, u109, u110, u111, u112, u113, u114, u115, u116, u117, u118, u119, u120, u121, u122, u123, u124, u125⟩ => j ≤ L.length ∧ SetOk G s f X ∧ Held N xp (flat rt X) ∧ HasR X Pl) (fun (zz : Nat × List Ro × Option Addr × Nat × List Rw × Value × Value × Value × Value × Value × Value × Value × Value × Value × Value × Value × Value × Value × Value × Value × Value × Value × Value × Value × Value × Value × Value × Value × Value × Value × Value × Value × Value × Value × Value × Value × Value × Value × Value × Value × Value × Value × Value × Value × Value × Value × Value × Value × Value) => match zz with | ⟨j, X, xp, xc, N, u10, u19, u20, u21, u86, u87, u88, u89, u90, u91, u92, u93, u94, u95, u96, u97, u98, u99, u100, u101, u102, u103, u104, u105, u106, u107, u108, u109, u110, u111, u112, u113, u114, u115, u116, u117, u118, u119, u120, u121, u122, u123, u124, u125⟩ => L.length - j) ⟨0, [[s]], zk8.p, zk8.c, zk8.N, _, _, _, _, _, _, _, _, _, _, _, _, _, _, _, _, _, _, _, _, _, _, _, _, _, _, _, _, _, _, _, _, _, _, _, _, _, _, _, _, _, _, _, _⟩ ⟨Nat.zero_le _, begin_ok hs hf, k8, ⟨[s], List.mem_singleton.2 rfl, fun k h1 h2 => by (obtain rfl : k = 0 := (by simpa using h1)); exact b4.first.symm⟩⟩ rfl (List.Sublist.cons_cons _ (List.Sublist.cons_cons _ (List.Sublist.append_left (List.sublist_append_of_sublist_right (List.Sublist.refl _)) _))) ?_
     rintro ⟨j, X, xp, xc, N, u10, u19, u20, u21, u86, u87, u88, u89, u90, u91, u92, u93, u94, u95, u96, u97, u98, u99, u100, u101, u102, u103, u104, u105, u106, u107, u108, u109, u110, u111, u112, u113, u114, u115, u116, u117, u118, u119, u120, u121, u122, u123, u124, u125⟩ hφ
     (try dsimp only at hφ ⊢)
     obtain ⟨c1, c2, c3, c4⟩ := hφ
     have ft := fun h : j < L.length => fit_at hF h
     refine wc_seq ?_
     refine wc_region ?_
     refine wl_val (.bool (decide ((j : Int) < (L.length : Int)))) rfl (fun w => run_cmp rfl rfl rfl Try.underlying3 rfl w) ?_
     simp only [Act.put, Xa, Xz, Xs]
     refine wl_nil ?_
     refine we_then ?_
     refine wc_seq ?_
     cases h10 : (decide ((j : Int) < (L.length : Int)))
     ·
      skip
      have p10 : ¬ ((j : Int) < (L.length : Int)) := of_decide_eq_false h10
      refine wc_false rfl ?_
      refine wc_exit ?_
      refine we_then_exit ?_
      refine we_then_exit ?_
      refine we_in_here ?_
      refine we_then ?_
      refine wc_seq ?_
      refine wc_region ?_
      refine wl_load 31 (.tmp 17) (own_row 0 rfl) rfl rfl rfl Try.underlying31 rfl (by kernel_rfl) ?_
      simp only [Act.put, Xa, Xz, Xs]
      refine wl_val (.slice pw.ptr pn pw.cap) rfl (fun _ => rfl) ?_
      simp only [Act.put, Xa, Xz, Xs]
      refine wl_call_at 19 #[.agg #[.int .i64 f, .slice xp X.length xc], .slice pw.ptr pn pw.cap] (.bool true) rfl (fun _ => by go_simp) (fun W hE => has_true G s f f X _ _ Pl pn _ _ W rfl c2 ((sl_held c3 (List.Sublist.cons _ (List.Sublist.cons _ (List.sublist_append_of_sublist_right (List.Sublist.refl _))))) W hE) b2 ((sl_own [⟨g9, #[.int .i64 f, .slice xp X.length xc], 31⟩, ⟨g1, #[.slice p G.length c, .slice q H.length d], 25⟩] N b3 rfl) W hE) c4 (by omega) (Roub.has_cap b3)) ?_
      simp only [Act.put, Xa, Xz, Xs]
      refine wl_val (.bool true) rfl (fun _ => rfl) ?_
      simp only [Act.put, Xa, Xz, Xs]
      refine wl_nil ?_
      refine we_then ?_
      refine wc_ret ?_
      refine we_ret1 (.bool true) rfl rfl rfl (fun w1 hE => ?_)
      exact ⟨rfl, hE.below⟩
     ·
      skip
      have p10 : (j : Int) < (L.length : Int) := of_decide_eq_true h10
      refine wc_true rfl ?_
      refine wc_skip ?_
      refine we_then ?_
      refine wc_seq ?_
      refine wc_block ?_
      refine wc_seq ?_
      refine wc_region ?_
      refine wl_read (eaddr lp (j * 2)) rfl (er_index j 2 (sl_old hL) rfl rfl rfl rfl (by omega) (flat_length (enc := enc2) (size := 2) (fun _ => rfl) _) (by decide) Try.underlying26 (by kernel_rfl)) ?_
      simp only [Act.put, Xa, Xz, Xs]
      refine wl_read (.agg #[.int .i64 ((L[j]!).1), .int .i64 ((L[j]!).2)]) rfl (er_part (j * 2) [.int .i64 ((L[j]!).1), .int .i64 ((L[j]!).2)] (sl_old hL) rfl rfl (flat_part (enc := enc2) (fun _ => rfl) L j (by omega)) (Nat.zero_lt_succ _) Try.underlying53 rfl (by kernel_rfl)) ?_
      simp only [Act.put, Xa, Xz, Xs]
      refine wl_new 53 (#[.int .i64 0, .int .i64 0]) rfl (fun _ => by go_simp) ?_
      intro g11
      simp only [Act.put, Xa, Xz, Xs]
      refine wl_store 0 53 (.tmp 19) (.tmp 88) (#[.int .i64 ((L[j]!).1), .int .i64 ((L[j]!).2)]) rfl rfl rfl rfl rfl (by kernel_rfl) rfl (by simp [Value.oneCell']) ?_
      simp only [Act.put, List.set_cons_zero]
      refine wl_nil ?_
      refine we_then ?_
      refine wc_seq ?_
      refine wc_seq ?_
      refine wc_region ?_
      refine wl_val (.pointer (some ⟨g11, 0, none⟩)) rfl (fun _ => by go_simp) ?_
      simp only [Act.put, Xa, Xz, Xs]
      refine wl_cell 2 (.tmp 89) (.int .i64 ((L[j]!).1)) (own_row 0 rfl) rfl rfl rfl rfl Try.isAgg2 ?_
      simp only [Act.put, Xa, Xz, Xs]
      refine wl_val (.int .i64 (endR G f Pl)) rfl (fun _ => rfl) ?_
      simp only [Act.put, Xa, Xz, Xs]
      refine wl_val (.bool (decide ((endR G f Pl) < (L[j]!).1))) rfl (fun w => run_cmp rfl rfl rfl Try.underlying2 rfl w) ?_
      simp only [Act.put, Xa, Xz, Xs]
      refine wl_val (.bool (decide ((endR G f Pl) < (L[j]!).1))) rfl (fun _ => rfl) ?_
      simp only [Act.put, Xa, Xz, Xs]
      cases h12 : (decide ((endR G f Pl) < (L[j]!).1))
      ·
       skip
       have p12 : ¬ ((endR G f Pl) < (L[j]!).1) := of_decide_eq_false h12
       refine wl_val (.pointer (some ⟨g11, 0, none⟩)) rfl (fun _ => by go_simp) ?_
       simp only [Act.put, Xa, Xz, Xs]
       refine wl_cell 2 (.tmp 94) (.int .i64 ((L[j]!).1)) (own_row 0 rfl) rfl rfl rfl rfl Try.isAgg2 ?_
       simp only [Act.put, Xa, Xz, Xs]
       refine wl_val (.int .i64 f) rfl (fun _ => rfl) ?_
       simp only [Act.put, Xa, Xz, Xs]
       refine wl_val (.int .i64 (-f)) rfl (fun w => run_neg rfl rfl Try.underlying2 (i64_in (by omega) (by omega)) w) ?_
       simp only [Act.put, Xa, Xz, Xs]
       refine wl_val (.bool (decide ((L[j]!).1 < (-f)))) rfl (fun w => run_cmp rfl rfl rfl Try.underlying2 rfl w) ?_
       simp only [Act.put, Xa, Xz, Xs]
       refine wl_val (.bool (decide ((L[j]!).1 < (-f)))) rfl (fun _ => rfl) ?_
       simp only [Act.put, Xa, Xz, Xs]
       refine wl_val (.bool (decide ((L[j]!).1 < (-f)))) rfl (fun _ => rfl) ?_
       simp only [Act.put, Xa, Xz, Xs]
       cases h13 : (decide ((L[j]!).1 < (-f)))
       ·
        skip
        have p13 : ¬ ((L[j]!).1 < (-f)) := of_decide_eq_false h13
        refine wl_val (.pointer (some ⟨g11, 0, none⟩)) rfl (fun _ => by go_simp) ?_
        simp only [Act.put, Xa, Xz, Xs]
        refine wl_cell 2 (.tmp 101) (.int .i64 ((L[j]!).1)) (own_row 0 rfl) rfl rfl rfl rfl Try.isAgg2 ?_
        simp only [Act.put, Xa, Xz, Xs]
        refine wl_val (.pointer (some ⟨g11, 1, none⟩)) rfl (fun _ => by go_simp) ?_
        simp only [Act.put, Xa, Xz, Xs]
        refine wl_cell 2 (.tmp 103) (.int .i64 ((L[j]!).2)) (own_row 0 rfl) rfl rfl rfl rfl Try.isAgg2 ?_
        simp only [Act.put, Xa, Xz, Xs]
        refine wl_val (.bool (decide ((L[j]!).2 < (L[j]!).1))) rfl (fun w => run_cmp rfl rfl rfl Try.underlying2 rfl w) ?_
        simp only [Act.put, Xa, Xz, Xs]
        refine wl_val (.bool (decide ((L[j]!).2 < (L[j]!).1))) rfl (fun _ => rfl) ?_
        simp only [Act.put, Xa, Xz, Xs]
        refine wl_nil ?_
        refine we_then ?_
        cases h14 : (decide ((L[j]!).2 < (L[j]!).1))
        ·
         skip
         have p14 : ¬ ((L[j]!).2 < (L[j]!).1) := of_decide_eq_false h14
         refine wc_false rfl ?_
         refine wc_skip ?_
         refine we_then ?_
         refine wc_seq ?_
         refine wc_region ?_
         refine wl_load 31 (.tmp 17) (own_row 1 rfl) rfl rfl rfl Try.underlying31 rfl (by kernel_rfl) ?_
         simp only [Act.put, Xa, Xz, Xs]
         refine wl_load 25 (.tmp 5) (own_row 2 rfl) rfl rfl rfl Try.underlying25 rfl (by kernel_rfl) ?_
         simp only [Act.put, Xa, Xz, Xs]
         refine wl_load 53 (.tmp 19) (own_row 0 rfl) rfl rfl rfl Try.underlying53 rfl (by kernel_rfl) ?_
         simp only [Act.put, Xa, Xz, Xs]
         refine wl_call_open (ι := Gp2) (fun zz => match zz with | zk15 => ⟨g11, #[.int .i64 ((L[j]!).1), .int .i64 ((L[j]!).2)], 53⟩ :: ⟨g9, #[.int .i64 f, .slice xp X.length xc], 31⟩ :: ⟨g1, #[.slice p G.length c, .slice q H.length d], 25⟩ :: (pw.rows 3 ++ (N ++ zk15.N))) 18 #[.agg #[.int .i64 f, .slice xp X.length xc], .agg #[.slice p G.length c, .slice q H.length d], .agg #[.int .i64 ((L[j]!).1), .int .i64 ((L[j]!).2)]] (fun zz => match zz with | zk15 => .tuple #[.agg #[.int .i64 zk15.F, .slice zk15.p zk15.X.length zk15.c], .int .i64 (zk15.e : Int)]) (fun zz => match zz with | zk15 => zk15.N) (fun zz => match zz with | zk15 => Gp2Ok G f ((L[j]!).2) ((L[j]!).1) X zk15) (by rintro zk15; simp) rfl (fun _ => by go_simp) (fun W hE => grow_gen ((L[j]!).1) ((L[j]!).2) G H _ _ _ _ s f f X X.length _ _ W ((sl_old hS) W hE) (oks_below hG hE.below) ((sl_old hH) W hE) hM rfl rfl c2 ((sl_held c3 (List.Sublist.cons _ (List.Sublist.cons _ (List.Sublist.cons _ (List.sublist_append_of_sublist_right (List.Sublist.refl _)))))) W hE) (ft (by omega)).1 (ft (by omega)).2 hC) ?_
         rintro zk15 k15
         (try dsimp only)
         have kz : zk15.e ≠ 13 → zk15.e = 0 ∧ HasR zk15.X Pl := fun h => keep hM.segs c2 b4 (by omega) c4 (by omega) k15.is h
         have ez : zk15.e ≠ 13 → zk15.e = 0 := fun h => (kz h).1
         have hasz : zk15.e = 0 → HasR zk15.X Pl := fun h => (kz (by omega)).2
         have okz : zk15.e = 0 → SetOk G s f zk15.X := fun h => grow_ok hM.segs c2 (by have x := k15.is; rwa [h] at x)
         have fz : zk15.e = 0 → zk15.F = f := k15.frm
         simp only [Act.put, Xa, Xz, Xs]
         refine wl_val (.tuple #[.agg #[.int .i64 zk15.F, .slice zk15.p zk15.X.length zk15.c], .int .i64 (zk15.e : Int)]) rfl (fun _ => rfl) ?_
         simp only [Act.put, Xa, Xz, Xs]
         refine wl_val (.agg #[.int .i64 zk15.F, .slice zk15.p zk15.X.length zk15.c]) rfl (fun _ => by go_simp) ?_
         simp only [Act.put, Xa, Xz, Xs]
         refine wl_val (.int .i64 (zk15.e : Int)) rfl (fun _ => by go_simp) ?_
         simp only [Act.put, Xa, Xz, Xs]
         refine wl_new 31 (#[.int .i64 0, .slice none 0 0]) rfl (fun _ => by go_simp) ?_
         intro g16
         simp only [Act.put, Xa, Xz, Xs]
         refine wl_store 0 31 (.tmp 20) (.tmp 112) (#[.int .i64 zk15.F, .slice zk15.p zk15.X.length zk15.c]) rfl rfl rfl rfl rfl (by kernel_rfl) rfl (by simp [Value.oneCell']) ?_
         simp only [Act.put, List.set_cons_zero]
         refine wl_val (.int .i64 (zk15.e : Int)) rfl (fun _ => rfl) ?_
         simp only [Act.put, Xa, Xz, Xs]
         refine wl_nil ?_
         refine we_then ?_
         refine wc_seq ?_
         refine wc_seq ?_
         refine wc_region ?_
         refine wl_val (.int .i64 (zk15.e : Int)) rfl (fun _ => rfl) ?_
         simp only [Act.put, Xa, Xz, Xs]
         refine wl_val (.bool ((zk15.e : Int) == 13)) rfl (fun w => run_cmp rfl rfl rfl Try.underlying64 rfl w) ?_
         simp only [Act.put, Xa, Xz, Xs]
         refine wl_nil ?_
         refine we_then ?_
         cases h17 : ((zk15.e : Int) == 13)
         ·
          skip
          have p17 : ¬ ((zk15.e : Int) = 13) := by first | (simp; done) | (simp at h17; done) | simpa using h17
          refine wc_false rfl ?_
          refine wc_skip ?_
          refine we_then ?_
          refine wc_seq ?_
          refine wc_seq ?_
          refine wc_region ?_
          refine wl_val (.int .i64 (zk15.e : Int)) rfl (fun _ => rfl) ?_
          simp only [Act.put, Xa, Xz, Xs]
          refine wl_val (.bool ((zk15.e : Int) != 0)) rfl (fun w => run_cmp rfl rfl rfl Try.underlying64 rfl w) ?_
          simp only [Act.put, Xa, Xz, Xs]
          refine wl_val (.bool ((zk15.e : Int) != 0)) rfl (fun _ => rfl) ?_
          simp only [Act.put, Xa, Xz, Xs]
          cases h18 : ((zk15.e : Int) != 0)
          ·
           skip
           have p18 : ¬ ((zk15.e : Int) ≠ 0) := by first | (simp; done) | (simp at h18; done) | simpa using h18
           refine wl_load 31 (.tmp 20) (own_row 0 rfl) rfl rfl rfl Try.underlying31 rfl (by kernel_rfl) ?_
           simp only [Act.put, Xa, Xz, Xs]
           refine wl_val (.slice pw.ptr pn pw.cap) rfl (fun _ => rfl) ?_
           simp only [Act.put, Xa, Xz, Xs]
           refine wl_call_at 19 #[.agg #[.int .i64 zk15.F, .slice zk15.p zk15.X.length zk15.c], .slice pw.ptr pn pw.cap] (.bool true) rfl (fun _ => by go_simp) (fun W hE => has_true G s f zk15.F zk15.X _ _ Pl pn _ _ W (fz (by omega)) (okz (by omega)) ((sl_held k15.held (List.Sublist.cons _ (List.Sublist.cons _ (List.Sublist.cons _ (List.Sublist.cons _ (List.sublist_append_of_sublist_right (List.sublist_append_of_sublist_right (List.Sublist.refl _)))))))) W hE) b2 ((sl_own [⟨g16, #[.int .i64 zk15.F, .slice zk15.p zk15.X.length zk15.c], 31⟩, ⟨g11, #[.int .i64 ((L[j]!).1), .int .i64 ((L[j]!).2)], 53⟩, ⟨g9, #[.int .i64 f, .slice xp X.length xc], 31⟩, ⟨g1, #[.slice p G.length c, .slice q H.length d], 25⟩] (N ++ zk15.N) b3 rfl) W hE) (hasz (by omega)) (by omega) (Roub.has_cap b3)) ?_
           simp only [Act.put, Xa, Xz, Xs]
           refine wl_val (.bool false) rfl (fun _ => by go_simp) ?_
           simp only [Act.put, Xa, Xz, Xs]
           refine wl_val (.bool false) rfl (fun _ => rfl) ?_
           simp only [Act.put, Xa, Xz, Xs]
           refine wl_nil ?_
           refine we_then ?_
           refine wc_false rfl ?_
           refine wc_skip ?_
           refine we_then ?_
           have f8 : zk15.F = f := fz (by omega)
           rw [f8]
           refine wc_region ?_
           refine wl_load 31 (.tmp 20) (own_row 0 rfl) rfl rfl rfl Try.underlying31 rfl (by kernel_rfl) ?_
           simp only [Act.put, Xa, Xz, Xs]
           refine wl_store 2 31 (.tmp 17) (.tmp 124) (#[.int .i64 f, .slice zk15.p zk15.X.length zk15.c]) rfl rfl rfl rfl rfl (by kernel_rfl) rfl (by simp [Value.oneCell']) ?_
           simp only [Act.put, List.set_cons_zero, List.set_cons_succ]
           refine wl_nil ?_
           refine we_in ?_
           refine we_then ?_
           refine wc_region ?_
           refine wl_val (.int .i64 ((j + 1 : Nat) : Int)) rfl (fun w => run_nat (X := j) (Y := 1) (Z := j + 1) rfl rfl rfl rfl (by omega) w) ?_
           simp only [Act.put, Xa, Xz, Xs]
           refine wl_val (.int .i64 ((j + 1 : Nat) : Int)) rfl (fun _ => rfl) ?_
           simp only [Act.put, Xa, Xz, Xs]
           refine wl_nil ?_
           exact we_meet ⟨(j + 1), zk15.X, zk15.p, zk15.c, zk15.N, _, _, _, _, _, _, _, _, _, _, _, _, _, _, _, _, _, _, _, _, _, _, _, _, _, _, _, _, _, _, _, _, _, _, _, _, _, _, _, _, _, _, _, _⟩ (by (try dsimp only); exact ⟨⟨by omega, okz (by omega), k15.held, hasz (by omega)⟩, by omega⟩) rfl (List.Sublist.cons _ (List.Sublist.cons _ (List.Sublist.cons_cons _ (List.Sublist.cons_cons _ (List.Sublist.append_left (List.sublist_append_of_sublist_right (List.Sublist.refl _)) _)))))
          ·
           skip
           have p18 : (zk15.e : Int) ≠ 0 := by first | (simp; done) | (simp at h18; done) | simpa using h18
           refine wl_skip rfl ?_
           simp only [Act.put, Xa, Xz, Xs]
           refine wl_skip rfl ?_
           simp only [Act.put, Xa, Xz, Xs]
           refine wl_skip rfl ?_
           simp only [Act.put, Xa, Xz, Xs]
           refine wl_skip rfl ?_
           simp only [Act.put, Xa, Xz, Xs]
           refine wl_val (.bool true) rfl (fun _ => rfl) ?_
           simp only [Act.put, Xa, Xz, Xs]
           refine wl_nil ?_
           refine we_then ?_
           refine wc_true rfl ?_
           refine wc_seq ?_
           refine wc_region ?_
           refine wl_val (.bool false) rfl (fun _ => rfl) ?_
           simp only [Act.put, Xa, Xz, Xs]
           refine wl_nil ?_
           refine we_then ?_
           refine wc_ret ?_
           refine we_then_ret ?_
           refine we_in_ret ?_
           refine we_then_ret ?_
           refine we_then_ret ?_
           refine we_in_ret ?_
           refine we_then_ret ?_
           refine we_ret1 (.bool false) rfl rfl rfl (fun w1 hE => ?_)
           exact (by exfalso; omega)
         ·
          skip
          have p17 : (zk15.e : Int) = 13 := by first | (simp; done) | (simp at h17; done) | simpa using h17
          refine wc_true rfl ?_
          refine wc_seq ?_
          refine wc_region ?_
          refine wl_val (.bool true) rfl (fun _ => rfl) ?_
          simp only [Act.put, Xa, Xz, Xs]
          refine wl_nil ?_
          refine we_then ?_
          refine wc_ret ?_
          refine we_then_ret ?_
          refine we_in_ret ?_
          refine we_then_ret ?_
          refine we_then_ret ?_
          refine we_in_ret ?_
          refine we_then_ret ?_
          refine we_ret1 (.bool true) rfl rfl rfl (fun w1 hE => ?_)
          exact ⟨rfl, hE.below⟩
        ·
         skip
         have p14 : (L[j]!).2 < (L[j]!).1 := of_decide_eq_true h14
         refine wc_true rfl ?_
         refine wc_exit ?_
         refine we_then_exit ?_
         refine we_in_here ?_
         refine we_then ?_
         refine wc_region ?_
         refine wl_val (.int .i64 ((j + 1 : Nat) : Int)) rfl (fun w => run_nat (X := j) (Y := 1) (Z := j + 1) rfl rfl rfl rfl (by omega) w) ?_
         simp only [Act.put, Xa, Xz, Xs]
         refine wl_val (.int .i64 ((j + 1 : Nat) : Int)) rfl (fun _ => rfl) ?_
         simp only [Act.put, Xa, Xz, Xs]
         refine wl_nil ?_
         exact we_meet ⟨(j + 1), X, xp, xc, N, _, _, _, _, _, _, _, _, _, _, _, _, _, _, _, _, _, _, _, _, _, _, _, _, _, _, _, _, _, _, _, _, _, _, _, _, _, _, _, _, _, _, _, _⟩ (by (try dsimp only); exact ⟨⟨by omega, c2, c3, c4⟩, by omega⟩) rfl (List.Sublist.cons _ (List.Sublist.cons_cons _ (List.Sublist.cons_cons _ (List.Sublist.refl _))))
       ·
        skip
        have p13 : (L[j]!).1 < (-f) := of_decide_eq_true h13
        refine wl_skip rfl ?_
        simp only [Act.put, Xa, Xz, Xs]
        refine wl_skip rfl ?_
        simp only [Act.put, Xa, Xz, Xs]
        refine wl_skip rfl ?_
        simp only [Act.put, Xa, Xz, Xs]
        refine wl_skip rfl ?_
        simp only [Act.put, Xa, Xz, Xs]
        refine wl_skip rfl ?_
        simp only [Act.put, Xa, Xz, Xs]
        refine wl_val (.bool true) rfl (fun _ => rfl) ?_
        simp only [Act.put, Xa, Xz, Xs]
        refine wl_nil ?_
        refine we_then ?_
        refine wc_true rfl ?_
        refine wc_exit ?_
        refine we_then_exit ?_
        refine we_in_here ?_
        refine we_then ?_
        refine wc_region ?_
        refine wl_val (.int .i64 ((j + 1 : Nat) : Int)) rfl (fun w => run_nat (X := j) (Y := 1) (Z := j + 1) rfl rfl rfl rfl (by omega) w) ?_
        simp only [Act.put, Xa, Xz, Xs]
        refine wl_val (.int .i64 ((j + 1 : Nat) : Int)) rfl (fun _ => rfl) ?_
        simp only [Act.put, Xa, Xz, Xs]
        refine wl_nil ?_
        exact we_meet ⟨(j + 1), X, xp, xc, N, _, _, _, _, _, _, _, _, _, _, _, _, _, _, _, _, _, _, _, _, _, _, _, _, _, _, _, _, _, _, _, _, _, _, _, _, _, _, _, _, _, _, _, _⟩ (by (try dsimp only); exact ⟨⟨by omega, c2, c3, c4⟩, by omega⟩) rfl (List.Sublist.cons _ (List.Sublist.cons_cons _ (List.Sublist.cons_cons _ (List.Sublist.refl _))))
      ·
       skip
       have p12 : (endR G f Pl) < (L[j]!).1 := of_decide_eq_true h12
       refine wl_skip rfl ?_
       simp only [Act.put, Xa, Xz, Xs]
       refine wl_skip rfl ?_
       simp only [Act.put, Xa, Xz, Xs]
       refine wl_skip rfl ?_
       simp only [Act.put, Xa, Xz, Xs]
       refine wl_skip rfl ?_
       simp only [Act.put, Xa, Xz, Xs]
       refine wl_skip rfl ?_
       simp only [Act.put, Xa, Xz, Xs]
       refine wl_val (.bool true) rfl (fun _ => rfl) ?_
       simp only [Act.put, Xa, Xz, Xs]
       refine wl_val (.bool true) rfl (fun _ => rfl) ?_
       simp only [Act.put, Xa, Xz, Xs]
       refine wl_skip rfl ?_
       simp only [Act.put, Xa, Xz, Xs]
       refine wl_skip rfl ?_
       simp only [Act.put, Xa, Xz, Xs]
       refine wl_skip rfl ?_
       simp only [Act.put, Xa, Xz, Xs]
       refine wl_skip rfl ?_
       simp only [Act.put, Xa, Xz, Xs]
       refine wl_skip rfl ?_
       simp only [Act.put, Xa, Xz, Xs]
       refine wl_val (.bool true) rfl (fun _ => rfl) ?_
       simp only [Act.put, Xa, Xz, Xs]
       refine wl_nil ?_
       refine we_then ?_
       refine wc_true rfl ?_
       refine wc_exit ?_
       refine we_then_exit ?_
       refine we_in_here ?_
       refine we_then ?_
       refine wc_region ?_
       refine wl_val (.int .i64 ((j + 1 : Nat) : Int)) rfl (fun w => run_nat (X := j) (Y := 1) (Z := j + 1) rfl rfl rfl rfl (by omega) w) ?_
       simp only [Act.put, Xa, Xz, Xs]
       refine wl_val (.int .i64 ((j + 1 : Nat) : Int)) rfl (fun _ => rfl) ?_
       simp only [Act.put, Xa, Xz, Xs]
       refine wl_nil ?_
       exact we_meet ⟨(j + 1), X, xp, xc, N, _, _, _, _, _, _, _, _, _, _, _, _, _, _, _, _, _, _, _, _, _, _, _, _, _, _, _, _, _, _, _, _, _, _, _, _, _, _, _, _, _, _, _, _⟩ (by (try dsimp only); exact ⟨⟨by omega, c2, c3, c4⟩, by omega⟩) rfl (List.Sublist.cons _ (List.Sublist.cons_cons _ (List.Sublist.cons_cons _ (List.Sublist.refl _))))
    ·
     skip
     have p6 : (i : Int) < (B.length : Int) := of_decide_eq_true h6
     refine wc_true rfl ?_
     refine wc_skip ?_
     refine we_then ?_
     refine wc_seq ?_
     refine wc_block ?_
     refine wc_seq ?_
     refine wc_region ?_
     refine wl_read (eaddr bp (i * 1)) rfl (er_index i 1 (sl_old hB) rfl rfl rfl rfl (by omega) (flat_length (enc := encb) (size := 1) (fun _ => rfl) _) (by decide) Try.underlying59 (by kernel_rfl)) ?_
     simp only [Act.put, Xa, Xz, Xs]
     refine wl_read (.bool (B[i]!)) rfl (er_cell (i * 1) (.bool (B[i]!)) (sl_old hB) rfl rfl (flat_cell (enc := encb) (fun _ => rfl) B i 0 (by omega) (by decide)) Try.isAgg4) ?_
     simp only [Act.put, Xa, Xz, Xs]
     refine wl_val (.bool (B[i]!)) rfl (fun _ => rfl) ?_
     simp only [Act.put, Xa, Xz, Xs]
     refine wl_nil ?_
     refine we_then ?_
     refine wc_seq ?_
     have sm := hM.segs (Pl[pn - 1]!).toNat (by omega)
     have sm2 := sm.two
     refine wc_draw [.late, .plain, .late, .late, .late, .late, .plain, .plain, .plain, .plain, .plain, .late] none [] 129 (by kernel_rfl) rfl (by kernel_rfl) (by kernel_rfl) ?_
     refine ws_late (.pointer (some ⟨g1, 0, none⟩)) rfl rfl (fun _ => by go_simp) ?_
     simp only [Nat.reduceAdd, Act.put, Xa, Xz, Xs]
     refine ws_cell 22 (.tmp 47) (.slice p G.length c) (own_row 0 rfl) rfl rfl rfl rfl rfl Try.isAgg22 ?_
     simp only [Nat.reduceAdd, Act.put, Xa, Xz, Xs]
     refine ws_late (.slice pw.ptr pn pw.cap) rfl rfl (fun _ => rfl) ?_
     simp only [Nat.reduceAdd, Act.put, Xa, Xz, Xs]
     refine ws_late (.slice pw.ptr pn pw.cap) rfl rfl (fun _ => rfl) ?_
     simp only [Nat.reduceAdd, Act.put, Xa, Xz, Xs]
     refine ws_late (.int .i64 (pn : Int)) rfl rfl (fun w => er_len rfl rfl Try.underlying47 w) ?_
     simp only [Nat.reduceAdd, Act.put, Xa, Xz, Xs]
     refine ws_late (.int .i64 ((pn - 1 : Nat) : Int)) rfl rfl (fun w => run_nat (X := pn) (Y := 1) (Z := pn - 1) rfl rfl rfl (natOf_sub (by omega)) (by omega) w) ?_
     simp only [Nat.reduceAdd, Act.put, Xa, Xz, Xs]
     refine ws_read (eaddr pw.ptr ((pn - 1) * 1)) rfl rfl (er_index (pn - 1) 1 (sl_own [⟨g1, #[.slice p G.length c, .slice q H.length d], 25⟩] [] b3 rfl) rfl rfl rfl rfl (by omega) (flat_lenn (enc := enc1) (size := 1) (fun _ => rfl) b2) (by decide) Try.underlying47 (by kernel_rfl)) ?_
     simp only [Nat.reduceAdd, Act.put, Xa, Xz, Xs]
     refine ws_read (.int .i64 (Pl[pn - 1]!)) rfl rfl (er_cell ((pn - 1) * 1) (.int .i64 (Pl[pn - 1]!)) (sl_own [⟨g1, #[.slice p G.length c, .slice q H.length d], 25⟩] [] b3 rfl) rfl rfl (flat_cell (enc := enc1) (fun _ => rfl) Pl (pn - 1) 0 (by omega) (by decide)) Try.isAgg3) ?_
     simp only [Nat.reduceAdd, Act.put, Xa, Xz, Xs]
     refine ws_read (eaddr p (((Pl[pn - 1]!).toNat) * 3)) rfl rfl (er_index ((Pl[pn - 1]!).toNat) 3 (sl_old hS) rfl rfl rfl (by omega) (by omega) (flat_length (enc := sg) (size := 3) (fun _ => rfl) _) (by decide) Try.underlying22 (by kernel_rfl)) ?_
     simp only [Nat.reduceAdd, Act.put, Xa, Xz, Xs]
     refine ws_read (eaddr p (((Pl[pn - 1]!).toNat) * 3 + 2)) rfl rfl (er_field (z := 0) (((Pl[pn - 1]!).toNat) * 3) 2 2 (sl_old hS) rfl rfl (flat_lt (enc := sg) (fun _ => rfl) G ((Pl[pn - 1]!).toNat) 0 (by omega) (by decide)) Try.underlying62 rfl rfl (by kernel_rfl)) ?_
     simp only [Nat.reduceAdd, Act.put, Xa, Xz, Xs]
     refine ws_read (.slice ((G[(Pl[pn - 1]!).toNat]!).np) ((G[(Pl[pn - 1]!).toNat]!).X.length) ((G[(Pl[pn - 1]!).toNat]!).nc)) rfl rfl (er_cell (((Pl[pn - 1]!).toNat) * 3 + 2) (.slice ((G[(Pl[pn - 1]!).toNat]!).np) ((G[(Pl[pn - 1]!).toNat]!).X.length) ((G[(Pl[pn - 1]!).toNat]!).nc)) (sl_old hS) rfl rfl (flat_cell (enc := sg) (fun _ => rfl) G ((Pl[pn - 1]!).toNat) 2 (by omega) (by decide)) Try.isAgg47) ?_
     simp only [Nat.reduceAdd, Act.put, Xa, Xz, Xs]
     refine ws_late (.slice ((G[(Pl[pn - 1]!).toNat]!).np) ((G[(Pl[pn - 1]!).toNat]!).X.length) ((G[(Pl[pn - 1]!).toNat]!).nc)) rfl rfl (fun _ => rfl) ?_
     simp only [Nat.reduceAdd, Act.put, Xa, Xz, Xs]
     refine ws_nil [] trivial (by simp) ?_
     intro ps19
     simp only [fin, List.foldl_nil, List.map, List.nil_append]
     refine we_then ?_
     refine wc_seq ?_
     refine wc_seq ?_
     refine wc_region ?_
     refine wl_val (.slice ((G[(Pl[pn - 1]!).toNat]!).np) ((G[(Pl[pn - 1]!).toNat]!).X.length) ((G[(Pl[pn - 1]!).toNat]!).nc)) rfl (fun _ => rfl) ?_
     simp only [Act.put, Xa, Xz, Xs]
     refine wl_val (.int .i64 (((G[(Pl[pn - 1]!).toNat]!).X.length : Nat) : Int)) rfl (fun w => er_len rfl rfl Try.underlying47 w) ?_
     simp only [Act.put, Xa, Xz, Xs]
     refine wl_val (.bool ((((G[(Pl[pn - 1]!).toNat]!).X.length : Nat) : Int) == 0)) rfl (fun w => run_cmp rfl rfl rfl Try.underlying3 rfl w) ?_
     simp only [Act.put, Xa, Xz, Xs]
     refine wl_nil ?_
     refine we_then ?_
     cases h20 : ((((G[(Pl[pn - 1]!).toNat]!).X.length : Nat) : Int) == 0)
     ·
      skip
      have p20 : ¬ ((((G[(Pl[pn - 1]!).toNat]!).X.length : Nat) : Int) = 0) := by first | (simp; done) | (simp at h20; done) | simpa using h20
      refine wc_false rfl ?_
      refine wc_skip ?_
      refine we_then ?_
      refine wc_seq ?_
      refine wc_region ?_
      refine wl_val (.int .i64 0) rfl (fun _ => rfl) ?_
      simp only [Act.put, Xa, Xz, Xs]
      refine wl_nil ?_
      refine we_then ?_
      refine wc_seq ?_
      refine wc_seq ?_
      refine wc_region ?_
      refine wl_val (.bool (B[i]!)) rfl (fun _ => rfl) ?_
      simp only [Act.put, Xa, Xz, Xs]
      refine wl_val (.bool (B[i]!)) rfl (fun _ => rfl) ?_
      simp only [Act.put, Xa, Xz, Xs]
      cases h21 : ((B[i]!))
      ·
       skip
       refine wl_skip rfl ?_
       simp only [Act.put, Xa, Xz, Xs]
       refine wl_skip rfl ?_
       simp only [Act.put, Xa, Xz, Xs]
       refine wl_skip rfl ?_
       simp only [Act.put, Xa, Xz, Xs]
       refine wl_val (.bool false) rfl (fun _ => rfl) ?_
       simp only [Act.put, Xa, Xz, Xs]
       refine wl_nil ?_
       refine we_then ?_
       refine wc_false rfl ?_
       refine wc_skip ?_
       refine we_then ?_
       refine wc_region ?_
       refine wl_val (.slice pw.ptr pn pw.cap) rfl (fun _ => rfl) ?_
       simp only [Act.put, Xa, Xz, Xs]
       refine wl_val (.slice ((G[(Pl[pn - 1]!).toNat]!).np) ((G[(Pl[pn - 1]!).toNat]!).X.length) ((G[(Pl[pn - 1]!).toNat]!).nc)) rfl (fun _ => rfl) ?_
       simp only [Act.put, Xa, Xz, Xs]
       refine wl_val (.int .i64 0) rfl (fun _ => rfl) ?_
       simp only [Act.put, Xa, Xz, Xs]
       refine wl_read (eaddr ((G[(Pl[pn - 1]!).toNat]!).np) (0 * 1)) rfl (er_index 0 1 (sl_old (sg_at hG (by omega)).x) rfl rfl rfl rfl (by omega) (flat_length (enc := enc1) (size := 1) (fun _ => rfl) _) (by decide) Try.underlying47 (by kernel_rfl)) ?_
       simp only [Act.put, Xa, Xz, Xs]
       refine wl_read (.int .i64 (((G[(Pl[pn - 1]!).toNat]!).X)[0]!)) rfl (er_cell (0 * 1) (.int .i64 (((G[(Pl[pn - 1]!).toNat]!).X)[0]!)) (sl_old (sg_at hG (by omega)).x) rfl rfl (flat_cell (enc := enc1) (fun _ => rfl) ((G[(Pl[pn - 1]!).toNat]!).X) 0 0 (by omega) (by decide)) Try.isAgg3) ?_
       simp only [Act.put, Xa, Xz, Xs]
       refine wl_lit (e := 3) #[.int .i64 (((G[(Pl[pn - 1]!).toNat]!).X)[0]!)] 1 rfl (fun _ => by go_simp) ?_
       intro g22
       simp only [Act.put, Xa, Xz, Xs]
       refine wl_append (e := 3) (size := 1) (bytes := 8) (m := 1) [⟨g22, #[.int .i64 (((G[(Pl[pn - 1]!).toNat]!).X)[0]!)], 3⟩, ⟨g1, #[.slice p G.length c, .slice q H.length d], 25⟩] [] pw (ys := [.int .i64 (((G[(Pl[pn - 1]!).toNat]!).X)[0]!)]) rfl b3 (sl_row 0 rfl) rfl (by simp [Value.oneCell']) rfl rfl rfl rfl Try.underlying47 (by unfold Elem; kernel_rfl) (by decide) (by unfold maxLen; omega) (by omega) ?_
       intro s23 hs23
       simp only [List.cons_append, List.nil_append, Act.put, Xa, Xz, Xs]
       refine wl_val (.slice s23.ptr (pn + 1) s23.cap) rfl (fun _ => rfl) ?_
       simp only [Act.put, Xa, Xz, Xs]
       refine wl_nil ?_
       refine we_in ?_
       refine we_then ?_
       refine wc_region ?_
       refine wl_val (.int .i64 ((i + 1 : Nat) : Int)) rfl (fun w => run_nat (X := i) (Y := 1) (Z := i + 1) rfl rfl rfl rfl (by omega) w) ?_
       simp only [Act.put, Xa, Xz, Xs]
       refine wl_val (.int .i64 ((i + 1 : Nat) : Int)) rfl (fun _ => rfl) ?_
       simp only [Act.put, Xa, Xz, Xs]
       refine wl_nil ?_
       exact we_meet ⟨(i + 1), s23, (Pl ++ [((G[(Pl[pn - 1]!).toNat]!).X)[0]!]), (pn + 1), _, _, _, _, _, _, _, _, _, _, _, _, _, _, _, _, _, _, _, _, _, _, _, _, _, _, _, _, _, _, _, _, _, _⟩ (by (try dsimp only); have m9 : (((G[(Pl[pn - 1]!).toNat]!).X)[0]!) ∈ nxt G Pl := (by unfold nxt; rw [b2]; exact get_memi (by omega)); exact ⟨⟨by omega, by rw [List.length_append, b2]; rfl, has_snoc (x := ((G[(Pl[pn - 1]!).toNat]!).X)[0]!) hs23, wf_snoc hM.segs b4 (by omega) m9, by omega⟩, by omega⟩) rfl (List.Sublist.cons _ (List.Sublist.cons_cons _ (List.Sublist.append_left List.Sublist.slnil _)))
      ·
       skip
       refine wl_val (.slice ((G[(Pl[pn - 1]!).toNat]!).np) ((G[(Pl[pn - 1]!).toNat]!).X.length) ((G[(Pl[pn - 1]!).toNat]!).nc)) rfl (fun _ => rfl) ?_
       simp only [Act.put, Xa, Xz, Xs]
       refine wl_val (.int .i64 (((G[(Pl[pn - 1]!).toNat]!).X.length : Nat) : Int)) rfl (fun w => er_len rfl rfl Try.underlying47 w) ?_
       simp only [Act.put, Xa, Xz, Xs]
       refine wl_val (.bool ((((G[(Pl[pn - 1]!).toNat]!).X.length : Nat) : Int) == 2)) rfl (fun w => run_cmp rfl rfl rfl Try.underlying3 rfl w) ?_
       simp only [Act.put, Xa, Xz, Xs]
       refine wl_val (.bool ((((G[(Pl[pn - 1]!).toNat]!).X.length : Nat) : Int) == 2)) rfl (fun _ => rfl) ?_
       simp only [Act.put, Xa, Xz, Xs]
       refine wl_nil ?_
       refine we_then ?_
       cases h24 : ((((G[(Pl[pn - 1]!).toNat]!).X.length : Nat) : Int) == 2)
       ·
        skip
        have p24 : ¬ ((((G[(Pl[pn - 1]!).toNat]!).X.length : Nat) : Int) = 2) := by first | (simp; done) | (simp at h24; done) | simpa using h24
        refine wc_false rfl ?_
        refine wc_skip ?_
        refine we_then ?_
        refine wc_region ?_
        refine wl_val (.slice pw.ptr pn pw.cap) rfl (fun _ => rfl) ?_
        simp only [Act.put, Xa, Xz, Xs]
        refine wl_val (.slice ((G[(Pl[pn - 1]!).toNat]!).np) ((G[(Pl[pn - 1]!).toNat]!).X.length) ((G[(Pl[pn - 1]!).toNat]!).nc)) rfl (fun _ => rfl) ?_
        simp only [Act.put, Xa, Xz, Xs]
        refine wl_val (.int .i64 0) rfl (fun _ => rfl) ?_
        simp only [Act.put, Xa, Xz, Xs]
        refine wl_read (eaddr ((G[(Pl[pn - 1]!).toNat]!).np) (0 * 1)) rfl (er_index 0 1 (sl_old (sg_at hG (by omega)).x) rfl rfl rfl rfl (by omega) (flat_length (enc := enc1) (size := 1) (fun _ => rfl) _) (by decide) Try.underlying47 (by kernel_rfl)) ?_
        simp only [Act.put, Xa, Xz, Xs]
        refine wl_read (.int .i64 (((G[(Pl[pn - 1]!).toNat]!).X)[0]!)) rfl (er_cell (0 * 1) (.int .i64 (((G[(Pl[pn - 1]!).toNat]!).X)[0]!)) (sl_old (sg_at hG (by omega)).x) rfl rfl (flat_cell (enc := enc1) (fun _ => rfl) ((G[(Pl[pn - 1]!).toNat]!).X) 0 0 (by omega) (by decide)) Try.isAgg3) ?_
        simp only [Act.put, Xa, Xz, Xs]
        refine wl_lit (e := 3) #[.int .i64 (((G[(Pl[pn - 1]!).toNat]!).X)[0]!)] 1 rfl (fun _ => by go_simp) ?_
        intro g25
        simp only [Act.put, Xa, Xz, Xs]
        refine wl_append (e := 3) (size := 1) (bytes := 8) (m := 1) [⟨g25, #[.int .i64 (((G[(Pl[pn - 1]!).toNat]!).X)[0]!)], 3⟩, ⟨g1, #[.slice p G.length c, .slice q H.length d], 25⟩] [] pw (ys := [.int .i64 (((G[(Pl[pn - 1]!).toNat]!).X)[0]!)]) rfl b3 (sl_row 0 rfl) rfl (by simp [Value.oneCell']) rfl rfl rfl rfl Try.underlying47 (by unfold Elem; kernel_rfl) (by decide) (by unfold maxLen; omega) (by omega) ?_
        intro s26 hs26
        simp only [List.cons_append, List.nil_append, Act.put, Xa, Xz, Xs]
        refine wl_val (.slice s26.ptr (pn + 1) s26.cap) rfl (fun _ => rfl) ?_
        simp only [Act.put, Xa, Xz, Xs]
        refine wl_nil ?_
        refine we_in ?_
        refine we_then ?_
        refine wc_region ?_
        refine wl_val (.int .i64 ((i + 1 : Nat) : Int)) rfl (fun w => run_nat (X := i) (Y := 1) (Z := i + 1) rfl rfl rfl rfl (by omega) w) ?_
        simp only [Act.put, Xa, Xz, Xs]
        refine wl_val (.int .i64 ((i + 1 : Nat) : Int)) rfl (fun _ => rfl) ?_
        simp only [Act.put, Xa, Xz, Xs]
        refine wl_nil ?_
        exact we_meet ⟨(i + 1), s26, (Pl ++ [((G[(Pl[pn - 1]!).toNat]!).X)[0]!]), (pn + 1), _, _, _, _, _, _, _, _, _, _, _, _, _, _, _, _, _, _, _, _, _, _, _, _, _, _, _, _, _, _, _, _, _, _⟩ (by (try dsimp only); have m9 : (((G[(Pl[pn - 1]!).toNat]!).X)[0]!) ∈ nxt G Pl := (by unfold nxt; rw [b2]; exact get_memi (by omega)); exact ⟨⟨by omega, by rw [List.length_append, b2]; rfl, has_snoc (x := ((G[(Pl[pn - 1]!).toNat]!).X)[0]!) hs26, wf_snoc hM.segs b4 (by omega) m9, by omega⟩, by omega⟩) rfl (List.Sublist.cons _ (List.Sublist.cons_cons _ (List.Sublist.append_left List.Sublist.slnil _)))
       ·
        skip
        have p24 : (((G[(Pl[pn - 1]!).toNat]!).X.length : Nat) : Int) = 2 := by first | (simp; done) | (simp at h24; done) | simpa using h24
        refine wc_true rfl ?_
        refine wc_region ?_
        refine wl_val (.int .i64 1) rfl (fun _ => rfl) ?_
        simp only [Act.put, Xa, Xz, Xs]
        refine wl_nil ?_
        refine we_then ?_
        refine wc_region ?_
        refine wl_val (.slice pw.ptr pn pw.cap) rfl (fun _ => rfl) ?_
        simp only [Act.put, Xa, Xz, Xs]
        refine wl_val (.slice ((G[(Pl[pn - 1]!).toNat]!).np) ((G[(Pl[pn - 1]!).toNat]!).X.length) ((G[(Pl[pn - 1]!).toNat]!).nc)) rfl (fun _ => rfl) ?_
        simp only [Act.put, Xa, Xz, Xs]
        refine wl_val (.int .i64 1) rfl (fun _ => rfl) ?_
        simp only [Act.put, Xa, Xz, Xs]
        refine wl_read (eaddr ((G[(Pl[pn - 1]!).toNat]!).np) (1 * 1)) rfl (er_index 1 1 (sl_old (sg_at hG (by omega)).x) rfl rfl rfl rfl (by omega) (flat_length (enc := enc1) (size := 1) (fun _ => rfl) _) (by decide) Try.underlying47 (by kernel_rfl)) ?_
        simp only [Act.put, Xa, Xz, Xs]
        refine wl_read (.int .i64 (((G[(Pl[pn - 1]!).toNat]!).X)[1]!)) rfl (er_cell (1 * 1) (.int .i64 (((G[(Pl[pn - 1]!).toNat]!).X)[1]!)) (sl_old (sg_at hG (by omega)).x) rfl rfl (flat_cell (enc := enc1) (fun _ => rfl) ((G[(Pl[pn - 1]!).toNat]!).X) 1 0 (by omega) (by decide)) Try.isAgg3) ?_
        simp only [Act.put, Xa, Xz, Xs]
        refine wl_lit (e := 3) #[.int .i64 (((G[(Pl[pn - 1]!).toNat]!).X)[1]!)] 1 rfl (fun _ => by go_simp) ?_
        intro g27
        simp only [Act.put, Xa, Xz, Xs]
        refine wl_append (e := 3) (size := 1) (bytes := 8) (m := 1) [⟨g27, #[.int .i64 (((G[(Pl[pn - 1]!).toNat]!).X)[1]!)], 3⟩, ⟨g1, #[.slice p G.length c, .slice q H.length d], 25⟩] [] pw (ys := [.int .i64 (((G[(Pl[pn - 1]!).toNat]!).X)[1]!)]) rfl b3 (sl_row 0 rfl) rfl (by simp [Value.oneCell']) rfl rfl rfl rfl Try.underlying47 (by unfold Elem; kernel_rfl) (by decide) (by unfold maxLen; omega) (by omega) ?_
        intro s28 hs28
        simp only [List.cons_append, List.nil_append, Act.put, Xa, Xz, Xs]
        refine wl_val (.slice s28.ptr (pn + 1) s28.cap) rfl (fun _ => rfl) ?_
        simp only [Act.put, Xa, Xz, Xs]
        refine wl_nil ?_
        refine we_in ?_
        refine we_then ?_
        refine wc_region ?_
        refine wl_val (.int .i64 ((i + 1 : Nat) : Int)) rfl (fun w => run_nat (X := i) (Y := 1) (Z := i + 1) rfl rfl rfl rfl (by omega) w) ?_
        simp only [Act.put, Xa, Xz, Xs]
        refine wl_val (.int .i64 ((i + 1 : Nat) : Int)) rfl (fun _ => rfl) ?_
        simp only [Act.put, Xa, Xz, Xs]
        refine wl_nil ?_
        exact we_meet ⟨(i + 1), s28, (Pl ++ [((G[(Pl[pn - 1]!).toNat]!).X)[1]!]), (pn + 1), _, _, _, _, _, _, _, _, _, _, _, _, _, _, _, _, _, _, _, _, _, _, _, _, _, _, _, _, _, _, _, _, _, _⟩ (by (try dsimp only); have m9 : (((G[(Pl[pn - 1]!).toNat]!).X)[1]!) ∈ nxt G Pl := (by unfold nxt; rw [b2]; exact get_memi (by omega)); exact ⟨⟨by omega, by rw [List.length_append, b2]; rfl, has_snoc (x := ((G[(Pl[pn - 1]!).toNat]!).X)[1]!) hs28, wf_snoc hM.segs b4 (by omega) m9, by omega⟩, by omega⟩) rfl (List.Sublist.cons _ (List.Sublist.cons_cons _ (List.Sublist.append_left List.Sublist.slnil _)))
     ·
      skip
      have p20 : (((G[(Pl[pn - 1]!).toNat]!).X.length : Nat) : Int) = 0 := by first | (simp; done) | (simp at h20; done) | simpa using h20
      refine wc_true rfl ?_
      refine wc_exit ?_
      refine we_then_exit ?_
      refine we_in_out rfl ?_
      refine we_then_exit ?_
      refine we_then_exit ?_
      refine we_in_here ?_
      refine we_then ?_
      refine wc_seq ?_
      refine wc_region ?_
      refine wl_load 25 (.tmp 5) (own_row 0 rfl) rfl rfl rfl Try.underlying25 rfl (by kernel_rfl) ?_
      simp only [Act.put, Xa, Xz, Xs]
      refine wl_call_open (ι := Cp) (fun zz => match zz with | zk29 => ⟨g1, #[.slice p G.length c, .slice q H.length d], 25⟩ :: (pw.rows 3 ++ zk29.N)) 12 #[.agg #[.slice p G.length c, .slice q H.length d]] (fun zz => match zz with | zk29 => .agg #[.slice zk29.p zk29.K.length zk29.c, .slice zk29.q H.length zk29.d]) (fun zz => match zz with | zk29 => zk29.N) (fun zz => match zz with | zk29 => CpOk G H zk29) (by rintro zk29; simp) rfl (fun _ => by go_simp) (fun W hE => refs_open G H _ _ _ _ W ((sl_old hS) W hE) (oks_below hG hE.below) ((sl_old hH) W hE) (may_few hM).1 (may_few hM).2) ?_
      rintro zk29 k29
      (try dsimp only)
      simp only [Act.put, Xa, Xz, Xs]
      refine wl_val (.int .i64 f) rfl (fun _ => rfl) ?_
      simp only [Act.put, Xa, Xz, Xs]
      refine wl_val (.slice pw.ptr pn pw.cap) rfl (fun _ => rfl) ?_
      simp only [Act.put, Xa, Xz, Xs]
      refine wl_call_at 11 #[.agg #[.slice zk29.p zk29.K.length zk29.c, .slice zk29.q H.length zk29.d], .int .i64 f, .slice pw.ptr pn pw.cap] (.int .i64 (endR G f Pl)) rfl (fun _ => by go_simp) (fun W hE => end_lenr f Pl _ _ zk29.K H _ _ zk29.c zk29.d pn W (held_at k29.segs (List.Sublist.cons _ (List.sublist_append_of_sublist_right (List.Sublist.refl _))) hE) (k29.ok _ _ hG (hE.sub (List.Sublist.cons _ (List.sublist_append_of_sublist_right (List.Sublist.refl _))))) (held_at k29.grps (List.Sublist.cons _ (List.sublist_append_of_sublist_right (List.Sublist.refl _))) hE) (by rw [k29.same.length]; omega) (by omega) (segs_same k29.same hM.segs) ⟨hf.1, by omega⟩ ((sl_own [⟨g1, #[.slice p G.length c, .slice q H.length d], 25⟩] zk29.N b3 rfl) W hE) (rtok_same k29.same b4.ok) b2 (endR_same k29.same)) ?_
      simp only [Act.put, Xa, Xz, Xs]
      refine wl_val (.int .i64 (endR G f Pl)) rfl (fun _ => rfl) ?_
      simp only [Act.put, Xa, Xz, Xs]
      refine wl_nil ?_
      refine we_then ?_
      refine wc_seq ?_
      refine wc_region ?_
      refine wl_val (.int .i64 s) rfl (fun _ => rfl) ?_
      simp only [Act.put, Xa, Xz, Xs]
      refine wl_val (.int .i64 f) rfl (fun _ => rfl) ?_
      simp only [Act.put, Xa, Xz, Xs]
      refine wl_call_open (ι := Pz) (fun zz => match zz with | zk30 => ⟨g1, #[.slice p G.length c, .slice q H.length d], 25⟩ :: (pw.rows 3 ++ (zk29.N ++ zk30.N))) 17 #[.int .i64 s, .int .i64 f] (fun zz => match zz with | zk30 => .agg #[.int .i64 f, .slice zk30.p 1 zk30.c]) (fun zz => match zz with | zk30 => zk30.N) (fun zz => match zz with | zk30 => Held zk30.N zk30.p (flat rt [[s]])) (by rintro zk30; simp) rfl (fun _ => by go_simp) (fun W hE => Rou.begin_any s f W) ?_
      rintro zk30 k30
      (try dsimp only)
      simp only [Act.put, Xa, Xz, Xs]
      refine wl_new 31 (#[.int .i64 0, .slice none 0 0]) rfl (fun _ => by go_simp) ?_
      intro g31
      simp only [Act.put, Xa, Xz, Xs]
      refine wl_store 0 31 (.tmp 17) (.tmp 82) (#[.int .i64 f, .slice zk30.p 1 zk30.c]) rfl rfl rfl rfl rfl (by kernel_rfl) rfl (by simp [Value.oneCell']) ?_
      simp only [Act.put, List.set_cons_zero]
      refine wl_nil ?_
      refine we_then ?_
      refine wc_seq ?_
      refine wc_seq ?_
      refine wc_region ?_
      refine wl_val (.slice lp L.length lc) rfl (fun _ => rfl) ?_
      simp only [Act.put, Xa, Xz, Xs]
      refine wl_val (.int .i64 (L.length : Int)) rfl (fun w => er_len rfl rfl Try.underlying26 w) ?_
      simp only [Act.put, Xa, Xz, Xs]
      refine wl_val (.int .i64 0) rfl (fun _ => rfl) ?_
      simp only [Act.put, Xa, Xz, Xs]
      refine wl_nil ?_
      refine we_then ?_
      refine wc_block ?_
      refine wc_loop (fun (zz : Nat × List Ro × Option Addr × Nat × List Rw × Value × Value × Value × Value × Value × Value × Value × Value × Value × Value × Value × Value × Value × Value × Value × Value × Value × Value × Value × Value × Value × Value × Value × Value × Value × Value × Value × Value × Value × Value × Value × Value × Value × Value × Value × Value × Value × Value × Value × Value × Value × Value × Value × Value) => match zz with | ⟨j, X, xp, xc, N, u10, u19, u20, u21, u86, u87, u88, u89, u90, u91, u92, u93, u94, u95, u96, u97, u98, u99, u100, u101, u102, u103, u104, u105, u106, u107, u108, u109, u110, u111, u112, u113, u114, u115, u116, u117, u118, u119, u120, u121, u122, u123, u124, u125⟩ => ({ tmps := #[.agg #[.slice p G.length c, .slice q H.length d], .int .i64 s, .int .i64 f, .slice bp B.length bc, .slice lp L.length lc, .pointer (some ⟨g1, 0, none⟩), undef, undef, undef, undef, u10, .slice pw.ptr pn pw.cap, undef, .bool (B[i]!), .slice ((G[(Pl[pn - 1]!).toNat]!).np) ((G[(Pl[pn - 1]!).toNat]!).X.length) ((G[(Pl[pn - 1]!).toNat]!).nc), u15, .int .i64 (endR G f Pl), .pointer (some ⟨g31, 0, none⟩), undef, u19, u20, u21, .bool true, .bool false, .agg #[.slice p G.length c, .slice q H.length d], .int .i64 s, .int .i64 f, .bool true, .bool false, .bool false, .slice bp B.length bc, .int .i64 (B.length : Int), .bool false, .bool false, .bool false, .slice lp L.length lc, .int .i64 (L.length : Int), .bool false, .bool false, .int .i64 s, .slice ((Own.row g5 1 #[.int .i64 s]).ptr) 1 ((Own.row g5 1 #[.int .i64 s]).cap), .slice bp B.length bc, .int .i64 (B.length : Int), .int .i64 (i : Int), .bool true, eaddr bp (i * 1), .bool (B[i]!), .pointer (some ⟨g1, 0, none⟩), .slice p G.length c, .slice pw.ptr pn pw.cap, .slice pw.ptr pn pw.cap, .int .i64 (pn : Int), .int .i64 ((pn - 1 : Nat) : Int), eaddr pw.ptr ((pn - 1) * 1), .int .i64 (Pl[pn - 1]!), eaddr p (((Pl[pn - 1]!).toNat) * 3), eaddr p (((Pl[pn - 1]!).toNat) * 3 + 2), .slice ((G[(Pl[pn - 1]!).toNat]!).np) ((G[(Pl[pn - 1]!).toNat]!).X.length) ((G[(Pl[pn - 1]!).toNat]!).nc), .slice ((G[(Pl[pn - 1]!).toNat]!).np) ((G[(Pl[pn - 1]!).toNat]!).X.length) ((G[(Pl[pn - 1]!).toNat]!).nc), .int .i64 (((G[(Pl[pn - 1]!).toNat]!).X.length : Nat) : Int), .bool true, u61, u62, u63, u64, u65, u66, u67, u68, u69, u70, u71, u72, u73, u74, .agg #[.slice p G.length c, .slice q H.length d], .agg #[.slice zk29.p zk29.K.length zk29.c, .slice zk29.q H.length zk29.d], .int .i64 f, .slice pw.ptr pn pw.cap, .int .i64 (endR G f Pl), .int .i64 s, .int .i64 f, .agg #[.int .i64 f, .slice zk30.p 1 zk30.c], .slice lp L.length lc, .int .i64 (L.length : Int), .int .i64 (j : Int), u86, u87, u88, u89, u90, u91, u92, u93, u94, u95, u96, u97, u98, u99, u100, u101, u102, u103, u104, u105, u106, u107, u108, u109, u110, u111, u112, u113, u114, u115, u116, u117, u118, u119, u120, u121, u122, u123, u124, u125, undef, undef, undef], defers := [] } : Act)) (fun (zz : Nat × List Ro × Option Addr × Nat × List Rw × Value × Value × Value × Value × Value × Value × Value × Value × Value × Value × Value × Value × Value × Value × Value × Value × Value × Value × Value × Value × Value × Value × Value × Value × Value × Value × Value × Value × Value × Value × Value × Value × Value × Value × Value × Value × Value × Value × Value × Value × Value × Value × Value × Value) => match zz with | ⟨j, X, xp, xc, N, u10, u19, u20, u21, u86, u87, u88, u89, u90, u91, u92, u93, u94, u95, u96, u97, u98, u99, u100, u101, u102, u103, u104, u105, u106, u107, u108, u109, u110, u111, u112, u113, u114, u115, u116, u117, u118, u119, u120, u121, u122, u123, u124, u125⟩ => ⟨g31, #[.int .i64 f, .slice xp X.length xc], 31⟩ :: ⟨g1, #[.slice p G.length c, .slice q H.length d], 25⟩ :: (pw.rows 3 ++ N)) (fun (zz : Nat × List Ro × Option Addr × Nat × List Rw × Value × Value × Value × Value × Value × Value × Value × Value × Value × Value × Value × Value × Value × Value × Value × Value × Value × Value × Value × Value × Value × Value × Value × Value × Value × Value × Value × Value × Value × Value × Value × Value × Value × Value × Value × Value × Value × Value × Value × Value × Value × Value × Value × Value) => match zz with | ⟨j, X, xp, xc, N, u10, u19, u20, u21, u86, u87, u88, u89, u90, u91, u92, u93, u94, u95, u96, u97, u98, u99, u100, u101, u102, u103, u104, u105, u106, u107, u108, u109, u110, u111, u112, u113, u114, u115, u116, u117, u118, u119, u120, u121, u122, u123, u124, u125⟩ => j ≤ L.length ∧ SetOk G s f X ∧ Held N xp (flat rt X) ∧ HasR X Pl) (fun (zz : Nat × List Ro × Option Addr × Nat × List Rw × Value × Value × Value × Value × Value × Value × Value × Value × Value × Value × Value × Value × Value × Value × Value × Value × Value × Value × Value × Value × Value × Value × Value × Value × Value × Value × Value × Value × Value × Value × Value × Value × Value × Value × Value × Value × Value × Value × Value × Value × Value × Value × Value × Value) => match zz with | ⟨j, X, xp, xc, N, u10, u19, u20, u21, u86, u87, u88, u89, u90, u91, u92, u93, u94, u95, u96, u97, u98, u99, u100, u101, u102, u103, u104, u105, u106, u107, u108, u109, u110, u111, u112, u113, u114, u115, u116, u117, u118, u119, u120, u121, u122, u123, u124, u125⟩ => L.length - j) ⟨0, [[s]], zk30.p, zk30.c, zk30.N, _, _, _, _, _, _, _, _, _, _, _, _, _, _, _, _, _, _, _, _, _, _, _, _, _, _, _, _, _, _, _, _, _, _, _, _, _, _, _, _, _, _, _, _⟩ ⟨Nat.zero_le _, begin_ok hs hf, k30, ⟨[s], List.mem_singleton.2 rfl, fun k h1 h2 => by (obtain rfl : k = 0 := (by simpa using h1)); exact b4.first.symm⟩⟩ rfl (List.Sublist.cons_cons _ (List.Sublist.cons_cons _ (List.Sublist.append_left (List.sublist_append_of_sublist_right (List.Sublist.refl _)) _))) ?_
      rintro ⟨j, X, xp, xc, N, u10, u19, u20, u21, u86, u87, u88, u89, u90, u91, u92, u93, u94, u95, u96, u97, u98, u99, u100, u101, u102, u103, u104, u105, u106, u107, u108, u109, u110, u111, u112, u113, u114, u115, u116, u117, u118, u119, u120, u121, u122, u123, u124, u125⟩ hφ
      (try dsimp only at hφ ⊢)
      obtain ⟨c1, c2, c3, c4⟩ := hφ
      have ft := fun h : j < L.length => fit_at hF h
      refine wc_seq ?_
      refine wc_region ?_
      refine wl_val (.bool (decide ((j : Int) < (L.length : Int)))) rfl (fun w => run_cmp rfl rfl rfl Try.underlying3 rfl w) ?_
      simp only [Act.put, Xa, Xz, Xs]
      refine wl_nil ?_
      refine we_then ?_
      refine wc_seq ?_
      cases h32 : (decide ((j : Int) < (L.length : Int)))
      ·
       skip
       have p32 : ¬ ((j : Int) < (L.length : Int)) := of_decide_eq_false h32
       refine wc_false rfl ?_
       refine wc_exit ?_
       refine we_then_exit ?_
       refine we_then_exit ?_
       refine we_in_here ?_
       refine we_then ?_
       refine wc_seq ?_
       refine wc_region ?_
       refine wl_load 31 (.tmp 17) (own_row 0 rfl) rfl rfl rfl Try.underlying31 rfl (by kernel_rfl) ?_
       simp only [Act.put, Xa, Xz, Xs]
       refine wl_val (.slice pw.ptr pn pw.cap) rfl (fun _ => rfl) ?_
       simp only [Act.put, Xa, Xz, Xs]
       refine wl_call_at 19 #[.agg #[.int .i64 f, .slice xp X.length xc], .slice pw.ptr pn pw.cap] (.bool true) rfl (fun _ => by go_simp) (fun W hE => has_true G s f f X _ _ Pl pn _ _ W rfl c2 ((sl_held c3 (List.Sublist.cons _ (List.Sublist.cons _ (List.sublist_append_of_sublist_right (List.Sublist.refl _))))) W hE) b2 ((sl_own [⟨g31, #[.int .i64 f, .slice xp X.length xc], 31⟩, ⟨g1, #[.slice p G.length c, .slice q H.length d], 25⟩] N b3 rfl) W hE) c4 (by omega) (Roub.has_cap b3)) ?_
       simp only [Act.put, Xa, Xz, Xs]
       refine wl_val (.bool true) rfl (fun _ => rfl) ?_
       simp only [Act.put, Xa, Xz, Xs]
       refine wl_nil ?_
       refine we_then ?_
       refine wc_ret ?_
       refine we_ret1 (.bool true) rfl rfl rfl (fun w1 hE => ?_)
       exact ⟨rfl, hE.below⟩
      ·
       skip
       have p32 : (j : Int) < (L.length : Int) := of_decide_eq_true h32
       refine wc_true rfl ?_
       refine wc_skip ?_
       refine we_then ?_
       refine wc_seq ?_
       refine wc_block ?_
       refine wc_seq ?_
       refine wc_region ?_
       refine wl_read (eaddr lp (j * 2)) rfl (er_index j 2 (sl_old hL) rfl rfl rfl rfl (by omega) (flat_length (enc := enc2) (size := 2) (fun _ => rfl) _) (by decide) Try.underlying26 (by kernel_rfl)) ?_
       simp only [Act.put, Xa, Xz, Xs]
       refine wl_read (.agg #[.int .i64 ((L[j]!).1), .int .i64 ((L[j]!).2)]) rfl (er_part (j * 2) [.int .i64 ((L[j]!).1), .int .i64 ((L[j]!).2)] (sl_old hL) rfl rfl (flat_part (enc := enc2) (fun _ => rfl) L j (by omega)) (Nat.zero_lt_succ _) Try.underlying53 rfl (by kernel_rfl)) ?_
       simp only [Act.put, Xa, Xz, Xs]
       refine wl_new 53 (#[.int .i64 0, .int .i64 0]) rfl (fun _ => by go_simp) ?_
       intro g33
       simp only [Act.put, Xa, Xz, Xs]
       refine wl_store 0 53 (.tmp 19) (.tmp 88) (#[.int .i64 ((L[j]!).1), .int .i64 ((L[j]!).2)]) rfl rfl rfl rfl rfl (by kernel_rfl) rfl (by simp [Value.oneCell']) ?_
       simp only [Act.put, List.set_cons_zero]
       refine wl_nil ?_
       refine we_then ?_
       refine wc_seq ?_
       refine wc_seq ?_
       refine wc_region ?_
       refine wl_val (.pointer (some ⟨g33, 0, none⟩)) rfl (fun _ => by go_simp) ?_
       simp only [Act.put, Xa, Xz, Xs]
       refine wl_cell 2 (.tmp 89) (.int .i64 ((L[j]!).1)) (own_row 0 rfl) rfl rfl rfl rfl Try.isAgg2 ?_
       simp only [Act.put, Xa, Xz, Xs]
       refine wl_val (.int .i64 (endR G f Pl)) rfl (fun _ => rfl) ?_
       simp only [Act.put, Xa, Xz, Xs]
       refine wl_val (.bool (decide ((endR G f Pl) < (L[j]!).1))) rfl (fun w => run_cmp rfl rfl rfl Try.underlying2 rfl w) ?_
       simp only [Act.put, Xa, Xz, Xs]
       refine wl_val (.bool (decide ((endR G f Pl) < (L[j]!).1))) rfl (fun _ => rfl) ?_
       simp only [Act.put, Xa, Xz, Xs]
       cases h34 : (decide ((endR G f Pl) < (L[j]!).1))
       ·
        skip
        have p34 : ¬ ((endR G f Pl) < (L[j]!).1) := of_decide_eq_false h34
        refine wl_val (.pointer (some ⟨g33, 0, none⟩)) rfl (fun _ => by go_simp) ?_
        simp only [Act.put, Xa, Xz, Xs]
        refine wl_cell 2 (.tmp 94) (.int .i64 ((L[j]!).1)) (own_row 0 rfl) rfl rfl rfl rfl Try.isAgg2 ?_
        simp only [Act.put, Xa, Xz, Xs]
        refine wl_val (.int .i64 f) rfl (fun _ => rfl) ?_
        simp only [Act.put, Xa, Xz, Xs]
        refine wl_val (.int .i64 (-f)) rfl (fun w => run_neg rfl rfl Try.underlying2 (i64_in (by omega) (by omega)) w) ?_
        simp only [Act.put, Xa, Xz, Xs]
        refine wl_val (.bool (decide ((L[j]!).1 < (-f)))) rfl (fun w => run_cmp rfl rfl rfl Try.underlying2 rfl w) ?_
        simp only [Act.put, Xa, Xz, Xs]
        refine wl_val (.bool (decide ((L[j]!).1 < (-f)))) rfl (fun _ => rfl) ?_
        simp only [Act.put, Xa, Xz, Xs]
        refine wl_val (.bool (decide ((L[j]!).1 < (-f)))) rfl (fun _ => rfl) ?_
        simp only [Act.put, Xa, Xz, Xs]
        cases h35 : (decide ((L[j]!).1 < (-f)))
        ·
         skip
         have p35 : ¬ ((L[j]!).1 < (-f)) := of_decide_eq_false h35
         refine wl_val (.pointer (some ⟨g33, 0, none⟩)) rfl (fun _ => by go_simp) ?_
         simp only [Act.put, Xa, Xz, Xs]
         refine wl_cell 2 (.tmp 101) (.int .i64 ((L[j]!).1)) (own_row 0 rfl) rfl rfl rfl rfl Try.isAgg2 ?_
         simp only [Act.put, Xa, Xz, Xs]
         refine wl_val (.pointer (some ⟨g33, 1, none⟩)) rfl (fun _ => by go_simp) ?_
         simp only [Act.put, Xa, Xz, Xs]
         refine wl_cell 2 (.tmp 103) (.int .i64 ((L[j]!).2)) (own_row 0 rfl) rfl rfl rfl rfl Try.isAgg2 ?_
         simp only [Act.put, Xa, Xz, Xs]
         refine wl_val (.bool (decide ((L[j]!).2 < (L[j]!).1))) rfl (fun w => run_cmp rfl rfl rfl Try.underlying2 rfl w) ?_
         simp only [Act.put, Xa, Xz, Xs]
         refine wl_val (.bool (decide ((L[j]!).2 < (L[j]!).1))) rfl (fun _ => rfl) ?_
         simp only [Act.put, Xa, Xz, Xs]
         refine wl_nil ?_
         refine we_then ?_
         cases h36 : (decide ((L[j]!).2 < (L[j]!).1))
         ·
          skip
          have p36 : ¬ ((L[j]!).2 < (L[j]!).1) := of_decide_eq_false h36
          refine wc_false rfl ?_
          refine wc_skip ?_
          refine we_then ?_
          refine wc_seq ?_
          refine wc_region ?_
          refine wl_load 31 (.tmp 17) (own_row 1 rfl) rfl rfl rfl Try.underlying31 rfl (by kernel_rfl) ?_
          simp only [Act.put, Xa, Xz, Xs]
          refine wl_load 25 (.tmp 5) (own_row 2 rfl) rfl rfl rfl Try.underlying25 rfl (by kernel_rfl) ?_
          simp only [Act.put, Xa, Xz, Xs]
          refine wl_load 53 (.tmp 19) (own_row 0 rfl) rfl rfl rfl Try.underlying53 rfl (by kernel_rfl) ?_
          simp only [Act.put, Xa, Xz, Xs]
          refine wl_call_open (ι := Gp2) (fun zz => match zz with | zk37 => ⟨g33, #[.int .i64 ((L[j]!).1), .int .i64 ((L[j]!).2)], 53⟩ :: ⟨g31, #[.int .i64 f, .slice xp X.length xc], 31⟩ :: ⟨g1, #[.slice p G.length c, .slice q H.length d], 25⟩ :: (pw.rows 3 ++ (N ++ zk37.N))) 18 #[.agg #[.int .i64 f, .slice xp X.length xc], .agg #[.slice p G.length c, .slice q H.length d], .agg #[.int .i64 ((L[j]!).1), .int .i64 ((L[j]!).2)]] (fun zz => match zz with | zk37 => .tuple #[.agg #[.int .i64 zk37.F, .slice zk37.p zk37.X.length zk37.c], .int .i64 (zk37.e : Int)]) (fun zz => match zz with | zk37 => zk37.N) (fun zz => match zz with | zk37 => Gp2Ok G f ((L[j]!).2) ((L[j]!).1) X zk37) (by rintro zk37; simp) rfl (fun _ => by go_simp) (fun W hE => grow_gen ((L[j]!).1) ((L[j]!).2) G H _ _ _ _ s f f X X.length _ _ W ((sl_old hS) W hE) (oks_below hG hE.below) ((sl_old hH) W hE) hM rfl rfl c2 ((sl_held c3 (List.Sublist.cons _ (List.Sublist.cons _ (List.Sublist.cons _ (List.sublist_append_of_sublist_right (List.Sublist.refl _)))))) W hE) (ft (by omega)).1 (ft (by omega)).2 hC) ?_
          rintro zk37 k37
          (try dsimp only)
          have kz : zk37.e ≠ 13 → zk37.e = 0 ∧ HasR zk37.X Pl := fun h => keep hM.segs c2 b4 (by omega) c4 (by omega) k37.is h
          have ez : zk37.e ≠ 13 → zk37.e = 0 := fun h => (kz h).1
          have hasz : zk37.e = 0 → HasR zk37.X Pl := fun h => (kz (by omega)).2
          have okz : zk37.e = 0 → SetOk G s f zk37.X := fun h => grow_ok hM.segs c2 (by have x := k37.is; rwa [h] at x)
          have fz : zk37.e = 0 → zk37.F = f := k37.frm
          simp only [Act.put, Xa, Xz, Xs]
          refine wl_val (.tuple #[.agg #[.int .i64 zk37.F, .slice zk37.p zk37.X.length zk37.c], .int .i64 (zk37.e : Int)]) rfl (fun _ => rfl) ?_
          simp only [Act.put, Xa, Xz, Xs]
          refine wl_val (.agg #[.int .i64 zk37.F, .slice zk37.p zk37.X.length zk37.c]) rfl (fun _ => by go_simp) ?_
          simp only [Act.put, Xa, Xz, Xs]
          refine wl_val (.int .i64 (zk37.e : Int)) rfl (fun _ => by go_simp) ?_
          simp only [Act.put, Xa, Xz, Xs]
          refine wl_new 31 (#[.int .i64 0, .slice none 0 0]) rfl (fun _ => by go_simp) ?_
          intro g38
          simp only [Act.put, Xa, Xz, Xs]
          refine wl_store 0 31 (.tmp 20) (.tmp 112) (#[.int .i64 zk37.F, .slice zk37.p zk37.X.length zk37.c]) rfl rfl rfl rfl rfl (by kernel_rfl) rfl (by simp [Value.oneCell']) ?_
          simp only [Act.put, List.set_cons_zero]
          refine wl_val (.int .i64 (zk37.e : Int)) rfl (fun _ => rfl) ?_
          simp only [Act.put, Xa, Xz, Xs]
          refine wl_nil ?_
          refine we_then ?_
          refine wc_seq ?_
          refine wc_seq ?_
          refine wc_region ?_
          refine wl_val (.int .i64 (zk37.e : Int)) rfl (fun _ => rfl) ?_
          simp only [Act.put, Xa, Xz, Xs]
          refine wl_val (.bool ((zk37.e : Int) == 13)) rfl (fun w => run_cmp rfl rfl rfl Try.underlying64 rfl w) ?_
          simp only [Act.put, Xa, Xz, Xs]
          refine wl_nil ?_
          refine we_then ?_
          cases h39 : ((zk37.e : Int) == 13)
          ·
           skip
           have p39 : ¬ ((zk37.e : Int) = 13) := by first | (simp; done) | (simp at h39; done) | simpa using h39
           refine wc_false rfl ?_
           refine wc_skip ?_
           refine we_then ?_
           refine wc_seq ?_
           refine wc_seq ?_
           refine wc_region ?_
           refine wl_val (.int .i64 (zk37.e : Int)) rfl (fun _ => rfl) ?_
           simp only [Act.put, Xa, Xz, Xs]
           refine wl_val (.bool ((zk37.e : Int) != 0)) rfl (fun w => run_cmp rfl rfl rfl Try.underlying64 rfl w) ?_
           simp only [Act.put, Xa, Xz, Xs]
           refine wl_val (.bool ((zk37.e : Int) != 0)) rfl (fun _ => rfl) ?_
           simp only [Act.put, Xa, Xz, Xs]
           cases h40 : ((zk37.e : Int) != 0)
           ·
            skip
            have p40 : ¬ ((zk37.e : Int) ≠ 0) := by first | (simp; done) | (simp at h40; done) | simpa using h40
            refine wl_load 31 (.tmp 20) (own_row 0 rfl) rfl rfl rfl Try.underlying31 rfl (by kernel_rfl) ?_
            simp only [Act.put, Xa, Xz, Xs]
            refine wl_val (.slice pw.ptr pn pw.cap) rfl (fun _ => rfl) ?_
            simp only [Act.put, Xa, Xz, Xs]
            refine wl_call_at 19 #[.agg #[.int .i64 zk37.F, .slice zk37.p zk37.X.length zk37.c], .slice pw.ptr pn pw.cap] (.bool true) rfl (fun _ => by go_simp) (fun W hE => has_true G s f zk37.F zk37.X _ _ Pl pn _ _ W (fz (by omega)) (okz (by omega)) ((sl_held k37.held (List.Sublist.cons _ (List.Sublist.cons _ (List.Sublist.cons _ (List.Sublist.cons _ (List.sublist_append_of_sublist_right (List.sublist_append_of_sublist_right (List.Sublist.refl _)))))))) W hE) b2 ((sl_own [⟨g38, #[.int .i64 zk37.F, .slice zk37.p zk37.X.length zk37.c], 31⟩, ⟨g33, #[.int .i64 ((L[j]!).1), .int .i64 ((L[j]!).2)], 53⟩, ⟨g31, #[.int .i64 f, .slice xp X.length xc], 31⟩, ⟨g1, #[.slice p G.length c, .slice q H.length d], 25⟩] (N ++ zk37.N) b3 rfl) W hE) (hasz (by omega)) (by omega) (Roub.has_cap b3)) ?_
            simp only [Act.put, Xa, Xz, Xs]
            refine wl_val (.bool false) rfl (fun _ => by go_simp) ?_
            simp only [Act.put, Xa, Xz, Xs]
            refine wl_val (.bool false) rfl (fun _ => rfl) ?_
            simp only [Act.put, Xa, Xz, Xs]
            refine wl_nil ?_
            refine we_then ?_
            refine wc_false rfl ?_
            refine wc_skip ?_
            refine we_then ?_
            have f8 : zk37.F = f := fz (by omega)
            rw [f8]
            refine wc_region ?_
            refine wl_load 31 (.tmp 20) (own_row 0 rfl) rfl rfl rfl Try.underlying31 rfl (by kernel_rfl) ?_
            simp only [Act.put, Xa, Xz, Xs]
            refine wl_store 2 31 (.tmp 17) (.tmp 124) (#[.int .i64 f, .slice zk37.p zk37.X.length zk37.c]) rfl rfl rfl rfl rfl (by kernel_rfl) rfl (by simp [Value.oneCell']) ?_
            simp only [Act.put, List.set_cons_zero, List.set_cons_succ]
            refine wl_nil ?_
            refine we_in ?_
            refine we_then ?_
            refine wc_region ?_
            refine wl_val (.int .i64 ((j + 1 : Nat) : Int)) rfl (fun w => run_nat (X := j) (Y := 1) (Z := j + 1) rfl rfl rfl rfl (by omega) w) ?_
            simp only [Act.put, Xa, Xz, Xs]
            refine wl_val (.int .i64 ((j + 1 : Nat) : Int)) rfl (fun _ => rfl) ?_
            simp only [Act.put, Xa, Xz, Xs]
            refine wl_nil ?_
            exact we_meet ⟨(j + 1), zk37.X, zk37.p, zk37.c, zk37.N, _, _, _, _, _, _, _, _, _, _, _, _, _, _, _, _, _, _, _, _, _, _, _, _, _, _, _, _, _, _, _, _, _, _, _, _, _, _, _, _, _, _, _, _⟩ (by (try dsimp only); exact ⟨⟨by omega, okz (by omega), k37.held, hasz (by omega)⟩, by omega⟩) rfl (List.Sublist.cons _ (List.Sublist.cons _ (List.Sublist.cons_cons _ (List.Sublist.cons_cons _ (List.Sublist.append_left (List.sublist_append_of_sublist_right (List.Sublist.refl _)) _)))))
           ·
            skip
            have p40 : (zk37.e : Int) ≠ 0 := by first | (simp; done) | (simp at h40; done) | simpa using h40
            refine wl_skip rfl ?_
            simp only [Act.put, Xa, Xz, Xs]
            refine wl_skip rfl ?_
            simp only [Act.put, Xa, Xz, Xs]
            refine wl_skip rfl ?_
            simp only [Act.put, Xa, Xz, Xs]
            refine wl_skip rfl ?_
            simp only [Act.put, Xa, Xz, Xs]
            refine wl_val (.bool true) rfl (fun _ => rfl) ?_
            simp only [Act.put, Xa, Xz, Xs]
            refine wl_nil ?_
            refine we_then ?_
            refine wc_true rfl ?_
            refine wc_seq ?_
            refine wc_region ?_
            refine wl_val (.bool false) rfl (fun _ => rfl) ?_
            simp only [Act.put, Xa, Xz, Xs]
            refine wl_nil ?_
            refine we_then ?_
            refine wc_ret ?_
            refine we_then_ret ?_
            refine we_in_ret ?_
            refine we_then_ret ?_
            refine we_then_ret ?_
            refine we_in_ret ?_
            refine we_then_ret ?_
            refine we_ret1 (.bool false) rfl rfl rfl (fun w1 hE => ?_)
            exact (by exfalso; omega)
          ·
           skip
           have p39 : (zk37.e : Int) = 13 := by first | (simp; done) | (simp at h39; done) | simpa using h39
           refine wc_true rfl ?_
           refine wc_seq ?_
           refine wc_region ?_
           refine wl_val (.bool true) rfl (fun _ => rfl) ?_
           simp only [Act.put, Xa, Xz, Xs]
           refine wl_nil ?_
           refine we_then ?_
           refine wc_ret ?_
           refine we_then_ret ?_
           refine we_in_ret ?_
           refine we_then_ret ?_
           refine we_then_ret ?_
           refine we_in_ret ?_
           refine we_then_ret ?_
           refine we_ret1 (.bool true) rfl rfl rfl (fun w1 hE => ?_)
           exact ⟨rfl, hE.below⟩
         ·
          skip
          have p36 : (L[j]!).2 < (L[j]!).1 := of_decide_eq_true h36
          refine wc_true rfl ?_
          refine wc_exit ?_
          refine we_then_exit ?_
          refine we_in_here ?_
          refine we_then ?_
          refine wc_region ?_
          refine wl_val (.int .i64 ((j + 1 : Nat) : Int)) rfl (fun w => run_nat (X := j) (Y := 1) (Z := j + 1) rfl rfl rfl rfl (by omega) w) ?_
          simp only [Act.put, Xa, Xz, Xs]
          refine wl_val (.int .i64 ((j + 1 : Nat) : Int)) rfl (fun _ => rfl) ?_
          simp only [Act.put, Xa, Xz, Xs]
          refine wl_nil ?_
          exact we_meet ⟨(j + 1), X, xp, xc, N, _, _, _, _, _, _, _, _, _, _, _, _, _, _, _, _, _, _, _, _, _, _, _, _, _, _, _, _, _, _, _, _, _, _, _, _, _, _, _, _, _, _, _, _⟩ (by (try dsimp only); exact ⟨⟨by omega, c2, c3, c4⟩, by omega⟩) rfl (List.Sublist.cons _ (List.Sublist.cons_cons _ (List.Sublist.cons_cons _ (List.Sublist.refl _))))
        ·
         skip
         have p35 : (L[j]!).1 < (-f) := of_decide_eq_true h35
         refine wl_skip rfl ?_
         simp only [Act.put, Xa, Xz, Xs]
         refine wl_skip rfl ?_
         simp only [Act.put, Xa, Xz, Xs]
         refine wl_skip rfl ?_
         simp only [Act.put, Xa, Xz, Xs]
         refine wl_skip rfl ?_
         simp only [Act.put, Xa, Xz, Xs]
         refine wl_skip rfl ?_
         simp only [Act.put, Xa, Xz, Xs]
         refine wl_val (.bool true) rfl (fun _ => rfl) ?_
         simp only [Act.put, Xa, Xz, Xs]
         refine wl_nil ?_
         refine we_then ?_
         refine wc_true rfl ?_
         refine wc_exit ?_
         refine we_then_exit ?_
         refine we_in_here ?_
         refine we_then ?_
         refine wc_region ?_
         refine wl_val (.int .i64 ((j + 1 : Nat) : Int)) rfl (fun w => run_nat (X := j) (Y := 1) (Z := j + 1) rfl rfl rfl rfl (by omega) w) ?_
         simp only [Act.put, Xa, Xz, Xs]
         refine wl_val (.int .i64 ((j + 1 : Nat) : Int)) rfl (fun _ => rfl) ?_
         simp only [Act.put, Xa, Xz, Xs]
         refine wl_nil ?_
         exact we_meet ⟨(j + 1), X, xp, xc, N, _, _, _, _, _, _, _, _, _, _, _, _, _, _, _, _, _, _, _, _, _, _, _, _, _, _, _, _, _, _, _, _, _, _, _, _, _, _, _, _, _, _, _, _⟩ (by (try dsimp only); exact ⟨⟨by omega, c2, c3, c4⟩, by omega⟩) rfl (List.Sublist.cons _ (List.Sublist.cons_cons _ (List.Sublist.cons_cons _ (List.Sublist.refl _))))
       ·
        skip
        have p34 : (endR G f Pl) < (L[j]!).1 := of_decide_eq_true h34
        refine wl_skip rfl ?_
        simp only [Act.put, Xa, Xz, Xs]
        refine wl_skip rfl ?_
        simp only [Act.put, Xa, Xz, Xs]
        refine wl_skip rfl ?_
        simp only [Act.put, Xa, Xz, Xs]
        refine wl_skip rfl ?_
        simp only [Act.put, Xa, Xz, Xs]
        refine wl_skip rfl ?_
        simp only [Act.put, Xa, Xz, Xs]
        refine wl_val (.bool true) rfl (fun _ => rfl) ?_
        simp only [Act.put, Xa, Xz, Xs]
        refine wl_val (.bool true) rfl (fun _ => rfl) ?_
        simp only [Act.put, Xa, Xz, Xs]
        refine wl_skip rfl ?_
        simp only [Act.put, Xa, Xz, Xs]
        refine wl_skip rfl ?_
        simp only [Act.put, Xa, Xz, Xs]
        refine wl_skip rfl ?_
        simp only [Act.put, Xa, Xz, Xs]
        refine wl_skip rfl ?_
        simp only [Act.put, Xa, Xz, Xs]
        refine wl_skip rfl ?_
        simp only [Act.put, Xa, Xz, Xs]
        refine wl_val (.bool true) rfl (fun _ => rfl) ?_
        simp only [Act.put, Xa, Xz, Xs]
        refine wl_nil ?_
        refine we_then ?_
        refine wc_true rfl ?_
        refine wc_exit ?_
        refine we_then_exit ?_
        refine we_in_here ?_
        refine we_then ?_
        refine wc_region ?_
        refine wl_val (.int .i64 ((j + 1 : Nat) : Int)) rfl (fun w => run_nat (X := j) (Y := 1) (Z := j + 1) rfl rfl rfl rfl (by omega) w) ?_
        simp only [Act.put, Xa, Xz, Xs]
        refine wl_val (.int .i64 ((j + 1 : Nat) : Int)) rfl (fun _ => rfl) ?_
        simp only [Act.put, Xa, Xz, Xs]
        refine wl_nil ?_
        exact we_meet ⟨(j + 1), X, xp, xc, N, _, _, _, _, _, _, _, _, _, _, _, _, _, _, _, _, _, _, _, _, _, _, _, _, _, _, _, _, _, _, _, _, _, _, _, _, _, _, _, _, _, _, _, _⟩ (by (try dsimp only); exact ⟨⟨by omega, c2, c3, c4⟩, by omega⟩) rfl (List.Sublist.cons _ (List.Sublist.cons_cons _ (List.Sublist.cons_cons _ (List.Sublist.refl _))))
   ·
    skip
    have p4 : 20 < (L.length : Int) := of_decide_eq_true h4
    refine wc_true rfl ?_
    refine wc_seq ?_
    refine wc_region ?_
    refine wl_val (.bool true) rfl (fun _ => rfl) ?_
    simp only [Act.put, Xa, Xz, Xs]
    refine wl_nil ?_
    refine we_then ?_
    refine wc_ret ?_
    refine we_then_ret ?_
    refine we_ret1 (.bool true) rfl rfl rfl (fun w1 hE => ?_)
    exact ⟨rfl, hE.below⟩
  ·
   skip
   have p3 : 11 < (B.length : Int) := of_decide_eq_true h3
   refine wl_skip rfl ?_
   simp only [Act.put, Xa, Xz, Xs]
   refine wl_skip rfl ?_
   simp only [Act.put, Xa, Xz, Xs]
   refine wl_skip rfl ?_
   simp only [Act.put, Xa, Xz, Xs]
   refine wl_val (.bool true) rfl (fun _ => rfl) ?_
   simp only [Act.put, Xa, Xz, Xs]
   refine wl_nil ?_
   refine we_then ?_
   refine wc_true rfl ?_
   refine wc_seq ?_
   refine wc_region ?_
   refine wl_val (.bool true) rfl (fun _ => rfl) ?_
   simp only [Act.put, Xa, Xz, Xs]
   refine wl_nil ?_
   refine we_then ?_
   refine wc_ret ?_
   refine we_then_ret ?_
   refine we_ret1 (.bool true) rfl rfl rfl (fun w1 hE => ?_)
   exact ⟨rfl, hE.below⟩
end Go.Proofs.Ytkbaponpebkpiaa.Walks
