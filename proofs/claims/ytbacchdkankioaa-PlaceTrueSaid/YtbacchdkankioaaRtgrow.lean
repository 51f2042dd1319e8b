/-
 The reference of layer 14 (routes): what a set grows to. Conditions: a track whose segments may be, at most 16 routes that go over its segments.
-/
import Derived.Test.YtbacchdkankioaaMrt
import Derived.Test.YtbacchdkankioaaRtref
namespace Go.Proofs.Ytbacchdkankioaa.Rtgrow
open Go.ChangeShapes Go.WideShapes Go.ChangeAt Go.RowKit
open Arr Steady Sx Sw Sl Sb Sc Si Sj Sk Sh Vs Gr Tk Tkh Tkl Rt Rtm Rtg Rtref
set_option linter.unusedVariables false
set_option linter.unusedSimpArgs false
set_option maxRecDepth 100000

set_option maxHeartbeats 16000000 in
theorem grow_any (f lo hi : Int) (T0 : List Ix) (tp : Option Addr) (tc : Nat) (G : List Sg) (H : List Gp) (p q : Option Addr) (c d : Nat) (w : World) (hS : Reads w p (flat sg G)) (hG : OkS w G) (hH : Reads w q (flat gp H)) (hn : G.length ≤ 140737488355328) (hm : H.length ≤ 140737488355328) (hM : ∀ j, j < G.length → SegMay (G[j]!) G.length) (hf : 0 ≤ f ∧ f ≤ 1099511627776) (hT : Reads w tp (flat ix T0)) (hO : OkI w T0) (hR : ∀ x ∈ T0, RtOk G x.X) (hX : ∀ r ∈ xs T0, 1 ≤ r.length ∧ r.length ≤ 12) (h16 : T0.length ≤ 16) :
  Calls Try.prog 31 #[.agg #[.slice p G.length c, .slice q H.length d], .agg #[.int .i64 f, .slice tp T0.length tc], .int .i64 lo, .int .i64 hi] w fun e w' => ∃ z : Gz, GzOk G f hi lo T0 z ∧ e = .returned (.tuple #[.agg #[.int .i64 z.F, .slice z.p z.O.length z.c], .int .i64 (z.e : Nat)]) ∧ Env w w' z.N := by
 refine calls_sx Try.func31 rfl ?_
 simp only [Try.ntmps31, List.size_toArray, List.length_cons, List.length_nil, Nat.reduceAdd, Nat.reduceSub, Array.replicate_succ, Array.replicate_zero, List.push_toArray, List.append_toArray, List.nil_append, List.cons_append]
 refine wc_seq ?_
 refine wc_region ?_
 refine wl_new 50 (#[.slice p G.length c, .slice q H.length d]) rfl (fun _ => by go_simp) ?_
 intro g1
 simp only [Act.put, Xa, Xz, Xs]
 refine wl_new 42 (#[.int .i64 f, .slice tp T0.length tc]) rfl (fun _ => by go_simp) ?_
 intro g2
 simp only [Act.put, Xa, Xz, Xs]
 refine wl_new 42 (#[.int .i64 0, .slice none 0 0]) rfl (fun _ => by go_simp) ?_
 intro g3
 simp only [Act.put, Xa, Xz, Xs]
 refine wl_val (.int .i64 0) rfl (fun _ => rfl) ?_
 simp only [Act.put, Xa, Xz, Xs]
 refine wl_nil ?_
 refine we_then ?_
 refine wc_seq ?_
 refine wc_seq ?_
 refine wc_region ?_
 refine wl_val (.int .i64 lo) rfl (fun _ => rfl) ?_
 simp only [Act.put, Xa, Xz, Xs]
 refine wl_val (.int .i64 hi) rfl (fun _ => rfl) ?_
 simp only [Act.put, Xa, Xz, Xs]
 refine wl_val (.bool (decide (hi < lo))) rfl (fun w => run_cmp rfl rfl rfl Try.underlying2 rfl w) ?_
 simp only [Act.put, Xa, Xz, Xs]
 refine wl_val (.bool (decide (hi < lo))) rfl (fun _ => rfl) ?_
 simp only [Act.put, Xa, Xz, Xs]
 cases h4 : (decide (hi < lo))
 ·
  skip
  have p4 : ¬ (hi < lo) := of_decide_eq_false h4
  refine wl_val (.int .i64 lo) rfl (fun _ => rfl) ?_
  simp only [Act.put, Xa, Xz, Xs]
  refine wl_val (.pointer (some ⟨g2, 0, none⟩)) rfl (fun _ => by go_simp) ?_
  simp only [Act.put, Xa, Xz, Xs]
  refine wl_cell 2 (.tmp 25) (.int .i64 f) (own_row 1 rfl) rfl rfl rfl rfl Try.isAgg2 ?_
  simp only [Act.put, Xa, Xz, Xs]
  refine wl_val (.int .i64 (-f)) rfl (fun w => run_neg rfl rfl Try.underlying2 (i64_in (by omega) (by omega)) w) ?_
  simp only [Act.put, Xa, Xz, Xs]
  refine wl_val (.bool (decide (lo < (-f)))) rfl (fun w => run_cmp rfl rfl rfl Try.underlying2 rfl w) ?_
  simp only [Act.put, Xa, Xz, Xs]
  refine wl_val (.bool (decide (lo < (-f)))) rfl (fun _ => rfl) ?_
  simp only [Act.put, Xa, Xz, Xs]
  refine wl_nil ?_
  refine we_then ?_
  cases h5 : (decide (lo < (-f)))
  ·
   skip
   have p5 : ¬ (lo < (-f)) := of_decide_eq_false h5
   refine wc_false rfl ?_
   refine wc_skip ?_
   refine we_then ?_
   refine wc_seq ?_
   refine wc_region ?_
   refine wl_val (.pointer (some ⟨g2, 0, none⟩)) rfl (fun _ => by go_simp) ?_
   simp only [Act.put, Xa, Xz, Xs]
   refine wl_cell 2 (.tmp 31) (.int .i64 f) (own_row 1 rfl) rfl rfl rfl rfl Try.isAgg2 ?_
   simp only [Act.put, Xa, Xz, Xs]
   refine wl_val (.agg #[.int .i64 f, .slice none 0 0]) rfl (fun _ => by go_simp) ?_
   simp only [Act.put, Xa, Xz, Xs]
   refine wl_new 42 (#[.int .i64 0, .slice none 0 0]) rfl (fun _ => by go_simp) ?_
   intro g6
   simp only [Act.put, Xa, Xz, Xs]
   refine wl_store 0 42 (.tmp 10) (.tmp 33) (#[.int .i64 f, .slice none 0 0]) rfl rfl rfl rfl rfl (by kernel_rfl) rfl (by simp [Value.oneCell']) ?_
   simp only [Act.put, List.set_cons_zero]
   refine wl_nil ?_
   refine we_then ?_
   refine wc_seq ?_
   refine wc_region ?_
   refine wl_val (.pointer (some ⟨g2, 1, none⟩)) rfl (fun _ => by go_simp) ?_
   simp only [Act.put, Xa, Xz, Xs]
   refine wl_cell 40 (.tmp 34) (.slice tp T0.length tc) (own_row 2 rfl) rfl rfl rfl rfl Try.isAgg40 ?_
   simp only [Act.put, Xa, Xz, Xs]
   refine wl_val (.slice tp T0.length tc) rfl (fun _ => rfl) ?_
   simp only [Act.put, Xa, Xz, Xs]
   refine wl_nil ?_
   refine we_then ?_
   refine wc_seq ?_
   refine wc_seq ?_
   refine wc_region ?_
   refine wl_val (.int .i64 0) rfl (fun _ => rfl) ?_
   simp only [Act.put, Xa, Xz, Xs]
   refine wl_nil ?_
   refine we_then ?_
   refine wc_block ?_
   refine wc_loop (fun (zz : Nat × Own × List Ix × Nat × List Ix × Option Addr × Nat × List Rw × Value × Value × Value × Value × Value × Value × Value × Value × Value × Value × Value × Value × Value × Value × Value × Value × Value × Value × Value × Value × Value × Value × Value × Value × Value × Value × Value × Value × Value × Value × Value × Value × Value × Value × Value × Value × Value × Value × Value × Value × Value × Value × Value × Value × Value × Value × Value × Value × Value × Value × Value × Value × Value × Value × Value × Value × Value × Value × Value × Value × Value × Value × Value × Value × Value × Value × Value × Value × Value × Value × Value × Value × Value × Value × Value × Value × Value × Value × Value × Value × Value × Value × Value) => match zz with | ⟨n, o, O, on, T, t1, c1, N, u9, u13, u14, u15, u16, u17, u18, u19, u36, u37, u38, u39, u40, u41, u42, u43, u44, u45, u46, u47, u48, u49, u50, u51, u52, u53, u54, u55, u56, u57, u58, u59, u60, u61, u62, u63, u64, u65, u66, u67, u68, u69, u70, u71, u72, u73, u74, u75, u76, u77, u78, u79, u80, u81, u82, u83, u84, u85, u86, u87, u88, u89, u90, u91, u92, u93, u94, u95, u96, u97, u98, u99, u100, u101, u102, u103, u104, u105, u106, u107, u108, u109, u110⟩ => ({ tmps := #[.agg #[.slice p G.length c, .slice q H.length d], .agg #[.int .i64 f, .slice tp T0.length tc], .int .i64 lo, .int .i64 hi, .pointer (some ⟨g1, 0, none⟩), .pointer (some ⟨g2, 0, none⟩), undef, undef, .pointer (some ⟨g3, 0, none⟩), u9, .pointer (some ⟨g6, 0, none⟩), .slice t1 T.length c1, .int .i64 (n : Int), u13, u14, u15, u16, u17, u18, u19, .int .i64 lo, .int .i64 hi, .bool false, .bool false, .int .i64 lo, .pointer (some ⟨g2, 0, none⟩), .int .i64 f, .int .i64 (-f), .bool false, .bool false, undef, .pointer (some ⟨g2, 0, none⟩), .int .i64 f, .agg #[.int .i64 f, .slice none 0 0], .pointer (some ⟨g2, 1, none⟩), .slice tp T0.length tc, u36, u37, u38, u39, u40, u41, u42, u43, u44, u45, u46, u47, u48, u49, u50, u51, u52, u53, u54, u55, u56, u57, u58, u59, u60, u61, u62, u63, u64, u65, u66, u67, u68, u69, u70, u71, u72, u73, u74, u75, u76, u77, u78, u79, u80, u81, u82, u83, u84, u85, u86, u87, u88, u89, u90, u91, u92, u93, u94, u95, u96, u97, u98, u99, u100, u101, u102, u103, u104, u105, u106, u107, u108, u109, u110, undef, undef, undef, undef, undef, undef], defers := [] } : Act)) (fun (zz : Nat × Own × List Ix × Nat × List Ix × Option Addr × Nat × List Rw × Value × Value × Value × Value × Value × Value × Value × Value × Value × Value × Value × Value × Value × Value × Value × Value × Value × Value × Value × Value × Value × Value × Value × Value × Value × Value × Value × Value × Value × Value × Value × Value × Value × Value × Value × Value × Value × Value × Value × Value × Value × Value × Value × Value × Value × Value × Value × Value × Value × Value × Value × Value × Value × Value × Value × Value × Value × Value × Value × Value × Value × Value × Value × Value × Value × Value × Value × Value × Value × Value × Value × Value × Value × Value × Value × Value × Value × Value × Value × Value × Value × Value × Value) => match zz with | ⟨n, o, O, on, T, t1, c1, N, u9, u13, u14, u15, u16, u17, u18, u19, u36, u37, u38, u39, u40, u41, u42, u43, u44, u45, u46, u47, u48, u49, u50, u51, u52, u53, u54, u55, u56, u57, u58, u59, u60, u61, u62, u63, u64, u65, u66, u67, u68, u69, u70, u71, u72, u73, u74, u75, u76, u77, u78, u79, u80, u81, u82, u83, u84, u85, u86, u87, u88, u89, u90, u91, u92, u93, u94, u95, u96, u97, u98, u99, u100, u101, u102, u103, u104, u105, u106, u107, u108, u109, u110⟩ => ⟨g6, #[.int .i64 f, .slice o.ptr on o.cap], 42⟩ :: ⟨g3, #[.int .i64 0, .slice none 0 0], 42⟩ :: ⟨g2, #[.int .i64 f, .slice tp T0.length tc], 42⟩ :: ⟨g1, #[.slice p G.length c, .slice q H.length d], 50⟩ :: (o.rows 63 ++ N)) (fun (zz : Nat × Own × List Ix × Nat × List Ix × Option Addr × Nat × List Rw × Value × Value × Value × Value × Value × Value × Value × Value × Value × Value × Value × Value × Value × Value × Value × Value × Value × Value × Value × Value × Value × Value × Value × Value × Value × Value × Value × Value × Value × Value × Value × Value × Value × Value × Value × Value × Value × Value × Value × Value × Value × Value × Value × Value × Value × Value × Value × Value × Value × Value × Value × Value × Value × Value × Value × Value × Value × Value × Value × Value × Value × Value × Value × Value × Value × Value × Value × Value × Value × Value × Value × Value × Value × Value × Value × Value × Value × Value × Value × Value × Value × Value × Value) => match zz with | ⟨n, o, O, on, T, t1, c1, N, u9, u13, u14, u15, u16, u17, u18, u19, u36, u37, u38, u39, u40, u41, u42, u43, u44, u45, u46, u47, u48, u49, u50, u51, u52, u53, u54, u55, u56, u57, u58, u59, u60, u61, u62, u63, u64, u65, u66, u67, u68, u69, u70, u71, u72, u73, u74, u75, u76, u77, u78, u79, u80, u81, u82, u83, u84, u85, u86, u87, u88, u89, u90, u91, u92, u93, u94, u95, u96, u97, u98, u99, u100, u101, u102, u103, u104, u105, u106, u107, u108, u109, u110⟩ => n ≤ 13 ∧ O.length = on ∧ o.Has 1 on (flat ix O) ∧ Lev G f hi lo (xs T0) n (xs O) (xs T) [] ∧ Mem G T0 N T ∧ Mem G T0 N O ∧ SlAt w N t1 (flat ix T) ∧ T.length ≤ 16 * 2 ^ n) (fun (zz : Nat × Own × List Ix × Nat × List Ix × Option Addr × Nat × List Rw × Value × Value × Value × Value × Value × Value × Value × Value × Value × Value × Value × Value × Value × Value × Value × Value × Value × Value × Value × Value × Value × Value × Value × Value × Value × Value × Value × Value × Value × Value × Value × Value × Value × Value × Value × Value × Value × Value × Value × Value × Value × Value × Value × Value × Value × Value × Value × Value × Value × Value × Value × Value × Value × Value × Value × Value × Value × Value × Value × Value × Value × Value × Value × Value × Value × Value × Value × Value × Value × Value × Value × Value × Value × Value × Value × Value × Value × Value × Value × Value × Value × Value × Value) => match zz with | ⟨n, o, O, on, T, t1, c1, N, u9, u13, u14, u15, u16, u17, u18, u19, u36, u37, u38, u39, u40, u41, u42, u43, u44, u45, u46, u47, u48, u49, u50, u51, u52, u53, u54, u55, u56, u57, u58, u59, u60, u61, u62, u63, u64, u65, u66, u67, u68, u69, u70, u71, u72, u73, u74, u75, u76, u77, u78, u79, u80, u81, u82, u83, u84, u85, u86, u87, u88, u89, u90, u91, u92, u93, u94, u95, u96, u97, u98, u99, u100, u101, u102, u103, u104, u105, u106, u107, u108, u109, u110⟩ => 13 - n) ⟨0, Own.none, [], 0, T0, tp, tc, [], _, _, _, _, _, _, _, _, _, _, _, _, _, _, _, _, _, _, _, _, _, _, _, _, _, _, _, _, _, _, _, _, _, _, _, _, _, _, _, _, _, _, _, _, _, _, _, _, _, _, _, _, _, _, _, _, _, _, _, _, _, _, _, _, _, _, _, _, _, _, _, _, _, _, _, _, _, _, _, _, _, _, _⟩ ⟨Nat.zero_le _, rfl, Own.has_none 1, lev_start hX, mem_start hR, mem_nil, sl_old hT, by omega⟩ rfl (List.Sublist.cons_cons _ (List.Sublist.cons_cons _ (List.Sublist.cons_cons _ (List.Sublist.cons_cons _ List.Sublist.slnil)))) ?_
   rintro ⟨n, o, O, on, T, t1, c1, N, u9, u13, u14, u15, u16, u17, u18, u19, u36, u37, u38, u39, u40, u41, u42, u43, u44, u45, u46, u47, u48, u49, u50, u51, u52, u53, u54, u55, u56, u57, u58, u59, u60, u61, u62, u63, u64, u65, u66, u67, u68, u69, u70, u71, u72, u73, u74, u75, u76, u77, u78, u79, u80, u81, u82, u83, u84, u85, u86, u87, u88, u89, u90, u91, u92, u93, u94, u95, u96, u97, u98, u99, u100, u101, u102, u103, u104, u105, u106, u107, u108, u109, u110⟩ hφ
   (try dsimp only at hφ ⊢)
   obtain ⟨a1, a2, a3, a4, a5, a6, a7, a8⟩ := hφ
   have a9 := lev_len a4
   have a10 := pw_le (show n ≤ 13 by omega)
   refine wc_seq ?_
   refine wc_seq ?_
   refine wc_region ?_
   refine wl_val (.int .i64 (n : Int)) rfl (fun _ => rfl) ?_
   simp only [Act.put, Xa, Xz, Xs]
   refine wl_val (.bool (decide ((n : Int) < 13))) rfl (fun w => run_cmp rfl rfl rfl Try.underlying3 rfl w) ?_
   simp only [Act.put, Xa, Xz, Xs]
   refine wl_nil ?_
   refine we_then ?_
   cases h7 : (decide ((n : Int) < 13))
   ·
    skip
    have p7 : ¬ ((n : Int) < 13) := of_decide_eq_false h7
    refine wc_false rfl ?_
    refine wc_exit ?_
    refine we_then_exit ?_
    refine we_then_exit ?_
    refine we_in_here ?_
    refine we_then ?_
    refine wc_seq ?_
    refine wc_seq ?_
    refine wc_region ?_
    refine wl_val (.pointer (some ⟨g6, 1, none⟩)) rfl (fun _ => by go_simp) ?_
    simp only [Act.put, Xa, Xz, Xs]
    refine wl_cell 40 (.tmp 111) (.slice o.ptr on o.cap) (own_row 0 rfl) rfl rfl rfl rfl Try.isAgg40 ?_
    simp only [Act.put, Xa, Xz, Xs]
    refine wl_val (.int .i64 (on : Int)) rfl (fun w => er_len rfl rfl Try.underlying40 w) ?_
    simp only [Act.put, Xa, Xz, Xs]
    refine wl_val (.bool ((on : Int) == 0)) rfl (fun w => run_cmp rfl rfl rfl Try.underlying3 rfl w) ?_
    simp only [Act.put, Xa, Xz, Xs]
    refine wl_nil ?_
    refine we_then ?_
    cases h8 : ((on : Int) == 0)
    ·
     skip
     have p8 : ¬ ((on : Int) = 0) := by simpa using h8
     refine wc_false rfl ?_
     refine wc_skip ?_
     refine we_then ?_
     refine wc_seq ?_
     subst a2
     refine wc_region ?_
     refine wl_load 42 (.tmp 10) (own_row 0 rfl) rfl rfl rfl Try.underlying42 rfl (by kernel_rfl) ?_
     simp only [Act.put, Xa, Xz, Xs]
     refine wl_store 1 42 (.tmp 8) (.tmp 116) (#[.int .i64 f, .slice o.ptr O.length o.cap]) rfl rfl rfl rfl rfl (by kernel_rfl) rfl (by simp [Value.oneCell']) ?_
     simp only [Act.put, List.set_cons_zero, List.set_cons_succ]
     refine wl_val (.int .i64 0) rfl (fun _ => rfl) ?_
     simp only [Act.put, Xa, Xz, Xs]
     refine wl_nil ?_
     refine we_then ?_
     refine wc_ret ?_
     refine we_ret_cell_tmp (.int .i64 0) (own_row 1 rfl) rfl rfl rfl rfl Try.underlying42 rfl (by kernel_rfl) (fun w1 hE => ?_)
     exact ⟨⟨0, f, o.ptr, O, o.cap, o.rows 63 ++ N⟩, ⟨lev_some a4 (by omega) (by omega) (fun e => by have e9 := congrArg List.length e; rw [xs_len] at e9; simp only [List.length_nil] at e9; omega), fun _ => rfl, (held_own a3).mono (List.sublist_append_left _ _), a6.mono (List.sublist_append_right _ _)⟩, rfl, hE.sub (List.Sublist.cons _ (List.Sublist.cons _ (List.Sublist.cons _ (List.Sublist.cons _ (List.Sublist.append_left (List.Sublist.refl _) _)))))⟩
    ·
     skip
     have p8 : (on : Int) = 0 := by simpa using h8
     refine wc_true rfl ?_
     refine wc_seq ?_
     refine wc_region ?_
     refine wl_val (.agg #[.int .i64 0, .slice none 0 0]) rfl (fun _ => by go_simp) ?_
     simp only [Act.put, Xa, Xz, Xs]
     refine wl_store 1 42 (.tmp 8) (.tmp 115) (#[.int .i64 0, .slice none 0 0]) rfl rfl rfl rfl rfl (by kernel_rfl) rfl (by simp [Value.oneCell']) ?_
     simp only [Act.put, List.set_cons_zero, List.set_cons_succ]
     refine wl_val (.int .i64 40) rfl (fun _ => rfl) ?_
     simp only [Act.put, Xa, Xz, Xs]
     refine wl_nil ?_
     refine we_then ?_
     refine wc_ret ?_
     refine we_then_ret ?_
     refine we_ret_cell_tmp (.int .i64 40) (own_row 1 rfl) rfl rfl rfl rfl Try.underlying42 rfl (by kernel_rfl) (fun w1 hE => ?_)
     have e2 : O = [] := List.eq_nil_of_length_eq_zero (by omega)
     subst e2
     exact ⟨⟨40, 0, none, [], 0, []⟩, gz_err (lev_none a4 (by omega) (by omega)) (by decide), rfl, hE.sub (List.nil_sublist _)⟩
   ·
    skip
    have p7 : (n : Int) < 13 := of_decide_eq_true h7
    refine wc_true rfl ?_
    refine wc_skip ?_
    refine we_then ?_
    refine wc_seq ?_
    refine wc_block ?_
    refine wc_seq ?_
    refine wc_region ?_
    refine wl_val (.slice none 0 0) rfl (fun _ => rfl) ?_
    simp only [Act.put, Xa, Xz, Xs]
    refine wl_nil ?_
    refine we_then ?_
    refine wc_seq ?_
    refine wc_seq ?_
    refine wc_region ?_
    refine wl_val (.int .i64 0) rfl (fun _ => rfl) ?_
    simp only [Act.put, Xa, Xz, Xs]
    refine wl_nil ?_
    refine we_then ?_
    refine wc_block ?_
    refine wc_loop (fun (zz : Nat × Own × List Ix × Nat × Own × List Ix × Nat × List Rw × Value × Value × Value × Value × Value × Value × Value × Value × Value × Value × Value × Value × Value × Value × Value × Value × Value × Value × Value × Value × Value × Value × Value × Value × Value × Value × Value × Value × Value × Value × Value × Value × Value × Value × Value × Value × Value × Value × Value × Value × Value × Value × Value × Value × Value × Value × Value × Value × Value × Value × Value × Value × Value × Value × Value × Value × Value × Value × Value × Value × Value × Value × Value × Value × Value × Value × Value × Value × Value × Value × Value × Value × Value × Value × Value × Value) => match zz with | ⟨i, o2, O2, on2, v, M, mn, N1, u9, u15, u16, u17, u18, u19, u40, u41, u42, u43, u44, u45, u46, u47, u48, u49, u50, u51, u52, u53, u54, u55, u56, u57, u58, u59, u60, u61, u62, u63, u64, u65, u66, u67, u68, u69, u70, u71, u72, u73, u74, u75, u76, u77, u78, u79, u80, u81, u82, u83, u84, u85, u86, u87, u88, u89, u90, u91, u92, u93, u94, u95, u96, u97, u98, u99, u100, u101, u102, u103, u104, u105, u106, u107, u108, u109⟩ => ({ tmps := #[.agg #[.slice p G.length c, .slice q H.length d], .agg #[.int .i64 f, .slice tp T0.length tc], .int .i64 lo, .int .i64 hi, .pointer (some ⟨g1, 0, none⟩), .pointer (some ⟨g2, 0, none⟩), undef, undef, .pointer (some ⟨g3, 0, none⟩), u9, .pointer (some ⟨g6, 0, none⟩), .slice t1 T.length c1, .int .i64 (n : Int), .slice v.ptr mn v.cap, .int .i64 (i : Int), u15, u16, u17, u18, u19, .int .i64 lo, .int .i64 hi, .bool false, .bool false, .int .i64 lo, .pointer (some ⟨g2, 0, none⟩), .int .i64 f, .int .i64 (-f), .bool false, .bool false, undef, .pointer (some ⟨g2, 0, none⟩), .int .i64 f, .agg #[.int .i64 f, .slice none 0 0], .pointer (some ⟨g2, 1, none⟩), .slice tp T0.length tc, .int .i64 (n : Int), .bool true, u38, u39, u40, u41, u42, u43, u44, u45, u46, u47, u48, u49, u50, u51, u52, u53, u54, u55, u56, u57, u58, u59, u60, u61, u62, u63, u64, u65, u66, u67, u68, u69, u70, u71, u72, u73, u74, u75, u76, u77, u78, u79, u80, u81, u82, u83, u84, u85, u86, u87, u88, u89, u90, u91, u92, u93, u94, u95, u96, u97, u98, u99, u100, u101, u102, u103, u104, u105, u106, u107, u108, u109, u110, undef, undef, undef, undef, undef, undef], defers := [] } : Act)) (fun (zz : Nat × Own × List Ix × Nat × Own × List Ix × Nat × List Rw × Value × Value × Value × Value × Value × Value × Value × Value × Value × Value × Value × Value × Value × Value × Value × Value × Value × Value × Value × Value × Value × Value × Value × Value × Value × Value × Value × Value × Value × Value × Value × Value × Value × Value × Value × Value × Value × Value × Value × Value × Value × Value × Value × Value × Value × Value × Value × Value × Value × Value × Value × Value × Value × Value × Value × Value × Value × Value × Value × Value × Value × Value × Value × Value × Value × Value × Value × Value × Value × Value × Value × Value × Value × Value × Value × Value) => match zz with | ⟨i, o2, O2, on2, v, M, mn, N1, u9, u15, u16, u17, u18, u19, u40, u41, u42, u43, u44, u45, u46, u47, u48, u49, u50, u51, u52, u53, u54, u55, u56, u57, u58, u59, u60, u61, u62, u63, u64, u65, u66, u67, u68, u69, u70, u71, u72, u73, u74, u75, u76, u77, u78, u79, u80, u81, u82, u83, u84, u85, u86, u87, u88, u89, u90, u91, u92, u93, u94, u95, u96, u97, u98, u99, u100, u101, u102, u103, u104, u105, u106, u107, u108, u109⟩ => ⟨g6, #[.int .i64 f, .slice o2.ptr on2 o2.cap], 42⟩ :: ⟨g3, #[.int .i64 0, .slice none 0 0], 42⟩ :: ⟨g2, #[.int .i64 f, .slice tp T0.length tc], 42⟩ :: ⟨g1, #[.slice p G.length c, .slice q H.length d], 50⟩ :: (o2.rows 63 ++ (v.rows 63 ++ N1))) (fun (zz : Nat × Own × List Ix × Nat × Own × List Ix × Nat × List Rw × Value × Value × Value × Value × Value × Value × Value × Value × Value × Value × Value × Value × Value × Value × Value × Value × Value × Value × Value × Value × Value × Value × Value × Value × Value × Value × Value × Value × Value × Value × Value × Value × Value × Value × Value × Value × Value × Value × Value × Value × Value × Value × Value × Value × Value × Value × Value × Value × Value × Value × Value × Value × Value × Value × Value × Value × Value × Value × Value × Value × Value × Value × Value × Value × Value × Value × Value × Value × Value × Value × Value × Value × Value × Value × Value × Value) => match zz with | ⟨i, o2, O2, on2, v, M, mn, N1, u9, u15, u16, u17, u18, u19, u40, u41, u42, u43, u44, u45, u46, u47, u48, u49, u50, u51, u52, u53, u54, u55, u56, u57, u58, u59, u60, u61, u62, u63, u64, u65, u66, u67, u68, u69, u70, u71, u72, u73, u74, u75, u76, u77, u78, u79, u80, u81, u82, u83, u84, u85, u86, u87, u88, u89, u90, u91, u92, u93, u94, u95, u96, u97, u98, u99, u100, u101, u102, u103, u104, u105, u106, u107, u108, u109⟩ => i ≤ T.length ∧ O2.length = on2 ∧ o2.Has 1 on2 (flat ix O2) ∧ M.length = mn ∧ v.Has 1 mn (flat ix M) ∧ Lev G f hi lo (xs T0) n (xs O2) ((xs T).drop i) (xs M) ∧ Mem G T0 N1 T ∧ Mem G T0 N1 O2 ∧ Mem G T0 N1 M ∧ SlAt w N1 t1 (flat ix T) ∧ mn ≤ 2 * i) (fun (zz : Nat × Own × List Ix × Nat × Own × List Ix × Nat × List Rw × Value × Value × Value × Value × Value × Value × Value × Value × Value × Value × Value × Value × Value × Value × Value × Value × Value × Value × Value × Value × Value × Value × Value × Value × Value × Value × Value × Value × Value × Value × Value × Value × Value × Value × Value × Value × Value × Value × Value × Value × Value × Value × Value × Value × Value × Value × Value × Value × Value × Value × Value × Value × Value × Value × Value × Value × Value × Value × Value × Value × Value × Value × Value × Value × Value × Value × Value × Value × Value × Value × Value × Value × Value × Value × Value × Value) => match zz with | ⟨i, o2, O2, on2, v, M, mn, N1, u9, u15, u16, u17, u18, u19, u40, u41, u42, u43, u44, u45, u46, u47, u48, u49, u50, u51, u52, u53, u54, u55, u56, u57, u58, u59, u60, u61, u62, u63, u64, u65, u66, u67, u68, u69, u70, u71, u72, u73, u74, u75, u76, u77, u78, u79, u80, u81, u82, u83, u84, u85, u86, u87, u88, u89, u90, u91, u92, u93, u94, u95, u96, u97, u98, u99, u100, u101, u102, u103, u104, u105, u106, u107, u108, u109⟩ => T.length - i) ⟨0, o, O, on, Own.none, [], 0, N, _, _, _, _, _, _, _, _, _, _, _, _, _, _, _, _, _, _, _, _, _, _, _, _, _, _, _, _, _, _, _, _, _, _, _, _, _, _, _, _, _, _, _, _, _, _, _, _, _, _, _, _, _, _, _, _, _, _, _, _, _, _, _, _, _, _, _, _, _, _, _, _, _, _, _, _⟩ ⟨Nat.zero_le _, a2, a3, rfl, Own.has_none 1, a4, a5, a6, mem_nil, a7, Nat.zero_le _⟩ rfl (List.Sublist.cons_cons _ (List.Sublist.cons_cons _ (List.Sublist.cons_cons _ (List.Sublist.cons_cons _ (List.Sublist.append_left (List.Sublist.refl _) _))))) ?_
    rintro ⟨i, o2, O2, on2, v, M, mn, N1, u9, u15, u16, u17, u18, u19, u40, u41, u42, u43, u44, u45, u46, u47, u48, u49, u50, u51, u52, u53, u54, u55, u56, u57, u58, u59, u60, u61, u62, u63, u64, u65, u66, u67, u68, u69, u70, u71, u72, u73, u74, u75, u76, u77, u78, u79, u80, u81, u82, u83, u84, u85, u86, u87, u88, u89, u90, u91, u92, u93, u94, u95, u96, u97, u98, u99, u100, u101, u102, u103, u104, u105, u106, u107, u108, u109⟩ hφ
    (try dsimp only at hφ ⊢)
    obtain ⟨b1, b2, b3, b4, b5, b6, b7, b8, b9, b10, b11⟩ := hφ
    have b12 := lev_len b6
    refine wc_seq ?_
    refine wc_seq ?_
    refine wc_region ?_
    refine wl_val (.int .i64 (i : Int)) rfl (fun _ => rfl) ?_
    simp only [Act.put, Xa, Xz, Xs]
    refine wl_val (.slice t1 T.length c1) rfl (fun _ => rfl) ?_
    simp only [Act.put, Xa, Xz, Xs]
    refine wl_val (.int .i64 (T.length : Int)) rfl (fun w => er_len rfl rfl Try.underlying40 w) ?_
    simp only [Act.put, Xa, Xz, Xs]
    refine wl_val (.bool (decide ((i : Int) < (T.length : Int)))) rfl (fun w => run_cmp rfl rfl rfl Try.underlying3 rfl w) ?_
    simp only [Act.put, Xa, Xz, Xs]
    refine wl_nil ?_
    refine we_then ?_
    cases h9 : (decide ((i : Int) < (T.length : Int)))
    ·
     skip
     have p9 : ¬ ((i : Int) < (T.length : Int)) := of_decide_eq_false h9
     refine wc_false rfl ?_
     refine wc_exit ?_
     refine we_then_exit ?_
     refine we_then_exit ?_
     refine we_in_here ?_
     refine we_then ?_
     have e1 : i = T.length := by omega
     rw [List.drop_of_length_le (by rw [xs_len]; omega)] at b6
     subst b4
     refine wc_region ?_
     refine wl_val (.slice v.ptr M.length v.cap) rfl (fun _ => rfl) ?_
     simp only [Act.put, Xa, Xz, Xs]
     refine wl_val (.slice v.ptr M.length v.cap) rfl (fun _ => rfl) ?_
     simp only [Act.put, Xa, Xz, Xs]
     refine wl_nil ?_
     refine we_in ?_
     refine we_then ?_
     refine wc_region ?_
     refine wl_val (.int .i64 (n : Int)) rfl (fun _ => rfl) ?_
     simp only [Act.put, Xa, Xz, Xs]
     refine wl_val (.int .i64 ((n + 1 : Nat) : Int)) rfl (fun w => run_nat (X := n) (Y := 1) (Z := n + 1) rfl rfl rfl rfl (by omega) w) ?_
     simp only [Act.put, Xa, Xz, Xs]
     refine wl_val (.int .i64 ((n + 1 : Nat) : Int)) rfl (fun _ => rfl) ?_
     simp only [Act.put, Xa, Xz, Xs]
     refine wl_nil ?_
     exact we_meet ⟨(n + 1), o2, O2, on2, M, v.ptr, v.cap, (v.rows 63 ++ N1), _, _, _, _, _, _, _, _, _, _, _, _, _, _, _, _, _, _, _, _, _, _, _, _, _, _, _, _, _, _, _, _, _, _, _, _, _, _, _, _, _, _, _, _, _, _, _, _, _, _, _, _, _, _, _, _, _, _, _, _, _, _, _, _, _, _, _, _, _, _, _, _, _, _, _, _, _, _, _, _, _, _, _⟩ (by (try dsimp only); exact ⟨⟨by omega, b2, b3, lev_next b6, b9.mono (List.sublist_append_right _ _), b8.mono (List.sublist_append_right _ _), sl_own [] N1 b5 rfl, by rw [Nat.pow_succ]; omega⟩, by omega⟩) rfl (List.Sublist.cons_cons _ (List.Sublist.cons_cons _ (List.Sublist.cons_cons _ (List.Sublist.cons_cons _ (List.Sublist.append_left (List.Sublist.refl _) _)))))
    ·
     skip
     have p9 : (i : Int) < (T.length : Int) := of_decide_eq_true h9
     refine wc_true rfl ?_
     refine wc_skip ?_
     refine we_then ?_
     refine wc_seq ?_
     refine wc_block ?_
     refine wc_seq ?_
     refine wc_region ?_
     refine wl_val (.slice t1 T.length c1) rfl (fun _ => rfl) ?_
     simp only [Act.put, Xa, Xz, Xs]
     refine wl_val (.int .i64 (i : Int)) rfl (fun _ => rfl) ?_
     simp only [Act.put, Xa, Xz, Xs]
     refine wl_read (eaddr t1 (i * 1)) rfl (er_index i 1 (sl_std b10 (List.Sublist.cons _ (List.Sublist.cons _ (List.Sublist.cons _ (List.Sublist.cons _ (List.sublist_append_of_sublist_right (List.sublist_append_of_sublist_right (List.Sublist.refl _)))))))) rfl rfl rfl rfl (by omega) (flat_length (enc := ix) (size := 1) (fun _ => rfl) _) (by decide) Try.underlying40 (by kernel_rfl)) ?_
     simp only [Act.put, Xa, Xz, Xs]
     refine wl_read (.slice ((T[i]!).p) ((T[i]!).X.length) ((T[i]!).c)) rfl (er_cell (i * 1) (.slice ((T[i]!).p) ((T[i]!).X.length) ((T[i]!).c)) (sl_std b10 (List.Sublist.cons _ (List.Sublist.cons _ (List.Sublist.cons _ (List.Sublist.cons _ (List.sublist_append_of_sublist_right (List.sublist_append_of_sublist_right (List.Sublist.refl _)))))))) rfl rfl (flat_cell (enc := ix) (fun _ => rfl) T i 0 (by omega) (by decide)) Try.isAgg63) ?_
     simp only [Act.put, Xa, Xz, Xs]
     refine wl_val (.slice ((T[i]!).p) ((T[i]!).X.length) ((T[i]!).c)) rfl (fun _ => rfl) ?_
     simp only [Act.put, Xa, Xz, Xs]
     refine wl_nil ?_
     refine we_then ?_
     refine wc_seq ?_
     have r1 := mem_rt b7 (show i < T.length by omega)
     have r2 := r1.some
     have r3 := r1.few
     have r4 := r1.each ((T[i]!).X.length - 1) (by omega)
     have sm := hM ((T[i]!).X[(T[i]!).X.length - 1]!).toNat (by omega)
     have s2 := sm.two
     have e5 := end_in (f := f) hM r1 (T[i]!).X.length (Nat.le_refl _)
     rw [List.take_length] at e5
     refine wc_draw [.late, .plain, .late, .late, .late, .late, .plain, .plain, .plain, .plain, .plain, .late] none [] 117 (by kernel_rfl) rfl (by kernel_rfl) (by kernel_rfl) ?_
     refine ws_late (.pointer (some ⟨g1, 0, none⟩)) rfl rfl (fun _ => by go_simp) ?_
     simp only [Nat.reduceAdd, Act.put, Xa, Xz, Xs]
     refine ws_cell 47 (.tmp 50) (.slice p G.length c) (own_row 3 rfl) rfl rfl rfl rfl rfl Try.isAgg47 ?_
     simp only [Nat.reduceAdd, Act.put, Xa, Xz, Xs]
     refine ws_late (.slice ((T[i]!).p) ((T[i]!).X.length) ((T[i]!).c)) rfl rfl (fun _ => rfl) ?_
     simp only [Nat.reduceAdd, Act.put, Xa, Xz, Xs]
     refine ws_late (.slice ((T[i]!).p) ((T[i]!).X.length) ((T[i]!).c)) rfl rfl (fun _ => rfl) ?_
     simp only [Nat.reduceAdd, Act.put, Xa, Xz, Xs]
     refine ws_late (.int .i64 (((T[i]!).X.length : Nat) : Int)) rfl rfl (fun w => er_len rfl rfl Try.underlying63 w) ?_
     simp only [Nat.reduceAdd, Act.put, Xa, Xz, Xs]
     refine ws_late (.int .i64 ((((T[i]!).X.length) - 1 : Nat) : Int)) rfl rfl (fun w => run_nat (X := (T[i]!).X.length) (Y := 1) (Z := ((T[i]!).X.length) - 1) rfl rfl rfl (natOf_sub (by omega)) (by omega) w) ?_
     simp only [Nat.reduceAdd, Act.put, Xa, Xz, Xs]
     refine ws_read (eaddr ((T[i]!).p) ((((T[i]!).X.length) - 1) * 1)) rfl rfl (er_index (((T[i]!).X.length) - 1) 1 (sl_std (mem_std hO b7 (i := i) (by omega)) (List.Sublist.cons _ (List.Sublist.cons _ (List.Sublist.cons _ (List.Sublist.cons _ (List.sublist_append_of_sublist_right (List.sublist_append_of_sublist_right (List.Sublist.refl _)))))))) rfl rfl rfl rfl (by omega) (flat_length (enc := enc1) (size := 1) (fun _ => rfl) _) (by decide) Try.underlying63 (by kernel_rfl)) ?_
     simp only [Nat.reduceAdd, Act.put, Xa, Xz, Xs]
     refine ws_read (.int .i64 (((T[i]!).X)[((T[i]!).X.length) - 1]!)) rfl rfl (er_cell ((((T[i]!).X.length) - 1) * 1) (.int .i64 (((T[i]!).X)[((T[i]!).X.length) - 1]!)) (sl_std (mem_std hO b7 (i := i) (by omega)) (List.Sublist.cons _ (List.Sublist.cons _ (List.Sublist.cons _ (List.Sublist.cons _ (List.sublist_append_of_sublist_right (List.sublist_append_of_sublist_right (List.Sublist.refl _)))))))) rfl rfl (flat_cell (enc := enc1) (fun _ => rfl) ((T[i]!).X) (((T[i]!).X.length) - 1) 0 (by omega) (by decide)) Try.isAgg3) ?_
     simp only [Nat.reduceAdd, Act.put, Xa, Xz, Xs]
     refine ws_read (eaddr p ((((T[i]!).X[(T[i]!).X.length - 1]!).toNat) * 3)) rfl rfl (er_index (((T[i]!).X[(T[i]!).X.length - 1]!).toNat) 3 (sl_old hS) rfl rfl rfl (by omega) (by omega) (flat_length (enc := sg) (size := 3) (fun _ => rfl) _) (by decide) Try.underlying47 (by kernel_rfl)) ?_
     simp only [Nat.reduceAdd, Act.put, Xa, Xz, Xs]
     refine ws_read (eaddr p ((((T[i]!).X[(T[i]!).X.length - 1]!).toNat) * 3 + 2)) rfl rfl (er_field (z := 0) ((((T[i]!).X[(T[i]!).X.length - 1]!).toNat) * 3) 2 2 (sl_old hS) rfl rfl (flat_lt (enc := sg) (fun _ => rfl) G (((T[i]!).X[(T[i]!).X.length - 1]!).toNat) 0 (by omega) (by decide)) Try.underlying88 rfl rfl (by kernel_rfl)) ?_
     simp only [Nat.reduceAdd, Act.put, Xa, Xz, Xs]
     refine ws_read (.slice ((G[((T[i]!).X[(T[i]!).X.length - 1]!).toNat]!).np) ((G[((T[i]!).X[(T[i]!).X.length - 1]!).toNat]!).X.length) ((G[((T[i]!).X[(T[i]!).X.length - 1]!).toNat]!).nc)) rfl rfl (er_cell ((((T[i]!).X[(T[i]!).X.length - 1]!).toNat) * 3 + 2) (.slice ((G[((T[i]!).X[(T[i]!).X.length - 1]!).toNat]!).np) ((G[((T[i]!).X[(T[i]!).X.length - 1]!).toNat]!).X.length) ((G[((T[i]!).X[(T[i]!).X.length - 1]!).toNat]!).nc)) (sl_old hS) rfl rfl (flat_cell (enc := sg) (fun _ => rfl) G (((T[i]!).X[(T[i]!).X.length - 1]!).toNat) 2 (by omega) (by decide)) Try.isAgg63) ?_
     simp only [Nat.reduceAdd, Act.put, Xa, Xz, Xs]
     refine ws_late (.slice ((G[((T[i]!).X[(T[i]!).X.length - 1]!).toNat]!).np) ((G[((T[i]!).X[(T[i]!).X.length - 1]!).toNat]!).X.length) ((G[((T[i]!).X[(T[i]!).X.length - 1]!).toNat]!).nc)) rfl rfl (fun _ => rfl) ?_
     simp only [Nat.reduceAdd, Act.put, Xa, Xz, Xs]
     refine ws_nil [] trivial (by simp) ?_
     intro ps10
     simp only [fin, List.foldl_nil, List.map, List.nil_append]
     refine we_then ?_
     refine wc_seq ?_
     refine wc_region ?_
     refine wl_load 50 (.tmp 4) (own_row 3 rfl) rfl rfl rfl Try.underlying50 rfl (by kernel_rfl) ?_
     simp only [Act.put, Xa, Xz, Xs]
     refine wl_val (.pointer (some ⟨g2, 0, none⟩)) rfl (fun _ => by go_simp) ?_
     simp only [Act.put, Xa, Xz, Xs]
     refine wl_cell 2 (.tmp 62) (.int .i64 f) (own_row 2 rfl) rfl rfl rfl rfl Try.isAgg2 ?_
     simp only [Act.put, Xa, Xz, Xs]
     refine wl_val (.slice ((T[i]!).p) ((T[i]!).X.length) ((T[i]!).c)) rfl (fun _ => rfl) ?_
     simp only [Act.put, Xa, Xz, Xs]
     refine wl_call_at 15 #[.agg #[.slice p G.length c, .slice q H.length d], .int .i64 f, .slice ((T[i]!).p) ((T[i]!).X.length) ((T[i]!).c)] (.int .i64 (endR G f (T[i]!).X)) rfl (fun _ => by go_simp) (fun W hE => end_any f (T[i]!).X _ _ G H _ _ _ _ W ((sl_old hS) W hE) (oks_below hG hE.below) ((sl_old hH) W hE) hn hm hM hf ((sl_std (mem_std hO b7 (i := i) (by omega)) (List.Sublist.cons _ (List.Sublist.cons _ (List.Sublist.cons _ (List.Sublist.cons _ (List.sublist_append_of_sublist_right (List.sublist_append_of_sublist_right (List.Sublist.refl _)))))))) W hE) r1) ?_
     simp only [Act.put, Xa, Xz, Xs]
     refine wl_val (.int .i64 (endR G f (T[i]!).X)) rfl (fun _ => rfl) ?_
     simp only [Act.put, Xa, Xz, Xs]
     refine wl_nil ?_
     refine we_then ?_
     refine wc_seq ?_
     refine wc_seq ?_
     refine wc_region ?_
     refine wl_val (.int .i64 (endR G f (T[i]!).X)) rfl (fun _ => rfl) ?_
     simp only [Act.put, Xa, Xz, Xs]
     refine wl_val (.int .i64 hi) rfl (fun _ => rfl) ?_
     simp only [Act.put, Xa, Xz, Xs]
     refine wl_val (.bool (decide (hi ≤ (endR G f (T[i]!).X)))) rfl (fun w => run_cmp rfl rfl rfl Try.underlying2 rfl w) ?_
     simp only [Act.put, Xa, Xz, Xs]
     refine wl_val (.bool (decide (hi ≤ (endR G f (T[i]!).X)))) rfl (fun _ => rfl) ?_
     simp only [Act.put, Xa, Xz, Xs]
     cases h11 : (decide (hi ≤ (endR G f (T[i]!).X)))
     ·
      skip
      have p11 : ¬ (hi ≤ (endR G f (T[i]!).X)) := of_decide_eq_false h11
      refine wl_val (.slice ((G[((T[i]!).X[(T[i]!).X.length - 1]!).toNat]!).np) ((G[((T[i]!).X[(T[i]!).X.length - 1]!).toNat]!).X.length) ((G[((T[i]!).X[(T[i]!).X.length - 1]!).toNat]!).nc)) rfl (fun _ => rfl) ?_
      simp only [Act.put, Xa, Xz, Xs]
      refine wl_val (.int .i64 (((G[((T[i]!).X[(T[i]!).X.length - 1]!).toNat]!).X.length : Nat) : Int)) rfl (fun w => er_len rfl rfl Try.underlying63 w) ?_
      simp only [Act.put, Xa, Xz, Xs]
      refine wl_val (.bool ((((G[((T[i]!).X[(T[i]!).X.length - 1]!).toNat]!).X.length : Nat) : Int) == 0)) rfl (fun w => run_cmp rfl rfl rfl Try.underlying3 rfl w) ?_
      simp only [Act.put, Xa, Xz, Xs]
      refine wl_val (.bool ((((G[((T[i]!).X[(T[i]!).X.length - 1]!).toNat]!).X.length : Nat) : Int) == 0)) rfl (fun _ => rfl) ?_
      simp only [Act.put, Xa, Xz, Xs]
      refine wl_nil ?_
      refine we_then ?_
      cases h12 : ((((G[((T[i]!).X[(T[i]!).X.length - 1]!).toNat]!).X.length : Nat) : Int) == 0)
      ·
       skip
       have p12 : ¬ ((((G[((T[i]!).X[(T[i]!).X.length - 1]!).toNat]!).X.length : Nat) : Int) = 0) := by simpa using h12
       refine wc_false rfl ?_
       refine wc_skip ?_
       refine we_then ?_
       refine wc_seq ?_
       refine wc_seq ?_
       refine wc_region ?_
       refine wl_val (.slice ((T[i]!).p) ((T[i]!).X.length) ((T[i]!).c)) rfl (fun _ => rfl) ?_
       simp only [Act.put, Xa, Xz, Xs]
       refine wl_val (.int .i64 (((T[i]!).X.length : Nat) : Int)) rfl (fun w => er_len rfl rfl Try.underlying63 w) ?_
       simp only [Act.put, Xa, Xz, Xs]
       refine wl_val (.bool ((((T[i]!).X.length : Nat) : Int) == 12)) rfl (fun w => run_cmp rfl rfl rfl Try.underlying3 rfl w) ?_
       simp only [Act.put, Xa, Xz, Xs]
       refine wl_nil ?_
       refine we_then ?_
       cases h13 : ((((T[i]!).X.length : Nat) : Int) == 12)
       ·
        skip
        have p13 : ¬ ((((T[i]!).X.length : Nat) : Int) = 12) := by simpa using h13
        refine wc_false rfl ?_
        refine wc_skip ?_
        refine we_then ?_
        refine wc_seq ?_
        refine wc_region ?_
        refine wl_val (.int .i64 0) rfl (fun _ => rfl) ?_
        simp only [Act.put, Xa, Xz, Xs]
        refine wl_nil ?_
        refine we_then ?_
        refine wc_block ?_
        refine wc_loop (fun (zz : Nat × Own × List Ix × Nat × List Rw × Value × Value × Value × Value × Value × Value × Value × Value × Value × Value × Value × Value × Value × Value × Value × Value × Value × Value × Value × Value) => match zz with | ⟨k, v2, M2, m2, N2, u19, u91, u92, u93, u94, u95, u96, u97, u98, u99, u100, u101, u102, u103, u104, u105, u106, u107, u108, u109⟩ => ({ tmps := #[.agg #[.slice p G.length c, .slice q H.length d], .agg #[.int .i64 f, .slice tp T0.length tc], .int .i64 lo, .int .i64 hi, .pointer (some ⟨g1, 0, none⟩), .pointer (some ⟨g2, 0, none⟩), undef, undef, .pointer (some ⟨g3, 0, none⟩), u9, .pointer (some ⟨g6, 0, none⟩), .slice t1 T.length c1, .int .i64 (n : Int), .slice v2.ptr m2 v2.cap, .int .i64 (i : Int), .slice ((T[i]!).p) ((T[i]!).X.length) ((T[i]!).c), .slice ((G[((T[i]!).X[(T[i]!).X.length - 1]!).toNat]!).np) ((G[((T[i]!).X[(T[i]!).X.length - 1]!).toNat]!).X.length) ((G[((T[i]!).X[(T[i]!).X.length - 1]!).toNat]!).nc), .int .i64 (endR G f (T[i]!).X), .int .i64 (k : Int), u19, .int .i64 lo, .int .i64 hi, .bool false, .bool false, .int .i64 lo, .pointer (some ⟨g2, 0, none⟩), .int .i64 f, .int .i64 (-f), .bool false, .bool false, undef, .pointer (some ⟨g2, 0, none⟩), .int .i64 f, .agg #[.int .i64 f, .slice none 0 0], .pointer (some ⟨g2, 1, none⟩), .slice tp T0.length tc, .int .i64 (n : Int), .bool true, u38, u39, .int .i64 (i : Int), .slice t1 T.length c1, .int .i64 (T.length : Int), .bool true, u44, u45, .slice t1 T.length c1, .int .i64 (i : Int), eaddr t1 (i * 1), .slice ((T[i]!).p) ((T[i]!).X.length) ((T[i]!).c), .pointer (some ⟨g1, 0, none⟩), .slice p G.length c, .slice ((T[i]!).p) ((T[i]!).X.length) ((T[i]!).c), .slice ((T[i]!).p) ((T[i]!).X.length) ((T[i]!).c), .int .i64 (((T[i]!).X.length : Nat) : Int), .int .i64 ((((T[i]!).X.length) - 1 : Nat) : Int), eaddr ((T[i]!).p) ((((T[i]!).X.length) - 1) * 1), .int .i64 (((T[i]!).X)[((T[i]!).X.length) - 1]!), eaddr p ((((T[i]!).X[(T[i]!).X.length - 1]!).toNat) * 3), eaddr p ((((T[i]!).X[(T[i]!).X.length - 1]!).toNat) * 3 + 2), .slice ((G[((T[i]!).X[(T[i]!).X.length - 1]!).toNat]!).np) ((G[((T[i]!).X[(T[i]!).X.length - 1]!).toNat]!).X.length) ((G[((T[i]!).X[(T[i]!).X.length - 1]!).toNat]!).nc), .agg #[.slice p G.length c, .slice q H.length d], .pointer (some ⟨g2, 0, none⟩), .int .i64 f, .slice ((T[i]!).p) ((T[i]!).X.length) ((T[i]!).c), .int .i64 (endR G f (T[i]!).X), .int .i64 (endR G f (T[i]!).X), .int .i64 hi, .bool false, .bool false, .slice ((G[((T[i]!).X[(T[i]!).X.length - 1]!).toNat]!).np) ((G[((T[i]!).X[(T[i]!).X.length - 1]!).toNat]!).X.length) ((G[((T[i]!).X[(T[i]!).X.length - 1]!).toNat]!).nc), .int .i64 (((G[((T[i]!).X[(T[i]!).X.length - 1]!).toNat]!).X.length : Nat) : Int), .bool false, .bool false, u74, u75, u76, u77, u78, u79, u80, u81, u82, u83, u84, u85, u86, .slice ((T[i]!).p) ((T[i]!).X.length) ((T[i]!).c), .int .i64 (((T[i]!).X.length : Nat) : Int), .bool false, u90, u91, u92, u93, u94, u95, u96, u97, u98, u99, u100, u101, u102, u103, u104, u105, u106, u107, u108, u109, u110, undef, undef, undef, undef, undef, undef], defers := [] } : Act)) (fun (zz : Nat × Own × List Ix × Nat × List Rw × Value × Value × Value × Value × Value × Value × Value × Value × Value × Value × Value × Value × Value × Value × Value × Value × Value × Value × Value × Value) => match zz with | ⟨k, v2, M2, m2, N2, u19, u91, u92, u93, u94, u95, u96, u97, u98, u99, u100, u101, u102, u103, u104, u105, u106, u107, u108, u109⟩ => ⟨g6, #[.int .i64 f, .slice o2.ptr on2 o2.cap], 42⟩ :: ⟨g3, #[.int .i64 0, .slice none 0 0], 42⟩ :: ⟨g2, #[.int .i64 f, .slice tp T0.length tc], 42⟩ :: ⟨g1, #[.slice p G.length c, .slice q H.length d], 50⟩ :: (o2.rows 63 ++ (v2.rows 63 ++ N2))) (fun (zz : Nat × Own × List Ix × Nat × List Rw × Value × Value × Value × Value × Value × Value × Value × Value × Value × Value × Value × Value × Value × Value × Value × Value × Value × Value × Value × Value) => match zz with | ⟨k, v2, M2, m2, N2, u19, u91, u92, u93, u94, u95, u96, u97, u98, u99, u100, u101, u102, u103, u104, u105, u106, u107, u108, u109⟩ => k ≤ (G[((T[i]!).X[(T[i]!).X.length - 1]!).toNat]!).X.length ∧ M2.length = m2 ∧ v2.Has 1 m2 (flat ix M2) ∧ xs M2 = xs M ++ ((G[((T[i]!).X[(T[i]!).X.length - 1]!).toNat]!).X.take k).map (fun n => (T[i]!).X ++ [n]) ∧ Mem G T0 N2 T ∧ Mem G T0 N2 O2 ∧ Mem G T0 N2 M2 ∧ SlAt w N2 t1 (flat ix T) ∧ m2 ≤ 2 * i + k) (fun (zz : Nat × Own × List Ix × Nat × List Rw × Value × Value × Value × Value × Value × Value × Value × Value × Value × Value × Value × Value × Value × Value × Value × Value × Value × Value × Value × Value) => match zz with | ⟨k, v2, M2, m2, N2, u19, u91, u92, u93, u94, u95, u96, u97, u98, u99, u100, u101, u102, u103, u104, u105, u106, u107, u108, u109⟩ => (G[((T[i]!).X[(T[i]!).X.length - 1]!).toNat]!).X.length - k) ⟨0, v, M, mn, N1, _, _, _, _, _, _, _, _, _, _, _, _, _, _, _, _, _, _, _, _⟩ ⟨Nat.zero_le _, b4, b5, by simp, b7, b8, b9, b10, by omega⟩ rfl (List.Sublist.cons_cons _ (List.Sublist.cons_cons _ (List.Sublist.cons_cons _ (List.Sublist.cons_cons _ (List.Sublist.append_left (List.Sublist.append_left (List.Sublist.refl _) _) _))))) ?_
        rintro ⟨k, v2, M2, m2, N2, u19, u91, u92, u93, u94, u95, u96, u97, u98, u99, u100, u101, u102, u103, u104, u105, u106, u107, u108, u109⟩ hφ
        (try dsimp only at hφ ⊢)
        obtain ⟨c1, c2, c3, c4, c5, c6, c7, c8, c9⟩ := hφ
        refine wc_seq ?_
        refine wc_seq ?_
        refine wc_region ?_
        refine wl_val (.int .i64 (k : Int)) rfl (fun _ => rfl) ?_
        simp only [Act.put, Xa, Xz, Xs]
        refine wl_val (.slice ((G[((T[i]!).X[(T[i]!).X.length - 1]!).toNat]!).np) ((G[((T[i]!).X[(T[i]!).X.length - 1]!).toNat]!).X.length) ((G[((T[i]!).X[(T[i]!).X.length - 1]!).toNat]!).nc)) rfl (fun _ => rfl) ?_
        simp only [Act.put, Xa, Xz, Xs]
        refine wl_val (.int .i64 (((G[((T[i]!).X[(T[i]!).X.length - 1]!).toNat]!).X.length : Nat) : Int)) rfl (fun w => er_len rfl rfl Try.underlying63 w) ?_
        simp only [Act.put, Xa, Xz, Xs]
        refine wl_val (.bool (decide ((k : Int) < (((G[((T[i]!).X[(T[i]!).X.length - 1]!).toNat]!).X.length : Nat) : Int)))) rfl (fun w => run_cmp rfl rfl rfl Try.underlying3 rfl w) ?_
        simp only [Act.put, Xa, Xz, Xs]
        refine wl_nil ?_
        refine we_then ?_
        cases h14 : (decide ((k : Int) < (((G[((T[i]!).X[(T[i]!).X.length - 1]!).toNat]!).X.length : Nat) : Int)))
        ·
         skip
         have p14 : ¬ ((k : Int) < (((G[((T[i]!).X[(T[i]!).X.length - 1]!).toNat]!).X.length : Nat) : Int)) := of_decide_eq_false h14
         refine wc_false rfl ?_
         refine wc_exit ?_
         refine we_then_exit ?_
         refine we_then_exit ?_
         refine we_in_here ?_
         refine we_in ?_
         refine we_then ?_
         refine wc_region ?_
         refine wl_val (.int .i64 (i : Int)) rfl (fun _ => rfl) ?_
         simp only [Act.put, Xa, Xz, Xs]
         refine wl_val (.int .i64 ((i + 1 : Nat) : Int)) rfl (fun w => run_nat (X := i) (Y := 1) (Z := i + 1) rfl rfl rfl rfl (by omega) w) ?_
         simp only [Act.put, Xa, Xz, Xs]
         refine wl_val (.int .i64 ((i + 1 : Nat) : Int)) rfl (fun _ => rfl) ?_
         simp only [Act.put, Xa, Xz, Xs]
         refine wl_nil ?_
         exact we_meet ⟨(i + 1), o2, O2, on2, v2, M2, m2, N2, _, _, _, _, _, _, _, _, _, _, _, _, _, _, _, _, _, _, _, _, _, _, _, _, _, _, _, _, _, _, _, _, _, _, _, _, _, _, _, _, _, _, _, _, _, _, _, _, _, _, _, _, _, _, _, _, _, _, _, _, _, _, _, _, _, _, _, _, _, _, _, _, _, _, _, _⟩ (by (try dsimp only); have e1 : k = (G[((T[i]!).X[(T[i]!).X.length - 1]!).toNat]!).X.length := (by omega); subst e1; rw [List.take_length] at c4; have lv0 : Lev G f hi lo (xs T0) n (xs O2) ((T[i]!).X :: (xs T).drop (i + 1)) (xs M) := xs_drop (show i < T.length by omega) ▸ b6; have lv2 : Lev G f hi lo (xs T0) n (xs O2) ((xs T).drop (i + 1)) (xs M2) := (by rw [c4]; exact lev_go lv0 (fun k => (stop_iff.1 k).elim (fun k => by omega) (fun k => by unfold nxt at k; omega)) (by omega)); exact ⟨⟨by omega, b2, b3, c2, c3, lv2, c5, c6, c7, c8, by omega⟩, by omega⟩) rfl (List.Sublist.cons_cons _ (List.Sublist.cons_cons _ (List.Sublist.cons_cons _ (List.Sublist.cons_cons _ (List.Sublist.append_left (List.Sublist.append_left (List.Sublist.refl _) _) _)))))
        ·
         skip
         have p14 : (k : Int) < (((G[((T[i]!).X[(T[i]!).X.length - 1]!).toNat]!).X.length : Nat) : Int) := of_decide_eq_true h14
         refine wc_true rfl ?_
         refine wc_skip ?_
         refine we_then ?_
         refine wc_seq ?_
         refine wc_block ?_
         refine wc_seq ?_
         refine wc_region ?_
         refine wl_val (.slice none 0 0) rfl (fun _ => rfl) ?_
         simp only [Act.put, Xa, Xz, Xs]
         refine wl_nil ?_
         refine we_then ?_
         refine wc_seq ?_
         refine wc_region ?_
         refine wl_val (.slice none 0 0) rfl (fun _ => rfl) ?_
         simp only [Act.put, Xa, Xz, Xs]
         refine wl_val (.slice ((T[i]!).p) ((T[i]!).X.length) ((T[i]!).c)) rfl (fun _ => rfl) ?_
         simp only [Act.put, Xa, Xz, Xs]
         refine wl_append (e := 3) (size := 1) (bytes := 8) (m := (T[i]!).X.length) ([⟨g6, #[.int .i64 f, .slice o2.ptr on2 o2.cap], 42⟩, ⟨g3, #[.int .i64 0, .slice none 0 0], 42⟩, ⟨g2, #[.int .i64 f, .slice tp T0.length tc], 42⟩, ⟨g1, #[.slice p G.length c, .slice q H.length d], 50⟩] ++ (o2.rows 63 ++ (v2.rows 63 ++ []))) N2 Own.none (ys := flat enc1 ((T[i]!).X)) (by simp [Own.rows]) (Own.has_none 1) (sl_std (mem_std hO c5 (i := i) (by omega)) (List.Sublist.cons _ (List.Sublist.cons _ (List.Sublist.cons _ (List.Sublist.cons _ (List.sublist_append_of_sublist_right (List.sublist_append_of_sublist_right (List.Sublist.refl _)))))))) (flat_length (enc := enc1) (size := 1) (fun _ => rfl) _) (flat_one enc1_one _) rfl rfl rfl rfl Try.underlying63 (by unfold Elem; kernel_rfl) (by decide) (by unfold maxLen; omega) (by omega) ?_
         intro s15 hs15
         rw [Nat.zero_add] at hs15 ⊢
         replace hs15 := has_cast (show _ = flat enc1 ((T[i]!).X) from rfl) hs15
         simp only [List.append_assoc, List.cons_append, List.nil_append, Act.put, Xa, Xz, Xs]
         refine wl_val (.slice s15.ptr ((T[i]!).X.length) s15.cap) rfl (fun _ => rfl) ?_
         simp only [Act.put, Xa, Xz, Xs]
         refine wl_nil ?_
         refine we_then ?_
         have ys := sm.each k (by omega)
         refine wc_region ?_
         refine wl_val (.slice v2.ptr m2 v2.cap) rfl (fun _ => rfl) ?_
         simp only [Act.put, Xa, Xz, Xs]
         refine wl_val (.slice s15.ptr ((T[i]!).X.length) s15.cap) rfl (fun _ => rfl) ?_
         simp only [Act.put, Xa, Xz, Xs]
         refine wl_val (.slice ((G[((T[i]!).X[(T[i]!).X.length - 1]!).toNat]!).np) ((G[((T[i]!).X[(T[i]!).X.length - 1]!).toNat]!).X.length) ((G[((T[i]!).X[(T[i]!).X.length - 1]!).toNat]!).nc)) rfl (fun _ => rfl) ?_
         simp only [Act.put, Xa, Xz, Xs]
         refine wl_val (.int .i64 (k : Int)) rfl (fun _ => rfl) ?_
         simp only [Act.put, Xa, Xz, Xs]
         refine wl_read (eaddr ((G[((T[i]!).X[(T[i]!).X.length - 1]!).toNat]!).np) (k * 1)) rfl (er_index k 1 (sl_old (sg_at hG (by omega)).x) rfl rfl rfl rfl (by omega) (flat_length (enc := enc1) (size := 1) (fun _ => rfl) _) (by decide) Try.underlying63 (by kernel_rfl)) ?_
         simp only [Act.put, Xa, Xz, Xs]
         refine wl_read (.int .i64 (((G[((T[i]!).X[(T[i]!).X.length - 1]!).toNat]!).X)[k]!)) rfl (er_cell (k * 1) (.int .i64 (((G[((T[i]!).X[(T[i]!).X.length - 1]!).toNat]!).X)[k]!)) (sl_old (sg_at hG (by omega)).x) rfl rfl (flat_cell (enc := enc1) (fun _ => rfl) ((G[((T[i]!).X[(T[i]!).X.length - 1]!).toNat]!).X) k 0 (by omega) (by decide)) Try.isAgg3) ?_
         simp only [Act.put, Xa, Xz, Xs]
         refine wl_lit (e := 3) #[.int .i64 (((G[((T[i]!).X[(T[i]!).X.length - 1]!).toNat]!).X)[k]!)] 1 rfl (fun _ => by go_simp) ?_
         intro g16
         simp only [Act.put, Xa, Xz, Xs]
         refine wl_append (e := 3) (size := 1) (bytes := 8) (m := 1) ([⟨g16, #[.int .i64 (((G[((T[i]!).X[(T[i]!).X.length - 1]!).toNat]!).X)[k]!)], 3⟩, ⟨g6, #[.int .i64 f, .slice o2.ptr on2 o2.cap], 42⟩, ⟨g3, #[.int .i64 0, .slice none 0 0], 42⟩, ⟨g2, #[.int .i64 f, .slice tp T0.length tc], 42⟩, ⟨g1, #[.slice p G.length c, .slice q H.length d], 50⟩] ++ (o2.rows 63 ++ (v2.rows 63 ++ []))) N2 s15 (ys := [.int .i64 (((G[((T[i]!).X[(T[i]!).X.length - 1]!).toNat]!).X)[k]!)]) (by simp) hs15 (sl_row 0 rfl) rfl (by simp [Value.oneCell']) rfl rfl rfl rfl Try.underlying63 (by unfold Elem; kernel_rfl) (by decide) (by unfold maxLen; omega) (by omega) ?_
         intro s17 hs17
         simp only [List.append_assoc, List.cons_append, List.nil_append, Act.put, Xa, Xz, Xs]
         refine wl_lit (e := 63) #[.slice s17.ptr ((T[i]!).X.length + 1) s17.cap] 1 rfl (fun _ => by go_simp) ?_
         intro g18
         simp only [Act.put, Xa, Xz, Xs]
         refine wl_append (e := 63) (size := 1) (bytes := 24) (m := 1) ([⟨g18, #[.slice s17.ptr ((T[i]!).X.length + 1) s17.cap], 63⟩, ⟨g16, #[.int .i64 (((G[((T[i]!).X[(T[i]!).X.length - 1]!).toNat]!).X)[k]!)], 3⟩, ⟨g6, #[.int .i64 f, .slice o2.ptr on2 o2.cap], 42⟩, ⟨g3, #[.int .i64 0, .slice none 0 0], 42⟩, ⟨g2, #[.int .i64 f, .slice tp T0.length tc], 42⟩, ⟨g1, #[.slice p G.length c, .slice q H.length d], 50⟩] ++ (o2.rows 63 ++ [])) (s17.rows 3 ++ N2) v2 (ys := [.slice s17.ptr ((T[i]!).X.length + 1) s17.cap]) (by simp) c3 (sl_row 0 rfl) rfl (by simp [Value.oneCell']) rfl rfl rfl rfl Try.underlying40 (by unfold Elem; kernel_rfl) (by decide) (by unfold maxLen; omega) (by omega) ?_
         intro s19 hs19
         simp only [List.append_assoc, List.cons_append, List.nil_append, Act.put, Xa, Xz, Xs]
         refine wl_val (.slice s19.ptr (m2 + 1) s19.cap) rfl (fun _ => rfl) ?_
         simp only [Act.put, Xa, Xz, Xs]
         refine wl_nil ?_
         refine we_in ?_
         refine we_then ?_
         refine wc_region ?_
         refine wl_val (.int .i64 (k : Int)) rfl (fun _ => rfl) ?_
         simp only [Act.put, Xa, Xz, Xs]
         refine wl_val (.int .i64 ((k + 1 : Nat) : Int)) rfl (fun w => run_nat (X := k) (Y := 1) (Z := k + 1) rfl rfl rfl rfl (by omega) w) ?_
         simp only [Act.put, Xa, Xz, Xs]
         refine wl_val (.int .i64 ((k + 1 : Nat) : Int)) rfl (fun _ => rfl) ?_
         simp only [Act.put, Xa, Xz, Xs]
         refine wl_nil ?_
         exact we_meet ⟨(k + 1), s19, (M2 ++ [(⟨s17.ptr, (T[i]!).X ++ [(G[((T[i]!).X[(T[i]!).X.length - 1]!).toNat]!).X[k]!], s17.cap⟩ : Ix)]), (m2 + 1), (s17.rows 3 ++ N2), _, _, _, _, _, _, _, _, _, _, _, _, _, _, _, _, _, _, _, _⟩ (by (try dsimp only); have z1 : Held (s17.rows 3 ++ N2) s17.ptr (flat enc1 ((T[i]!).X ++ [(G[((T[i]!).X[(T[i]!).X.length - 1]!).toNat]!).X[k]!])) := (held_own (e := 3) (has_snoc (x := (G[((T[i]!).X[(T[i]!).X.length - 1]!).toNat]!).X[k]!) hs17)).mono (List.sublist_append_left _ _); have z2 := rt_snoc (mem_rt c5 (i := i) (by omega)) (by omega) ys.1 ys.2; exact ⟨⟨by omega, by rw [List.length_append, c2]; rfl, has_snoc (x := (⟨s17.ptr, (T[i]!).X ++ [(G[((T[i]!).X[(T[i]!).X.length - 1]!).toNat]!).X[k]!], s17.cap⟩ : Ix)) (by rw [ix_app]; exact hs19), by rw [xs_snoc, c4, take_snoc (G[((T[i]!).X[(T[i]!).X.length - 1]!).toNat]!).X k (by omega), List.map_append, List.append_assoc]; rfl, c5.mono (List.sublist_append_right _ _), c6.mono (List.sublist_append_right _ _), mem_snoc (c7.mono (List.sublist_append_right _ _)) z1 z2, sl_std c8 (List.sublist_append_right _ _), by omega⟩, by omega⟩) rfl (List.Sublist.cons _ (List.Sublist.cons _ (List.Sublist.cons_cons _ (List.Sublist.cons_cons _ (List.Sublist.cons_cons _ (List.Sublist.cons_cons _ (List.Sublist.append_left (List.Sublist.append_left (List.Sublist.refl _) _) _)))))))
       ·
        skip
        have p13 : (((T[i]!).X.length : Nat) : Int) = 12 := by simpa using h13
        refine wc_true rfl ?_
        refine wc_seq ?_
        refine wc_region ?_
        refine wl_val (.agg #[.int .i64 0, .slice none 0 0]) rfl (fun _ => by go_simp) ?_
        simp only [Act.put, Xa, Xz, Xs]
        refine wl_store 1 42 (.tmp 8) (.tmp 90) (#[.int .i64 0, .slice none 0 0]) rfl rfl rfl rfl rfl (by kernel_rfl) rfl (by simp [Value.oneCell']) ?_
        simp only [Act.put, List.set_cons_zero, List.set_cons_succ]
        refine wl_val (.int .i64 13) rfl (fun _ => rfl) ?_
        simp only [Act.put, Xa, Xz, Xs]
        refine wl_nil ?_
        refine we_then ?_
        refine wc_ret ?_
        refine we_then_ret ?_
        refine we_in_ret ?_
        refine we_then_ret ?_
        refine we_then_ret ?_
        refine we_in_ret ?_
        refine we_then_ret ?_
        refine we_in_ret ?_
        refine we_then_ret ?_
        refine we_then_ret ?_
        refine we_in_ret ?_
        refine we_then_ret ?_
        refine we_ret_cell_tmp (.int .i64 13) (own_row 1 rfl) rfl rfl rfl rfl Try.underlying42 rfl (by kernel_rfl) (fun w1 hE => ?_)
        have lv0 : Lev G f hi lo (xs T0) n (xs O2) ((T[i]!).X :: (xs T).drop (i + 1)) (xs M) := xs_drop (show i < T.length by omega) ▸ b6
        exact ⟨⟨13, 0, none, [], 0, []⟩, gz_err (lev_deep lv0 (fun k => (stop_iff.1 k).elim (fun k => by omega) (fun k => by unfold nxt at k; omega)) (by omega) (by omega)) (by decide), rfl, hE.sub (List.nil_sublist _)⟩
      ·
       skip
       have p12 : (((G[((T[i]!).X[(T[i]!).X.length - 1]!).toNat]!).X.length : Nat) : Int) = 0 := by simpa using h12
       refine wc_true rfl ?_
       refine wc_seq ?_
       refine wc_seq ?_
       refine wc_region ?_
       refine wl_val (.int .i64 (endR G f (T[i]!).X)) rfl (fun _ => rfl) ?_
       simp only [Act.put, Xa, Xz, Xs]
       refine wl_val (.int .i64 lo) rfl (fun _ => rfl) ?_
       simp only [Act.put, Xa, Xz, Xs]
       refine wl_val (.bool (decide (lo ≤ (endR G f (T[i]!).X)))) rfl (fun w => run_cmp rfl rfl rfl Try.underlying2 rfl w) ?_
       simp only [Act.put, Xa, Xz, Xs]
       refine wl_nil ?_
       refine we_then ?_
       cases h20 : (decide (lo ≤ (endR G f (T[i]!).X)))
       ·
        skip
        have p20 : ¬ (lo ≤ (endR G f (T[i]!).X)) := of_decide_eq_false h20
        refine wc_false rfl ?_
        refine wc_skip ?_
        refine we_then ?_
        refine wc_seq ?_
        refine wc_seq ?_
        refine wc_region ?_
        refine wl_val (.pointer (some ⟨g6, 1, none⟩)) rfl (fun _ => by go_simp) ?_
        simp only [Act.put, Xa, Xz, Xs]
        refine wl_cell 40 (.tmp 82) (.slice o2.ptr on2 o2.cap) (own_row 0 rfl) rfl rfl rfl rfl Try.isAgg40 ?_
        simp only [Act.put, Xa, Xz, Xs]
        refine wl_val (.int .i64 (on2 : Int)) rfl (fun w => er_len rfl rfl Try.underlying40 w) ?_
        simp only [Act.put, Xa, Xz, Xs]
        refine wl_val (.bool (decide (16 < (on2 : Int)))) rfl (fun w => run_cmp rfl rfl rfl Try.underlying3 rfl w) ?_
        simp only [Act.put, Xa, Xz, Xs]
        refine wl_nil ?_
        refine we_then ?_
        cases h21 : (decide (16 < (on2 : Int)))
        ·
         skip
         have p21 : ¬ (16 < (on2 : Int)) := of_decide_eq_false h21
         refine wc_false rfl ?_
         refine wc_skip ?_
         refine we_then ?_
         refine wc_exit ?_
         refine we_then_exit ?_
         refine we_in_here ?_
         refine we_then ?_
         refine wc_region ?_
         refine wl_val (.int .i64 (i : Int)) rfl (fun _ => rfl) ?_
         simp only [Act.put, Xa, Xz, Xs]
         refine wl_val (.int .i64 ((i + 1 : Nat) : Int)) rfl (fun w => run_nat (X := i) (Y := 1) (Z := i + 1) rfl rfl rfl rfl (by omega) w) ?_
         simp only [Act.put, Xa, Xz, Xs]
         refine wl_val (.int .i64 ((i + 1 : Nat) : Int)) rfl (fun _ => rfl) ?_
         simp only [Act.put, Xa, Xz, Xs]
         refine wl_nil ?_
         exact we_meet ⟨(i + 1), o2, O2, on2, v, M, mn, N1, _, _, _, _, _, _, _, _, _, _, _, _, _, _, _, _, _, _, _, _, _, _, _, _, _, _, _, _, _, _, _, _, _, _, _, _, _, _, _, _, _, _, _, _, _, _, _, _, _, _, _, _, _, _, _, _, _, _, _, _, _, _, _, _, _, _, _, _, _, _, _, _, _, _, _, _⟩ (by (try dsimp only); have lv0 : Lev G f hi lo (xs T0) n (xs O2) ((T[i]!).X :: (xs T).drop (i + 1)) (xs M) := xs_drop (show i < T.length by omega) ▸ b6; exact ⟨⟨by omega, b2, b3, b4, b5, lev_drop lv0 (stop_iff.2 (.inr (by unfold nxt; omega))) (by omega), b7, b8, b9, b10, by omega⟩, by omega⟩) rfl (List.Sublist.cons_cons _ (List.Sublist.cons_cons _ (List.Sublist.cons_cons _ (List.Sublist.cons_cons _ (List.Sublist.append_left (List.Sublist.append_left (List.Sublist.refl _) _) _)))))
        ·
         skip
         have p21 : 16 < (on2 : Int) := of_decide_eq_true h21
         refine wc_true rfl ?_
         refine wc_seq ?_
         refine wc_region ?_
         refine wl_val (.agg #[.int .i64 0, .slice none 0 0]) rfl (fun _ => by go_simp) ?_
         simp only [Act.put, Xa, Xz, Xs]
         refine wl_store 1 42 (.tmp 8) (.tmp 86) (#[.int .i64 0, .slice none 0 0]) rfl rfl rfl rfl rfl (by kernel_rfl) rfl (by simp [Value.oneCell']) ?_
         simp only [Act.put, List.set_cons_zero, List.set_cons_succ]
         refine wl_val (.int .i64 13) rfl (fun _ => rfl) ?_
         simp only [Act.put, Xa, Xz, Xs]
         refine wl_nil ?_
         refine we_then ?_
         refine wc_ret ?_
         refine we_then_ret ?_
         refine we_then_ret ?_
         refine we_in_ret ?_
         refine we_then_ret ?_
         refine we_then_ret ?_
         refine we_in_ret ?_
         refine we_then_ret ?_
         refine we_in_ret ?_
         refine we_then_ret ?_
         refine we_then_ret ?_
         refine we_in_ret ?_
         refine we_then_ret ?_
         refine we_ret_cell_tmp (.int .i64 13) (own_row 1 rfl) rfl rfl rfl rfl Try.underlying42 rfl (by kernel_rfl) (fun w1 hE => ?_)
         exact (by exfalso; omega)
       ·
        skip
        have p20 : lo ≤ (endR G f (T[i]!).X) := of_decide_eq_true h20
        refine wc_true rfl ?_
        refine wc_region ?_
        refine wl_val (.pointer (some ⟨g6, 1, none⟩)) rfl (fun _ => by go_simp) ?_
        simp only [Act.put, Xa, Xz, Xs]
        refine wl_cell 40 (.tmp 77) (.slice o2.ptr on2 o2.cap) (own_row 0 rfl) rfl rfl rfl rfl Try.isAgg40 ?_
        simp only [Act.put, Xa, Xz, Xs]
        refine wl_val (.slice ((T[i]!).p) ((T[i]!).X.length) ((T[i]!).c)) rfl (fun _ => rfl) ?_
        simp only [Act.put, Xa, Xz, Xs]
        refine wl_call_own (ι := Own) (e := 63) [⟨g6, #[.int .i64 f, .slice o2.ptr on2 o2.cap], 42⟩, ⟨g3, #[.int .i64 0, .slice none 0 0], 42⟩, ⟨g2, #[.int .i64 f, .slice tp T0.length tc], 42⟩, ⟨g1, #[.slice p G.length c, .slice q H.length d], 50⟩] (o2.rows 63 ++ (v.rows 63 ++ N1)) 47 #[.slice o2.ptr on2 o2.cap, .slice ((T[i]!).p) ((T[i]!).X.length) ((T[i]!).c)] (fun s => .slice s.ptr (ins ltI (T[i]!) O2).length s.cap) (fun s => s) (fun s => s.Has 1 (ins ltI (T[i]!) O2).length (flat ix (ins ltI (T[i]!) O2))) rfl rfl (fun _ => by go_simp) (fun W hE => put_len O2 (T[i]!) _ _ _ W b2 ((sl_own [⟨g6, #[.int .i64 f, .slice o2.ptr on2 o2.cap], 42⟩, ⟨g3, #[.int .i64 0, .slice none 0 0], 42⟩, ⟨g2, #[.int .i64 f, .slice tp T0.length tc], 42⟩, ⟨g1, #[.slice p G.length c, .slice q H.length d], 50⟩] (v.rows 63 ++ N1) b3 rfl) W hE) (mem_ok hO b8 (List.Sublist.cons _ (List.Sublist.cons _ (List.Sublist.cons _ (List.Sublist.cons _ (List.sublist_append_of_sublist_right (List.sublist_append_of_sublist_right (List.Sublist.refl _))))))) hE) ((sl_std (mem_std hO b7 (i := i) (by omega)) (List.Sublist.cons _ (List.Sublist.cons _ (List.Sublist.cons _ (List.Sublist.cons _ (List.sublist_append_of_sublist_right (List.sublist_append_of_sublist_right (List.Sublist.refl _)))))))) W hE) (by omega) (by omega)) ?_
        rintro s22 hs22
        simp only [List.cons_append, List.nil_append, Act.put, Xa, Xz, Xs]
        refine wl_val (.pointer (some ⟨g6, 1, none⟩)) rfl (fun _ => by go_simp) ?_
        simp only [Act.put, Xa, Xz, Xs]
        refine wl_store_cell 0 40 (.tmp 81) (.tmp 80) (.slice o2.ptr on2 o2.cap) (.slice s22.ptr ((ins ltI (T[i]!) O2).length) s22.cap) rfl rfl rfl rfl rfl rfl (by kernel_rfl) rfl ?_
        simp only [Act.put, List.set_cons_zero]
        refine wl_nil ?_
        refine we_then ?_
        refine wc_seq ?_
        refine wc_seq ?_
        refine wc_region ?_
        refine wl_val (.pointer (some ⟨g6, 1, none⟩)) rfl (fun _ => by go_simp) ?_
        simp only [Act.put, Xa, Xz, Xs]
        refine wl_cell 40 (.tmp 82) (.slice s22.ptr ((ins ltI (T[i]!) O2).length) s22.cap) (own_row 0 rfl) rfl rfl rfl rfl Try.isAgg40 ?_
        simp only [Act.put, Xa, Xz, Xs]
        refine wl_val (.int .i64 (((ins ltI (T[i]!) O2).length : Nat) : Int)) rfl (fun w => er_len rfl rfl Try.underlying40 w) ?_
        simp only [Act.put, Xa, Xz, Xs]
        refine wl_val (.bool (decide (16 < (((ins ltI (T[i]!) O2).length : Nat) : Int)))) rfl (fun w => run_cmp rfl rfl rfl Try.underlying3 rfl w) ?_
        simp only [Act.put, Xa, Xz, Xs]
        refine wl_nil ?_
        refine we_then ?_
        cases h23 : (decide (16 < (((ins ltI (T[i]!) O2).length : Nat) : Int)))
        ·
         skip
         have p23 : ¬ (16 < (((ins ltI (T[i]!) O2).length : Nat) : Int)) := of_decide_eq_false h23
         refine wc_false rfl ?_
         refine wc_skip ?_
         refine we_then ?_
         refine wc_exit ?_
         refine we_then_exit ?_
         refine we_in_here ?_
         refine we_then ?_
         refine wc_region ?_
         refine wl_val (.int .i64 (i : Int)) rfl (fun _ => rfl) ?_
         simp only [Act.put, Xa, Xz, Xs]
         refine wl_val (.int .i64 ((i + 1 : Nat) : Int)) rfl (fun w => run_nat (X := i) (Y := 1) (Z := i + 1) rfl rfl rfl rfl (by omega) w) ?_
         simp only [Act.put, Xa, Xz, Xs]
         refine wl_val (.int .i64 ((i + 1 : Nat) : Int)) rfl (fun _ => rfl) ?_
         simp only [Act.put, Xa, Xz, Xs]
         refine wl_nil ?_
         exact we_meet ⟨(i + 1), s22, (ins ltI (T[i]!) O2), (ins ltI (T[i]!) O2).length, v, M, mn, N1, _, _, _, _, _, _, _, _, _, _, _, _, _, _, _, _, _, _, _, _, _, _, _, _, _, _, _, _, _, _, _, _, _, _, _, _, _, _, _, _, _, _, _, _, _, _, _, _, _, _, _, _, _, _, _, _, _, _, _, _, _, _, _, _, _, _, _, _, _, _, _, _, _, _, _, _⟩ (by (try dsimp only); have lv0 : Lev G f hi lo (xs T0) n (xs O2) ((T[i]!).X :: (xs T).drop (i + 1)) (xs M) := xs_drop (show i < T.length by omega) ▸ b6; have le := congrArg List.length (insI_map (T[i]!) O2); rw [List.length_map] at le; exact ⟨⟨by omega, rfl, hs22, b4, b5, (by rw [show xs (ins ltI (T[i]!) O2) = ins ltB (T[i]!).X (xs O2) from insI_map _ _]; exact lev_put lv0 (stop_iff.2 (.inr (by unfold nxt; omega))) (by omega) (by rw [← le]; omega)), b7, mem_ins b8 b7 (get_mem (by omega)), b9, b10, by omega⟩, by omega⟩) rfl (List.Sublist.cons_cons _ (List.Sublist.cons_cons _ (List.Sublist.cons_cons _ (List.Sublist.cons_cons _ (List.Sublist.append_left (List.sublist_append_of_sublist_right (List.Sublist.append_left (List.Sublist.refl _) _)) _)))))
        ·
         skip
         have p23 : 16 < (((ins ltI (T[i]!) O2).length : Nat) : Int) := of_decide_eq_true h23
         refine wc_true rfl ?_
         refine wc_seq ?_
         refine wc_region ?_
         refine wl_val (.agg #[.int .i64 0, .slice none 0 0]) rfl (fun _ => by go_simp) ?_
         simp only [Act.put, Xa, Xz, Xs]
         refine wl_store 1 42 (.tmp 8) (.tmp 86) (#[.int .i64 0, .slice none 0 0]) rfl rfl rfl rfl rfl (by kernel_rfl) rfl (by simp [Value.oneCell']) ?_
         simp only [Act.put, List.set_cons_zero, List.set_cons_succ]
         refine wl_val (.int .i64 13) rfl (fun _ => rfl) ?_
         simp only [Act.put, Xa, Xz, Xs]
         refine wl_nil ?_
         refine we_then ?_
         refine wc_ret ?_
         refine we_then_ret ?_
         refine we_then_ret ?_
         refine we_in_ret ?_
         refine we_then_ret ?_
         refine we_then_ret ?_
         refine we_in_ret ?_
         refine we_then_ret ?_
         refine we_in_ret ?_
         refine we_then_ret ?_
         refine we_then_ret ?_
         refine we_in_ret ?_
         refine we_then_ret ?_
         refine we_ret_cell_tmp (.int .i64 13) (own_row 1 rfl) rfl rfl rfl rfl Try.underlying42 rfl (by kernel_rfl) (fun w1 hE => ?_)
         have lv0 : Lev G f hi lo (xs T0) n (xs O2) ((T[i]!).X :: (xs T).drop (i + 1)) (xs M) := xs_drop (show i < T.length by omega) ▸ b6
         have le := congrArg List.length (insI_map (T[i]!) O2)
         rw [List.length_map] at le
         exact ⟨⟨13, 0, none, [], 0, []⟩, gz_err (lev_many lv0 (stop_iff.2 (.inr (by unfold nxt; omega))) (by omega) (by rw [← le]; omega) (by omega)) (by decide), rfl, hE.sub (List.nil_sublist _)⟩
     ·
      skip
      have p11 : hi ≤ (endR G f (T[i]!).X) := of_decide_eq_true h11
      refine wl_skip rfl ?_
      simp only [Act.put, Xa, Xz, Xs]
      refine wl_skip rfl ?_
      simp only [Act.put, Xa, Xz, Xs]
      refine wl_skip rfl ?_
      simp only [Act.put, Xa, Xz, Xs]
      refine wl_val (.bool true) rfl (fun _ => rfl) ?_
      simp only [Act.put, Xa, Xz, Xs]
      refine wl_nil ?_
      refine we_then ?_
      refine wc_true rfl ?_
      refine wc_seq ?_
      refine wc_seq ?_
      refine wc_region ?_
      refine wl_val (.int .i64 (endR G f (T[i]!).X)) rfl (fun _ => rfl) ?_
      simp only [Act.put, Xa, Xz, Xs]
      refine wl_val (.int .i64 lo) rfl (fun _ => rfl) ?_
      simp only [Act.put, Xa, Xz, Xs]
      refine wl_val (.bool (decide (lo ≤ (endR G f (T[i]!).X)))) rfl (fun w => run_cmp rfl rfl rfl Try.underlying2 rfl w) ?_
      simp only [Act.put, Xa, Xz, Xs]
      refine wl_nil ?_
      refine we_then ?_
      cases h24 : (decide (lo ≤ (endR G f (T[i]!).X)))
      ·
       skip
       have p24 : ¬ (lo ≤ (endR G f (T[i]!).X)) := of_decide_eq_false h24
       refine wc_false rfl ?_
       refine wc_skip ?_
       refine we_then ?_
       refine wc_seq ?_
       refine wc_seq ?_
       refine wc_region ?_
       refine wl_val (.pointer (some ⟨g6, 1, none⟩)) rfl (fun _ => by go_simp) ?_
       simp only [Act.put, Xa, Xz, Xs]
       refine wl_cell 40 (.tmp 82) (.slice o2.ptr on2 o2.cap) (own_row 0 rfl) rfl rfl rfl rfl Try.isAgg40 ?_
       simp only [Act.put, Xa, Xz, Xs]
       refine wl_val (.int .i64 (on2 : Int)) rfl (fun w => er_len rfl rfl Try.underlying40 w) ?_
       simp only [Act.put, Xa, Xz, Xs]
       refine wl_val (.bool (decide (16 < (on2 : Int)))) rfl (fun w => run_cmp rfl rfl rfl Try.underlying3 rfl w) ?_
       simp only [Act.put, Xa, Xz, Xs]
       refine wl_nil ?_
       refine we_then ?_
       cases h25 : (decide (16 < (on2 : Int)))
       ·
        skip
        have p25 : ¬ (16 < (on2 : Int)) := of_decide_eq_false h25
        refine wc_false rfl ?_
        refine wc_skip ?_
        refine we_then ?_
        refine wc_exit ?_
        refine we_then_exit ?_
        refine we_in_here ?_
        refine we_then ?_
        refine wc_region ?_
        refine wl_val (.int .i64 (i : Int)) rfl (fun _ => rfl) ?_
        simp only [Act.put, Xa, Xz, Xs]
        refine wl_val (.int .i64 ((i + 1 : Nat) : Int)) rfl (fun w => run_nat (X := i) (Y := 1) (Z := i + 1) rfl rfl rfl rfl (by omega) w) ?_
        simp only [Act.put, Xa, Xz, Xs]
        refine wl_val (.int .i64 ((i + 1 : Nat) : Int)) rfl (fun _ => rfl) ?_
        simp only [Act.put, Xa, Xz, Xs]
        refine wl_nil ?_
        exact we_meet ⟨(i + 1), o2, O2, on2, v, M, mn, N1, _, _, _, _, _, _, _, _, _, _, _, _, _, _, _, _, _, _, _, _, _, _, _, _, _, _, _, _, _, _, _, _, _, _, _, _, _, _, _, _, _, _, _, _, _, _, _, _, _, _, _, _, _, _, _, _, _, _, _, _, _, _, _, _, _, _, _, _, _, _, _, _, _, _, _, _⟩ (by (try dsimp only); have lv0 : Lev G f hi lo (xs T0) n (xs O2) ((T[i]!).X :: (xs T).drop (i + 1)) (xs M) := xs_drop (show i < T.length by omega) ▸ b6; exact ⟨⟨by omega, b2, b3, b4, b5, lev_drop lv0 (stop_iff.2 (.inl p11)) (by omega), b7, b8, b9, b10, by omega⟩, by omega⟩) rfl (List.Sublist.cons_cons _ (List.Sublist.cons_cons _ (List.Sublist.cons_cons _ (List.Sublist.cons_cons _ (List.Sublist.append_left (List.Sublist.append_left (List.Sublist.refl _) _) _)))))
       ·
        skip
        have p25 : 16 < (on2 : Int) := of_decide_eq_true h25
        refine wc_true rfl ?_
        refine wc_seq ?_
        refine wc_region ?_
        refine wl_val (.agg #[.int .i64 0, .slice none 0 0]) rfl (fun _ => by go_simp) ?_
        simp only [Act.put, Xa, Xz, Xs]
        refine wl_store 1 42 (.tmp 8) (.tmp 86) (#[.int .i64 0, .slice none 0 0]) rfl rfl rfl rfl rfl (by kernel_rfl) rfl (by simp [Value.oneCell']) ?_
        simp only [Act.put, List.set_cons_zero, List.set_cons_succ]
        refine wl_val (.int .i64 13) rfl (fun _ => rfl) ?_
        simp only [Act.put, Xa, Xz, Xs]
        refine wl_nil ?_
        refine we_then ?_
        refine wc_ret ?_
        refine we_then_ret ?_
        refine we_then_ret ?_
        refine we_in_ret ?_
        refine we_then_ret ?_
        refine we_then_ret ?_
        refine we_in_ret ?_
        refine we_then_ret ?_
        refine we_in_ret ?_
        refine we_then_ret ?_
        refine we_then_ret ?_
        refine we_in_ret ?_
        refine we_then_ret ?_
        refine we_ret_cell_tmp (.int .i64 13) (own_row 1 rfl) rfl rfl rfl rfl Try.underlying42 rfl (by kernel_rfl) (fun w1 hE => ?_)
        exact (by exfalso; omega)
      ·
       skip
       have p24 : lo ≤ (endR G f (T[i]!).X) := of_decide_eq_true h24
       refine wc_true rfl ?_
       refine wc_region ?_
       refine wl_val (.pointer (some ⟨g6, 1, none⟩)) rfl (fun _ => by go_simp) ?_
       simp only [Act.put, Xa, Xz, Xs]
       refine wl_cell 40 (.tmp 77) (.slice o2.ptr on2 o2.cap) (own_row 0 rfl) rfl rfl rfl rfl Try.isAgg40 ?_
       simp only [Act.put, Xa, Xz, Xs]
       refine wl_val (.slice ((T[i]!).p) ((T[i]!).X.length) ((T[i]!).c)) rfl (fun _ => rfl) ?_
       simp only [Act.put, Xa, Xz, Xs]
       refine wl_call_own (ι := Own) (e := 63) [⟨g6, #[.int .i64 f, .slice o2.ptr on2 o2.cap], 42⟩, ⟨g3, #[.int .i64 0, .slice none 0 0], 42⟩, ⟨g2, #[.int .i64 f, .slice tp T0.length tc], 42⟩, ⟨g1, #[.slice p G.length c, .slice q H.length d], 50⟩] (o2.rows 63 ++ (v.rows 63 ++ N1)) 47 #[.slice o2.ptr on2 o2.cap, .slice ((T[i]!).p) ((T[i]!).X.length) ((T[i]!).c)] (fun s => .slice s.ptr (ins ltI (T[i]!) O2).length s.cap) (fun s => s) (fun s => s.Has 1 (ins ltI (T[i]!) O2).length (flat ix (ins ltI (T[i]!) O2))) rfl rfl (fun _ => by go_simp) (fun W hE => put_len O2 (T[i]!) _ _ _ W b2 ((sl_own [⟨g6, #[.int .i64 f, .slice o2.ptr on2 o2.cap], 42⟩, ⟨g3, #[.int .i64 0, .slice none 0 0], 42⟩, ⟨g2, #[.int .i64 f, .slice tp T0.length tc], 42⟩, ⟨g1, #[.slice p G.length c, .slice q H.length d], 50⟩] (v.rows 63 ++ N1) b3 rfl) W hE) (mem_ok hO b8 (List.Sublist.cons _ (List.Sublist.cons _ (List.Sublist.cons _ (List.Sublist.cons _ (List.sublist_append_of_sublist_right (List.sublist_append_of_sublist_right (List.Sublist.refl _))))))) hE) ((sl_std (mem_std hO b7 (i := i) (by omega)) (List.Sublist.cons _ (List.Sublist.cons _ (List.Sublist.cons _ (List.Sublist.cons _ (List.sublist_append_of_sublist_right (List.sublist_append_of_sublist_right (List.Sublist.refl _)))))))) W hE) (by omega) (by omega)) ?_
       rintro s26 hs26
       simp only [List.cons_append, List.nil_append, Act.put, Xa, Xz, Xs]
       refine wl_val (.pointer (some ⟨g6, 1, none⟩)) rfl (fun _ => by go_simp) ?_
       simp only [Act.put, Xa, Xz, Xs]
       refine wl_store_cell 0 40 (.tmp 81) (.tmp 80) (.slice o2.ptr on2 o2.cap) (.slice s26.ptr ((ins ltI (T[i]!) O2).length) s26.cap) rfl rfl rfl rfl rfl rfl (by kernel_rfl) rfl ?_
       simp only [Act.put, List.set_cons_zero]
       refine wl_nil ?_
       refine we_then ?_
       refine wc_seq ?_
       refine wc_seq ?_
       refine wc_region ?_
       refine wl_val (.pointer (some ⟨g6, 1, none⟩)) rfl (fun _ => by go_simp) ?_
       simp only [Act.put, Xa, Xz, Xs]
       refine wl_cell 40 (.tmp 82) (.slice s26.ptr ((ins ltI (T[i]!) O2).length) s26.cap) (own_row 0 rfl) rfl rfl rfl rfl Try.isAgg40 ?_
       simp only [Act.put, Xa, Xz, Xs]
       refine wl_val (.int .i64 (((ins ltI (T[i]!) O2).length : Nat) : Int)) rfl (fun w => er_len rfl rfl Try.underlying40 w) ?_
       simp only [Act.put, Xa, Xz, Xs]
       refine wl_val (.bool (decide (16 < (((ins ltI (T[i]!) O2).length : Nat) : Int)))) rfl (fun w => run_cmp rfl rfl rfl Try.underlying3 rfl w) ?_
       simp only [Act.put, Xa, Xz, Xs]
       refine wl_nil ?_
       refine we_then ?_
       cases h27 : (decide (16 < (((ins ltI (T[i]!) O2).length : Nat) : Int)))
       ·
        skip
        have p27 : ¬ (16 < (((ins ltI (T[i]!) O2).length : Nat) : Int)) := of_decide_eq_false h27
        refine wc_false rfl ?_
        refine wc_skip ?_
        refine we_then ?_
        refine wc_exit ?_
        refine we_then_exit ?_
        refine we_in_here ?_
        refine we_then ?_
        refine wc_region ?_
        refine wl_val (.int .i64 (i : Int)) rfl (fun _ => rfl) ?_
        simp only [Act.put, Xa, Xz, Xs]
        refine wl_val (.int .i64 ((i + 1 : Nat) : Int)) rfl (fun w => run_nat (X := i) (Y := 1) (Z := i + 1) rfl rfl rfl rfl (by omega) w) ?_
        simp only [Act.put, Xa, Xz, Xs]
        refine wl_val (.int .i64 ((i + 1 : Nat) : Int)) rfl (fun _ => rfl) ?_
        simp only [Act.put, Xa, Xz, Xs]
        refine wl_nil ?_
        exact we_meet ⟨(i + 1), s26, (ins ltI (T[i]!) O2), (ins ltI (T[i]!) O2).length, v, M, mn, N1, _, _, _, _, _, _, _, _, _, _, _, _, _, _, _, _, _, _, _, _, _, _, _, _, _, _, _, _, _, _, _, _, _, _, _, _, _, _, _, _, _, _, _, _, _, _, _, _, _, _, _, _, _, _, _, _, _, _, _, _, _, _, _, _, _, _, _, _, _, _, _, _, _, _, _, _⟩ (by (try dsimp only); have lv0 : Lev G f hi lo (xs T0) n (xs O2) ((T[i]!).X :: (xs T).drop (i + 1)) (xs M) := xs_drop (show i < T.length by omega) ▸ b6; have le := congrArg List.length (insI_map (T[i]!) O2); rw [List.length_map] at le; exact ⟨⟨by omega, rfl, hs26, b4, b5, (by rw [show xs (ins ltI (T[i]!) O2) = ins ltB (T[i]!).X (xs O2) from insI_map _ _]; exact lev_put lv0 (stop_iff.2 (.inl p11)) (by omega) (by rw [← le]; omega)), b7, mem_ins b8 b7 (get_mem (by omega)), b9, b10, by omega⟩, by omega⟩) rfl (List.Sublist.cons_cons _ (List.Sublist.cons_cons _ (List.Sublist.cons_cons _ (List.Sublist.cons_cons _ (List.Sublist.append_left (List.sublist_append_of_sublist_right (List.Sublist.append_left (List.Sublist.refl _) _)) _)))))
       ·
        skip
        have p27 : 16 < (((ins ltI (T[i]!) O2).length : Nat) : Int) := of_decide_eq_true h27
        refine wc_true rfl ?_
        refine wc_seq ?_
        refine wc_region ?_
        refine wl_val (.agg #[.int .i64 0, .slice none 0 0]) rfl (fun _ => by go_simp) ?_
        simp only [Act.put, Xa, Xz, Xs]
        refine wl_store 1 42 (.tmp 8) (.tmp 86) (#[.int .i64 0, .slice none 0 0]) rfl rfl rfl rfl rfl (by kernel_rfl) rfl (by simp [Value.oneCell']) ?_
        simp only [Act.put, List.set_cons_zero, List.set_cons_succ]
        refine wl_val (.int .i64 13) rfl (fun _ => rfl) ?_
        simp only [Act.put, Xa, Xz, Xs]
        refine wl_nil ?_
        refine we_then ?_
        refine wc_ret ?_
        refine we_then_ret ?_
        refine we_then_ret ?_
        refine we_in_ret ?_
        refine we_then_ret ?_
        refine we_then_ret ?_
        refine we_in_ret ?_
        refine we_then_ret ?_
        refine we_in_ret ?_
        refine we_then_ret ?_
        refine we_then_ret ?_
        refine we_in_ret ?_
        refine we_then_ret ?_
        refine we_ret_cell_tmp (.int .i64 13) (own_row 1 rfl) rfl rfl rfl rfl Try.underlying42 rfl (by kernel_rfl) (fun w1 hE => ?_)
        have lv0 : Lev G f hi lo (xs T0) n (xs O2) ((T[i]!).X :: (xs T).drop (i + 1)) (xs M) := xs_drop (show i < T.length by omega) ▸ b6
        have le := congrArg List.length (insI_map (T[i]!) O2)
        rw [List.length_map] at le
        exact ⟨⟨13, 0, none, [], 0, []⟩, gz_err (lev_many lv0 (stop_iff.2 (.inl p11)) (by omega) (by rw [← le]; omega) (by omega)) (by decide), rfl, hE.sub (List.nil_sublist _)⟩
  ·
   skip
   have p5 : lo < (-f) := of_decide_eq_true h5
   refine wc_true rfl ?_
   refine wc_seq ?_
   refine wc_region ?_
   refine wl_val (.agg #[.int .i64 0, .slice none 0 0]) rfl (fun _ => by go_simp) ?_
   simp only [Act.put, Xa, Xz, Xs]
   refine wl_store 0 42 (.tmp 8) (.tmp 30) (#[.int .i64 0, .slice none 0 0]) rfl rfl rfl rfl rfl (by kernel_rfl) rfl (by simp [Value.oneCell']) ?_
   simp only [Act.put, List.set_cons_zero]
   refine wl_val (.int .i64 40) rfl (fun _ => rfl) ?_
   simp only [Act.put, Xa, Xz, Xs]
   refine wl_nil ?_
   refine we_then ?_
   refine wc_ret ?_
   refine we_then_ret ?_
   refine we_ret_cell_tmp (.int .i64 40) (own_row 0 rfl) rfl rfl rfl rfl Try.underlying42 rfl (by kernel_rfl) (fun w1 hE => ?_)
   exact ⟨⟨40, 0, none, [], 0, []⟩, gz_err (grow_off (by omega)) (by decide), rfl, hE.sub (List.nil_sublist _)⟩
 ·
  skip
  have p4 : hi < lo := of_decide_eq_true h4
  refine wl_skip rfl ?_
  simp only [Act.put, Xa, Xz, Xs]
  refine wl_skip rfl ?_
  simp only [Act.put, Xa, Xz, Xs]
  refine wl_skip rfl ?_
  simp only [Act.put, Xa, Xz, Xs]
  refine wl_skip rfl ?_
  simp only [Act.put, Xa, Xz, Xs]
  refine wl_skip rfl ?_
  simp only [Act.put, Xa, Xz, Xs]
  refine wl_val (.bool true) rfl (fun _ => rfl) ?_
  simp only [Act.put, Xa, Xz, Xs]
  refine wl_nil ?_
  refine we_then ?_
  refine wc_true rfl ?_
  refine wc_seq ?_
  refine wc_region ?_
  refine wl_val (.agg #[.int .i64 0, .slice none 0 0]) rfl (fun _ => by go_simp) ?_
  simp only [Act.put, Xa, Xz, Xs]
  refine wl_store 0 42 (.tmp 8) (.tmp 30) (#[.int .i64 0, .slice none 0 0]) rfl rfl rfl rfl rfl (by kernel_rfl) rfl (by simp [Value.oneCell']) ?_
  simp only [Act.put, List.set_cons_zero]
  refine wl_val (.int .i64 40) rfl (fun _ => rfl) ?_
  simp only [Act.put, Xa, Xz, Xs]
  refine wl_nil ?_
  refine we_then ?_
  refine wc_ret ?_
  refine we_then_ret ?_
  refine we_ret_cell_tmp (.int .i64 40) (own_row 0 rfl) rfl rfl rfl rfl Try.underlying42 rfl (by kernel_rfl) (fun w1 hE => ?_)
  exact ⟨⟨40, 0, none, [], 0, []⟩, gz_err (grow_off (by omega)) (by decide), rfl, hE.sub (List.nil_sublist _)⟩
end Go.Proofs.Ytbacchdkankioaa.Rtgrow
