/-
 The helpers of layer 11's laws: a track as the document has it (a copy, its pieces in an open number of rows); is it too great.
-/
import Derived.Test.YtkbaponpebkpiaaMtk
namespace Go.Proofs.Ytkbaponpebkpiaa.Tkrefs14
open Go.ChangeShapes Go.WideShapes Go.ChangeAt Go.RowKit
open Arr Steady Sx Sw Sl Sb Sc Sh Vs Gr Tk Tkh
set_option linter.unusedVariables false
set_option linter.unusedSimpArgs false
set_option maxRecDepth 100000

set_option maxHeartbeats 6000000 in
theorem refs_any (G : List Sg) (H : List Gp) (p q : Option Addr) (c d : Nat) (w : World) (hS : Reads w p (flat sg G)) (hG : OkS w G) (hH : Reads w q (flat gp H)) (hn : G.length + H.length ≤ 800) (hf : ∀ j, j < G.length → (G[j]!).P.length ≤ 100 ∧ (G[j]!).X.length ≤ 100) :
  Calls Try.prog 12 #[.agg #[.slice p G.length c, .slice q H.length d]] w fun e w' => ∃ (K : List Sg) (s v : Own) (M : List Rw), K.length = G.length ∧ s.Has 3 G.length (flat sg K) ∧ v.Has 5 H.length (flat gp H) ∧ (∀ j, j < G.length → Copy M (G[j]!) (K[j]!)) ∧ e = .returned (.agg #[.slice s.ptr G.length s.cap, .slice v.ptr H.length v.cap]) ∧ Env w w' (s.rows 81 ++ (v.rows 85 ++ M)) := by
 refine calls_sx Try.func12 rfl ?_
 simp only [Try.ntmps12, List.size_toArray, List.length_cons, List.length_nil, Nat.reduceAdd, Nat.reduceSub, Array.replicate_succ, Array.replicate_zero, List.push_toArray, List.append_toArray, List.nil_append, List.cons_append]
 refine wc_seq ?_
 refine wc_region ?_
 refine wl_new 25 (#[.slice p G.length c, .slice q H.length d]) rfl (fun _ => by go_simp) ?_
 intro g1
 simp only [Act.put, Xa, Xz, Xs]
 refine wl_new 45 (#[.slice none 0 0, .slice none 0 0]) rfl (fun _ => by go_simp) ?_
 intro g2
 simp only [Act.put, Xa, Xz, Xs]
 refine wl_nil ?_
 refine we_then ?_
 refine wc_seq ?_
 refine wc_region ?_
 refine wl_new 45 (#[.slice none 0 0, .slice none 0 0]) rfl (fun _ => by go_simp) ?_
 intro g3
 simp only [Act.put, Xa, Xz, Xs]
 refine wl_nil ?_
 refine we_then ?_
 refine wc_seq ?_
 refine wc_seq ?_
 refine wc_region ?_
 refine wl_val (.pointer (some ⟨g1, 0, none⟩)) rfl (fun _ => by go_simp) ?_
 simp only [Act.put, Xa, Xz, Xs]
 refine wl_cell 22 (.tmp 11) (.slice p G.length c) (own_row 2 rfl) rfl rfl rfl rfl Try.isAgg22 ?_
 simp only [Act.put, Xa, Xz, Xs]
 refine wl_val (.int .i64 (G.length : Int)) rfl (fun w => er_len rfl rfl Try.underlying22 w) ?_
 simp only [Act.put, Xa, Xz, Xs]
 refine wl_val (.int .i64 0) rfl (fun _ => rfl) ?_
 simp only [Act.put, Xa, Xz, Xs]
 refine wl_nil ?_
 refine we_then ?_
 refine wc_block ?_
 refine wc_loop (fun (zz : Nat × Own × List Rw × List Sg × Value × Value × Value × Value × Value × Value × Value × Value × Value × Value × Value × Value × Value × Value × Value × Value × Value × Value × Value × Value × Value × Value × Value × Value × Value × Value × Value × Value × Value × Value × Value × Value × Value × Value × Value × Value) => match zz with | ⟨i, s, M, K, u5, u6, u8, u15, u16, u17, u18, u19, u20, u21, u22, u23, u24, u25, u26, u27, u28, u29, u30, u31, u32, u33, u34, u35, u36, u37, u38, u39, u40, u41, u42, u43, u44, u45, u46, u47⟩ => ({ tmps := #[.agg #[.slice p G.length c, .slice q H.length d], .pointer (some ⟨g1, 0, none⟩), .pointer (some ⟨g2, 0, none⟩), .pointer (some ⟨g3, 0, none⟩), undef, u5, u6, undef, u8, undef, undef, .pointer (some ⟨g1, 0, none⟩), .slice p G.length c, .int .i64 (G.length : Int), .int .i64 (i : Int), u15, u16, u17, u18, u19, u20, u21, u22, u23, u24, u25, u26, u27, u28, u29, u30, u31, u32, u33, u34, u35, u36, u37, u38, u39, u40, u41, u42, u43, u44, u45, u46, u47, undef, undef, undef, undef, undef, undef, undef, undef, undef, undef, undef, undef, undef, undef, undef], defers := [] } : Act)) (fun (zz : Nat × Own × List Rw × List Sg × Value × Value × Value × Value × Value × Value × Value × Value × Value × Value × Value × Value × Value × Value × Value × Value × Value × Value × Value × Value × Value × Value × Value × Value × Value × Value × Value × Value × Value × Value × Value × Value × Value × Value × Value × Value) => match zz with | ⟨i, s, M, K, u5, u6, u8, u15, u16, u17, u18, u19, u20, u21, u22, u23, u24, u25, u26, u27, u28, u29, u30, u31, u32, u33, u34, u35, u36, u37, u38, u39, u40, u41, u42, u43, u44, u45, u46, u47⟩ => ⟨g3, #[.slice s.ptr i s.cap, .slice none 0 0], 45⟩ :: ⟨g2, #[.slice none 0 0, .slice none 0 0], 45⟩ :: ⟨g1, #[.slice p G.length c, .slice q H.length d], 25⟩ :: (s.rows 81 ++ M)) (fun (zz : Nat × Own × List Rw × List Sg × Value × Value × Value × Value × Value × Value × Value × Value × Value × Value × Value × Value × Value × Value × Value × Value × Value × Value × Value × Value × Value × Value × Value × Value × Value × Value × Value × Value × Value × Value × Value × Value × Value × Value × Value × Value) => match zz with | ⟨i, s, M, K, u5, u6, u8, u15, u16, u17, u18, u19, u20, u21, u22, u23, u24, u25, u26, u27, u28, u29, u30, u31, u32, u33, u34, u35, u36, u37, u38, u39, u40, u41, u42, u43, u44, u45, u46, u47⟩ => i ≤ G.length ∧ s.Has 3 i (flat sg K) ∧ K.length = i ∧ ∀ j, j < i → Copy M (G[j]!) (K[j]!)) (fun (zz : Nat × Own × List Rw × List Sg × Value × Value × Value × Value × Value × Value × Value × Value × Value × Value × Value × Value × Value × Value × Value × Value × Value × Value × Value × Value × Value × Value × Value × Value × Value × Value × Value × Value × Value × Value × Value × Value × Value × Value × Value × Value) => match zz with | ⟨i, s, M, K, u5, u6, u8, u15, u16, u17, u18, u19, u20, u21, u22, u23, u24, u25, u26, u27, u28, u29, u30, u31, u32, u33, u34, u35, u36, u37, u38, u39, u40, u41, u42, u43, u44, u45, u46, u47⟩ => G.length - i) ⟨0, Own.none, [], [], _, _, _, _, _, _, _, _, _, _, _, _, _, _, _, _, _, _, _, _, _, _, _, _, _, _, _, _, _, _, _, _, _, _, _, _⟩ ⟨Nat.zero_le _, Own.has_none 3, rfl, fun j hj => absurd hj (Nat.not_lt_zero j)⟩ rfl (List.Sublist.cons_cons _ (List.Sublist.cons_cons _ (List.Sublist.cons_cons _ List.Sublist.slnil))) ?_
 rintro ⟨i, s, M, K, u5, u6, u8, u15, u16, u17, u18, u19, u20, u21, u22, u23, u24, u25, u26, u27, u28, u29, u30, u31, u32, u33, u34, u35, u36, u37, u38, u39, u40, u41, u42, u43, u44, u45, u46, u47⟩ hφ
 (try dsimp only at hφ ⊢)
 obtain ⟨b1, b2, b3, b4⟩ := hφ
 refine wc_seq ?_
 refine wc_region ?_
 refine wl_val (.bool (decide ((i : Int) < (G.length : Int)))) rfl (fun w => run_cmp rfl rfl rfl Try.underlying3 rfl w) ?_
 simp only [Act.put, Xa, Xz, Xs]
 refine wl_nil ?_
 refine we_then ?_
 refine wc_seq ?_
 cases h4 : (decide ((i : Int) < (G.length : Int)))
 ·
  skip
  have p4 : ¬ ((i : Int) < (G.length : Int)) := of_decide_eq_false h4
  refine wc_false rfl ?_
  refine wc_exit ?_
  refine we_then_exit ?_
  refine we_then_exit ?_
  refine we_in_here ?_
  refine we_then ?_
  refine wc_seq ?_
  refine wc_seq ?_
  have e2 : i = G.length := by omega
  subst e2
  refine wc_region ?_
  refine wl_val (.pointer (some ⟨g1, 1, none⟩)) rfl (fun _ => by go_simp) ?_
  simp only [Act.put, Xa, Xz, Xs]
  refine wl_cell 23 (.tmp 48) (.slice q H.length d) (own_row 2 rfl) rfl rfl rfl rfl Try.isAgg23 ?_
  simp only [Act.put, Xa, Xz, Xs]
  refine wl_val (.int .i64 (H.length : Int)) rfl (fun w => er_len rfl rfl Try.underlying23 w) ?_
  simp only [Act.put, Xa, Xz, Xs]
  refine wl_val (.int .i64 0) rfl (fun _ => rfl) ?_
  simp only [Act.put, Xa, Xz, Xs]
  refine wl_nil ?_
  refine we_then ?_
  refine wc_block ?_
  refine wc_loop (fun (zz : Nat × Own × Value × Value × Value × Value × Value × Value × Value × Value × Value × Value × Value) => match zz with | ⟨r, v, u10, u52, u53, u54, u55, u56, u57, u58, u59, u60, u61⟩ => ({ tmps := #[.agg #[.slice p G.length c, .slice q H.length d], .pointer (some ⟨g1, 0, none⟩), .pointer (some ⟨g2, 0, none⟩), .pointer (some ⟨g3, 0, none⟩), undef, u5, u6, undef, u8, undef, u10, .pointer (some ⟨g1, 0, none⟩), .slice p G.length c, .int .i64 (G.length : Int), .int .i64 (G.length : Int), .bool false, u16, u17, u18, u19, u20, u21, u22, u23, u24, u25, u26, u27, u28, u29, u30, u31, u32, u33, u34, u35, u36, u37, u38, u39, u40, u41, u42, u43, u44, u45, u46, u47, .pointer (some ⟨g1, 1, none⟩), .slice q H.length d, .int .i64 (H.length : Int), .int .i64 (r : Int), u52, u53, u54, u55, u56, u57, u58, u59, u60, u61, undef], defers := [] } : Act)) (fun (zz : Nat × Own × Value × Value × Value × Value × Value × Value × Value × Value × Value × Value × Value) => match zz with | ⟨r, v, u10, u52, u53, u54, u55, u56, u57, u58, u59, u60, u61⟩ => ⟨g3, #[.slice s.ptr G.length s.cap, .slice v.ptr r v.cap], 45⟩ :: ⟨g2, #[.slice none 0 0, .slice none 0 0], 45⟩ :: ⟨g1, #[.slice p G.length c, .slice q H.length d], 25⟩ :: (s.rows 81 ++ (v.rows 85 ++ M))) (fun (zz : Nat × Own × Value × Value × Value × Value × Value × Value × Value × Value × Value × Value × Value) => match zz with | ⟨r, v, u10, u52, u53, u54, u55, u56, u57, u58, u59, u60, u61⟩ => r ≤ H.length ∧ v.Has 5 r (flat gp (H.take r))) (fun (zz : Nat × Own × Value × Value × Value × Value × Value × Value × Value × Value × Value × Value × Value) => match zz with | ⟨r, v, u10, u52, u53, u54, u55, u56, u57, u58, u59, u60, u61⟩ => H.length - r) ⟨0, Own.none, _, _, _, _, _, _, _, _, _, _, _⟩ ⟨Nat.zero_le _, Own.has_none 5⟩ rfl (List.Sublist.cons_cons _ (List.Sublist.cons_cons _ (List.Sublist.cons_cons _ (List.Sublist.append_left (List.Sublist.refl _) _)))) ?_
  rintro ⟨r, v, u10, u52, u53, u54, u55, u56, u57, u58, u59, u60, u61⟩ hφ
  (try dsimp only at hφ ⊢)
  obtain ⟨d1, d2⟩ := hφ
  refine wc_seq ?_
  refine wc_region ?_
  refine wl_val (.bool (decide ((r : Int) < (H.length : Int)))) rfl (fun w => run_cmp rfl rfl rfl Try.underlying3 rfl w) ?_
  simp only [Act.put, Xa, Xz, Xs]
  refine wl_nil ?_
  refine we_then ?_
  refine wc_seq ?_
  cases h5 : (decide ((r : Int) < (H.length : Int)))
  ·
   skip
   have p5 : ¬ ((r : Int) < (H.length : Int)) := of_decide_eq_false h5
   refine wc_false rfl ?_
   refine wc_exit ?_
   refine we_then_exit ?_
   refine we_then_exit ?_
   refine we_in_here ?_
   refine we_then ?_
   refine wc_seq ?_
   refine wc_region ?_
   refine wl_load 45 (.tmp 3) (own_row 0 rfl) rfl rfl rfl Try.underlying45 rfl (by kernel_rfl) ?_
   simp only [Act.put, Xa, Xz, Xs]
   refine wl_store 1 45 (.tmp 2) (.tmp 62) (#[.slice s.ptr G.length s.cap, .slice v.ptr r v.cap]) rfl rfl rfl rfl rfl (by kernel_rfl) rfl (by simp [Value.oneCell']) ?_
   simp only [Act.put, List.set_cons_zero, List.set_cons_succ]
   refine wl_nil ?_
   refine we_then ?_
   refine wc_ret ?_
   refine we_ret_cell (own_row 1 rfl) rfl rfl rfl Try.underlying45 rfl (by kernel_rfl) (fun w1 hE => ?_)
   have e3 : r = H.length := by omega
   subst e3
   rw [List.take_length] at d2
   exact ⟨K, s, v, M, b3, b2, d2, b4, rfl, hE.sub (List.Sublist.cons _ (List.Sublist.cons _ (List.Sublist.cons _ (List.Sublist.append_left (List.Sublist.append_left (List.Sublist.refl _) _) _))))⟩
  ·
   skip
   have p5 : (r : Int) < (H.length : Int) := of_decide_eq_true h5
   refine wc_true rfl ?_
   refine wc_skip ?_
   refine we_then ?_
   refine wc_seq ?_
   refine wc_block ?_
   refine wc_seq ?_
   refine wc_region ?_
   refine wl_read (eaddr q (r * 5)) rfl (er_index r 5 (sl_old hH) rfl rfl rfl rfl (by omega) (flat_length (enc := gp) (size := 5) (fun _ => rfl) _) (by decide) Try.underlying23 (by kernel_rfl)) ?_
   simp only [Act.put, Xa, Xz, Xs]
   refine wl_read (.agg #[.int .i64 ((H[r]!).id), .int .i64 ((H[r]!).seg), .int .i64 ((H[r]!).off), .int .i64 ((H[r]!).acc), .int .i64 ((H[r]!).slack)]) rfl (er_part (r * 5) [.int .i64 ((H[r]!).id), .int .i64 ((H[r]!).seg), .int .i64 ((H[r]!).off), .int .i64 ((H[r]!).acc), .int .i64 ((H[r]!).slack)] (sl_old hH) rfl rfl (flat_part (enc := gp) (fun _ => rfl) H r (by omega)) (Nat.zero_lt_succ _) Try.underlying84 rfl (by kernel_rfl)) ?_
   simp only [Act.put, Xa, Xz, Xs]
   refine wl_new 84 (#[.int .i64 0, .int .i64 0, .int .i64 0, .int .i64 0, .int .i64 0]) rfl (fun _ => by go_simp) ?_
   intro g6
   simp only [Act.put, Xa, Xz, Xs]
   refine wl_store 0 84 (.tmp 10) (.tmp 54) (#[.int .i64 ((H[r]!).id), .int .i64 ((H[r]!).seg), .int .i64 ((H[r]!).off), .int .i64 ((H[r]!).acc), .int .i64 ((H[r]!).slack)]) rfl rfl rfl rfl rfl (by kernel_rfl) rfl (by simp [Value.oneCell']) ?_
   simp only [Act.put, List.set_cons_zero]
   refine wl_nil ?_
   refine we_then ?_
   refine wc_region ?_
   refine wl_val (.pointer (some ⟨g3, 1, none⟩)) rfl (fun _ => by go_simp) ?_
   simp only [Act.put, Xa, Xz, Xs]
   refine wl_cell 43 (.tmp 55) (.slice v.ptr r v.cap) (own_row 1 rfl) rfl rfl rfl rfl Try.isAgg43 ?_
   simp only [Act.put, Xa, Xz, Xs]
   refine wl_load 84 (.tmp 10) (own_row 0 rfl) rfl rfl rfl Try.underlying84 rfl (by kernel_rfl) ?_
   simp only [Act.put, Xa, Xz, Xs]
   refine wl_lit (e := 85) #[.int .i64 ((H[r]!).id), .int .i64 ((H[r]!).seg), .int .i64 ((H[r]!).off), .int .i64 ((H[r]!).acc), .int .i64 ((H[r]!).slack)] 1 rfl (fun _ => by go_simp) ?_
   intro g7
   simp only [Act.put, Xa, Xz, Xs]
   refine wl_append (e := 85) (size := 5) (bytes := 40) (m := 1) ([⟨g7, #[.int .i64 ((H[r]!).id), .int .i64 ((H[r]!).seg), .int .i64 ((H[r]!).off), .int .i64 ((H[r]!).acc), .int .i64 ((H[r]!).slack)], 85⟩, ⟨g6, #[.int .i64 ((H[r]!).id), .int .i64 ((H[r]!).seg), .int .i64 ((H[r]!).off), .int .i64 ((H[r]!).acc), .int .i64 ((H[r]!).slack)], 84⟩, ⟨g3, #[.slice s.ptr G.length s.cap, .slice v.ptr r v.cap], 45⟩, ⟨g2, #[.slice none 0 0, .slice none 0 0], 45⟩, ⟨g1, #[.slice p G.length c, .slice q H.length d], 25⟩] ++ (s.rows 81 ++ [])) M v (ys := [.int .i64 ((H[r]!).id), .int .i64 ((H[r]!).seg), .int .i64 ((H[r]!).off), .int .i64 ((H[r]!).acc), .int .i64 ((H[r]!).slack)]) (by simp) d2 (sl_row 0 rfl) rfl (by simp [Value.oneCell']) rfl rfl rfl rfl Try.underlying43 (by unfold Elem; kernel_rfl) (by decide) (by unfold maxLen; omega) (by omega) ?_
   intro s8 hs8
   simp only [List.append_assoc, List.cons_append, List.nil_append, Act.put, Xa, Xz, Xs]
   refine wl_val (.pointer (some ⟨g3, 1, none⟩)) rfl (fun _ => by go_simp) ?_
   simp only [Act.put, Xa, Xz, Xs]
   refine wl_store_cell 2 43 (.tmp 60) (.tmp 59) (.slice v.ptr r v.cap) (.slice s8.ptr (r + 1) s8.cap) rfl rfl rfl rfl rfl rfl (by kernel_rfl) rfl ?_
   simp only [Act.put, List.set_cons_zero, List.set_cons_succ]
   refine wl_nil ?_
   refine we_in ?_
   refine we_then ?_
   refine wc_region ?_
   refine wl_val (.int .i64 ((r + 1 : Nat) : Int)) rfl (fun w => run_nat (X := r) (Y := 1) (Z := r + 1) rfl rfl rfl rfl (by omega) w) ?_
   simp only [Act.put, Xa, Xz, Xs]
   refine wl_val (.int .i64 ((r + 1 : Nat) : Int)) rfl (fun _ => rfl) ?_
   simp only [Act.put, Xa, Xz, Xs]
   refine wl_nil ?_
   exact we_meet ⟨(r + 1), s8, _, _, _, _, _, _, _, _, _, _, _⟩ (by (try dsimp only); exact ⟨⟨by omega, by rw [take_snoc H r (by omega)]; exact has_snoc hs8⟩, by omega⟩) rfl (List.Sublist.cons _ (List.Sublist.cons _ (List.Sublist.cons_cons _ (List.Sublist.cons_cons _ (List.Sublist.cons_cons _ (List.Sublist.append_left (List.Sublist.append_left (List.Sublist.refl _) _) _))))))
 ·
  skip
  have p4 : (i : Int) < (G.length : Int) := of_decide_eq_true h4
  refine wc_true rfl ?_
  refine wc_skip ?_
  refine we_then ?_
  refine wc_seq ?_
  refine wc_block ?_
  refine wc_seq ?_
  refine wc_region ?_
  refine wl_read (eaddr p (i * 3)) rfl (er_index i 3 (sl_old hS) rfl rfl rfl rfl (by omega) (flat_length (enc := sg) (size := 3) (fun _ => rfl) _) (by decide) Try.underlying22 (by kernel_rfl)) ?_
  simp only [Act.put, Xa, Xz, Xs]
  refine wl_read (.agg #[.int .i64 ((G[i]!).len), .slice ((G[i]!).pp) ((G[i]!).P.length) ((G[i]!).pc), .slice ((G[i]!).np) ((G[i]!).X.length) ((G[i]!).nc)]) rfl (er_part (i * 3) [.int .i64 ((G[i]!).len), .slice ((G[i]!).pp) ((G[i]!).P.length) ((G[i]!).pc), .slice ((G[i]!).np) ((G[i]!).X.length) ((G[i]!).nc)] (sl_old hS) rfl rfl (flat_part (enc := sg) (fun _ => rfl) G i (by omega)) (Nat.zero_lt_succ _) Try.underlying62 rfl (by kernel_rfl)) ?_
  simp only [Act.put, Xa, Xz, Xs]
  refine wl_new 62 (#[.int .i64 0, .slice none 0 0, .slice none 0 0]) rfl (fun _ => by go_simp) ?_
  intro g9
  simp only [Act.put, Xa, Xz, Xs]
  refine wl_store 0 62 (.tmp 5) (.tmp 17) (#[.int .i64 ((G[i]!).len), .slice ((G[i]!).pp) ((G[i]!).P.length) ((G[i]!).pc), .slice ((G[i]!).np) ((G[i]!).X.length) ((G[i]!).nc)]) rfl rfl rfl rfl rfl (by kernel_rfl) rfl (by simp [Value.oneCell']) ?_
  simp only [Act.put, List.set_cons_zero]
  refine wl_nil ?_
  refine we_then ?_
  refine wc_seq ?_
  refine wc_region ?_
  refine wl_val (.pointer (some ⟨g9, 0, none⟩)) rfl (fun _ => by go_simp) ?_
  simp only [Act.put, Xa, Xz, Xs]
  refine wl_cell 2 (.tmp 18) (.int .i64 ((G[i]!).len)) (own_row 0 rfl) rfl rfl rfl rfl Try.isAgg2 ?_
  simp only [Act.put, Xa, Xz, Xs]
  refine wl_val (.pointer (some ⟨g9, 2, none⟩)) rfl (fun _ => by go_simp) ?_
  simp only [Act.put, Xa, Xz, Xs]
  refine wl_cell 47 (.tmp 20) (.slice ((G[i]!).np) ((G[i]!).X.length) ((G[i]!).nc)) (own_row 0 rfl) rfl rfl rfl rfl Try.isAgg47 ?_
  simp only [Act.put, Xa, Xz, Xs]
  refine wl_val (.agg #[.int .i64 ((G[i]!).len), .slice none 0 0, .slice ((G[i]!).np) ((G[i]!).X.length) ((G[i]!).nc)]) rfl (fun _ => by go_simp) ?_
  simp only [Act.put, Xa, Xz, Xs]
  refine wl_new 81 (#[.int .i64 0, .slice none 0 0, .slice none 0 0]) rfl (fun _ => by go_simp) ?_
  intro g10
  simp only [Act.put, Xa, Xz, Xs]
  refine wl_store 0 81 (.tmp 6) (.tmp 22) (#[.int .i64 ((G[i]!).len), .slice none 0 0, .slice ((G[i]!).np) ((G[i]!).X.length) ((G[i]!).nc)]) rfl rfl rfl rfl rfl (by kernel_rfl) rfl (by simp [Value.oneCell']) ?_
  simp only [Act.put, List.set_cons_zero]
  refine wl_nil ?_
  refine we_then ?_
  refine wc_seq ?_
  refine wc_seq ?_
  have fw := hf i (by omega)
  refine wc_region ?_
  refine wl_val (.pointer (some ⟨g9, 1, none⟩)) rfl (fun _ => by go_simp) ?_
  simp only [Act.put, Xa, Xz, Xs]
  refine wl_cell 60 (.tmp 23) (.slice ((G[i]!).pp) ((G[i]!).P.length) ((G[i]!).pc)) (own_row 1 rfl) rfl rfl rfl rfl Try.isAgg60 ?_
  simp only [Act.put, Xa, Xz, Xs]
  refine wl_val (.int .i64 (((G[i]!).P.length : Nat) : Int)) rfl (fun w => er_len rfl rfl Try.underlying60 w) ?_
  simp only [Act.put, Xa, Xz, Xs]
  refine wl_val (.int .i64 0) rfl (fun _ => rfl) ?_
  simp only [Act.put, Xa, Xz, Xs]
  refine wl_nil ?_
  refine we_then ?_
  refine wc_block ?_
  refine wc_loop (fun (zz : Nat × Own × Value × Value × Value × Value × Value × Value × Value × Value × Value × Value × Value × Value × Value × Value × Value) => match zz with | ⟨j, u, u8, u27, u28, u29, u30, u31, u32, u33, u34, u35, u36, u37, u38, u39, u40⟩ => ({ tmps := #[.agg #[.slice p G.length c, .slice q H.length d], .pointer (some ⟨g1, 0, none⟩), .pointer (some ⟨g2, 0, none⟩), .pointer (some ⟨g3, 0, none⟩), undef, .pointer (some ⟨g9, 0, none⟩), .pointer (some ⟨g10, 0, none⟩), undef, u8, undef, undef, .pointer (some ⟨g1, 0, none⟩), .slice p G.length c, .int .i64 (G.length : Int), .int .i64 (i : Int), .bool true, eaddr p (i * 3), .agg #[.int .i64 ((G[i]!).len), .slice ((G[i]!).pp) ((G[i]!).P.length) ((G[i]!).pc), .slice ((G[i]!).np) ((G[i]!).X.length) ((G[i]!).nc)], .pointer (some ⟨g9, 0, none⟩), .int .i64 ((G[i]!).len), .pointer (some ⟨g9, 2, none⟩), .slice ((G[i]!).np) ((G[i]!).X.length) ((G[i]!).nc), .agg #[.int .i64 ((G[i]!).len), .slice none 0 0, .slice ((G[i]!).np) ((G[i]!).X.length) ((G[i]!).nc)], .pointer (some ⟨g9, 1, none⟩), .slice ((G[i]!).pp) ((G[i]!).P.length) ((G[i]!).pc), .int .i64 (((G[i]!).P.length : Nat) : Int), .int .i64 (j : Int), u27, u28, u29, u30, u31, u32, u33, u34, u35, u36, u37, u38, u39, u40, u41, u42, u43, u44, u45, u46, u47, undef, undef, undef, undef, undef, undef, undef, undef, undef, undef, undef, undef, undef, undef, undef], defers := [] } : Act)) (fun (zz : Nat × Own × Value × Value × Value × Value × Value × Value × Value × Value × Value × Value × Value × Value × Value × Value × Value) => match zz with | ⟨j, u, u8, u27, u28, u29, u30, u31, u32, u33, u34, u35, u36, u37, u38, u39, u40⟩ => ⟨g10, #[.int .i64 ((G[i]!).len), .slice u.ptr j u.cap, .slice ((G[i]!).np) ((G[i]!).X.length) ((G[i]!).nc)], 81⟩ :: ⟨g9, #[.int .i64 ((G[i]!).len), .slice ((G[i]!).pp) ((G[i]!).P.length) ((G[i]!).pc), .slice ((G[i]!).np) ((G[i]!).X.length) ((G[i]!).nc)], 62⟩ :: ⟨g3, #[.slice s.ptr i s.cap, .slice none 0 0], 45⟩ :: ⟨g2, #[.slice none 0 0, .slice none 0 0], 45⟩ :: ⟨g1, #[.slice p G.length c, .slice q H.length d], 25⟩ :: (s.rows 81 ++ (u.rows 82 ++ M))) (fun (zz : Nat × Own × Value × Value × Value × Value × Value × Value × Value × Value × Value × Value × Value × Value × Value × Value × Value) => match zz with | ⟨j, u, u8, u27, u28, u29, u30, u31, u32, u33, u34, u35, u36, u37, u38, u39, u40⟩ => j ≤ (G[i]!).P.length ∧ u.Has 2 j (flat enc2 ((G[i]!).P.take j))) (fun (zz : Nat × Own × Value × Value × Value × Value × Value × Value × Value × Value × Value × Value × Value × Value × Value × Value × Value) => match zz with | ⟨j, u, u8, u27, u28, u29, u30, u31, u32, u33, u34, u35, u36, u37, u38, u39, u40⟩ => (G[i]!).P.length - j) ⟨0, Own.none, _, _, _, _, _, _, _, _, _, _, _, _, _, _, _⟩ ⟨Nat.zero_le _, Own.has_none 2⟩ rfl (List.Sublist.cons_cons _ (List.Sublist.cons_cons _ (List.Sublist.cons_cons _ (List.Sublist.cons_cons _ (List.Sublist.cons_cons _ (List.Sublist.append_left (List.Sublist.refl _) _)))))) ?_
  rintro ⟨j, u, u8, u27, u28, u29, u30, u31, u32, u33, u34, u35, u36, u37, u38, u39, u40⟩ hφ
  (try dsimp only at hφ ⊢)
  obtain ⟨c1, c2⟩ := hφ
  refine wc_seq ?_
  refine wc_region ?_
  refine wl_val (.bool (decide ((j : Int) < (((G[i]!).P.length : Nat) : Int)))) rfl (fun w => run_cmp rfl rfl rfl Try.underlying3 rfl w) ?_
  simp only [Act.put, Xa, Xz, Xs]
  refine wl_nil ?_
  refine we_then ?_
  refine wc_seq ?_
  cases h11 : (decide ((j : Int) < (((G[i]!).P.length : Nat) : Int)))
  ·
   skip
   have p11 : ¬ ((j : Int) < (((G[i]!).P.length : Nat) : Int)) := of_decide_eq_false h11
   refine wc_false rfl ?_
   refine wc_exit ?_
   refine we_then_exit ?_
   refine we_then_exit ?_
   refine we_in_here ?_
   refine we_then ?_
   have e1 : j = (G[i]!).P.length := by omega
   subst e1
   rw [List.take_length] at c2
   refine wc_region ?_
   refine wl_val (.pointer (some ⟨g3, 0, none⟩)) rfl (fun _ => by go_simp) ?_
   simp only [Act.put, Xa, Xz, Xs]
   refine wl_cell 42 (.tmp 41) (.slice s.ptr i s.cap) (own_row 2 rfl) rfl rfl rfl rfl Try.isAgg42 ?_
   simp only [Act.put, Xa, Xz, Xs]
   refine wl_load 81 (.tmp 6) (own_row 0 rfl) rfl rfl rfl Try.underlying81 rfl (by kernel_rfl) ?_
   simp only [Act.put, Xa, Xz, Xs]
   refine wl_lit (e := 81) #[.int .i64 ((G[i]!).len), .slice u.ptr ((G[i]!).P.length) u.cap, .slice ((G[i]!).np) ((G[i]!).X.length) ((G[i]!).nc)] 1 rfl (fun _ => by go_simp) ?_
   intro g12
   simp only [Act.put, Xa, Xz, Xs]
   refine wl_append (e := 81) (size := 3) (bytes := 56) (m := 1) [⟨g12, #[.int .i64 ((G[i]!).len), .slice u.ptr ((G[i]!).P.length) u.cap, .slice ((G[i]!).np) ((G[i]!).X.length) ((G[i]!).nc)], 81⟩, ⟨g10, #[.int .i64 ((G[i]!).len), .slice u.ptr ((G[i]!).P.length) u.cap, .slice ((G[i]!).np) ((G[i]!).X.length) ((G[i]!).nc)], 81⟩, ⟨g9, #[.int .i64 ((G[i]!).len), .slice ((G[i]!).pp) ((G[i]!).P.length) ((G[i]!).pc), .slice ((G[i]!).np) ((G[i]!).X.length) ((G[i]!).nc)], 62⟩, ⟨g3, #[.slice s.ptr i s.cap, .slice none 0 0], 45⟩, ⟨g2, #[.slice none 0 0, .slice none 0 0], 45⟩, ⟨g1, #[.slice p G.length c, .slice q H.length d], 25⟩] (u.rows 82 ++ M) s (ys := [.int .i64 ((G[i]!).len), .slice u.ptr ((G[i]!).P.length) u.cap, .slice ((G[i]!).np) ((G[i]!).X.length) ((G[i]!).nc)]) rfl b2 (sl_row 0 rfl) rfl (by simp [Value.oneCell']) rfl rfl rfl rfl Try.underlying42 (by unfold Elem; kernel_rfl) (by decide) (by unfold maxLen; omega) (by omega) ?_
   intro s13 hs13
   simp only [List.cons_append, List.nil_append, Act.put, Xa, Xz, Xs]
   refine wl_val (.pointer (some ⟨g3, 0, none⟩)) rfl (fun _ => by go_simp) ?_
   simp only [Act.put, Xa, Xz, Xs]
   refine wl_store_cell 3 42 (.tmp 46) (.tmp 45) (.slice s.ptr i s.cap) (.slice s13.ptr (i + 1) s13.cap) rfl rfl rfl rfl rfl rfl (by kernel_rfl) rfl ?_
   simp only [Act.put, List.set_cons_zero, List.set_cons_succ]
   refine wl_nil ?_
   refine we_in ?_
   refine we_then ?_
   refine wc_region ?_
   refine wl_val (.int .i64 ((i + 1 : Nat) : Int)) rfl (fun w => run_nat (X := i) (Y := 1) (Z := i + 1) rfl rfl rfl rfl (by omega) w) ?_
   simp only [Act.put, Xa, Xz, Xs]
   refine wl_val (.int .i64 ((i + 1 : Nat) : Int)) rfl (fun _ => rfl) ?_
   simp only [Act.put, Xa, Xz, Xs]
   refine wl_nil ?_
   exact we_meet ⟨(i + 1), s13, (u.rows 82 ++ M), (K ++ [⟨(G[i]!).len, u.ptr, (G[i]!).P, u.cap, (G[i]!).np, (G[i]!).X, (G[i]!).nc⟩]), _, _, _, _, _, _, _, _, _, _, _, _, _, _, _, _, _, _, _, _, _, _, _, _, _, _, _, _, _, _, _, _, _, _, _, _⟩ (by (try dsimp only); exact ⟨⟨by omega, has_snoc (x := (⟨(G[i]!).len, u.ptr, (G[i]!).P, u.cap, (G[i]!).np, (G[i]!).X, (G[i]!).nc⟩ : Sg)) hs13, by rw [List.length_append]; simp [b3], copy_snoc b3 b4 _ c2⟩, by omega⟩) rfl (List.Sublist.cons _ (List.Sublist.cons _ (List.Sublist.cons _ (List.Sublist.cons_cons _ (List.Sublist.cons_cons _ (List.Sublist.cons_cons _ (List.Sublist.append_left (List.Sublist.refl _) _)))))))
  ·
   skip
   have p11 : (j : Int) < (((G[i]!).P.length : Nat) : Int) := of_decide_eq_true h11
   refine wc_true rfl ?_
   refine wc_skip ?_
   refine we_then ?_
   refine wc_seq ?_
   refine wc_block ?_
   refine wc_seq ?_
   refine wc_region ?_
   refine wl_read (eaddr ((G[i]!).pp) (j * 2)) rfl (er_index j 2 (sl_old (sg_at hG (by omega)).p) rfl rfl rfl rfl (by omega) (flat_length (enc := enc2) (size := 2) (fun _ => rfl) _) (by decide) Try.underlying60 (by kernel_rfl)) ?_
   simp only [Act.put, Xa, Xz, Xs]
   refine wl_read (.agg #[.int .i64 ((((G[i]!).P)[j]!).1), .int .i64 ((((G[i]!).P)[j]!).2)]) rfl (er_part (j * 2) [.int .i64 ((((G[i]!).P)[j]!).1), .int .i64 ((((G[i]!).P)[j]!).2)] (sl_old (sg_at hG (by omega)).p) rfl rfl (flat_part (enc := enc2) (fun _ => rfl) ((G[i]!).P) j (by omega)) (Nat.zero_lt_succ _) Try.underlying71 rfl (by kernel_rfl)) ?_
   simp only [Act.put, Xa, Xz, Xs]
   refine wl_new 71 (#[.int .i64 0, .int .i64 0]) rfl (fun _ => by go_simp) ?_
   intro g14
   simp only [Act.put, Xa, Xz, Xs]
   refine wl_store 0 71 (.tmp 8) (.tmp 29) (#[.int .i64 ((((G[i]!).P)[j]!).1), .int .i64 ((((G[i]!).P)[j]!).2)]) rfl rfl rfl rfl rfl (by kernel_rfl) rfl (by simp [Value.oneCell']) ?_
   simp only [Act.put, List.set_cons_zero]
   refine wl_nil ?_
   refine we_then ?_
   refine wc_region ?_
   refine wl_val (.pointer (some ⟨g10, 1, none⟩)) rfl (fun _ => by go_simp) ?_
   simp only [Act.put, Xa, Xz, Xs]
   refine wl_cell 79 (.tmp 30) (.slice u.ptr j u.cap) (own_row 1 rfl) rfl rfl rfl rfl Try.isAgg79 ?_
   simp only [Act.put, Xa, Xz, Xs]
   refine wl_val (.pointer (some ⟨g14, 0, none⟩)) rfl (fun _ => by go_simp) ?_
   simp only [Act.put, Xa, Xz, Xs]
   refine wl_cell 2 (.tmp 32) (.int .i64 ((((G[i]!).P)[j]!).1)) (own_row 0 rfl) rfl rfl rfl rfl Try.isAgg2 ?_
   simp only [Act.put, Xa, Xz, Xs]
   refine wl_val (.pointer (some ⟨g14, 1, none⟩)) rfl (fun _ => by go_simp) ?_
   simp only [Act.put, Xa, Xz, Xs]
   refine wl_cell 2 (.tmp 34) (.int .i64 ((((G[i]!).P)[j]!).2)) (own_row 0 rfl) rfl rfl rfl rfl Try.isAgg2 ?_
   simp only [Act.put, Xa, Xz, Xs]
   refine wl_val (.agg #[.int .i64 ((((G[i]!).P)[j]!).1), .int .i64 ((((G[i]!).P)[j]!).2)]) rfl (fun _ => by go_simp) ?_
   simp only [Act.put, Xa, Xz, Xs]
   refine wl_lit (e := 82) #[.int .i64 ((((G[i]!).P)[j]!).1), .int .i64 ((((G[i]!).P)[j]!).2)] 1 rfl (fun _ => by go_simp) ?_
   intro g15
   simp only [Act.put, Xa, Xz, Xs]
   refine wl_append (e := 82) (size := 2) (bytes := 16) (m := 1) ([⟨g15, #[.int .i64 ((((G[i]!).P)[j]!).1), .int .i64 ((((G[i]!).P)[j]!).2)], 82⟩, ⟨g14, #[.int .i64 ((((G[i]!).P)[j]!).1), .int .i64 ((((G[i]!).P)[j]!).2)], 71⟩, ⟨g10, #[.int .i64 ((G[i]!).len), .slice u.ptr j u.cap, .slice ((G[i]!).np) ((G[i]!).X.length) ((G[i]!).nc)], 81⟩, ⟨g9, #[.int .i64 ((G[i]!).len), .slice ((G[i]!).pp) ((G[i]!).P.length) ((G[i]!).pc), .slice ((G[i]!).np) ((G[i]!).X.length) ((G[i]!).nc)], 62⟩, ⟨g3, #[.slice s.ptr i s.cap, .slice none 0 0], 45⟩, ⟨g2, #[.slice none 0 0, .slice none 0 0], 45⟩, ⟨g1, #[.slice p G.length c, .slice q H.length d], 25⟩] ++ (s.rows 81 ++ [])) M u (ys := [.int .i64 ((((G[i]!).P)[j]!).1), .int .i64 ((((G[i]!).P)[j]!).2)]) (by simp) c2 (sl_row 0 rfl) rfl (by simp [Value.oneCell']) rfl rfl rfl rfl Try.underlying79 (by unfold Elem; kernel_rfl) (by decide) (by unfold maxLen; omega) (by omega) ?_
   intro s16 hs16
   simp only [List.append_assoc, List.cons_append, List.nil_append, Act.put, Xa, Xz, Xs]
   refine wl_val (.pointer (some ⟨g10, 1, none⟩)) rfl (fun _ => by go_simp) ?_
   simp only [Act.put, Xa, Xz, Xs]
   refine wl_store_cell 2 79 (.tmp 39) (.tmp 38) (.slice u.ptr j u.cap) (.slice s16.ptr (j + 1) s16.cap) rfl rfl rfl rfl rfl rfl (by kernel_rfl) rfl ?_
   simp only [Act.put, List.set_cons_zero, List.set_cons_succ]
   refine wl_nil ?_
   refine we_in ?_
   refine we_then ?_
   refine wc_region ?_
   refine wl_val (.int .i64 ((j + 1 : Nat) : Int)) rfl (fun w => run_nat (X := j) (Y := 1) (Z := j + 1) rfl rfl rfl rfl (by omega) w) ?_
   simp only [Act.put, Xa, Xz, Xs]
   refine wl_val (.int .i64 ((j + 1 : Nat) : Int)) rfl (fun _ => rfl) ?_
   simp only [Act.put, Xa, Xz, Xs]
   refine wl_nil ?_
   exact we_meet ⟨(j + 1), s16, _, _, _, _, _, _, _, _, _, _, _, _, _, _, _⟩ (by (try dsimp only); exact ⟨⟨by omega, by rw [take_snoc (G[i]!).P j (by omega)]; exact has_snoc hs16⟩, by omega⟩) rfl (List.Sublist.cons _ (List.Sublist.cons _ (List.Sublist.cons_cons _ (List.Sublist.cons_cons _ (List.Sublist.cons_cons _ (List.Sublist.cons_cons _ (List.Sublist.cons_cons _ (List.Sublist.append_left (List.Sublist.append_left (List.Sublist.refl _) _) _))))))))
end Go.Proofs.Ytkbaponpebkpiaa.Tkrefs14
